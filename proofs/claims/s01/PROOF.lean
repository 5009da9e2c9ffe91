import PyProof.Rows.All
import Wide.All
import OpenK.AllK
import Wide.FinOn
import Open.SpecLaws
import KE.OsGo
import KE.GoesEnum
import HandS.ForSpec
import HandS.ForMost
import HandS.Zip
import HandS.Conv
import HandS.WideBits
import HandS.Evl
import HandS.SortKw
import HandS.More
import KE.DataMinKey
import Kh399Spec
import PyKh399
import PySem.Challenge.RW_partedcases_s01_answers
set_option Elab.async false
set_option linter.all false
set_option maxRecDepth 100000
set_option maxHeartbeats 3000000
/-! ### a call of what a subscript gives -/
namespace Pc
open PySem PySem.Spec PyProof.Rows L2 RZ
/-- the def at f keeps sp, and may be called by its value -/
def Kept (X : Cx) (k : Nat) (f : Addr) (sp : Sp) : Prop :=
  ∃ j fd ps, j ≤ k ∧ FnOk X.prog X.w X.K X.mg X.base CX0 j f fd ps sp ∧ PySem.W.keepIn X.K (.ref f) = true ∧ Binds X.K fd ps []
def tCallE (S : Addr → Sp → Prop) (tf : TE) (t : TA) : TE :=
  fun σ H Q => tf σ H fun v H1 => ∃ f sp, v = .ref f ∧ S f sp ∧ t σ H1 fun vs H2 => sp vs H2 Q E0
theorem pe_callE {X : Cx} {k : Nat} {S : Addr → Sp → Prop} {a b : Expr} {q pos : Pos} {e : Expr} {es : List Expr} {tf : TE} {t : TA}
    (A : ∀ f sp, S f sp → Kept X k f sp) (hr : Room k X.A) (hf : PE X (.Subscript a b q) tf) (ha : PA X (e :: es) t)
    (h1 : starEach (e :: es) X.env = (false, eval e X.env) :: starEach es X.env := by rfl)
    (h2 : (backTo pos (starEach es X.env)).any (·.1) = false := by rfl) :
    PE X (.Call (.Subscript a b q) (e :: es) [] pos) (tCallE S tf t) := by
  constructor
  intro pins s σ H Q I h
  have arm : eval (.Call (.Subscript a b q) (e :: es) [] pos) X.env = (do
    let f ← eval (.Subscript a b q) X.env
    callWith pos f [] (backTo pos (starEach (e :: es) X.env)) (backToKw pos (keywordEach [] X.env))) := rfl
  rw [arm]
  apply wpAny_bind
  refine thn (hf.run pins s σ H _ I h) ?_
  rintro u s1 ⟨v, H1, I1, r1, f, sp, rfl, hS, ht⟩
  obtain ⟨j, fd, ps, hj, F, hk, hb⟩ := A f sp hS
  cases r1
  refine PySem.W.callWith_K (h₀ := X.base) I.ok.mod.kin hk ?_ h1 h2
  refine thn (ha.run pos pins s1 σ _ _ I1 ht) ?_
  rintro us s2 ⟨vs, H2, I2, r, q⟩
  refine ⟨I2.kIn, run_fn (dvs := []) F (hr.mono hj) hb .nil pass0 I2 r ?_⟩
  rw [List.append_nil]
  exact q
/-! ### zip of a tuple and a list -/
theorem each5 {p : Addr → Prop} {a b c d e : Addr} (ha : p a) (hb : p b) (hc : p c) (hd : p d) (he : p e) : ∀ x ∈ [a, b, c, d, e], p x := by
  intro x hx
  simp only [List.mem_cons, or_false, List.not_mem_nil] at hx
  rcases hx with rfl | rfl | rfl | rfl | rfl <;> assumption
theorem none5 {a b c d e x : Addr} (h : x ∉ [a, b, c, d, e]) : x ≠ a ∧ x ≠ b ∧ x ≠ c ∧ x ≠ d ∧ x ≠ e := by
  simpa only [List.mem_cons, List.not_mem_nil, or_false, not_or] using h
theorem not2 {a b x : Addr} (ha : x ≠ a) (hb : x ≠ b) : x ∉ [a, b] := by
  simp only [List.mem_cons, List.not_mem_nil, or_false, not_or]
  exact ⟨ha, hb⟩
/-- the pairs of a tuple at a and a list at b, each pair new -/
def ItzM (K : PySem.W.Frag) (a b : Addr) : It where
  go i H := ∃ xs ys x y, SqT K H a xs ∧ SqL K H b ys ∧ xs[i]? = some x ∧ ys[i]? = some y
  yld i H v H' := ∃ T x y, v = .ref T ∧ H T = none ∧ H' = upd H T (.tup [x, y]) ∧
    (∀ xs, SqT K H a xs → xs[i]? = some x) ∧ ∀ ys, SqL K H b ys → ys[i]? = some y
  stop i H := ∃ xs ys, SqT K H a xs ∧ SqL K H b ys ∧ i ≤ xs.length ∧ i ≤ ys.length ∧ (i = xs.length ∨ i = ys.length)
/-- the five cells of such a zip, ahead of its i-th turn -/
def ZipM (a b z TI TO i1 i2 : Addr) (i : Nat) (h : Heap) : Prop :=
  IsZip h z TI TO .none ∧ IsPair h TI (.ref i1) (.ref i2) ∧ (∃ x y, IsPair h TO x y) ∧ h.IsTupleIter i1 a i ∧ h.IsListIter i2 b i
theorem sep_of {z TI TO i1 i2 a b : Addr} (D : ZipApart z TI TO i1 i2 a b) : ZipSep2 z TI TO i1 i2 [i1, a] [i2, b] :=
  ⟨D.TIz, D.TOz, D.TITO, D.TIi1, .head _, not2 D.i1z.symm D.l1z.symm, not2 D.TOi1 D.l1TO.symm, D.TIi2, .head _,
    not2 D.i2z.symm D.l2z.symm, not2 D.TOi2 D.l2TO.symm, not2 D.i12 D.l2i1.symm, not2 D.i12.symm D.l1i2.symm⟩
theorem zipM_item {P : Program} {w : World} {K : PySem.W.Frag} {elts : List Expr} {kk : Nat} {tpos : Pos} {a b z TI TO i1 i2 : Addr}
    (D : ZipApart z TI TO i1 i2 a b) (X : Cx) (hP : X.prog = P) (hw : X.w = w) (hK : X.K = K) (hc : X.calm = true) (i : Nat)
    (pins : List (Addr × Obj)) (s : Shared) (σ : L2.St) (H : Hp) (E : Value → Shared → Prop) (I : Inv X pins σ H s)
    (hf : ∀ c ∈ [z, TI, TO, i1, i2], FpOk X pins H c) (st : ZipM a b z TI TO i1 i2 i s.heap) (hg : (ItzM K a b).go i H) :
    wpAny (model P w) X.A (pyNext (.ref z)) (fun r s1 => ∃ u, r = some u ∧
      wpAny (model P w) X.A (letOwnedTupleGo (.Tuple elts kk tpos) (.ref z) u) (fun _ s2 => ∃ x H', Inv X pins σ H' s2 ∧ RelV x u ∧
        (ItzM K a b).yld i H x H' ∧ ZipM a b z TI TO i1 i2 (i + 1) s2.heap ∧ ∀ c ∈ [z, TI, TO, i1, i2], H' c = none) E s1) E s := by
  cases hP; cases hw; cases hK
  obtain ⟨cz, cI, ⟨x0, y0, cO⟩, c1, c2⟩ := st
  obtain ⟨xs, ys, x, y, sx, sy, gx, gy⟩ := hg
  obtain ⟨us, rx, tx, -⟩ := I.tuple sx
  obtain ⟨vs, ry, ly, -⟩ := I.list sy
  obtain ⟨u, gu, ru⟩ := rx.get gx
  obtain ⟨v, gv, rv⟩ := ry.get gy
  have low : z < s.heap.objs.size := Heap.lt_size cz
  have calm : X.A.in1.handled = none := I.ok.hd hc
  have n1 : i < us.toArray.size := by simpa using (List.getElem?_eq_some_iff.mp gu).1
  have n2 : i < vs.toArray.size := by simpa using (List.getElem?_eq_some_iff.mp gv).1
  refine wpAny_pyNext_zipD2_item (i := i) (sep_of D) (Draws.tuple (A := X.A.in1) calm i1 a D.l1i1 us.toArray)
    (Draws.list (A := X.A.in1) calm i2 b D.l2i2 vs.toArray) cz cI cO ⟨c1, tx⟩ ⟨c2, ly.isList⟩ n1 n2 ?_
  intro u' v' h' tk pu pv dz dO d1 d2 dT _ dk
  cases (Option.some.inj ((show us[i]? = some u' by simpa using pu).symm.trans gu))
  cases (Option.some.inj ((show vs[i]? = some v' by simpa using pv).symm.trans gv))
  refine ⟨_, rfl, wpAny_letOwnedTupleGo_zip (s := { s with heap := h', toks := tk }) dz ?_⟩
  intro g gz gs
  have gT : g.get? s.heap.objs.size = some { cls := .type "tuple", data := .seq #[u, v] } := (gs.2 _ (Nat.ne_of_gt low)).trans dT
  have kept : ∀ c o, c ∉ [z, TI, TO, i1, i2] → s.heap.get? c = some o → g.get? c = some o := fun c o nc e => by
    obtain ⟨m1, -, m3, m4, m5⟩ := none5 nc
    exact (gs.2 c m1).trans (dk c o m1 m3 m4 m5 e)
  refine ⟨.ref s.heap.objs.size, _, I.turnedNew (t' := tk) kept hf (Nat.le_refl _) (ob := .tup [x, y])
    ⟨by show 2 ≤ sizeLine; decide, [u, v], .cons ru (.cons rv .nil), ⟨_, gT, rfl, _, rfl⟩⟩, rfl, ?_, ?_, ?_⟩
  · exact ⟨_, x, y, rfl, I.hok.fresh (Nat.le_refl _), rfl, fun l q => I.tuple_inj q sx ▸ gx, fun l q => I.list_inj q sy ▸ gy⟩
  · exact ⟨gz, (gs.2 _ D.TIz).trans (dk _ _ D.TIz D.TITO D.TIi1 D.TIi2 cI), ⟨u, v, (gs.2 _ D.TOz).trans dO⟩,
      d1.1.at fun o q => (gs.2 _ D.i1z).trans q, d2.1.at fun o q => (gs.2 _ D.i2z).trans q⟩
  · have below : ∀ c ∈ [z, TI, TO, i1, i2], c < s.heap.objs.size :=
      each5 low (Heap.lt_size cI) (Heap.lt_size cO) (c1.elim fun _ q => Heap.lt_size q.1) (c2.elim fun _ q => Heap.lt_size q.1)
    intro c m
    rw [upd_ne (Nat.ne_of_lt (below c m)), (hf c m).1]
theorem turn_zipM {P : Program} {w : World} {K : PySem.W.Frag} {elts : List Expr} {kk : Nat} {tpos : Pos} {a b z TI TO i1 i2 : Addr} (D : ZipApart z TI TO i1 i2 a b) :
    Turn P w K (.Tuple elts kk tpos) (ItzM K a b) [z, TI, TO, i1, i2] z (ZipM a b z TI TO i1 i2) where
  mem := .head _
  obj := fun i h ⟨cz, cI, ⟨x, y, cO⟩, ⟨o1, e1, _, d1⟩, ⟨o2, e2, _, d2⟩⟩ =>
    each5 ⟨_, cz, fun _ q => by cases q⟩ ⟨_, cI, fun _ q => by cases q⟩ ⟨_, cO, fun _ q => by cases q⟩ ⟨o1, e1, fun _ q => by cases d1.symm.trans q⟩ ⟨o2, e2, fun _ q => by cases d2.symm.trans q⟩
  keep := fun i h h' ⟨cz, cI, ⟨x, y, cO⟩, c1, c2⟩ k =>
    ⟨k _ (by simp) _ cz, k _ (by simp) _ cI, ⟨x, y, k _ (by simp) _ cO⟩, c1.at (k i1 (by simp)), c2.at (k i2 (by simp))⟩
  item := zipM_item D
  done := by
    rintro X rfl rfl rfl hc i pins s σ H E I hf ⟨cz, cI, ⟨x0, y0, cO⟩, c1, c2⟩ ⟨xs, ys, sx, sy, le1, le2, last⟩
    obtain ⟨us, rx, tx, -⟩ := I.tuple sx
    obtain ⟨vs, ry, ly, -⟩ := I.list sy
    have e1 := rx.length
    have e2 := ry.length
    have calm : X.A.in1.handled = none := I.ok.hd hc
    refine wpAny_pyNext_zipD2_end (i := i) (sep_of D) (Draws.tuple (A := X.A.in1) calm i1 a D.l1i1 us.toArray)
      (Draws.list (A := X.A.in1) calm i2 b D.l2i2 vs.toArray) cz cI cO ⟨c1, tx⟩ ⟨c2, ly.isList⟩ (by simp; omega) (by simp; omega) (by simp; omega) ?_
    intro h' tk dk
    refine ⟨rfl, I.turnedL (t' := tk) (fun c o nc e => ?_) hf⟩
    obtain ⟨m1, -, m3, m4, m5⟩ := none5 nc
    exact dk c o m1 m3 m4 m5 e
  self := fun _ _ _ _ _ st => wpAny_pyIter_zip st.1
def iZipM (K : PySem.W.Frag) (ta : TA) : TI := fun σ H R =>
  ta σ H fun vs H1 => ∃ a b xs ys, vs = [.ref a, .ref b] ∧ SqT K H1 a xs ∧ SqL K H1 b ys ∧ R (ItzM K a b) H1
theorem pi_zipM {X : Cx} {e e2 : Expr} {ta : TA} {p pos tpos : Pos} {elts : List Expr} {kk : Nat} (hg : Gl X "zip") (hm : X.mg "zip" = none) (ha : PA X [e, e2] ta)
    (h1 : starEach [e, e2] X.env = (false, eval e X.env) :: starEach [e2] X.env := by rfl)
    (h2 : (backTo pos (starEach [e2] X.env)).any (·.1) = false := by rfl) :
    PI X (.Tuple elts kk tpos) (.Call (.Name "zip" p) [e, e2] [] pos) (iZipM X.K ta) := by
  constructor
  intro pins s σ H R I h
  refine Call_ (ld_blt I hg hm PyProof.Rows.boot_zip (PyProof.Rows.callWith_type1 (thn (ha.run pos pins s σ H _ I h) ?_) h1 h2))
  rintro us g ⟨vs, H1, J, r, a, b, xs, ys, rfl, sx, sy, q⟩
  match r with
  | .cons ra (.cons rb .nil) =>
    cases ra
    cases rb
    obtain ⟨us, rx, tx, -⟩ := J.tuple sx
    obtain ⟨vs, ry, ly, -⟩ := J.list sy
    have la : a < g.heap.objs.size := tx.elim fun _ z => Heap.lt_size z.1
    refine zip_begins2 (begins_tuple a us.toArray) (begins_list b vs.toArray) tx ly.isList ?_
    intro h' dz dI dO d1 d2 _ dk
    have fresh : ∀ n, FpOk X pins H1 (g.heap.objs.size + n) := fun n => J.fpOk (Nat.le_add_right _ _) (J.hok.fresh (Nat.le_add_right _ _))
    refine wpAny_pyIter_zip dz ⟨_, _, _, _, H1, rfl, J.kept (t' := g.toks) dk, turn_zipM (PySem.W.ktu_apart g.heap.objs.size a b la ly.lt), ?_, ?_, q⟩
    · exact ⟨dz, dI, ⟨_, _, dO⟩, ⟨_, d1, rfl, rfl⟩, ⟨_, d2, rfl, rfl⟩⟩
    · exact each5 (fresh 4) (fresh 2) (fresh 3) (fresh 0) (fresh 1)
/-- a loop over such a zip, both of one length: W of the turn, the slots, the heap -/
theorem for_zipM {K : PySem.W.Frag} {a b : Addr} {xs ys : List V} {g : TG} {tb : TS} {D : Ends} {σ : L2.St} {H : Hp} {ta : TA}
    (hl : xs.length = ys.length) (W : Nat → L2.St → Hp → Prop) (ht : Evl.EvA ta σ H [.ref a, .ref b]) (h0 : ∀ H1, Evl.Ex H H1 → W 0 σ H1)
    (hq : ∀ i σ H, W i σ H → SqT K H a xs ∧ SqL K H b ys)
    (hs : ∀ i x y T σ H, xs[i]? = some x → ys[i]? = some y → W i σ H → H T = none →
      g (.ref T) σ (upd H T (.tup [x, y])) fun σ2 H2 => tb { D with nx := W (i + 1), ct := W (i + 1), bk := D.nx } σ2 H2)
    (hd : ∀ σ H, W xs.length σ H → D.nx σ H) : tFor (iZipM K ta) g tb D σ H := by
  refine ht H (Evl.Ex.refl H) _ fun H1 e1 => ?_
  have w0 := h0 H1 e1
  obtain ⟨sx, sy⟩ := hq 0 σ H1 w0
  refine ⟨a, b, xs, ys, rfl, sx, sy, fun i m σ H => m + i = xs.length ∧ W i σ H, ⟨xs.length, by omega, w0⟩, ?_⟩
  rintro i m σ H ⟨hm, p⟩
  obtain ⟨qx, qy⟩ := hq i σ H p
  cases m with
  | zero => exact .inl ⟨⟨xs, ys, qx, qy, by omega, by omega, .inl (by omega)⟩, hd σ H (by rw [show xs.length = i by omega]; exact p)⟩
  | succ m =>
    have gx := List.getElem?_eq_getElem (l := xs) (i := i) (by omega)
    have gy := List.getElem?_eq_getElem (l := ys) (i := i) (by omega)
    refine .inr ⟨⟨xs, ys, _, _, qx, qy, gx, gy⟩, W (i + 1), fun _ _ p' => ⟨m, by omega, by omega, p'⟩, ?_⟩
    rintro v H' ⟨T, u, w, rfl, hT, rfl, fx, fy⟩
    exact hs i u w T σ H (fx xs qx) (fy ys qy) p hT
end Pc


set_option Elab.async false
set_option linter.all false
set_option maxRecDepth 100000
set_option maxHeartbeats 3000000
/-! min(xs, key=f), f a def of the program that only looks. -/
namespace Pc
open PySem PySem.Spec PyProof.Rows L2 Evl
/-- the place found: the least, of like ones the first -/
theorem best_first (kf : Nat → Int) : ∀ k, argBest (fun i j => decide (kf i < kf j)) k ≤ k ∧
    ∀ j, j ≤ k → kf (argBest (fun i j => decide (kf i < kf j)) k) ≤ kf j ∧ (j < argBest (fun i j => decide (kf i < kf j)) k → kf (argBest (fun i j => decide (kf i < kf j)) k) < kf j)
  | 0 => ⟨Nat.le_refl _, fun j hj => by
      have e : j = 0 := by omega
      subst e
      exact ⟨Int.le_refl _, fun h => absurd h (Nat.lt_irrefl _)⟩⟩
  | k + 1 => by
    obtain ⟨h1, h2⟩ := best_first kf k
    by_cases c : kf (k + 1) < kf (argBest (fun i j => decide (kf i < kf j)) k)
    · have e : argBest (fun i j => decide (kf i < kf j)) (k + 1) = k + 1 := by
        show (if decide (kf (k + 1) < kf (argBest (fun i j => decide (kf i < kf j)) k)) = true then _ else _) = _
        rw [if_pos (decide_eq_true c)]
      rw [e]
      refine ⟨Nat.le_refl _, fun j hj => ?_⟩
      rcases Nat.lt_or_ge k j with z | z
      · have e : j = k + 1 := by omega
        subst e
        exact ⟨Int.le_refl _, fun h => absurd h (Nat.lt_irrefl _)⟩
      · have := (h2 j z).1
        exact ⟨by omega, fun _ => by omega⟩
    · have e : argBest (fun i j => decide (kf i < kf j)) (k + 1) = argBest (fun i j => decide (kf i < kf j)) k := by
        show (if decide (kf (k + 1) < kf (argBest (fun i j => decide (kf i < kf j)) k)) = true then _ else _) = _
        rw [if_neg (by rw [decide_eq_true_eq]; exact c)]
      rw [e]
      refine ⟨by omega, fun j hj => ?_⟩
      rcases Nat.lt_or_ge k j with z | z
      · have e : j = k + 1 := by omega
        subst e
        exact ⟨by omega, fun h => by omega⟩
      · exact h2 j z
/-- a list of ints walked, their marks aside -/
theorem walks_ints {prog : Program} {w : World} {A : Around} (hh : A.handled = none) (it a : Addr) (hne : a ≠ it) (ns : List Int) :
    WalksS prog w A it [it, a] [it] (fun x y => y = x) ns.length (fun i v => ∃ n t, ns[i]? = some n ∧ v = .int n t)
      (fun i s => s.heap.IsListIter it a i ∧ ∃ its : List Value, IntsAre its ns ∧ s.heap.IsList a its.toArray) where
  sub := fun b hb => by simp at hb; simp [hb]
  grefl := fun _ => rfl
  gtrans := fun _ _ _ h1 h2 => h2.trans h1
  frame := fun i s h' tk ⟨h1, its, hi, h2⟩ _ hk => ⟨h1.at fun o e => hk it (by simp) o e, its, hi, h2.at fun o e => hk a (by simp) o e⟩
  item := fun i s Q E hi ⟨h1, its, hints, h2⟩ hQ => by
    have len := hints.length
    refine ((Walks.list (prog := prog) (w := w) (A := A) hh it a hne its.toArray).toS).item i s Q E (by rw [List.size_toArray]; omega) ⟨h1, h2⟩ fun v s' hP st' hm => ?_
    obtain ⟨t, ht⟩ := hints.get i ns[i] (List.getElem?_eq_getElem hi)
    have hv : its[i]? = some v := by simpa using hP
    rw [ht] at hv
    exact hQ v s' ⟨ns[i], t, List.getElem?_eq_getElem hi, (Option.some.inj hv).symm⟩ ⟨st'.1, its, hints, st'.2⟩ hm
  done := fun s Q E ⟨h1, its, hints, h2⟩ hQ => by
    have len := hints.length
    have sz : its.toArray.size = ns.length := by rw [List.size_toArray]; omega
    exact ((Walks.list (prog := prog) (w := w) (A := A) hh it a hne its.toArray).toS).done s Q E ⟨by rw [sz]; exact h1, h2⟩ hQ
  self := fun _ _ _ _ ⟨h1, _⟩ hQ => wpAny_pyIter_listiter h1 hQ
def rMinKey (K : PySem.W.Frag) (f : Addr) (sp : Sp) : List V → List V → Hp → VK → Prop := fun vs zs H Q =>
  ∃ (a : Addr) (ns : List Int) (g : Int → Int), vs = [V.ref a] ∧ zs = [V.ref f] ∧ SqL K H a (ns.map V.int) ∧ 0 < ns.length ∧
    (∀ n ∈ ns, SpV sp [.int n] H (.int (g n))) ∧
    ∀ (i : Nat) (n : Int) (H' : Hp), ns[i]? = some n → (∀ (j : Nat) (m : Int), ns[j]? = some m → g n ≤ g m ∧ (j < i → g n < g m)) → Ex H H' → Q (.int n) H'
theorem cr_minKey {X : Cx} {k : Nat} {f : Addr} {sp : Sp} (hc : X.calm = true) (Fn : FnR X.prog X.w X.K X.mg X.base CX0 k f sp) (hr : Room (k + 1) X.A) :
    CallRK X (.builtin "min") [Str.ofString "key"] (rMinKey X.K f sp) := by
  intro pins s σ H vs zs us ws Q I r rz h
  obtain ⟨a, ns, g, rfl, rfl, hs, hpos, hsp, q⟩ := h
  obtain rfl := Vals.ref1 r
  obtain rfl := Vals.ref1 rz
  obtain ⟨its, rv, hl, hz⟩ := I.list hs
  show wpAny _ _ (call (.builtin "min") [.ref a] [(Str.ofString "key", .ref f)]) _ _ s
  have la : a < s.heap.objs.size := hl.lt
  have hh : X.A.in1.handled = none := I.ok.hd hc
  refine call_min_walkK (wpAny_pyIter_list hl.isList ?_)
  have szS : (s.heap.push { cls := .type "list_iterator", data := .fields #[.ref a, .int 0 0] }).objs.size = s.heap.objs.size + 1 := Heap.size_push ..
  have hit : (s.heap.push { cls := .type "list_iterator", data := .fields #[.ref a, .int 0 0] }).IsListIter s.heap.objs.size a 0 := ⟨_, Heap.get?_push_size _ rfl, rfl, rfl⟩
  have I0 : Inv X pins σ H { s with heap := s.heap.push { cls := .type "list_iterator", data := .fields #[.ref a, .int 0 0] } } := I.kept (t' := s.toks) fun b o e => Heap.get?_push_of_some _ e
  have fI : FpOk X pins H s.heap.objs.size := I.fpOk (Nat.le_refl _) (I.hok.fresh (Nat.le_refl _))
  have fS : FpOk X pins H (s.heap.objs.size + 1) := I.fpOk (Nat.le_succ _) (I.hok.fresh (Nat.le_succ _))
  have stk : ∀ b, FpOk X pins H b → b ∉ frs X.stack := fun b fb hb => by
    rcases List.mem_cons.mp (I.stkSub b hb) with e | e
    · exact fb.2.1 e
    · exact fb.2.2.1 e
  rw [szS]
  refine ⟨s.heap.objs.size, [s.heap.objs.size, a], [s.heap.objs.size], fun x y => y = x, ns.length, fun i v => ∃ n t, ns[i]? = some n ∧ v = .int n t,
    fun i s => s.heap.IsListIter _ a i ∧ ∃ its : List Value, IntsAre its ns ∧ s.heap.IsList a its.toArray,
    fun s' => ∃ H', Inv X pins σ H' s' ∧ Ex H H' ∧ H' s.heap.objs.size = none ∧ H' (s.heap.objs.size + 1) = none,
    fun i z _ => ∃ t, z = .int (g (ns.getD i 0)) t, fun i j => decide (g (ns.getD i 0) < g (ns.getD j 0)), rfl, walks_ints hh _ a (Nat.ne_of_lt la) ns,
    ⟨hit, its, rv.ints, hl.isList.push _⟩, ?_, hpos, ?_, ⟨H, I0, Ex.refl H, fI.1, fS.1⟩, ?_⟩
  · intro b hb
    have hsz : s.heap.objs.size < s.heap.objs.size + 1 := Nat.lt_succ_self _
    rcases List.mem_cons.mp hb with e | hb
    · rw [e]
      exact hsz
    · rw [List.mem_singleton.mp hb]
      exact Nat.lt_trans la hsz
  · refine ⟨?_, fun _ _ _ _ h _ => h, ?_, ?_⟩
    · rintro s1 s2 ⟨H1, I1, e1, n1, n2⟩ hm
      refine ⟨H1, ?_, e1, n1, n2⟩
      rw [Moved.eq_with hm]
      refine I1.turnedL (t' := s2.toks) (ch := [s.heap.objs.size + 1, s.heap.objs.size]) hm.heap fun b hb => ?_
      rcases List.mem_cons.mp hb with e | hb
      · rw [e]
        exact ⟨n2, fS.2⟩
      · rw [List.mem_singleton.mp hb]
        exact ⟨n1, fI.2⟩
    · rintro i v s1 o Q1 E1 hi ⟨n, t, gn, rfl⟩ ⟨H1, I1, e1, n1, n2⟩ ⟨st1, _⟩ hS hQ
      have dn : ns.getD i 0 = n := by rw [List.getD_eq_getElem?_getD, gn]; rfl
      refine wpAny_call (codeAny_mono (Fn X.A.in1 X.stack s1 H1 [.int n t] [.int n] (fun z H2 => z = .int (g n) ∧ Ex H1 H2) E0 hr.in1 I1.env0.in1 (.cons ⟨_, rfl⟩ .nil)
        (hsp n (List.mem_of_getElem? gn) H1 e1 _ (fun H2 e2 => ⟨rfl, e2⟩) E0)) fun rr s2 hrr => ?_)
      cases rr with
      | error e => exact False.elim hrr
      | ok fl =>
        cases fl with
        | next => exact False.elim hrr
        | brk => exact False.elim hrr
        | cont => exact False.elim hrr
        | ret u =>
          obtain ⟨z, H2, os, bare, un, hok, rz, ez, e2⟩ := (show CE X.stack X.prog X.w H1 _ _ u s2 from hrr)
          subst ez
          obtain ⟨t2, rfl⟩ := rz
          have I2 : Inv X pins σ H2 s2 := I1.call' os un hok bare fun b y => absurd y List.not_mem_nil
          obtain ⟨oI, hoI, hcI, hdI⟩ := st1
          have m1 : H2 s.heap.objs.size = none := un.free _ oI hoI n1 List.not_mem_nil
          have m2 : H2 (s.heap.objs.size + 1) = none := un.free _ o hS n2 List.not_mem_nil
          obtain ⟨its2, rv2, hl2, _⟩ := I2.list (ex_l (e1.trans e2) hs)
          exact hQ _ s2 ⟨H2, I2, e1.trans e2, m1, m2⟩ ⟨⟨oI, un.keep _ oI hoI n1 (stk _ fI) List.not_mem_nil, hcI, hdI⟩, its2, rv2.ints, hl2.isList⟩
            (un.keep _ o hS n2 (stk _ fS) List.not_mem_nil) ⟨t2, by rw [dn]⟩ fun _ _ h => h
    · rintro i j ki kj s1 Q1 E1 _ hi hj h
      exact CmpOf.ints_lt (prog := X.prog) (w := X.w) (A := X.A.in1) (P := fun i v => ∃ t, v = .int (g (ns.getD i 0)) t) (fun i => g (ns.getD i 0)) (fun _ _ z => z) i j _ _ _ _ _ hi hj h
  · rintro v s1 ⟨n, t, gn, rfl⟩ ⟨H1, I1, e1, _, _⟩
    obtain ⟨b1, b2⟩ := best_first (fun i => g (ns.getD i 0)) (ns.length - 1)
    refine ⟨.int n, H1, I1, ⟨t, rfl⟩, q _ n H1 gn (fun j m gm => ?_) e1⟩
    have dn : ns.getD (argBest (fun i j => decide (g (ns.getD i 0) < g (ns.getD j 0))) (ns.length - 1)) 0 = n := by rw [List.getD_eq_getElem?_getD, gn]; rfl
    have dm : ns.getD j 0 = m := by rw [List.getD_eq_getElem?_getD, gm]; rfl
    have jl := (List.getElem?_eq_some_iff.mp gm).1
    have := b2 j (by omega)
    simp only [dn, dm] at this
    exact this
end Pc


set_option Elab.async false
set_option linter.all false
/-! The mathematics: sets as numbers, ways, sizes; plain Lean over the specification alone. -/
namespace Pm
open Kh399
/-! ### sets of cases by their bits -/
def num (f : Nat → Bool) (n : Nat) : Nat := (List.range n).foldl (fun t i => t + (if f i then 2 ^ i else 0)) 0
theorem num_succ (f : Nat → Bool) (n : Nat) : num f (n + 1) = num f n + (if f n then 2 ^ n else 0) := by
  unfold num
  rw [List.range_succ, List.foldl_append]
  rfl
theorem num_lt (f : Nat → Bool) : ∀ n, num f n < 2 ^ n
  | 0 => Nat.one_pos
  | n + 1 => by
    have h := num_lt f n
    rw [num_succ, Nat.pow_succ]
    split <;> omega
theorem num_bit (f : Nat → Bool) (i : Nat) : ∀ n, (num f n).testBit i = (decide (i < n) && f i)
  | 0 => by simp [num]
  | n + 1 => by
    have ih := num_bit f i n
    have lt := num_lt f n
    rw [num_succ]
    by_cases c : f n = true
    · rw [if_pos c, Nat.add_comm]
      rcases Nat.lt_trichotomy i n with h | h | h
      · rw [Nat.testBit_two_pow_add_gt h, ih]
        simp [h, Nat.lt_succ_of_lt h]
      · subst h
        rw [Nat.testBit_two_pow_add_eq, Nat.testBit_lt_two_pow lt]
        simp [c]
      · have big : 2 ^ n + num f n < 2 ^ i := by
          have : 2 ^ (n + 1) ≤ 2 ^ i := Nat.pow_le_pow_right (by decide) h
          rw [Nat.pow_succ] at this
          omega
        rw [Nat.testBit_lt_two_pow big]
        simp [Nat.not_lt.mpr h]
    · rw [if_neg c, Nat.add_zero, ih]
      rcases Nat.lt_trichotomy i n with h | h | h
      · simp [h, Nat.lt_succ_of_lt h]
      · subst h
        simp [c]
      · simp [Nat.not_lt.mpr h, Nat.not_lt.mpr (Nat.le_of_lt h)]
theorem has_bit (s i : Nat) : has s i = s.testBit i := by
  unfold has
  rw [Nat.testBit_eq_decide_div_mod_eq]
  rfl
theorem bit_off {s n i : Nat} (h : s < 2 ^ n) (hi : ¬ i < n) : s.testBit i = false :=
  Nat.testBit_lt_two_pow (Nat.lt_of_lt_of_le h (Nat.pow_le_pow_right (by decide) (Nat.not_lt.mp hi)))
theorem meet_and {a : Abs} {x : Nat} (y : Nat) (hx : x < 2 ^ a.n) : meet a x y = x &&& y := by
  apply Nat.eq_of_testBit_eq
  intro i
  have e : (meet a x y).testBit i = (decide (i < a.n) && (has x i && has y i)) := num_bit _ i a.n
  rw [e, has_bit, has_bit, Nat.testBit_and]
  by_cases h : i < a.n
  · simp [h]
  · simp [h, bit_off hx h]
theorem wrong_xor {a : Abs} {x : Nat} (hx : x < 2 ^ a.n) (ht : a.truth < 2 ^ a.n) : wrong a x = x ^^^ a.truth := by
  apply Nat.eq_of_testBit_eq
  intro i
  have e : (wrong a x).testBit i = (decide (i < a.n) && (has x i != has a.truth i)) := num_bit _ i a.n
  rw [e, has_bit, has_bit, Nat.testBit_xor]
  by_cases h : i < a.n
  · simp [h]
  · simp [h, bit_off hx h, bit_off ht h]
/-! ### how many -/
/-- of the first m -/
def cnt (s m : Nat) : Nat := ((List.range m).filter (has s)).length
theorem cnt_succ (s m : Nat) : cnt s (m + 1) = cnt s m + (if has s m then 1 else 0) := by
  unfold cnt
  rw [List.range_succ, List.filter_append, List.length_append, List.filter_cons]
  split <;> rfl
theorem cnt_up {s m : Nat} (h : s < 2 ^ m) : ∀ d, cnt s (m + d) = cnt s m
  | 0 => rfl
  | d + 1 => by
    rw [← Nat.add_assoc, cnt_succ, cnt_up h d, has_bit, bit_off h (by omega)]
    rfl
theorem cnt_eq {s m n : Nat} (hm : s < 2 ^ m) (hn : s < 2 ^ n) : cnt s m = cnt s n := by
  rcases Nat.le_total m n with h | h
  · rw [show n = m + (n - m) by omega, cnt_up hm]
  · rw [show m = n + (m - n) by omega, cnt_up hn]
/-- of eight cases -/
def sz (s : Nat) : Nat := cnt s 8
theorem size_sz {a : Abs} {s : Nat} (h8 : a.n ≤ 8) (h : s < 2 ^ a.n) : size a s = sz s :=
  cnt_eq (m := a.n) (n := 8) h (Nat.lt_of_lt_of_le h (Nat.pow_le_pow_right (by decide) h8))
theorem cnt_le (s : Nat) : ∀ m, cnt s m ≤ m
  | 0 => Nat.le_refl _
  | m + 1 => by
    have := cnt_le s m
    rw [cnt_succ]
    split <;> omega
theorem sz_le {s n : Nat} (h8 : n ≤ 8) (h : s < 2 ^ n) : sz s ≤ n := by
  have e : sz s = cnt s n := cnt_eq (Nat.lt_of_lt_of_le h (Nat.pow_le_pow_right (by decide) h8)) h
  rw [e]
  exact cnt_le s n
/-- as the sum of the bits -/
theorem cnt_sum (s : Nat) : ∀ m, ((List.range m).map fun i => s / 2 ^ i % 2).sum = cnt s m
  | 0 => rfl
  | m + 1 => by
    rw [cnt_succ, ← cnt_sum s m, List.range_succ, List.map_append, List.sum_append]
    have h : s / 2 ^ m % 2 = if has s m then 1 else 0 := by
      unfold has
      split
      · rename_i c
        simpa using c
      · rename_i c
        have c' : ¬ s / 2 ^ m % 2 = 1 := by simpa using c
        omega
    simp [h]
/-! ### the sets of k cases -/
def setsN (n k : Nat) : List Nat := (List.range (2 ^ n)).filter fun s => sz s == k
theorem sets_N {a : Abs} (h8 : a.n ≤ 8) (k : Nat) : sets a k = setsN a.n k := by
  unfold sets setsN
  apply List.filter_congr
  intro s hs
  rw [size_sz h8 (List.mem_range.mp hs)]
theorem setsN_mem {n k s : Nat} : s ∈ setsN n k ↔ s < 2 ^ n ∧ sz s = k := by
  unfold setsN
  rw [List.mem_filter, List.mem_range]
  simp
/-! ### the ways a set is parted -/
def wayStep (s : Nat) (acc : List Nat) (g : Nat) : List Nat := if acc.contains (g &&& s) then acc else acc ++ [g &&& s]
def pways (gs : List Nat) (s : Nat) : List Nat := gs.foldl (wayStep s) []
theorem pways_snoc (gs : List Nat) (g s : Nat) : pways (gs ++ [g]) s = wayStep s (pways gs s) g := by
  unfold pways
  rw [List.foldl_append]
  rfl
theorem dups_snoc (l : List Nat) (x : Nat) : (l ++ [x]).eraseDups = if l.eraseDups.contains x then l.eraseDups else l.eraseDups ++ [x] := by
  rw [List.eraseDups_append]
  have e : l.eraseDups.contains x = l.contains x := by
    rw [Bool.eq_iff_iff]
    simp
  rw [e]
  unfold List.removeAll
  by_cases c : l.contains x
  · have c' : x ∈ l := by simpa using c
    rw [if_pos c]
    simp [c']
  · have c' : ¬ x ∈ l := by simpa using c
    rw [if_neg c]
    simp [c']
    rfl
theorem pways_dups (s : Nat) (gs : List Nat) : pways gs s = (gs.map (· &&& s)).eraseDups := by
  have key : ∀ l : List Nat, pways l.reverse s = (l.reverse.map (· &&& s)).eraseDups := by
    intro l
    induction l with
    | nil => rfl
    | cons x r ih =>
      rw [List.reverse_cons, pways_snoc, ih, List.map_append, List.map_cons, List.map_nil, dups_snoc]
      rfl
  have k := key gs.reverse
  rw [List.reverse_reverse] at k
  exact k
theorem ways_pways {a : Abs} {s : Nat} (h : s < 2 ^ a.n) : ways a s = pways a.guesses s := by
  unfold ways
  rw [pways_dups]
  congr 1
  apply List.map_congr_left
  intro g _
  rw [meet_and g h, Nat.and_comm]
theorem pways_le (gs : List Nat) (s : Nat) : (pways gs s).length ≤ gs.length := by
  have key : ∀ l : List Nat, (pways l.reverse s).length ≤ l.reverse.length := by
    intro l
    induction l with
    | nil => exact Nat.le_refl _
    | cons x r ih =>
      rw [List.reverse_cons, pways_snoc, List.length_append]
      unfold wayStep
      split
      · exact Nat.le_succ_of_le ih
      · rw [List.length_append]
        exact Nat.add_le_add_right ih 1
  have k := key gs.reverse
  rw [List.reverse_reverse] at k
  exact k
/-- in every way -/
def pev (gs : List Nat) (s : Nat) : Bool := (pways gs s).length == 2 ^ sz s
theorem every_pev {a : Abs} {s : Nat} (h8 : a.n ≤ 8) (h : s < 2 ^ a.n) : every a s = pev a.guesses s := by
  unfold every pev
  rw [ways_pways h, size_sz h8 h]
end Pm


set_option Elab.async false
set_option linter.all false
namespace Pm
open Kh399
/-! ### greatest -/
theorem fold_max : ∀ (l : List Nat) (a : Nat), (∀ x ∈ l, x ≤ l.foldl max a) ∧ a ≤ l.foldl max a ∧ (l.foldl max a = a ∨ l.foldl max a ∈ l)
  | [], a => ⟨(fun x hx => by cases hx), Nat.le_refl _, Or.inl rfl⟩
  | b :: r, a => by
    obtain ⟨h1, h2, h3⟩ := fold_max r (max a b)
    rw [List.foldl_cons]
    refine ⟨fun x hx => ?_, Nat.le_trans (Nat.le_max_left a b) h2, ?_⟩
    · rcases List.mem_cons.mp hx with rfl | hx
      · exact Nat.le_trans (Nat.le_max_right a x) h2
      · exact h1 x hx
    · rcases h3 with h | h
      · rw [h]
        rcases Nat.le_total a b with c | c
        · rw [Nat.max_eq_right c]
          exact .inr (List.mem_cons_self ..)
        · rw [Nat.max_eq_left c]
          exact .inl rfl
      · exact .inr (List.mem_cons_of_mem _ h)
theorem max_in {l : List Nat} (h : l ≠ []) : l.foldl max 0 ∈ l := by
  obtain ⟨h1, _, h3⟩ := fold_max l 0
  rcases h3 with q | q
  · cases l with
    | nil => exact absurd rfl h
    | cons b r =>
      have := h1 b (List.mem_cons_self ..)
      rw [q] at this ⊢
      have e : b = 0 := by omega
      rw [e]
      exact List.mem_cons_self ..
  · exact q
theorem max_le {l : List Nat} {x : Nat} (h : x ∈ l) : x ≤ l.foldl max 0 := (fold_max l 0).1 x h
theorem max_is {l : List Nat} {m : Nat} (h : m ∈ l) (g : ∀ x ∈ l, x ≤ m) : l.foldl max 0 = m :=
  Nat.le_antisymm (g _ (max_in fun e => by rw [e] at h; cases h)) (max_le h)
/-! ### there is a set of k cases -/
theorem cnt_ones (k : Nat) : ∀ m, m ≤ k → cnt (2 ^ k - 1) m = m
  | 0, _ => rfl
  | m + 1, h => by
    rw [cnt_succ, cnt_ones k m (by omega), has_bit, Nat.testBit_two_pow_sub_one]
    simp [show m < k by omega]
theorem sz_ones {k : Nat} (h : k ≤ 8) : sz (2 ^ k - 1) = k := by
  have p : 2 ^ k - 1 < 2 ^ k := Nat.sub_lt (Nat.two_pow_pos k) Nat.one_pos
  rw [show sz (2 ^ k - 1) = cnt (2 ^ k - 1) k from cnt_eq (Nat.lt_of_lt_of_le p (Nat.pow_le_pow_right (by decide) h)) p]
  exact cnt_ones k k (Nat.le_refl _)
theorem setsN_some {n k : Nat} (h8 : n ≤ 8) (h : k ≤ n) : setsN n k ≠ [] := fun e => by
  have p : 2 ^ k - 1 < 2 ^ n := Nat.lt_of_lt_of_le (Nat.sub_lt (Nat.two_pow_pos k) Nat.one_pos) (Nat.pow_le_pow_right (by decide) h)
  have := setsN_mem.mpr ⟨p, sz_ones (Nat.le_trans h h8)⟩
  rw [e] at this
  cases this
/-! ### growth -/
def pgrow (n k : Nat) (gs : List Nat) : Nat := ((setsN n k).map fun s => (pways gs s).length).foldl max 0
theorem growth_p {a : Abs} (h8 : a.n ≤ 8) (k : Nat) : growth a k = pgrow a.n k a.guesses := by
  unfold growth pgrow
  rw [sets_N h8]
  congr 1
  apply List.map_congr_left
  intro s hs
  rw [ways_pways (setsN_mem.mp hs).1]
/-! ### depth -/
def evs (n : Nat) (gs : List Nat) : List Nat := (List.range (2 ^ n)).filter (pev gs)
def pdep (n : Nat) (gs : List Nat) : Nat := ((evs n gs).map sz).foldl max 0
theorem evs_mem {n s : Nat} {gs : List Nat} : s ∈ evs n gs ↔ s < 2 ^ n ∧ pev gs s = true := by
  unfold evs
  rw [List.mem_filter, List.mem_range]
theorem and_zero_ways : ∀ gs : List Nat, gs ≠ [] → pways gs 0 = [0] := by
  intro gs h
  rw [pways_dups]
  have e : gs.map (· &&& 0) = List.replicate gs.length 0 := by
    rw [List.eq_replicate_iff]
    refine ⟨List.length_map .., fun b hb => ?_⟩
    obtain ⟨x, _, rfl⟩ := List.mem_map.mp hb
    exact Nat.and_zero x
  rw [e]
  have p : ∀ n, (List.replicate (n + 1) 0).eraseDups = [0] := by
    intro n
    induction n with
    | zero => rfl
    | succ n ih =>
      rw [List.replicate_succ', dups_snoc, ih]
      rfl
  cases gs with
  | nil => exact absurd rfl h
  | cons b r => exact p r.length
theorem pev_zero {gs : List Nat} (h : gs ≠ []) : pev gs 0 = true := by
  unfold pev
  rw [and_zero_ways gs h]
  decide
theorem evs_zero {n : Nat} {gs : List Nat} (h : gs ≠ []) : 0 ∈ evs n gs := evs_mem.mpr ⟨Nat.two_pow_pos n, pev_zero h⟩
theorem find_top {p : Nat → Bool} {d : Nat} : ∀ n, d ≤ n → p d = true → (∀ k, d < k → k ≤ n → p k = false) → ((List.range (n + 1)).reverse).find? p = some d
  | 0, hd, hp, _ => by
    have e : d = 0 := by omega
    subst e
    show List.find? p [0] = some 0
    rw [List.find?_cons, hp]
  | n + 1, hd, hp, ht => by
    rw [List.range_succ, List.reverse_append]
    show (List.find? p ((n + 1) :: (List.range (n + 1)).reverse)) = some d
    rw [List.find?_cons]
    by_cases c : d = n + 1
    · subst c
      rw [hp]
    · rw [ht (n + 1) (by omega) (Nat.le_refl _)]
      exact find_top n (by omega) hp fun k h1 h2 => ht k h1 (by omega)
theorem any_sets {a : Abs} (h8 : a.n ≤ 8) (k : Nat) : (sets a k).any (every a) = true ↔ ∃ s, s < 2 ^ a.n ∧ sz s = k ∧ pev a.guesses s = true := by
  rw [List.any_eq_true, sets_N h8]
  constructor
  · rintro ⟨s, hs, he⟩
    obtain ⟨h1, h2⟩ := setsN_mem.mp hs
    exact ⟨s, h1, h2, by rw [← every_pev h8 h1]; exact he⟩
  · rintro ⟨s, h1, h2, h3⟩
    exact ⟨s, setsN_mem.mpr ⟨h1, h2⟩, by rw [every_pev h8 h1]; exact h3⟩
theorem depth_some {a : Abs} (h8 : a.n ≤ 8) (h : a.guesses ≠ []) : depth a = some (pdep a.n a.guesses) := by
  have z : sz 0 ∈ (evs a.n a.guesses).map sz := List.mem_map.mpr ⟨0, evs_zero h, rfl⟩
  have hi : pdep a.n a.guesses ∈ (evs a.n a.guesses).map sz := max_in fun e => by rw [e] at z; cases z
  obtain ⟨s, hs, e⟩ := List.mem_map.mp hi
  obtain ⟨h1, h2⟩ := evs_mem.mp hs
  unfold depth
  refine find_top a.n (by rw [← e]; exact sz_le h8 h1) ((any_sets h8 _).mpr ⟨s, h1, e, h2⟩) fun k hk _ => ?_
  rw [Bool.eq_false_iff]
  intro q
  obtain ⟨s', h1', h2', h3'⟩ := (any_sets h8 _).mp q
  have := max_le (List.mem_map.mpr ⟨s', evs_mem.mpr ⟨h1', h3'⟩, rfl⟩ : sz s' ∈ (evs a.n a.guesses).map sz)
  unfold pdep at hk
  omega
theorem depth_none {a : Abs} (h8 : a.n ≤ 8) (h : a.guesses = []) : depth a = none := by
  unfold depth
  rw [List.find?_eq_none]
  intro k _ q
  obtain ⟨s, h1, _, h3⟩ := (any_sets h8 _).mp q
  rw [h] at h3
  unfold pev at h3
  have e : (pways [] s).length = 0 := rfl
  rw [e, beq_iff_eq] at h3
  have := Nat.two_pow_pos (sz s)
  omega
/-- the deepest, rising -/
theorem deep_l {a : Abs} (h8 : a.n ≤ 8) (d : Nat) : (sets a d).filter (every a) = (setsN a.n d).filter (pev a.guesses) := by
  rw [sets_N h8]
  apply List.filter_congr
  intro s hs
  rw [every_pev h8 (setsN_mem.mp hs).1]
/-! ### the first of the greatest -/
def fmStep (r : Option (Nat × Nat)) (x : Nat × Nat) : Option (Nat × Nat) := match r with
  | none => some x
  | some y => if y.2 < x.2 then some x else r
theorem first_snoc (l : List (Nat × Nat)) (x : Nat × Nat) : firstMost (l ++ [x]) = fmStep (firstMost l) x := by
  unfold firstMost
  rw [List.foldl_append]
  rfl
theorem first_is (l : List (Nat × Nat)) (h : l ≠ []) : ∃ (j : Nat) (x : Nat × Nat), l[j]? = some x ∧ firstMost l = some x ∧ (∀ (i : Nat) (y : Nat × Nat), i < j → l[i]? = some y → y.2 < x.2) ∧ ∀ (i : Nat) (y : Nat × Nat), l[i]? = some y → y.2 ≤ x.2 := by
  have key : ∀ r : List (Nat × Nat), r ≠ [] → ∃ (j : Nat) (x : Nat × Nat), r.reverse[j]? = some x ∧ firstMost r.reverse = some x ∧ (∀ (i : Nat) (y : Nat × Nat), i < j → r.reverse[i]? = some y → y.2 < x.2) ∧ ∀ (i : Nat) (y : Nat × Nat), r.reverse[i]? = some y → y.2 ≤ x.2 := by
    intro r
    induction r with
    | nil => exact fun h => absurd rfl h
    | cons z r ih =>
      intro _
      rw [List.reverse_cons, first_snoc]
      by_cases c : r = []
      · subst c
        refine ⟨0, z, rfl, rfl, fun i y hi => by omega, fun i y hi => ?_⟩
        match i, hi with
        | 0, hi => cases hi; exact Nat.le_refl _
      · obtain ⟨j, x, g, f, lo, le⟩ := ih c
        have jl : j < r.reverse.length := (List.getElem?_eq_some_iff.mp g).1
        rw [f]
        by_cases d : x.2 < z.2
        · refine ⟨r.reverse.length, z, List.getElem?_concat_length, if_pos d, fun i y hi gi => ?_, fun i y gi => ?_⟩
          · rw [List.getElem?_append_left hi] at gi
            have := le i y gi
            omega
          · rcases Nat.lt_or_ge i r.reverse.length with hi | hi
            · rw [List.getElem?_append_left hi] at gi
              have := le i y gi
              omega
            · have e : i = r.reverse.length := by
                have := (List.getElem?_eq_some_iff.mp gi).1
                rw [List.length_append] at this
                simp at this hi ⊢
                omega
              subst e
              rw [List.getElem?_concat_length] at gi
              cases gi
              exact Nat.le_refl _
        · refine ⟨j, x, by rw [List.getElem?_append_left jl]; exact g, if_neg d, fun i y hi gi => ?_, fun i y gi => ?_⟩
          · rw [List.getElem?_append_left (by omega)] at gi
            exact lo i y hi gi
          · rcases Nat.lt_or_ge i r.reverse.length with hi | hi
            · rw [List.getElem?_append_left hi] at gi
              exact le i y gi
            · have e : i = r.reverse.length := by
                have := (List.getElem?_eq_some_iff.mp gi).1
                rw [List.length_append] at this
                simp at this hi ⊢
                omega
              subst e
              rw [List.getElem?_concat_length] at gi
              cases gi
              omega
  have k := key l.reverse (by simpa using h)
  rw [List.reverse_reverse] at k
  exact k
end Pm


set_option Elab.async false
set_option linter.all false
set_option maxRecDepth 100000
/-! The object's state, what is due of a call, and the specification's walk over the list, call by call: plain Lean. -/
namespace Pc
open Pm
/-- how many cases (0: not begun), the truth, the guesses -/
structure M where
  n : Nat
  t : Nat
  gs : List Nat
structure M.Ok (m : M) : Prop where
  n8 : m.n ≤ 8
  t : m.t < 2 ^ m.n
  gs : ∀ x ∈ m.gs, x < 2 ^ m.n
  nd : m.gs.Nodup
  le : m.gs.length ≤ 16
def M.abs (m : M) : Kh399.Abs := ⟨m.n, m.gs, m.t⟩
def absOf (m : M) : Option Kh399.Abs := if m.n = 0 then none else some m.abs
def ofAbs (m : M) : Option Kh399.Abs → M
  | none => m
  | some a => ⟨a.n, a.truth, a.guesses⟩
/-- what is due -/
def nextM (m : M) (c : Kh399.Call) : M := ofAbs m (Kh399.doing (absOf m) c).1
def ansM (m : M) (c : Kh399.Call) : List Int := (Kh399.doing (absOf m) c).2.ret :: (Kh399.doing (absOf m) c).2.out
section
variable {m : M}
/-! what is due of a call that is not begin, begun -/
theorem doing_some {c : Kh399.Call} (hn : m.n ≠ 0) (hc : ∀ a b, c ≠ .begin_ a b) : Kh399.doing (absOf m) c = (some (Kh399.does m.abs c).1, (Kh399.does m.abs c).2) := by
  unfold absOf
  rw [if_neg hn]
  cases c <;> first | rfl | exact absurd rfl (hc _ _)
theorem ans_of {c : Kh399.Call} (hn : m.n ≠ 0) (hc : ∀ a b, c ≠ .begin_ a b) : ansM m c = (Kh399.does m.abs c).2.ret :: (Kh399.does m.abs c).2.out := by
  unfold ansM
  rw [doing_some hn hc]
theorem next_of {c : Kh399.Call} (hn : m.n ≠ 0) (hc : ∀ a b, c ≠ .begin_ a b) : nextM m c = ofAbs m (some (Kh399.does m.abs c).1) := by
  unfold nextM
  rw [doing_some hn hc]
/-- a call that looks -/
theorem next_look {c : Kh399.Call} (hn : m.n ≠ 0) (hc : ∀ a b, c ≠ .begin_ a b) (h : (Kh399.does m.abs c).1 = m.abs) : nextM m c = m := by
  rw [next_of hn hc, h]
  rfl
theorem isS_t {s : Nat} (h : s < 2 ^ m.n) : Kh399.isS m.abs s = true := decide_eq_true h
theorem isG_t {i : Nat} (h : i < m.gs.length) : Kh399.isG m.abs i = true := decide_eq_true h
theorem isS_f {s : Nat} (h : ¬ s < 2 ^ m.n) : Kh399.isS m.abs s = false := decide_eq_false h
theorem isG_f {i : Nat} (h : ¬ i < m.gs.length) : Kh399.isG m.abs i = false := decide_eq_false h
theorem of_abs : ofAbs m (absOf m) = m := by
  unfold absOf
  split <;> rfl
/-- not begun: every other call -/
theorem due_unbegun {c : Kh399.Call} (hn : m.n = 0) (hc : ∀ a b, c ≠ .begin_ a b) : ansM m c = [-61] ∧ nextM m c = m := by
  have e : absOf m = none := if_pos hn
  have d : Kh399.doing (absOf m) c = (none, Kh399.say (-61)) := by
    rw [e]
    cases c <;> first | rfl | exact absurd rfl (hc _ _)
  unfold ansM nextM
  rw [d]
  exact ⟨rfl, rfl⟩
theorem due_begin (n t : Nat) :
    (n < 1 ∨ 8 < n ∨ 2 ^ n ≤ t → ansM m (.begin_ n t) = [-22] ∧ nextM m (.begin_ n t) = m) ∧
    (¬ (n < 1 ∨ 8 < n ∨ 2 ^ n ≤ t) → ansM m (.begin_ n t) = [0].map (fun n : Nat => (n : Int)) ∧ nextM m (.begin_ n t) = ⟨n, t, []⟩) := by
  have e : Kh399.doing (absOf m) (.begin_ n t) = if n < 1 ∨ 8 < n ∨ 2 ^ n ≤ t then (absOf m, Kh399.say (-22)) else (some ⟨n, [], t⟩, Kh399.say 0) := by
    unfold Kh399.doing
    cases absOf m <;> rfl
  unfold ansM nextM
  rw [e]
  refine ⟨fun c => ?_, fun c => ?_⟩
  · rw [if_pos c]
    exact ⟨rfl, of_abs⟩
  · rw [if_neg c]
    exact ⟨rfl, rfl⟩
theorem due_truth {s : Nat} (hn : m.n ≠ 0) (h : s < 2 ^ m.n) : ansM m (.truth s) = [m.t].map (fun n : Nat => (n : Int)) ∧ nextM m (.truth s) = { m with t := s } := by
  rw [ans_of hn (by intro _ _ z; cases z), next_of hn (by intro _ _ z; cases z)]
  simp only [Kh399.does, isS_t h]
  exact ⟨rfl, rfl⟩
theorem due_add {s : Nat} (hn : m.n ≠ 0) (h : s < 2 ^ m.n) :
    (m.gs.contains s = true → ansM m (.add s) = [-17] ∧ nextM m (.add s) = m) ∧
    (m.gs.contains s = false → 16 ≤ m.gs.length → ansM m (.add s) = [-28] ∧ nextM m (.add s) = m) ∧
    (m.gs.contains s = false → m.gs.length < 16 → ansM m (.add s) = [m.gs.length].map (fun n : Nat => (n : Int)) ∧ nextM m (.add s) = { m with gs := m.gs ++ [s] }) := by
  rw [ans_of hn (by intro _ _ z; cases z), next_of hn (by intro _ _ z; cases z)]
  have e : m.abs.guesses = m.gs := rfl
  refine ⟨fun c => ?_, fun c l => ?_, fun c l => ?_⟩
  · simp only [Kh399.does, isS_t h, e, c]
    exact ⟨rfl, rfl⟩
  · have l' : Kh399.GUESSES ≤ m.gs.length := l
    simp only [Kh399.does, isS_t h, e, c, l', if_true]
    exact ⟨rfl, rfl⟩
  · have l' : ¬ Kh399.GUESSES ≤ m.gs.length := by show ¬ 16 ≤ _; omega
    simp only [Kh399.does, isS_t h, e, c, l', if_false]
    exact ⟨rfl, rfl⟩
theorem due_drop {i : Nat} (hn : m.n ≠ 0) (h : i < m.gs.length) : ansM m (.drop i) = [m.gs.length - 1].map (fun n : Nat => (n : Int)) ∧ nextM m (.drop i) = { m with gs := m.gs.eraseIdx i } := by
  rw [ans_of hn (by intro _ _ z; cases z), next_of hn (by intro _ _ z; cases z)]
  simp only [Kh399.does, isG_t h]
  exact ⟨rfl, rfl⟩
/-- refused for its set, its guess -/
theorem ref_add {s : Nat} (hn : m.n ≠ 0) (h : ¬ s < 2 ^ m.n) : ansM m (.add s) = [-22] ∧ nextM m (.add s) = m := by
  rw [ans_of hn (by intro _ _ z; cases z), next_of hn (by intro _ _ z; cases z)]
  simp only [Kh399.does, isS_f h]
  exact ⟨rfl, rfl⟩
theorem ref_truth {s : Nat} (hn : m.n ≠ 0) (h : ¬ s < 2 ^ m.n) : ansM m (.truth s) = [-22] ∧ nextM m (.truth s) = m := by
  rw [ans_of hn (by intro _ _ z; cases z), next_of hn (by intro _ _ z; cases z)]
  simp only [Kh399.does, isS_f h]
  exact ⟨rfl, rfl⟩
theorem ref_drop {i : Nat} (hn : m.n ≠ 0) (h : ¬ i < m.gs.length) : ansM m (.drop i) = [-2] ∧ nextM m (.drop i) = m := by
  rw [ans_of hn (by intro _ _ z; cases z), next_of hn (by intro _ _ z; cases z)]
  simp only [Kh399.does, isG_f h]
  exact ⟨rfl, rfl⟩
/-- the state stays as it should -/
theorem next_ok (o : m.Ok) (c : Kh399.Call) : (nextM m c).Ok := by
  by_cases hn : m.n = 0
  · cases c with
    | begin_ n t =>
      by_cases q : n < 1 ∨ 8 < n ∨ 2 ^ n ≤ t
      · rw [((due_begin n t).1 q).2]
        exact o
      · rw [((due_begin n t).2 q).2]
        exact ⟨by show n ≤ 8; omega, by show t < 2 ^ n; omega, (fun x hx => by cases hx), List.nodup_nil, by show 0 ≤ 16; omega⟩
    | _ =>
      rw [(due_unbegun hn (by intro _ _ z; cases z)).2]
      exact o
  · cases c with
    | begin_ n t =>
      by_cases q : n < 1 ∨ 8 < n ∨ 2 ^ n ≤ t
      · rw [((due_begin n t).1 q).2]
        exact o
      · rw [((due_begin n t).2 q).2]
        exact ⟨by show n ≤ 8; omega, by show t < 2 ^ n; omega, (fun x hx => by cases hx), List.nodup_nil, by show 0 ≤ 16; omega⟩
    | add s =>
      by_cases q : s < 2 ^ m.n
      · obtain ⟨d1, d2, d3⟩ := due_add hn q
        cases c1 : m.gs.contains s with
        | true =>
          rw [(d1 c1).2]
          exact o
        | false =>
          rcases Nat.lt_or_ge m.gs.length 16 with l | l
          · rw [(d3 c1 l).2]
            refine ⟨o.n8, o.t, fun x hx => ?_, ?_, ?_⟩
            · rcases List.mem_append.mp hx with h | h
              · exact o.gs x h
              · cases List.mem_singleton.mp h
                exact q
            · have c2 : ¬ s ∈ m.gs := by
                intro z
                rw [List.contains_eq_mem, decide_eq_false_iff_not] at c1
                exact c1 z
              show (m.gs ++ [s]).Nodup
              rw [List.nodup_append]
              refine ⟨o.nd, by simp, fun a ha b hb e => ?_⟩
              cases List.mem_singleton.mp hb
              exact c2 (e ▸ ha)
            · show (m.gs ++ [s]).length ≤ 16
              rw [List.length_append, List.length_singleton]
              omega
          · rw [(d2 c1 l).2]
            exact o
      · rw [(ref_add hn q).2]
        exact o
    | drop i =>
      by_cases q : i < m.gs.length
      · rw [(due_drop hn q).2]
        refine ⟨o.n8, o.t, fun x hx => o.gs x (List.mem_of_mem_eraseIdx hx), o.nd.sublist (List.eraseIdx_sublist ..), ?_⟩
        exact Nat.le_trans (List.length_eraseIdx_le ..) o.le
      · rw [(ref_drop hn q).2]
        exact o
    | truth s =>
      by_cases q : s < 2 ^ m.n
      · rw [(due_truth hn q).2]
        exact ⟨o.n8, q, o.gs, o.nd, o.le⟩
      · rw [(ref_truth hn q).2]
        exact o
    | _ =>
      rw [next_look hn (by intro _ _ z; cases z) rfl]
      exact o
theorem abs_next (o : m.Ok) (c : Kh399.Call) : absOf (nextM m c) = (Kh399.doing (absOf m) c).1 := by
  unfold nextM
  by_cases hb : ∃ n t, c = .begin_ n t
  · obtain ⟨n, t, rfl⟩ := hb
    have e : Kh399.doing (absOf m) (.begin_ n t) = if n < 1 ∨ 8 < n ∨ 2 ^ n ≤ t then (absOf m, Kh399.say (-22)) else (some ⟨n, [], t⟩, Kh399.say 0) := by
      unfold Kh399.doing
      cases absOf m <;> rfl
    rw [e]
    split
    · show absOf (ofAbs m (absOf m)) = absOf m
      rw [of_abs]
    · rename_i q
      show absOf ⟨n, t, []⟩ = some ⟨n, [], t⟩
      unfold absOf
      rw [if_neg (by show ¬ n = 0; omega)]
      rfl
  · have hc : ∀ a b, c ≠ .begin_ a b := fun a b e => hb ⟨a, b, e⟩
    by_cases hn : m.n = 0
    · have e : absOf m = none := if_pos hn
      have d : Kh399.doing (absOf m) c = (none, Kh399.say (-61)) := by
        rw [e]
        cases c <;> first | rfl | exact absurd rfl (hc _ _)
      rw [d]
      exact e
    · rw [doing_some hn hc]
      show absOf ⟨(Kh399.does m.abs c).1.n, _, _⟩ = some (Kh399.does m.abs c).1
      have k : (Kh399.does m.abs c).1.n = m.n := by
        cases c with
        | add s =>
          simp only [Kh399.does]
          split
          · rfl
          · split
            · rfl
            · split <;> rfl
        | drop i =>
          simp only [Kh399.does]
          split <;> rfl
        | truth s =>
          simp only [Kh399.does]
          split <;> rfl
        | _ => rfl
      unfold absOf
      rw [if_neg (by show ¬ (Kh399.does m.abs c).1.n = 0; rw [k]; exact hn)]
      rfl
end
/-! ### the calls by their numbers -/
def arity : Nat → Nat
  | 0 => 2
  | 1 => 1
  | 2 => 1
  | 3 => 1
  | 4 => 1
  | 5 => 1
  | 6 => 0
  | 7 => 1
  | 8 => 1
  | 9 => 1
  | 10 => 0
  | 11 => 0
  | 12 => 2
  | 13 => 1
  | 14 => 2
  | 15 => 2
  | 16 => 1
  | 17 => 2
  | 18 => 3
  | 19 => 1
  | 20 => 0
  | 21 => 1
  | _ => 0
def theCall : Nat → List Nat → Kh399.Call
  | 0 => fun as => .begin_ (as.getD 0 0) (as.getD 1 0)
  | 1 => fun as => .add (as.getD 0 0)
  | 2 => fun as => .drop (as.getD 0 0)
  | 3 => fun as => .truth (as.getD 0 0)
  | 4 => fun as => .guess (as.getD 0 0)
  | 5 => fun as => .wrong (as.getD 0 0)
  | 6 => fun _ => .best
  | 7 => fun as => .ways (as.getD 0 0)
  | 8 => fun as => .every (as.getD 0 0)
  | 9 => fun as => .growth (as.getD 0 0)
  | 10 => fun _ => .depth
  | 11 => fun _ => .deep
  | 12 => fun as => .fewWays (as.getD 0 0) (as.getD 1 0)
  | 13 => fun as => .fit (as.getD 0 0)
  | 14 => fun as => .misleads (as.getD 0 0) (as.getD 1 0)
  | 15 => fun as => .misleading (as.getD 0 0) (as.getD 1 0)
  | 16 => fun as => .worst (as.getD 0 0)
  | 17 => fun as => .byOne (as.getD 0 0) (as.getD 1 0)
  | 18 => fun as => .enough (as.getD 0 0) (as.getD 1 0) (as.getD 2 0)
  | 19 => fun as => .tells (as.getD 0 0)
  | 20 => fun _ => .hardest
  | 21 => fun as => .parted (as.getD 0 0)
  | _ => fun _ => .told
def most : Nat := 23
abbrev up (n : Nat) : Int := (n : Int)
theorem shape_in {c : Nat} (hc : c < most) : PyKh399.shape (c : Int) = some (arity c, 0) := by
  match c, hc with
  | 0, _ | 1, _ | 2, _ | 3, _ | 4, _ | 5, _ | 6, _ | 7, _ | 8, _ | 9, _ | 10, _ | 11, _ | 12, _ | 13, _ | 14, _ | 15, _ | 16, _ | 17, _ | 18, _ | 19, _ | 20, _ | 21, _ | 22, _ => rfl
  | k + 23, h => exact absurd (show k + 23 < 23 from h) (by omega)
theorem shape_out {c : Nat} (hc : ¬ c < most) : PyKh399.shape (c : Int) = none := by
  have h : 23 ≤ c := Nat.not_lt.mp hc
  unfold PyKh399.shape
  repeat rw [if_neg (by omega)]
theorem call_is {c : Nat} (hc : c < most) : ∀ {as : List Nat}, as.length = arity c → PyKh399.whole [(c :: as).map up] = [(c :: as).map up] ∧ Kh399Neutral.callOf1 [(c :: as).map up] = theCall c as := by
  intro as hl
  match c, hc, as, hl with
  | 0, _, [_, _], _ | 12, _, [_, _], _ | 14, _, [_, _], _ | 15, _, [_, _], _ | 17, _, [_, _], _ => exact ⟨rfl, rfl⟩
  | 1, _, [_], _ | 2, _, [_], _ | 3, _, [_], _ | 4, _, [_], _ | 5, _, [_], _ | 7, _, [_], _ | 8, _, [_], _ | 9, _, [_], _ | 13, _, [_], _ | 16, _, [_], _ | 19, _, [_], _ | 21, _, [_], _ => exact ⟨rfl, rfl⟩
  | 6, _, [], _ | 10, _, [], _ | 11, _, [], _ | 20, _, [], _ | 22, _, [], _ => exact ⟨rfl, rfl⟩
  | 18, _, [_, _, _], _ => exact ⟨rfl, rfl⟩
  | k + 23, h, _, _ => exact absurd (show k + 23 < 23 from h) (by omega)
def m0 : M := ⟨0, 0, []⟩
theorem m0_ok : m0.Ok := ⟨by decide, by decide, (fun x hx => by cases hx), List.nodup_nil, by decide⟩
/-- what is due of the rest of the list -/
def due (m : M) (f : Nat) (r : List Int) : Option (List Int) := (PyFlat.calls PyKh399.shape f r).map fun cs => PyFlat.told (PyFlat.played Kh399Neutral.step (absOf m) (cs.map PyKh399.whole))
theorem due_nil (m : M) (f : Nat) : due m f [] = some [] := by
  cases f <;> rfl
theorem due_cons {m : M} (o : m.Ok) {f c : Nat} {r : List Nat} {l : List Int} (h : due m f ((c :: r).map up) = some l) :
    ∃ (as r' : List Nat) (l' : List Int) (f' : Nat), c < most ∧ as.length = arity c ∧ r = as ++ r' ∧
      due (nextM m (theCall c as)) f' (r'.map up) = some l' ∧ l = (((ansM m (theCall c as)).length : Int) :: ansM m (theCall c as)) ++ l' := by
  cases f with
  | zero => cases h
  | succ f =>
    by_cases hc : c < most
    · unfold due at h
      rw [List.map_cons] at h
      unfold PyFlat.calls PyFlat.call at h
      dsimp only at h
      rw [show PyKh399.shape (up c) = _ from shape_in hc] at h
      simp only [PyFlat.rows] at h
      by_cases hl : (r.map up).length < arity c
      · rw [if_pos hl] at h
        cases h
      · rw [if_neg hl] at h
        simp only at h
        rw [List.length_map] at hl
        have la : (r.take (arity c)).length = arity c := by rw [List.length_take]; omega
        cases hs : PyFlat.calls PyKh399.shape f ((r.map up).drop (arity c)) with
        | none =>
          rw [hs] at h
          cases h
        | some cs =>
          rw [hs] at h
          obtain ⟨w1, w2⟩ := call_is hc la
          refine ⟨r.take (arity c), r.drop (arity c), PyFlat.told (PyFlat.played Kh399Neutral.step (absOf (nextM m (theCall c (r.take (arity c))))) (cs.map PyKh399.whole)), f, hc, la, (List.take_append_drop ..).symm, ?_, ?_⟩
          · unfold due
            rw [List.map_drop, hs]
            rfl
          · have e : l = PyFlat.told (PyFlat.played Kh399Neutral.step (absOf m) (PyKh399.whole [(c :: r.take (arity c)).map up] :: cs.map PyKh399.whole)) := by
              rw [← List.map_take] at h
              exact (Option.some.inj h).symm
            rw [e, w1, abs_next o]
            have st : Kh399Neutral.step (absOf m) [(c :: r.take (arity c)).map up] = ((Kh399.doing (absOf m) (theCall c (r.take (arity c)))).1, ansM m (theCall c (r.take (arity c)))) := by
              unfold Kh399Neutral.step
              rw [w2]
              rfl
            show PyFlat.told ((Kh399Neutral.step (absOf m) [(c :: r.take (arity c)).map up]).2 :: PyFlat.played Kh399Neutral.step (Kh399Neutral.step (absOf m) [(c :: r.take (arity c)).map up]).1 (cs.map PyKh399.whole)) = _
            rw [st]
            rfl
    · unfold due at h
      rw [List.map_cons] at h
      unfold PyFlat.calls PyFlat.call at h
      dsimp only at h
      rw [show PyKh399.shape (up c) = _ from shape_out hc] at h
      cases h
end Pc


set_option Elab.async false
set_option linter.all false
set_option maxRecDepth 100000
/-! The second stage's mathematics. -/
namespace Pm
open Kh399
/-! ### how many sets of k cases lie outside W -/
def outs (n W k : Nat) : Nat := ((List.range (2 ^ n)).filter fun s => cnt s n == k && s &&& W == 0).length
theorem range_double (n : Nat) : List.range (2 ^ (n + 1)) = List.range (2 ^ n) ++ (List.range (2 ^ n)).map (2 ^ n + ·) := by
  rw [Nat.pow_succ, Nat.mul_two, List.range_add]
theorem cnt_low {s n : Nat} (h : s < 2 ^ n) : cnt s (n + 1) = cnt s n := cnt_up h 1
theorem has_high {s n : Nat} (h : s < 2 ^ n) (i : Nat) (hi : i < n) : has (2 ^ n + s) i = has s i := by
  rw [has_bit, has_bit, Nat.testBit_two_pow_add_gt hi]
theorem cnt_add {s n : Nat} (h : s < 2 ^ n) : ∀ m, m ≤ n → cnt (2 ^ n + s) m = cnt s m
  | 0, _ => rfl
  | m + 1, hm => by rw [cnt_succ, cnt_succ, cnt_add h m (by omega), has_high h m (by omega)]
theorem cnt_high {s n : Nat} (h : s < 2 ^ n) : cnt (2 ^ n + s) (n + 1) = cnt s n + 1 := by
  rw [cnt_succ, cnt_add h n (Nat.le_refl _), has_bit, Nat.testBit_two_pow_add_eq, Nat.testBit_lt_two_pow h]
  rfl
theorem and_mod {s W n : Nat} (h : s < 2 ^ n) : s &&& (W % 2 ^ n) = s &&& W := by
  apply Nat.eq_of_testBit_eq
  intro i
  rw [Nat.testBit_and, Nat.testBit_and, Nat.testBit_mod_two_pow]
  by_cases c : i < n
  · simp [c]
  · simp [c, bit_off h c]
theorem cnt_mod (W n : Nat) : ∀ m, m ≤ n → cnt (W % 2 ^ n) m = cnt W m
  | 0, _ => rfl
  | m + 1, h => by
    rw [cnt_succ, cnt_succ, cnt_mod W n m (by omega), has_bit, has_bit, Nat.testBit_mod_two_pow]
    simp [show m < n by omega]
theorem and_high {s W n : Nat} (h : s < 2 ^ n) : ((2 ^ n + s) &&& W == 0) = (!W.testBit n && s &&& W == 0) := by
  rw [Bool.eq_iff_iff, beq_iff_eq, Bool.and_eq_true, beq_iff_eq, Bool.not_eq_true']
  constructor
  · intro e
    have b : ∀ i, ((2 ^ n + s) &&& W).testBit i = false := fun i => by rw [e]; exact Nat.zero_testBit i
    refine ⟨?_, ?_⟩
    · have := b n
      rw [Nat.testBit_and, Nat.testBit_two_pow_add_eq, Nat.testBit_lt_two_pow h] at this
      simpa using this
    · apply Nat.eq_of_testBit_eq
      intro i
      rw [Nat.zero_testBit]
      by_cases c : i < n
      · have := b i
        rw [Nat.testBit_and, Nat.testBit_two_pow_add_gt c] at this
        rw [Nat.testBit_and]
        exact this
      · rw [Nat.testBit_and, bit_off h c]
        rfl
  · rintro ⟨h1, h2⟩
    have b : ∀ i, (s &&& W).testBit i = false := fun i => by rw [h2]; exact Nat.zero_testBit i
    apply Nat.eq_of_testBit_eq
    intro i
    rw [Nat.zero_testBit, Nat.testBit_and]
    rcases Nat.lt_trichotomy i n with c | c | c
    · have := b i
      rw [Nat.testBit_and] at this
      rw [Nat.testBit_two_pow_add_gt c]
      exact this
    · subst c
      rw [h1, Bool.and_false]
    · have big : 2 ^ n + s < 2 ^ i := by
        have : 2 ^ (n + 1) ≤ 2 ^ i := Nat.pow_le_pow_right (by decide) c
        rw [Nat.pow_succ] at this
        omega
      rw [Nat.testBit_lt_two_pow big]
      rfl
theorem outs_succ (n W k : Nat) : outs (n + 1) W k = outs n W k + (if W.testBit n then 0 else if k = 0 then 0 else outs n W (k - 1)) := by
  unfold outs
  rw [range_double, List.filter_append, List.length_append]
  congr 1
  · congr 1
    apply List.filter_congr
    intro s hs
    rw [cnt_low (List.mem_range.mp hs)]
  · rw [List.filter_map, List.length_map]
    by_cases c : W.testBit n
    · rw [if_pos c, List.length_eq_zero_iff, List.filter_eq_nil_iff]
      intro s hs
      show ¬ ((cnt (2 ^ n + s) (n + 1) == k && (2 ^ n + s) &&& W == 0) = true)
      rw [and_high (List.mem_range.mp hs), c]
      simp
    · rw [if_neg c]
      by_cases z : k = 0
      · subst z
        rw [if_pos rfl, List.length_eq_zero_iff, List.filter_eq_nil_iff]
        intro s hs
        show ¬ ((cnt (2 ^ n + s) (n + 1) == 0 && (2 ^ n + s) &&& W == 0) = true)
        rw [cnt_high (List.mem_range.mp hs)]
        simp
      · rw [if_neg z]
        congr 1
        apply List.filter_congr
        intro s hs
        show (cnt (2 ^ n + s) (n + 1) == k && (2 ^ n + s) &&& W == 0) = _
        rw [and_high (List.mem_range.mp hs), cnt_high (List.mem_range.mp hs)]
        have e : (cnt s n + 1 == k) = (cnt s n == k - 1) := by
          rw [Bool.eq_iff_iff, beq_iff_eq, beq_iff_eq]
          omega
        rw [e]
        simp [c]
theorem choose_zero (n : Nat) : choose n 0 = 1 := by cases n <;> rfl
theorem outs_choose (W : Nat) : ∀ n k, outs n W k = choose (n - cnt W n) k
  | 0, k => by
    cases k with
    | zero =>
      show _ = choose _ 0
      rw [choose_zero]
      unfold outs
      rw [show List.range (2 ^ 0) = [0] from rfl]
      have z : (0 &&& W == 0) = true := by rw [Nat.zero_and]; rfl
      simp [cnt, z]
    | succ k => rfl
  | n + 1, k => by
    rw [outs_succ, outs_choose W n k]
    have le := cnt_le W n
    by_cases c : W.testBit n
    · rw [if_pos c, cnt_succ, has_bit, c]
      rw [if_pos rfl, Nat.add_zero, show n + 1 - (cnt W n + 1) = n - cnt W n by omega]
    · have f : W.testBit n = false := by simpa using c
      rw [if_neg c, cnt_succ, has_bit, f]
      have e : n + 1 - (cnt W n + (if false = true then 1 else 0)) = (n - cnt W n) + 1 := by
        rw [if_neg (by decide)]
        omega
      rw [e]
      cases k with
      | zero => rw [if_pos rfl, choose_zero, choose_zero]
      | succ k =>
        rw [if_neg (by omega), outs_choose W n (k + 1 - 1)]
        show _ = choose (n - cnt W n) k + choose (n - cnt W n) (k + 1)
        rw [Nat.add_comm]
        rfl
theorem sz_cnt {s n : Nat} (h8 : n ≤ 8) (h : s < 2 ^ n) : sz s = cnt s n := cnt_eq (Nat.lt_of_lt_of_le h (Nat.pow_le_pow_right (by decide) h8)) h
/-- how many samples of k cases lie outside W -/
theorem sets_out {n W k : Nat} (h8 : n ≤ 8) (hW : W < 2 ^ n) : ((setsN n k).filter fun s => W &&& s == 0).length = choose (n - sz W) k := by
  rw [sz_cnt h8 hW, ← outs_choose]
  unfold outs setsN
  rw [List.filter_filter]
  congr 1
  apply List.filter_congr
  intro s hs
  rw [sz_cnt h8 (List.mem_range.mp hs), Nat.and_comm W s, Bool.and_comm]
theorem sets_choose {n k : Nat} (h8 : n ≤ 8) : (setsN n k).length = choose n k := by
  have e := sets_out (k := k) h8 (Nat.two_pow_pos n : 0 < 2 ^ n)
  have z : sz 0 = 0 := by decide
  rw [z, Nat.sub_zero] at e
  rw [← e]
  congr 1
  symm
  apply List.filter_eq_self.mpr
  intro s _
  rw [Nat.zero_and]
  rfl
end Pm
namespace Pc
open Pm
section
variable {m : M}
/-! ### fitting, misleading -/
def err (m : M) (x : Nat) : Nat := sz (x ^^^ m.t)
def fitp (m : M) (x s : Nat) : Bool := (x ^^^ m.t) &&& s == 0
theorem wrongs_err (o : m.Ok) {x : Nat} (hx : x < 2 ^ m.n) : Kh399.wrongs m.abs x = err m x := by
  unfold Kh399.wrongs err
  rw [wrong_xor (a := m.abs) hx o.t]
  exact size_sz (a := m.abs) o.n8 (Nat.xor_lt_two_pow hx o.t)
theorem fits_p (o : m.Ok) {x s : Nat} (hx : x < 2 ^ m.n) (hs : s < 2 ^ m.n) : Kh399.fits m.abs x s = fitp m x s := by
  unfold Kh399.fits fitp
  rw [wrong_xor (a := m.abs) hx o.t, meet_and (a := m.abs) _ hs, Nat.and_comm]
  rfl
def pmis (m : M) (e s : Nat) : Bool := m.gs.any fun h => fitp m h s && decide (e ≤ err m h)
theorem misleads_p (o : m.Ok) (e : Nat) {s : Nat} (hs : s < 2 ^ m.n) : Kh399.misleads m.abs e s = pmis m e s := by
  unfold Kh399.misleads pmis
  rw [Bool.eq_iff_iff, List.any_eq_true, List.any_eq_true]
  constructor
  · rintro ⟨h, hm, q⟩
    refine ⟨h, hm, ?_⟩
    rw [fits_p o (o.gs h hm) hs, wrongs_err o (o.gs h hm)] at q
    exact q
  · rintro ⟨h, hm, q⟩
    refine ⟨h, hm, ?_⟩
    rw [fits_p o (o.gs h hm) hs, wrongs_err o (o.gs h hm)]
    exact q
theorem idx_mem {x : Nat × Nat} (h : x ∈ m.gs.zipIdx) : x.1 ∈ m.gs := by
  obtain ⟨a, i⟩ := x
  exact (List.mem_zipIdx_iff_getElem?.mp h) |> List.mem_of_getElem?
/-- the guesses that fit, by their numbers -/
def pfit (m : M) (s : Nat) : List Nat := (m.gs.zipIdx.filter fun x => fitp m x.1 s).map fun x => x.2
theorem due_fit {s : Nat} (o : m.Ok) (hn : m.n ≠ 0) (h : s < 2 ^ m.n) : ansM m (.fit s) = ((pfit m s).length :: pfit m s).map fun n : Nat => (n : Int) := by
  rw [ans_of hn (by intro _ _ z; cases z)]
  have e : (m.abs.guesses.zipIdx.filter fun x => Kh399.fits m.abs x.1 s) = m.gs.zipIdx.filter fun x => fitp m x.1 s := by
    apply List.filter_congr
    intro x hx
    rw [fits_p o (o.gs _ (idx_mem hx)) h]
  simp only [Kh399.does, isS_t h, e]
  rfl
theorem find_congr {α : Type} {p q : α → Bool} : ∀ {l : List α}, (∀ x ∈ l, p x = q x) → l.find? p = l.find? q
  | [], _ => rfl
  | a :: r, h => by
    rw [List.find?_cons, List.find?_cons, h a (List.mem_cons_self ..), find_congr fun x hx => h x (List.mem_cons_of_mem _ hx)]
def pmisBy (m : M) (e s : Nat) : Option (Nat × Nat) := m.gs.zipIdx.find? fun x => fitp m x.1 s && decide (e ≤ err m x.1)
theorem due_misleads {e s : Nat} (o : m.Ok) (hn : m.n ≠ 0) (h : s < 2 ^ m.n) :
    (pmisBy m e s = none → ansM m (.misleads e s) = [-33]) ∧ (∀ x, pmisBy m e s = some x → ansM m (.misleads e s) = [x.2].map fun n : Nat => (n : Int)) := by
  rw [ans_of hn (by intro _ _ z; cases z)]
  have q : (m.abs.guesses.zipIdx.find? fun x => Kh399.fits m.abs x.1 s && decide (e ≤ Kh399.wrongs m.abs x.1)) = pmisBy m e s := by
    apply find_congr
    intro x hx
    rw [fits_p o (o.gs _ (idx_mem hx)) h, wrongs_err o (o.gs _ (idx_mem hx))]
  refine ⟨fun c => ?_, fun x c => ?_⟩
  · simp only [Kh399.does, isS_t h, q, c]
    rfl
  · simp only [Kh399.does, isS_t h, q, c]
    rfl
def misN (m : M) (k e : Nat) : Nat := ((setsN m.n k).filter (pmis m e)).length
theorem misleading_p (o : m.Ok) (k e : Nat) : (Kh399.misleading m.abs k e).length = misN m k e := by
  unfold Kh399.misleading misN
  rw [sets_N (a := m.abs) o.n8]
  congr 1
  apply List.filter_congr
  intro s hs
  exact misleads_p o e (setsN_mem.mp hs).1
theorem due_misleading {k e : Nat} (o : m.Ok) (hn : m.n ≠ 0) (h : k ≤ m.n) : ansM m (.misleading k e) = [misN m k e, (setsN m.n k).length].map fun n : Nat => (n : Int) := by
  rw [ans_of hn (by intro _ _ z; cases z)]
  have c : ¬ m.abs.n < k := by show ¬ m.n < k; omega
  simp only [Kh399.does, c, misleading_p o, if_false, ← sets_choose (n := m.abs.n) o.n8]
  rfl
def pby (m : M) (k e : Nat) : Nat := ((m.gs.filter fun h => decide (e ≤ err m h)).map fun h => ((setsN m.n k).filter (fitp m h)).length).sum
theorem byOne_p (o : m.Ok) (k e : Nat) : Kh399.byOne m.abs k e = pby m k e := by
  unfold Kh399.byOne pby
  have e1 : (m.abs.guesses.filter fun h => decide (e ≤ Kh399.wrongs m.abs h)) = m.gs.filter fun h => decide (e ≤ err m h) := by
    apply List.filter_congr
    intro x hx
    rw [wrongs_err o (o.gs _ hx)]
  rw [e1]
  congr 1
  apply List.map_congr_left
  intro x hx
  have hg := o.gs x (List.mem_filter.mp hx).1
  rw [wrongs_err o hg]
  exact (sets_out o.n8 (Nat.xor_lt_two_pow hg o.t)).symm
theorem due_byOne {k e : Nat} (o : m.Ok) (hn : m.n ≠ 0) (h : k ≤ m.n) : ansM m (.byOne k e) = [pby m k e].map fun n : Nat => (n : Int) := by
  rw [ans_of hn (by intro _ _ z; cases z)]
  have c : ¬ m.abs.n < k := by show ¬ m.n < k; omega
  simp only [Kh399.does, c, byOne_p o, if_false]
  rfl
def penough (m : M) (e p q : Nat) : Option Nat := (List.range (m.n + 1)).find? fun k => decide (misN m k e * q ≤ p * (setsN m.n k).length)
theorem due_enough {e p q : Nat} (o : m.Ok) (hn : m.n ≠ 0) :
    (q < 1 ∨ 1000 < q ∨ q < p → ansM m (.enough e p q) = [-22]) ∧
    (¬ (q < 1 ∨ 1000 < q ∨ q < p) → (penough m e p q = none → ansM m (.enough e p q) = [-33]) ∧ ∀ k, penough m e p q = some k → ansM m (.enough e p q) = [k].map fun n : Nat => (n : Int)) := by
  rw [ans_of hn (by intro _ _ z; cases z)]
  have e1 : Kh399.enough m.abs e p q = penough m e p q := by
    apply find_congr
    intro k _
    rw [misleading_p o, sets_choose (n := m.n) o.n8]
    rfl
  refine ⟨fun c => ?_, fun c => ⟨fun c2 => ?_, fun k c2 => ?_⟩⟩
  · simp only [Kh399.does, c, if_true]
    rfl
  · simp only [Kh399.does, c, if_false, e1, c2]
    rfl
  · simp only [Kh399.does, c, if_false, e1, c2]
    rfl
theorem due_parted {s : Nat} (o : m.Ok) (hn : m.n ≠ 0) (h : s < 2 ^ m.n) : ansM m (.parted s) = [2 ^ sz s, (pways m.gs s).length].map fun n : Nat => (n : Int) := by
  rw [ans_of hn (by intro _ _ z; cases z)]
  simp only [Kh399.does, isS_t h, ways_pways (a := m.abs) h, size_sz (a := m.abs) o.n8 h]
  rfl
theorem due_told (hn : m.n ≠ 0) : ansM m .told = (m.n :: m.t :: m.gs.length :: m.gs).map fun n : Nat => (n : Int) := by
  rw [ans_of hn (by intro _ _ z; cases z)]
  rfl
/-! ### worst -/
def worstOf (m : M) (s : Nat) : Nat := ((m.gs.filter fun h => fitp m h s).map fun h => err m h + 1).foldl max 0
theorem due_worst {k : Nat} (o : m.Ok) (hn : m.n ≠ 0) (h : k ≤ m.n) : ∃ (j : Nat) (s : Nat), (setsN m.n k)[j]? = some s ∧ (∀ s' ∈ setsN m.n k, worstOf m s' ≤ worstOf m s) ∧ (∀ (i : Nat) s', i < j → (setsN m.n k)[i]? = some s' → worstOf m s' < worstOf m s) ∧
    (worstOf m s = 0 → ansM m (.worst k) = [-33]) ∧ (worstOf m s ≠ 0 → ansM m (.worst k) = [s, worstOf m s - 1].map fun n : Nat => (n : Int)) := by
  have e : ((Kh399.sets m.abs k).map fun s => (s, ((m.abs.guesses.filter fun h => Kh399.fits m.abs h s).map fun h => Kh399.wrongs m.abs h + 1).foldl max 0)) = (setsN m.n k).map fun s => (s, worstOf m s) := by
    rw [sets_N (a := m.abs) o.n8]
    apply List.map_congr_left
    intro s hs
    have hs' := (setsN_mem.mp hs).1
    congr 1
    unfold worstOf
    have e1 : (m.abs.guesses.filter fun h => Kh399.fits m.abs h s) = m.gs.filter fun h => fitp m h s := by
      apply List.filter_congr
      intro x hx
      exact fits_p o (o.gs _ hx) hs'
    rw [e1]
    congr 1
    apply List.map_congr_left
    intro x hx
    rw [wrongs_err o (o.gs _ (List.mem_filter.mp hx).1)]
  have ne : ((setsN m.n k).map fun s => (s, worstOf m s)) ≠ [] := fun z => setsN_some o.n8 h (List.map_eq_nil_iff.mp z)
  obtain ⟨j, x, g, f, lo, le⟩ := first_is _ ne
  rw [List.getElem?_map] at g
  cases gj : (setsN m.n k)[j]? with
  | none =>
    rw [gj] at g
    cases g
  | some s =>
    rw [gj] at g
    cases g
    have at_ : ∀ (i : Nat) s', (setsN m.n k)[i]? = some s' → ((setsN m.n k).map fun s => (s, worstOf m s))[i]? = some (s', worstOf m s') := fun i s' q => by
      rw [List.getElem?_map, q]
      rfl
    refine ⟨j, s, gj, fun s' hs' => ?_, fun i s' hi q => lo i _ hi (at_ i s' q), fun c => ?_, fun c => ?_⟩
    · obtain ⟨i, q⟩ := List.getElem?_of_mem hs'
      exact le i _ (at_ i s' q)
    · rw [ans_of hn (by intro _ _ z; cases z)]
      have cc : ¬ m.abs.n < k := by show ¬ m.n < k; omega
      simp only [Kh399.does, cc, if_false, e, f, c, if_true]
      rfl
    · rw [ans_of hn (by intro _ _ z; cases z)]
      have cc : ¬ m.abs.n < k := by show ¬ m.n < k; omega
      simp only [Kh399.does, cc, if_false, e, f, c]
      rfl
end
end Pc


set_option Elab.async false
set_option linter.all false
set_option maxRecDepth 100000
/-! tells, hardest. -/
namespace Pm
open Kh399
theorem setsN_lt (n k : Nat) : (setsN n k).Pairwise (· < ·) := List.Pairwise.filter _ List.pairwise_lt_range
theorem find_least {l : List Nat} {p : Nat → Bool} {b : Nat} (hl : l.Pairwise (· < ·)) (h : l.find? p = some b) : p b = true ∧ b ∈ l ∧ ∀ s ∈ l, p s = true → b ≤ s := by
  obtain ⟨hp, as, bs, e, na⟩ := List.find?_eq_some_iff_append.mp h
  subst e
  refine ⟨hp, List.mem_append_right _ (List.mem_cons_self ..), fun s hs q => ?_⟩
  rcases List.mem_append.mp hs with c | c
  · have := na s c
    rw [q] at this
    cases this
  · rcases List.mem_cons.mp c with c | c
    · exact Nat.le_of_eq c.symm
    · exact Nat.le_of_lt ((List.pairwise_cons.mp (List.pairwise_append.mp hl).2.1).1 s c)
theorem some_least {β : Type} {f : Nat → Option β} {b : β} : ∀ {N : Nat}, (List.range N).findSome? f = some b → ∃ k, k < N ∧ f k = some b ∧ ∀ j, j < k → f j = none
  | 0, h => by cases h
  | N + 1, h => by
    rw [List.range_succ, List.findSome?_append] at h
    cases q : (List.range N).findSome? f with
    | some x =>
      rw [q] at h
      cases h
      obtain ⟨k, h1, h2, h3⟩ := some_least q
      exact ⟨k, by omega, h2, h3⟩
    | none =>
      rw [q] at h
      have h' : [N].findSome? f = some b := h
      rw [List.findSome?_cons] at h'
      cases r : f N with
      | none =>
        rw [r] at h'
        cases h'
      | some x =>
        rw [r] at h'
        cases h'
        exact ⟨N, by omega, r, fun j hj => List.findSome?_eq_none_iff.mp q j (List.mem_range.mpr hj)⟩
/-- the first of the greatest, by the places of a list -/
theorem first_at (l : List Nat) (F : Nat → Nat) (h : l ≠ []) : ∃ (j g : Nat), l[j]? = some g ∧ firstMost (l.zipIdx.map fun x => (x.2, F x.1)) = some (j, F g) ∧
    (∀ g' ∈ l, F g' ≤ F g) ∧ ∀ (i g' : Nat), i < j → l[i]? = some g' → F g' < F g := by
  have at_ : ∀ (i g' : Nat), l[i]? = some g' → (l.zipIdx.map fun x => (x.2, F x.1))[i]? = some (i, F g') := fun i g' q => by
    rw [List.getElem?_map, List.getElem?_zipIdx, q]
    simp
  have ne : (l.zipIdx.map fun x => (x.2, F x.1)) ≠ [] := fun e => by
    rw [List.map_eq_nil_iff, List.zipIdx_eq_nil_iff] at e
    exact h e
  obtain ⟨j, x, g, f, lo, le⟩ := first_is _ ne
  have jl : j < l.length := by
    have := (List.getElem?_eq_some_iff.mp g).1
    rwa [List.length_map, List.length_zipIdx] at this
  have gj := List.getElem?_eq_getElem jl
  have ex : x = (j, F l[j]) := Option.some.inj (g.symm.trans (at_ j _ gj))
  subst ex
  refine ⟨j, l[j], gj, f, fun g' hg => ?_, fun i g' hi q => lo i _ hi (at_ i g' q)⟩
  obtain ⟨i, q⟩ := List.getElem?_of_mem hg
  exact le i _ (at_ i g' q)
end Pm
namespace Pc
open Pm
section
variable {m : M}
/-- on s the guess g says otherwise than each other one -/
def tellp (m : M) (g s : Nat) : Bool := m.gs.all fun h => h == g || !((h ^^^ g) &&& s == 0)
theorem xor_and (h g s : Nat) : ((h ^^^ g) &&& s = 0) ↔ s &&& h = s &&& g := by
  constructor
  · intro e
    apply Nat.eq_of_testBit_eq
    intro i
    have b : ((h ^^^ g) &&& s).testBit i = false := by rw [e]; exact Nat.zero_testBit i
    rw [Nat.testBit_and, Nat.testBit_xor] at b
    rw [Nat.testBit_and, Nat.testBit_and]
    revert b
    cases s.testBit i <;> cases h.testBit i <;> cases g.testBit i <;> decide
  · intro e
    apply Nat.eq_of_testBit_eq
    intro i
    have b : (s &&& h).testBit i = (s &&& g).testBit i := by rw [e]
    rw [Nat.testBit_and, Nat.testBit_and] at b
    rw [Nat.zero_testBit, Nat.testBit_and, Nat.testBit_xor]
    revert b
    cases s.testBit i <;> cases h.testBit i <;> cases g.testBit i <;> decide
theorem tell_is (m : M) (g : Nat) {s : Nat} (hs : s < 2 ^ m.n) : (m.abs.guesses.all fun h => h == g || Kh399.meet m.abs s h != Kh399.meet m.abs s g) = tellp m g s := by
  unfold tellp
  show (m.gs.all _) = _
  congr 1
  funext h
  rw [meet_and (a := m.abs) h hs, meet_and (a := m.abs) g hs]
  congr 1
  show (!(s &&& h == s &&& g)) = _
  congr 1
  rw [Bool.eq_iff_iff, beq_iff_eq, beq_iff_eq]
  exact (xor_and h g s).symm
theorem tell_full (o : m.Ok) {g : Nat} (hg : g ∈ m.gs) : tellp m g (2 ^ m.n - 1) = true := by
  unfold tellp
  rw [List.all_eq_true]
  intro h hh
  by_cases e : h = g
  · subst e
    simp
  · rw [Bool.or_eq_true]
    right
    rw [Bool.not_eq_true', beq_eq_false_iff_ne]
    intro z
    rw [Nat.and_two_pow_sub_one_eq_mod, Nat.mod_eq_of_lt (Nat.xor_lt_two_pow (o.gs h hh) (o.gs g hg))] at z
    apply e
    have q : h ^^^ g ^^^ g = 0 ^^^ g := by rw [z]
    rw [Nat.xor_assoc, Nat.xor_self, Nat.xor_zero, Nat.zero_xor] at q
    exact q
/-- the least set that tells: by size, then by number -/
structure Least (m : M) (g s : Nat) : Prop where
  lt : s < 2 ^ m.n
  tell : tellp m g s = true
  le : ∀ x, x < 2 ^ m.n → tellp m g x = true → sz s < sz x ∨ (sz s = sz x ∧ s ≤ x)
theorem tells_is (o : m.Ok) {g : Nat} (hg : g ∈ m.gs) : ∃ s, Kh399.tells m.abs g = some s ∧ Least m g s := by
  have inner : ∀ k, ((Kh399.sets m.abs k).find? fun s => m.abs.guesses.all fun h => h == g || Kh399.meet m.abs s h != Kh399.meet m.abs s g) = (setsN m.n k).find? (tellp m g) := by
    intro k
    rw [sets_N (a := m.abs) o.n8]
    apply find_congr
    intro s hs
    exact tell_is m g (setsN_mem.mp hs).1
  have e : Kh399.tells m.abs g = (List.range (m.n + 1)).findSome? fun k => (setsN m.n k).find? (tellp m g) := by
    unfold Kh399.tells
    show (List.range (m.n + 1)).findSome? _ = _
    congr 1
    funext k
    exact inner k
  have full : 2 ^ m.n - 1 < 2 ^ m.n := Nat.sub_lt (Nat.two_pow_pos _) Nat.one_pos
  cases q : (List.range (m.n + 1)).findSome? fun k => (setsN m.n k).find? (tellp m g) with
  | none =>
    have := List.findSome?_eq_none_iff.mp q m.n (List.mem_range.mpr (Nat.lt_succ_self _))
    have := List.find?_eq_none.mp this (2 ^ m.n - 1) (setsN_mem.mpr ⟨full, sz_ones o.n8⟩)
    exact absurd (tell_full o hg) this
  | some s =>
    obtain ⟨k, hk, hf, hn⟩ := some_least q
    obtain ⟨hp, hm, hl⟩ := find_least (setsN_lt _ _) hf
    obtain ⟨h1, h2⟩ := setsN_mem.mp hm
    refine ⟨s, e.trans q, h1, hp, fun x hx ht => ?_⟩
    rcases Nat.lt_trichotomy (sz s) (sz x) with c | c | c
    · exact .inl c
    · exact .inr ⟨c, hl x (setsN_mem.mpr ⟨hx, c ▸ h2⟩) ht⟩
    · have := List.find?_eq_none.mp (hn (sz x) (by omega)) x (setsN_mem.mpr ⟨hx, rfl⟩)
      exact absurd ht this
theorem Least.unique {g s x : Nat} (a : Least m g s) (b : Least m g x) : s = x := by
  have h1 := a.le x b.lt b.tell
  have h2 := b.le s a.lt a.tell
  omega
/-- how many cases tell -/
def tl (m : M) (g : Nat) : Nat := ((Kh399.tells m.abs g).map (Kh399.size m.abs)).getD 0
theorem tl_is (o : m.Ok) {g s : Nat} (hg : g ∈ m.gs) (h : Least m g s) : tl m g = sz s := by
  obtain ⟨x, e, l⟩ := tells_is o hg
  have := l.unique h
  subst this
  unfold tl
  rw [e]
  exact size_sz (a := m.abs) o.n8 l.lt
theorem getD_mem {i : Nat} (h : i < m.gs.length) : m.gs.getD i 0 ∈ m.gs := by
  rw [List.getD_eq_getElem?_getD, List.getElem?_eq_getElem h]
  exact List.getElem_mem h
theorem due_tells {i s : Nat} (o : m.Ok) (hn : m.n ≠ 0) (h : i < m.gs.length) (hs : Least m (m.gs.getD i 0) s) : ansM m (.tells i) = [sz s, s].map fun n : Nat => (n : Int) := by
  rw [ans_of hn (by intro _ _ z; cases z)]
  obtain ⟨x, e, l⟩ := tells_is o (getD_mem h)
  have := l.unique hs
  subst this
  have e' : Kh399.tells m.abs (Kh399.at_ m.abs i) = some x := e
  simp only [Kh399.does, isG_t h, e', size_sz (a := m.abs) o.n8 l.lt]
  rfl
theorem due_hardest (hn : m.n ≠ 0) : (m.gs = [] → ansM m .hardest = [-6]) ∧
    (m.gs ≠ [] → ∃ (j g : Nat), m.gs[j]? = some g ∧ (∀ g' ∈ m.gs, tl m g' ≤ tl m g) ∧ (∀ (i g' : Nat), i < j → m.gs[i]? = some g' → tl m g' < tl m g) ∧ ansM m .hardest = [j, tl m g].map fun n : Nat => (n : Int)) := by
  rw [ans_of hn (by intro _ _ z; cases z)]
  have e : m.abs.guesses = m.gs := rfl
  refine ⟨fun c => ?_, fun c => ?_⟩
  · simp only [Kh399.does, e, c]
    rfl
  · obtain ⟨j, g, gj, f, le, lo⟩ := first_at m.gs (tl m) c
    refine ⟨j, g, gj, le, lo, ?_⟩
    have f' : Kh399.firstMost (m.gs.zipIdx.map fun x => (x.2, ((Kh399.tells m.abs x.1).map (Kh399.size m.abs)).getD 0)) = some (j, tl m g) := f
    simp only [Kh399.does, e, f']
    rfl
end
end Pc


set_option Elab.async false
set_option linter.all false
set_option maxRecDepth 100000
/-! The second stage: what the program's own helpers come to, beside what is due. -/
namespace Pm
open Kh399
/-! ### how many sets -/
theorem choose_big : ∀ {n k : Nat}, n < k → choose n k = 0
  | 0, k + 1, _ => rfl
  | n + 1, k + 1, h => by
    show choose n k + choose n (k + 1) = 0
    rw [choose_big (n := n) (k := k) (by omega), choose_big (n := n) (k := k + 1) (by omega)]
theorem choose_le : ∀ n k : Nat, choose n k ≤ 2 ^ n
  | n, 0 => by
    rw [choose_zero]
    exact Nat.one_le_two_pow
  | 0, k + 1 => Nat.zero_le _
  | n + 1, k + 1 => by
    show choose n k + choose n (k + 1) ≤ _
    have h1 := choose_le n k
    have h2 := choose_le n (k + 1)
    rw [Nat.pow_succ]
    omega
theorem choose_step : ∀ n k : Nat, choose n (k + 1) * (k + 1) = choose n k * (n - k)
  | 0, k => by
    show 0 * (k + 1) = _
    rw [Nat.zero_sub, Nat.zero_mul, Nat.mul_zero]
  | n + 1, 0 => by
    have ih := choose_step n 0
    show (choose n 0 + choose n (0 + 1)) * (0 + 1) = choose (n + 1) 0 * (n + 1 - 0)
    rw [choose_zero, choose_zero] at *
    omega
  | n + 1, j + 1 => by
    have h1 := choose_step n j
    have h2 := choose_step n (j + 1)
    show (choose n (j + 1) + choose n (j + 1 + 1)) * (j + 1 + 1) = (choose n j + choose n (j + 1)) * (n + 1 - (j + 1))
    rw [Nat.add_mul, h2, Nat.add_mul, show n + 1 - (j + 1) = n - j by omega, ← h1, ← Nat.mul_add, ← Nat.mul_add]
    rcases Nat.lt_or_ge j n with c | c
    · congr 1
      omega
    · rw [choose_big (n := n) (k := j + 1) (by omega), Nat.zero_mul, Nat.zero_mul]
/-- one turn of the program's count -/
theorem many_turn (n i : Nat) : (choose n i : Int) * ((n : Int) - (i : Int)) / ((i : Int) + 1) = (choose n (i + 1) : Int) := by
  rcases Nat.lt_or_ge n i with c | c
  · rw [choose_big c, choose_big (Nat.lt_succ_of_lt c)]
    simp
  · have e : (choose n i : Int) * ((n : Int) - (i : Int)) = (choose n (i + 1) : Int) * ((i : Int) + 1) := by
      rw [← Int.ofNat_sub c]
      have h := choose_step n i
      have h' : ((choose n (i + 1) * (i + 1) : Nat) : Int) = ((choose n i * (n - i) : Nat) : Int) := by rw [h]
      rw [Int.natCast_mul, Int.natCast_mul] at h'
      exact h'.symm
    rw [e]
    exact Int.mul_ediv_cancel _ (by omega)
theorem fewWays_le {n d : Nat} : fewWays n d = ((List.range (d + 1)).map (choose n)).sum := rfl
end Pm
namespace Pc
open Pm
section
variable {m : M}
theorem due_few {n d : Nat} (hn : m.n ≠ 0) : (40 < n ∨ 40 < d → ansM m (.fewWays n d) = [-22]) ∧
    (¬ (40 < n ∨ 40 < d) → ansM m (.fewWays n d) = [((List.range (d + 1)).map (Kh399.choose n)).sum].map fun n : Nat => (n : Int)) := by
  rw [ans_of hn (by intro _ _ z; cases z)]
  refine ⟨fun c => ?_, fun c => ?_⟩
  · simp only [Kh399.does, c, if_true]
    rfl
  · simp only [Kh399.does, c, if_false]
    rfl
/-! ### the sets on which the guesses are wrong -/
def wsM (m : M) : List Nat := m.gs.map fun x => x ^^^ m.t
def fitL (l : List Nat) (s : Nat) : List Nat := (List.range l.length).filter fun i => l.getD i 0 &&& s == 0
def wsAt (m : M) (e : Nat) : List Nat := (wsM m).filter fun w => decide (e ≤ sz w)
theorem ws_lt (o : m.Ok) : ∀ x ∈ wsM m, x < 2 ^ m.n := fun x hx => by
  obtain ⟨g, hg, rfl⟩ := List.mem_map.mp hx
  exact Nat.xor_lt_two_pow (o.gs g hg) o.t
theorem ws_len (m : M) : (wsM m).length = m.gs.length := List.length_map _
theorem fitL_mem {l : List Nat} {s i : Nat} : i ∈ fitL l s ↔ i < l.length ∧ l.getD i 0 &&& s = 0 := by
  unfold fitL
  rw [List.mem_filter, List.mem_range, beq_iff_eq]
theorem getD_in {l : List Nat} {i : Nat} (h : i < l.length) : l.getD i 0 ∈ l := by
  rw [List.getD_eq_getElem?_getD, List.getElem?_eq_getElem h]
  exact List.getElem_mem h
theorem fitL_pos {l : List Nat} {s : Nat} : 0 < (fitL l s).length ↔ ∃ w ∈ l, w &&& s = 0 := by
  rw [List.length_pos_iff_exists_mem]
  constructor
  · rintro ⟨i, hi⟩
    obtain ⟨h1, h2⟩ := fitL_mem.mp hi
    exact ⟨_, getD_in h1, h2⟩
  · rintro ⟨w, hw, e⟩
    obtain ⟨i, hi, rfl⟩ := List.getElem_of_mem hw
    refine ⟨i, fitL_mem.mpr ⟨hi, ?_⟩⟩
    rw [List.getD_eq_getElem?_getD, List.getElem?_eq_getElem hi]
    exact e
theorem pmis_pos (m : M) (e s : Nat) : decide (0 < (fitL (wsAt m e) s).length) = pmis m e s := by
  rw [Bool.eq_iff_iff, decide_eq_true_eq, fitL_pos]
  unfold pmis wsAt wsM
  rw [List.any_eq_true]
  constructor
  · rintro ⟨w, hw, z⟩
    obtain ⟨h1, h2⟩ := List.mem_filter.mp hw
    obtain ⟨g, hg, rfl⟩ := List.mem_map.mp h1
    refine ⟨g, hg, ?_⟩
    rw [Bool.and_eq_true]
    exact ⟨by unfold fitp; rw [z]; rfl, h2⟩
  · rintro ⟨g, hg, z⟩
    rw [Bool.and_eq_true] at z
    refine ⟨g ^^^ m.t, List.mem_filter.mpr ⟨List.mem_map.mpr ⟨g, hg, rfl⟩, z.2⟩, ?_⟩
    have := z.1
    unfold fitp at this
    exact beq_iff_eq.mp this
/-- places, told apart by what stands there -/
theorem zip_range : ∀ (l : List Nat) (k : Nat) (p : Nat → Bool), ((l.zipIdx k).filter fun x => p x.1).map (fun x => x.2) = ((List.range l.length).filter fun i => p (l.getD i 0)).map (· + k)
  | [], _, _ => rfl
  | a :: r, k, p => by
    have ih := zip_range r (k + 1) p
    rw [List.zipIdx_cons, List.length_cons, List.range_succ_eq_map, List.filter_cons, List.filter_cons, List.filter_map]
    have e : ((List.range r.length).filter ((fun i => p ((a :: r).getD i 0)) ∘ Nat.succ)) = (List.range r.length).filter fun i => p (r.getD i 0) := by
      apply List.filter_congr
      intro i _
      rfl
    rw [e]
    have e2 : ∀ l : List Nat, (l.map Nat.succ).map (· + k) = l.map (· + (k + 1)) := by
      intro l
      rw [List.map_map]
      apply List.map_congr_left
      intro i _
      show i + 1 + k = i + (k + 1)
      omega
    show (if p a = true then _ else _ : List (Nat × Nat)).map _ = (if p a = true then _ else _ : List Nat).map _
    cases p a with
    | true =>
      rw [if_pos rfl, if_pos rfl, List.map_cons, List.map_cons, ih, e2, Nat.zero_add]
    | false =>
      rw [if_neg (by decide), if_neg (by decide), ih, e2]
theorem ws_getD {i : Nat} (h : i < m.gs.length) : (wsM m).getD i 0 = m.gs.getD i 0 ^^^ m.t := by
  unfold wsM
  rw [List.getD_eq_getElem?_getD, List.getD_eq_getElem?_getD, List.getElem?_map, List.getElem?_eq_getElem h]
  rfl
theorem pfit_fitL (m : M) (s : Nat) : pfit m s = fitL (wsM m) s := by
  unfold pfit fitL
  rw [zip_range m.gs 0 (fun g => fitp m g s), ws_len]
  rw [show (fun x : Nat => x + 0) = id from rfl, List.map_id]
  apply List.filter_congr
  intro i hi
  rw [ws_getD (List.mem_range.mp hi)]
  rfl
/-- the guesses that mislead, by their numbers -/
def misL (m : M) (e s : Nat) : List Nat := (fitL (wsM m) s).filter fun i => decide (e ≤ sz ((wsM m).getD i 0))
theorem find_head {α : Type} (p : α → Bool) : ∀ l : List α, l.find? p = (l.filter p).head?
  | [] => rfl
  | a :: r => by
    rw [List.find?_cons, List.filter_cons]
    cases p a with
    | true => rfl
    | false => exact find_head p r
theorem misL_is (m : M) (e s : Nat) : misL m e s = (m.gs.zipIdx.filter fun x => fitp m x.1 s && decide (e ≤ err m x.1)).map fun x => x.2 := by
  rw [zip_range m.gs 0 (fun g => fitp m g s && decide (e ≤ err m g))]
  rw [show (fun x : Nat => x + 0) = id from rfl, List.map_id]
  unfold misL fitL
  rw [List.filter_filter, ws_len]
  apply List.filter_congr
  intro i hi
  rw [ws_getD (List.mem_range.mp hi), Bool.and_comm]
  rfl
theorem misBy_none (m : M) (e s : Nat) (h : misL m e s = []) : pmisBy m e s = none := by
  unfold pmisBy
  rw [find_head]
  rw [misL_is, List.map_eq_nil_iff] at h
  rw [h]
  rfl
theorem misBy_some (m : M) (e s : Nat) (h : misL m e s ≠ []) : ∃ x, pmisBy m e s = some x ∧ (misL m e s).getD 0 0 = x.2 := by
  unfold pmisBy
  rw [find_head]
  rw [misL_is] at h ⊢
  cases q : m.gs.zipIdx.filter fun x => fitp m x.1 s && decide (e ≤ err m x.1) with
  | nil =>
    rw [q] at h
    exact absurd rfl h
  | cons x r => exact ⟨x, rfl, rfl⟩
/-! ### worst -/
def mostW (m : M) (s : Nat) : Nat := ((fitL (wsM m) s).map fun i => sz ((wsM m).getD i 0)).foldl max 0
theorem fit_counts (m : M) (s : Nat) : (m.gs.filter fun h => fitp m h s).map (err m) = (fitL (wsM m) s).map fun i => sz ((wsM m).getD i 0) := by
  have e1 : ∀ l : List Nat, (List.range l.length).map (fun i => l.getD i 0) = l := by
    intro l
    apply List.ext_getElem
    · simp
    · intro i h1 h2
      simp [h2]
  unfold fitL
  conv => lhs; rw [← e1 m.gs]
  rw [List.filter_map, List.map_map, ws_len]
  have e2 : (List.range m.gs.length).filter ((fun h => fitp m h s) ∘ fun i => m.gs.getD i 0) = (List.range m.gs.length).filter fun i => (wsM m).getD i 0 &&& s == 0 := by
    apply List.filter_congr
    intro i hi
    rw [ws_getD (List.mem_range.mp hi)]
    rfl
  rw [e2]
  apply List.map_congr_left
  intro i hi
  have hi' := List.mem_range.mp (List.mem_filter.mp hi).1
  show err m (m.gs.getD i 0) = _
  rw [ws_getD hi']
  rfl
theorem max_succ {l : List Nat} (h : l ≠ []) : (l.map (· + 1)).foldl max 0 = l.foldl max 0 + 1 := by
  refine max_is (List.mem_map.mpr ⟨_, max_in h, rfl⟩) fun x hx => ?_
  obtain ⟨y, hy, rfl⟩ := List.mem_map.mp hx
  have := max_le hy
  omega
theorem worst_most (m : M) (s : Nat) : (pmis m 0 s = true → worstOf m s = mostW m s + 1 ∧ fitL (wsM m) s ≠ []) ∧ (pmis m 0 s = false → worstOf m s = 0) := by
  have w0 : wsAt m 0 = wsM m := List.filter_eq_self.mpr fun w _ => decide_eq_true (Nat.zero_le _)
  have e : worstOf m s = (((fitL (wsM m) s).map fun i => sz ((wsM m).getD i 0)).map (· + 1)).foldl max 0 := by
    unfold worstOf
    rw [← fit_counts, List.map_map]
    rfl
  have q := pmis_pos m 0 s
  rw [w0] at q
  refine ⟨fun c => ?_, fun c => ?_⟩
  · rw [c, decide_eq_true_eq] at q
    have ne : fitL (wsM m) s ≠ [] := List.length_pos_iff.mp q
    refine ⟨?_, ne⟩
    rw [e, max_succ fun z => ne (List.map_eq_nil_iff.mp z)]
    rfl
  · rw [c, decide_eq_false_iff_not] at q
    have z : fitL (wsM m) s = [] := List.length_eq_zero_iff.mp (by omega)
    rw [e, z]
    rfl
/-- the first of the greatest, of those that are asked -/
theorem first_filter (l : List Nat) (p : Nat → Bool) (F : Nat → Nat) {j s : Nat} (hj : l[j]? = some s) (hp : p s = true) (lo : ∀ (i s' : Nat), i < j → l[i]? = some s' → p s' = true → F s' < F s) :
    ∃ j', (l.filter p)[j']? = some s ∧ ∀ (i s' : Nat), i < j' → (l.filter p)[i]? = some s' → F s' < F s := by
  have jl : j < l.length := (List.getElem?_eq_some_iff.mp hj).1
  have hs : l[j] = s := (List.getElem?_eq_some_iff.mp hj).2
  have e : l = l.take j ++ s :: l.drop (j + 1) := by
    conv => lhs; rw [← List.take_append_drop j l, List.drop_eq_getElem_cons jl, hs]
  have ef : l.filter p = (l.take j).filter p ++ s :: (l.drop (j + 1)).filter p := by
    have z := congrArg (List.filter p) e
    rw [List.filter_append, List.filter_cons, if_pos hp] at z
    exact z
  refine ⟨((l.take j).filter p).length, ?_, fun i s' hi q => ?_⟩
  · rw [ef, List.getElem?_append_right (Nat.le_refl _), Nat.sub_self]
    rfl
  · rw [ef, List.getElem?_append_left hi] at q
    have hm := List.mem_of_getElem? q
    obtain ⟨h1, h2⟩ := List.mem_filter.mp hm
    obtain ⟨i', hi', q'⟩ := List.getElem_of_mem h1
    have li : i' < j := by
      rw [List.length_take] at hi'
      omega
    refine lo i' s' li ?_ h2
    rw [List.getElem_take] at q'
    rw [List.getElem?_eq_getElem (by omega), q']
def samplesW (m : M) (k : Nat) : List Nat := (setsN m.n k).filter (pmis m 0)
theorem worst_is {k : Nat} (o : m.Ok) (hn : m.n ≠ 0) (h : k ≤ m.n) : (samplesW m k = [] → ansM m (.worst k) = [-33]) ∧
    (samplesW m k ≠ [] → ∃ j s, (samplesW m k)[j]? = some s ∧ (∀ x ∈ (samplesW m k).map (mostW m), x ≤ mostW m s) ∧ (∀ (i x : Nat), i < j → ((samplesW m k).map (mostW m))[i]? = some x → x ≠ mostW m s) ∧
      ansM m (.worst k) = [s, mostW m s].map fun n : Nat => (n : Int)) := by
  obtain ⟨j, s, gj, le, lo, a0, a1⟩ := due_worst o hn h
  refine ⟨fun c => a0 ?_, fun c => ?_⟩
  · refine (worst_most m s).2 ?_
    rw [Bool.eq_false_iff]
    intro z
    have : s ∈ samplesW m k := List.mem_filter.mpr ⟨List.mem_of_getElem? gj, z⟩
    rw [c] at this
    cases this
  · obtain ⟨y, hy⟩ := List.exists_mem_of_ne_nil _ c
    obtain ⟨y1, y2⟩ := List.mem_filter.mp hy
    have wy := ((worst_most m y).1 y2).1
    have ly := le y y1
    have ps : pmis m 0 s = true := by
      cases z : pmis m 0 s with
      | true => rfl
      | false =>
        have := (worst_most m s).2 z
        omega
    have ws := ((worst_most m s).1 ps).1
    obtain ⟨j', g', lo'⟩ := first_filter (setsN m.n k) (pmis m 0) (mostW m) gj ps fun i s' hi q p' => by
      have h1 := lo i s' hi q
      have h2 := ((worst_most m s').1 p').1
      omega
    refine ⟨j', s, g', fun x hx => ?_, fun i x hi q => ?_, ?_⟩
    · obtain ⟨s', hs', rfl⟩ := List.mem_map.mp hx
      obtain ⟨p1, p2⟩ := List.mem_filter.mp hs'
      have h1 := le s' p1
      have h2 := ((worst_most m s').1 p2).1
      omega
    · rw [List.getElem?_map] at q
      cases z : (samplesW m k)[i]? with
      | none =>
        rw [z] at q
        cases q
      | some s' =>
        rw [z] at q
        cases q
        have h1 : mostW m s' < mostW m s := lo' i s' hi z
        show mostW m s' ≠ mostW m s
        omega
    · rw [a1 (by omega), ws, Nat.add_sub_cancel]
/-! ### guess by guess -/
theorem due_byOne2 {k e : Nat} (o : m.Ok) (hn : m.n ≠ 0) (h : k ≤ m.n) : ansM m (.byOne k e) = [((wsAt m e).map fun w => Kh399.choose (m.n - sz w) k).sum].map fun n : Nat => (n : Int) := by
  rw [due_byOne o hn h]
  have q : pby m k e = ((wsAt m e).map fun w => Kh399.choose (m.n - sz w) k).sum := by
    rw [← byOne_p o]
    unfold Kh399.byOne wsAt wsM
    rw [List.filter_map, List.map_map]
    have e1 : (m.abs.guesses.filter fun h => decide (e ≤ Kh399.wrongs m.abs h)) = m.gs.filter ((fun w => decide (e ≤ sz w)) ∘ fun x => x ^^^ m.t) := by
      apply List.filter_congr
      intro x hx
      rw [wrongs_err o (o.gs _ hx)]
      rfl
    rw [e1]
    congr 1
    apply List.map_congr_left
    intro x hx
    rw [wrongs_err o (o.gs _ (List.mem_filter.mp hx).1)]
    rfl
  rw [q]
/-! ### what tells -/
def diffs (m : M) (g : Nat) : List Nat := (m.gs.filter fun h => !(h == g)).map fun h => h ^^^ g
theorem tell_diffs (m : M) (g s : Nat) : ((diffs m g).map fun d => !(d &&& s == 0)).all id = tellp m g s := by
  unfold diffs tellp
  rw [List.all_map, List.all_map, List.all_filter]
  congr 1
  funext h
  show (!(!(h == g)) || !((h ^^^ g) &&& s == 0)) = _
  rw [Bool.not_not]
def tellL (m : M) (g : Nat) : List Nat := (List.range (2 ^ m.n)).filter (tellp m g)
/-- the first of the least by size is the least that tells -/
theorem least_of {g i s : Nat} (gi : (tellL m g)[i]? = some s) (le : ∀ (j x : Nat), (tellL m g)[j]? = some x → sz s ≤ sz x ∧ (j < i → sz s < sz x)) : Least m g s := by
  have hm := List.mem_of_getElem? gi
  obtain ⟨h1, h2⟩ := List.mem_filter.mp hm
  refine ⟨List.mem_range.mp h1, h2, fun x hx ht => ?_⟩
  have mx : x ∈ tellL m g := List.mem_filter.mpr ⟨List.mem_range.mpr hx, ht⟩
  obtain ⟨j, hj, ej⟩ := List.getElem_of_mem mx
  have gj : (tellL m g)[j]? = some x := by rw [List.getElem?_eq_getElem hj, ej]
  obtain ⟨l1, l2⟩ := le j x gj
  rcases Nat.lt_or_ge j i with c | c
  · exact .inl (l2 c)
  · rcases Nat.lt_or_ge (sz s) (sz x) with d | d
    · exact .inl d
    · refine .inr ⟨by omega, ?_⟩
      rcases Nat.eq_or_lt_of_le c with e | e
      · subst e
        rw [gi] at gj
        cases gj
        exact Nat.le_refl _
      · have pw : (tellL m g).Pairwise (· < ·) := List.Pairwise.filter _ List.pairwise_lt_range
        have il := (List.getElem?_eq_some_iff.mp gi).1
        have := List.pairwise_iff_getElem.mp pw i j il hj e
        rw [ej, (List.getElem?_eq_some_iff.mp gi).2] at this
        omega
theorem tellL_ne (o : m.Ok) {g : Nat} (hg : g ∈ m.gs) : tellL m g ≠ [] := fun e => by
  have : 2 ^ m.n - 1 ∈ tellL m g := List.mem_filter.mpr ⟨List.mem_range.mpr (Nat.sub_lt (Nat.two_pow_pos _) Nat.one_pos), tell_full o hg⟩
  rw [e] at this
  cases this
end
end Pc


set_option Elab.async false
set_option linter.all false
set_option maxRecDepth 100000
set_option maxHeartbeats 3000000
/-! What the layer's readings give, for whole numbers from 0 on. -/
namespace Pc
open PySem PySem.Spec PyProof.Rows L2 Evl
abbrev vN (n : Nat) : V := .int (n : Int)
section
variable {K : PySem.W.Frag} {σ : L2.St} {H H' : Hp} {ta tb te tl : TE} {t : TT}
theorem and_N (x y : Nat) : Builtin.bitAnd (x : Int) (y : Int) = ((x &&& y : Nat) : Int) := rfl
theorem xor_N (x y : Nat) : Builtin.bitXor (x : Int) (y : Int) = ((x ^^^ y : Nat) : Int) := by
  rw [Bits.bitXor_pp (by omega) (by omega), Int.toNat_natCast, Int.toNat_natCast]
theorem shr_N (x y : Nat) : (x : Int) / 2 ^ (y : Int).toNat = ((x / 2 ^ y : Nat) : Int) := by
  rw [Int.toNat_natCast, Int.natCast_ediv, Int.natCast_pow]
  rfl
theorem shl_N (x y : Nat) : (x : Int) * 2 ^ (y : Int).toNat = ((x * 2 ^ y : Nat) : Int) := by
  rw [Int.toNat_natCast, Int.natCast_mul, Int.natCast_pow]
  rfl
theorem ev_and {x y : Nat} (ha : Ev ta σ H (vN x)) (hb : Ev tb σ H (vN y)) : Ev (tOp (rI0 fun i j => .int (Builtin.bitAnd i j)) ta tb) σ H (vN (x &&& y)) :=
  ev_op ha hb rv_I0
theorem ev_xor {x y : Nat} (ha : Ev ta σ H (vN x)) (hb : Ev tb σ H (vN y)) : Ev (tOp (rI0 fun i j => .int (Builtin.bitXor i j)) ta tb) σ H (vN (x ^^^ y)) :=
  ev_is (ev_op ha hb rv_I0) (congrArg V.int (xor_N x y))
theorem ev_add {x y : Nat} (ha : Ev ta σ H (vN x)) (hb : Ev tb σ H (vN y)) : Ev (tOp (rI0 fun i j => .int (i + j)) ta tb) σ H (vN (x + y)) :=
  ev_is (ev_op ha hb rv_I0) (congrArg V.int (Int.natCast_add x y).symm)
theorem ev_shr {x y : Nat} (ha : Ev ta σ H (vN x)) (hb : Ev tb σ H (vN y)) :
    Ev (tOp (rI (fun _ j => 0 ≤ j) fun i j => .int (i / 2 ^ j.toNat)) ta tb) σ H (vN (x / 2 ^ y)) :=
  ev_is (ev_op ha hb (rv_I (by omega))) (congrArg V.int (shr_N x y))
theorem ev_shl {x y : Nat} (hx : x < 2 ^ 64) (hy : y ≤ 1000000) (ha : Ev ta σ H (vN x)) (hb : Ev tb σ H (vN y)) :
    Ev (tOp (rI (fun i j => 0 ≤ j ∧ j ≤ 1000000 ∧ i.natAbs < 2 ^ 64) fun i j => .int (i * 2 ^ j.toNat)) ta tb) σ H (vN (x * 2 ^ y)) :=
  ev_is (ev_op ha hb (rv_I ⟨by omega, by omega, by simpa using hx⟩)) (congrArg V.int (shl_N x y))
theorem vN_inj {x y : Nat} : (vN x = vN y) ↔ x = y := by
  constructor
  · intro h
    exact Int.ofNat.inj (V.int.inj h)
  · intro h
    rw [h]
theorem ev_eqN {x y : Nat} (ha : Ev ta σ H (vN x)) (hb : Ev tb σ H (vN y)) : Ev (tOp rEq ta tb) σ H (.bl (x == y)) := by
  refine ev_is (ev_op ha hb (rv_eq rfl)) (congrArg V.bl ?_)
  rw [Bool.eq_iff_iff, decide_eq_true_eq, vN_inj, beq_iff_eq]
theorem ev_neN {x y : Nat} (ha : Ev ta σ H (vN x)) (hb : Ev tb σ H (vN y)) : Ev (tOp rNe ta tb) σ H (.bl (!(x == y))) := by
  refine ev_is (ev_op ha hb (rv_ne rfl)) (congrArg V.bl (congrArg not ?_))
  rw [Bool.eq_iff_iff, decide_eq_true_eq, vN_inj, beq_iff_eq]
theorem ev_bits {x : Nat} (ha : Ev ta σ H (vN x)) : Ev (tBits ta) σ H (vN (Builtin.Int.intBits (x : Int))) := fun H1 e Q q =>
  ha H1 e _ fun H2 e2 => ⟨x, rfl, q H2 e2⟩
theorem bits_lt (x : Nat) : x < 2 ^ Builtin.Int.intBits (x : Int) := by
  unfold Builtin.Int.intBits
  by_cases h : x = 0
  · subst h
    decide
  · rw [if_neg (by simpa using h), Int.natAbs_natCast]
    exact Nat.lt_log2_self
/-! sums, greatest, least of a new list -/
def rSumS (K : PySem.W.Frag) : List V → Hp → VK → Prop := rSum K
theorem ints_N (l : List Nat) : l.map vN = (l.map fun n : Nat => (n : Int)).map V.int := by
  rw [List.map_map]
  rfl
theorem sum_N : ∀ l : List Nat, (l.map fun n : Nat => (n : Int)).sum = ((l.sum : Nat) : Int)
  | [] => rfl
  | a :: r => by rw [List.map_cons, List.sum_cons, sum_N r, List.sum_cons, Int.natCast_add]
theorem ev_sumN {l : List Nat} (ha : EvL ta σ H (l.map vN)) : Ev (tCB (rSum K) (tCons ta tNil)) σ H (vN l.sum) := fun H1 e Q q =>
  ha H1 e _ fun p H2 _ e2 h2 => ⟨p, _, rfl, sq_of (h2.trans (congrArg (fun z => some (HO.lst z)) (ints_N l))), by
    rw [sum_N]
    exact q H2 e2⟩
theorem ev_maxN {l : List Nat} {m : Nat} (ha : EvL ta σ H (l.map vN)) (hm : m ∈ l) (hg : ∀ x ∈ l, x ≤ m) : Ev (tCB (rMax K) (tCons ta tNil)) σ H (vN m) := fun H1 e Q q =>
  ha H1 e _ fun p H2 _ e2 h2 => ⟨p, _, rfl, sq_of (h2.trans (congrArg (fun z => some (HO.lst z)) (ints_N l))), by
    rw [List.length_map]
    exact List.length_pos_of_mem hm, fun z hz hzg => by
    obtain ⟨k, hk, rfl⟩ := List.mem_map.mp hz
    have h1 := hg k hk
    have h2 := hzg (m : Int) (List.mem_map.mpr ⟨m, hm, rfl⟩)
    have e : k = m := by omega
    subst e
    exact q H2 e2⟩
/-! comprehensions -/
theorem given_list (l : List Nat) (p : Nat → Bool) (g : Nat → V) : given l.length (fun i => p (l.getD i 0)) (fun i => g (l.getD i 0)) = (l.filter p).map g := by
  have e : l = (List.range l.length).map fun i => l.getD i 0 := by
    apply List.ext_getElem
    · simp
    · intro i h1 h2
      simp [h1]
  unfold given
  conv => rhs; rw [e]
  rw [List.filter_map, List.map_map]
  rfl
theorem getD_of {l : List Nat} {i : Nat} {x : V} (h : (l.map vN)[i]? = some x) : x = vN (l.getD i 0) ∧ l.getD i 0 ∈ l := by
  rw [List.getElem?_map] at h
  cases e : l[i]? with
  | none =>
    rw [e] at h
    cases h
  | some y =>
    rw [e] at h
    have hd : l.getD i 0 = y := by rw [List.getD_eq_getElem?_getD, e]; rfl
    rw [hd]
    exact ⟨(Option.some.inj h).symm, List.mem_of_getElem? e⟩
/-- [e for x in l if t], l a list of whole numbers that stands at a -/
theorem el_lcN {a : Addr} {l : List Nat} {j : Nat} {vs : List Nat} (p : Nat → Bool) (g : Nat → V) (h : Ev tl σ H (.ref a)) (hx : SqL K H a (l.map vN)) (hz : l.length ≤ 40000)
    (hw : ∀ x, wipe ((wipe σ vs).set j (some x)) vs = wipe σ vs)
    (ht : ∀ x ∈ l, ∀ H1, Ex H H1 → EvT t ((wipe σ vs).set j (some (vN x))) H1 (p x))
    (he : ∀ x ∈ l, p x = true → ∀ H1, Ex H H1 → Ev te ((wipe σ vs).set j (some (vN x))) H1 (g x)) :
    EvL (tLc (iList K tl) (gName j) t te vs) σ H ((l.filter p).map g) := by
  rw [← given_list]
  have r := el_lcL (K := K) (t := t) (te := te) (fun i => p (l.getD i 0)) (fun i => g (l.getD i 0)) h hx (by rw [List.length_map]; exact hz) hw
    (fun i x H1 e hi => by obtain ⟨rfl, hm⟩ := getD_of hi; exact ht _ hm H1 e) (fun i x H1 e hi hp => by obtain ⟨rfl, hm⟩ := getD_of hi; exact he _ hm hp H1 e)
  rw [List.length_map] at r
  exact r
/-- the same, l made on the way -/
theorem el_lcNN {l : List Nat} {j : Nat} {vs : List Nat} (p : Nat → Bool) (g : Nat → V) (h : EvL tl σ H (l.map vN)) (hz : l.length ≤ 40000)
    (hw : ∀ x, wipe ((wipe σ vs).set j (some x)) vs = wipe σ vs)
    (ht : ∀ x ∈ l, ∀ H1, Ex H H1 → EvT t ((wipe σ vs).set j (some (vN x))) H1 (p x))
    (he : ∀ x ∈ l, p x = true → ∀ H1, Ex H H1 → Ev te ((wipe σ vs).set j (some (vN x))) H1 (g x)) :
    EvL (tLc (iList K tl) (gName j) t te vs) σ H ((l.filter p).map g) := by
  rw [← given_list]
  have r := el_lcNL (K := K) (t := t) (te := te) (fun i => p (l.getD i 0)) (fun i => g (l.getD i 0)) h (by rw [List.length_map]; exact hz) hw
    (fun i x H1 e hi => by obtain ⟨rfl, hm⟩ := getD_of hi; exact ht _ hm H1 e) (fun i x H1 e hi hp => by obtain ⟨rfl, hm⟩ := getD_of hi; exact he _ hm hp H1 e)
  rw [List.length_map] at r
  exact r
/-- the same over range(n) -/
theorem el_lcRN {ta : TA} {j n : Nat} {vs : List Nat} (p : Nat → Bool) (g : Nat → V) (h : EvA ta σ H [vN n]) (hn : n ≤ 40000)
    (hw : ∀ x, wipe ((wipe σ vs).set j (some x)) vs = wipe σ vs)
    (ht : ∀ x < n, ∀ H1, Ex H H1 → EvT t ((wipe σ vs).set j (some (vN x))) H1 (p x))
    (he : ∀ x < n, p x = true → ∀ H1, Ex H H1 → Ev te ((wipe σ vs).set j (some (vN x))) H1 (g x)) :
    EvL (tLc (iRng1 ta) (gName j) t te vs) σ H (((List.range n).filter p).map g) := by
  have r := el_lcR1 (t := t) (te := te) (vs := vs) (j := j) p g h ⟨by omega, by omega⟩ hw (fun i H1 e hi => ht i (by omega) H1 e) (fun i H1 e hi hp => he i (by omega) hp H1 e)
  rw [Int.toNat_natCast] at r
  exact r
theorem et_yes : EvT tYes σ H true := fun H1 _ _ q => q H1 (Ex.refl H1)
theorem filter_yes {l : List Nat} : l.filter (fun _ => true) = l := List.filter_eq_self.mpr fun _ _ => rfl
theorem map_vN (l : List Nat) (f : Nat → Nat) : l.map (fun x => vN (f x)) = (l.map f).map vN := by
  rw [List.map_map]
  rfl
theorem bits_le {x n : Nat} (h : x < 2 ^ n) : Builtin.Int.intBits (x : Int) ≤ n := by
  unfold Builtin.Int.intBits
  by_cases h0 : x = 0
  · subst h0
    exact Nat.zero_le _
  · rw [if_neg (by simpa using h0), Int.natAbs_natCast]
    exact (Nat.log2_lt h0).mpr h
/-! without a test, whole numbers made -/
theorem el_lcRM {ta : TA} {j n : Nat} {vs : List Nat} (g : Nat → Nat) (h : EvA ta σ H [vN n]) (hn : n ≤ 40000)
    (hw : ∀ x, wipe ((wipe σ vs).set j (some x)) vs = wipe σ vs)
    (he : ∀ x < n, ∀ H1, Ex H H1 → Ev te ((wipe σ vs).set j (some (vN x))) H1 (vN (g x))) :
    EvL (tLc (iRng1 ta) (gName j) tYes te vs) σ H (((List.range n).map g).map vN) := by
  rw [← map_vN]
  have r := el_lcRN (te := te) (fun _ => true) (fun x => vN (g x)) h hn hw (fun _ _ _ _ => et_yes) (fun x hx _ => he x hx)
  rw [filter_yes] at r
  exact r
theorem el_lcM {a : Addr} {l : List Nat} {j : Nat} {vs : List Nat} (g : Nat → Nat) (h : Ev tl σ H (.ref a)) (hx : SqL K H a (l.map vN)) (hz : l.length ≤ 40000)
    (hw : ∀ x, wipe ((wipe σ vs).set j (some x)) vs = wipe σ vs)
    (he : ∀ x ∈ l, ∀ H1, Ex H H1 → Ev te ((wipe σ vs).set j (some (vN x))) H1 (vN (g x))) :
    EvL (tLc (iList K tl) (gName j) tYes te vs) σ H ((l.map g).map vN) := by
  rw [← map_vN]
  have r := el_lcN (te := te) (fun _ => true) (fun x => vN (g x)) h hx hz hw (fun _ _ _ _ => et_yes) (fun x hx _ => he x hx)
  rw [filter_yes] at r
  exact r
theorem el_lcNM {l : List Nat} {j : Nat} {vs : List Nat} (g : Nat → Nat) (h : EvL tl σ H (l.map vN)) (hz : l.length ≤ 40000)
    (hw : ∀ x, wipe ((wipe σ vs).set j (some x)) vs = wipe σ vs)
    (he : ∀ x ∈ l, ∀ H1, Ex H H1 → Ev te ((wipe σ vs).set j (some (vN x))) H1 (vN (g x))) :
    EvL (tLc (iList K tl) (gName j) tYes te vs) σ H ((l.map g).map vN) := by
  rw [← map_vN]
  have r := el_lcNN (K := K) (te := te) (fun _ => true) (fun x => vN (g x)) h hz hw (fun _ _ _ _ => et_yes) (fun x hx _ => he x hx)
  rw [filter_yes] at r
  exact r
/-- list(range(n)) -/
theorem rgV_N (n : Nat) : rgV 0 (n : Int) = (List.range n).map vN := by
  unfold rgV
  rw [Int.sub_zero, Int.toNat_natCast]
  apply List.map_congr_left
  intro i _
  rw [Int.zero_add]
theorem el_listRg {n : Nat} (h : Ev ta σ H (vN n)) (hn : n ≤ 40000) : EvL (tLstRg (tRg1 ta)) σ H ((List.range n).map vN) := fun H1 e Q q =>
  h H1 e _ fun H2 e2 => ⟨n, rfl, RgOk.of_le (by omega) (by omega) (by omega) (by omega), fun p hp => q p _ (fresh_back e2 hp) (e2.trans (Ex.new hp)) (by rw [rgV_N]; exact upd_same)⟩
end
end Pc


set_option Elab.async false
set_option linter.all false
set_option maxRecDepth 100000
set_option maxHeartbeats 3000000
namespace Pc
open PySem PySem.Spec PyProof.Rows L2 Evl Pm
def top (i : Nat) : Stmt := PySem.Challenge.pw_partedcases_s01_answers.main.body.getD i (.Pass ⟨0, 0, 0, 0⟩)
abbrev s_holds : Stmt := top 14
abbrev s_size : Stmt := top 15
abbrev s_all : Stmt := top 16
abbrev s_sets : Stmt := top 17
abbrev s_ways : Stmt := top 19
section
variable {P : Program} {w : World} {K : PySem.W.Frag} {mg : Str → Option Value} {base : Heap}
/-! ### promises of the defs that only look -/
def spHolds : Sp := fun vs H Q _ => ∃ m c : Nat, vs = [vN m, vN c] ∧ RetV (.bl (!(m / 2 ^ c == 0))) H Q
def spSize : Sp := fun vs H Q _ => ∃ m : Nat, vs = [vN m] ∧ m < 2 ^ 8 ∧ RetV (vN (sz m)) H Q
def spAll : Sp := fun vs H Q _ => ∃ n : Nat, vs = [vN n] ∧ n ≤ 8 ∧ RetL ((List.range (2 ^ n)).map vN) H Q
def spSets : Sp := fun vs H Q _ => ∃ n k : Nat, vs = [vN n, vN k] ∧ n ≤ 8 ∧ RetL ((setsN n k).map vN) H Q
theorem sv_holds {m c : Nat} {H : Hp} : SpV spHolds [vN m, vN c] H (.bl (!(m / 2 ^ c == 0))) := fun H1 _ Q q E => ⟨m, c, rfl, q⟩
theorem sv_size {m : Nat} {H : Hp} (h : m < 2 ^ 8) : SpV spSize [vN m] H (vN (sz m)) := fun H1 _ Q q E => ⟨m, rfl, h, q⟩
theorem sl_all {n : Nat} {H : Hp} (h : n ≤ 8) : SpL spAll [vN n] H ((List.range (2 ^ n)).map vN) := fun H1 _ Q q E => ⟨n, rfl, h, q⟩
theorem sl_sets {n k : Nat} {H : Hp} (h : n ≤ 8) : SpL spSets [vN n, vN k] H ((setsN n k).map vN) := fun H1 _ Q q E => ⟨n, k, rfl, h, q⟩
/-! ### holds_others -/
theorem sc_holds : FnScope ["members", "cases"] ["members", "cases"] (defScope s_holds) := ⟨rfl, rfl, rfl, by decide +kernel, rfl, by decide +kernel, by decide +kernel⟩
theorem ok_holds {f : Addr} {fd : FuncData} (F : Fun K "holds_others" "holds_others" s_holds f fd) : FnOk P w K mg base CX0 1 f fd ["members", "cases"] spHolds := by
  refine F.ok sc_holds (fun vs H Q E h => ?_) (fun cdv A outer s H vs Q E hr h => ⟨_, pss_one (ps_ret (pe_cmpR op_ne (pe_op op_shr (pv 0) (pv 1)) pe_int (nomark _))), ?_⟩)
  · obtain ⟨m, c, rfl, _⟩ := h
    rfl
  · obtain ⟨m, c, rfl, k⟩ := h
    exact s_ret (ev_neN (ev_shr (ev_var rfl) (ev_var rfl)) (ev_c (v := vN 0))) k
/-! ### size_of -/
theorem sc_size : FnScope ["members", "place"] ["members"] (defScope s_size) := ⟨rfl, rfl, rfl, by decide +kernel, rfl, by decide +kernel, by decide +kernel⟩
theorem ok_size {f : Addr} {fd : FuncData} (F : Fun K "size_of" "size_of" s_size f fd) (gr : mg "range" = none) (gs : mg "sum" = none) : FnOk P w K mg base CX0 1 f fd ["members"] spSize := by
  refine F.ok sc_size (fun vs H Q E h => ?_) (fun cdv A outer s H vs Q E hr h => ⟨_, pss_one (ps_ret (pe_callB (cr_sum rfl) (by rfl) gs (by decide +kernel)
    (pa_cons (pe_lc (own := [("place", 1)]) (g := gName 1) (tt := tYes) rfl sc_size.nd (pi_range1 rfl gr (pa_cons (pe_bits (pv 0)) pa_nil))
      (blkOk_by (N := ["members", "place"]) (sc := defScope s_size) (by decide +kernel)) (fun _ _ _ _ _ => pg_name (i := 1) sc_size.nd rfl (Or.inl rfl)) (fun _ _ _ _ _ => pts_nil)
      (fun _ _ _ _ _ => pe_op op_and (pe_op op_shr (pv 0) (pv 1)) pe_int)) pa_nil))), ?_⟩)
  · obtain ⟨m, rfl, _⟩ := h
    rfl
  · obtain ⟨m, rfl, hm, k⟩ := h
    refine s_ret ?_ k
    have hb := bits_lt m
    have e : sz m = ((List.range (Builtin.Int.intBits (m : Int))).map fun i => m / 2 ^ i &&& 1).sum := by
      rw [show sz m = cnt m (Builtin.Int.intBits (m : Int)) from cnt_eq hm hb, ← cnt_sum]
      congr 1
      apply List.map_congr_left
      intro i _
      rw [Nat.and_one_is_mod]
    rw [e]
    exact ev_sumN (el_lcRM (fun i => m / 2 ^ i &&& 1) (ea_cons (ev_bits (ev_var rfl)) ea_nil) (by have := bits_le hm; omega) (fun _ => rfl)
      fun x _ H1 _ => ev_and (ev_shr (ev_var rfl) (ev_var rfl)) (ev_c (v := vN 1)))
/-! ### all_sets, sets_of_size -/
theorem sc_all : FnScope ["cases"] ["cases"] (defScope s_all) := ⟨rfl, rfl, rfl, by decide +kernel, rfl, by decide +kernel, by decide +kernel⟩
theorem ok_all {f : Addr} {fd : FuncData} (F : Fun K "all_sets" "all_sets" s_all f fd) (gr : mg "range" = none) (gl : mg "list" = none) : FnOk P w K mg base CX0 1 f fd ["cases"] spAll := by
  refine F.ok sc_all (fun vs H Q E h => ?_) (fun cdv A outer s H vs Q E hr h => ⟨_, pss_one (ps_ret (pe_listRg rfl rfl gl (prg_1 rfl gr (pe_op op_shl pe_int (pv 0))))), ?_⟩)
  · obtain ⟨n, rfl, _⟩ := h
    rfl
  · obtain ⟨n, rfl, hn, k⟩ := h
    have h2 : 2 ^ n ≤ 2 ^ 8 := Nat.pow_le_pow_right (by decide) hn
    have e := ev_shl (x := 1) (y := n) (σ := start ["cases"] [vN n]) (H := H) (by decide) (by omega) ev_c (ev_var (i := 0) rfl)
    rw [Nat.one_mul] at e
    exact s_retL (el_listRg e (by omega)) k
theorem sc_sets : FnScope ["cases", "size", "members"] ["cases", "size"] (defScope s_sets) := ⟨rfl, rfl, rfl, by decide +kernel, rfl, by decide +kernel, by decide +kernel⟩
theorem ok_sets {f fa fs : Addr} {fd fda fds : FuncData} (F : Fun K "sets_of_size" "sets_of_size" s_sets f fd)
    (Fa : Fun K "all_sets" "all_sets" s_all fa fda) (Fs : Fun K "size_of" "size_of" s_size fs fds) (ba : Binds K fda ["cases"] []) (bs : Binds K fds ["members"] [])
    (ga : mg "all_sets" = some (.ref fa)) (gs : mg "size_of" = some (.ref fs)) (Ga : FnOk P w K mg base CX0 1 fa fda ["cases"] spAll) (Gs : FnOk P w K mg base CX0 1 fs fds ["members"] spSize) :
    FnOk P w K mg base CX0 2 f fd ["cases", "size"] spSets := by
  refine F.ok sc_sets (fun vs H Q E h => ?_) (fun cdv A outer s H vs Q E hr h => ⟨_, pss_one (ps_ret
    (pe_lc (own := [("members", 2)]) (g := gName 2) rfl sc_sets.nd (pi_list (pe_call Ga hr rfl ga Fa.kp ba .nil pass0 (pa_cons (pv 0) pa_nil)))
      (blkOk_by (N := ["cases", "size", "members"]) (sc := defScope s_sets) (by decide +kernel)) (fun _ _ _ _ _ => pg_name (i := 2) sc_sets.nd rfl (Or.inl rfl))
      (fun _ _ _ _ _ => pts_one (pt_cmpR op_eq (pe_call Gs hr rfl gs Fs.kp bs .nil pass0 (pa_cons (pv 2) pa_nil)) (pv 1) (nomark _)))
      (fun _ _ _ _ _ => pv 2))), ?_⟩)
  · obtain ⟨n, k, rfl, _⟩ := h
    rfl
  · obtain ⟨n, k, rfl, hn, q⟩ := h
    have h2 : 2 ^ n ≤ 2 ^ 8 := Nat.pow_le_pow_right (by decide) hn
    exact s_retL (el_lcNN (l := List.range (2 ^ n)) (fun s => sz s == k) vN (el_call (ea_cons (ev_var rfl) ea_nil) (sl_all hn)) (by rw [List.length_range]; omega) (fun _ => rfl)
      (fun x hx H1 _ => et_test (ev_eqN (ev_call (ea_cons (ev_var rfl) ea_nil) (sv_size (by have := List.mem_range.mp hx; omega))) (ev_var rfl))) (fun x _ _ H1 _ => ev_var rfl)) q
end
end Pc


set_option Elab.async false
set_option linter.all false
set_option maxRecDepth 100000
set_option maxHeartbeats 3000000
namespace Pc
open PySem PySem.Spec PyProof.Rows L2 Evl Pm
abbrev s_every : Stmt := top 20
abbrev s_depth : Stmt := top 21
section
variable {P : Program} {w : World} {K : PySem.W.Frag} {mg : Str → Option Value} {base : Heap}
/-- a list of guesses stands at a: at most 16, of at most 8 cases -/
structure Gs (K : PySem.W.Frag) (H : Hp) (a : Addr) (gs : List Nat) : Prop where
  sq : SqL K H a (gs.map vN)
  le : gs.length ≤ 16
theorem Gs.mono {H H' : Hp} {a : Addr} {gs : List Nat} (e : Ex H H') (h : Gs K H a gs) : Gs K H' a gs := ⟨ex_l e h.sq, h.le⟩
def spWays (K : PySem.W.Frag) : Sp := fun vs H Q _ => ∃ a gs, ∃ s : Nat, vs = [.ref a, vN s] ∧ Gs K H a gs ∧ RetL ((pways gs s).map vN) H Q
def spEvery (K : PySem.W.Frag) : Sp := fun vs H Q _ => ∃ a gs, ∃ s : Nat, vs = [.ref a, vN s] ∧ Gs K H a gs ∧ s < 2 ^ 8 ∧ RetV (.bl (pev gs s)) H Q
theorem sl_ways {a : Addr} {gs : List Nat} {s : Nat} {H : Hp} (g : Gs K H a gs) : SpL (spWays K) [.ref a, vN s] H ((pways gs s).map vN) :=
  fun H1 e Q q E => ⟨a, gs, s, rfl, g.mono e, q⟩
theorem sv_every {a : Addr} {gs : List Nat} {s : Nat} {H : Hp} (g : Gs K H a gs) (h : s < 2 ^ 8) : SpV (spEvery K) [.ref a, vN s] H (.bl (pev gs s)) :=
  fun H1 e Q q E => ⟨a, gs, s, rfl, g.mono e, h, q⟩
theorem eqV_N (x y : Nat) : eqV (vN x) (vN y) = (x == y) := by
  show ((x : Int) == (y : Int)) = (x == y)
  rw [Bool.eq_iff_iff, beq_iff_eq, beq_iff_eq]
  omega
theorem inV_N (x : Nat) (l : List Nat) : inV (vN x) (l.map vN) = l.contains x := by
  unfold inV
  rw [List.any_map, List.contains_eq_any_beq]
  congr 1
  funext y
  exact (eqV_N y x).trans (Bool.beq_comm ..)
theorem flat_N (l : List Nat) : (l.map vN).all flatV = true := by
  rw [List.all_map, List.all_eq_true]
  intro _ _
  rfl
/-! ### ways_parted -/
theorem sc_ways : FnScope ["guesses", "members", "found", "guess", "way"] ["guesses", "members"] (defScope s_ways) := ⟨rfl, rfl, rfl, by decide +kernel, rfl, by decide +kernel, by decide +kernel⟩
theorem ok_ways {f : Addr} {fd : FuncData} (F : Fun K "ways_parted" "ways_parted" s_ways f fd) : FnOk P w K mg base CX0 1 f fd ["guesses", "members"] (spWays K) := by
  refine F.ok sc_ways (fun vs H Q E h => ?_) (fun cdv A outer s H vs Q E hr h => ⟨_, pss_cons (ps_set (i := 2) sc_ways.nd rfl (Or.inl rfl) (pe_lst pa_nil))
    (pss_cons (ps_for PassesOwn.never rfl (pi_list (pv 0)) (pg_name (i := 3) sc_ways.nd rfl (Or.inl rfl))
      (pss_cons (ps_set (i := 4) sc_ways.nd rfl (Or.inl rfl) (pe_op op_and (pv 3) (pv 1)))
      (pss_one (ps_if (pt_cmpR op_notIn_seq (pv 4) (pv 2) (by rfl)) (pss_one (ps_expr (pe_bm PySem.F.plainAttrs_list PySem.F.slot_list_append PySem.F.type_list_append mt_append (pv 2) (pa_cons (pv 4) pa_nil)))) pss_nil))))
    (pss_one (ps_ret (pv 2)))), ?_⟩)
  · obtain ⟨a, gs, s, rfl, _⟩ := h
    rfl
  · obtain ⟨a, gs, s, rfl, g, k⟩ := h
    refine q_asgL (el_lst ea_nil (by decide)) fun p H1 hp e1 h1 => ?_
    refine q_forLn (K := K) (a := a) (xs := gs.map vN) (ev_var rfl) (ex_l e1 g.sq)
      (fun i σ H' => ∃ u v, σ = [some (.ref a), some (vN s), some (.ref p), u, v] ∧ Ex H H' ∧ H' p = some (.lst ((pways (gs.take i) s).map vN)))
      (fun H2 e2 => ⟨none, none, rfl, e1.trans e2, e2 p _ h1⟩) (fun i σ' H' _ ⟨_, _, _, e, _⟩ => ex_l e g.sq) ?_ ?_
    · rintro i x σ' H' hx ⟨u, v, rfl, e, hl⟩
      obtain ⟨rfl, hm⟩ := getD_of hx
      have hi : i < gs.length := by
        have := (List.getElem?_eq_some_iff.mp hx).1
        rwa [List.length_map] at this
      have tk : gs.take (i + 1) = gs.take i ++ [gs.getD i 0] := by
        rw [List.take_succ, List.getD_eq_getElem?_getD, List.getElem?_eq_getElem hi]
        rfl
      have le : (pways (gs.take i) s).length ≤ 16 := Nat.le_trans (pways_le _ _) (by rw [List.length_take]; have := g.le; omega)
      refine q_asg (ev_and (ev_var rfl) (ev_var rfl)) fun H2 e2 => ?_
      refine s_when (b := !(pways (gs.take i) s).contains (gs.getD i 0 &&& s)) ?_ ?_ ?_
      · refine et_test (ev_is (ev_op (ev_var rfl) (ev_var rfl) (rv_niL (sq_of (e2 p _ hl)) rfl (flat_N _))) ?_)
        rw [inV_N]
      · intro c H3 e3
        refine s_app (e3 p _ (e2 p _ hl)) (ev_var rfl) (ev_var rfl) (by rw [List.length_map]; omega) fun H4 e4 => ?_
        refine ⟨_, _, rfl, Ex.mut (((e.trans e2).trans e3).trans e4) hp, ?_⟩
        rw [tk, pways_snoc]
        unfold wayStep
        rw [if_neg (by simpa using c)]
        rw [List.map_append]
        exact upd_same
      · intro c H3 e3
        refine ⟨_, _, rfl, (e.trans e2).trans e3, ?_⟩
        rw [tk, pways_snoc]
        unfold wayStep
        rw [if_pos (by simpa using c)]
        exact e3 p _ (e2 p _ hl)
    · rintro σ' H' ⟨u, v, rfl, e, hl⟩
      rw [List.length_map, List.take_length] at hl
      exact s_ret (v := .ref p) (ev_var rfl) fun H2 e2 => k p H2 hp (e.trans e2) (e2 p _ hl)
/-! ### parted_in_every_way -/
theorem sc_every : FnScope ["guesses", "members"] ["guesses", "members"] (defScope s_every) := ⟨rfl, rfl, rfl, by decide +kernel, rfl, by decide +kernel, by decide +kernel⟩
theorem ok_every {f fw fs : Addr} {fd fdw fds : FuncData} (F : Fun K "parted_in_every_way" "parted_in_every_way" s_every f fd)
    (Fw : Fun K "ways_parted" "ways_parted" s_ways fw fdw) (Fs : Fun K "size_of" "size_of" s_size fs fds) (bw : Binds K fdw ["guesses", "members"] []) (bs : Binds K fds ["members"] [])
    (gw : mg "ways_parted" = some (.ref fw)) (gs : mg "size_of" = some (.ref fs)) (gl : mg "len" = none)
    (Gw : FnOk P w K mg base CX0 1 fw fdw ["guesses", "members"] (spWays K)) (Gz : FnOk P w K mg base CX0 1 fs fds ["members"] spSize) :
    FnOk P w K mg base CX0 2 f fd ["guesses", "members"] (spEvery K) := by
  refine F.ok sc_every (fun vs H Q E h => ?_) (fun cdv A outer s H vs Q E hr h => ⟨_, pss_one (ps_ret (pe_cmpR op_eq
    (pe_callB call_len_seq (by rfl) gl PySem.boot_len (pa_cons (pe_call Gw hr rfl gw Fw.kp bw .nil pass0 (pa_cons (pv 0) (pa_cons (pv 1) pa_nil))) pa_nil))
    (pe_op op_shl pe_int (pe_call Gz hr rfl gs Fs.kp bs .nil pass0 (pa_cons (pv 1) pa_nil))) (nomark _))), ?_⟩)
  · obtain ⟨a, l, s, rfl, _⟩ := h
    rfl
  · obtain ⟨a, l, s, rfl, g, hs, k⟩ := h
    refine s_ret ?_ k
    have z8 : sz s ≤ 8 := sz_le (Nat.le_refl _) hs
    have e1 := ev_lenN (K := K) (el_call (dvs := []) (E := E0) (ta := tCons (tVar 0) (tCons (tVar 1) tNil)) (ea_cons (ev_var (σ := start ["guesses", "members"] [.ref a, vN s]) rfl) (ea_cons (ev_var rfl) ea_nil)) (sl_ways (s := s) g))
    rw [List.length_map] at e1
    have e2 := ev_shl (x := 1) (y := sz s) (σ := start ["guesses", "members"] [.ref a, vN s]) (H := H) (by decide) (by omega) ev_c (ev_call (dvs := []) (E := E0) (ta := tCons (tVar 1) tNil) (ea_cons (ev_var rfl) ea_nil) (sv_size hs))
    rw [Nat.one_mul] at e2
    exact ev_eqN e1 e2
end
end Pc


set_option Elab.async false
set_option linter.all false
set_option maxRecDepth 100000
set_option maxHeartbeats 3000000
namespace Pc
open PySem PySem.Spec PyProof.Rows L2 Evl Pm
/-! ### the object in the heap -/
def sF (m : M) (g : Addr) : List (Str × V) := [("cases", vN m.n), ("truth", vN m.t), ("guesses", .ref g)]
structure StAt (C : Addr) (H : Hp) (st g : Addr) (m : M) : Prop where
  ob : ∃ dx, H st = some (.ins C dx (sF m g))
  gl : H g = some (.lst (m.gs.map vN))
theorem StAt.mono {C st g : Addr} {H H' : Hp} {m : M} (e : Ex H H') (h : StAt C H st g m) : StAt C H' st g m := ⟨h.ob.elim fun dx q => ⟨dx, e _ _ q⟩, e _ _ h.gl⟩
theorem StAt.ne {C st g : Addr} {H : Hp} {m : M} (h : StAt C H st g m) : st ≠ g := fun e => by
  obtain ⟨dx, q⟩ := h.ob
  have r := h.gl
  rw [← e, q] at r
  cases r
theorem StAt.guesses {K : PySem.W.Frag} {C st g : Addr} {H : Hp} {m : M} (h : StAt C H st g m) (o : m.Ok) : Gs K H g m.gs := ⟨sq_of h.gl, o.le⟩
theorem lk_here {k : Str} {v : V} {r : List (Str × V)} : List.lookup k ((k, v) :: r) = some v := by
  have e : (k == k) = true := beq_self_eq_true k
  simp only [List.lookup, e]
theorem lk_past {k g : Str} {v : V} {r : List (Str × V)} (h : (k == g) = false) : List.lookup k ((g, v) :: r) = List.lookup k r := by
  simp only [List.lookup, h]
theorem put_here {f : Str} {v x : V} {r : List (Str × V)} : putF f v ((f, x) :: r) = (f, v) :: r := if_pos rfl
theorem put_past {f g : Str} {v x : V} {r : List (Str × V)} (h : ¬ g = f) : putF f v ((g, x) :: r) = (g, x) :: putF f v r := if_neg h
theorem sF_cases (m : M) (g : Addr) : (sF m g).lookup ("cases" : Str) = some (vN m.n) := lk_here
theorem sF_truth (m : M) (g : Addr) : (sF m g).lookup ("truth" : Str) = some (vN m.t) := (lk_past (by decide +kernel)).trans lk_here
theorem sF_guesses (m : M) (g : Addr) : (sF m g).lookup ("guesses" : Str) = some (.ref g) := (lk_past (by decide +kernel)).trans ((lk_past (by decide +kernel)).trans lk_here)
theorem sF_pcases (m : M) (g : Addr) (y : Nat) : putF "cases" (vN y) (sF m g) = sF { m with n := y } g := put_here
theorem sF_ptruth (m : M) (g : Addr) (y : Nat) : putF "truth" (vN y) (sF m g) = sF { m with t := y } g := (put_past (by decide +kernel)).trans (congrArg _ put_here)
theorem sF_pguesses (m : M) (g g' : Addr) : putF "guesses" (.ref g') (sF m g) = sF m g' :=
  (put_past (by decide +kernel)).trans (congrArg _ ((put_past (by decide +kernel)).trans (congrArg _ put_here)))
/-- a module's constant -/
def Cst (mg : Str → Option Value) (x : Str) (v : V) : Prop := ∃ u, mg x = some u ∧ RelV v u
theorem pe_cst {X : Cx} {x : Str} {v : V} {pos : Pos} (h : Cst X.mg x v) (hg : Gl X x := by rfl) (hd : (x == ("__debug__" : Str)) = false := by decide) : PE X (.Name x pos) (tC v) := by
  obtain ⟨u, hu, r⟩ := h
  exact pe_glob hg hu r hd
/-- what the top has written of the class and the constants -/
structure Txt (K : PySem.W.Frag) (mg : Str → Option Value) (C : Addr) : Prop where
  cl : Cls K C
  nC : NoAttr K C "cases"
  nT : NoAttr K C "truth"
  nG : NoAttr K C "guesses"
  gC : mg "State" = some (.ref C)
  len : mg "len" = none
  range : mg "range" = none
  sum : mg "sum" = none
  list : mg "list" = none
  max : mg "max" = none
  min : mg "min" = none
  zip : mg "zip" = none
  all : mg "all" = none
  c2 : Cst mg "NO_SUCH_GUESS" (vN 2)
  c6 : Cst mg "NO_GUESSES" (vN 6)
  c17 : Cst mg "ALIKE" (vN 17)
  c22 : Cst mg "NOT_AS_TOLD" (vN 22)
  c28 : Cst mg "FULL" (vN 28)
  c33 : Cst mg "NONE_DOES" (vN 33)
  c61 : Cst mg "NOT_BEGUN" (vN 61)
  cC : Cst mg "MOST_CASES" (vN 8)
  cG : Cst mg "MOST_GUESSES" (vN 16)
  cH : Cst mg "MOST_THINGS" (vN 40)
  cP : Cst mg "MOST_PARTS" (vN 1000)
  cB : Cst mg "BEGIN" (vN 0)
section
variable {K : PySem.W.Frag} {mg : Str → Option Value} {C : Addr} {σ : L2.St} {H H' : Hp} {ta tb te : TE} {st g : Addr} {m : M} {D : Ends} {tz : TS}
theorem ev_cases (T : Txt K mg C) (s : StAt C H st g m) (h : Ev ta σ H (.ref st)) : Ev (tFld K ta "cases") σ H (vN m.n) := fun H1 e Q q => h H1 e _ fun H2 e2 => by
  obtain ⟨dx, o⟩ := s.ob
  exact ⟨st, C, dx, _, _, rfl, (e.trans e2) _ _ o, T.cl, T.nC, sF_cases m g, q H2 e2⟩
theorem ev_truth (T : Txt K mg C) (s : StAt C H st g m) (h : Ev ta σ H (.ref st)) : Ev (tFld K ta "truth") σ H (vN m.t) := fun H1 e Q q => h H1 e _ fun H2 e2 => by
  obtain ⟨dx, o⟩ := s.ob
  exact ⟨st, C, dx, _, _, rfl, (e.trans e2) _ _ o, T.cl, T.nT, sF_truth m g, q H2 e2⟩
theorem ev_guesses (T : Txt K mg C) (s : StAt C H st g m) (h : Ev ta σ H (.ref st)) : Ev (tFld K ta "guesses") σ H (.ref g) := fun H1 e Q q => h H1 e _ fun H2 e2 => by
  obtain ⟨dx, o⟩ := s.ob
  exact ⟨st, C, dx, _, _, rfl, (e.trans e2) _ _ o, T.cl, T.nG, sF_guesses m g, q H2 e2⟩
/-- -X, X a constant -/
theorem ev_neg {n : Nat} (h : Ev ta σ H (vN n)) : Ev (tUn (rU fun i => .int (-i)) ta) σ H (.int (-(n : Int))) := ev_un h ru_neg
/-- all but the object and its guesses stands -/
def Keeps (H : Hp) (st g : Addr) (H' : Hp) : Prop := ∀ b o, H b = some o → b ≠ st → b ≠ g → H' b = some o
theorem Keeps.of {H H' : Hp} (e : Ex H H') : Keeps H st g H' := fun b o h _ _ => e b o h
/-- the promise of what answers a call that is not refused ahead: mk, the document's call; ask, what holds of it -/
def Due (C st g : Addr) (m : M) (c : Kh399.Call) (H : Hp) (Q : VK) : Prop :=
  ∀ p H' g', H p = none → Keeps H st g H' → (g' = g ∨ H g' = none) → StAt C H' st g' (nextM m c) → H' p = some (.lst ((ansM m c).map V.int)) → Q (.ref p) H'
def spA (C : Addr) (len : Nat) (mk : List Nat → Kh399.Call) (ask : M → List Nat → Prop) : Sp := fun vs H Q _ =>
  ∃ st g m as, vs = .ref st :: as.map vN ∧ as.length = len ∧ StAt C H st g m ∧ m.Ok ∧ ask m as ∧ Due C st g m (mk as) H Q
/-- it changes nothing: a new list -/
theorem Due.go {c : Kh399.Call} {Q : VK} {xs : List Int} (d : Due C st g m c H Q) (s : StAt C H st g m) (hn : nextM m c = m) (ha : ansM m c = xs) {p : Addr} (hp : H p = none) (e : Ex H H') (h : H' p = some (.lst (xs.map V.int))) : Q (.ref p) H' :=
  d p H' g hp (.of e) (.inl rfl) (by rw [hn]; exact s.mono e) (by rw [ha]; exact h)
theorem Due.mono {c : Kh399.Call} {Q : VK} (d : Due C st g m c H Q) (e : Ex H H') : Due C st g m c H' Q := fun p H2 g' hp k hg s h =>
  d p H2 g' (fresh_back e hp) (fun b o hb n1 n2 => k b o (e b o hb) n1 n2) (hg.imp id fun z => fresh_back e z) s h
end
end Pc


set_option Elab.async false
set_option linter.all false
set_option maxRecDepth 100000
set_option maxHeartbeats 3000000
namespace Pc
open PySem PySem.Spec PyProof.Rows L2 Evl Pm
section
variable {K : PySem.W.Frag} {mg : Str → Option Value} {C : Addr} {σ : L2.St} {H H' : Hp} {ta tb te : TE} {t : TT} {st g : Addr} {m : M} {c : Kh399.Call} {Q : VK}
theorem Due.goN {l : List Nat} (d : Due C st g m c H Q) (s : StAt C H st g m) (hn : nextM m c = m) (ha : ansM m c = l.map fun n : Nat => (n : Int)) {p : Addr} (hp : H p = none) (e : Ex H H') (h : H' p = some (.lst (l.map vN))) : Q (.ref p) H' :=
  d.go s hn ha hp e (by rw [← ints_N]; exact h)
theorem el_cat {xs zs : List V} {b : Addr} (ha : EvL ta σ H xs) (hb : Ev tb σ H (.ref b)) (h : H b = some (.lst zs)) (hl : xs.length + zs.length ≤ 100000) : EvL (tOp rCat ta tb) σ H (xs ++ zs) :=
  fun H1 e Q q => ha H1 e _ fun p H2 hp e2 h2 => hb H2 (e.trans e2) _ fun H3 e3 =>
    ⟨p, b, xs, zs, rfl, rfl, e3 p _ h2, (e.trans (e2.trans e3)) b _ h, sz_of hl, fun r hr => q r _ (fresh_back (e2.trans e3) hr) ((e2.trans e3).trans (Ex.new hr)) upd_same⟩
/-- [a], [a, b] -/
theorem el_1 {x : V} (h : Ev ta σ H x) : EvL (tLst (tCons ta tNil)) σ H [x] := el_lst (ea_cons h ea_nil) (by show 1 ≤ 100000; decide)
theorem el_2 {x y : V} (h : Ev ta σ H x) (h' : Ev tb σ H y) : EvL (tLst (tCons ta (tCons tb tNil))) σ H [x, y] := el_lst (ea_cons h (ea_cons h' ea_nil)) (by show 2 ≤ 100000; decide)
theorem ev_lenS {p : Addr} {l : List Nat} (h : Ev ta σ H (.ref p)) (hs : SqL K H p (l.map vN)) : Ev (tCB (rLenS K) (tCons ta tNil)) σ H (vN l.length) := by
  have e := ev_len h hs
  rw [List.length_map] at e
  exact e
theorem ev_ix {p : Addr} {l : List Nat} {i : Nat} (h : Ev ta σ H (.ref p)) (hs : SqL K H p (l.map vN)) (hi : Ev tb σ H (vN i)) (lt : i < l.length) : Ev (tOp (rIxL K) ta tb) σ H (vN (l.getD i 0)) := by
  refine ev_op h hi (rv_ixL hs (atI_nat ?_))
  rw [List.getElem?_map, List.getElem?_eq_getElem lt, List.getD_eq_getElem?_getD, List.getElem?_eq_getElem lt]
  rfl
/-! what is due, call by call -/
theorem nats_N (h : Nat) (l : List Nat) : ((Kh399.nats h l).ret :: (Kh399.nats h l).out : List Int) = (h :: l).map fun n : Nat => (n : Int) := rfl
theorem due_guess {i : Nat} (hn : m.n ≠ 0) (h : i < m.gs.length) : ansM m (.guess i) = [m.gs.getD i 0].map fun n : Nat => (n : Int) := by
  rw [ans_of hn (by intro _ _ z; cases z)]
  show (if Kh399.isG m.abs i = false then _ else _ : Kh399.Ans).ret :: _ = _
  simp only [Kh399.does, isG_t h]
  rfl
theorem due_wrong {i : Nat} (o : m.Ok) (hn : m.n ≠ 0) (h : i < m.gs.length) : ansM m (.wrong i) = [sz (m.gs.getD i 0 ^^^ m.t), m.gs.getD i 0 ^^^ m.t].map fun n : Nat => (n : Int) := by
  rw [ans_of hn (by intro _ _ z; cases z)]
  have hx : m.gs.getD i 0 < 2 ^ m.n := o.gs _ (by rw [List.getD_eq_getElem?_getD, List.getElem?_eq_getElem h]; exact List.getElem_mem h)
  have w : Kh399.wrong m.abs (Kh399.at_ m.abs i) = m.gs.getD i 0 ^^^ m.t := wrong_xor (a := m.abs) hx o.t
  have z : Kh399.wrongs m.abs (Kh399.at_ m.abs i) = sz (m.gs.getD i 0 ^^^ m.t) := by
    unfold Kh399.wrongs
    rw [w]
    exact size_sz (a := m.abs) o.n8 (Nat.xor_lt_two_pow hx o.t)
  simp only [Kh399.does, isG_t h, z, w]
  rfl
theorem due_ways {s : Nat} (hn : m.n ≠ 0) (h : s < 2 ^ m.n) : ansM m (.ways s) = ((pways m.gs s).length :: pways m.gs s).map fun n : Nat => (n : Int) := by
  rw [ans_of hn (by intro _ _ z; cases z)]
  simp only [Kh399.does, isS_t h, ways_pways (a := m.abs) h]
  rfl
theorem due_every {s : Nat} (o : m.Ok) (hn : m.n ≠ 0) (h : s < 2 ^ m.n) : ansM m (.every s) = [if pev m.gs s then 1 else 0].map fun n : Nat => (n : Int) := by
  rw [ans_of hn (by intro _ _ z; cases z)]
  simp only [Kh399.does, isS_t h, every_pev (a := m.abs) o.n8 h]
  show [((if pev m.gs s = true then (1 : Int) else 0))] = [(((if pev m.gs s = true then 1 else 0) : Nat) : Int)]
  split <;> rfl
/-- looking changes nothing -/
theorem looks (hn : m.n ≠ 0) : (∀ i, nextM m (.guess i) = m) ∧ (∀ i, nextM m (.wrong i) = m) ∧ nextM m .best = m ∧ (∀ s, nextM m (.ways s) = m) ∧ (∀ s, nextM m (.every s) = m) ∧
    (∀ k, nextM m (.growth k) = m) ∧ nextM m .depth = m ∧ nextM m .deep = m := by
  refine ⟨?_, ?_, ?_, ?_, ?_, ?_, ?_, ?_⟩ <;> intros <;> exact next_look hn (by intro _ _ z; cases z) rfl
end
abbrev s_begin : Stmt := top 29
abbrev s_add : Stmt := top 30
abbrev s_drop : Stmt := top 31
abbrev s_truth : Stmt := top 32
abbrev s_guess : Stmt := top 33
abbrev s_wrong : Stmt := top 34
abbrev s_best : Stmt := top 35
abbrev s_aways : Stmt := top 36
abbrev s_aevery : Stmt := top 37
section
variable {P : Program} {w : World} {K : PySem.W.Frag} {mg : Str → Option Value} {base : Heap} {C : Addr}
def begun (m : M) : Prop := m.n ≠ 0
def spGuess (C : Addr) : Sp := spA C 1 (fun as => .guess (as.getD 0 0)) fun m as => m.n ≠ 0 ∧ as.getD 0 0 < m.gs.length
def spWrong (C : Addr) : Sp := spA C 1 (fun as => .wrong (as.getD 0 0)) fun m as => m.n ≠ 0 ∧ as.getD 0 0 < m.gs.length
def spAWays (C : Addr) : Sp := spA C 1 (fun as => .ways (as.getD 0 0)) fun m as => m.n ≠ 0 ∧ as.getD 0 0 < 2 ^ m.n
def spAEvery (C : Addr) : Sp := spA C 1 (fun as => .every (as.getD 0 0)) fun m as => m.n ≠ 0 ∧ as.getD 0 0 < 2 ^ m.n
/-- the arguments of a call, by how many there are -/
theorem spA.len {len : Nat} {mk : List Nat → Kh399.Call} {ask : M → List Nat → Prop} {vs : List V} {H : Hp} {Q : VK} {E : XK} (h : spA C len mk ask vs H Q E) : vs.length = len + 1 := by
  obtain ⟨st, g, m, as, rfl, rfl, _⟩ := h
  simp
theorem spA.one {mk : List Nat → Kh399.Call} {ask : M → List Nat → Prop} {vs : List V} {H : Hp} {Q : VK} {E : XK} (h : spA C 1 mk ask vs H Q E) :
    ∃ st g m x, vs = [.ref st, vN x] ∧ StAt C H st g m ∧ m.Ok ∧ ask m [x] ∧ Due C st g m (mk [x]) H Q := by
  obtain ⟨st, g, m, as, rfl, hl, r⟩ := h
  match as, hl with
  | [x], _ => exact ⟨st, g, m, x, rfl, r⟩
theorem spA.none {mk : List Nat → Kh399.Call} {ask : M → List Nat → Prop} {vs : List V} {H : Hp} {Q : VK} {E : XK} (h : spA C 0 mk ask vs H Q E) :
    ∃ st g m, vs = [.ref st] ∧ StAt C H st g m ∧ m.Ok ∧ ask m [] ∧ Due C st g m (mk []) H Q := by
  obtain ⟨st, g, m, as, rfl, hl, r⟩ := h
  match as, hl with
  | [], _ => exact ⟨st, g, m, rfl, r⟩
theorem spA.two {mk : List Nat → Kh399.Call} {ask : M → List Nat → Prop} {vs : List V} {H : Hp} {Q : VK} {E : XK} (h : spA C 2 mk ask vs H Q E) :
    ∃ st g m x y, vs = [.ref st, vN x, vN y] ∧ StAt C H st g m ∧ m.Ok ∧ ask m [x, y] ∧ Due C st g m (mk [x, y]) H Q := by
  obtain ⟨st, g, m, as, rfl, hl, r⟩ := h
  match as, hl with
  | [x, y], _ => exact ⟨st, g, m, x, y, rfl, r⟩
/-! ### answer_guess -/
theorem sc_guess : FnScope ["state", "i"] ["state", "i"] (defScope s_guess) := ⟨rfl, rfl, rfl, by decide +kernel, rfl, by decide +kernel, by decide +kernel⟩
theorem ok_guess {f : Addr} {fd : FuncData} (F : Fun K "answer_guess" "answer_guess" s_guess f fd) (T : Txt K mg C) : FnOk P w K mg base CX0 1 f fd ["state", "i"] (spGuess C) := by
  refine F.ok sc_guess (fun vs H Q E h => h.len) (fun cdv A outer s H vs Q E hr h => ⟨_, pss_one (ps_ret (pe_lst (pa_cons (pe_ix ix_list (pe_fld (pv 0) rfl) (pv 1) (fun _ _ => rfl)) pa_nil))), ?_⟩)
  obtain ⟨st, g, m, x, rfl, s, o, ⟨hn, hx⟩, d⟩ := h.one
  exact s_retL (el_1 (ev_ix (l := m.gs) (ev_guesses T s (ev_var rfl)) (sq_of s.gl) (ev_var rfl) hx)) fun p H1 hp e h1 => d.goN s ((looks hn).1 _) (due_guess hn hx) hp e h1
/-! ### answer_wrong -/
theorem sc_wrong : FnScope ["state", "i", "wrong"] ["state", "i"] (defScope s_wrong) := ⟨rfl, rfl, rfl, by decide +kernel, rfl, by decide +kernel, by decide +kernel⟩
theorem ok_wrong {f fs : Addr} {fd fds : FuncData} (F : Fun K "answer_wrong" "answer_wrong" s_wrong f fd) (T : Txt K mg C) (Fs : Fun K "size_of" "size_of" s_size fs fds) (bs : Binds K fds ["members"] [])
    (gs : mg "size_of" = some (.ref fs)) (Gs : FnOk P w K mg base CX0 1 fs fds ["members"] spSize) : FnOk P w K mg base CX0 2 f fd ["state", "i"] (spWrong C) := by
  refine F.ok sc_wrong (fun vs H Q E h => h.len) (fun cdv A outer s H vs Q E hr h => ⟨_, pss_cons (ps_set (i := 2) sc_wrong.nd rfl (Or.inl rfl) (pe_op op_xor (pe_ix ix_list (pe_fld (pv 0) rfl) (pv 1) (fun _ _ => rfl)) (pe_fld (pv 0) rfl)))
    (pss_one (ps_ret (pe_lst (pa_cons (pe_call Gs hr rfl gs Fs.kp bs .nil pass0 (pa_cons (pv 2) pa_nil)) (pa_cons (pv 2) pa_nil))))), ?_⟩)
  obtain ⟨st, g, m, x, rfl, s, o, ⟨hn, hx⟩, d⟩ := h.one
  refine q_asg (ev_xor (ev_ix (l := m.gs) (ev_guesses T s (ev_var rfl)) (sq_of s.gl) (ev_var rfl) hx) (ev_truth T s (ev_var rfl))) fun H1 e1 => ?_
  replace hx : x < m.gs.length := hx
  have hg : m.gs.getD x 0 < 2 ^ m.n := o.gs _ (by rw [List.getD_eq_getElem?_getD, List.getElem?_eq_getElem hx]; exact List.getElem_mem hx)
  have h8 : m.gs.getD x 0 ^^^ m.t < 2 ^ 8 := Nat.lt_of_lt_of_le (Nat.xor_lt_two_pow hg o.t) (Nat.pow_le_pow_right (by decide) o.n8)
  exact s_retL (el_2 (ev_call (ea_cons (ev_var rfl) ea_nil) (sv_size h8)) (ev_var rfl)) fun p H2 hp e2 h2 => d.goN s ((looks hn).2.1 _) (due_wrong o hn hx) (fresh_back e1 hp) (e1.trans e2) h2
/-! ### answer_ways -/
theorem sc_aways : FnScope ["state", "s", "ways"] ["state", "s"] (defScope s_aways) := ⟨rfl, rfl, rfl, by decide +kernel, rfl, by decide +kernel, by decide +kernel⟩
theorem ok_aways {f fw : Addr} {fd fdw : FuncData} (F : Fun K "answer_ways" "answer_ways" s_aways f fd) (T : Txt K mg C) (Fw : Fun K "ways_parted" "ways_parted" s_ways fw fdw) (bw : Binds K fdw ["guesses", "members"] [])
    (gw : mg "ways_parted" = some (.ref fw)) (Gw : FnOk P w K mg base CX0 1 fw fdw ["guesses", "members"] (spWays K)) : FnOk P w K mg base CX0 2 f fd ["state", "s"] (spAWays C) := by
  refine F.ok sc_aways (fun vs H Q E h => h.len) (fun cdv A outer s H vs Q E hr h => ⟨_, pss_cons (ps_set (i := 2) sc_aways.nd rfl (Or.inl rfl) (pe_call Gw hr rfl gw Fw.kp bw .nil pass0 (pa_cons (pe_fld (pv 0) rfl) (pa_cons (pv 1) pa_nil))))
    (pss_one (ps_ret (pe_op op_cat (pe_lst (pa_cons (pe_callB call_len_seq (by rfl) T.len PySem.boot_len (pa_cons (pv 2) pa_nil)) pa_nil)) (pv 2)))), ?_⟩)
  obtain ⟨st, g, m, x, rfl, s, o, ⟨hn, hx⟩, d⟩ := h.one
  have le := Nat.le_trans (pways_le m.gs x) o.le
  refine q_asgL (el_call (ea_cons (ev_guesses T s (ev_var rfl)) (ea_cons (ev_var rfl) ea_nil)) (sl_ways (s := x) (s.guesses o))) fun q H1 hq e1 h1 => ?_
  exact s_retL (el_cat (el_1 (ev_lenS (ev_var rfl) (sq_of h1))) (ev_var rfl) h1 (by rw [List.length_map]; show 1 + _ ≤ _; omega)) fun p H2 hp e2 h2 => d.goN s ((looks hn).2.2.2.1 _) (due_ways hn hx) (fresh_back e1 hp) (e1.trans e2) h2
/-! ### answer_every -/
theorem sc_aevery : FnScope ["state", "s"] ["state", "s"] (defScope s_aevery) := ⟨rfl, rfl, rfl, by decide +kernel, rfl, by decide +kernel, by decide +kernel⟩
theorem ok_aevery {f fw : Addr} {fd fdw : FuncData} (F : Fun K "answer_every" "answer_every" s_aevery f fd) (T : Txt K mg C) (Fw : Fun K "parted_in_every_way" "parted_in_every_way" s_every fw fdw) (bw : Binds K fdw ["guesses", "members"] [])
    (gw : mg "parted_in_every_way" = some (.ref fw)) (Gw : FnOk P w K mg base CX0 2 fw fdw ["guesses", "members"] (spEvery K)) : FnOk P w K mg base CX0 3 f fd ["state", "s"] (spAEvery C) := by
  refine F.ok sc_aevery (fun vs H Q E h => h.len) (fun cdv A outer s H vs Q E hr h => ⟨_,
    pss_one (ps_ret (pe_lst (pa_cons (pe_ifExp (pt_val (pe_call Gw hr rfl gw Fw.kp bw .nil pass0 (pa_cons (pe_fld (pv 0) rfl) (pa_cons (pv 1) pa_nil)))) pe_int pe_int) pa_nil))), ?_⟩)
  obtain ⟨st, g, m, x, rfl, s, o, ⟨hn, hx⟩, d⟩ := h.one
  have h8 : x < 2 ^ 8 := Nat.lt_of_lt_of_le hx (Nat.pow_le_pow_right (by decide) o.n8)
  refine s_retL (el_1 (ev_if (v := vN (if pev m.gs x then 1 else 0)) (et_B (ev_call (ea_cons (ev_guesses T s (ev_var rfl)) (ea_cons (ev_var rfl) ea_nil)) (sv_every (s.guesses o) h8)))
    (fun c => by rw [if_pos c]; exact ev_c) (fun c => by rw [if_neg (by rw [c]; decide)]; exact ev_c))) fun p H2 hp e2 h2 => d.goN s ((looks hn).2.2.2.2.1 _) (due_every o hn hx) hp e2 h2
end
end Pc


set_option Elab.async false
set_option linter.all false
set_option maxRecDepth 100000
set_option maxHeartbeats 3000000
namespace Pc
open PySem PySem.Spec PyProof.Rows L2 Evl Pm
section
variable {K : PySem.W.Frag} {mg : Str → Option Value} {C : Addr} {σ : L2.St} {H H' : Hp} {ta tb te : TE} {t : TT} {st g : Addr} {m : M} {c : Kh399.Call} {Q : VK} {D : Ends} {tz : TS}
/-- what was there is there -/
def Dom (H H' : Hp) : Prop := ∀ b, H' b = none → H b = none
theorem Dom.of (e : Ex H H') : Dom H H' := fun _ h => fresh_back e h
theorem Dom.trans {H1 H2 : Hp} (a : Dom H H1) (b : Dom H1 H2) : Dom H H2 := fun x h => a x (b x h)
theorem Dom.upd (H : Hp) (a : Addr) (o : HO) : Dom H (upd H a o) := fun b h => by
  by_cases e : b = a
  · rw [e, upd_same] at h
    cases h
  · rwa [upd_ne e] at h
/-! fields stored -/
theorem q_cases (T : Txt K mg C) (s : StAt C H st g m) {y : Nat} (hv : Ev te σ H (vN y)) (ho : Ev ta σ H (.ref st)) (k : ∀ H1, Ex H H1 → ∀ H2, Keeps H1 st g H2 → Dom H1 H2 → StAt C H2 st g { m with n := y } → tz D σ H2) :
    tSeq (sFld K ta te "cases") tz D σ H := hv H (Ex.refl H) _ fun H1 e1 => ho H1 e1 _ fun H2 e2 => by
  obtain ⟨dx, ob⟩ := (s.mono (e1.trans e2)).ob
  refine ⟨st, C, dx, _, rfl, ob, T.cl, T.nC, by show 3 < 1000; decide, k H2 (e1.trans e2) _ (fun b o h n1 _ => (upd_ne n1).trans h) (Dom.upd _ _ _) ⟨⟨dx, upd_same.trans (congrArg (fun z => some (HO.ins C dx z)) (sF_pcases m g y))⟩, ?_⟩⟩
  exact (upd_ne s.ne.symm).trans (s.mono (e1.trans e2)).gl
theorem q_truth (T : Txt K mg C) (s : StAt C H st g m) {y : Nat} (hv : Ev te σ H (vN y)) (ho : Ev ta σ H (.ref st)) (k : ∀ H1, Ex H H1 → ∀ H2, Keeps H1 st g H2 → Dom H1 H2 → StAt C H2 st g { m with t := y } → tz D σ H2) :
    tSeq (sFld K ta te "truth") tz D σ H := hv H (Ex.refl H) _ fun H1 e1 => ho H1 e1 _ fun H2 e2 => by
  obtain ⟨dx, ob⟩ := (s.mono (e1.trans e2)).ob
  refine ⟨st, C, dx, _, rfl, ob, T.cl, T.nT, by show 3 < 1000; decide, k H2 (e1.trans e2) _ (fun b o h n1 _ => (upd_ne n1).trans h) (Dom.upd _ _ _) ⟨⟨dx, upd_same.trans (congrArg (fun z => some (HO.ins C dx z)) (sF_ptruth m g y))⟩, ?_⟩⟩
  exact (upd_ne s.ne.symm).trans (s.mono (e1.trans e2)).gl
/-- state.guesses = [..], a new list -/
theorem q_guesses (T : Txt K mg C) (s : StAt C H st g m) {l : List Nat} (hv : EvL te σ H (l.map vN)) (ho : Ev ta σ H (.ref st)) (k : ∀ g' H1, H g' = none → Ex H H1 → ∀ H2, Keeps H1 st g H2 → Dom H1 H2 → StAt C H2 st g' { m with gs := l } → tz D σ H2) :
    tSeq (sFld K ta te "guesses") tz D σ H := hv H (Ex.refl H) _ fun p H1 hp e1 h1 => ho H1 e1 _ fun H2 e2 => by
  obtain ⟨dx, ob⟩ := (s.mono (e1.trans e2)).ob
  have ne : p ≠ st := fun z => by
    obtain ⟨dx, q⟩ := s.ob
    rw [← z, hp] at q
    cases q
  refine ⟨st, C, dx, _, rfl, ob, T.cl, T.nG, by show 3 < 1000; decide, k p H2 hp (e1.trans e2) _ (fun b o h n1 _ => (upd_ne n1).trans h) (Dom.upd _ _ _) ⟨⟨dx, upd_same.trans (congrArg (fun z => some (HO.ins C dx z)) (sF_pguesses m g p))⟩, ?_⟩⟩
  exact (upd_ne ne).trans (e2 _ _ h1)
/-- xs.pop(i) -/
theorem q_pop {l : Addr} {xs : List V} {i : Nat} (hl : H l = some (.lst xs)) (ha : Ev ta σ H (.ref l)) (hi : Ev te σ H (vN i)) (lt : i < xs.length) (small : xs.length ≤ 1000) (k : ∀ H1, Ex H H1 → tz D σ (upd H1 l (.lst (xs.eraseIdx i)))) :
    tSeq (tDrop (tBM K "list" rPopAt ta (tCons te tNil))) tz D σ H := ha H (Ex.refl H) _ fun H1 e1 => ⟨Or.inl ⟨rfl, _, sq_of (e1 _ _ hl)⟩, hi H1 e1 _ fun H2 e2 =>
    ⟨l, xs, i, i, xs[i], rfl, rfl, e2 _ _ (e1 _ _ hl), by omega, by omega, (seqIndex_of (by omega) (by omega)).trans (congrArg some (Int.toNat_natCast i)), List.getElem?_eq_getElem lt, k H2 (e1.trans e2)⟩⟩
theorem map_erase {α β : Type} (f : α → β) : ∀ (l : List α) (i : Nat), (l.map f).eraseIdx i = (l.eraseIdx i).map f
  | [], _ => rfl
  | _ :: _, 0 => rfl
  | a :: r, i + 1 => congrArg (f a :: ·) (map_erase f r i)
theorem Keeps.trans {H1 H2 : Hp} (a : Keeps H st g H1) (b : Keeps H1 st g H2) : Keeps H st g H2 := fun x o h n1 n2 => b x o (a x o h n1 n2) n1 n2
theorem Keeps.then {H1 H2 : Hp} (a : Keeps H st g H1) (b : Ex H1 H2) : Keeps H st g H2 := a.trans (.of b)
end
section
variable {P : Program} {w : World} {K : PySem.W.Frag} {mg : Str → Option Value} {base : Heap} {C : Addr} {m : M}
def spTruth (C : Addr) : Sp := spA C 1 (fun as => .truth (as.getD 0 0)) fun m as => m.n ≠ 0 ∧ as.getD 0 0 < 2 ^ m.n
def spAdd (C : Addr) : Sp := spA C 1 (fun as => .add (as.getD 0 0)) fun m as => m.n ≠ 0 ∧ as.getD 0 0 < 2 ^ m.n
def spDrop (C : Addr) : Sp := spA C 1 (fun as => .drop (as.getD 0 0)) fun m as => m.n ≠ 0 ∧ as.getD 0 0 < m.gs.length
def spBegin (C : Addr) : Sp := spA C 2 (fun as => .begin_ (as.getD 0 0) (as.getD 1 0)) fun m as => True
/-! ### answer_truth -/
theorem sc_truth : FnScope ["state", "s", "before"] ["state", "s"] (defScope s_truth) := ⟨rfl, rfl, rfl, by decide +kernel, rfl, by decide +kernel, by decide +kernel⟩
theorem ok_truth {f : Addr} {fd : FuncData} (F : Fun K "answer_truth" "answer_truth" s_truth f fd) (T : Txt K mg C) : FnOk P w K mg base CX0 1 f fd ["state", "s"] (spTruth C) := by
  refine F.ok sc_truth (fun vs H Q E h => h.len) (fun cdv A outer s H vs Q E hr h => ⟨_, pss_cons (ps_set (i := 2) sc_truth.nd rfl (Or.inl rfl) (pe_fld (pv 0) rfl))
    (pss_cons (ps_fld (pv 0) (pv 1) rfl) (pss_one (ps_ret (pe_lst (pa_cons (pv 2) pa_nil))))), ?_⟩)
  obtain ⟨st, g, m, x, rfl, s, o, ⟨hn, hx⟩, d⟩ := h.one
  refine q_asg (ev_truth T s (ev_var rfl)) fun H1 e1 => q_truth T (s.mono e1) (ev_var rfl) (ev_var rfl) fun H2 e2 H3 k3 n3 s3 => ?_
  refine s_retL (el_1 (ev_var rfl)) fun p H4 hp e4 h4 => ?_
  obtain ⟨da, dn⟩ := due_truth hn hx
  exact d p H4 g (((Dom.of (e1.trans e2)).trans n3) p hp) ((Keeps.of (e1.trans e2)).trans (k3.then e4)) (.inl rfl) (by rw [dn]; exact s3.mono e4) (by rw [da, ← ints_N]; exact h4)
/-! ### answer_add -/
theorem sc_add : FnScope ["state", "s"] ["state", "s"] (defScope s_add) := ⟨rfl, rfl, rfl, by decide +kernel, rfl, by decide +kernel, by decide +kernel⟩
theorem ok_add {f : Addr} {fd : FuncData} (F : Fun K "answer_add" "answer_add" s_add f fd) (T : Txt K mg C) : FnOk P w K mg base CX0 1 f fd ["state", "s"] (spAdd C) := by
  refine F.ok sc_add (fun vs H Q E h => h.len) (fun cdv A outer s H vs Q E hr h => ⟨_,
    pss_cons (ps_if (pt_cmpR op_in_seq (pv 1) (pe_fld (pv 0) rfl) (by rfl)) (pss_one (ps_ret (pe_lst (pa_cons (pe_un un_neg (pe_cst T.c17)) pa_nil)))) pss_nil)
    (pss_cons (ps_if (pt_cmpR op_eq (pe_callB call_len_seq (by rfl) T.len PySem.boot_len (pa_cons (pe_fld (pv 0) rfl) pa_nil)) (pe_cst T.cG) (nomark _)) (pss_one (ps_ret (pe_lst (pa_cons (pe_un un_neg (pe_cst T.c28)) pa_nil)))) pss_nil)
    (pss_cons (ps_expr (pe_bm PySem.F.plainAttrs_list PySem.F.slot_list_append PySem.F.type_list_append mt_append (pe_fld (pv 0) rfl) (pa_cons (pv 1) pa_nil)))
    (pss_one (ps_ret (pe_lst (pa_cons (pe_op op_sub (pe_callB call_len_seq (by rfl) T.len PySem.boot_len (pa_cons (pe_fld (pv 0) rfl) pa_nil)) pe_int) pa_nil)))))), ?_⟩)
  obtain ⟨st, g, m, x, rfl, s, o, ⟨hn, hx⟩, d⟩ := h.one
  obtain ⟨d1, d2, d3⟩ := due_add hn hx
  refine q_when (b := m.gs.contains x) (et_test (ev_is (ev_op (ev_var rfl) (ev_guesses T s (ev_var rfl)) (rv_isL (sq_of s.gl) rfl (flat_N _))) (congrArg V.bl (inV_N x m.gs)))) (fun c H1 e1 => ?_) fun c H1 e1 => ?_
  · exact s_retL (el_1 (ev_neg ev_c)) fun p H2 hp e2 h2 => d.go s (d1 c).2 (d1 c).1 (fresh_back e1 hp) (e1.trans e2) h2
  have s1 := s.mono e1
  refine q_when (b := m.gs.length == 16) (et_test (ev_eqN (ev_lenS (ev_guesses T s1 (ev_var rfl)) (sq_of s1.gl)) ev_c)) (fun c2 H2 e2 => ?_) fun c2 H2 e2 => ?_
  · have c2' : m.gs.length = 16 := by simpa using c2
    exact s_retL (el_1 (ev_neg ev_c)) fun p H3 hp e3 h3 => d.go s (d2 c (Nat.le_of_eq c2'.symm)).2 (d2 c (Nat.le_of_eq c2'.symm)).1 (fresh_back (e1.trans e2) hp) ((e1.trans e2).trans e3) h3
  have c2' : m.gs.length < 16 := by
    have := o.le
    have : m.gs.length ≠ 16 := by simpa using c2
    omega
  have s2 := s1.mono e2
  refine q_app s2.gl (ev_guesses T s2 (ev_var rfl)) (ev_var rfl) (by rw [List.length_map]; omega) fun H3 e3 => ?_
  have s3 : StAt C (upd H3 g (.lst (m.gs.map vN ++ [vN x]))) st g { m with gs := m.gs ++ [x] } := by
    obtain ⟨dx, ob⟩ := (s2.mono e3).ob
    refine ⟨⟨dx, (upd_ne s2.ne).trans ob⟩, ?_⟩
    show _ = some (HO.lst ((m.gs ++ [x]).map vN))
    rw [List.map_append]
    exact upd_same
  have e13 := (e1.trans e2).trans e3
  have k3 : Keeps H st g (upd H3 g (.lst (m.gs.map vN ++ [vN x]))) := fun b ob h _ n2 => (upd_ne n2).trans (e13 b ob h)
  refine s_retL (el_1 (ev_is (ev_op (ev_lenS (ev_guesses T s3 (ev_var rfl)) (sq_of s3.gl)) ev_c rv_I0) (w := vN m.gs.length) (congrArg V.int ?_))) fun p H4 hp e4 h4 => ?_
  · show (((m.gs ++ [x]).length : Nat) : Int) - 1 = _
    rw [List.length_append]
    show ((m.gs.length + 1 : Nat) : Int) - 1 = _
    omega
  · exact d p H4 g (((Dom.of e13).trans (Dom.upd _ _ _)) p hp) (k3.then e4) (.inl rfl) (by rw [(d3 c c2').2]; exact s3.mono e4) (by rw [(d3 c c2').1, ← ints_N]; exact h4)
/-! ### answer_drop -/
theorem sc_drop : FnScope ["state", "i"] ["state", "i"] (defScope s_drop) := ⟨rfl, rfl, rfl, by decide +kernel, rfl, by decide +kernel, by decide +kernel⟩
theorem ok_drop {f : Addr} {fd : FuncData} (F : Fun K "answer_drop" "answer_drop" s_drop f fd) (T : Txt K mg C) : FnOk P w K mg base CX0 1 f fd ["state", "i"] (spDrop C) := by
  refine F.ok sc_drop (fun vs H Q E h => h.len) (fun cdv A outer s H vs Q E hr h => ⟨_,
    pss_cons (ps_expr (pe_bm PySem.F.plainAttrs_list PySem.F.slot_list_pop PySem.F.type_list_pop mt_popAt (pe_fld (pv 0) rfl) (pa_cons (pv 1) pa_nil)))
    (pss_one (ps_ret (pe_lst (pa_cons (pe_callB call_len_seq (by rfl) T.len PySem.boot_len (pa_cons (pe_fld (pv 0) rfl) pa_nil)) pa_nil)))), ?_⟩)
  obtain ⟨st, g, m, x, rfl, s, o, ⟨hn, hx⟩, d⟩ := h.one
  replace hx : x < m.gs.length := hx
  replace d : Due C st g m (.drop x) H Q := d
  obtain ⟨da, dn⟩ := due_drop hn hx
  refine q_pop s.gl (ev_guesses T s (ev_var rfl)) (ev_var rfl) (by rw [List.length_map]; exact hx) (by rw [List.length_map]; have := o.le; omega) fun H2 e12 => ?_
  · have s3 : StAt C (upd H2 g (.lst ((m.gs.map vN).eraseIdx x))) st g { m with gs := m.gs.eraseIdx x } := by
      obtain ⟨dx, ob⟩ := (s.mono e12).ob
      refine ⟨⟨dx, (upd_ne s.ne).trans ob⟩, ?_⟩
      show _ = some (HO.lst ((m.gs.eraseIdx x).map vN))
      rw [← map_erase]
      exact upd_same
    have k3 : Keeps H st g (upd H2 g (.lst ((m.gs.map vN).eraseIdx x))) := fun b ob h _ n2 => (upd_ne n2).trans (e12 b ob h)
    have el : ({ m with gs := m.gs.eraseIdx x } : M).gs.length = m.gs.length - 1 := List.length_eraseIdx_of_lt hx
    refine s_retL (el_1 (ev_lenS (ev_guesses T s3 (ev_var rfl)) (sq_of s3.gl))) fun p H4 hp e4 h4 => ?_
    rw [el] at h4
    exact d p H4 g (((Dom.of e12).trans (Dom.upd _ _ _)) p hp) (k3.then e4) (.inl rfl) (by rw [dn]; exact s3.mono e4) (by rw [da, ← ints_N]; exact h4)
/-! ### answer_begin -/
theorem sc_begin : FnScope ["state", "cases", "truth"] ["state", "cases", "truth"] (defScope s_begin) := ⟨rfl, rfl, rfl, by decide +kernel, rfl, by decide +kernel, by decide +kernel⟩
theorem ev_ltN {σ : L2.St} {H : Hp} {ta tb : TE} {x y : Nat} (ha : Ev ta σ H (vN x)) (hb : Ev tb σ H (vN y)) : Ev (tOp (rI0 fun i j => .bl (decide (i < j))) ta tb) σ H (.bl (decide (x < y))) :=
  ev_is (ev_op ha hb rv_I0) (congrArg V.bl (by rw [Bool.eq_iff_iff, decide_eq_true_eq, decide_eq_true_eq]; omega))
theorem ev_gtN {σ : L2.St} {H : Hp} {ta tb : TE} {x y : Nat} (ha : Ev ta σ H (vN x)) (hb : Ev tb σ H (vN y)) : Ev (tOp (rI0 fun i j => .bl (decide (j < i))) ta tb) σ H (.bl (decide (y < x))) :=
  ev_is (ev_op ha hb rv_I0) (congrArg V.bl (by rw [Bool.eq_iff_iff, decide_eq_true_eq, decide_eq_true_eq]; omega))
theorem ok_begin {f fo : Addr} {fd fdo : FuncData} (F : Fun K "answer_begin" "answer_begin" s_begin f fd) (T : Txt K mg C) (Fo : Fun K "holds_others" "holds_others" s_holds fo fdo) (bo : Binds K fdo ["members", "cases"] [])
    (go : mg "holds_others" = some (.ref fo)) (Go : FnOk P w K mg base CX0 1 fo fdo ["members", "cases"] spHolds) : FnOk P w K mg base CX0 2 f fd ["state", "cases", "truth"] (spBegin C) := by
  refine F.ok sc_begin (fun vs H Q E h => h.len) (fun cdv A outer s H vs Q E hr h => ⟨_,
    pss_cons (ps_if (PW.pt (pw_or (pt_cmpR op_lt (pv 1) pe_int (nomark _)) (pw_or (pt_cmpR op_gt (pv 1) (pe_cst T.cC) (nomark _)) (pw_or1 (pt_val (pe_call Go hr rfl go Fo.kp bo .nil pass0 (pa_cons (pv 2) (pa_cons (pv 1) pa_nil))))))))
      (pss_one (ps_ret (pe_lst (pa_cons (pe_un un_neg (pe_cst T.c22)) pa_nil)))) pss_nil)
    (pss_cons (ps_fld (pv 0) (pv 1) rfl) (pss_cons (ps_fld (pv 0) (pv 2) rfl) (pss_cons (ps_fld (pv 0) (pe_lst pa_nil) rfl) (pss_one (ps_ret (pe_lst (pa_cons pe_int pa_nil))))))), ?_⟩)
  obtain ⟨st, g, m, x, y, rfl, s, o, _, d⟩ := h.two
  replace d : Due C st g m (.begin_ x y) H Q := d
  obtain ⟨d1, d2⟩ := due_begin (m := m) x y
  have big : (y / 2 ^ x == 0) = decide (¬ 2 ^ x ≤ y) := by
    rw [Bool.eq_iff_iff, beq_iff_eq, decide_eq_true_eq, Nat.div_eq_zero_iff]
    have := Nat.two_pow_pos x
    omega
  refine q_when (b := decide (x < 1) || (decide (8 < x) || !(y / 2 ^ x == 0))) (et_or (et_test (ev_ltN (y := 1) (ev_var rfl) ev_c)) fun _ => et_or (et_test (ev_gtN (y := 8) (ev_var rfl) ev_c)) fun _ =>
    et_B (ev_call (ea_cons (ev_var rfl) (ea_cons (ev_var rfl) ea_nil)) sv_holds)) (fun c H1 e1 => ?_) fun c H1 e1 => ?_
  · have c' : x < 1 ∨ 8 < x ∨ 2 ^ x ≤ y := by
      rw [big] at c
      simpa using c
    exact s_retL (el_1 (ev_neg ev_c)) fun p H2 hp e2 h2 => d.go s (d1 c').2 (d1 c').1 (fresh_back e1 hp) (e1.trans e2) h2
  · have c' : ¬ (x < 1 ∨ 8 < x ∨ 2 ^ x ≤ y) := by
      rw [big] at c
      simpa using c
    refine q_cases T (s.mono e1) (ev_var rfl) (ev_var rfl) fun H2 e2 H3 k3 n3 s3 => ?_
    refine q_truth T s3 (ev_var rfl) (ev_var rfl) fun H4 e4 H5 k5 n5 s5 => ?_
    refine q_guesses T s5 (l := []) (el_lst ea_nil (by decide)) (ev_var rfl) fun g' H6 hg e6 H7 k7 n7 s7 => ?_
    have dm : Dom H H5 := (((Dom.of (e1.trans e2)).trans n3).trans (Dom.of e4)).trans n5
    have kk : Keeps H st g H7 := (((Keeps.of (e1.trans e2)).trans (k3.then e4)).trans (k5.then e6)).trans k7
    refine s_retL (el_1 ev_c) fun p H8 hp e8 h8 => ?_
    exact d p H8 g' (((dm.trans (Dom.of e6)).trans n7) p hp) (kk.then e8) (.inr (dm g' hg)) (by rw [(d2 c').2]; exact s7.mono e8) (by rw [(d2 c').1, ← ints_N]; exact h8)
end
end Pc


set_option Elab.async false
set_option linter.all false
set_option maxRecDepth 100000
set_option maxHeartbeats 3000000
namespace Pc
open PySem PySem.Spec PyProof.Rows L2 Evl Pm
/-! ### a def that may be called -/
structure Def (P : Program) (w : World) (K : PySem.W.Frag) (mg : Str → Option Value) (base : Heap) (x : Str) (k : Nat) (f : Addr) (ps : List Str) (sp : Sp) : Prop where
  ok : ∃ fd, FnOk P w K mg base CX0 k f fd ps sp ∧ Binds K fd ps []
  kp : PySem.W.keepIn K (.ref f) = true
  gl : mg x = some (.ref f)
theorem pe_d {X : Cx} {x : Str} {k : Nat} {f : Addr} {ps : List Str} {sp : Sp} {p pos : Pos} {a : Expr} {as : List Expr} {t : TA} (D : Def X.prog X.w X.K X.mg X.base x k f ps sp) (hr : Room k X.A) (hg : Gl X x) (ha : PA X (a :: as) t)
    (nd : (x == ("__debug__" : Str)) = false := by decide) (one : starEach (a :: as) X.env = (false, eval a X.env) :: starEach as X.env := by rfl)
    (rest : (backTo pos (starEach as X.env)).any (·.1) = false := by rfl) : PE X (.Call (.Name x p) (a :: as) [] pos) (tCall sp [] E0 t) := by
  obtain ⟨fd, F, hb⟩ := D.ok
  exact pe_call F hr hg D.gl D.kp hb .nil pass0 ha nd one rest
section
variable {K : PySem.W.Frag} {mg : Str → Option Value} {C : Addr} {σ : L2.St} {H H' : Hp} {ta tb te tl : TE} {t : TT} {st g : Addr} {m : M}
theorem pow8 {n : Nat} (h : n ≤ 8) : 2 ^ n ≤ 256 := Nat.pow_le_pow_right (n := 2) (j := 8) (by decide) h
theorem setsN_le {n k : Nat} (h : n ≤ 8) : (setsN n k).length ≤ 256 := by
  have := List.length_filter_le (fun s => sz s == k) (List.range (2 ^ n))
  rw [List.length_range] at this
  exact Nat.le_trans this (pow8 h)
/-- rules with the written part told: within a comprehension -/
theorem pe_fldK {X : Cx} {e : Expr} {f : Str} {pos : Pos} {ta : TE} (hK : X.K = K) (he : PE X e ta) (hb : attributeBase e f X.env (eval e X.env) = eval e X.env) : PE X (.Attribute e f pos) (tFld K ta f) := by
  subst hK
  exact pe_fld he hb
theorem lenK {X : Cx} (hK : X.K = K) : CallR X (.builtin "len") (rLenS K) := by
  subst hK
  exact call_len_seq
theorem ixK {X : Cx} (hK : X.K = K) : IxR X (rIxL K) := by
  subst hK
  exact ix_list
theorem ev_lenM {l : List Nat} (ha : EvL ta σ H (l.map vN)) : Ev (tCB (rLenS K) (tCons ta tNil)) σ H (vN l.length) := by
  have e := ev_lenN (K := K) ha
  rw [List.length_map] at e
  exact e
/-- f(l, v), f(l), l a list made on the way -/
theorem el_callL {sp : Sp} {xs ys : List V} {v : V} (h1 : EvL ta σ H xs) (h2 : Ev tb σ H v) (hs : ∀ p H1, H1 p = some (.lst xs) → SpL sp [.ref p, v] H1 ys) : EvL (tCall sp [] E0 (tCons ta (tCons tb tNil))) σ H ys := fun H1 e Q q =>
  h1 H1 e _ fun p H2 hp e2 hl => h2 H2 (e.trans e2) _ fun H3 e3 => hs p H3 (e3 _ _ hl) H3 (Ex.refl _) Q (fun p' H4 hp' e4 h4 => q p' H4 (fresh_back (e2.trans e3) hp') ((e2.trans e3).trans e4) h4) E0
theorem ev_allN {bs : List Bool} (ha : EvL ta σ H (bs.map V.bl)) : Ev (tCB (rAll K) (tCons ta tNil)) σ H (.bl (bs.all id)) := fun H1 e Q q =>
  ha H1 e _ fun p H2 _ e2 h2 => ⟨p, bs, rfl, sq_of h2, q H2 e2⟩
theorem el_lcB {a : Addr} {l : List Nat} {j : Nat} {vs : List Nat} (f : Nat → Bool) (h : Ev tl σ H (.ref a)) (hx : SqL K H a (l.map vN)) (hz : l.length ≤ 40000)
    (hw : ∀ x, wipe ((wipe σ vs).set j (some x)) vs = wipe σ vs)
    (he : ∀ x ∈ l, ∀ H1, Ex H H1 → Ev te ((wipe σ vs).set j (some (vN x))) H1 (.bl (f x))) :
    EvL (tLc (iList K tl) (gName j) tYes te vs) σ H ((l.map f).map V.bl) := by
  have r := el_lcN (te := te) (fun _ => true) (fun x => V.bl (f x)) h hx hz hw (fun _ _ _ _ => et_yes) (fun x hx _ => he x hx)
  rw [filter_yes] at r
  rw [List.map_map]
  exact r
/-- max of a list that stands -/
theorem ev_maxS {p : Addr} {l : List Nat} {v : Nat} (ha : Ev ta σ H (.ref p)) (hs : SqL K H p (l.map vN)) (hm : v ∈ l) (hg : ∀ x ∈ l, x ≤ v) : Ev (tCB (rMax K) (tCons ta tNil)) σ H (vN v) := fun H1 e Q q =>
  ha H1 e _ fun H2 e2 => ⟨p, l.map fun n : Nat => (n : Int), rfl, by rw [← ints_N]; exact ex_l (e.trans e2) hs, by
    rw [List.length_map]
    exact List.length_pos_of_mem hm, fun z hz hzg => by
    obtain ⟨k, hk, rfl⟩ := List.mem_map.mp hz
    have h1 := hg k hk
    have h2 := hzg (v : Int) (List.mem_map.mpr ⟨v, hm, rfl⟩)
    have e : k = v := by omega
    subst e
    exact q H2 e2⟩
theorem ev_geN {x y : Nat} (ha : Ev ta σ H (vN x)) (hb : Ev tb σ H (vN y)) : Ev (tOp (rI0 fun i j => .bl (decide (j ≤ i))) ta tb) σ H (.bl (decide (y ≤ x))) :=
  ev_is (ev_op ha hb rv_I0) (congrArg V.bl (by rw [Bool.eq_iff_iff, decide_eq_true_eq, decide_eq_true_eq]; omega))
theorem ev_leN {x y : Nat} (ha : Ev ta σ H (vN x)) (hb : Ev tb σ H (vN y)) : Ev (tOp (rI0 fun i j => .bl (decide (i ≤ j))) ta tb) σ H (.bl (decide (x ≤ y))) :=
  ev_is (ev_op ha hb rv_I0) (congrArg V.bl (by rw [Bool.eq_iff_iff, decide_eq_true_eq, decide_eq_true_eq]; omega))
theorem ev_mulN {x y : Nat} (ha : Ev ta σ H (vN x)) (hb : Ev tb σ H (vN y)) (hx : x < 2 ^ 64) : Ev (tOp (rI CMul fun i j => .int (i * j)) ta tb) σ H (vN (x * y)) :=
  ev_is (ev_op ha hb (rv_I (.inl ⟨by omega, by omega⟩))) (congrArg V.int (Int.natCast_mul x y).symm)
theorem ev_subN {x y : Nat} (ha : Ev ta σ H (vN x)) (hb : Ev tb σ H (vN y)) (h : y ≤ x) : Ev (tOp (rI0 fun i j => .int (i - j)) ta tb) σ H (vN (x - y)) :=
  ev_is (ev_op ha hb rv_I0) (congrArg V.int (by omega))
/-- min(l, key=f) -/
theorem ev_minKey {f : Addr} {sp : Sp} {a : Addr} {l : List Nat} {F : Nat → Nat} {i s : Nat} (ha : Ev ta σ H (.ref a)) (hs : SqL K H a (l.map vN)) (hsp : ∀ x ∈ l, ∀ H1, SpV sp [vN x] H1 (vN (F x)))
    (gi : l[i]? = some s) (le : ∀ (j x : Nat), l[j]? = some x → F s ≤ F x ∧ (j < i → F s < F x)) : Ev (tCKw (rMinKey K f sp) (tCons ta tNil) (tCons (tC (.ref f)) tNil)) σ H (vN s) := fun H1 e Q q =>
  ha H1 e _ fun H2 e2 => ⟨a, l.map fun n : Nat => (n : Int), fun z => (F z.toNat : Int), rfl, rfl, by rw [← ints_N]; exact ex_l (e.trans e2) hs, by
    rw [List.length_map]
    exact Nat.lt_of_le_of_lt (Nat.zero_le _) (List.getElem?_eq_some_iff.mp gi).1, fun n hn => by
    obtain ⟨x, hx, rfl⟩ := List.mem_map.mp hn
    exact hsp x hx H2, fun j n H3 gj best e3 => by
    rw [List.getElem?_map] at gj
    cases z : l[j]? with
    | none =>
      rw [z] at gj
      cases gj
    | some y =>
      rw [z] at gj
      cases gj
      have b1 := best i (s : Int) (by rw [List.getElem?_map, gi]; rfl)
      have b2 := le j y z
      simp only [Int.toNat_natCast] at b1
      have ij : i = j := by
        rcases Nat.lt_trichotomy i j with c | c | c
        · have := b1.2 c
          omega
        · exact c
        · have := b2.2 c
          omega
      subst ij
      rw [gi] at z
      cases z
      exact q H3 (e2.trans e3)⟩
end
abbrev s_many : Stmt := top 18
abbrev s_wset : Stmt := top 22
abbrev s_wat : Stmt := top 23
abbrev s_fitg : Stmt := top 24
abbrev s_mis : Stmt := top 25
abbrev s_mostw : Stmt := top 26
abbrev s_tfa : Stmt := top 27
abbrev s_tell : Stmt := top 28
section
variable {P : Program} {w : World} {K : PySem.W.Frag} {mg : Str → Option Value} {base : Heap} {C : Addr} {m : M}
def spMany : Sp := fun vs H Q _ => ∃ n s : Nat, vs = [vN n, vN s] ∧ n ≤ 40 ∧ s ≤ 40 ∧ RetV (vN (Kh399.choose n s)) H Q
def spWset (C : Addr) : Sp := fun vs H Q _ => ∃ st g m, vs = [.ref st] ∧ StAt C H st g m ∧ m.Ok ∧ RetL ((wsM m).map vN) H Q
def spWat (C : Addr) : Sp := fun vs H Q _ => ∃ st g m, ∃ e : Nat, vs = [.ref st, vN e] ∧ StAt C H st g m ∧ m.Ok ∧ RetL ((wsAt m e).map vN) H Q
def spFitg (K : PySem.W.Frag) : Sp := fun vs H Q _ => ∃ a l, ∃ s : Nat, vs = [.ref a, vN s] ∧ Gs K H a l ∧ RetL ((fitL l s).map vN) H Q
def spMis (C : Addr) : Sp := fun vs H Q _ => ∃ st g m, ∃ k e : Nat, vs = [.ref st, vN k, vN e] ∧ StAt C H st g m ∧ m.Ok ∧ RetL (((setsN m.n k).filter (pmis m e)).map vN) H Q
def spMostw (K : PySem.W.Frag) : Sp := fun vs H Q _ => ∃ a l, ∃ s : Nat, vs = [.ref a, vN s] ∧ Gs K H a l ∧ (∀ x ∈ l, x < 2 ^ 8) ∧ fitL l s ≠ [] ∧ RetV (vN (((fitL l s).map fun i => sz (l.getD i 0)).foldl max 0)) H Q
def spTfa (K : PySem.W.Frag) : Sp := fun vs H Q _ => ∃ a l, ∃ s : Nat, vs = [.ref a, vN s] ∧ Gs K H a l ∧ RetV (.bl ((l.map fun d => !(d &&& s == 0)).all id)) H Q
def spTell (C : Addr) : Sp := fun vs H Q _ => ∃ st g m, ∃ i s : Nat, vs = [.ref st, vN i] ∧ StAt C H st g m ∧ m.Ok ∧ i < m.gs.length ∧ Least m (m.gs.getD i 0) s ∧ RetV (vN s) H Q
theorem sv_many {n s : Nat} {H : Hp} (h1 : n ≤ 40) (h2 : s ≤ 40) : SpV spMany [vN n, vN s] H (vN (Kh399.choose n s)) := fun H1 _ Q q E => ⟨n, s, rfl, h1, h2, q⟩
theorem sl_wset {st g : Addr} {H : Hp} (s : StAt C H st g m) (o : m.Ok) : SpL (spWset C) [.ref st] H ((wsM m).map vN) := fun H1 e Q q E => ⟨st, g, m, rfl, s.mono e, o, q⟩
theorem sl_wat {st g : Addr} {H : Hp} {e : Nat} (s : StAt C H st g m) (o : m.Ok) : SpL (spWat C) [.ref st, vN e] H ((wsAt m e).map vN) := fun H1 ex Q q E => ⟨st, g, m, e, rfl, s.mono ex, o, q⟩
theorem sl_fitg {a : Addr} {l : List Nat} {s : Nat} {H : Hp} (g : Gs K H a l) : SpL (spFitg K) [.ref a, vN s] H ((fitL l s).map vN) := fun H1 e Q q E => ⟨a, l, s, rfl, g.mono e, q⟩
theorem sl_mis {st g : Addr} {H : Hp} {k e : Nat} (s : StAt C H st g m) (o : m.Ok) : SpL (spMis C) [.ref st, vN k, vN e] H (((setsN m.n k).filter (pmis m e)).map vN) := fun H1 ex Q q E => ⟨st, g, m, k, e, rfl, s.mono ex, o, q⟩
theorem sv_mostw {a : Addr} {l : List Nat} {s : Nat} {H : Hp} (g : Gs K H a l) (h8 : ∀ x ∈ l, x < 2 ^ 8) (ne : fitL l s ≠ []) : SpV (spMostw K) [.ref a, vN s] H (vN (((fitL l s).map fun i => sz (l.getD i 0)).foldl max 0)) :=
  fun H1 e Q q E => ⟨a, l, s, rfl, g.mono e, h8, ne, q⟩
theorem sv_tfa {a : Addr} {l : List Nat} {s : Nat} {H : Hp} (g : Gs K H a l) : SpV (spTfa K) [.ref a, vN s] H (.bl ((l.map fun d => !(d &&& s == 0)).all id)) := fun H1 e Q q E => ⟨a, l, s, rfl, g.mono e, q⟩
theorem sv_tell {st g : Addr} {H : Hp} {i x : Nat} (s : StAt C H st g m) (o : m.Ok) (hi : i < m.gs.length) (hx : Least m (m.gs.getD i 0) x) : SpV (spTell C) [.ref st, vN i] H (vN x) :=
  fun H1 e Q q E => ⟨st, g, m, i, x, rfl, s.mono e, o, hi, hx, q⟩
/-! ### how_many_sets -/
theorem sc_many : FnScope ["things", "size", "count", "chosen"] ["things", "size"] (defScope s_many) := ⟨rfl, rfl, rfl, by decide +kernel, rfl, by decide +kernel, by decide +kernel⟩
theorem ok_many {f : Addr} {fd : FuncData} (F : Fun K "how_many_sets" "how_many_sets" s_many f fd) (T : Txt K mg C) : FnOk P w K mg base CX0 1 f fd ["things", "size"] spMany := by
  refine F.ok sc_many (fun vs H Q E h => ?_) (fun cdv A outer s H vs Q E hr h => ⟨_, pss_cons (ps_set (i := 2) sc_many.nd rfl (Or.inl rfl) pe_int)
    (pss_cons (ps_for PassesOwn.never rfl (pi_range1 rfl T.range (pa_cons (pv 1) pa_nil)) (pg_name (i := 3) sc_many.nd rfl (Or.inl rfl))
      (pss_one (ps_set (i := 2) sc_many.nd rfl (Or.inl rfl) (pe_op op_fdiv (pe_op op_mul (pv 2) (pe_op op_sub (pv 0) (pv 3))) (pe_op op_add (pv 3) pe_int)))))
    (pss_one (ps_ret (pv 2)))), ?_⟩)
  · obtain ⟨n, s, rfl, _⟩ := h
    rfl
  obtain ⟨n, s, rfl, hn, hs, k⟩ := h
  refine q_asg (v := vN 1) ev_c fun H1 e1 => ?_
  refine q_forR1 (n := (s : Int)) (ea_cons (ev_var rfl) ea_nil) ⟨by omega, by omega⟩ (fun i σ H' => ∃ u, σ = [some (vN n), some (vN s), some (vN (Kh399.choose n i)), u] ∧ Ex H H') (fun H2 e2 => ⟨none, by rw [choose_zero]; rfl, e1.trans e2⟩) ?_ ?_
  · rintro i σ' H' hi ⟨u, rfl, e⟩
    have b : Kh399.choose n i < 2 ^ 64 := Nat.lt_of_le_of_lt (choose_le n i) (Nat.pow_lt_pow_right (by decide) (by omega))
    refine s_asg (v := vN (Kh399.choose n (i + 1))) (ev_is (ev_op (ev_op (ev_var rfl) (ev_op (ev_var rfl) (ev_var rfl) rv_I0) (rv_I (.inl ⟨by omega, by omega⟩))) (ev_op (ev_var rfl) (ev_c (v := .int 1)) rv_I0) (rv_I ⟨by omega, by omega⟩)) (congrArg V.int (many_turn n i))) fun H2 e2 => ?_
    exact ⟨_, rfl, e.trans e2⟩
  · rintro σ' H' ⟨u, rfl, e⟩
    rw [Int.toNat_natCast]
    exact s_ret (ev_var rfl) fun H2 e2 => k H2 (e.trans e2)
/-! ### wrong_sets, wrong_on_at_least -/
theorem sc_wset : FnScope ["state", "guess"] ["state"] (defScope s_wset) := ⟨rfl, rfl, rfl, by decide +kernel, rfl, by decide +kernel, by decide +kernel⟩
theorem ok_wset {f : Addr} {fd : FuncData} (F : Fun K "wrong_sets" "wrong_sets" s_wset f fd) (T : Txt K mg C) : FnOk P w K mg base CX0 1 f fd ["state"] (spWset C) := by
  refine F.ok sc_wset (fun vs H Q E h => ?_) (fun cdv A outer s H vs Q E hr h => ⟨_, pss_one (ps_ret
    (pe_lc (own := [("guess", 1)]) (g := gName 1) (tt := tYes) rfl sc_wset.nd (pi_list (pe_fld (pv 0) rfl))
      (blkOk_by (N := ["state", "guess"]) (sc := defScope s_wset) (by decide +kernel)) (fun _ _ _ _ _ => pg_name (i := 1) sc_wset.nd rfl (Or.inl rfl)) (fun _ _ _ _ _ => pts_nil)
      (fun _ _ _ _ _ => pe_op op_xor (pv 1) (pe_fldK (K := K) rfl (pv 0) rfl)))), ?_⟩)
  · obtain ⟨st, g, m, rfl, _⟩ := h
    rfl
  obtain ⟨st, g, m, rfl, s, o, k⟩ := h
  exact s_retL (xs := (wsM m).map vN) (el_lcM (fun x => x ^^^ m.t) (ev_guesses T s (ev_var rfl)) (sq_of s.gl) (by have := o.le; omega) (fun _ => rfl)
    fun x hx H2 e2 => ev_xor (ev_var rfl) (ev_truth T (s.mono e2) (ev_var rfl))) k
theorem w8 (o : m.Ok) : ∀ x ∈ wsM m, x < 2 ^ 8 := fun x hx => Nat.lt_of_lt_of_le (ws_lt o x hx) (pow8 o.n8)
theorem ws16 (o : m.Ok) : (wsM m).length ≤ 16 := by
  rw [ws_len]
  exact o.le
theorem wat_sub {e : Nat} : ∀ x ∈ wsAt m e, x ∈ wsM m := fun x hx => (List.mem_filter.mp hx).1
theorem wat16 (o : m.Ok) {e : Nat} : (wsAt m e).length ≤ 16 := Nat.le_trans (List.length_filter_le _ _) (ws16 o)
theorem sc_wat : FnScope ["state", "e", "wrong"] ["state", "e"] (defScope s_wat) := ⟨rfl, rfl, rfl, by decide +kernel, rfl, by decide +kernel, by decide +kernel⟩
theorem ok_wat {f f1 f2 : Addr} {fd : FuncData} (F : Fun K "wrong_on_at_least" "wrong_on_at_least" s_wat f fd) (T : Txt K mg C) (dw : Def P w K mg base "wrong_sets" 1 f1 ["state"] (spWset C)) (dz : Def P w K mg base "size_of" 1 f2 ["members"] spSize) :
    FnOk P w K mg base CX0 2 f fd ["state", "e"] (spWat C) := by
  refine F.ok sc_wat (fun vs H Q E h => ?_) (fun cdv A outer s H vs Q E hr h => ⟨_, pss_one (ps_ret
    (pe_lc (own := [("wrong", 2)]) (g := gName 2) rfl sc_wat.nd (pi_list (pe_d dw hr rfl (pa_cons (pv 0) pa_nil)))
      (blkOk_by (N := ["state", "e", "wrong"]) (sc := defScope s_wat) (by decide +kernel)) (fun _ _ _ _ _ => pg_name (i := 2) sc_wat.nd rfl (Or.inl rfl))
      (fun _ _ _ _ _ => pts_one (pt_cmpR op_ge (pe_d dz hr rfl (pa_cons (pv 2) pa_nil)) (pv 1) (nomark _)))
      (fun _ _ _ _ _ => pv 2))), ?_⟩)
  · obtain ⟨st, g, m, e, rfl, _⟩ := h
    rfl
  obtain ⟨st, g, m, e, rfl, s, o, k⟩ := h
  exact s_retL (xs := (wsAt m e).map vN) (el_lcNN (l := wsM m) (fun x => decide (e ≤ sz x)) vN (el_call (ea_cons (ev_var rfl) ea_nil) (sl_wset s o)) (by have := ws16 o; omega) (fun _ => rfl)
    (fun x hx H1 _ => et_test (ev_geN (ev_call (ea_cons (ev_var rfl) ea_nil) (sv_size (w8 o x hx))) (ev_var rfl))) (fun x _ _ H1 _ => ev_var rfl)) k
/-! ### fitting -/
theorem sc_fitg : FnScope ["wrongs", "sample", "i"] ["wrongs", "sample"] (defScope s_fitg) := ⟨rfl, rfl, rfl, by decide +kernel, rfl, by decide +kernel, by decide +kernel⟩
theorem ok_fitg {f : Addr} {fd : FuncData} (F : Fun K "fitting" "fitting" s_fitg f fd) (T : Txt K mg C) : FnOk P w K mg base CX0 1 f fd ["wrongs", "sample"] (spFitg K) := by
  refine F.ok sc_fitg (fun vs H Q E h => ?_) (fun cdv A outer s H vs Q E hr h => ⟨_, pss_one (ps_ret
    (pe_lc (own := [("i", 2)]) (g := gName 2) rfl sc_fitg.nd (pi_range1 rfl T.range (pa_cons (pe_callB call_len_seq (by rfl) T.len PySem.boot_len (pa_cons (pv 0) pa_nil)) pa_nil))
      (blkOk_by (N := ["wrongs", "sample", "i"]) (sc := defScope s_fitg) (by decide +kernel)) (fun _ _ _ _ _ => pg_name (i := 2) sc_fitg.nd rfl (Or.inl rfl))
      (fun _ _ _ _ _ => pts_one (pt_cmpR op_eq (pe_op op_and (pe_ix (ixK (K := K) rfl) (pv 0) (pv 2) (fun _ _ => rfl)) (pv 1)) pe_int (nomark _)))
      (fun _ _ _ _ _ => pv 2))), ?_⟩)
  · obtain ⟨a, l, s, rfl, _⟩ := h
    rfl
  obtain ⟨a, l, s, rfl, g, k⟩ := h
  exact s_retL (xs := (fitL l s).map vN) (el_lcRN (n := l.length) (fun i => l.getD i 0 &&& s == 0) vN (ea_cons (ev_lenS (ev_var rfl) g.sq) ea_nil) (by have := g.le; omega) (fun _ => rfl)
    (fun x hx H1 e1 => et_test (ev_eqN (y := 0) (ev_and (ev_ix (l := l) (ev_var rfl) (ex_l e1 g.sq) (ev_var rfl) hx) (ev_var rfl)) ev_c)) (fun x _ _ H1 _ => ev_var rfl)) k
/-! ### misleading_samples -/
theorem sc_mis : FnScope ["state", "k", "e", "wrongs", "sample"] ["state", "k", "e"] (defScope s_mis) := ⟨rfl, rfl, rfl, by decide +kernel, rfl, by decide +kernel, by decide +kernel⟩
theorem ok_mis {f f1 f2 f3 : Addr} {fd : FuncData} (F : Fun K "misleading_samples" "misleading_samples" s_mis f fd) (T : Txt K mg C) (dw : Def P w K mg base "wrong_on_at_least" 2 f1 ["state", "e"] (spWat C))
    (ds : Def P w K mg base "sets_of_size" 2 f2 ["cases", "size"] spSets) (df : Def P w K mg base "fitting" 1 f3 ["wrongs", "sample"] (spFitg K)) :
    FnOk P w K mg base CX0 3 f fd ["state", "k", "e"] (spMis C) := by
  refine F.ok sc_mis (fun vs H Q E h => ?_) (fun cdv A outer s H vs Q E hr h => ⟨_, pss_cons (ps_set (i := 3) sc_mis.nd rfl (Or.inr rfl) (pe_d dw hr rfl (pa_cons (pv 0) (pa_cons (pv 2) pa_nil))))
    (pss_one (ps_ret (pe_lc (own := [("sample", 4)]) (g := gName 4) rfl sc_mis.nd (pi_list (pe_d ds hr rfl (pa_cons (pe_fld (pv 0) rfl) (pa_cons (pv 1) pa_nil))))
      (blkOk_by (N := ["state", "k", "e", "wrongs", "sample"]) (sc := defScope s_mis) (by decide +kernel)) (fun _ _ _ _ _ => pg_name (i := 4) sc_mis.nd rfl (Or.inl rfl))
      (fun _ _ _ _ _ => pts_one (pt_cmpR op_gt (pe_callB (lenK (K := K) rfl) (by rfl) T.len PySem.boot_len (pa_cons (pe_d df (hr.mono (by decide)) rfl (pa_cons (pv 3) (pa_cons (pv 4) pa_nil))) pa_nil)) pe_int (nomark _)))
      (fun _ _ _ _ _ => pv 4)))), ?_⟩)
  · obtain ⟨st, g, m, x, e, rfl, _⟩ := h
    rfl
  obtain ⟨st, g, m, x, e, rfl, s, o, k⟩ := h
  refine q_asgL (el_call (ea_cons (ev_var rfl) (ea_cons (ev_var rfl) ea_nil)) (sl_wat (e := e) s o)) fun q H1 hq e1 h1 => ?_
  have s1 := s.mono e1
  refine s_retL (xs := ((setsN m.n x).filter (pmis m e)).map vN) (el_lcNN (l := setsN m.n x) (pmis m e) vN (el_call (ea_cons (ev_cases T s1 (ev_var rfl)) (ea_cons (ev_var rfl) ea_nil)) (sl_sets o.n8)) (by have := setsN_le (k := x) o.n8; omega) (fun _ => rfl)
    (fun y hy H2 e2 => ?_) (fun y _ _ H2 _ => ev_var rfl)) fun p H2 hp e2 h2 => k p H2 (fresh_back e1 hp) (e1.trans e2) h2
  rw [← pmis_pos]
  exact et_test (ev_gtN (y := 0) (ev_lenM (el_call (ea_cons (ev_var rfl) (ea_cons (ev_var rfl) ea_nil)) (sl_fitg (s := y) ⟨sq_of (e2 _ _ h1), wat16 o⟩))) ev_c)
/-! ### most_wrong -/
theorem sc_mostw : FnScope ["wrongs", "sample", "i"] ["wrongs", "sample"] (defScope s_mostw) := ⟨rfl, rfl, rfl, by decide +kernel, rfl, by decide +kernel, by decide +kernel⟩
theorem fitL_le {l : List Nat} {s : Nat} : (fitL l s).length ≤ l.length := by
  have := List.length_filter_le (fun i => l.getD i 0 &&& s == 0) (List.range l.length)
  rw [List.length_range] at this
  exact this
theorem ok_mostw {f f1 f2 : Addr} {fd : FuncData} (F : Fun K "most_wrong" "most_wrong" s_mostw f fd) (T : Txt K mg C) (df : Def P w K mg base "fitting" 1 f1 ["wrongs", "sample"] (spFitg K)) (dz : Def P w K mg base "size_of" 1 f2 ["members"] spSize) :
    FnOk P w K mg base CX0 2 f fd ["wrongs", "sample"] (spMostw K) := by
  refine F.ok sc_mostw (fun vs H Q E h => ?_) (fun cdv A outer s H vs Q E hr h => ⟨_, pss_one (ps_ret (pe_callB (cr_max rfl) (by rfl) T.max (by decide +kernel) (pa_cons
    (pe_lc (own := [("i", 2)]) (g := gName 2) (tt := tYes) rfl sc_mostw.nd (pi_list (pe_d df hr rfl (pa_cons (pv 0) (pa_cons (pv 1) pa_nil))))
      (blkOk_by (N := ["wrongs", "sample", "i"]) (sc := defScope s_mostw) (by decide +kernel)) (fun _ _ _ _ _ => pg_name (i := 2) sc_mostw.nd rfl (Or.inl rfl)) (fun _ _ _ _ _ => pts_nil)
      (fun _ _ _ _ _ => pe_d dz hr rfl (pa_cons (pe_ix (ixK (K := K) rfl) (pv 0) (pv 2) (fun _ _ => rfl)) pa_nil))) pa_nil))), ?_⟩)
  · obtain ⟨a, l, s, rfl, _⟩ := h
    rfl
  obtain ⟨a, l, s, rfl, g, h8, ne, k⟩ := h
  refine s_ret (ev_maxN (l := (fitL l s).map fun i => sz (l.getD i 0)) ?_ (max_in fun e => ne (List.map_eq_nil_iff.mp e)) (fun x hx => max_le hx)) k
  exact el_lcNM (l := fitL l s) (fun i => sz (l.getD i 0)) (el_call (ea_cons (ev_var rfl) (ea_cons (ev_var rfl) ea_nil)) (sl_fitg g)) (by have := g.le; have := fitL_le (l := l) (s := s); omega) (fun _ => rfl)
    fun i hi H1 e1 => ev_call (ea_cons (ev_ix (l := l) (ev_var rfl) (ex_l e1 g.sq) (ev_var rfl) (fitL_mem.mp hi).1) ea_nil) (sv_size (h8 _ (getD_in (fitL_mem.mp hi).1)))
/-! ### tells_from_all, telling_cases -/
theorem sc_tfa : FnScope ["differences", "members", "difference"] ["differences", "members"] (defScope s_tfa) := ⟨rfl, rfl, rfl, by decide +kernel, rfl, by decide +kernel, by decide +kernel⟩
theorem ok_tfa {f : Addr} {fd : FuncData} (F : Fun K "tells_from_all" "tells_from_all" s_tfa f fd) (T : Txt K mg C) : FnOk P w K mg base CX0 1 f fd ["differences", "members"] (spTfa K) := by
  refine F.ok sc_tfa (fun vs H Q E h => ?_) (fun cdv A outer s H vs Q E hr h => ⟨_, pss_one (ps_ret (pe_callB (cr_all rfl) (by rfl) T.all (by decide +kernel) (pa_cons
    (pe_lc (own := [("difference", 2)]) (g := gName 2) (tt := tYes) rfl sc_tfa.nd (pi_list (pv 0))
      (blkOk_by (N := ["differences", "members", "difference"]) (sc := defScope s_tfa) (by decide +kernel)) (fun _ _ _ _ _ => pg_name (i := 2) sc_tfa.nd rfl (Or.inl rfl)) (fun _ _ _ _ _ => pts_nil)
      (fun _ _ _ _ _ => pe_cmpR op_ne (pe_op op_and (pv 2) (pv 1)) pe_int (nomark _))) pa_nil))), ?_⟩)
  · obtain ⟨a, l, s, rfl, _⟩ := h
    rfl
  obtain ⟨a, l, s, rfl, g, k⟩ := h
  exact s_ret (ev_allN (el_lcB (fun d => !(d &&& s == 0)) (ev_var rfl) g.sq (by have := g.le; omega) (fun _ => rfl) fun x _ H1 _ => ev_neN (y := 0) (ev_and (ev_var rfl) (ev_var rfl)) ev_c)) k
theorem sc_tell : FnScope ["state", "i", "differences", "telling", "guess", "members"] ["state", "i"] (defScope s_tell) := ⟨rfl, rfl, rfl, by decide +kernel, rfl, by decide +kernel, by decide +kernel⟩
theorem ok_tell {f f1 f2 f3 : Addr} {fd : FuncData} (F : Fun K "telling_cases" "telling_cases" s_tell f fd) (T : Txt K mg C) (da : Def P w K mg base "all_sets" 1 f1 ["cases"] spAll)
    (dt : Def P w K mg base "tells_from_all" 1 f2 ["differences", "members"] (spTfa K)) (dz : Def P w K mg base "size_of" 1 f3 ["members"] spSize) :
    FnOk P w K mg base CX0 3 f fd ["state", "i"] (spTell C) := by
  obtain ⟨fdz, Fz, bz⟩ := dz.ok
  have Rz : FnR P w K mg base CX0 1 f3 spSize := (Fz.raw bz .nil).imp fun vs H Q E h => by
    rw [List.append_nil]
    exact h
  refine F.ok sc_tell (fun vs H Q E h => ?_) (fun cdv A outer s H vs Q E hr h => ⟨_,
    pss_cons (ps_set (i := 2) sc_tell.nd rfl (Or.inr rfl)
      (pe_lc (own := [("guess", 4)]) (g := gName 4) rfl sc_tell.nd (pi_list (pe_fld (pv 0) rfl))
        (blkOk_by (N := ["state", "i", "differences", "telling", "guess", "members"]) (sc := defScope s_tell) (by decide +kernel)) (fun _ _ _ _ _ => pg_name (i := 4) sc_tell.nd rfl (Or.inl rfl))
        (fun _ _ _ _ _ => pts_one (pt_cmpR op_ne (pv 4) (pe_ix (ixK (K := K) rfl) (pe_fldK (K := K) rfl (pv 0) rfl) (pv 1) (fun _ _ => rfl)) (nomark _)))
        (fun _ _ _ _ _ => pe_op op_xor (pv 4) (pe_ix (ixK (K := K) rfl) (pe_fldK (K := K) rfl (pv 0) rfl) (pv 1) (fun _ _ => rfl)))))
    (pss_cons (ps_setLc (i := 3) (own := [("members", 5)]) (g := gName 5) rfl sc_tell.nd rfl rfl (sw_true rfl rfl rfl (by decide +kernel)) (pi_list (pe_d da (hr.mono (by decide)) rfl (pa_cons (pe_fld (pv 0) rfl) pa_nil)))
      (blkOk_by (N := ["state", "i", "differences", "telling", "guess", "members"]) (sc := defScope s_tell) (by decide +kernel)) (fun _ _ _ _ _ => pg_name (i := 5) sc_tell.nd rfl (Or.inl rfl))
      (fun _ _ _ _ _ => pts_one (pt_val (pe_d dt (hr.mono (by decide)) rfl (pa_cons (pv 2) (pa_cons (pv 5) pa_nil)))))
      (fun _ _ _ _ _ => pv 5))
    (pss_one (ps_ret (pe_callBK (cr_minKey rfl Rz hr) (by rfl) T.min (by decide +kernel) (pa_cons (pv 3) pa_nil) (pk_cons (pe_cst (v := V.ref f3) ⟨_, dz.gl, rfl⟩) pk_nil))))), ?_⟩)
  · obtain ⟨st, g, m, i, x, rfl, _⟩ := h
    rfl
  obtain ⟨st, g, m, i, x, rfl, s, o, hi, hx, k⟩ := h
  have gm := getD_mem hi
  refine q_asgL (xs := (diffs m (m.gs.getD i 0)).map vN) ?_ fun q H1 hq e1 h1 => ?_
  · unfold diffs
    rw [← map_vN]
    exact el_lcN (l := m.gs) (fun h => !(h == m.gs.getD i 0)) (fun h => vN (h ^^^ m.gs.getD i 0)) (ev_guesses T s (ev_var rfl)) (sq_of s.gl) (by have := o.le; omega) (fun _ => rfl)
      (fun y hy H2 e2 => et_test (ev_neN (ev_var rfl) (ev_ix (l := m.gs) (ev_guesses T (s.mono e2) (ev_var rfl)) (sq_of (s.mono e2).gl) (ev_var rfl) hi)))
      (fun y hy _ H2 e2 => ev_xor (ev_var rfl) (ev_ix (l := m.gs) (ev_guesses T (s.mono e2) (ev_var rfl)) (sq_of (s.mono e2).gl) (ev_var rfl) hi))
  have s1 := s.mono e1
  have dl : (diffs m (m.gs.getD i 0)).length ≤ 16 := by
    unfold diffs
    rw [List.length_map]
    exact Nat.le_trans (List.length_filter_le _ _) o.le
  refine q_asgL (xs := (tellL m (m.gs.getD i 0)).map vN) (el_lcNN (l := List.range (2 ^ m.n)) (tellp m (m.gs.getD i 0)) vN (el_call (ea_cons (ev_cases T s1 (ev_var rfl)) ea_nil) (sl_all o.n8)) (by rw [List.length_range]; have := pow8 o.n8; omega) (fun _ => rfl)
    (fun y hy H2 e2 => ?_) (fun y _ _ H2 _ => ev_var rfl)) fun q2 H2 hq2 e2 h2 => ?_
  · rw [← tell_diffs]
    exact et_B (ev_call (ea_cons (ev_var rfl) (ea_cons (ev_var rfl) ea_nil)) (sv_tfa (s := y) ⟨sq_of (e2 _ _ h1), dl⟩))
  have ne := tellL_ne o gm
  have lt : ∀ y ∈ tellL m (m.gs.getD i 0), y < 2 ^ 8 := fun y hy => Nat.lt_of_lt_of_le (List.mem_range.mp (List.mem_filter.mp hy).1) (pow8 o.n8)
  obtain ⟨j, hj, ej⟩ := List.getElem_of_mem (show x ∈ tellL m (m.gs.getD i 0) from List.mem_filter.mpr ⟨List.mem_range.mpr hx.lt, hx.tell⟩)
  have gj : (tellL m (m.gs.getD i 0))[j]? = some x := by rw [List.getElem?_eq_getElem hj, ej]
  refine s_ret (ev_minKey (F := sz) (i := j) (s := x) (ev_var rfl) (sq_of h2) (fun y hy H3 => sv_size (lt y hy)) gj fun a y ga => ?_) fun H3 e3 => k H3 ((e1.trans e2).trans e3)
  obtain ⟨m1, m2⟩ := List.mem_filter.mp (List.mem_of_getElem? ga)
  have l1 := hx.le y (List.mem_range.mp m1) m2
  refine ⟨by omega, fun aj => ?_⟩
  have pw : (tellL m (m.gs.getD i 0)).Pairwise (· < ·) := List.Pairwise.filter _ List.pairwise_lt_range
  have la := (List.getElem?_eq_some_iff.mp ga).1
  have lt2 := List.pairwise_iff_getElem.mp pw a j la hj aj
  rw [ej, (List.getElem?_eq_some_iff.mp ga).2] at lt2
  omega
end
end Pc


set_option Elab.async false
set_option linter.all false
set_option maxRecDepth 100000
set_option maxHeartbeats 3000000
namespace Pc
open PySem PySem.Spec PyProof.Rows L2 Evl Pm
abbrev s_growth : Stmt := top 38
abbrev s_adepth : Stmt := top 39
abbrev s_deep : Stmt := top 40
section
variable {m : M}
theorem due_growth {k : Nat} (o : m.Ok) (hn : m.n ≠ 0) (h : k ≤ m.n) : ansM m (.growth k) = [pgrow m.n k m.gs].map fun n : Nat => (n : Int) := by
  rw [ans_of hn (by intro _ _ z; cases z)]
  have c : ¬ m.abs.n < k := by show ¬ m.n < k; omega
  simp only [Kh399.does, c, growth_p (a := m.abs) o.n8, if_false]
  rfl
theorem due_depth (o : m.Ok) (hn : m.n ≠ 0) : (m.gs = [] → ansM m .depth = [-6]) ∧ (m.gs ≠ [] → ansM m .depth = [pdep m.n m.gs].map fun n : Nat => (n : Int)) := by
  rw [ans_of hn (by intro _ _ z; cases z)]
  refine ⟨fun c => ?_, fun c => ?_⟩
  · simp only [Kh399.does, depth_none (a := m.abs) o.n8 c]
    rfl
  · simp only [Kh399.does, depth_some (a := m.abs) o.n8 c]
    rfl
def pdeep (n : Nat) (gs : List Nat) : List Nat := (setsN n (pdep n gs)).filter (pev gs)
theorem due_deep (o : m.Ok) (hn : m.n ≠ 0) : (m.gs = [] → ansM m .deep = [-6]) ∧ (m.gs ≠ [] → ansM m .deep = ((pdeep m.n m.gs).length :: pdeep m.n m.gs).map fun n : Nat => (n : Int)) := by
  rw [ans_of hn (by intro _ _ z; cases z)]
  refine ⟨fun c => ?_, fun c => ?_⟩
  · simp only [Kh399.does, depth_none (a := m.abs) o.n8 c]
    rfl
  · simp only [Kh399.does, depth_some (a := m.abs) o.n8 c, deep_l (a := m.abs) o.n8]
    rfl
/-- the counts of what is wrong -/
def pcounts (m : M) : List Nat := m.gs.map fun x => sz (x ^^^ m.t)
theorem best_is (o : m.Ok) (hn : m.n ≠ 0) (h : m.gs ≠ []) : ∃ j v, (pcounts m)[j]? = some v ∧ (∀ x ∈ pcounts m, v ≤ x) ∧ (∀ i x, i < j → (pcounts m)[i]? = some x → x ≠ v) ∧ ansM m .best = [j, v].map fun n : Nat => (n : Int) := by
  have ne : (m.abs.guesses.zipIdx.map fun x => (x.2, m.abs.n - Kh399.wrongs m.abs x.1)) ≠ [] := by
    intro e
    rw [List.map_eq_nil_iff, List.zipIdx_eq_nil_iff] at e
    exact h e
  obtain ⟨j, x, g, f, lo, le⟩ := first_is _ ne
  have at_ : ∀ (i : Nat) (y : Nat × Nat), (m.abs.guesses.zipIdx.map fun x => (x.2, m.abs.n - Kh399.wrongs m.abs x.1))[i]? = some y → ∃ z, m.gs[i]? = some z ∧ y = (i, m.n - sz (z ^^^ m.t)) ∧ sz (z ^^^ m.t) ≤ m.n := by
    intro i y gi
    rw [List.getElem?_map, List.getElem?_zipIdx] at gi
    cases e : m.abs.guesses[i]? with
    | none =>
      rw [e] at gi
      cases gi
    | some z =>
      rw [e] at gi
      have lz : z < 2 ^ m.n := o.gs z (List.mem_of_getElem? e)
      have wz : Kh399.wrongs m.abs z = sz (z ^^^ m.t) := by
        unfold Kh399.wrongs
        rw [wrong_xor (a := m.abs) lz o.t]
        exact size_sz (a := m.abs) o.n8 (Nat.xor_lt_two_pow lz o.t)
      refine ⟨z, e, ?_, sz_le o.n8 (Nat.xor_lt_two_pow lz o.t)⟩
      have q := Option.some.inj gi
      simp only [Nat.zero_add] at q
      rw [← q, wz]
      rfl
  obtain ⟨z, gz, rfl, lz⟩ := at_ j x g
  refine ⟨j, sz (z ^^^ m.t), ?_, ?_, ?_, ?_⟩
  · unfold pcounts
    rw [List.getElem?_map, gz]
    rfl
  · intro x hx
    obtain ⟨i, hi⟩ := List.getElem?_of_mem hx
    unfold pcounts at hi
    rw [List.getElem?_map] at hi
    cases e : m.gs[i]? with
    | none =>
      rw [e] at hi
      cases hi
    | some y =>
      rw [e] at hi
      cases hi
      have q : (m.abs.guesses.zipIdx.map fun x => (x.2, m.abs.n - Kh399.wrongs m.abs x.1))[i]? = some (i, m.n - sz (y ^^^ m.t)) := by
        have l : i < (m.abs.guesses.zipIdx.map fun x => (x.2, m.abs.n - Kh399.wrongs m.abs x.1)).length := by
          rw [List.length_map, List.length_zipIdx]
          exact (List.getElem?_eq_some_iff.mp e).1
        obtain ⟨y', e', q', _⟩ := at_ i _ (List.getElem?_eq_getElem l)
        rw [e] at e'
        cases e'
        rw [List.getElem?_eq_getElem l, q']
      have := le i _ q
      have ly : sz (y ^^^ m.t) ≤ m.n := (at_ i _ q).elim fun _ r => by
        have e2 := r.1
        rw [e] at e2
        cases e2
        exact r.2.2
      simp only at this
      show sz (z ^^^ m.t) ≤ sz (y ^^^ m.t)
      omega
  · intro i x hi gx
    unfold pcounts at gx
    rw [List.getElem?_map] at gx
    cases e : m.gs[i]? with
    | none =>
      rw [e] at gx
      cases gx
    | some y =>
      rw [e] at gx
      cases gx
      have q : (m.abs.guesses.zipIdx.map fun x => (x.2, m.abs.n - Kh399.wrongs m.abs x.1))[i]? = some (i, m.n - sz (y ^^^ m.t)) := by
        have l : i < (m.abs.guesses.zipIdx.map fun x => (x.2, m.abs.n - Kh399.wrongs m.abs x.1)).length := by
          rw [List.length_map, List.length_zipIdx]
          exact (List.getElem?_eq_some_iff.mp e).1
        obtain ⟨y', e', q', _⟩ := at_ i _ (List.getElem?_eq_getElem l)
        rw [e] at e'
        cases e'
        rw [List.getElem?_eq_getElem l, q']
      have := lo i _ hi q
      simp only at this
      intro c
      replace c : sz (y ^^^ m.t) = sz (z ^^^ m.t) := c
      rw [c] at this
      omega
  · rw [ans_of hn (by intro _ _ z; cases z)]
    simp only [Kh399.does, f]
    show [((j : Nat) : Int), ((m.n - (m.n - sz (z ^^^ m.t)) : Nat) : Int)] = _
    rw [show m.n - (m.n - sz (z ^^^ m.t)) = sz (z ^^^ m.t) by omega]
    rfl
theorem best_none (hn : m.n ≠ 0) (h : m.gs = []) : ansM m .best = [-6] := by
  rw [ans_of hn (by intro _ _ z; cases z)]
  have e : m.abs.guesses = [] := h
  simp only [Kh399.does, e]
  rfl
end
section
variable {P : Program} {w : World} {K : PySem.W.Frag} {mg : Str → Option Value} {base : Heap} {C : Addr} {m : M}
def spGrowth (C : Addr) : Sp := spA C 1 (fun as => .growth (as.getD 0 0)) fun m as => m.n ≠ 0 ∧ as.getD 0 0 ≤ m.n
def spADepth (C : Addr) : Sp := spA C 0 (fun _ => .depth) fun m _ => m.n ≠ 0
def spDeep (C : Addr) : Sp := spA C 0 (fun _ => .deep) fun m _ => m.n ≠ 0
def spBest (C : Addr) : Sp := spA C 0 (fun _ => .best) fun m _ => m.n ≠ 0
def spDepth (K : PySem.W.Frag) : Sp := fun vs H Q _ => ∃ a gs, ∃ n : Nat, vs = [.ref a, vN n] ∧ Gs K H a gs ∧ n ≤ 8 ∧ gs ≠ [] ∧ RetV (vN (pdep n gs)) H Q
theorem sv_depth {a : Addr} {gs : List Nat} {n : Nat} {H : Hp} (g : Gs K H a gs) (h : n ≤ 8) (hg : gs ≠ []) : SpV (spDepth K) [.ref a, vN n] H (vN (pdep n gs)) :=
  fun H1 e Q q E => ⟨a, gs, n, rfl, g.mono e, h, hg, q⟩
/-! ### depth_of -/
theorem sc_depth : FnScope ["guesses", "cases", "members"] ["guesses", "cases"] (defScope s_depth) := ⟨rfl, rfl, rfl, by decide +kernel, rfl, by decide +kernel, by decide +kernel⟩
theorem ok_depth {f fa fe fs : Addr} {fd fda fde fds : FuncData} (F : Fun K "depth_of" "depth_of" s_depth f fd) (T : Txt K mg C)
    (Fa : Fun K "all_sets" "all_sets" s_all fa fda) (Fs : Fun K "size_of" "size_of" s_size fs fds) (Fe : Fun K "parted_in_every_way" "parted_in_every_way" s_every fe fde)
    (ba : Binds K fda ["cases"] []) (bs : Binds K fds ["members"] []) (be : Binds K fde ["guesses", "members"] [])
    (ga : mg "all_sets" = some (.ref fa)) (gs : mg "size_of" = some (.ref fs)) (ge : mg "parted_in_every_way" = some (.ref fe))
    (Ga : FnOk P w K mg base CX0 1 fa fda ["cases"] spAll) (Gz : FnOk P w K mg base CX0 1 fs fds ["members"] spSize) (Ge : FnOk P w K mg base CX0 2 fe fde ["guesses", "members"] (spEvery K)) :
    FnOk P w K mg base CX0 3 f fd ["guesses", "cases"] (spDepth K) := by
  refine F.ok sc_depth (fun vs H Q E h => ?_) (fun cdv A outer s H vs Q E hr h => ⟨_, pss_one (ps_ret (pe_callB (cr_max rfl) (by rfl) T.max (by decide +kernel) (pa_cons
    (pe_lc (own := [("members", 2)]) (g := gName 2) rfl sc_depth.nd (pi_list (pe_call Ga (hr.mono (by decide)) rfl ga Fa.kp ba .nil pass0 (pa_cons (pv 1) pa_nil)))
      (blkOk_by (N := ["guesses", "cases", "members"]) (sc := defScope s_depth) (by decide +kernel)) (fun _ _ _ _ _ => pg_name (i := 2) sc_depth.nd rfl (Or.inl rfl))
      (fun _ _ _ _ _ => pts_one (pt_val (pe_call Ge hr rfl ge Fe.kp be .nil pass0 (pa_cons (pv 0) (pa_cons (pv 2) pa_nil)))))
      (fun _ _ _ _ _ => pe_call Gz (hr.mono (by decide)) rfl gs Fs.kp bs .nil pass0 (pa_cons (pv 2) pa_nil))) pa_nil))), ?_⟩)
  · obtain ⟨a, l, n, rfl, _⟩ := h
    rfl
  · obtain ⟨a, l, n, rfl, g, hn, hg, k⟩ := h
    have z : sz 0 ∈ (evs n l).map sz := List.mem_map.mpr ⟨0, evs_zero hg, rfl⟩
    refine s_ret (ev_maxN (l := (evs n l).map sz) ?_ (max_in fun e => by rw [e] at z; cases z) (fun x hx => max_le hx)) k
    have lt : ∀ x ∈ List.range (2 ^ n), x < 2 ^ 8 := fun x hx => Nat.lt_of_lt_of_le (List.mem_range.mp hx) (pow8 hn)
    rw [← map_vN]
    exact el_lcNN (l := List.range (2 ^ n)) (pev l) (fun x => vN (sz x)) (el_call (ea_cons (ev_var rfl) ea_nil) (sl_all hn)) (by rw [List.length_range]; have := pow8 hn; omega) (fun _ => rfl)
      (fun x hx H1 e1 => et_B (ev_call (ea_cons (ev_var rfl) (ea_cons (ev_var rfl) ea_nil)) (sv_every (g.mono e1) (lt x hx))))
      (fun x hx _ H1 _ => ev_call (ea_cons (ev_var rfl) ea_nil) (sv_size (lt x hx)))
/-! ### answer_growth -/
theorem sc_growth : FnScope ["state", "k", "members"] ["state", "k"] (defScope s_growth) := ⟨rfl, rfl, rfl, by decide +kernel, rfl, by decide +kernel, by decide +kernel⟩
theorem ok_growth {f fw fs : Addr} {fd fdw fds : FuncData} (F : Fun K "answer_growth" "answer_growth" s_growth f fd) (T : Txt K mg C)
    (Fw : Fun K "ways_parted" "ways_parted" s_ways fw fdw) (Fs : Fun K "sets_of_size" "sets_of_size" s_sets fs fds)
    (bw : Binds K fdw ["guesses", "members"] []) (bs : Binds K fds ["cases", "size"] [])
    (gw : mg "ways_parted" = some (.ref fw)) (gs : mg "sets_of_size" = some (.ref fs))
    (Gw : FnOk P w K mg base CX0 1 fw fdw ["guesses", "members"] (spWays K)) (Gz : FnOk P w K mg base CX0 2 fs fds ["cases", "size"] spSets) :
    FnOk P w K mg base CX0 3 f fd ["state", "k"] (spGrowth C) := by
  refine F.ok sc_growth (fun vs H Q E h => h.len) (fun cdv A outer s H vs Q E hr h => ⟨_, pss_one (ps_ret (pe_lst (pa_cons (pe_callB (cr_max rfl) (by rfl) T.max (by decide +kernel) (pa_cons
    (pe_lc (own := [("members", 2)]) (g := gName 2) (tt := tYes) rfl sc_growth.nd (pi_list (pe_call Gz hr rfl gs Fs.kp bs .nil pass0 (pa_cons (pe_fld (pv 0) rfl) (pa_cons (pv 1) pa_nil))))
      (blkOk_by (N := ["state", "k", "members"]) (sc := defScope s_growth) (by decide +kernel)) (fun _ _ _ _ _ => pg_name (i := 2) sc_growth.nd rfl (Or.inl rfl))
      (fun _ _ _ _ _ => pts_nil)
      (fun _ _ _ _ _ => pe_callB (lenK (K := K) rfl) (by rfl) T.len PySem.boot_len (pa_cons (pe_call Gw (hr.mono (by decide)) rfl gw Fw.kp bw .nil pass0 (pa_cons (pe_fldK (K := K) rfl (pv 0) rfl) (pa_cons (pv 2) pa_nil))) pa_nil))) pa_nil)) pa_nil))), ?_⟩)
  obtain ⟨st, g, m, x, rfl, s, o, ⟨hn, hx⟩, d⟩ := h.one
  replace d : Due C st g m (.growth x) H Q := d
  replace hx : x ≤ m.n := hx
  have ne : (setsN m.n x).map (fun s => (pways m.gs s).length) ≠ [] := fun e => setsN_some o.n8 hx (List.map_eq_nil_iff.mp e)
  refine s_retL (el_1 (ev_maxN (l := (setsN m.n x).map fun s => (pways m.gs s).length) ?_ (max_in ne) (fun y hy => max_le hy))) fun p H1 hp e h1 => d.goN s ((looks hn).2.2.2.2.2.1 _) (due_growth o hn hx) hp e h1
  exact el_lcNM (l := setsN m.n x) (fun s => (pways m.gs s).length) (el_call (ea_cons (ev_cases T s (ev_var rfl)) (ea_cons (ev_var rfl) ea_nil)) (sl_sets o.n8)) (by have := setsN_le (k := x) o.n8; omega) (fun _ => rfl)
    fun y hy H1 e1 => ev_lenM (el_call (ea_cons (ev_guesses T (s.mono e1) (ev_var rfl)) (ea_cons (ev_var rfl) ea_nil)) (sl_ways (s := y) ((s.mono e1).guesses o)))
/-! ### answer_depth -/
theorem sc_adepth : FnScope ["state"] ["state"] (defScope s_adepth) := ⟨rfl, rfl, rfl, by decide +kernel, rfl, by decide +kernel, by decide +kernel⟩
theorem nil_of {l : List Nat} (c : (l.length == 0) = true) : l = [] := List.length_eq_zero_iff.mp (by simpa using c)
theorem ne_of_len {l : List Nat} (c : (l.length == 0) = false) : l ≠ [] := fun e => by rw [e] at c; cases c
theorem ok_adepth {f fe : Addr} {fd fde : FuncData} (F : Fun K "answer_depth" "answer_depth" s_adepth f fd) (T : Txt K mg C) (Fe : Fun K "depth_of" "depth_of" s_depth fe fde) (be : Binds K fde ["guesses", "cases"] [])
    (ge : mg "depth_of" = some (.ref fe)) (Ge : FnOk P w K mg base CX0 3 fe fde ["guesses", "cases"] (spDepth K)) : FnOk P w K mg base CX0 4 f fd ["state"] (spADepth C) := by
  refine F.ok sc_adepth (fun vs H Q E h => h.len) (fun cdv A outer s H vs Q E hr h => ⟨_,
    pss_cons (ps_if (pt_cmpR op_eq (pe_callB call_len_seq (by rfl) T.len PySem.boot_len (pa_cons (pe_fld (pv 0) rfl) pa_nil)) pe_int (nomark _)) (pss_one (ps_ret (pe_lst (pa_cons (pe_un un_neg (pe_cst T.c6)) pa_nil)))) pss_nil)
    (pss_one (ps_ret (pe_lst (pa_cons (pe_call Ge hr rfl ge Fe.kp be .nil pass0 (pa_cons (pe_fld (pv 0) rfl) (pa_cons (pe_fld (pv 0) rfl) pa_nil))) pa_nil)))), ?_⟩)
  obtain ⟨st, g, m, rfl, s, o, hn, d⟩ := h.none
  obtain ⟨d1, d2⟩ := due_depth o hn
  refine q_when (b := m.gs.length == 0) (et_test (ev_eqN (y := 0) (ev_lenS (ev_guesses T s (ev_var rfl)) (sq_of s.gl)) ev_c)) (fun c H1 e1 => ?_) fun c H1 e1 => ?_
  · exact s_retL (el_1 (ev_neg ev_c)) fun p H2 hp e2 h2 => d.go s (looks hn).2.2.2.2.2.2.1 (d1 (nil_of c)) (fresh_back e1 hp) (e1.trans e2) h2
  · have s1 := s.mono e1
    exact s_retL (el_1 (ev_call (ea_cons (ev_guesses T s1 (ev_var rfl)) (ea_cons (ev_cases T s1 (ev_var rfl)) ea_nil)) (sv_depth (s1.guesses o) o.n8 (ne_of_len c)))) fun p H2 hp e2 h2 => d.goN s (looks hn).2.2.2.2.2.2.1 (d2 (ne_of_len c)) (fresh_back e1 hp) (e1.trans e2) h2
/-! ### answer_deep -/
theorem sc_deep : FnScope ["state", "candidates", "deepest", "members"] ["state"] (defScope s_deep) := ⟨rfl, rfl, rfl, by decide +kernel, rfl, by decide +kernel, by decide +kernel⟩
theorem ok_deep {f fd' fe fs : Addr} {fd fdd fde fds : FuncData} (F : Fun K "answer_deep" "answer_deep" s_deep f fd) (T : Txt K mg C)
    (Fd : Fun K "depth_of" "depth_of" s_depth fd' fdd) (Fe : Fun K "parted_in_every_way" "parted_in_every_way" s_every fe fde) (Fs : Fun K "sets_of_size" "sets_of_size" s_sets fs fds)
    (bd : Binds K fdd ["guesses", "cases"] []) (be : Binds K fde ["guesses", "members"] []) (bs : Binds K fds ["cases", "size"] [])
    (gd : mg "depth_of" = some (.ref fd')) (ge : mg "parted_in_every_way" = some (.ref fe)) (gs : mg "sets_of_size" = some (.ref fs))
    (Gd : FnOk P w K mg base CX0 3 fd' fdd ["guesses", "cases"] (spDepth K)) (Ge : FnOk P w K mg base CX0 2 fe fde ["guesses", "members"] (spEvery K)) (Gz : FnOk P w K mg base CX0 2 fs fds ["cases", "size"] spSets) :
    FnOk P w K mg base CX0 4 f fd ["state"] (spDeep C) := by
  refine F.ok sc_deep (fun vs H Q E h => h.len) (fun cdv A outer s H vs Q E hr h => ⟨_,
    pss_cons (ps_if (pt_cmpR op_eq (pe_callB call_len_seq (by rfl) T.len PySem.boot_len (pa_cons (pe_fld (pv 0) rfl) pa_nil)) pe_int (nomark _)) (pss_one (ps_ret (pe_lst (pa_cons (pe_un un_neg (pe_cst T.c6)) pa_nil)))) pss_nil)
    (pss_cons (ps_set (i := 1) sc_deep.nd rfl (Or.inl rfl) (pe_call Gz (hr.mono (by decide)) rfl gs Fs.kp bs .nil pass0 (pa_cons (pe_fld (pv 0) rfl) (pa_cons (pe_call Gd hr rfl gd Fd.kp bd .nil pass0 (pa_cons (pe_fld (pv 0) rfl) (pa_cons (pe_fld (pv 0) rfl) pa_nil))) pa_nil))))
    (pss_cons (ps_setLc (i := 2) (own := [("members", 3)]) (g := gName 3) rfl sc_deep.nd rfl rfl (sw_true rfl rfl rfl (by decide +kernel)) (pi_list (pv 1))
      (blkOk_by (N := ["state", "candidates", "deepest", "members"]) (sc := defScope s_deep) (by decide +kernel)) (fun _ _ _ _ _ => pg_name (i := 3) sc_deep.nd rfl (Or.inl rfl))
      (fun _ _ _ _ _ => pts_one (pt_val (pe_call Ge (hr.mono (by decide)) rfl ge Fe.kp be .nil pass0 (pa_cons (pe_fldK (K := K) rfl (pv 0) rfl) (pa_cons (pv 3) pa_nil)))))
      (fun _ _ _ _ _ => pv 3))
    (pss_one (ps_ret (pe_op op_cat (pe_lst (pa_cons (pe_callB call_len_seq (by rfl) T.len PySem.boot_len (pa_cons (pv 2) pa_nil)) pa_nil)) (pv 2)))))), ?_⟩)
  obtain ⟨st, g, m, rfl, s, o, hn, d⟩ := h.none
  obtain ⟨d1, d2⟩ := due_deep o hn
  refine q_when (b := m.gs.length == 0) (et_test (ev_eqN (y := 0) (ev_lenS (ev_guesses T s (ev_var rfl)) (sq_of s.gl)) ev_c)) (fun c H1 e1 => ?_) fun c H1 e1 => ?_
  · exact s_retL (el_1 (ev_neg ev_c)) fun p H2 hp e2 h2 => d.go s (looks hn).2.2.2.2.2.2.2 (d1 (nil_of c)) (fresh_back e1 hp) (e1.trans e2) h2
  have s1 := s.mono e1
  refine q_asgL (el_call (ea_cons (ev_cases T s1 (ev_var rfl)) (ea_cons (ev_call (ea_cons (ev_guesses T s1 (ev_var rfl)) (ea_cons (ev_cases T s1 (ev_var rfl)) ea_nil)) (sv_depth (s1.guesses o) o.n8 (ne_of_len c))) ea_nil)) (sl_sets o.n8)) fun q H2 hq e2 h2 => ?_
  have s2 := s1.mono e2
  have lt : ∀ x ∈ setsN m.n (pdep m.n m.gs), x < 2 ^ 8 := fun x hx => Nat.lt_of_lt_of_le (setsN_mem.mp hx).1 (pow8 o.n8)
  have l256 := setsN_le (k := pdep m.n m.gs) o.n8
  refine q_asgL (xs := (pdeep m.n m.gs).map vN) (el_lcN (l := setsN m.n (pdep m.n m.gs)) (pev m.gs) vN (ev_var rfl) (sq_of h2) (by omega) (fun _ => rfl)
    (fun x hx H3 e3 => et_B (ev_call (ea_cons (ev_guesses T (s2.mono e3) (ev_var rfl)) (ea_cons (ev_var rfl) ea_nil)) (sv_every ((s2.mono e3).guesses o) (lt x hx)))) (fun x _ _ H3 _ => ev_var rfl)) fun q3 H3 hq3 e3 h3 => ?_
  have l3 : (pdeep m.n m.gs).length ≤ 256 := Nat.le_trans (List.length_filter_le _ _) l256
  have e13 := (e1.trans e2).trans e3
  exact s_retL (el_cat (el_1 (ev_lenS (ev_var rfl) (sq_of h3))) (ev_var rfl) h3 (by rw [List.length_map]; show 1 + _ ≤ _; omega)) fun p H4 hp e4 h4 => d.goN s (looks hn).2.2.2.2.2.2.2 (d2 (ne_of_len c)) (fresh_back e13 hp) (e13.trans e4) h4
/-! ### answer_best -/
theorem ev_minN {σ : L2.St} {H : Hp} {ta : TE} {p : Addr} {l : List Nat} {v : Nat} (ha : Ev ta σ H (.ref p)) (hs : SqL K H p (l.map vN)) (hm : v ∈ l) (hg : ∀ x ∈ l, v ≤ x) : Ev (tCB (rMin K) (tCons ta tNil)) σ H (vN v) := fun H1 e Q q =>
  ha H1 e _ fun H2 e2 => ⟨p, l.map fun n : Nat => (n : Int), rfl, by rw [← ints_N]; exact ex_l (e.trans e2) hs, by
    rw [List.length_map]
    exact List.length_pos_of_mem hm, fun z hz hzg => by
    obtain ⟨k, hk, rfl⟩ := List.mem_map.mp hz
    have h1 := hg k hk
    have h2 := hzg (v : Int) (List.mem_map.mpr ⟨v, hm, rfl⟩)
    have e : k = v := by omega
    subst e
    exact q H2 e2⟩
theorem ev_indexN {σ : L2.St} {H : Hp} {ta tb : TE} {p : Addr} {l : List Nat} {j v : Nat} (ha : Ev ta σ H (.ref p)) (hs : SqL K H p (l.map vN)) (hb : Ev tb σ H (vN v)) (hj : l[j]? = some v) (lo : ∀ i x, i < j → l[i]? = some x → x ≠ v) :
    Ev (tBM K "list" (rIndex K) ta (tCons tb tNil)) σ H (vN j) := fun H1 e Q q =>
  ha H1 e _ fun H2 e2 => ⟨Or.inl ⟨rfl, _, ex_l (e.trans e2) hs⟩, hb H2 (e.trans e2) _ fun H3 e3 => ⟨p, l.map vN, vN v, j, vN v, rfl, rfl, ex_l ((e.trans e2).trans e3) hs, rfl, flat_N l, by rw [List.getElem?_map, hj]; rfl, by rw [eqV_N]; exact beq_self_eq_true v, fun i z hi hz => by
    rw [List.getElem?_map] at hz
    cases e : l[i]? with
    | none =>
      rw [e] at hz
      cases hz
    | some x =>
      rw [e] at hz
      cases hz
      have := lo i x hi e
      rw [eqV_N]
      simpa using this, q H3 (e2.trans e3)⟩⟩
theorem counts_ws (m : M) : (wsM m).map sz = pcounts m := by
  unfold wsM pcounts
  rw [List.map_map]
  rfl
theorem sc_best : FnScope ["state", "counts", "fewest", "wrong"] ["state"] (defScope s_best) := ⟨rfl, rfl, rfl, by decide +kernel, rfl, by decide +kernel, by decide +kernel⟩
theorem ok_best {f f1 f2 : Addr} {fd : FuncData} (F : Fun K "answer_best" "answer_best" s_best f fd) (T : Txt K mg C) (dw : Def P w K mg base "wrong_sets" 1 f1 ["state"] (spWset C)) (dz : Def P w K mg base "size_of" 1 f2 ["members"] spSize) :
    FnOk P w K mg base CX0 2 f fd ["state"] (spBest C) := by
  refine F.ok sc_best (fun vs H Q E h => h.len) (fun cdv A outer s H vs Q E hr h => ⟨_,
    pss_cons (ps_if (pt_cmpR op_eq (pe_callB call_len_seq (by rfl) T.len PySem.boot_len (pa_cons (pe_fld (pv 0) rfl) pa_nil)) pe_int (nomark _)) (pss_one (ps_ret (pe_lst (pa_cons (pe_un un_neg (pe_cst T.c6)) pa_nil)))) pss_nil)
    (pss_cons (ps_setLc (i := 1) (own := [("wrong", 3)]) (g := gName 3) (tt := tYes) rfl sc_best.nd rfl rfl (sw_true rfl rfl rfl (by decide +kernel)) (pi_list (pe_d dw hr rfl (pa_cons (pv 0) pa_nil)))
      (blkOk_by (N := ["state", "counts", "fewest", "wrong"]) (sc := defScope s_best) (by decide +kernel)) (fun _ _ _ _ _ => pg_name (i := 3) sc_best.nd rfl (Or.inl rfl))
      (fun _ _ _ _ _ => pts_nil)
      (fun _ _ _ _ _ => pe_d dz hr rfl (pa_cons (pv 3) pa_nil)))
    (pss_cons (ps_set (i := 2) sc_best.nd rfl (Or.inl rfl) (pe_callB (cr_min rfl) (by rfl) T.min (by decide +kernel) (pa_cons (pv 1) pa_nil)))
    (pss_one (ps_ret (pe_lst (pa_cons (pe_bm PySem.F.plainAttrs_list PySem.F.slot_list_index PySem.F.type_list_index mt_index (pv 1) (pa_cons (pv 2) pa_nil)) (pa_cons (pv 2) pa_nil))))))), ?_⟩)
  obtain ⟨st, g, m, rfl, s, o, hn, d⟩ := h.none
  refine q_when (b := m.gs.length == 0) (et_test (ev_eqN (y := 0) (ev_lenS (ev_guesses T s (ev_var rfl)) (sq_of s.gl)) ev_c)) (fun c H1 e1 => ?_) fun c H1 e1 => ?_
  · exact s_retL (el_1 (ev_neg ev_c)) fun p H2 hp e2 h2 => d.go s (looks hn).2.2.1 (best_none hn (nil_of c)) (fresh_back e1 hp) (e1.trans e2) h2
  have s1 := s.mono e1
  obtain ⟨j, v, hj, le, lo, da⟩ := best_is o hn (ne_of_len c)
  rw [← counts_ws] at hj le lo
  refine q_asgL (xs := ((wsM m).map sz).map vN) (el_lcNM (l := wsM m) sz (el_call (ea_cons (ev_var rfl) ea_nil) (sl_wset s1 o)) (by have := ws16 o; omega) (fun _ => rfl)
    fun x hx H2 e2 => ev_call (ea_cons (ev_var rfl) ea_nil) (sv_size (w8 o x hx))) fun q H2 hq e2 h2 => ?_
  refine q_asg (ev_minN (ev_var rfl) (sq_of h2) (List.mem_of_getElem? hj) le) fun H3 e3 => ?_
  have e13 := (e1.trans e2).trans e3
  exact s_retL (el_2 (ev_indexN (ev_var rfl) (sq_of (e3 _ _ h2)) (ev_var rfl) hj lo) (ev_var rfl)) fun p H4 hp e4 h4 => d.goN s (looks hn).2.2.1 da (fresh_back e13 hp) (e13.trans e4) h4
end
end Pc


set_option Elab.async false
set_option linter.all false
set_option maxRecDepth 100000
set_option maxHeartbeats 3000000
namespace Pc
open PySem PySem.Spec PyProof.Rows L2 Evl Pm
abbrev s_few : Stmt := top 41
abbrev s_fit : Stmt := top 42
abbrev s_msl : Stmt := top 43
abbrev s_msg : Stmt := top 44
abbrev s_worst : Stmt := top 45
abbrev s_byone : Stmt := top 46
abbrev s_enough : Stmt := top 47
abbrev s_tells : Stmt := top 48
abbrev s_hard : Stmt := top 49
abbrev s_parted : Stmt := top 50
abbrev s_told : Stmt := top 51
section
variable {K : PySem.W.Frag} {mg : Str → Option Value} {C : Addr} {σ : L2.St} {H H' : Hp} {ta tb tc te tl : TE} {t : TT} {st g : Addr} {m : M}
theorem looks2 (hn : m.n ≠ 0) : (∀ n d, nextM m (.fewWays n d) = m) ∧ (∀ s, nextM m (.fit s) = m) ∧ (∀ e s, nextM m (.misleads e s) = m) ∧ (∀ k e, nextM m (.misleading k e) = m) ∧ (∀ k, nextM m (.worst k) = m) ∧
    (∀ k e, nextM m (.byOne k e) = m) ∧ (∀ e p q, nextM m (.enough e p q) = m) ∧ (∀ i, nextM m (.tells i) = m) ∧ nextM m .hardest = m ∧ (∀ s, nextM m (.parted s) = m) ∧ nextM m .told = m := by
  refine ⟨?_, ?_, ?_, ?_, ?_, ?_, ?_, ?_, ?_, ?_, ?_⟩ <;> intros <;> exact next_look hn (by intro _ _ z; cases z) rfl
theorem el_3 {x y z : V} (h : Ev ta σ H x) (h' : Ev tb σ H y) (h'' : Ev tc σ H z) : EvL (tLst (tCons ta (tCons tb (tCons tc tNil)))) σ H [x, y, z] := el_lst (ea_cons h (ea_cons h' (ea_cons h'' ea_nil))) (by show 3 ≤ 100000; decide)
theorem spA.three {mk : List Nat → Kh399.Call} {ask : M → List Nat → Prop} {vs : List V} {H : Hp} {Q : VK} {E : XK} (h : spA C 3 mk ask vs H Q E) :
    ∃ st g m x y z, vs = [.ref st, vN x, vN y, vN z] ∧ StAt C H st g m ∧ m.Ok ∧ ask m [x, y, z] ∧ Due C st g m (mk [x, y, z]) H Q := by
  obtain ⟨st, g, m, as, rfl, hl, r⟩ := h
  match as, hl with
  | [x, y, z], _ => exact ⟨st, g, m, x, y, z, rfl, r⟩
theorem find_at {p : Nat → Bool} {i n : Nat} (hi : i < n) (hp : p i = true) (lo : ∀ j, j < i → p j = false) : (List.range n).find? p = some i := by
  rw [List.find?_eq_some_iff_append]
  refine ⟨hp, List.range i, (List.range (n - i - 1)).map (i + 1 + ·), ?_, fun a ha => ?_⟩
  · have e : n = i + (1 + (n - i - 1)) := by omega
    conv => lhs; rw [e]
    rw [List.range_add, List.range_add, List.map_append, List.map_map]
    show List.range i ++ ([i + 0] ++ _) = _
    rw [Nat.add_zero]
    show List.range i ++ i :: _ = List.range i ++ i :: _
    congr 2
    apply List.map_congr_left
    intro x _
    show i + (1 + x) = i + 1 + x
    omega
  · rw [lo a (List.mem_range.mp ha)]
    rfl
theorem find_no {p : Nat → Bool} {n : Nat} (lo : ∀ j, j < n → p j = false) : (List.range n).find? p = none := by
  rw [List.find?_eq_none]
  intro x hx z
  rw [lo x (List.mem_range.mp hx)] at z
  cases z
end
section
variable {P : Program} {w : World} {K : PySem.W.Frag} {mg : Str → Option Value} {base : Heap} {C : Addr} {m : M}
def spFew (C : Addr) : Sp := spA C 2 (fun as => .fewWays (as.getD 0 0) (as.getD 1 0)) fun m _ => m.n ≠ 0
def spFit (C : Addr) : Sp := spA C 1 (fun as => .fit (as.getD 0 0)) fun m as => m.n ≠ 0 ∧ as.getD 0 0 < 2 ^ m.n
def spMsl (C : Addr) : Sp := spA C 2 (fun as => .misleads (as.getD 0 0) (as.getD 1 0)) fun m as => m.n ≠ 0 ∧ as.getD 1 0 < 2 ^ m.n
def spMsg (C : Addr) : Sp := spA C 2 (fun as => .misleading (as.getD 0 0) (as.getD 1 0)) fun m as => m.n ≠ 0 ∧ as.getD 0 0 ≤ m.n
def spWorst (C : Addr) : Sp := spA C 1 (fun as => .worst (as.getD 0 0)) fun m as => m.n ≠ 0 ∧ as.getD 0 0 ≤ m.n
def spByone (C : Addr) : Sp := spA C 2 (fun as => .byOne (as.getD 0 0) (as.getD 1 0)) fun m as => m.n ≠ 0 ∧ as.getD 0 0 ≤ m.n
def spEnough (C : Addr) : Sp := spA C 3 (fun as => .enough (as.getD 0 0) (as.getD 1 0) (as.getD 2 0)) fun m _ => m.n ≠ 0
def spTells (C : Addr) : Sp := spA C 1 (fun as => .tells (as.getD 0 0)) fun m as => m.n ≠ 0 ∧ as.getD 0 0 < m.gs.length
def spHard (C : Addr) : Sp := spA C 0 (fun _ => .hardest) fun m _ => m.n ≠ 0
def spParted (C : Addr) : Sp := spA C 1 (fun as => .parted (as.getD 0 0)) fun m as => m.n ≠ 0 ∧ as.getD 0 0 < 2 ^ m.n
def spTold (C : Addr) : Sp := spA C 0 (fun _ => .told) fun m _ => m.n ≠ 0
/-! ### answer_few_ways -/
theorem sc_few : FnScope ["state", "n", "d", "size"] ["state", "n", "d"] (defScope s_few) := ⟨rfl, rfl, rfl, by decide +kernel, rfl, by decide +kernel, by decide +kernel⟩
theorem ok_few {f f1 : Addr} {fd : FuncData} (F : Fun K "answer_few_ways" "answer_few_ways" s_few f fd) (T : Txt K mg C) (dm : Def P w K mg base "how_many_sets" 1 f1 ["things", "size"] spMany) :
    FnOk P w K mg base CX0 2 f fd ["state", "n", "d"] (spFew C) := by
  refine F.ok sc_few (fun vs H Q E h => h.len) (fun cdv A outer s H vs Q E hr h => ⟨_,
    pss_cons (ps_if (PW.pt (pw_or (pt_cmpR op_gt (pv 1) (pe_cst T.cH) (nomark _)) (pw_or1 (pt_cmpR op_gt (pv 2) (pe_cst T.cH) (nomark _))))) (pss_one (ps_ret (pe_lst (pa_cons (pe_un un_neg (pe_cst T.c22)) pa_nil)))) pss_nil)
    (pss_one (ps_ret (pe_lst (pa_cons (pe_callB (cr_sum rfl) (by rfl) T.sum (by decide +kernel) (pa_cons
      (pe_lc (own := [("size", 3)]) (g := gName 3) (tt := tYes) rfl sc_few.nd (pi_range1 rfl T.range (pa_cons (pe_op op_add (pv 2) pe_int) pa_nil))
        (blkOk_by (N := ["state", "n", "d", "size"]) (sc := defScope s_few) (by decide +kernel)) (fun _ _ _ _ _ => pg_name (i := 3) sc_few.nd rfl (Or.inl rfl)) (fun _ _ _ _ _ => pts_nil)
        (fun _ _ _ _ _ => pe_d dm hr rfl (pa_cons (pv 1) (pa_cons (pv 3) pa_nil)))) pa_nil)) pa_nil)))), ?_⟩)
  obtain ⟨st, g, m, x, y, rfl, s, o, hn, d⟩ := h.two
  replace d : Due C st g m (.fewWays x y) H Q := d
  obtain ⟨d1, d2⟩ := due_few (m := m) (n := x) (d := y) hn
  refine q_when (b := decide (40 < x) || decide (40 < y)) (et_or (et_test (ev_gtN (y := 40) (ev_var rfl) ev_c)) fun _ => et_test (ev_gtN (y := 40) (ev_var rfl) ev_c)) (fun c H1 e1 => ?_) fun c H1 e1 => ?_
  · have c' : 40 < x ∨ 40 < y := by simpa using c
    exact s_retL (el_1 (ev_neg ev_c)) fun p H2 hp e2 h2 => d.go s ((looks2 hn).1 _ _) (d1 c') (fresh_back e1 hp) (e1.trans e2) h2
  · have c' : ¬ (40 < x ∨ 40 < y) := by simpa using c
    refine s_retL (el_1 (ev_sumN (l := (List.range (y + 1)).map (Kh399.choose x)) ?_)) fun p H2 hp e2 h2 => d.goN s ((looks2 hn).1 _ _) (d2 c') (fresh_back e1 hp) (e1.trans e2) h2
    exact el_lcRM (n := y + 1) (Kh399.choose x) (ea_cons (ev_add (ev_var rfl) (ev_c (v := vN 1))) ea_nil) (by omega) (fun _ => rfl)
      fun z hz H2 _ => ev_call (ea_cons (ev_var rfl) (ea_cons (ev_var rfl) ea_nil)) (sv_many (by omega) (by omega))
/-! ### answer_fit -/
theorem sc_fit : FnScope ["state", "s", "fit"] ["state", "s"] (defScope s_fit) := ⟨rfl, rfl, rfl, by decide +kernel, rfl, by decide +kernel, by decide +kernel⟩
theorem ok_fit {f f1 f2 : Addr} {fd : FuncData} (F : Fun K "answer_fit" "answer_fit" s_fit f fd) (T : Txt K mg C) (df : Def P w K mg base "fitting" 1 f1 ["wrongs", "sample"] (spFitg K)) (dw : Def P w K mg base "wrong_sets" 1 f2 ["state"] (spWset C)) :
    FnOk P w K mg base CX0 2 f fd ["state", "s"] (spFit C) := by
  refine F.ok sc_fit (fun vs H Q E h => h.len) (fun cdv A outer s H vs Q E hr h => ⟨_,
    pss_cons (ps_set (i := 2) sc_fit.nd rfl (Or.inl rfl) (pe_d df hr rfl (pa_cons (pe_d dw hr rfl (pa_cons (pv 0) pa_nil)) (pa_cons (pv 1) pa_nil))))
    (pss_one (ps_ret (pe_op op_cat (pe_lst (pa_cons (pe_callB call_len_seq (by rfl) T.len PySem.boot_len (pa_cons (pv 2) pa_nil)) pa_nil)) (pv 2)))), ?_⟩)
  obtain ⟨st, g, m, x, rfl, s, o, ⟨hn, hx⟩, d⟩ := h.one
  have le : (fitL (wsM m) x).length ≤ 16 := Nat.le_trans fitL_le (ws16 o)
  refine q_asgL (el_callL (el_call (ea_cons (ev_var rfl) ea_nil) (sl_wset s o)) (ev_var rfl) fun p H1 h1 => sl_fitg (K := K) (s := x) ⟨sq_of h1, ws16 o⟩) fun q H1 hq e1 h1 => ?_
  have e := due_fit (s := x) o hn hx
  rw [pfit_fitL] at e
  exact s_retL (el_cat (el_1 (ev_lenS (ev_var rfl) (sq_of h1))) (ev_var rfl) h1 (by rw [List.length_map]; show 1 + _ ≤ _; omega)) fun p H2 hp e2 h2 => d.goN s ((looks2 hn).2.1 _) e (fresh_back e1 hp) (e1.trans e2) h2
/-! ### answer_misleads -/
theorem sc_msl : FnScope ["state", "e", "s", "wrongs", "misleaders", "i"] ["state", "e", "s"] (defScope s_msl) := ⟨rfl, rfl, rfl, by decide +kernel, rfl, by decide +kernel, by decide +kernel⟩
theorem ok_msl {f f1 f2 f3 : Addr} {fd : FuncData} (F : Fun K "answer_misleads" "answer_misleads" s_msl f fd) (T : Txt K mg C) (df : Def P w K mg base "fitting" 1 f1 ["wrongs", "sample"] (spFitg K)) (dw : Def P w K mg base "wrong_sets" 1 f2 ["state"] (spWset C))
    (dz : Def P w K mg base "size_of" 1 f3 ["members"] spSize) : FnOk P w K mg base CX0 2 f fd ["state", "e", "s"] (spMsl C) := by
  refine F.ok sc_msl (fun vs H Q E h => h.len) (fun cdv A outer s H vs Q E hr h => ⟨_,
    pss_cons (ps_set (i := 3) sc_msl.nd rfl (Or.inr rfl) (pe_d dw hr rfl (pa_cons (pv 0) pa_nil)))
    (pss_cons (ps_setLc (i := 4) (own := [("i", 5)]) (g := gName 5) rfl sc_msl.nd rfl rfl (sw_true rfl rfl rfl (by decide +kernel)) (pi_list (pe_d df hr rfl (pa_cons (pv 3) (pa_cons (pv 2) pa_nil))))
      (blkOk_by (N := ["state", "e", "s", "wrongs", "misleaders", "i"]) (sc := defScope s_msl) (by decide +kernel)) (fun _ _ _ _ _ => pg_name (i := 5) sc_msl.nd rfl (Or.inl rfl))
      (fun _ _ _ _ _ => pts_one (pt_cmpR op_ge (pe_d dz hr rfl (pa_cons (pe_ix (ixK (K := K) rfl) (pv 3) (pv 5) (fun _ _ => rfl)) pa_nil)) (pv 1) (nomark _)))
      (fun _ _ _ _ _ => pv 5))
    (pss_cons (ps_if (pt_cmpR op_eq (pe_callB call_len_seq (by rfl) T.len PySem.boot_len (pa_cons (pv 4) pa_nil)) pe_int (nomark _)) (pss_one (ps_ret (pe_lst (pa_cons (pe_un un_neg (pe_cst T.c33)) pa_nil)))) pss_nil)
    (pss_one (ps_ret (pe_lst (pa_cons (pe_ix ix_list (pv 4) pe_int (fun _ _ => rfl)) pa_nil)))))), ?_⟩)
  obtain ⟨st, g, m, x, y, rfl, s, o, ⟨hn, hy⟩, d⟩ := h.two
  replace d : Due C st g m (.misleads x y) H Q := d
  replace hy : y < 2 ^ m.n := hy
  obtain ⟨d1, d2⟩ := due_misleads (e := x) (s := y) o hn hy
  refine q_asgL (el_call (ea_cons (ev_var rfl) ea_nil) (sl_wset s o)) fun q H1 hq e1 h1 => ?_
  have s1 := s.mono e1
  have g1 : Gs K H1 q (wsM m) := ⟨sq_of h1, ws16 o⟩
  have fl : (fitL (wsM m) y).length ≤ 16 := Nat.le_trans fitL_le (ws16 o)
  refine q_asgL (xs := (misL m x y).map vN) (el_lcNN (l := fitL (wsM m) y) (fun i => decide (x ≤ sz ((wsM m).getD i 0))) vN (el_call (ea_cons (ev_var rfl) (ea_cons (ev_var rfl) ea_nil)) (sl_fitg g1)) (by omega) (fun _ => rfl)
    (fun i hi H2 e2 => et_test (ev_geN (ev_call (ea_cons (ev_ix (l := wsM m) (ev_var rfl) (g1.mono e2).sq (ev_var rfl) (fitL_mem.mp hi).1) ea_nil) (sv_size (w8 o _ (getD_in (fitL_mem.mp hi).1)))) (ev_var rfl))) (fun i _ _ H2 _ => ev_var rfl)) fun q2 H2 hq2 e2 h2 => ?_
  have e12 := e1.trans e2
  refine q_when (b := (misL m x y).length == 0) (et_test (ev_eqN (y := 0) (ev_lenS (ev_var rfl) (sq_of h2)) ev_c)) (fun c H3 e3 => ?_) fun c H3 e3 => ?_
  · exact s_retL (el_1 (ev_neg ev_c)) fun p H4 hp e4 h4 => d.go s ((looks2 hn).2.2.1 _ _) (d1 (misBy_none m x y (nil_of c))) (fresh_back (e12.trans e3) hp) ((e12.trans e3).trans e4) h4
  · obtain ⟨z, hz, ez⟩ := misBy_some m x y (ne_of_len c)
    have da := d2 z hz
    rw [← ez] at da
    exact s_retL (el_1 (ev_ix (l := misL m x y) (i := 0) (ev_var rfl) (sq_of (e3 _ _ h2)) (ev_c (v := vN 0)) (List.length_pos_iff.mpr (ne_of_len c)))) fun p H4 hp e4 h4 => d.goN s ((looks2 hn).2.2.1 _ _) da (fresh_back (e12.trans e3) hp) ((e12.trans e3).trans e4) h4
/-! ### answer_misleading -/
theorem sc_msg : FnScope ["state", "k", "e"] ["state", "k", "e"] (defScope s_msg) := ⟨rfl, rfl, rfl, by decide +kernel, rfl, by decide +kernel, by decide +kernel⟩
theorem ok_msg {f f1 f2 : Addr} {fd : FuncData} (F : Fun K "answer_misleading" "answer_misleading" s_msg f fd) (T : Txt K mg C) (ds : Def P w K mg base "misleading_samples" 3 f1 ["state", "k", "e"] (spMis C)) (dm : Def P w K mg base "how_many_sets" 1 f2 ["things", "size"] spMany) :
    FnOk P w K mg base CX0 4 f fd ["state", "k", "e"] (spMsg C) := by
  refine F.ok sc_msg (fun vs H Q E h => h.len) (fun cdv A outer s H vs Q E hr h => ⟨_,
    pss_one (ps_ret (pe_lst (pa_cons (pe_callB call_len_seq (by rfl) T.len PySem.boot_len (pa_cons (pe_d ds hr rfl (pa_cons (pv 0) (pa_cons (pv 1) (pa_cons (pv 2) pa_nil)))) pa_nil))
      (pa_cons (pe_d dm (hr.mono (by decide)) rfl (pa_cons (pe_fld (pv 0) rfl) (pa_cons (pv 1) pa_nil))) pa_nil)))), ?_⟩)
  obtain ⟨st, g, m, x, y, rfl, s, o, ⟨hn, hx⟩, d⟩ := h.two
  replace d : Due C st g m (.misleading x y) H Q := d
  replace hx : x ≤ m.n := hx
  have n8 := o.n8
  have da := due_misleading (e := y) o hn hx
  rw [sets_choose o.n8] at da
  exact s_retL (el_2 (ev_lenM (el_call (ea_cons (ev_var rfl) (ea_cons (ev_var rfl) (ea_cons (ev_var rfl) ea_nil))) (sl_mis (k := x) (e := y) s o))) (ev_call (ea_cons (ev_cases T s (ev_var rfl)) (ea_cons (ev_var rfl) ea_nil)) (sv_many (by omega) (by omega))))
    fun p H2 hp e2 h2 => d.goN s ((looks2 hn).2.2.2.1 _ _) da hp e2 h2
/-! ### answer_worst -/
theorem ev_indexX {σ : L2.St} {H : Hp} {ta tb : TE} {p : Addr} {l : List Nat} {j v : Nat} (ha : Ev ta σ H (.ref p)) (hs : SqL K H p (l.map vN)) (hb : Ev tb σ H (vN v)) (hj : l[j]? = some v) (lo : ∀ i x, i < j → l[i]? = some x → x ≠ v) :
    Ev (tBM K "list" (rIndex K) ta (tCons tb tNil)) σ H (vN j) := ev_indexN ha hs hb hj lo
theorem sc_worst : FnScope ["state", "k", "wrongs", "samples", "counts", "most", "sample"] ["state", "k"] (defScope s_worst) := ⟨rfl, rfl, rfl, by decide +kernel, rfl, by decide +kernel, by decide +kernel⟩
theorem ok_worst {f f1 f2 f3 : Addr} {fd : FuncData} (F : Fun K "answer_worst" "answer_worst" s_worst f fd) (T : Txt K mg C) (dw : Def P w K mg base "wrong_sets" 1 f1 ["state"] (spWset C)) (ds : Def P w K mg base "misleading_samples" 3 f2 ["state", "k", "e"] (spMis C))
    (dm : Def P w K mg base "most_wrong" 2 f3 ["wrongs", "sample"] (spMostw K)) : FnOk P w K mg base CX0 4 f fd ["state", "k"] (spWorst C) := by
  refine F.ok sc_worst (fun vs H Q E h => h.len) (fun cdv A outer s H vs Q E hr h => ⟨_,
    pss_cons (ps_set (i := 2) sc_worst.nd rfl (Or.inr rfl) (pe_d dw (hr.mono (by decide)) rfl (pa_cons (pv 0) pa_nil)))
    (pss_cons (ps_set (i := 3) sc_worst.nd rfl (Or.inl rfl) (pe_d ds hr rfl (pa_cons (pv 0) (pa_cons (pv 1) (pa_cons pe_int pa_nil)))))
    (pss_cons (ps_if (pt_cmpR op_eq (pe_callB call_len_seq (by rfl) T.len PySem.boot_len (pa_cons (pv 3) pa_nil)) pe_int (nomark _)) (pss_one (ps_ret (pe_lst (pa_cons (pe_un un_neg (pe_cst T.c33)) pa_nil)))) pss_nil)
    (pss_cons (ps_setLc (i := 4) (own := [("sample", 6)]) (g := gName 6) (tt := tYes) rfl sc_worst.nd rfl rfl (sw_true rfl rfl rfl (by decide +kernel)) (pi_list (pv 3))
      (blkOk_by (N := ["state", "k", "wrongs", "samples", "counts", "most", "sample"]) (sc := defScope s_worst) (by decide +kernel)) (fun _ _ _ _ _ => pg_name (i := 6) sc_worst.nd rfl (Or.inl rfl)) (fun _ _ _ _ _ => pts_nil)
      (fun _ _ _ _ _ => pe_d dm (hr.mono (by decide)) rfl (pa_cons (pv 2) (pa_cons (pv 6) pa_nil))))
    (pss_cons (ps_set (i := 5) sc_worst.nd rfl (Or.inl rfl) (pe_callB (cr_max rfl) (by rfl) T.max (by decide +kernel) (pa_cons (pv 4) pa_nil)))
    (pss_one (ps_ret (pe_lst (pa_cons (pe_ix ix_list (pv 3) (pe_bm PySem.F.plainAttrs_list PySem.F.slot_list_index PySem.F.type_list_index mt_index (pv 4) (pa_cons (pv 5) pa_nil)) (fun _ _ => rfl)) (pa_cons (pv 5) pa_nil))))))))), ?_⟩)
  obtain ⟨st, g, m, x, rfl, s, o, ⟨hn, hx⟩, d⟩ := h.one
  replace d : Due C st g m (.worst x) H Q := d
  replace hx : x ≤ m.n := hx
  obtain ⟨d1, d2⟩ := worst_is o hn hx
  refine q_asgL (el_call (ea_cons (ev_var rfl) ea_nil) (sl_wset s o)) fun q H1 hq e1 h1 => ?_
  have s1 := s.mono e1
  refine q_asgL (xs := (samplesW m x).map vN) (el_call (ea_cons (ev_var rfl) (ea_cons (ev_var rfl) (ea_cons (ev_c (v := vN 0)) ea_nil))) (sl_mis (k := x) (e := 0) s1 o)) fun q2 H2 hq2 e2 h2 => ?_
  have e12 := e1.trans e2
  refine q_when (b := (samplesW m x).length == 0) (et_test (ev_eqN (y := 0) (ev_lenS (ev_var rfl) (sq_of h2)) ev_c)) (fun c H3 e3 => ?_) fun c H3 e3 => ?_
  · exact s_retL (el_1 (ev_neg ev_c)) fun p H4 hp e4 h4 => d.go s ((looks2 hn).2.2.2.2.1 _) (d1 (nil_of c)) (fresh_back (e12.trans e3) hp) ((e12.trans e3).trans e4) h4
  obtain ⟨j, y, gj, le, lo, da⟩ := d2 (ne_of_len c)
  have e13 := e12.trans e3
  have h13 := (e2.trans e3) _ _ h1
  have l256 : (samplesW m x).length ≤ 256 := Nat.le_trans (List.length_filter_le _ _) (setsN_le o.n8)
  refine q_asgL (xs := ((samplesW m x).map (mostW m)).map vN) (el_lcM (mostW m) (ev_var rfl) (sq_of (e3 _ _ h2)) (by omega) (fun _ => rfl)
    fun z hz H4 e4 => ev_call (ea_cons (ev_var rfl) (ea_cons (ev_var rfl) ea_nil)) (sv_mostw (s := z) ⟨sq_of (e4 _ _ h13), ws16 o⟩ (w8 o) ((worst_most m z).1 (List.mem_filter.mp hz).2).2)) fun q4 H4 hq4 e4 h4 => ?_
  have gc : ((samplesW m x).map (mostW m))[j]? = some (mostW m y) := by
    rw [List.getElem?_map, gj]
    rfl
  refine q_asg (ev_maxS (ev_var rfl) (sq_of h4) (List.mem_of_getElem? gc) le) fun H5 e5 => ?_
  have e15 := (e13.trans e4).trans e5
  have jl : j < (samplesW m x).length := (List.getElem?_eq_some_iff.mp gj).1
  have ix := ev_ix (K := K) (H := H5) (l := samplesW m x) (i := j) (ta := tVar 3) (σ := [some (.ref st), some (vN x), some (.ref q), some (.ref q2), some (.ref q4), some (vN (mostW m y)), none]) (ev_var rfl) (sq_of (((e3.trans e4).trans e5) _ _ h2)) (ev_indexX (K := K) (ta := tVar 4) (tb := tVar 5) (ev_var rfl) (sq_of (e5 _ _ h4)) (ev_var rfl) gc lo) jl
  rw [show (samplesW m x).getD j 0 = y by rw [List.getD_eq_getElem?_getD, gj]; rfl] at ix
  exact s_retL (el_2 ix (ev_var rfl)) fun p H6 hp e6 h6 => d.goN s ((looks2 hn).2.2.2.2.1 _) da (fresh_back e15 hp) (e15.trans e6) h6
/-! ### answer_by_one -/
theorem sc_byone : FnScope ["state", "k", "e", "wrong"] ["state", "k", "e"] (defScope s_byone) := ⟨rfl, rfl, rfl, by decide +kernel, rfl, by decide +kernel, by decide +kernel⟩
theorem ok_byone {f f1 f2 f3 : Addr} {fd : FuncData} (F : Fun K "answer_by_one" "answer_by_one" s_byone f fd) (T : Txt K mg C) (dw : Def P w K mg base "wrong_on_at_least" 2 f1 ["state", "e"] (spWat C)) (dm : Def P w K mg base "how_many_sets" 1 f2 ["things", "size"] spMany)
    (dz : Def P w K mg base "size_of" 1 f3 ["members"] spSize) : FnOk P w K mg base CX0 3 f fd ["state", "k", "e"] (spByone C) := by
  refine F.ok sc_byone (fun vs H Q E h => h.len) (fun cdv A outer s H vs Q E hr h => ⟨_,
    pss_one (ps_ret (pe_lst (pa_cons (pe_callB (cr_sum rfl) (by rfl) T.sum (by decide +kernel) (pa_cons
      (pe_lc (own := [("wrong", 3)]) (g := gName 3) (tt := tYes) rfl sc_byone.nd (pi_list (pe_d dw hr rfl (pa_cons (pv 0) (pa_cons (pv 2) pa_nil))))
        (blkOk_by (N := ["state", "k", "e", "wrong"]) (sc := defScope s_byone) (by decide +kernel)) (fun _ _ _ _ _ => pg_name (i := 3) sc_byone.nd rfl (Or.inl rfl)) (fun _ _ _ _ _ => pts_nil)
        (fun _ _ _ _ _ => pe_d dm (hr.mono (by decide)) rfl (pa_cons (pe_op op_sub (pe_fldK (K := K) rfl (pv 0) rfl) (pe_d dz (hr.mono (by decide)) rfl (pa_cons (pv 3) pa_nil))) (pa_cons (pv 1) pa_nil)))) pa_nil)) pa_nil))), ?_⟩)
  obtain ⟨st, g, m, x, y, rfl, s, o, ⟨hn, hx⟩, d⟩ := h.two
  replace d : Due C st g m (.byOne x y) H Q := d
  replace hx : x ≤ m.n := hx
  have n8 := o.n8
  refine s_retL (el_1 (ev_sumN (l := (wsAt m y).map fun w => Kh399.choose (m.n - sz w) x) ?_)) fun p H2 hp e2 h2 => d.goN s ((looks2 hn).2.2.2.2.2.1 _ _) (due_byOne2 o hn hx) hp e2 h2
  exact el_lcNM (l := wsAt m y) (fun w => Kh399.choose (m.n - sz w) x) (el_call (ea_cons (ev_var rfl) (ea_cons (ev_var rfl) ea_nil)) (sl_wat s o)) (by have := wat16 (e := y) o; omega) (fun _ => rfl)
    fun z hz H2 e2 => ev_call (ea_cons (ev_subN (ev_cases T (s.mono e2) (ev_var rfl)) (ev_call (ea_cons (ev_var rfl) ea_nil) (sv_size (w8 o z (wat_sub z hz)))) (sz_le o.n8 (ws_lt o z (wat_sub z hz)))) (ea_cons (ev_var rfl) ea_nil)) (sv_many (by omega) (by omega))
/-! ### answer_enough -/
theorem sc_enough : FnScope ["state", "e", "p", "q", "k"] ["state", "e", "p", "q"] (defScope s_enough) := ⟨rfl, rfl, rfl, by decide +kernel, rfl, by decide +kernel, by decide +kernel⟩
theorem ok_enough {f f1 f2 : Addr} {fd : FuncData} (F : Fun K "answer_enough" "answer_enough" s_enough f fd) (T : Txt K mg C) (ds : Def P w K mg base "misleading_samples" 3 f1 ["state", "k", "e"] (spMis C)) (dm : Def P w K mg base "how_many_sets" 1 f2 ["things", "size"] spMany) :
    FnOk P w K mg base CX0 4 f fd ["state", "e", "p", "q"] (spEnough C) := by
  refine F.ok sc_enough (fun vs H Q E h => h.len) (fun cdv A outer s H vs Q E hr h => ⟨_,
    pss_cons (ps_if (PW.pt (pw_or (pt_cmpR op_lt (pv 3) pe_int (nomark _)) (pw_or (pt_cmpR op_gt (pv 3) (pe_cst T.cP) (nomark _)) (pw_or1 (pt_cmpR op_gt (pv 2) (pv 3) (nomark _)))))) (pss_one (ps_ret (pe_lst (pa_cons (pe_un un_neg (pe_cst T.c22)) pa_nil)))) pss_nil)
    (pss_cons (ps_for PassesOwn.never rfl (pi_range1 rfl T.range (pa_cons (pe_op op_add (pe_fld (pv 0) rfl) pe_int) pa_nil)) (pg_name (i := 4) sc_enough.nd rfl (Or.inl rfl))
      (pss_one (ps_if (pt_cmpR op_le (pe_op op_mul (pe_callB call_len_seq (by rfl) T.len PySem.boot_len (pa_cons (pe_d ds hr rfl (pa_cons (pv 0) (pa_cons (pv 4) (pa_cons (pv 1) pa_nil)))) pa_nil)) (pv 3))
          (pe_op op_mul (pe_d dm (hr.mono (by decide)) rfl (pa_cons (pe_fld (pv 0) rfl) (pa_cons (pv 4) pa_nil))) (pv 2)) (nomark _))
        (pss_one (ps_ret (pe_lst (pa_cons (pv 4) pa_nil)))) pss_nil)))
    (pss_one (ps_ret (pe_lst (pa_cons (pe_un un_neg (pe_cst T.c33)) pa_nil))))), ?_⟩)
  obtain ⟨st, g, m, x, y, z, rfl, s, o, hn, d⟩ := h.three
  replace d : Due C st g m (.enough x y z) H Q := d
  obtain ⟨d1, d2⟩ := due_enough (e := x) (p := y) (q := z) o hn
  have n8 := o.n8
  refine q_when (b := decide (z < 1) || (decide (1000 < z) || decide (z < y))) (et_or (et_test (ev_ltN (y := 1) (ev_var rfl) ev_c)) fun _ => et_or (et_test (ev_gtN (y := 1000) (ev_var rfl) ev_c)) fun _ => et_test (ev_gtN (ev_var rfl) (ev_var rfl))) (fun c H1 e1 => ?_) fun c H1 e1 => ?_
  · have c' : z < 1 ∨ 1000 < z ∨ z < y := by simpa using c
    exact s_retL (el_1 (ev_neg ev_c)) fun p H2 hp e2 h2 => d.go s ((looks2 hn).2.2.2.2.2.2.1 _ _ _) (d1 c') (fresh_back e1 hp) (e1.trans e2) h2
  have c' : ¬ (z < 1 ∨ 1000 < z ∨ z < y) := by simpa using c
  obtain ⟨d3, d4⟩ := d2 c'
  have s1 := s.mono e1
  refine q_forR1 (n := ((m.n + 1 : Nat) : Int)) (ea_cons (ev_add (ev_cases T s1 (ev_var rfl)) (ev_c (v := vN 1))) ea_nil) ⟨by omega, by omega⟩
    (fun i σ H' => ∃ u, σ = [some (.ref st), some (vN x), some (vN y), some (vN z), u] ∧ Ex H H' ∧ ∀ j, j < i → decide (misN m j x * z ≤ y * (setsN m.n j).length) = false) (fun H2 e2 => ⟨none, rfl, e1.trans e2, fun j hj => by omega⟩) ?_ ?_
  · rintro i σ' H' hi ⟨u, rfl, e, lo⟩
    have s2 := s.mono e
    have i8 : i ≤ m.n := by omega
    have ml : misN m i x ≤ 256 := Nat.le_trans (List.length_filter_le _ _) (setsN_le o.n8)
    have cl : Kh399.choose m.n i ≤ 256 := Nat.le_trans (choose_le _ _) (pow8 o.n8)
    refine s_when (b := decide (misN m i x * z ≤ y * (setsN m.n i).length)) ?_ (fun b H3 e3 => ?_) fun b H3 e3 => ?_
    · rw [sets_choose o.n8, Nat.mul_comm y]
      exact et_test (ev_leN (ev_mulN (ev_lenM (el_call (ea_cons (ev_var rfl) (ea_cons (ev_var rfl) (ea_cons (ev_var rfl) ea_nil))) (sl_mis (k := i) (e := x) s2 o))) (ev_var rfl) (Nat.lt_of_le_of_lt ml (by decide)))
        (ev_mulN (ev_call (ea_cons (ev_cases T s2 (ev_var rfl)) (ea_cons (ev_var rfl) ea_nil)) (sv_many (by omega) (by omega))) (ev_var rfl) (Nat.lt_of_le_of_lt cl (by decide))))
    · have fi : penough m x y z = some i := find_at (by omega) b lo
      exact s_retL (el_1 (ev_var rfl)) fun p H4 hp e4 h4 => d.goN s ((looks2 hn).2.2.2.2.2.2.1 _ _ _) (d4 i fi) (fresh_back (e.trans e3) hp) ((e.trans e3).trans e4) h4
    · refine ⟨_, rfl, e.trans e3, fun j hj => ?_⟩
      rcases Nat.lt_or_ge j i with q | q
      · exact lo j q
      · have ej : j = i := by omega
        subst ej
        exact b
  · rintro σ' H' ⟨u, rfl, e, lo⟩
    rw [Int.toNat_natCast] at lo
    have fn : penough m x y z = none := find_no lo
    exact s_retL (el_1 (ev_neg ev_c)) fun p H2 hp e2 h2 => d.go s ((looks2 hn).2.2.2.2.2.2.1 _ _ _) (d3 fn) (fresh_back e hp) (e.trans e2) h2
/-! ### answer_tells, answer_hardest -/
theorem sc_tells : FnScope ["state", "i", "telling"] ["state", "i"] (defScope s_tells) := ⟨rfl, rfl, rfl, by decide +kernel, rfl, by decide +kernel, by decide +kernel⟩
theorem ok_tells {f f1 f2 : Addr} {fd : FuncData} (F : Fun K "answer_tells" "answer_tells" s_tells f fd) (T : Txt K mg C) (dt : Def P w K mg base "telling_cases" 3 f1 ["state", "i"] (spTell C)) (dz : Def P w K mg base "size_of" 1 f2 ["members"] spSize) :
    FnOk P w K mg base CX0 4 f fd ["state", "i"] (spTells C) := by
  refine F.ok sc_tells (fun vs H Q E h => h.len) (fun cdv A outer s H vs Q E hr h => ⟨_,
    pss_cons (ps_set (i := 2) sc_tells.nd rfl (Or.inl rfl) (pe_d dt hr rfl (pa_cons (pv 0) (pa_cons (pv 1) pa_nil))))
    (pss_one (ps_ret (pe_lst (pa_cons (pe_d dz (hr.mono (by decide)) rfl (pa_cons (pv 2) pa_nil)) (pa_cons (pv 2) pa_nil))))), ?_⟩)
  obtain ⟨st, g, m, x, rfl, s, o, ⟨hn, hx⟩, d⟩ := h.one
  replace d : Due C st g m (.tells x) H Q := d
  replace hx : x < m.gs.length := hx
  obtain ⟨y, _, ly⟩ := tells_is o (getD_mem hx)
  refine q_asg (ev_call (ea_cons (ev_var rfl) (ea_cons (ev_var rfl) ea_nil)) (sv_tell s o hx ly)) fun H1 e1 => ?_
  exact s_retL (el_2 (ev_call (ea_cons (ev_var rfl) ea_nil) (sv_size (Nat.lt_of_lt_of_le ly.lt (pow8 o.n8)))) (ev_var rfl)) fun p H2 hp e2 h2 => d.goN s ((looks2 hn).2.2.2.2.2.2.2.1 _) (due_tells o hn hx ly) (fresh_back e1 hp) (e1.trans e2) h2
theorem sc_hard : FnScope ["state", "counts", "most", "i"] ["state"] (defScope s_hard) := ⟨rfl, rfl, rfl, by decide +kernel, rfl, by decide +kernel, by decide +kernel⟩
def hardL (m : M) : List Nat := (List.range m.gs.length).map fun i => tl m (m.gs.getD i 0)
theorem hard_at {i x : Nat} (h : (hardL m)[i]? = some x) : ∃ g, m.gs[i]? = some g ∧ x = tl m g := by
  unfold hardL at h
  rw [List.getElem?_map] at h
  rcases Nat.lt_or_ge i m.gs.length with c | c
  · rw [List.getElem?_range c] at h
    refine ⟨m.gs[i], List.getElem?_eq_getElem c, ?_⟩
    have e : tl m (m.gs.getD i 0) = x := Option.some.inj h
    rw [← e, List.getD_eq_getElem?_getD, List.getElem?_eq_getElem c]
    rfl
  · rw [List.getElem?_eq_none (by rw [List.length_range]; exact c)] at h
    cases h
theorem hard_of {i g : Nat} (h : m.gs[i]? = some g) : (hardL m)[i]? = some (tl m g) := by
  have c := (List.getElem?_eq_some_iff.mp h).1
  unfold hardL
  rw [List.getElem?_map, List.getElem?_range c]
  show some (tl m (m.gs.getD i 0)) = _
  rw [List.getD_eq_getElem?_getD, h]
  rfl
theorem ok_hard {f f1 f2 : Addr} {fd : FuncData} (F : Fun K "answer_hardest" "answer_hardest" s_hard f fd) (T : Txt K mg C) (dt : Def P w K mg base "telling_cases" 3 f1 ["state", "i"] (spTell C)) (dz : Def P w K mg base "size_of" 1 f2 ["members"] spSize) :
    FnOk P w K mg base CX0 4 f fd ["state"] (spHard C) := by
  refine F.ok sc_hard (fun vs H Q E h => h.len) (fun cdv A outer s H vs Q E hr h => ⟨_,
    pss_cons (ps_if (pt_cmpR op_eq (pe_callB call_len_seq (by rfl) T.len PySem.boot_len (pa_cons (pe_fld (pv 0) rfl) pa_nil)) pe_int (nomark _)) (pss_one (ps_ret (pe_lst (pa_cons (pe_un un_neg (pe_cst T.c6)) pa_nil)))) pss_nil)
    (pss_cons (ps_setLc (i := 1) (own := [("i", 3)]) (g := gName 3) (tt := tYes) rfl sc_hard.nd rfl rfl (sw_true rfl rfl rfl (by decide +kernel)) (pi_range1 rfl T.range (pa_cons (pe_callB call_len_seq (by rfl) T.len PySem.boot_len (pa_cons (pe_fld (pv 0) rfl) pa_nil)) pa_nil))
      (blkOk_by (N := ["state", "counts", "most", "i"]) (sc := defScope s_hard) (by decide +kernel)) (fun _ _ _ _ _ => pg_name (i := 3) sc_hard.nd rfl (Or.inl rfl)) (fun _ _ _ _ _ => pts_nil)
      (fun _ _ _ _ _ => pe_d dz (hr.mono (by decide)) rfl (pa_cons (pe_d dt hr rfl (pa_cons (pv 0) (pa_cons (pv 3) pa_nil))) pa_nil)))
    (pss_cons (ps_set (i := 2) sc_hard.nd rfl (Or.inl rfl) (pe_callB (cr_max rfl) (by rfl) T.max (by decide +kernel) (pa_cons (pv 1) pa_nil)))
    (pss_one (ps_ret (pe_lst (pa_cons (pe_bm PySem.F.plainAttrs_list PySem.F.slot_list_index PySem.F.type_list_index mt_index (pv 1) (pa_cons (pv 2) pa_nil)) (pa_cons (pv 2) pa_nil))))))), ?_⟩)
  obtain ⟨st, g, m, rfl, s, o, hn, d⟩ := h.none
  obtain ⟨d1, d2⟩ := due_hardest (m := m) hn
  refine q_when (b := m.gs.length == 0) (et_test (ev_eqN (y := 0) (ev_lenS (ev_guesses T s (ev_var rfl)) (sq_of s.gl)) ev_c)) (fun c H1 e1 => ?_) fun c H1 e1 => ?_
  · exact s_retL (el_1 (ev_neg ev_c)) fun p H2 hp e2 h2 => d.go s (looks2 hn).2.2.2.2.2.2.2.2.1 (d1 (nil_of c)) (fresh_back e1 hp) (e1.trans e2) h2
  have s1 := s.mono e1
  obtain ⟨j, y, gj, le, lo, da⟩ := d2 (ne_of_len c)
  refine q_asgL (xs := (hardL m).map vN) (el_lcRM (n := m.gs.length) (fun i => tl m (m.gs.getD i 0)) (ea_cons (ev_lenS (ev_guesses T s1 (ev_var rfl)) (sq_of s1.gl)) ea_nil) (by have := o.le; omega) (fun _ => rfl)
    fun i hi H2 e2 => ?_) fun q H2 hq e2 h2 => ?_
  · obtain ⟨z, _, lz⟩ := tells_is o (getD_mem hi)
    rw [tl_is o (getD_mem hi) lz]
    exact ev_call (ea_cons (ev_call (ea_cons (ev_var rfl) (ea_cons (ev_var rfl) ea_nil)) (sv_tell (s1.mono e2) o hi lz)) ea_nil) (sv_size (Nat.lt_of_lt_of_le lz.lt (pow8 o.n8)))
  have gh := hard_of gj
  refine q_asg (ev_maxS (ev_var rfl) (sq_of h2) (List.mem_of_getElem? gh) fun x hx => ?_) fun H3 e3 => ?_
  · obtain ⟨i, hi⟩ := List.getElem?_of_mem hx
    obtain ⟨z, hz, rfl⟩ := hard_at hi
    exact le z (List.mem_of_getElem? hz)
  have e13 := (e1.trans e2).trans e3
  refine s_retL (el_2 (ev_indexN (ev_var rfl) (sq_of (e3 _ _ h2)) (ev_var rfl) gh fun i x hi gx => ?_) (ev_var rfl)) fun p H4 hp e4 h4 => d.goN s (looks2 hn).2.2.2.2.2.2.2.2.1 da (fresh_back e13 hp) (e13.trans e4) h4
  obtain ⟨z, hz, rfl⟩ := hard_at gx
  have := lo i z hi hz
  omega
/-! ### answer_parted, answer_told -/
theorem sc_parted : FnScope ["state", "s"] ["state", "s"] (defScope s_parted) := ⟨rfl, rfl, rfl, by decide +kernel, rfl, by decide +kernel, by decide +kernel⟩
theorem ok_parted {f f1 f2 : Addr} {fd : FuncData} (F : Fun K "answer_parted" "answer_parted" s_parted f fd) (T : Txt K mg C) (dz : Def P w K mg base "size_of" 1 f1 ["members"] spSize) (dw : Def P w K mg base "ways_parted" 1 f2 ["guesses", "members"] (spWays K)) :
    FnOk P w K mg base CX0 2 f fd ["state", "s"] (spParted C) := by
  refine F.ok sc_parted (fun vs H Q E h => h.len) (fun cdv A outer s H vs Q E hr h => ⟨_,
    pss_one (ps_ret (pe_lst (pa_cons (pe_op op_shl pe_int (pe_d dz hr rfl (pa_cons (pv 1) pa_nil)))
      (pa_cons (pe_callB call_len_seq (by rfl) T.len PySem.boot_len (pa_cons (pe_d dw hr rfl (pa_cons (pe_fld (pv 0) rfl) (pa_cons (pv 1) pa_nil))) pa_nil)) pa_nil)))), ?_⟩)
  obtain ⟨st, g, m, x, rfl, s, o, ⟨hn, hx⟩, d⟩ := h.one
  replace d : Due C st g m (.parted x) H Q := d
  replace hx : x < 2 ^ m.n := hx
  have h8 : x < 2 ^ 8 := Nat.lt_of_lt_of_le hx (pow8 o.n8)
  have z8 : sz x ≤ 8 := sz_le (Nat.le_refl _) h8
  have e2 := ev_shl (x := 1) (y := sz x) (σ := start ["state", "s"] [.ref st, vN x]) (H := H) (by decide) (by omega) ev_c (ev_call (dvs := []) (E := E0) (ta := tCons (tVar 1) tNil) (ea_cons (ev_var rfl) ea_nil) (sv_size h8))
  rw [Nat.one_mul] at e2
  exact s_retL (el_2 e2 (ev_lenM (el_call (ea_cons (ev_guesses T s (ev_var rfl)) (ea_cons (ev_var rfl) ea_nil)) (sl_ways (s := x) (s.guesses o))))) fun p H2 hp e2 h2 => d.goN s ((looks2 hn).2.2.2.2.2.2.2.2.2.1 _) (due_parted o hn hx) hp e2 h2
theorem sc_told : FnScope ["state"] ["state"] (defScope s_told) := ⟨rfl, rfl, rfl, by decide +kernel, rfl, by decide +kernel, by decide +kernel⟩
theorem ok_told {f : Addr} {fd : FuncData} (F : Fun K "answer_told" "answer_told" s_told f fd) (T : Txt K mg C) : FnOk P w K mg base CX0 1 f fd ["state"] (spTold C) := by
  refine F.ok sc_told (fun vs H Q E h => h.len) (fun cdv A outer s H vs Q E hr h => ⟨_,
    pss_one (ps_ret (pe_op op_cat (pe_lst (pa_cons (pe_fld (pv 0) rfl) (pa_cons (pe_fld (pv 0) rfl) (pa_cons (pe_callB call_len_seq (by rfl) T.len PySem.boot_len (pa_cons (pe_fld (pv 0) rfl) pa_nil)) pa_nil)))) (pe_fld (pv 0) rfl))), ?_⟩)
  obtain ⟨st, g, m, rfl, s, o, hn, d⟩ := h.none
  exact s_retL (el_cat (el_3 (ev_cases T s (ev_var rfl)) (ev_truth T s (ev_var rfl)) (ev_lenS (ev_guesses T s (ev_var rfl)) (sq_of s.gl))) (ev_guesses T s (ev_var rfl)) s.gl (by rw [List.length_map]; show 3 + _ ≤ _; have := o.le; omega))
    fun p H2 hp e2 h2 => d.goN s (looks2 hn).2.2.2.2.2.2.2.2.2.2 (due_told hn) hp e2 h2
end
end Pc


set_option Elab.async false
set_option linter.all false
set_option maxRecDepth 100000
set_option maxHeartbeats 3000000
namespace Pc
open PySem PySem.Spec PyProof.Rows L2 Evl Pm
abbrev s_ref : Stmt := top 53
abbrev s_answer : Stmt := top 54
/-! ### the calls by their letters -/
def letters : Nat → List Str
  | 0 => ["cases", "truth"]
  | 1 => ["s"]
  | 2 => ["i"]
  | 3 => ["s"]
  | 4 => ["i"]
  | 5 => ["i"]
  | 6 => []
  | 7 => ["s"]
  | 8 => ["s"]
  | 9 => ["k"]
  | 10 => []
  | 11 => []
  | 12 => ["n", "d"]
  | 13 => ["s"]
  | 14 => ["e", "s"]
  | 15 => ["k", "e"]
  | 16 => ["k"]
  | 17 => ["k", "e"]
  | 18 => ["e", "p", "q"]
  | 19 => ["i"]
  | 20 => []
  | 21 => ["s"]
  | _ => []
def askOf : Nat → M → List Nat → Prop
  | 0 => fun _ _ => True
  | 1 => fun m as => m.n ≠ 0 ∧ as.getD 0 0 < 2 ^ m.n
  | 2 => fun m as => m.n ≠ 0 ∧ as.getD 0 0 < m.gs.length
  | 3 => fun m as => m.n ≠ 0 ∧ as.getD 0 0 < 2 ^ m.n
  | 4 => fun m as => m.n ≠ 0 ∧ as.getD 0 0 < m.gs.length
  | 5 => fun m as => m.n ≠ 0 ∧ as.getD 0 0 < m.gs.length
  | 6 => fun m _ => m.n ≠ 0
  | 7 => fun m as => m.n ≠ 0 ∧ as.getD 0 0 < 2 ^ m.n
  | 8 => fun m as => m.n ≠ 0 ∧ as.getD 0 0 < 2 ^ m.n
  | 9 => fun m as => m.n ≠ 0 ∧ as.getD 0 0 ≤ m.n
  | 10 => fun m _ => m.n ≠ 0
  | 11 => fun m _ => m.n ≠ 0
  | 12 => fun m _ => m.n ≠ 0
  | 13 => fun m as => m.n ≠ 0 ∧ as.getD 0 0 < 2 ^ m.n
  | 14 => fun m as => m.n ≠ 0 ∧ as.getD 1 0 < 2 ^ m.n
  | 15 => fun m as => m.n ≠ 0 ∧ as.getD 0 0 ≤ m.n
  | 16 => fun m as => m.n ≠ 0 ∧ as.getD 0 0 ≤ m.n
  | 17 => fun m as => m.n ≠ 0 ∧ as.getD 0 0 ≤ m.n
  | 18 => fun m _ => m.n ≠ 0
  | 19 => fun m as => m.n ≠ 0 ∧ as.getD 0 0 < m.gs.length
  | 20 => fun m _ => m.n ≠ 0
  | 21 => fun m as => m.n ≠ 0 ∧ as.getD 0 0 < 2 ^ m.n
  | _ => fun m _ => m.n ≠ 0
def spOf (C : Addr) (c : Nat) : Sp := spA C (letters c).length (theCall c) (askOf c)
/-- what is refused ahead, by a letter -/
def refN (m : M) (z : Str) (x : Nat) : Nat :=
  if z == "s" && !(x / 2 ^ m.n == 0) then 22 else if z == "i" && decide (m.gs.length ≤ x) then 2 else if z == "k" && decide (m.n < x) then 22 else 0
theorem div0 (x n : Nat) : (x / 2 ^ n == 0) = decide (x < 2 ^ n) := by
  rw [Bool.eq_iff_iff, beq_iff_eq, decide_eq_true_eq, Nat.div_eq_zero_iff]
  have := Nat.two_pow_pos n
  omega
theorem ref_s (m : M) (x : Nat) : refN m "s" x = if x < 2 ^ m.n then 0 else 22 := by
  have e1 : (("s" : Str) == "s") = true := by decide +kernel
  have e2 : (("s" : Str) == "i") = false := by decide +kernel
  have e3 : (("s" : Str) == "k") = false := by decide +kernel
  unfold refN
  rw [e1, e2, e3, div0]
  by_cases h : x < 2 ^ m.n <;> simp [h]
theorem ref_i (m : M) (x : Nat) : refN m "i" x = if x < m.gs.length then 0 else 2 := by
  have e1 : (("i" : Str) == "s") = false := by decide +kernel
  have e2 : (("i" : Str) == "i") = true := by decide +kernel
  have e3 : (("i" : Str) == "k") = false := by decide +kernel
  unfold refN
  rw [e1, e2, e3]
  by_cases h : x < m.gs.length
  · simp [h]
  · simp [h, Nat.not_lt.mp h]
theorem ref_k (m : M) (x : Nat) : refN m "k" x = if x ≤ m.n then 0 else 22 := by
  have e1 : (("k" : Str) == "s") = false := by decide +kernel
  have e2 : (("k" : Str) == "i") = false := by decide +kernel
  have e3 : (("k" : Str) == "k") = true := by decide +kernel
  unfold refN
  rw [e1, e2, e3]
  by_cases h : x ≤ m.n
  · simp [h, Nat.not_lt.mpr h]
  · simp [h, Nat.not_le.mp h]
theorem ref_0 (m : M) (x : Nat) {z : Str} (e1 : (z == "s") = false) (e2 : (z == "i") = false) (e3 : (z == "k") = false) : refN m z x = 0 := by
  unfold refN
  rw [e1, e2, e3]
  rfl
theorem of_s {m : M} {x : Nat} (h : refN m "s" x = 0) : x < 2 ^ m.n := by
  rw [ref_s] at h
  by_cases c : x < 2 ^ m.n
  · exact c
  · rw [if_neg c] at h
    cases h
theorem of_i {m : M} {x : Nat} (h : refN m "i" x = 0) : x < m.gs.length := by
  rw [ref_i] at h
  by_cases c : x < m.gs.length
  · exact c
  · rw [if_neg c] at h
    cases h
theorem of_k {m : M} {x : Nat} (h : refN m "k" x = 0) : x ≤ m.n := by
  rw [ref_k] at h
  by_cases c : x ≤ m.n
  · exact c
  · rw [if_neg c] at h
    cases h
theorem no_s {m : M} {x : Nat} (h : refN m "s" x ≠ 0) : ¬ x < 2 ^ m.n ∧ refN m "s" x = 22 := by
  rw [ref_s] at h ⊢
  by_cases c : x < 2 ^ m.n
  · rw [if_pos c] at h
    exact absurd rfl h
  · exact ⟨c, if_neg c⟩
theorem no_i {m : M} {x : Nat} (h : refN m "i" x ≠ 0) : ¬ x < m.gs.length ∧ refN m "i" x = 2 := by
  rw [ref_i] at h ⊢
  by_cases c : x < m.gs.length
  · rw [if_pos c] at h
    exact absurd rfl h
  · exact ⟨c, if_neg c⟩
theorem no_k {m : M} {x : Nat} (h : refN m "k" x ≠ 0) : m.n < x ∧ refN m "k" x = 22 := by
  rw [ref_k] at h ⊢
  by_cases c : x ≤ m.n
  · rw [if_pos c] at h
    exact absurd rfl h
  · exact ⟨Nat.not_le.mp c, if_neg c⟩
/-- looking calls, refused -/
theorem rf_guess {m : M} {a0 : Nat} (hn : m.n ≠ 0) (h : ¬ a0 < m.gs.length) : ansM m (.guess a0) = [-2] ∧ nextM m (.guess a0) = m := by
  refine ⟨?_, next_look hn (by intro _ _ z; cases z) rfl⟩
  rw [ans_of hn (by intro _ _ z; cases z)]
  simp only [Kh399.does, isG_f h]
  rfl
theorem rf_wrong {m : M} {a0 : Nat} (hn : m.n ≠ 0) (h : ¬ a0 < m.gs.length) : ansM m (.wrong a0) = [-2] ∧ nextM m (.wrong a0) = m := by
  refine ⟨?_, next_look hn (by intro _ _ z; cases z) rfl⟩
  rw [ans_of hn (by intro _ _ z; cases z)]
  simp only [Kh399.does, isG_f h]
  rfl
theorem rf_ways {m : M} {a0 : Nat} (hn : m.n ≠ 0) (h : ¬ a0 < 2 ^ m.n) : ansM m (.ways a0) = [-22] ∧ nextM m (.ways a0) = m := by
  refine ⟨?_, next_look hn (by intro _ _ z; cases z) rfl⟩
  rw [ans_of hn (by intro _ _ z; cases z)]
  simp only [Kh399.does, isS_f h]
  rfl
theorem rf_every {m : M} {a0 : Nat} (hn : m.n ≠ 0) (h : ¬ a0 < 2 ^ m.n) : ansM m (.every a0) = [-22] ∧ nextM m (.every a0) = m := by
  refine ⟨?_, next_look hn (by intro _ _ z; cases z) rfl⟩
  rw [ans_of hn (by intro _ _ z; cases z)]
  simp only [Kh399.does, isS_f h]
  rfl
theorem rf_growth {m : M} {a0 : Nat} (hn : m.n ≠ 0) (h : m.n < a0) : ansM m (.growth a0) = [-22] ∧ nextM m (.growth a0) = m := by
  refine ⟨?_, next_look hn (by intro _ _ z; cases z) rfl⟩
  rw [ans_of hn (by intro _ _ z; cases z)]
  have c : m.abs.n < a0 := h
  simp only [Kh399.does, c, if_true]
  rfl
theorem rf_fit {m : M} {a0 : Nat} (hn : m.n ≠ 0) (h : ¬ a0 < 2 ^ m.n) : ansM m (.fit a0) = [-22] ∧ nextM m (.fit a0) = m := by
  refine ⟨?_, next_look hn (by intro _ _ z; cases z) rfl⟩
  rw [ans_of hn (by intro _ _ z; cases z)]
  simp only [Kh399.does, isS_f h]
  rfl
theorem rf_misleads {m : M} {a0 a1 : Nat} (hn : m.n ≠ 0) (h : ¬ a1 < 2 ^ m.n) : ansM m (.misleads a0 a1) = [-22] ∧ nextM m (.misleads a0 a1) = m := by
  refine ⟨?_, next_look hn (by intro _ _ z; cases z) rfl⟩
  rw [ans_of hn (by intro _ _ z; cases z)]
  simp only [Kh399.does, isS_f h]
  rfl
theorem rf_misleading {m : M} {a0 a1 : Nat} (hn : m.n ≠ 0) (h : m.n < a0) : ansM m (.misleading a0 a1) = [-22] ∧ nextM m (.misleading a0 a1) = m := by
  refine ⟨?_, next_look hn (by intro _ _ z; cases z) rfl⟩
  rw [ans_of hn (by intro _ _ z; cases z)]
  have c : m.abs.n < a0 := h
  simp only [Kh399.does, c, if_true]
  rfl
theorem rf_worst {m : M} {a0 : Nat} (hn : m.n ≠ 0) (h : m.n < a0) : ansM m (.worst a0) = [-22] ∧ nextM m (.worst a0) = m := by
  refine ⟨?_, next_look hn (by intro _ _ z; cases z) rfl⟩
  rw [ans_of hn (by intro _ _ z; cases z)]
  have c : m.abs.n < a0 := h
  simp only [Kh399.does, c, if_true]
  rfl
theorem rf_byOne {m : M} {a0 a1 : Nat} (hn : m.n ≠ 0) (h : m.n < a0) : ansM m (.byOne a0 a1) = [-22] ∧ nextM m (.byOne a0 a1) = m := by
  refine ⟨?_, next_look hn (by intro _ _ z; cases z) rfl⟩
  rw [ans_of hn (by intro _ _ z; cases z)]
  have c : m.abs.n < a0 := h
  simp only [Kh399.does, c, if_true]
  rfl
theorem rf_tells {m : M} {a0 : Nat} (hn : m.n ≠ 0) (h : ¬ a0 < m.gs.length) : ansM m (.tells a0) = [-2] ∧ nextM m (.tells a0) = m := by
  refine ⟨?_, next_look hn (by intro _ _ z; cases z) rfl⟩
  rw [ans_of hn (by intro _ _ z; cases z)]
  simp only [Kh399.does, isG_f h]
  rfl
theorem rf_parted {m : M} {a0 : Nat} (hn : m.n ≠ 0) (h : ¬ a0 < 2 ^ m.n) : ansM m (.parted a0) = [-22] ∧ nextM m (.parted a0) = m := by
  refine ⟨?_, next_look hn (by intro _ _ z; cases z) rfl⟩
  rw [ans_of hn (by intro _ _ z; cases z)]
  simp only [Kh399.does, isS_f h]
  rfl
/-- none of the letters refuses: what is asked of the call holds -/
theorem ask_of {m : M} {c : Nat} {as : List Nat} (hc : c < most) (hn : c ≠ 0 → m.n ≠ 0) (hl : as.length = (letters c).length)
    (h : ∀ (j : Nat) z x, (letters c)[j]? = some z → as[j]? = some x → refN m z x = 0) : askOf c m as := by
  match c, hc, as, hl with
  | 0, _, [a0, a1], _ => exact trivial
  | 1, _, [a0], _ => exact ⟨hn (by decide), of_s (h 0 "s" a0 rfl rfl)⟩
  | 2, _, [a0], _ => exact ⟨hn (by decide), of_i (h 0 "i" a0 rfl rfl)⟩
  | 3, _, [a0], _ => exact ⟨hn (by decide), of_s (h 0 "s" a0 rfl rfl)⟩
  | 4, _, [a0], _ => exact ⟨hn (by decide), of_i (h 0 "i" a0 rfl rfl)⟩
  | 5, _, [a0], _ => exact ⟨hn (by decide), of_i (h 0 "i" a0 rfl rfl)⟩
  | 6, _, [], _ => exact hn (by decide)
  | 7, _, [a0], _ => exact ⟨hn (by decide), of_s (h 0 "s" a0 rfl rfl)⟩
  | 8, _, [a0], _ => exact ⟨hn (by decide), of_s (h 0 "s" a0 rfl rfl)⟩
  | 9, _, [a0], _ => exact ⟨hn (by decide), of_k (h 0 "k" a0 rfl rfl)⟩
  | 10, _, [], _ => exact hn (by decide)
  | 11, _, [], _ => exact hn (by decide)
  | 12, _, [a0, a1], _ => exact hn (by decide)
  | 13, _, [a0], _ => exact ⟨hn (by decide), of_s (h 0 "s" a0 rfl rfl)⟩
  | 14, _, [a0, a1], _ => exact ⟨hn (by decide), of_s (h 1 "s" a1 rfl rfl)⟩
  | 15, _, [a0, a1], _ => exact ⟨hn (by decide), of_k (h 0 "k" a0 rfl rfl)⟩
  | 16, _, [a0], _ => exact ⟨hn (by decide), of_k (h 0 "k" a0 rfl rfl)⟩
  | 17, _, [a0, a1], _ => exact ⟨hn (by decide), of_k (h 0 "k" a0 rfl rfl)⟩
  | 18, _, [a0, a1, a2], _ => exact hn (by decide)
  | 19, _, [a0], _ => exact ⟨hn (by decide), of_i (h 0 "i" a0 rfl rfl)⟩
  | 20, _, [], _ => exact hn (by decide)
  | 21, _, [a0], _ => exact ⟨hn (by decide), of_s (h 0 "s" a0 rfl rfl)⟩
  | 22, _, [], _ => exact hn (by decide)
  | k + 23, q, _, _ => exact absurd (show k + 23 < 23 from q) (by omega)
/-- the first letter that refuses: that is due -/
theorem due_ref {m : M} {c : Nat} {as : List Nat} (hc : c < most) (hn : c ≠ 0 → m.n ≠ 0) (hl : as.length = (letters c).length) {i : Nat} {z : Str} {x : Nat} (hz : (letters c)[i]? = some z) (hx : as[i]? = some x)
    (h : ∀ (j : Nat) z x, j < i → (letters c)[j]? = some z → as[j]? = some x → refN m z x = 0) (hr : refN m z x ≠ 0) : ansM m (theCall c as) = [-(refN m z x : Int)] ∧ nextM m (theCall c as) = m := by
  match c, hc, as, hl, i, hz, hx with
  | 0, _, [a0, a1], _, 0, hz, hx =>
    cases hz
    cases hx
    exact absurd (ref_0 (z := "cases") m _ (by decide +kernel) (by decide +kernel) (by decide +kernel)) hr
  | 0, _, [a0, a1], _, 1, hz, hx =>
    cases hz
    cases hx
    exact absurd (ref_0 (z := "truth") m _ (by decide +kernel) (by decide +kernel) (by decide +kernel)) hr
  | 0, _, [a0, a1], _, t + 2, hz, _ => cases hz
  | 1, _, [a0], _, 0, hz, hx =>
    cases hz
    cases hx
    obtain ⟨q, e⟩ := no_s hr
    rw [e]
    exact ref_add (hn (by decide)) q
  | 1, _, [a0], _, t + 1, hz, _ => cases hz
  | 2, _, [a0], _, 0, hz, hx =>
    cases hz
    cases hx
    obtain ⟨q, e⟩ := no_i hr
    rw [e]
    exact ref_drop (hn (by decide)) q
  | 2, _, [a0], _, t + 1, hz, _ => cases hz
  | 3, _, [a0], _, 0, hz, hx =>
    cases hz
    cases hx
    obtain ⟨q, e⟩ := no_s hr
    rw [e]
    exact ref_truth (hn (by decide)) q
  | 3, _, [a0], _, t + 1, hz, _ => cases hz
  | 4, _, [a0], _, 0, hz, hx =>
    cases hz
    cases hx
    obtain ⟨q, e⟩ := no_i hr
    rw [e]
    exact rf_guess (hn (by decide)) q
  | 4, _, [a0], _, t + 1, hz, _ => cases hz
  | 5, _, [a0], _, 0, hz, hx =>
    cases hz
    cases hx
    obtain ⟨q, e⟩ := no_i hr
    rw [e]
    exact rf_wrong (hn (by decide)) q
  | 5, _, [a0], _, t + 1, hz, _ => cases hz
  | 6, _, [], _, t + 0, hz, _ => cases hz
  | 7, _, [a0], _, 0, hz, hx =>
    cases hz
    cases hx
    obtain ⟨q, e⟩ := no_s hr
    rw [e]
    exact rf_ways (hn (by decide)) q
  | 7, _, [a0], _, t + 1, hz, _ => cases hz
  | 8, _, [a0], _, 0, hz, hx =>
    cases hz
    cases hx
    obtain ⟨q, e⟩ := no_s hr
    rw [e]
    exact rf_every (hn (by decide)) q
  | 8, _, [a0], _, t + 1, hz, _ => cases hz
  | 9, _, [a0], _, 0, hz, hx =>
    cases hz
    cases hx
    obtain ⟨q, e⟩ := no_k hr
    rw [e]
    exact rf_growth (hn (by decide)) q
  | 9, _, [a0], _, t + 1, hz, _ => cases hz
  | 10, _, [], _, t + 0, hz, _ => cases hz
  | 11, _, [], _, t + 0, hz, _ => cases hz
  | 12, _, [a0, a1], _, 0, hz, hx =>
    cases hz
    cases hx
    exact absurd (ref_0 (z := "n") m _ (by decide +kernel) (by decide +kernel) (by decide +kernel)) hr
  | 12, _, [a0, a1], _, 1, hz, hx =>
    cases hz
    cases hx
    exact absurd (ref_0 (z := "d") m _ (by decide +kernel) (by decide +kernel) (by decide +kernel)) hr
  | 12, _, [a0, a1], _, t + 2, hz, _ => cases hz
  | 13, _, [a0], _, 0, hz, hx =>
    cases hz
    cases hx
    obtain ⟨q, e⟩ := no_s hr
    rw [e]
    exact rf_fit (hn (by decide)) q
  | 13, _, [a0], _, t + 1, hz, _ => cases hz
  | 14, _, [a0, a1], _, 0, hz, hx =>
    cases hz
    cases hx
    exact absurd (ref_0 (z := "e") m _ (by decide +kernel) (by decide +kernel) (by decide +kernel)) hr
  | 14, _, [a0, a1], _, 1, hz, hx =>
    cases hz
    cases hx
    obtain ⟨q, e⟩ := no_s hr
    rw [e]
    exact rf_misleads (hn (by decide)) q
  | 14, _, [a0, a1], _, t + 2, hz, _ => cases hz
  | 15, _, [a0, a1], _, 0, hz, hx =>
    cases hz
    cases hx
    obtain ⟨q, e⟩ := no_k hr
    rw [e]
    exact rf_misleading (hn (by decide)) q
  | 15, _, [a0, a1], _, 1, hz, hx =>
    cases hz
    cases hx
    exact absurd (ref_0 (z := "e") m _ (by decide +kernel) (by decide +kernel) (by decide +kernel)) hr
  | 15, _, [a0, a1], _, t + 2, hz, _ => cases hz
  | 16, _, [a0], _, 0, hz, hx =>
    cases hz
    cases hx
    obtain ⟨q, e⟩ := no_k hr
    rw [e]
    exact rf_worst (hn (by decide)) q
  | 16, _, [a0], _, t + 1, hz, _ => cases hz
  | 17, _, [a0, a1], _, 0, hz, hx =>
    cases hz
    cases hx
    obtain ⟨q, e⟩ := no_k hr
    rw [e]
    exact rf_byOne (hn (by decide)) q
  | 17, _, [a0, a1], _, 1, hz, hx =>
    cases hz
    cases hx
    exact absurd (ref_0 (z := "e") m _ (by decide +kernel) (by decide +kernel) (by decide +kernel)) hr
  | 17, _, [a0, a1], _, t + 2, hz, _ => cases hz
  | 18, _, [a0, a1, a2], _, 0, hz, hx =>
    cases hz
    cases hx
    exact absurd (ref_0 (z := "e") m _ (by decide +kernel) (by decide +kernel) (by decide +kernel)) hr
  | 18, _, [a0, a1, a2], _, 1, hz, hx =>
    cases hz
    cases hx
    exact absurd (ref_0 (z := "p") m _ (by decide +kernel) (by decide +kernel) (by decide +kernel)) hr
  | 18, _, [a0, a1, a2], _, 2, hz, hx =>
    cases hz
    cases hx
    exact absurd (ref_0 (z := "q") m _ (by decide +kernel) (by decide +kernel) (by decide +kernel)) hr
  | 18, _, [a0, a1, a2], _, t + 3, hz, _ => cases hz
  | 19, _, [a0], _, 0, hz, hx =>
    cases hz
    cases hx
    obtain ⟨q, e⟩ := no_i hr
    rw [e]
    exact rf_tells (hn (by decide)) q
  | 19, _, [a0], _, t + 1, hz, _ => cases hz
  | 20, _, [], _, t + 0, hz, _ => cases hz
  | 21, _, [a0], _, 0, hz, hx =>
    cases hz
    cases hx
    obtain ⟨q, e⟩ := no_s hr
    rw [e]
    exact rf_parted (hn (by decide)) q
  | 21, _, [a0], _, t + 1, hz, _ => cases hz
  | 22, _, [], _, t + 0, hz, _ => cases hz
  | k + 23, q, _, _, _, _, _ => exact absurd (show k + 23 < 23 from q) (by omega)
theorem call_begin {c : Nat} (hc : c < most) (h0 : c ≠ 0) (as : List Nat) : ∀ a b, theCall c as ≠ .begin_ a b := by
  intro a b z
  match c, hc, h0 with
  | 1, _, _ => cases z
  | 2, _, _ => cases z
  | 3, _, _ => cases z
  | 4, _, _ => cases z
  | 5, _, _ => cases z
  | 6, _, _ => cases z
  | 7, _, _ => cases z
  | 8, _, _ => cases z
  | 9, _, _ => cases z
  | 10, _, _ => cases z
  | 11, _, _ => cases z
  | 12, _, _ => cases z
  | 13, _, _ => cases z
  | 14, _, _ => cases z
  | 15, _, _ => cases z
  | 16, _, _ => cases z
  | 17, _, _ => cases z
  | 18, _, _ => cases z
  | 19, _, _ => cases z
  | 20, _, _ => cases z
  | 21, _, _ => cases z
  | 22, _, _ => cases z
  | k + 23, q, _ => exact absurd (show k + 23 < 23 from q) (by omega)
theorem due_none {m : M} {c : Nat} {as : List Nat} (hc : c < most) (h0 : c ≠ 0) (hn : m.n = 0) : ansM m (theCall c as) = [-61] ∧ nextM m (theCall c as) = m :=
  due_unbegun hn (call_begin hc h0 as)
section
variable {P : Program} {w : World} {K : PySem.W.Frag} {mg : Str → Option Value} {base : Heap} {C : Addr} {m : M} {σ : L2.St} {H : Hp} {ta tb : TE}
def spRef (C : Addr) : Sp := fun vs H Q _ => ∃ st g m z, ∃ x : Nat, vs = [.ref st, .str z, vN x] ∧ StAt C H st g m ∧ m.Ok ∧ RetV (vN (refN m z x)) H Q
theorem sv_ref {st g : Addr} {m : M} {z : Str} {x : Nat} (s : StAt C H st g m) (o : m.Ok) : SpV (spRef C) [.ref st, .str z, vN x] H (vN (refN m z x)) :=
  fun H1 e Q q E => ⟨st, g, m, z, x, rfl, s.mono e, o, q⟩
theorem ev_eqS {x y : Str} (ha : Ev ta σ H (.str x)) (hb : Ev tb σ H (.str y)) : Ev (tOp rEq ta tb) σ H (.bl (x == y)) := by
  refine ev_is (ev_op ha hb (rv_eq rfl)) (congrArg V.bl ?_)
  rw [Bool.eq_iff_iff, decide_eq_true_eq, beq_iff_eq]
  exact ⟨fun h => V.str.inj h, fun h => by rw [h]⟩
/-! ### refusal_of -/
theorem sc_ref : FnScope ["state", "letter", "number"] ["state", "letter", "number"] (defScope s_ref) := ⟨rfl, rfl, rfl, by decide +kernel, rfl, by decide +kernel, by decide +kernel⟩
theorem ok_ref {f fo : Addr} {fd fdo : FuncData} (F : Fun K "refusal_of" "refusal_of" s_ref f fd) (T : Txt K mg C) (Fo : Fun K "holds_others" "holds_others" s_holds fo fdo) (bo : Binds K fdo ["members", "cases"] [])
    (go : mg "holds_others" = some (.ref fo)) (Go : FnOk P w K mg base CX0 1 fo fdo ["members", "cases"] spHolds) : FnOk P w K mg base CX0 2 f fd ["state", "letter", "number"] (spRef C) := by
  refine F.ok sc_ref (fun vs H Q E h => ?_) (fun cdv A outer s H vs Q E hr h => ⟨_,
    pss_cons (ps_if (PW.pt (pw_and (pt_cmpR op_eq (pv 1) pe_str (nomark _)) (pw_and1 (pt_val (pe_call Go hr rfl go Fo.kp bo .nil pass0 (pa_cons (pv 2) (pa_cons (pe_fld (pv 0) rfl) pa_nil))))))) (pss_one (ps_ret (pe_cst T.c22))) pss_nil)
    (pss_cons (ps_if (PW.pt (pw_and (pt_cmpR op_eq (pv 1) pe_str (nomark _)) (pw_and1 (pt_cmpR op_ge (pv 2) (pe_callB call_len_seq (by rfl) T.len PySem.boot_len (pa_cons (pe_fld (pv 0) rfl) pa_nil)) (nomark _))))) (pss_one (ps_ret (pe_cst T.c2))) pss_nil)
    (pss_cons (ps_if (PW.pt (pw_and (pt_cmpR op_eq (pv 1) pe_str (nomark _)) (pw_and1 (pt_cmpR op_gt (pv 2) (pe_fld (pv 0) rfl) (nomark _))))) (pss_one (ps_ret (pe_cst T.c22))) pss_nil)
    (pss_one (ps_ret pe_int)))), ?_⟩)
  · obtain ⟨st, g, m, z, x, rfl, _⟩ := h
    rfl
  obtain ⟨st, g, m, z, x, rfl, s, o, k⟩ := h
  refine q_when (b := z == "s" && !(x / 2 ^ m.n == 0)) (et_and (et_test (ev_eqS (ev_var rfl) ev_c)) fun _ => et_B (ev_call (ea_cons (ev_var rfl) (ea_cons (ev_cases T s (ev_var rfl)) ea_nil)) sv_holds)) (fun c H1 e1 => ?_) fun c H1 e1 => ?_
  · refine s_ret (v := vN 22) ev_c fun H2 e2 => ?_
    have q := k H2 (e1.trans e2)
    unfold refN at q
    rw [if_pos c] at q
    exact q
  have s1 := s.mono e1
  refine q_when (b := z == "i" && decide (m.gs.length ≤ x)) (et_and (et_test (ev_eqS (ev_var rfl) ev_c)) fun _ => et_test (ev_geN (ev_var rfl) (ev_lenS (ev_guesses T s1 (ev_var rfl)) (sq_of s1.gl)))) (fun c2 H2 e2 => ?_) fun c2 H2 e2 => ?_
  · refine s_ret (v := vN 2) ev_c fun H3 e3 => ?_
    have q := k H3 ((e1.trans e2).trans e3)
    unfold refN at q
    rw [if_neg (by rw [c]; decide), if_pos c2] at q
    exact q
  have s2 := s1.mono e2
  refine q_when (b := z == "k" && decide (m.n < x)) (et_and (et_test (ev_eqS (ev_var rfl) ev_c)) fun _ => et_test (ev_gtN (ev_var rfl) (ev_cases T s2 (ev_var rfl)))) (fun c3 H3 e3 => ?_) fun c3 H3 e3 => ?_
  · refine s_ret (v := vN 22) ev_c fun H4 e4 => ?_
    have q := k H4 (((e1.trans e2).trans e3).trans e4)
    unfold refN at q
    rw [if_neg (by rw [c]; decide), if_neg (by rw [c2]; decide), if_pos c3] at q
    exact q
  · refine s_ret (v := vN 0) ev_c fun H4 e4 => ?_
    have q := k H4 (((e1.trans e2).trans e3).trans e4)
    unfold refN at q
    rw [if_neg (by rw [c]; decide), if_neg (by rw [c2]; decide), if_neg (by rw [c3]; decide)] at q
    exact q
/-! ### the table -/
structure Tab (K : PySem.W.Frag) (mg : Str → Option Value) (tc : Addr) (rw f l : Nat → Addr) : Prop where
  g : mg "CALLS" = some (.ref tc)
  all : ∀ H, SqT K H tc ((List.range most).map fun c => V.ref (rw c))
  row : ∀ c, c < most → ∀ H, SqT K H (rw c) [.ref (f c), .ref (l c)]
  let_ : ∀ c, c < most → ∀ H, SqT K H (l c) ((letters c).map V.str)
variable {tc : Addr} {rw f l : Nat → Addr}
theorem Tab.cst (t : Tab K mg tc rw f l) : Cst mg "CALLS" (.ref tc) := ⟨_, t.g, rfl⟩
theorem ev_row (t : Tab K mg tc rw f l) {c : Nat} (hc : c < most) (h : Ev tb σ H (vN c)) : Ev (tOp (rIxT K) (tC (.ref tc)) tb) σ H (.ref (rw c)) :=
  ev_op ev_c h (rv_ixT (t.all H) (atI_nat (by rw [List.getElem?_map, List.getElem?_range hc]; rfl)))
theorem ev_letters (t : Tab K mg tc rw f l) {c : Nat} (hc : c < most) (h : Ev ta σ H (.ref (rw c))) : Ev (tOp (rIxT K) ta (tC (.int 1))) σ H (.ref (l c)) :=
  ev_op h (ev_c (v := vN 1)) (rv_ixT (t.row c hc H) (atI_nat (j := 1) rfl))
theorem ev_fn (t : Tab K mg tc rw f l) {c : Nat} (hc : c < most) (h : Ev ta σ H (.ref (rw c))) : Ev (tOp (rIxT K) ta (tC (.int 0))) σ H (.ref (f c)) :=
  ev_op h (ev_c (v := vN 0)) (rv_ixT (t.row c hc H) (atI_nat (j := 0) rfl))
def spAnswer (K : PySem.W.Frag) (C : Addr) : Sp := fun vs H Q _ => ∃ st g m a as, ∃ c : Nat, vs = [.ref st, vN c, .ref a] ∧ c < most ∧ as.length = (letters c).length ∧ SqL K H a (as.map vN) ∧ StAt C H st g m ∧ m.Ok ∧ Due C st g m (theCall c as) H Q
end
end Pc


set_option Elab.async false
set_option linter.all false
set_option maxRecDepth 100000
set_option maxHeartbeats 3000000
namespace Pc
open PySem PySem.Spec PyProof.Rows L2 Evl Pm
section
variable {P : Program} {w : World} {K : PySem.W.Frag} {mg : Str → Option Value} {base : Heap} {C : Addr} {m : M} {σ : L2.St} {H : Hp} {ta tb tf : TE} {D : Ends}
variable {tc : Addr} {rw f l : Nat → Addr}
theorem s_retE {S : Addr → Sp → Prop} {t : TA} {fv : Addr} {sp : Sp} {vs : List V} (hf : Ev tf σ H (.ref fv)) (hS : S fv sp) (ha : EvA t σ H vs) (k : ∀ H2, Ex H H2 → sp vs H2 D.rt E0) : tRet (tCallE S tf t) D σ H :=
  hf H (Ex.refl H) _ fun H1 e1 => ⟨fv, sp, rfl, hS, ha H1 e1 _ fun H2 e2 => k H2 (e1.trans e2)⟩
/-- what answers the calls, by its address -/
def Ans (C : Addr) (f : Nat → Addr) : Addr → Sp → Prop := fun a sp => ∃ c, c < most ∧ a = f c ∧ sp = spOf C c
/-- all of them keep their promises -/
def AnsOk (P : Program) (w : World) (K : PySem.W.Frag) (mg : Str → Option Value) (base : Heap) (C : Addr) (f : Nat → Addr) (k : Nat) : Prop :=
  ∀ c, c < most → ∃ j fd ps, j ≤ k ∧ FnOk P w K mg base CX0 j (f c) fd ps (spOf C c) ∧ PySem.W.keepIn K (.ref (f c)) = true ∧ Binds K fd ps []
theorem zip_ix {as : List Nat} {i : Nat} {y : V} (h : (as.map vN)[i]? = some y) : ∃ x, as[i]? = some x ∧ y = vN x := by
  rw [List.getElem?_map] at h
  cases e : as[i]? with
  | none =>
    rw [e] at h
    cases h
  | some x =>
    rw [e] at h
    exact ⟨x, rfl, (Option.some.inj h).symm⟩
theorem str_ix {zs : List Str} {i : Nat} {y : V} (h : (zs.map V.str)[i]? = some y) : ∃ x, zs[i]? = some x ∧ y = V.str x := by
  rw [List.getElem?_map] at h
  cases e : zs[i]? with
  | none =>
    rw [e] at h
    cases h
  | some x =>
    rw [e] at h
    exact ⟨x, rfl, (Option.some.inj h).symm⟩
theorem sc_answer : FnScope ["state", "call", "given", "letter", "number", "refusal"] ["state", "call", "given"] (defScope s_answer) := ⟨rfl, rfl, rfl, by decide +kernel, rfl, by decide +kernel, by decide +kernel⟩
theorem ok_answer {fa fr : Addr} {fd fdr : FuncData} (F : Fun K "answer" "answer" s_answer fa fd) (T : Txt K mg C) (t : Tab K mg tc rw f l) (A4 : AnsOk P w K mg base C f 4)
    (Fr : Fun K "refusal_of" "refusal_of" s_ref fr fdr) (br : Binds K fdr ["state", "letter", "number"] []) (gr : mg "refusal_of" = some (.ref fr)) (Gr : FnOk P w K mg base CX0 2 fr fdr ["state", "letter", "number"] (spRef C)) :
    FnOk P w K mg base CX0 5 fa fd ["state", "call", "given"] (spAnswer K C) := by
  refine F.ok sc_answer (fun vs H Q E h => ?_) (fun cdv A outer s H vs Q E hr h => ⟨_,
    pss_cons (ps_if (PW.pt (pw_and (pt_cmpR op_ne (pv 1) (pe_cst T.cB) (nomark _)) (pw_and1 (pt_cmpR op_eq (pe_fld (pv 0) rfl) pe_int (nomark _))))) (pss_one (ps_ret (pe_lst (pa_cons (pe_un un_neg (pe_cst T.c61)) pa_nil)))) pss_nil)
    (pss_cons (ps_for PassesOwn.never rfl (pi_zipM (by rfl) T.zip (pa_cons (pe_ix ix_tup (pe_ix ix_tup (pe_cst t.cst) (pv 1) (fun _ _ => rfl)) pe_int (fun _ _ => rfl)) (pa_cons (pv 2) pa_nil)))
      (pg_tup rfl (pgs_cons (pg_name (i := 3) sc_answer.nd rfl (.inl rfl)) (pgs_cons (pg_name (i := 4) sc_answer.nd rfl (.inl rfl)) pgs_nil)))
      (pss_cons (ps_set (i := 5) sc_answer.nd rfl (Or.inl rfl) (pe_call Gr (hr.mono (by decide)) rfl gr Fr.kp br .nil pass0 (pa_cons (pv 0) (pa_cons (pv 3) (pa_cons (pv 4) pa_nil)))))
      (pss_one (ps_if (pt_cmpR op_ne (pv 5) pe_int (nomark _)) (pss_one (ps_ret (pe_lst (pa_cons (pe_un un_neg (pv 5)) pa_nil)))) pss_nil))))
    (pss_cons (ps_if (pt_cmpR op_eq (pe_callB call_len_seq (by rfl) T.len PySem.boot_len (pa_cons (pv 2) pa_nil)) pe_int (nomark _))
      (pss_one (ps_ret (pe_callE (S := Ans C f) (fun a sp ⟨c, hc, ea, es⟩ => by subst ea es; exact A4 c hc) hr (pe_ix ix_tup (pe_ix ix_tup (pe_cst t.cst) (pv 1) (fun _ _ => rfl)) pe_int (fun _ _ => rfl)) (pa_cons (pv 0) pa_nil)))) pss_nil)
    (pss_cons (ps_if (pt_cmpR op_eq (pe_callB call_len_seq (by rfl) T.len PySem.boot_len (pa_cons (pv 2) pa_nil)) pe_int (nomark _))
      (pss_one (ps_ret (pe_callE (S := Ans C f) (fun a sp ⟨c, hc, ea, es⟩ => by subst ea es; exact A4 c hc) hr (pe_ix ix_tup (pe_ix ix_tup (pe_cst t.cst) (pv 1) (fun _ _ => rfl)) pe_int (fun _ _ => rfl)) (pa_cons (pv 0) (pa_cons (pe_ix ix_list (pv 2) pe_int (fun _ _ => rfl)) pa_nil))))) pss_nil)
    (pss_cons (ps_if (pt_cmpR op_eq (pe_callB call_len_seq (by rfl) T.len PySem.boot_len (pa_cons (pv 2) pa_nil)) pe_int (nomark _))
      (pss_one (ps_ret (pe_callE (S := Ans C f) (fun a sp ⟨c, hc, ea, es⟩ => by subst ea es; exact A4 c hc) hr (pe_ix ix_tup (pe_ix ix_tup (pe_cst t.cst) (pv 1) (fun _ _ => rfl)) pe_int (fun _ _ => rfl)) (pa_cons (pv 0) (pa_cons (pe_ix ix_list (pv 2) pe_int (fun _ _ => rfl)) (pa_cons (pe_ix ix_list (pv 2) pe_int (fun _ _ => rfl)) pa_nil)))))) pss_nil)
    (pss_one (ps_ret (pe_callE (S := Ans C f) (fun a sp ⟨c, hc, ea, es⟩ => by subst ea es; exact A4 c hc) hr (pe_ix ix_tup (pe_ix ix_tup (pe_cst t.cst) (pv 1) (fun _ _ => rfl)) pe_int (fun _ _ => rfl))
      (pa_cons (pv 0) (pa_cons (pe_ix ix_list (pv 2) pe_int (fun _ _ => rfl)) (pa_cons (pe_ix ix_list (pv 2) pe_int (fun _ _ => rfl)) (pa_cons (pe_ix ix_list (pv 2) pe_int (fun _ _ => rfl)) pa_nil))))))))))), ?_⟩)
  · obtain ⟨st, g, m, a, as, c, rfl, _⟩ := h
    rfl
  obtain ⟨st, g, m, a, as, c, rfl, hc, hl, ha, s, o, d⟩ := h
  refine q_when (b := !(c == 0) && m.n == 0) (et_and (et_test (ev_neN (y := 0) (ev_var rfl) ev_c)) fun _ => et_test (ev_eqN (y := 0) (ev_cases T s (ev_var rfl)) ev_c)) (fun b H1 e1 => ?_) fun b H1 e1 => ?_
  · have b' : c ≠ 0 ∧ m.n = 0 := by simpa using b
    obtain ⟨d1, d2⟩ := due_none (m := m) (as := as) hc b'.1 b'.2
    exact s_retL (el_1 (ev_neg ev_c)) fun p H2 hp e2 h2 => d.go s d2 d1 (fresh_back e1 hp) (e1.trans e2) h2
  have hn : c ≠ 0 → m.n ≠ 0 := by
    intro h0 h1
    rw [h1] at b
    simp [h0] at b
  refine for_zipM (K := K) (a := l c) (b := a) (xs := (letters c).map V.str) (ys := as.map vN) (D := { nx := _, rt := Q }) (by rw [List.length_map, List.length_map, hl])
    (fun i σ' H' => ∃ u v r, σ' = [some (.ref st), some (vN c), some (.ref a), u, v, r] ∧ Ex H H' ∧ ∀ (j : Nat) z x, j < i → (letters c)[j]? = some z → as[j]? = some x → refN m z x = 0)
    (ea_cons (ev_letters t hc (ev_row t hc (ev_var rfl))) (ea_cons (ev_var rfl) ea_nil)) (fun H2 e2 => ⟨none, none, none, rfl, e1.trans e2, fun j z x hj => by omega⟩)
    (fun i σ' H' ⟨_, _, _, _, e, _⟩ => ⟨t.let_ c hc H', ex_l e ha⟩) ?_ ?_
  · rintro i z' y' Tp σ' H' hz' hy' ⟨u, v, r, rfl, e, lo⟩ hT
    obtain ⟨z, hz, rfl⟩ := str_ix hz'
    obtain ⟨x, hx, rfl⟩ := zip_ix hy'
    refine ⟨Tp, _, rfl, SqT.of upd_same, rfl, _, _, rfl, _, _, rfl, rfl, ?_⟩
    have e2 : Ex H (upd H' Tp (.tup [.str z, vN x])) := e.trans (Ex.new hT)
    refine q_asg (ev_call (ea_cons (ev_var rfl) (ea_cons (ev_var rfl) (ea_cons (ev_var rfl) ea_nil))) (sv_ref (z := z) (x := x) (s.mono e2) o)) fun H3 e3 => ?_
    refine s_when (b := !(refN m z x == 0)) (et_test (ev_neN (y := 0) (ev_var rfl) ev_c)) (fun b H4 e4 => ?_) fun b H4 e4 => ?_
    · have b' : refN m z x ≠ 0 := by simpa using b
      obtain ⟨d1, d2⟩ := due_ref hc hn hl hz hx lo b'
      have e24 := (e2.trans e3).trans e4
      exact s_retL (el_1 (ev_neg (ev_var rfl))) fun p H5 hp e5 h5 => d.go s d2 d1 (fresh_back e24 hp) (e24.trans e5) h5
    · have b' : refN m z x = 0 := by simpa using b
      refine ⟨_, _, _, rfl, (e2.trans e3).trans e4, fun j z1 x1 hj h1 h2 => ?_⟩
      rcases Nat.lt_or_ge j i with q | q
      · exact lo j z1 x1 q h1 h2
      · have ej : j = i := by omega
        subst ej
        rw [hz] at h1
        rw [hx] at h2
        cases h1
        cases h2
        exact b'
  · rintro σ' H' ⟨u, v, r, rfl, e, lo⟩
    rw [List.length_map] at lo
    have ask : askOf c m as := ask_of hc hn hl fun j z x h1 h2 => lo j z x (List.getElem?_eq_some_iff.mp h1).1 h1 h2
    have ha' : SqL K H' a (as.map vN) := ex_l e ha
    have fin : ∀ H2, Ex H' H2 → spOf C c (.ref st :: as.map vN) H2 Q E0 := fun H2 e2 => ⟨st, g, m, as, rfl, hl, s.mono (e.trans e2), o, ask, d.mono (e.trans e2)⟩
    refine q_when (b := as.length == 0) (et_test (ev_eqN (y := 0) (ev_lenS (ev_var rfl) ha') ev_c)) (fun b H2 e2 => ?_) fun b H2 e2 => ?_
    · have hz : as = [] := nil_of b
      subst hz
      exact s_retE (S := Ans C f) (ev_fn t hc (ev_row t hc (ev_var rfl))) ⟨c, hc, rfl, rfl⟩ (ea_cons (ev_var rfl) ea_nil) fun H3 e3 => fin H3 (e2.trans e3)
    refine q_when (b := as.length == 1) (et_test (ev_eqN (y := 1) (ev_lenS (ev_var rfl) (ex_l e2 ha')) ev_c)) (fun b2 H3 e3 => ?_) fun b2 H3 e3 => ?_
    · have h1 : as.length = 1 := by simpa using b2
      match as, h1 with
      | [x], _ =>
        exact s_retE (S := Ans C f) (ev_fn t hc (ev_row t hc (ev_var rfl))) ⟨c, hc, rfl, rfl⟩ (ea_cons (ev_var rfl) (ea_cons (ev_ix (l := [x]) (i := 0) (ev_var rfl) (ex_l (e2.trans e3) ha') (ev_c (v := vN 0)) (by show 0 < 1; decide)) ea_nil)) fun H4 e4 => fin H4 ((e2.trans e3).trans e4)
    refine q_when (b := as.length == 2) (et_test (ev_eqN (y := 2) (ev_lenS (ev_var rfl) (ex_l (e2.trans e3) ha')) ev_c)) (fun b3 H4 e4 => ?_) fun b3 H4 e4 => ?_
    · have h2 : as.length = 2 := by simpa using b3
      have e24 := (e2.trans e3).trans e4
      match as, h2 with
      | [x, y], _ =>
        exact s_retE (S := Ans C f) (ev_fn t hc (ev_row t hc (ev_var rfl))) ⟨c, hc, rfl, rfl⟩ (ea_cons (ev_var rfl) (ea_cons (ev_ix (l := [x, y]) (i := 0) (ev_var rfl) (ex_l e24 ha') (ev_c (v := vN 0)) (by show 0 < 2; decide)) (ea_cons (ev_ix (l := [x, y]) (i := 1) (ev_var rfl) (ex_l e24 ha') (ev_c (v := vN 1)) (by show 1 < 2; decide)) ea_nil))) fun H5 e5 => fin H5 (e24.trans e5)
    · have h3 : as.length = 3 := by
        have q0 : as.length ≠ 0 := by simpa using b
        have q1 : as.length ≠ 1 := by simpa using b2
        have q2 : as.length ≠ 2 := by simpa using b3
        have : (letters c).length ≤ 3 := by
          match c, hc with
          | 0, _ | 1, _ | 2, _ | 3, _ | 4, _ | 5, _ | 6, _ | 7, _ | 8, _ | 9, _ | 10, _ | 11, _ | 12, _ | 13, _ | 14, _ | 15, _ | 16, _ | 17, _ | 18, _ | 19, _ | 20, _ | 21, _ | 22, _ => decide
          | k + 23, q => exact absurd (show k + 23 < 23 from q) (by omega)
        omega
      have e24 := (e2.trans e3).trans e4
      match as, h3 with
      | [x, y, z], _ =>
        exact s_retE (S := Ans C f) (ev_fn t hc (ev_row t hc (ev_var rfl))) ⟨c, hc, rfl, rfl⟩ (ea_cons (ev_var rfl) (ea_cons (ev_ix (l := [x, y, z]) (i := 0) (ev_var rfl) (ex_l e24 ha') (ev_c (v := vN 0)) (by show 0 < 3; decide)) (ea_cons (ev_ix (l := [x, y, z]) (i := 1) (ev_var rfl) (ex_l e24 ha') (ev_c (v := vN 1)) (by show 1 < 3; decide))
          (ea_cons (ev_ix (l := [x, y, z]) (i := 2) (ev_var rfl) (ex_l e24 ha') (ev_c (v := vN 2)) (by show 2 < 3; decide)) ea_nil)))) fun H5 e5 => fin H5 (e24.trans e5)
end
end Pc


set_option Elab.async false
set_option linter.all false
set_option maxRecDepth 100000
set_option maxHeartbeats 3000000
namespace Pc
open PySem PySem.Spec PyProof.Rows L2 Evl Pm
abbrev s_init : Stmt := inClass (top 13) 0
abbrev s_answers : Stmt := top 55
theorem letters_arity {c : Nat} (hc : c < most) : (letters c).length = arity c := by
  match c, hc with
  | 0, _ | 1, _ | 2, _ | 3, _ | 4, _ | 5, _ | 6, _ | 7, _ | 8, _ | 9, _ | 10, _ | 11, _ | 12, _ | 13, _ | 14, _ | 15, _ | 16, _ | 17, _ | 18, _ | 19, _ | 20, _ | 21, _ | 22, _ => rfl
  | k + 23, q => exact absurd (show k + 23 < 23 from q) (by omega)
section
variable {P : Program} {w : World} {K : PySem.W.Frag} {mg : Str → Option Value} {base : Heap} {C : Addr} {m : M} {σ : L2.St} {H : Hp} {ta tb te : TE} {D : Ends} {tz : TS}
variable {tc : Addr} {rw f l : Nat → Addr}
/-! ### State.__init__ -/
def spInit (C : Addr) : Sp := fun vs H Q _ => ∃ p dx, vs = [.ref p] ∧ H p = some (.ins C dx []) ∧
  ∀ H' g, StAt C H' p g m0 → H g = none → (∀ b o, H b = some o → b ≠ p → H' b = some o) → Q .non H'
theorem sc_init : FnScope ["self"] ["self"] (defScope s_init) := ⟨rfl, rfl, rfl, by decide +kernel, rfl, by decide +kernel, by decide +kernel⟩
theorem sF_new (g : Addr) : putF "guesses" (.ref g) (putF "truth" (vN 0) (putF "cases" (vN 0) [])) = sF m0 g := by
  show putF "guesses" (.ref g) (putF "truth" (vN 0) [("cases", vN 0)]) = _
  rw [put_past (by decide +kernel)]
  show putF "guesses" (.ref g) [("cases", vN 0), ("truth", vN 0)] = _
  rw [put_past (by decide +kernel), put_past (by decide +kernel)]
  rfl
theorem ok_init {f : Addr} {fd : FuncData} (F : Fun K "__init__" "State.__init__" s_init f fd) (T : Txt K mg C) : FnOk P w K mg base CX0 1 f fd ["self"] (spInit C) := by
  refine F.ok sc_init (fun vs H Q E h => ?_) (fun cdv A outer s H vs Q E hr h => ⟨_, pss_cons (ps_fld (pv 0) pe_int rfl) (pss_cons (ps_fld (pv 0) pe_int rfl) (pss_one (ps_fld (pv 0) (pe_lst pa_nil) rfl))), ?_⟩)
  · obtain ⟨p, dx, rfl, _⟩ := h
    rfl
  obtain ⟨p, dx, rfl, hp, k⟩ := h
  refine ⟨_, rfl, p, C, dx, [], rfl, hp, T.cl, T.nC, by show 0 < 1000; decide, ?_⟩
  refine ⟨_, rfl, p, C, dx, _, rfl, upd_same, T.cl, T.nT, by show 1 < 1000; decide, ?_⟩
  refine ⟨by show 0 ≤ sizeLine; decide, fun g hg => ?_⟩
  have gp : g ≠ p := fun e => by rw [e, upd_same] at hg; cases hg
  refine ⟨_, rfl, p, C, dx, _, rfl, (upd_ne gp.symm).trans upd_same, T.cl, T.nG, by show 2 < 1000; decide, ?_⟩
  refine k _ g ⟨⟨dx, upd_same.trans (congrArg (fun q => some (HO.ins C dx q)) (sF_new g))⟩, (upd_ne gp).trans upd_same⟩ ?_ fun b o h n => ?_
  · rw [upd_ne gp, upd_ne gp] at hg
    exact hg
  · have bg : b ≠ g := fun e => by
      rw [e] at h
      rw [upd_ne gp, upd_ne gp, h] at hg
      cases hg
    rw [upd_ne n, upd_ne bg, upd_ne n, upd_ne n]
    exact h
end
end Pc


set_option Elab.async false
set_option linter.all false
set_option maxRecDepth 100000
set_option maxHeartbeats 3000000
namespace Pc
open PySem PySem.Spec PyProof.Rows L2 Evl Pm
section
variable {P : Program} {w : World} {K : PySem.W.Frag} {mg : Str → Option Value} {base : Heap} {C : Addr} {m : M} {σ : L2.St} {H : Hp} {ta tb te t1 t2 t3 : TE} {D : Ends} {tz : TS}
variable {tc : Addr} {rw f l : Nat → Addr}
theorem ev_lenT {p : Addr} {xs : List V} (ha : Ev ta σ H (.ref p)) (h : ∀ H, SqT K H p xs) : Ev (tCB (rLenS K) (tCons ta tNil)) σ H (vN xs.length) := fun H1 e Q q =>
  ha H1 e _ fun H2 e2 => ⟨p, xs, rfl, Or.inr (h H2), q H2 e2⟩
/-- x = f(a, b, [..]), the list made on the way -/
theorem q_call3 {sp : Sp} {i : Nat} {x y : V} {xs : List V} (h1 : Ev t1 σ H x) (h2 : Ev t2 σ H y) (h3 : EvL t3 σ H xs)
    (k : ∀ p H1, H p = none → Ex H H1 → H1 p = some (.lst xs) → sp [x, y, .ref p] H1 (fun v H2 => tz D (σ.set i (some v)) H2) E0) :
    tSeq (tAsg (tCall sp [] E0 (tCons t1 (tCons t2 (tCons t3 tNil)))) (gName i)) tz D σ H :=
  h1 H (Ex.refl H) _ fun H1 e1 => h2 H1 e1 _ fun H2 e2 => h3 H2 (e1.trans e2) _ fun p H3 hp e3 hl => k p H3 (fresh_back (e1.trans e2) hp) ((e1.trans e2).trans e3) hl
/-- xs.append(e), xs.extend(ys), up to the list's own bound -/
theorem q_appB {a : Addr} {xs : List V} {v : V} (hl : H a = some (.lst xs)) (ha : Ev ta σ H (.ref a)) (h : Ev te σ H v) (hz : xs.length < sizeLine) (k : ∀ H1, Ex H H1 → tz D σ (upd H1 a (.lst (xs ++ [v])))) :
    tSeq (tDrop (tBM K "list" rAppend ta (tCons te tNil))) tz D σ H := ha H (Ex.refl H) _ fun H1 e1 =>
  ⟨Or.inl ⟨rfl, xs, sq_of (e1 _ _ hl)⟩, h H1 e1 _ fun H2 e2 => ⟨a, xs, v, rfl, rfl, (e1.trans e2) _ _ hl, hz, k H2 (e1.trans e2)⟩⟩
theorem q_ext {a b : Addr} {xs zs : List V} (hl : H a = some (.lst xs)) (hb : H b = some (.lst zs)) (ha : Ev ta σ H (.ref a)) (h : Ev te σ H (.ref b)) (hz : xs.length + zs.length ≤ sizeLine) (k : ∀ H1, Ex H H1 → tz D σ (upd H1 a (.lst (xs ++ zs)))) :
    tSeq (tDrop (tBM K "list" rExtend ta (tCons te tNil))) tz D σ H := ha H (Ex.refl H) _ fun H1 e1 =>
  ⟨Or.inl ⟨rfl, xs, sq_of (e1 _ _ hl)⟩, h H1 e1 _ fun H2 e2 => ⟨a, b, xs, zs, rfl, rfl, (e1.trans e2) _ _ hl, (e1.trans e2) _ _ hb, hz, k H2 (e1.trans e2)⟩⟩
theorem cut_as {ns as r : List Nat} {i c : Nat} (h : ns.drop i = c :: (as ++ r)) : cutV (ns.map vN) (some ((i + 1 : Nat) : Int)) (some ((i + 1 + as.length : Nat) : Int)) = as.map vN := by
  have hl : ns.length = i + (1 + as.length + r.length) := by
    have e := congrArg List.length h
    rw [List.length_drop, List.length_cons, List.length_append] at e
    omega
  unfold cutV
  rw [List.length_map, HT.sIx_nat, HT.sIx_nat, Nat.min_eq_left (by omega), Nat.min_eq_left (by omega), ← List.map_drop, ← List.map_take]
  have e : ns.drop (i + 1) = as ++ r := by
    rw [← List.drop_drop, h]
    rfl
  rw [e, show i + 1 + as.length - (i + 1) = as.length by omega, List.take_left]
def spAnswers (K : PySem.W.Frag) : Sp := fun vs H Q _ => ∃ (a : Addr) (ns : List Nat) (f : Nat) (tot : List Int), vs = [.ref a] ∧ SqL K H a (ns.map vN) ∧ due m0 f (ns.map up) = some tot ∧ tot.length ≤ 10000000 ∧
  ∀ (H' : Hp) (p : Addr), H' p = some (.lst (tot.map V.int)) → Q (.ref p) H'
/-- what was handed in stands, and is none of the object's cells -/
def Stays (H : Hp) (a : Addr) (H' : Hp) (st g gb : Addr) : Prop := ∀ o, H a = some o → H' a = some o ∧ a ≠ st ∧ a ≠ g ∧ a ≠ gb
theorem Stays.sq {H' : Hp} {a st g gb : Addr} {xs : List V} (h : Stays H a H' st g gb) (q : SqL K H a xs) : SqL K H' a xs := by
  rcases q with (q | ⟨o, q⟩) | q
  · exact .inl (.inl (h _ q).1)
  · exact .inl (.inr ⟨o, (h _ q).1⟩)
  · exact .inr q
/-- ahead of a turn: i numbers are taken -/
structure Turn (K : PySem.W.Frag) (C : Addr) (H : Hp) (a st gb : Addr) (ns : List Nat) (tot : List Int) (i : Nat) (g : Addr) (m : M) (dn : List Int) (H' : Hp) : Prop where
  le : i ≤ ns.length
  s : StAt C H' st g m
  ok : m.Ok
  out : H' gb = some (.lst (dn.map V.int))
  ne : gb ≠ g
  stays : Stays H a H' st g gb
  due_ : ∃ f rest, due m f ((ns.drop i).map up) = some rest ∧ tot = dn ++ rest
theorem Turn.st {H' : Hp} {a st gb g : Addr} {ns : List Nat} {tot dn : List Int} {i : Nat} (t : Turn K C H a st gb ns tot i g m dn H') : gb ≠ st := fun e => by
  obtain ⟨dx, q⟩ := t.s.ob
  have r := t.out
  rw [e, q] at r
  cases r
theorem Turn.mono {H' H2 : Hp} {a st gb g : Addr} {ns : List Nat} {tot dn : List Int} {i : Nat} (e : Ex H' H2) (t : Turn K C H a st gb ns tot i g m dn H') : Turn K C H a st gb ns tot i g m dn H2 :=
  ⟨t.le, t.s.mono e, t.ok, e _ _ t.out, t.ne, fun o h => ⟨e _ _ (t.stays o h).1, (t.stays o h).2⟩, t.due_⟩
theorem sc_answers : FnScope ["calls", "state", "given_back", "place", "call", "behind", "numbers"] ["calls"] (defScope s_answers) := ⟨rfl, rfl, rfl, by decide +kernel, rfl, by decide +kernel, by decide +kernel⟩
theorem ok_answers {fa fi fs : Addr} {fd fdi fds : FuncData} (F : Fun K "answers" "answers" s_answers fa fd) (T : Txt K mg C) (t : Tab K mg tc rw f l)
    (Mk' : Mk K C fi) (Fi : Fun K "__init__" "State.__init__" s_init fi fdi) (bi : Binds K fdi ["self"] []) (Gi : FnOk P w K mg base CX0 1 fi fdi ["self"] (spInit C))
    (Fs : Fun K "answer" "answer" s_answer fs fds) (bs : Binds K fds ["state", "call", "given"] []) (gs : mg "answer" = some (.ref fs)) (Ga : FnOk P w K mg base CX0 5 fs fds ["state", "call", "given"] (spAnswer K C)) :
    FnOk P w K mg base CX0 6 fa fd ["calls"] (spAnswers K) := by
  refine F.ok sc_answers (fun vs H Q E h => ?_) (fun cdv A outer s H vs Q E hr h => ⟨_,
    pss_cons (ps_set (i := 1) sc_answers.nd rfl (Or.inl rfl) (pe_make0 Mk' Gi (hr.mono (by decide)) rfl T.gC bi .nil pass0))
    (pss_cons (ps_set (i := 2) sc_answers.nd rfl (Or.inl rfl) (pe_lst pa_nil))
    (pss_cons (ps_set (i := 3) sc_answers.nd rfl (Or.inl rfl) pe_int)
    (pss_cons (ps_while PassesOwn.never (pt_cmpR op_lt (pv 3) (pe_callB call_len_seq (by rfl) T.len PySem.boot_len (pa_cons (pv 0) pa_nil)) (nomark _))
      (pss_cons (ps_set (i := 4) sc_answers.nd rfl (Or.inl rfl) (pe_ix ix_list (pv 0) (pv 3) (fun _ _ => rfl)))
      (pss_cons (ps_set (i := 5) sc_answers.nd rfl (Or.inl rfl) (pe_op op_add (pe_op op_add (pv 3) pe_int) (pe_callB call_len_seq (by rfl) T.len PySem.boot_len (pa_cons (pe_ix ix_tup (pe_ix ix_tup (pe_cst t.cst) (pv 4) (fun _ _ => rfl)) pe_int (fun _ _ => rfl)) pa_nil))))
      (pss_cons (ps_set (i := 6) sc_answers.nd rfl (Or.inl rfl) (pe_call Ga hr rfl gs Fs.kp bs .nil pass0 (pa_cons (pv 1) (pa_cons (pv 4) (pa_cons (pe_slice sl_list (pv 0) (po_some (pe_op op_add (pv 3) pe_int)) (po_some (pv 5))) pa_nil)))))
      (pss_cons (ps_expr (pe_bm PySem.F.plainAttrs_list PySem.F.slot_list_append PySem.F.type_list_append mt_append (pv 2) (pa_cons (pe_callB call_len_seq (by rfl) T.len PySem.boot_len (pa_cons (pv 6) pa_nil)) pa_nil)))
      (pss_cons (ps_expr (pe_bm PySem.F.plainAttrs_list PySem.F.slot_list_extend PySem.F.type_list_extend mt_extend (pv 2) (pa_cons (pv 6) pa_nil)))
      (pss_one (ps_set (i := 3) sc_answers.nd rfl (Or.inl rfl) (pv 5)))))))))
    (pss_one (ps_ret (pv 2)))))), ?_⟩)
  · obtain ⟨a, ns, f', tot, rfl, _⟩ := h
    rfl
  obtain ⟨a, ns, f', tot, rfl, sa, du, small, k⟩ := h
  intro x dx nx nd ne
  refine ⟨x, dx, rfl, upd_same, fun H1 g s1 hg kp => ⟨rfl, ?_⟩⟩
  have hgn : H g = none := by
    have g1 : g ≠ x := fun e => by rw [e, upd_same] at hg; cases hg
    have g2 : g ≠ dx := fun e => by rw [e, upd_ne ne, upd_same] at hg; cases hg
    rwa [upd_ne g1, upd_ne g2] at hg
  have e1 : Ex H H1 := fun b o hb => kp b o (by rw [upd_ne (ne_of_none hb nx), upd_ne (ne_of_none hb nd)]; exact hb) (ne_of_none hb nx)
  refine q_asgL (el_lst ea_nil (by decide)) fun gb H2 hgb e2 h2 => ?_
  refine q_asg (v := vN 0) ev_c fun H3 e3 => ?_
  have ngb : gb ≠ g := fun e => by
    have q := s1.gl
    rw [← e, hgb] at q
    cases q
  have t0 : Turn K C H a x gb ns tot 0 g m0 [] H3 := ⟨Nat.zero_le _, s1.mono (e2.trans e3), m0_ok, e3 _ _ h2, ngb,
    fun o ho => ⟨(e1.trans (e2.trans e3)) _ _ ho, ne_of_none ho nx, ne_of_none ho hgn, ne_of_none ho (fresh_back e1 hgb)⟩, f', tot, du, rfl⟩
  refine q_while (fun μ σ' H' => ∃ i u v w' g m dn, σ' = [some (.ref a), some (.ref x), some (.ref gb), some (vN i), u, v, w'] ∧ μ = ns.length - i ∧ Turn K C H a x gb ns tot i g m dn H') ns.length
    ⟨0, none, none, none, g, m0, [], rfl, rfl, t0⟩ ?_
  rintro μ σ' H' ⟨i, u, v, w', g, m, dn, rfl, rfl, tn⟩
  refine ⟨decide (i < ns.length), et_test (ev_ltN (ev_var rfl) (ev_lenS (ev_var rfl) (tn.stays.sq sa))), fun b H4 e4 => ?_, fun b H4 e4 => ?_⟩
  · have hi : i < ns.length := of_decide_eq_true b
    have tn4 := tn.mono e4
    obtain ⟨f1, rest, d1, dt⟩ := tn.due_
    have hd : ns.drop i = ns.getD i 0 :: ns.drop (i + 1) := by
      rw [List.drop_eq_getElem_cons hi, List.getD_eq_getElem?_getD, List.getElem?_eq_getElem hi]
      rfl
    rw [hd] at d1
    obtain ⟨as, r', l', f2, hc, hl0, hr', d2, hrest⟩ := due_cons tn.ok d1
    have hl : as.length = (letters (ns.getD i 0)).length := hl0.trans (letters_arity hc).symm
    clear hl0
    have hdr : ns.drop i = ns.getD i 0 :: (as ++ r') := by rw [hd, hr']
    have hlen : ns.length = i + (1 + as.length + r'.length) := by
      have e := congrArg List.length hdr
      rw [List.length_drop, List.length_cons, List.length_append] at e
      omega
    generalize hcc : ns.getD i 0 = c at *
    refine ⟨fun σ2 H2 => ∃ g2 m2 dn2 u2 v2 w2, σ2 = [some (.ref a), some (.ref x), some (.ref gb), some (vN (i + 1 + as.length)), u2, v2, w2] ∧ Turn K C H a x gb ns tot (i + 1 + as.length) g2 m2 dn2 H2,
      fun σ2 H2 ⟨g2, m2, dn2, u2, v2, w2, es, t2⟩ => ⟨ns.length - (i + 1 + as.length), by omega, i + 1 + as.length, u2, v2, w2, g2, m2, dn2, es, rfl, t2⟩, ?_⟩
    have ix := ev_ix (K := K) (l := ns) (i := i) (ta := tVar 0) (tb := tVar 3) (σ := [some (.ref a), some (.ref x), some (.ref gb), some (vN i), u, v, w']) (ev_var rfl) (tn4.stays.sq sa) (ev_var rfl) hi
    rw [hcc] at ix
    refine q_asg ix fun H5 e5 => ?_
    refine q_asg (v := vN (i + 1 + as.length)) ?_ fun H6 e6 => ?_
    · have e := ev_lenT (K := K) (H := H5) (σ := [some (.ref a), some (.ref x), some (.ref gb), some (vN i), some (vN c), v, w']) (ev_letters t hc (ev_row t hc (ev_var (i := 4) rfl))) (t.let_ c hc)
      rw [List.length_map, ← hl] at e
      exact ev_add (ev_add (ev_var rfl) (ev_c (v := vN 1))) e
    have tn6 := (tn4.mono e5).mono e6
    have cut := cut_as hdr
    have sl := el_sl (K := K) (te := tVar 0) (tl := tPart (tOp (rI0 fun i j => .int (i + j)) (tVar 3) (tC (.int 1)))) (th := tPart (tVar 5)) (σ := [some (.ref a), some (.ref x), some (.ref gb), some (vN i), some (vN c), some (vN (i + 1 + as.length)), w'])
      (ev_var rfl) (eo_some (ev_add (ev_var rfl) (ev_c (v := vN 1)))) (eo_some (ev_var rfl)) (tn6.stays.sq sa)
    rw [cut] at sl
    refine q_call3 (ev_var rfl) (ev_var rfl) sl fun p H7 hp e7 h7 => ?_
    have tn7 := tn6.mono e7
    refine ⟨x, g, m, p, as, c, rfl, hc, hl, sq_of h7, tn7.s, tn7.ok, fun q H8 g' hq kp8 hg' s8 h8 => ?_⟩
    have out8 : H8 gb = some (.lst (dn.map V.int)) := kp8 gb _ tn7.out tn7.st tn7.ne
    have ne8 : gb ≠ g' := by
      rcases hg' with e | e
      · rw [e]
        exact tn7.ne
      · intro z
        have q := tn7.out
        rw [z, e] at q
        cases q
    have nq : q ≠ gb := fun z => by
      have r := tn7.out
      rw [← z, hq] at r
      cases r
    have tl : dn.length + 1 + (ansM m (theCall c as)).length ≤ 10000000 := by
      rw [dt, hrest, List.length_append, List.length_append, List.length_cons] at small
      omega
    have line : (10000000 : Nat) < sizeLine := by decide
    have s8g : g' ≠ gb := ne8.symm
    refine q_appB out8 (ev_var rfl) (ev_len (ev_var rfl) (sq_of h8)) (by rw [List.length_map]; omega) fun H9 e9 => ?_
    have h10 : (upd H9 gb (.lst (dn.map V.int ++ [.int (((ansM m (theCall c as)).map V.int).length : Int)]))) q = some (.lst ((ansM m (theCall c as)).map V.int)) := (upd_ne nq).trans (e9 _ _ h8)
    refine q_ext upd_same h10 (ev_var rfl) (ev_var rfl) (by rw [List.length_append, List.length_map, List.length_map, List.length_singleton]; omega) fun H11 e11 => ?_
    refine s_asg (ev_var rfl) fun H12 e12 => ?_
    refine ⟨g', nextM m (theCall c as), dn ++ (((ansM m (theCall c as)).length : Int) :: ansM m (theCall c as)), _, _, _, rfl, ?_⟩
    have far : ∀ b o, b ≠ gb → H8 b = some o → H12 b = some o := fun b o nb hb => e12 _ _ ((upd_ne nb).trans (e11 _ _ ((upd_ne nb).trans (e9 _ _ hb))))
    refine ⟨by omega, ?_, next_ok tn.ok (theCall c as), ?_, ne8, fun o ho => ?_, f2, l', ?_, ?_⟩
    · obtain ⟨d8, ob⟩ := s8.ob
      refine ⟨⟨d8, far _ _ tn7.st.symm ob⟩, far _ _ s8g s8.gl⟩
    · refine e12 _ _ (upd_same.trans ?_)
      rw [List.map_append, List.map_cons, List.length_map, List.append_assoc]
      rfl
    · obtain ⟨q1, q2, q3, q4⟩ := tn7.stays o ho
      refine ⟨far _ _ q4 (kp8 _ _ q1 q2 q3), q2, ?_, q4⟩
      rcases hg' with e | e
      · rw [e]
        exact q3
      · intro z
        rw [z, e] at q1
        cases q1
    · have e : ns.drop (i + 1 + as.length) = r' := by
        rw [Nat.add_assoc, ← List.drop_drop, hdr, Nat.add_comm 1, List.drop_succ_cons, List.drop_left]
      rw [e]
      exact d2
    · rw [dt, hrest, List.append_assoc]
  · have hi : ¬ i < ns.length := of_decide_eq_false b
    have ei : i = ns.length := by have := tn.le; omega
    obtain ⟨f1, rest, d1, dt⟩ := tn.due_
    rw [ei, List.drop_length] at d1
    have er : rest = [] := Option.some.inj (d1.symm.trans (due_nil m f1))
    rw [er, List.append_nil] at dt
    refine s_ret (v := .ref gb) (ev_var rfl) fun H5 e5 => k H5 gb ?_
    rw [dt]
    exact (e4.trans e5) _ _ tn.out
end
end Pc


set_option Elab.async false
set_option linter.all false
set_option maxRecDepth 100000
set_option maxHeartbeats 3000000
namespace Pc
open PySem PySem.Spec PyProof.Rows L2 Evl Pm
/-! ### the request -/
theorem nats_of {l : List Int} (h : ∀ x ∈ l, 0 ≤ x) : (l.map Int.toNat).map up = l := by
  rw [List.map_map]
  conv => rhs; rw [← List.map_id l]
  apply List.map_congr_left
  intro x hx
  exact Int.toNat_of_nonneg (h x hx)
theorem request {K : PySem.W.Frag} {H : Hp} {p : Addr} {l : List Int} {Q : VK} {E : XK} (hs : SqL K H p (l.map V.int)) (h0 : ∀ x ∈ l, 0 ≤ x) (ha : PyKh399.answers_asked l = true)
    (k : ∀ (H' : Hp) (q : Addr), H' q = some (.lst ((PyKh399.answers l).map V.int)) → Q (.ref q) H') : spAnswers K [.ref p] H Q E := by
  have e := nats_of h0
  unfold PyKh399.answers_asked at ha
  cases hc : PyFlat.calls PyKh399.shape l.length l with
  | none =>
    rw [hc] at ha
    cases ha
  | some raw =>
    rw [hc] at ha
    simp only [Bool.and_eq_true] at ha
    have ea : PyKh399.answers l = PyFlat.told (PyFlat.played Kh399Neutral.step none (raw.map PyKh399.whole)) := by
      unfold PyKh399.answers PyKh399.calls
      rw [hc]
      rfl
    refine ⟨p, l.map Int.toNat, l.length, PyKh399.answers l, rfl, ?_, ?_, ?_, k⟩
    · have q : (l.map Int.toNat).map vN = l.map V.int := by
        conv => rhs; rw [← e]
        rw [List.map_map, List.map_map, List.map_map]
        rfl
      rw [q]
      exact hs
    · rw [e, ea]
      unfold due
      rw [hc]
      rfl
    · have := ha.2
      unfold PyFlat.short at this
      exact of_decide_eq_true this
theorem all_mk {P : Program} {w : World} {K : PySem.W.Frag} {h : Heap} {mg : Str → Option Value} {fa C fi tc f_holds f_size f_all f_sets f_many f_ways f_every f_depth f_wset f_wat f_fitg f_mis f_mostw f_tfa f_tell f_begin f_add f_drop f_truth f_guess f_wrong f_best f_aways f_aevery f_growth f_adepth f_deep f_few f_fit f_msl f_msg f_worst f_byone f_enough f_tells f_hard f_parted f_told f_ref f_answer f_answers r0 r1 r2 r3 r4 r5 r6 r7 r8 r9 r10 r11 r12 r13 r14 r15 r16 r17 r18 r19 r20 r21 r22 q0 q1 q2 q3 q4 q5 q6 q7 q8 q9 q10 q11 q12 q13 q14 q15 q16 q17 q18 q19 q20 q21 q22 : Addr} (X : K.In h) (G : h.Ns mainGlobals mg) (hfa : mg "answers" = some (.ref fa))
    {od_i an_i od_holds an_holds od_size an_size od_all an_all od_sets an_sets od_many an_many od_ways an_ways od_every an_every od_depth an_depth od_wset an_wset od_wat an_wat od_fitg an_fitg od_mis an_mis od_mostw an_mostw od_tfa an_tfa od_tell an_tell od_begin an_begin od_add an_add od_drop an_drop od_truth an_truth od_guess an_guess od_wrong an_wrong od_best an_best od_aways an_aways od_aevery an_aevery od_growth an_growth od_adepth an_adepth od_deep an_deep od_few an_few od_fit an_fit od_msl an_msl od_msg an_msg od_worst an_worst od_byone an_byone od_enough an_enough od_tells an_tells od_hard an_hard od_parted an_parted od_told an_told od_ref an_ref od_answer an_answer od_answers an_answers : Option Addr} {sl_i sl_holds sl_size sl_all sl_sets sl_many sl_ways sl_every sl_depth sl_wset sl_wat sl_fitg sl_mis sl_mostw sl_tfa sl_tell sl_begin sl_add sl_drop sl_truth sl_guess sl_wrong sl_best sl_aways sl_aevery sl_growth sl_adepth sl_deep sl_few sl_fit sl_msl sl_msg sl_worst sl_byone sl_enough sl_tells sl_hard sl_parted sl_told sl_ref sl_answer sl_answers : Array (Option Value)} {oc_i kV_i dc_i pm_i cd_i ct_i oc_holds kV_holds dc_holds pm_holds cd_holds ct_holds oc_size kV_size dc_size pm_size cd_size ct_size oc_all kV_all dc_all pm_all cd_all ct_all oc_sets kV_sets dc_sets pm_sets cd_sets ct_sets oc_many kV_many dc_many pm_many cd_many ct_many oc_ways kV_ways dc_ways pm_ways cd_ways ct_ways oc_every kV_every dc_every pm_every cd_every ct_every oc_depth kV_depth dc_depth pm_depth cd_depth ct_depth oc_wset kV_wset dc_wset pm_wset cd_wset ct_wset oc_wat kV_wat dc_wat pm_wat cd_wat ct_wat oc_fitg kV_fitg dc_fitg pm_fitg cd_fitg ct_fitg oc_mis kV_mis dc_mis pm_mis cd_mis ct_mis oc_mostw kV_mostw dc_mostw pm_mostw cd_mostw ct_mostw oc_tfa kV_tfa dc_tfa pm_tfa cd_tfa ct_tfa oc_tell kV_tell dc_tell pm_tell cd_tell ct_tell oc_begin kV_begin dc_begin pm_begin cd_begin ct_begin oc_add kV_add dc_add pm_add cd_add ct_add oc_drop kV_drop dc_drop pm_drop cd_drop ct_drop oc_truth kV_truth dc_truth pm_truth cd_truth ct_truth oc_guess kV_guess dc_guess pm_guess cd_guess ct_guess oc_wrong kV_wrong dc_wrong pm_wrong cd_wrong ct_wrong oc_best kV_best dc_best pm_best cd_best ct_best oc_aways kV_aways dc_aways pm_aways cd_aways ct_aways oc_aevery kV_aevery dc_aevery pm_aevery cd_aevery ct_aevery oc_growth kV_growth dc_growth pm_growth cd_growth ct_growth oc_adepth kV_adepth dc_adepth pm_adepth cd_adepth ct_adepth oc_deep kV_deep dc_deep pm_deep cd_deep ct_deep oc_few kV_few dc_few pm_few cd_few ct_few oc_fit kV_fit dc_fit pm_fit cd_fit ct_fit oc_msl kV_msl dc_msl pm_msl cd_msl ct_msl oc_msg kV_msg dc_msg pm_msg cd_msg ct_msg oc_worst kV_worst dc_worst pm_worst cd_worst ct_worst oc_byone kV_byone dc_byone pm_byone cd_byone ct_byone oc_enough kV_enough dc_enough pm_enough cd_enough ct_enough oc_tells kV_tells dc_tells pm_tells cd_tells ct_tells oc_hard kV_hard dc_hard pm_hard cd_hard ct_hard oc_parted kV_parted dc_parted pm_parted cd_parted ct_parted oc_told kV_told dc_told pm_told cd_told ct_told oc_ref kV_ref dc_ref pm_ref cd_ref ct_ref oc_answer kV_answer dc_answer pm_answer cd_answer ct_answer oc_answers kV_answers dc_answers pm_answers cd_answers ct_answers : Value}
    {tk_NO_SUCH_GUESS tk_NO_GUESSES tk_ALIKE tk_NOT_AS_TOLD tk_FULL tk_NONE_DOES tk_NOT_BEGUN tk_MOST_CASES tk_MOST_GUESSES tk_MOST_THINGS tk_MOST_PARTS tk_BEGIN t0_0 t0_1 t1_0 t2_0 t3_0 t4_0 t5_0 t7_0 t8_0 t9_0 t12_0 t12_1 t13_0 t14_0 t14_1 t15_0 t15_1 t16_0 t17_0 t17_1 t18_0 t18_1 t18_2 t19_0 t21_0 : Tok} {odT odr0 odq0 odr1 odq1 odr2 odq2 odr3 odq3 odr4 odq4 odr5 odq5 odr6 odq6 odr7 odq7 odr8 odq8 odr9 odq9 odr10 odq10 odr11 odq11 odr12 odq12 odr13 odq13 odr14 odq14 odr15 odq15 odr16 odq16 odr17 odq17 odr18 odq18 odr19 odq19 odr20 odq20 odr21 odq21 odr22 odq22 : Option Addr} {nT_ nr0 nq0 nr1 nq1 nr2 nq2 nr3 nq3 nr4 nq4 nr5 nq5 nr6 nq6 nr7 nq7 nr8 nq8 nr9 nq9 nr10 nq10 nr11 nq11 nr12 nq12 nr13 nq13 nr14 nq14 nr15 nq15 nr16 nq16 nr17 nq17 nr18 nq18 nr19 nq19 nr20 nq20 nr21 nq21 nr22 nq22 : Nat} {slT slr0 slq0 slr1 slq1 slr2 slq2 slr3 slq3 slr4 slq4 slr5 slq5 slr6 slq6 slr7 slq7 slr8 slq8 slr9 slq9 slr10 slq10 slr11 slq11 slr12 slq12 slr13 slq13 slr14 slq14 slr15 slq15 slr16 slq16 slr17 slq17 slr18 slq18 slr19 slq19 slr20 slq20 slr21 slq21 slr22 slq22 : Array (Option Value)}
    (aC : PySem.W.nsIn K mainGlobals "State" = some (some (.ref C)))
    (a_i : PySem.W.findIn K (.ref C) "__init__" = some (some (.ref fi)))
    (l_i : K.lookup fi = some ⟨oc_i, od_i, .func (PySem.W.fnOf "__init__" "State.__init__" (defArgs s_init) (defBody s_init) (defScope s_init) .none kV_i dc_i pm_i an_i cd_i ct_i), sl_i⟩)
    (c_i : PySem.W.codeIn K cd_i "State.__init__" = true)
    (k_i : PySem.W.keepIn K (.ref fi) = true)
    (i_i : PySem.W.isFn K (.ref fi) = true)
    (a_holds : PySem.W.nsIn K mainGlobals "holds_others" = some (some (.ref f_holds)))
    (l_holds : K.lookup f_holds = some ⟨oc_holds, od_holds, .func (PySem.W.fnOf "holds_others" "holds_others" (defArgs s_holds) (defBody s_holds) (defScope s_holds) .none kV_holds dc_holds pm_holds an_holds cd_holds ct_holds), sl_holds⟩)
    (c_holds : PySem.W.codeIn K cd_holds "holds_others" = true)
    (k_holds : PySem.W.keepIn K (.ref f_holds) = true)
    (a_size : PySem.W.nsIn K mainGlobals "size_of" = some (some (.ref f_size)))
    (l_size : K.lookup f_size = some ⟨oc_size, od_size, .func (PySem.W.fnOf "size_of" "size_of" (defArgs s_size) (defBody s_size) (defScope s_size) .none kV_size dc_size pm_size an_size cd_size ct_size), sl_size⟩)
    (c_size : PySem.W.codeIn K cd_size "size_of" = true)
    (k_size : PySem.W.keepIn K (.ref f_size) = true)
    (a_all : PySem.W.nsIn K mainGlobals "all_sets" = some (some (.ref f_all)))
    (l_all : K.lookup f_all = some ⟨oc_all, od_all, .func (PySem.W.fnOf "all_sets" "all_sets" (defArgs s_all) (defBody s_all) (defScope s_all) .none kV_all dc_all pm_all an_all cd_all ct_all), sl_all⟩)
    (c_all : PySem.W.codeIn K cd_all "all_sets" = true)
    (k_all : PySem.W.keepIn K (.ref f_all) = true)
    (a_sets : PySem.W.nsIn K mainGlobals "sets_of_size" = some (some (.ref f_sets)))
    (l_sets : K.lookup f_sets = some ⟨oc_sets, od_sets, .func (PySem.W.fnOf "sets_of_size" "sets_of_size" (defArgs s_sets) (defBody s_sets) (defScope s_sets) .none kV_sets dc_sets pm_sets an_sets cd_sets ct_sets), sl_sets⟩)
    (c_sets : PySem.W.codeIn K cd_sets "sets_of_size" = true)
    (k_sets : PySem.W.keepIn K (.ref f_sets) = true)
    (a_many : PySem.W.nsIn K mainGlobals "how_many_sets" = some (some (.ref f_many)))
    (l_many : K.lookup f_many = some ⟨oc_many, od_many, .func (PySem.W.fnOf "how_many_sets" "how_many_sets" (defArgs s_many) (defBody s_many) (defScope s_many) .none kV_many dc_many pm_many an_many cd_many ct_many), sl_many⟩)
    (c_many : PySem.W.codeIn K cd_many "how_many_sets" = true)
    (k_many : PySem.W.keepIn K (.ref f_many) = true)
    (a_ways : PySem.W.nsIn K mainGlobals "ways_parted" = some (some (.ref f_ways)))
    (l_ways : K.lookup f_ways = some ⟨oc_ways, od_ways, .func (PySem.W.fnOf "ways_parted" "ways_parted" (defArgs s_ways) (defBody s_ways) (defScope s_ways) .none kV_ways dc_ways pm_ways an_ways cd_ways ct_ways), sl_ways⟩)
    (c_ways : PySem.W.codeIn K cd_ways "ways_parted" = true)
    (k_ways : PySem.W.keepIn K (.ref f_ways) = true)
    (a_every : PySem.W.nsIn K mainGlobals "parted_in_every_way" = some (some (.ref f_every)))
    (l_every : K.lookup f_every = some ⟨oc_every, od_every, .func (PySem.W.fnOf "parted_in_every_way" "parted_in_every_way" (defArgs s_every) (defBody s_every) (defScope s_every) .none kV_every dc_every pm_every an_every cd_every ct_every), sl_every⟩)
    (c_every : PySem.W.codeIn K cd_every "parted_in_every_way" = true)
    (k_every : PySem.W.keepIn K (.ref f_every) = true)
    (a_depth : PySem.W.nsIn K mainGlobals "depth_of" = some (some (.ref f_depth)))
    (l_depth : K.lookup f_depth = some ⟨oc_depth, od_depth, .func (PySem.W.fnOf "depth_of" "depth_of" (defArgs s_depth) (defBody s_depth) (defScope s_depth) .none kV_depth dc_depth pm_depth an_depth cd_depth ct_depth), sl_depth⟩)
    (c_depth : PySem.W.codeIn K cd_depth "depth_of" = true)
    (k_depth : PySem.W.keepIn K (.ref f_depth) = true)
    (a_wset : PySem.W.nsIn K mainGlobals "wrong_sets" = some (some (.ref f_wset)))
    (l_wset : K.lookup f_wset = some ⟨oc_wset, od_wset, .func (PySem.W.fnOf "wrong_sets" "wrong_sets" (defArgs s_wset) (defBody s_wset) (defScope s_wset) .none kV_wset dc_wset pm_wset an_wset cd_wset ct_wset), sl_wset⟩)
    (c_wset : PySem.W.codeIn K cd_wset "wrong_sets" = true)
    (k_wset : PySem.W.keepIn K (.ref f_wset) = true)
    (a_wat : PySem.W.nsIn K mainGlobals "wrong_on_at_least" = some (some (.ref f_wat)))
    (l_wat : K.lookup f_wat = some ⟨oc_wat, od_wat, .func (PySem.W.fnOf "wrong_on_at_least" "wrong_on_at_least" (defArgs s_wat) (defBody s_wat) (defScope s_wat) .none kV_wat dc_wat pm_wat an_wat cd_wat ct_wat), sl_wat⟩)
    (c_wat : PySem.W.codeIn K cd_wat "wrong_on_at_least" = true)
    (k_wat : PySem.W.keepIn K (.ref f_wat) = true)
    (a_fitg : PySem.W.nsIn K mainGlobals "fitting" = some (some (.ref f_fitg)))
    (l_fitg : K.lookup f_fitg = some ⟨oc_fitg, od_fitg, .func (PySem.W.fnOf "fitting" "fitting" (defArgs s_fitg) (defBody s_fitg) (defScope s_fitg) .none kV_fitg dc_fitg pm_fitg an_fitg cd_fitg ct_fitg), sl_fitg⟩)
    (c_fitg : PySem.W.codeIn K cd_fitg "fitting" = true)
    (k_fitg : PySem.W.keepIn K (.ref f_fitg) = true)
    (a_mis : PySem.W.nsIn K mainGlobals "misleading_samples" = some (some (.ref f_mis)))
    (l_mis : K.lookup f_mis = some ⟨oc_mis, od_mis, .func (PySem.W.fnOf "misleading_samples" "misleading_samples" (defArgs s_mis) (defBody s_mis) (defScope s_mis) .none kV_mis dc_mis pm_mis an_mis cd_mis ct_mis), sl_mis⟩)
    (c_mis : PySem.W.codeIn K cd_mis "misleading_samples" = true)
    (k_mis : PySem.W.keepIn K (.ref f_mis) = true)
    (a_mostw : PySem.W.nsIn K mainGlobals "most_wrong" = some (some (.ref f_mostw)))
    (l_mostw : K.lookup f_mostw = some ⟨oc_mostw, od_mostw, .func (PySem.W.fnOf "most_wrong" "most_wrong" (defArgs s_mostw) (defBody s_mostw) (defScope s_mostw) .none kV_mostw dc_mostw pm_mostw an_mostw cd_mostw ct_mostw), sl_mostw⟩)
    (c_mostw : PySem.W.codeIn K cd_mostw "most_wrong" = true)
    (k_mostw : PySem.W.keepIn K (.ref f_mostw) = true)
    (a_tfa : PySem.W.nsIn K mainGlobals "tells_from_all" = some (some (.ref f_tfa)))
    (l_tfa : K.lookup f_tfa = some ⟨oc_tfa, od_tfa, .func (PySem.W.fnOf "tells_from_all" "tells_from_all" (defArgs s_tfa) (defBody s_tfa) (defScope s_tfa) .none kV_tfa dc_tfa pm_tfa an_tfa cd_tfa ct_tfa), sl_tfa⟩)
    (c_tfa : PySem.W.codeIn K cd_tfa "tells_from_all" = true)
    (k_tfa : PySem.W.keepIn K (.ref f_tfa) = true)
    (a_tell : PySem.W.nsIn K mainGlobals "telling_cases" = some (some (.ref f_tell)))
    (l_tell : K.lookup f_tell = some ⟨oc_tell, od_tell, .func (PySem.W.fnOf "telling_cases" "telling_cases" (defArgs s_tell) (defBody s_tell) (defScope s_tell) .none kV_tell dc_tell pm_tell an_tell cd_tell ct_tell), sl_tell⟩)
    (c_tell : PySem.W.codeIn K cd_tell "telling_cases" = true)
    (k_tell : PySem.W.keepIn K (.ref f_tell) = true)
    (a_begin : PySem.W.nsIn K mainGlobals "answer_begin" = some (some (.ref f_begin)))
    (l_begin : K.lookup f_begin = some ⟨oc_begin, od_begin, .func (PySem.W.fnOf "answer_begin" "answer_begin" (defArgs s_begin) (defBody s_begin) (defScope s_begin) .none kV_begin dc_begin pm_begin an_begin cd_begin ct_begin), sl_begin⟩)
    (c_begin : PySem.W.codeIn K cd_begin "answer_begin" = true)
    (k_begin : PySem.W.keepIn K (.ref f_begin) = true)
    (a_add : PySem.W.nsIn K mainGlobals "answer_add" = some (some (.ref f_add)))
    (l_add : K.lookup f_add = some ⟨oc_add, od_add, .func (PySem.W.fnOf "answer_add" "answer_add" (defArgs s_add) (defBody s_add) (defScope s_add) .none kV_add dc_add pm_add an_add cd_add ct_add), sl_add⟩)
    (c_add : PySem.W.codeIn K cd_add "answer_add" = true)
    (k_add : PySem.W.keepIn K (.ref f_add) = true)
    (a_drop : PySem.W.nsIn K mainGlobals "answer_drop" = some (some (.ref f_drop)))
    (l_drop : K.lookup f_drop = some ⟨oc_drop, od_drop, .func (PySem.W.fnOf "answer_drop" "answer_drop" (defArgs s_drop) (defBody s_drop) (defScope s_drop) .none kV_drop dc_drop pm_drop an_drop cd_drop ct_drop), sl_drop⟩)
    (c_drop : PySem.W.codeIn K cd_drop "answer_drop" = true)
    (k_drop : PySem.W.keepIn K (.ref f_drop) = true)
    (a_truth : PySem.W.nsIn K mainGlobals "answer_truth" = some (some (.ref f_truth)))
    (l_truth : K.lookup f_truth = some ⟨oc_truth, od_truth, .func (PySem.W.fnOf "answer_truth" "answer_truth" (defArgs s_truth) (defBody s_truth) (defScope s_truth) .none kV_truth dc_truth pm_truth an_truth cd_truth ct_truth), sl_truth⟩)
    (c_truth : PySem.W.codeIn K cd_truth "answer_truth" = true)
    (k_truth : PySem.W.keepIn K (.ref f_truth) = true)
    (a_guess : PySem.W.nsIn K mainGlobals "answer_guess" = some (some (.ref f_guess)))
    (l_guess : K.lookup f_guess = some ⟨oc_guess, od_guess, .func (PySem.W.fnOf "answer_guess" "answer_guess" (defArgs s_guess) (defBody s_guess) (defScope s_guess) .none kV_guess dc_guess pm_guess an_guess cd_guess ct_guess), sl_guess⟩)
    (c_guess : PySem.W.codeIn K cd_guess "answer_guess" = true)
    (k_guess : PySem.W.keepIn K (.ref f_guess) = true)
    (a_wrong : PySem.W.nsIn K mainGlobals "answer_wrong" = some (some (.ref f_wrong)))
    (l_wrong : K.lookup f_wrong = some ⟨oc_wrong, od_wrong, .func (PySem.W.fnOf "answer_wrong" "answer_wrong" (defArgs s_wrong) (defBody s_wrong) (defScope s_wrong) .none kV_wrong dc_wrong pm_wrong an_wrong cd_wrong ct_wrong), sl_wrong⟩)
    (c_wrong : PySem.W.codeIn K cd_wrong "answer_wrong" = true)
    (k_wrong : PySem.W.keepIn K (.ref f_wrong) = true)
    (a_best : PySem.W.nsIn K mainGlobals "answer_best" = some (some (.ref f_best)))
    (l_best : K.lookup f_best = some ⟨oc_best, od_best, .func (PySem.W.fnOf "answer_best" "answer_best" (defArgs s_best) (defBody s_best) (defScope s_best) .none kV_best dc_best pm_best an_best cd_best ct_best), sl_best⟩)
    (c_best : PySem.W.codeIn K cd_best "answer_best" = true)
    (k_best : PySem.W.keepIn K (.ref f_best) = true)
    (a_aways : PySem.W.nsIn K mainGlobals "answer_ways" = some (some (.ref f_aways)))
    (l_aways : K.lookup f_aways = some ⟨oc_aways, od_aways, .func (PySem.W.fnOf "answer_ways" "answer_ways" (defArgs s_aways) (defBody s_aways) (defScope s_aways) .none kV_aways dc_aways pm_aways an_aways cd_aways ct_aways), sl_aways⟩)
    (c_aways : PySem.W.codeIn K cd_aways "answer_ways" = true)
    (k_aways : PySem.W.keepIn K (.ref f_aways) = true)
    (a_aevery : PySem.W.nsIn K mainGlobals "answer_every" = some (some (.ref f_aevery)))
    (l_aevery : K.lookup f_aevery = some ⟨oc_aevery, od_aevery, .func (PySem.W.fnOf "answer_every" "answer_every" (defArgs s_aevery) (defBody s_aevery) (defScope s_aevery) .none kV_aevery dc_aevery pm_aevery an_aevery cd_aevery ct_aevery), sl_aevery⟩)
    (c_aevery : PySem.W.codeIn K cd_aevery "answer_every" = true)
    (k_aevery : PySem.W.keepIn K (.ref f_aevery) = true)
    (a_growth : PySem.W.nsIn K mainGlobals "answer_growth" = some (some (.ref f_growth)))
    (l_growth : K.lookup f_growth = some ⟨oc_growth, od_growth, .func (PySem.W.fnOf "answer_growth" "answer_growth" (defArgs s_growth) (defBody s_growth) (defScope s_growth) .none kV_growth dc_growth pm_growth an_growth cd_growth ct_growth), sl_growth⟩)
    (c_growth : PySem.W.codeIn K cd_growth "answer_growth" = true)
    (k_growth : PySem.W.keepIn K (.ref f_growth) = true)
    (a_adepth : PySem.W.nsIn K mainGlobals "answer_depth" = some (some (.ref f_adepth)))
    (l_adepth : K.lookup f_adepth = some ⟨oc_adepth, od_adepth, .func (PySem.W.fnOf "answer_depth" "answer_depth" (defArgs s_adepth) (defBody s_adepth) (defScope s_adepth) .none kV_adepth dc_adepth pm_adepth an_adepth cd_adepth ct_adepth), sl_adepth⟩)
    (c_adepth : PySem.W.codeIn K cd_adepth "answer_depth" = true)
    (k_adepth : PySem.W.keepIn K (.ref f_adepth) = true)
    (a_deep : PySem.W.nsIn K mainGlobals "answer_deep" = some (some (.ref f_deep)))
    (l_deep : K.lookup f_deep = some ⟨oc_deep, od_deep, .func (PySem.W.fnOf "answer_deep" "answer_deep" (defArgs s_deep) (defBody s_deep) (defScope s_deep) .none kV_deep dc_deep pm_deep an_deep cd_deep ct_deep), sl_deep⟩)
    (c_deep : PySem.W.codeIn K cd_deep "answer_deep" = true)
    (k_deep : PySem.W.keepIn K (.ref f_deep) = true)
    (a_few : PySem.W.nsIn K mainGlobals "answer_few_ways" = some (some (.ref f_few)))
    (l_few : K.lookup f_few = some ⟨oc_few, od_few, .func (PySem.W.fnOf "answer_few_ways" "answer_few_ways" (defArgs s_few) (defBody s_few) (defScope s_few) .none kV_few dc_few pm_few an_few cd_few ct_few), sl_few⟩)
    (c_few : PySem.W.codeIn K cd_few "answer_few_ways" = true)
    (k_few : PySem.W.keepIn K (.ref f_few) = true)
    (a_fit : PySem.W.nsIn K mainGlobals "answer_fit" = some (some (.ref f_fit)))
    (l_fit : K.lookup f_fit = some ⟨oc_fit, od_fit, .func (PySem.W.fnOf "answer_fit" "answer_fit" (defArgs s_fit) (defBody s_fit) (defScope s_fit) .none kV_fit dc_fit pm_fit an_fit cd_fit ct_fit), sl_fit⟩)
    (c_fit : PySem.W.codeIn K cd_fit "answer_fit" = true)
    (k_fit : PySem.W.keepIn K (.ref f_fit) = true)
    (a_msl : PySem.W.nsIn K mainGlobals "answer_misleads" = some (some (.ref f_msl)))
    (l_msl : K.lookup f_msl = some ⟨oc_msl, od_msl, .func (PySem.W.fnOf "answer_misleads" "answer_misleads" (defArgs s_msl) (defBody s_msl) (defScope s_msl) .none kV_msl dc_msl pm_msl an_msl cd_msl ct_msl), sl_msl⟩)
    (c_msl : PySem.W.codeIn K cd_msl "answer_misleads" = true)
    (k_msl : PySem.W.keepIn K (.ref f_msl) = true)
    (a_msg : PySem.W.nsIn K mainGlobals "answer_misleading" = some (some (.ref f_msg)))
    (l_msg : K.lookup f_msg = some ⟨oc_msg, od_msg, .func (PySem.W.fnOf "answer_misleading" "answer_misleading" (defArgs s_msg) (defBody s_msg) (defScope s_msg) .none kV_msg dc_msg pm_msg an_msg cd_msg ct_msg), sl_msg⟩)
    (c_msg : PySem.W.codeIn K cd_msg "answer_misleading" = true)
    (k_msg : PySem.W.keepIn K (.ref f_msg) = true)
    (a_worst : PySem.W.nsIn K mainGlobals "answer_worst" = some (some (.ref f_worst)))
    (l_worst : K.lookup f_worst = some ⟨oc_worst, od_worst, .func (PySem.W.fnOf "answer_worst" "answer_worst" (defArgs s_worst) (defBody s_worst) (defScope s_worst) .none kV_worst dc_worst pm_worst an_worst cd_worst ct_worst), sl_worst⟩)
    (c_worst : PySem.W.codeIn K cd_worst "answer_worst" = true)
    (k_worst : PySem.W.keepIn K (.ref f_worst) = true)
    (a_byone : PySem.W.nsIn K mainGlobals "answer_by_one" = some (some (.ref f_byone)))
    (l_byone : K.lookup f_byone = some ⟨oc_byone, od_byone, .func (PySem.W.fnOf "answer_by_one" "answer_by_one" (defArgs s_byone) (defBody s_byone) (defScope s_byone) .none kV_byone dc_byone pm_byone an_byone cd_byone ct_byone), sl_byone⟩)
    (c_byone : PySem.W.codeIn K cd_byone "answer_by_one" = true)
    (k_byone : PySem.W.keepIn K (.ref f_byone) = true)
    (a_enough : PySem.W.nsIn K mainGlobals "answer_enough" = some (some (.ref f_enough)))
    (l_enough : K.lookup f_enough = some ⟨oc_enough, od_enough, .func (PySem.W.fnOf "answer_enough" "answer_enough" (defArgs s_enough) (defBody s_enough) (defScope s_enough) .none kV_enough dc_enough pm_enough an_enough cd_enough ct_enough), sl_enough⟩)
    (c_enough : PySem.W.codeIn K cd_enough "answer_enough" = true)
    (k_enough : PySem.W.keepIn K (.ref f_enough) = true)
    (a_tells : PySem.W.nsIn K mainGlobals "answer_tells" = some (some (.ref f_tells)))
    (l_tells : K.lookup f_tells = some ⟨oc_tells, od_tells, .func (PySem.W.fnOf "answer_tells" "answer_tells" (defArgs s_tells) (defBody s_tells) (defScope s_tells) .none kV_tells dc_tells pm_tells an_tells cd_tells ct_tells), sl_tells⟩)
    (c_tells : PySem.W.codeIn K cd_tells "answer_tells" = true)
    (k_tells : PySem.W.keepIn K (.ref f_tells) = true)
    (a_hard : PySem.W.nsIn K mainGlobals "answer_hardest" = some (some (.ref f_hard)))
    (l_hard : K.lookup f_hard = some ⟨oc_hard, od_hard, .func (PySem.W.fnOf "answer_hardest" "answer_hardest" (defArgs s_hard) (defBody s_hard) (defScope s_hard) .none kV_hard dc_hard pm_hard an_hard cd_hard ct_hard), sl_hard⟩)
    (c_hard : PySem.W.codeIn K cd_hard "answer_hardest" = true)
    (k_hard : PySem.W.keepIn K (.ref f_hard) = true)
    (a_parted : PySem.W.nsIn K mainGlobals "answer_parted" = some (some (.ref f_parted)))
    (l_parted : K.lookup f_parted = some ⟨oc_parted, od_parted, .func (PySem.W.fnOf "answer_parted" "answer_parted" (defArgs s_parted) (defBody s_parted) (defScope s_parted) .none kV_parted dc_parted pm_parted an_parted cd_parted ct_parted), sl_parted⟩)
    (c_parted : PySem.W.codeIn K cd_parted "answer_parted" = true)
    (k_parted : PySem.W.keepIn K (.ref f_parted) = true)
    (a_told : PySem.W.nsIn K mainGlobals "answer_told" = some (some (.ref f_told)))
    (l_told : K.lookup f_told = some ⟨oc_told, od_told, .func (PySem.W.fnOf "answer_told" "answer_told" (defArgs s_told) (defBody s_told) (defScope s_told) .none kV_told dc_told pm_told an_told cd_told ct_told), sl_told⟩)
    (c_told : PySem.W.codeIn K cd_told "answer_told" = true)
    (k_told : PySem.W.keepIn K (.ref f_told) = true)
    (a_ref : PySem.W.nsIn K mainGlobals "refusal_of" = some (some (.ref f_ref)))
    (l_ref : K.lookup f_ref = some ⟨oc_ref, od_ref, .func (PySem.W.fnOf "refusal_of" "refusal_of" (defArgs s_ref) (defBody s_ref) (defScope s_ref) .none kV_ref dc_ref pm_ref an_ref cd_ref ct_ref), sl_ref⟩)
    (c_ref : PySem.W.codeIn K cd_ref "refusal_of" = true)
    (k_ref : PySem.W.keepIn K (.ref f_ref) = true)
    (a_answer : PySem.W.nsIn K mainGlobals "answer" = some (some (.ref f_answer)))
    (l_answer : K.lookup f_answer = some ⟨oc_answer, od_answer, .func (PySem.W.fnOf "answer" "answer" (defArgs s_answer) (defBody s_answer) (defScope s_answer) .none kV_answer dc_answer pm_answer an_answer cd_answer ct_answer), sl_answer⟩)
    (c_answer : PySem.W.codeIn K cd_answer "answer" = true)
    (k_answer : PySem.W.keepIn K (.ref f_answer) = true)
    (a_answers : PySem.W.nsIn K mainGlobals "answers" = some (some (.ref f_answers)))
    (l_answers : K.lookup f_answers = some ⟨oc_answers, od_answers, .func (PySem.W.fnOf "answers" "answers" (defArgs s_answers) (defBody s_answers) (defScope s_answers) .none kV_answers dc_answers pm_answers an_answers cd_answers ct_answers), sl_answers⟩)
    (c_answers : PySem.W.codeIn K cd_answers "answers" = true)
    (k_answers : PySem.W.keepIn K (.ref f_answers) = true)
    (pg : PySem.W.plainGet K C Str.empty = true)
    (hd : PySem.W.hasDictIn K C = true)
    (po : PySem.W.plainOver K C = true)
    (sa : PySem.W.findIn K (.ref C) "__setattr__" = some (some (.builtin "object.__setattr__")))
    (mk : PySem.W.makesIn K C = true)
    (kc : PySem.W.keepIn K (.ref C) = true)
    (nC : PySem.W.findIn K (.ref C) "cases" = some none)
    (nT : PySem.W.findIn K (.ref C) "truth" = some none)
    (nG : PySem.W.findIn K (.ref C) "guesses" = some none)
    (b_len : PySem.W.nsIn K mainGlobals "len" = some none)
    (b_range : PySem.W.nsIn K mainGlobals "range" = some none)
    (b_sum : PySem.W.nsIn K mainGlobals "sum" = some none)
    (b_list : PySem.W.nsIn K mainGlobals "list" = some none)
    (b_max : PySem.W.nsIn K mainGlobals "max" = some none)
    (b_min : PySem.W.nsIn K mainGlobals "min" = some none)
    (b_zip : PySem.W.nsIn K mainGlobals "zip" = some none)
    (b_all : PySem.W.nsIn K mainGlobals "all" = some none)
    (n_NO_SUCH_GUESS : PySem.W.nsIn K mainGlobals "NO_SUCH_GUESS" = some (some (.int 2 tk_NO_SUCH_GUESS)))
    (n_NO_GUESSES : PySem.W.nsIn K mainGlobals "NO_GUESSES" = some (some (.int 6 tk_NO_GUESSES)))
    (n_ALIKE : PySem.W.nsIn K mainGlobals "ALIKE" = some (some (.int 17 tk_ALIKE)))
    (n_NOT_AS_TOLD : PySem.W.nsIn K mainGlobals "NOT_AS_TOLD" = some (some (.int 22 tk_NOT_AS_TOLD)))
    (n_FULL : PySem.W.nsIn K mainGlobals "FULL" = some (some (.int 28 tk_FULL)))
    (n_NONE_DOES : PySem.W.nsIn K mainGlobals "NONE_DOES" = some (some (.int 33 tk_NONE_DOES)))
    (n_NOT_BEGUN : PySem.W.nsIn K mainGlobals "NOT_BEGUN" = some (some (.int 61 tk_NOT_BEGUN)))
    (n_MOST_CASES : PySem.W.nsIn K mainGlobals "MOST_CASES" = some (some (.int 8 tk_MOST_CASES)))
    (n_MOST_GUESSES : PySem.W.nsIn K mainGlobals "MOST_GUESSES" = some (some (.int 16 tk_MOST_GUESSES)))
    (n_MOST_THINGS : PySem.W.nsIn K mainGlobals "MOST_THINGS" = some (some (.int 40 tk_MOST_THINGS)))
    (n_MOST_PARTS : PySem.W.nsIn K mainGlobals "MOST_PARTS" = some (some (.int 1000 tk_MOST_PARTS)))
    (n_BEGIN : PySem.W.nsIn K mainGlobals "BEGIN" = some (some (.int 0 tk_BEGIN)))
    (aT : PySem.W.nsIn K mainGlobals "CALLS" = some (some (.ref tc)))
    (lT : K.lookup tc = some ⟨.type "tuple", odT, .seq #[.ref r0, .ref r1, .ref r2, .ref r3, .ref r4, .ref r5, .ref r6, .ref r7, .ref r8, .ref r9, .ref r10, .ref r11, .ref r12, .ref r13, .ref r14, .ref r15, .ref r16, .ref r17, .ref r18, .ref r19, .ref r20, .ref r21, .ref r22] nT_, slT⟩)
    (lr0 : K.lookup r0 = some ⟨.type "tuple", odr0, .seq #[.ref f_begin, .ref q0] nr0, slr0⟩)
    (lq0 : K.lookup q0 = some ⟨.type "tuple", odq0, .seq #[.str "cases" t0_0, .str "truth" t0_1] nq0, slq0⟩)
    (lr1 : K.lookup r1 = some ⟨.type "tuple", odr1, .seq #[.ref f_add, .ref q1] nr1, slr1⟩)
    (lq1 : K.lookup q1 = some ⟨.type "tuple", odq1, .seq #[.str "s" t1_0] nq1, slq1⟩)
    (lr2 : K.lookup r2 = some ⟨.type "tuple", odr2, .seq #[.ref f_drop, .ref q2] nr2, slr2⟩)
    (lq2 : K.lookup q2 = some ⟨.type "tuple", odq2, .seq #[.str "i" t2_0] nq2, slq2⟩)
    (lr3 : K.lookup r3 = some ⟨.type "tuple", odr3, .seq #[.ref f_truth, .ref q3] nr3, slr3⟩)
    (lq3 : K.lookup q3 = some ⟨.type "tuple", odq3, .seq #[.str "s" t3_0] nq3, slq3⟩)
    (lr4 : K.lookup r4 = some ⟨.type "tuple", odr4, .seq #[.ref f_guess, .ref q4] nr4, slr4⟩)
    (lq4 : K.lookup q4 = some ⟨.type "tuple", odq4, .seq #[.str "i" t4_0] nq4, slq4⟩)
    (lr5 : K.lookup r5 = some ⟨.type "tuple", odr5, .seq #[.ref f_wrong, .ref q5] nr5, slr5⟩)
    (lq5 : K.lookup q5 = some ⟨.type "tuple", odq5, .seq #[.str "i" t5_0] nq5, slq5⟩)
    (lr6 : K.lookup r6 = some ⟨.type "tuple", odr6, .seq #[.ref f_best, .ref q6] nr6, slr6⟩)
    (lq6 : K.lookup q6 = some ⟨.type "tuple", odq6, .seq #[] nq6, slq6⟩)
    (lr7 : K.lookup r7 = some ⟨.type "tuple", odr7, .seq #[.ref f_aways, .ref q7] nr7, slr7⟩)
    (lq7 : K.lookup q7 = some ⟨.type "tuple", odq7, .seq #[.str "s" t7_0] nq7, slq7⟩)
    (lr8 : K.lookup r8 = some ⟨.type "tuple", odr8, .seq #[.ref f_aevery, .ref q8] nr8, slr8⟩)
    (lq8 : K.lookup q8 = some ⟨.type "tuple", odq8, .seq #[.str "s" t8_0] nq8, slq8⟩)
    (lr9 : K.lookup r9 = some ⟨.type "tuple", odr9, .seq #[.ref f_growth, .ref q9] nr9, slr9⟩)
    (lq9 : K.lookup q9 = some ⟨.type "tuple", odq9, .seq #[.str "k" t9_0] nq9, slq9⟩)
    (lr10 : K.lookup r10 = some ⟨.type "tuple", odr10, .seq #[.ref f_adepth, .ref q10] nr10, slr10⟩)
    (lq10 : K.lookup q10 = some ⟨.type "tuple", odq10, .seq #[] nq10, slq10⟩)
    (lr11 : K.lookup r11 = some ⟨.type "tuple", odr11, .seq #[.ref f_deep, .ref q11] nr11, slr11⟩)
    (lq11 : K.lookup q11 = some ⟨.type "tuple", odq11, .seq #[] nq11, slq11⟩)
    (lr12 : K.lookup r12 = some ⟨.type "tuple", odr12, .seq #[.ref f_few, .ref q12] nr12, slr12⟩)
    (lq12 : K.lookup q12 = some ⟨.type "tuple", odq12, .seq #[.str "n" t12_0, .str "d" t12_1] nq12, slq12⟩)
    (lr13 : K.lookup r13 = some ⟨.type "tuple", odr13, .seq #[.ref f_fit, .ref q13] nr13, slr13⟩)
    (lq13 : K.lookup q13 = some ⟨.type "tuple", odq13, .seq #[.str "s" t13_0] nq13, slq13⟩)
    (lr14 : K.lookup r14 = some ⟨.type "tuple", odr14, .seq #[.ref f_msl, .ref q14] nr14, slr14⟩)
    (lq14 : K.lookup q14 = some ⟨.type "tuple", odq14, .seq #[.str "e" t14_0, .str "s" t14_1] nq14, slq14⟩)
    (lr15 : K.lookup r15 = some ⟨.type "tuple", odr15, .seq #[.ref f_msg, .ref q15] nr15, slr15⟩)
    (lq15 : K.lookup q15 = some ⟨.type "tuple", odq15, .seq #[.str "k" t15_0, .str "e" t15_1] nq15, slq15⟩)
    (lr16 : K.lookup r16 = some ⟨.type "tuple", odr16, .seq #[.ref f_worst, .ref q16] nr16, slr16⟩)
    (lq16 : K.lookup q16 = some ⟨.type "tuple", odq16, .seq #[.str "k" t16_0] nq16, slq16⟩)
    (lr17 : K.lookup r17 = some ⟨.type "tuple", odr17, .seq #[.ref f_byone, .ref q17] nr17, slr17⟩)
    (lq17 : K.lookup q17 = some ⟨.type "tuple", odq17, .seq #[.str "k" t17_0, .str "e" t17_1] nq17, slq17⟩)
    (lr18 : K.lookup r18 = some ⟨.type "tuple", odr18, .seq #[.ref f_enough, .ref q18] nr18, slr18⟩)
    (lq18 : K.lookup q18 = some ⟨.type "tuple", odq18, .seq #[.str "e" t18_0, .str "p" t18_1, .str "q" t18_2] nq18, slq18⟩)
    (lr19 : K.lookup r19 = some ⟨.type "tuple", odr19, .seq #[.ref f_tells, .ref q19] nr19, slr19⟩)
    (lq19 : K.lookup q19 = some ⟨.type "tuple", odq19, .seq #[.str "i" t19_0] nq19, slq19⟩)
    (lr20 : K.lookup r20 = some ⟨.type "tuple", odr20, .seq #[.ref f_hard, .ref q20] nr20, slr20⟩)
    (lq20 : K.lookup q20 = some ⟨.type "tuple", odq20, .seq #[] nq20, slq20⟩)
    (lr21 : K.lookup r21 = some ⟨.type "tuple", odr21, .seq #[.ref f_parted, .ref q21] nr21, slr21⟩)
    (lq21 : K.lookup q21 = some ⟨.type "tuple", odq21, .seq #[.str "s" t21_0] nq21, slq21⟩)
    (lr22 : K.lookup r22 = some ⟨.type "tuple", odr22, .seq #[.ref f_told, .ref q22] nr22, slr22⟩)
    (lq22 : K.lookup q22 = some ⟨.type "tuple", odq22, .seq #[] nq22, slq22⟩)
    : ∃ fd : FuncData, (∀ (s : Shared) (us : List Value), us.length = (["calls"] : List Str).length → BindsTo s fd ⟨us, []⟩ ((["calls"] : List Str).zip us)) ∧ ∀ base : Heap, K.In base → base.Ns mainGlobals mg → FnOk P w K mg base CX0 6 fa fd ["calls"] (spAnswers K) := by
  have e := hfa.symm.trans (PySem.W.mg_of X G a_answers)
  cases e
  have T : Txt K mg C := { cl := ⟨pg, hd, po, sa⟩, nC := nC, nT := nT, nG := nG, gC := PySem.W.mg_of X G aC, len := PySem.W.mg_none_of X G b_len, range := PySem.W.mg_none_of X G b_range, sum := PySem.W.mg_none_of X G b_sum, list := PySem.W.mg_none_of X G b_list, max := PySem.W.mg_none_of X G b_max, min := PySem.W.mg_none_of X G b_min, zip := PySem.W.mg_none_of X G b_zip, all := PySem.W.mg_none_of X G b_all, c2 := ⟨_, PySem.W.mg_of X G n_NO_SUCH_GUESS, ⟨_, rfl⟩⟩, c6 := ⟨_, PySem.W.mg_of X G n_NO_GUESSES, ⟨_, rfl⟩⟩, c17 := ⟨_, PySem.W.mg_of X G n_ALIKE, ⟨_, rfl⟩⟩, c22 := ⟨_, PySem.W.mg_of X G n_NOT_AS_TOLD, ⟨_, rfl⟩⟩, c28 := ⟨_, PySem.W.mg_of X G n_FULL, ⟨_, rfl⟩⟩, c33 := ⟨_, PySem.W.mg_of X G n_NONE_DOES, ⟨_, rfl⟩⟩, c61 := ⟨_, PySem.W.mg_of X G n_NOT_BEGUN, ⟨_, rfl⟩⟩, cC := ⟨_, PySem.W.mg_of X G n_MOST_CASES, ⟨_, rfl⟩⟩, cG := ⟨_, PySem.W.mg_of X G n_MOST_GUESSES, ⟨_, rfl⟩⟩, cH := ⟨_, PySem.W.mg_of X G n_MOST_THINGS, ⟨_, rfl⟩⟩, cP := ⟨_, PySem.W.mg_of X G n_MOST_PARTS, ⟨_, rfl⟩⟩, cB := ⟨_, PySem.W.mg_of X G n_BEGIN, ⟨_, rfl⟩⟩ }
  have Fi := fun_mk (st := s_init) l_i c_i k_i
  have bi := Fi.binds (ps := ["self"]) fun _ _ _ _ _ _ us hl => match us, hl with | [_], _ => rfl
  have F_holds := fun_mk (st := s_holds) l_holds c_holds k_holds
  have B_holds := F_holds.binds (ps := ["members", "cases"]) fun _ _ _ _ _ _ us hl => match us, hl with | [_, _], _ => rfl
  have g_holds := PySem.W.mg_of X G a_holds
  have F_size := fun_mk (st := s_size) l_size c_size k_size
  have B_size := F_size.binds (ps := ["members"]) fun _ _ _ _ _ _ us hl => match us, hl with | [_], _ => rfl
  have g_size := PySem.W.mg_of X G a_size
  have F_all := fun_mk (st := s_all) l_all c_all k_all
  have B_all := F_all.binds (ps := ["cases"]) fun _ _ _ _ _ _ us hl => match us, hl with | [_], _ => rfl
  have g_all := PySem.W.mg_of X G a_all
  have F_sets := fun_mk (st := s_sets) l_sets c_sets k_sets
  have B_sets := F_sets.binds (ps := ["cases", "size"]) fun _ _ _ _ _ _ us hl => match us, hl with | [_, _], _ => rfl
  have g_sets := PySem.W.mg_of X G a_sets
  have F_many := fun_mk (st := s_many) l_many c_many k_many
  have B_many := F_many.binds (ps := ["things", "size"]) fun _ _ _ _ _ _ us hl => match us, hl with | [_, _], _ => rfl
  have g_many := PySem.W.mg_of X G a_many
  have F_ways := fun_mk (st := s_ways) l_ways c_ways k_ways
  have B_ways := F_ways.binds (ps := ["guesses", "members"]) fun _ _ _ _ _ _ us hl => match us, hl with | [_, _], _ => rfl
  have g_ways := PySem.W.mg_of X G a_ways
  have F_every := fun_mk (st := s_every) l_every c_every k_every
  have B_every := F_every.binds (ps := ["guesses", "members"]) fun _ _ _ _ _ _ us hl => match us, hl with | [_, _], _ => rfl
  have g_every := PySem.W.mg_of X G a_every
  have F_depth := fun_mk (st := s_depth) l_depth c_depth k_depth
  have B_depth := F_depth.binds (ps := ["guesses", "cases"]) fun _ _ _ _ _ _ us hl => match us, hl with | [_, _], _ => rfl
  have g_depth := PySem.W.mg_of X G a_depth
  have F_wset := fun_mk (st := s_wset) l_wset c_wset k_wset
  have B_wset := F_wset.binds (ps := ["state"]) fun _ _ _ _ _ _ us hl => match us, hl with | [_], _ => rfl
  have g_wset := PySem.W.mg_of X G a_wset
  have F_wat := fun_mk (st := s_wat) l_wat c_wat k_wat
  have B_wat := F_wat.binds (ps := ["state", "e"]) fun _ _ _ _ _ _ us hl => match us, hl with | [_, _], _ => rfl
  have g_wat := PySem.W.mg_of X G a_wat
  have F_fitg := fun_mk (st := s_fitg) l_fitg c_fitg k_fitg
  have B_fitg := F_fitg.binds (ps := ["wrongs", "sample"]) fun _ _ _ _ _ _ us hl => match us, hl with | [_, _], _ => rfl
  have g_fitg := PySem.W.mg_of X G a_fitg
  have F_mis := fun_mk (st := s_mis) l_mis c_mis k_mis
  have B_mis := F_mis.binds (ps := ["state", "k", "e"]) fun _ _ _ _ _ _ us hl => match us, hl with | [_, _, _], _ => rfl
  have g_mis := PySem.W.mg_of X G a_mis
  have F_mostw := fun_mk (st := s_mostw) l_mostw c_mostw k_mostw
  have B_mostw := F_mostw.binds (ps := ["wrongs", "sample"]) fun _ _ _ _ _ _ us hl => match us, hl with | [_, _], _ => rfl
  have g_mostw := PySem.W.mg_of X G a_mostw
  have F_tfa := fun_mk (st := s_tfa) l_tfa c_tfa k_tfa
  have B_tfa := F_tfa.binds (ps := ["differences", "members"]) fun _ _ _ _ _ _ us hl => match us, hl with | [_, _], _ => rfl
  have g_tfa := PySem.W.mg_of X G a_tfa
  have F_tell := fun_mk (st := s_tell) l_tell c_tell k_tell
  have B_tell := F_tell.binds (ps := ["state", "i"]) fun _ _ _ _ _ _ us hl => match us, hl with | [_, _], _ => rfl
  have g_tell := PySem.W.mg_of X G a_tell
  have F_begin := fun_mk (st := s_begin) l_begin c_begin k_begin
  have B_begin := F_begin.binds (ps := ["state", "cases", "truth"]) fun _ _ _ _ _ _ us hl => match us, hl with | [_, _, _], _ => rfl
  have g_begin := PySem.W.mg_of X G a_begin
  have F_add := fun_mk (st := s_add) l_add c_add k_add
  have B_add := F_add.binds (ps := ["state", "s"]) fun _ _ _ _ _ _ us hl => match us, hl with | [_, _], _ => rfl
  have g_add := PySem.W.mg_of X G a_add
  have F_drop := fun_mk (st := s_drop) l_drop c_drop k_drop
  have B_drop := F_drop.binds (ps := ["state", "i"]) fun _ _ _ _ _ _ us hl => match us, hl with | [_, _], _ => rfl
  have g_drop := PySem.W.mg_of X G a_drop
  have F_truth := fun_mk (st := s_truth) l_truth c_truth k_truth
  have B_truth := F_truth.binds (ps := ["state", "s"]) fun _ _ _ _ _ _ us hl => match us, hl with | [_, _], _ => rfl
  have g_truth := PySem.W.mg_of X G a_truth
  have F_guess := fun_mk (st := s_guess) l_guess c_guess k_guess
  have B_guess := F_guess.binds (ps := ["state", "i"]) fun _ _ _ _ _ _ us hl => match us, hl with | [_, _], _ => rfl
  have g_guess := PySem.W.mg_of X G a_guess
  have F_wrong := fun_mk (st := s_wrong) l_wrong c_wrong k_wrong
  have B_wrong := F_wrong.binds (ps := ["state", "i"]) fun _ _ _ _ _ _ us hl => match us, hl with | [_, _], _ => rfl
  have g_wrong := PySem.W.mg_of X G a_wrong
  have F_best := fun_mk (st := s_best) l_best c_best k_best
  have B_best := F_best.binds (ps := ["state"]) fun _ _ _ _ _ _ us hl => match us, hl with | [_], _ => rfl
  have g_best := PySem.W.mg_of X G a_best
  have F_aways := fun_mk (st := s_aways) l_aways c_aways k_aways
  have B_aways := F_aways.binds (ps := ["state", "s"]) fun _ _ _ _ _ _ us hl => match us, hl with | [_, _], _ => rfl
  have g_aways := PySem.W.mg_of X G a_aways
  have F_aevery := fun_mk (st := s_aevery) l_aevery c_aevery k_aevery
  have B_aevery := F_aevery.binds (ps := ["state", "s"]) fun _ _ _ _ _ _ us hl => match us, hl with | [_, _], _ => rfl
  have g_aevery := PySem.W.mg_of X G a_aevery
  have F_growth := fun_mk (st := s_growth) l_growth c_growth k_growth
  have B_growth := F_growth.binds (ps := ["state", "k"]) fun _ _ _ _ _ _ us hl => match us, hl with | [_, _], _ => rfl
  have g_growth := PySem.W.mg_of X G a_growth
  have F_adepth := fun_mk (st := s_adepth) l_adepth c_adepth k_adepth
  have B_adepth := F_adepth.binds (ps := ["state"]) fun _ _ _ _ _ _ us hl => match us, hl with | [_], _ => rfl
  have g_adepth := PySem.W.mg_of X G a_adepth
  have F_deep := fun_mk (st := s_deep) l_deep c_deep k_deep
  have B_deep := F_deep.binds (ps := ["state"]) fun _ _ _ _ _ _ us hl => match us, hl with | [_], _ => rfl
  have g_deep := PySem.W.mg_of X G a_deep
  have F_few := fun_mk (st := s_few) l_few c_few k_few
  have B_few := F_few.binds (ps := ["state", "n", "d"]) fun _ _ _ _ _ _ us hl => match us, hl with | [_, _, _], _ => rfl
  have g_few := PySem.W.mg_of X G a_few
  have F_fit := fun_mk (st := s_fit) l_fit c_fit k_fit
  have B_fit := F_fit.binds (ps := ["state", "s"]) fun _ _ _ _ _ _ us hl => match us, hl with | [_, _], _ => rfl
  have g_fit := PySem.W.mg_of X G a_fit
  have F_msl := fun_mk (st := s_msl) l_msl c_msl k_msl
  have B_msl := F_msl.binds (ps := ["state", "e", "s"]) fun _ _ _ _ _ _ us hl => match us, hl with | [_, _, _], _ => rfl
  have g_msl := PySem.W.mg_of X G a_msl
  have F_msg := fun_mk (st := s_msg) l_msg c_msg k_msg
  have B_msg := F_msg.binds (ps := ["state", "k", "e"]) fun _ _ _ _ _ _ us hl => match us, hl with | [_, _, _], _ => rfl
  have g_msg := PySem.W.mg_of X G a_msg
  have F_worst := fun_mk (st := s_worst) l_worst c_worst k_worst
  have B_worst := F_worst.binds (ps := ["state", "k"]) fun _ _ _ _ _ _ us hl => match us, hl with | [_, _], _ => rfl
  have g_worst := PySem.W.mg_of X G a_worst
  have F_byone := fun_mk (st := s_byone) l_byone c_byone k_byone
  have B_byone := F_byone.binds (ps := ["state", "k", "e"]) fun _ _ _ _ _ _ us hl => match us, hl with | [_, _, _], _ => rfl
  have g_byone := PySem.W.mg_of X G a_byone
  have F_enough := fun_mk (st := s_enough) l_enough c_enough k_enough
  have B_enough := F_enough.binds (ps := ["state", "e", "p", "q"]) fun _ _ _ _ _ _ us hl => match us, hl with | [_, _, _, _], _ => rfl
  have g_enough := PySem.W.mg_of X G a_enough
  have F_tells := fun_mk (st := s_tells) l_tells c_tells k_tells
  have B_tells := F_tells.binds (ps := ["state", "i"]) fun _ _ _ _ _ _ us hl => match us, hl with | [_, _], _ => rfl
  have g_tells := PySem.W.mg_of X G a_tells
  have F_hard := fun_mk (st := s_hard) l_hard c_hard k_hard
  have B_hard := F_hard.binds (ps := ["state"]) fun _ _ _ _ _ _ us hl => match us, hl with | [_], _ => rfl
  have g_hard := PySem.W.mg_of X G a_hard
  have F_parted := fun_mk (st := s_parted) l_parted c_parted k_parted
  have B_parted := F_parted.binds (ps := ["state", "s"]) fun _ _ _ _ _ _ us hl => match us, hl with | [_, _], _ => rfl
  have g_parted := PySem.W.mg_of X G a_parted
  have F_told := fun_mk (st := s_told) l_told c_told k_told
  have B_told := F_told.binds (ps := ["state"]) fun _ _ _ _ _ _ us hl => match us, hl with | [_], _ => rfl
  have g_told := PySem.W.mg_of X G a_told
  have F_ref := fun_mk (st := s_ref) l_ref c_ref k_ref
  have B_ref := F_ref.binds (ps := ["state", "letter", "number"]) fun _ _ _ _ _ _ us hl => match us, hl with | [_, _, _], _ => rfl
  have g_ref := PySem.W.mg_of X G a_ref
  have F_answer := fun_mk (st := s_answer) l_answer c_answer k_answer
  have B_answer := F_answer.binds (ps := ["state", "call", "given"]) fun _ _ _ _ _ _ us hl => match us, hl with | [_, _, _], _ => rfl
  have g_answer := PySem.W.mg_of X G a_answer
  have F_answers := fun_mk (st := s_answers) l_answers c_answers k_answers
  have B_answers := F_answers.binds (ps := ["calls"]) fun _ _ _ _ _ _ us hl => match us, hl with | [_], _ => rfl
  have g_answers := PySem.W.mg_of X G a_answers
  have tab : Tab K mg tc (fun c => ([r0, r1, r2, r3, r4, r5, r6, r7, r8, r9, r10, r11, r12, r13, r14, r15, r16, r17, r18, r19, r20, r21, r22] : List Addr).getD c 0) (fun c => ([f_begin, f_add, f_drop, f_truth, f_guess, f_wrong, f_best, f_aways, f_aevery, f_growth, f_adepth, f_deep, f_few, f_fit, f_msl, f_msg, f_worst, f_byone, f_enough, f_tells, f_hard, f_parted, f_told] : List Addr).getD c 0) (fun c => ([q0, q1, q2, q3, q4, q5, q6, q7, q8, q9, q10, q11, q12, q13, q14, q15, q16, q17, q18, q19, q20, q21, q22] : List Addr).getD c 0) := by
    refine ⟨PySem.W.mg_of X G aT, fun H => ?_, fun c hc H => ?_, fun c hc H => ?_⟩
    · exact Or.inr ⟨_, _, _, lT, rfl, rfl, by show 23 ≤ sizeLine; decide, .cons rfl (.cons rfl (.cons rfl (.cons rfl (.cons rfl (.cons rfl (.cons rfl (.cons rfl (.cons rfl (.cons rfl (.cons rfl (.cons rfl (.cons rfl (.cons rfl (.cons rfl (.cons rfl (.cons rfl (.cons rfl (.cons rfl (.cons rfl (.cons rfl (.cons rfl (.cons rfl (.nil)))))))))))))))))))))))⟩
    · match c, hc with
      | 0, _ => exact Or.inr ⟨_, _, _, lr0, rfl, rfl, by show 2 ≤ sizeLine; decide, .cons rfl (.cons rfl .nil)⟩
      | 1, _ => exact Or.inr ⟨_, _, _, lr1, rfl, rfl, by show 2 ≤ sizeLine; decide, .cons rfl (.cons rfl .nil)⟩
      | 2, _ => exact Or.inr ⟨_, _, _, lr2, rfl, rfl, by show 2 ≤ sizeLine; decide, .cons rfl (.cons rfl .nil)⟩
      | 3, _ => exact Or.inr ⟨_, _, _, lr3, rfl, rfl, by show 2 ≤ sizeLine; decide, .cons rfl (.cons rfl .nil)⟩
      | 4, _ => exact Or.inr ⟨_, _, _, lr4, rfl, rfl, by show 2 ≤ sizeLine; decide, .cons rfl (.cons rfl .nil)⟩
      | 5, _ => exact Or.inr ⟨_, _, _, lr5, rfl, rfl, by show 2 ≤ sizeLine; decide, .cons rfl (.cons rfl .nil)⟩
      | 6, _ => exact Or.inr ⟨_, _, _, lr6, rfl, rfl, by show 2 ≤ sizeLine; decide, .cons rfl (.cons rfl .nil)⟩
      | 7, _ => exact Or.inr ⟨_, _, _, lr7, rfl, rfl, by show 2 ≤ sizeLine; decide, .cons rfl (.cons rfl .nil)⟩
      | 8, _ => exact Or.inr ⟨_, _, _, lr8, rfl, rfl, by show 2 ≤ sizeLine; decide, .cons rfl (.cons rfl .nil)⟩
      | 9, _ => exact Or.inr ⟨_, _, _, lr9, rfl, rfl, by show 2 ≤ sizeLine; decide, .cons rfl (.cons rfl .nil)⟩
      | 10, _ => exact Or.inr ⟨_, _, _, lr10, rfl, rfl, by show 2 ≤ sizeLine; decide, .cons rfl (.cons rfl .nil)⟩
      | 11, _ => exact Or.inr ⟨_, _, _, lr11, rfl, rfl, by show 2 ≤ sizeLine; decide, .cons rfl (.cons rfl .nil)⟩
      | 12, _ => exact Or.inr ⟨_, _, _, lr12, rfl, rfl, by show 2 ≤ sizeLine; decide, .cons rfl (.cons rfl .nil)⟩
      | 13, _ => exact Or.inr ⟨_, _, _, lr13, rfl, rfl, by show 2 ≤ sizeLine; decide, .cons rfl (.cons rfl .nil)⟩
      | 14, _ => exact Or.inr ⟨_, _, _, lr14, rfl, rfl, by show 2 ≤ sizeLine; decide, .cons rfl (.cons rfl .nil)⟩
      | 15, _ => exact Or.inr ⟨_, _, _, lr15, rfl, rfl, by show 2 ≤ sizeLine; decide, .cons rfl (.cons rfl .nil)⟩
      | 16, _ => exact Or.inr ⟨_, _, _, lr16, rfl, rfl, by show 2 ≤ sizeLine; decide, .cons rfl (.cons rfl .nil)⟩
      | 17, _ => exact Or.inr ⟨_, _, _, lr17, rfl, rfl, by show 2 ≤ sizeLine; decide, .cons rfl (.cons rfl .nil)⟩
      | 18, _ => exact Or.inr ⟨_, _, _, lr18, rfl, rfl, by show 2 ≤ sizeLine; decide, .cons rfl (.cons rfl .nil)⟩
      | 19, _ => exact Or.inr ⟨_, _, _, lr19, rfl, rfl, by show 2 ≤ sizeLine; decide, .cons rfl (.cons rfl .nil)⟩
      | 20, _ => exact Or.inr ⟨_, _, _, lr20, rfl, rfl, by show 2 ≤ sizeLine; decide, .cons rfl (.cons rfl .nil)⟩
      | 21, _ => exact Or.inr ⟨_, _, _, lr21, rfl, rfl, by show 2 ≤ sizeLine; decide, .cons rfl (.cons rfl .nil)⟩
      | 22, _ => exact Or.inr ⟨_, _, _, lr22, rfl, rfl, by show 2 ≤ sizeLine; decide, .cons rfl (.cons rfl .nil)⟩
      | k + 23, q => exact absurd (show k + 23 < 23 from q) (by omega)
    · match c, hc with
      | 0, _ => exact Or.inr ⟨_, _, _, lq0, rfl, rfl, by show 2 ≤ sizeLine; decide, .cons ⟨_, rfl⟩ (.cons ⟨_, rfl⟩ (.nil))⟩
      | 1, _ => exact Or.inr ⟨_, _, _, lq1, rfl, rfl, by show 1 ≤ sizeLine; decide, .cons ⟨_, rfl⟩ (.nil)⟩
      | 2, _ => exact Or.inr ⟨_, _, _, lq2, rfl, rfl, by show 1 ≤ sizeLine; decide, .cons ⟨_, rfl⟩ (.nil)⟩
      | 3, _ => exact Or.inr ⟨_, _, _, lq3, rfl, rfl, by show 1 ≤ sizeLine; decide, .cons ⟨_, rfl⟩ (.nil)⟩
      | 4, _ => exact Or.inr ⟨_, _, _, lq4, rfl, rfl, by show 1 ≤ sizeLine; decide, .cons ⟨_, rfl⟩ (.nil)⟩
      | 5, _ => exact Or.inr ⟨_, _, _, lq5, rfl, rfl, by show 1 ≤ sizeLine; decide, .cons ⟨_, rfl⟩ (.nil)⟩
      | 6, _ => exact Or.inr ⟨_, _, _, lq6, rfl, rfl, by show 0 ≤ sizeLine; decide, .nil⟩
      | 7, _ => exact Or.inr ⟨_, _, _, lq7, rfl, rfl, by show 1 ≤ sizeLine; decide, .cons ⟨_, rfl⟩ (.nil)⟩
      | 8, _ => exact Or.inr ⟨_, _, _, lq8, rfl, rfl, by show 1 ≤ sizeLine; decide, .cons ⟨_, rfl⟩ (.nil)⟩
      | 9, _ => exact Or.inr ⟨_, _, _, lq9, rfl, rfl, by show 1 ≤ sizeLine; decide, .cons ⟨_, rfl⟩ (.nil)⟩
      | 10, _ => exact Or.inr ⟨_, _, _, lq10, rfl, rfl, by show 0 ≤ sizeLine; decide, .nil⟩
      | 11, _ => exact Or.inr ⟨_, _, _, lq11, rfl, rfl, by show 0 ≤ sizeLine; decide, .nil⟩
      | 12, _ => exact Or.inr ⟨_, _, _, lq12, rfl, rfl, by show 2 ≤ sizeLine; decide, .cons ⟨_, rfl⟩ (.cons ⟨_, rfl⟩ (.nil))⟩
      | 13, _ => exact Or.inr ⟨_, _, _, lq13, rfl, rfl, by show 1 ≤ sizeLine; decide, .cons ⟨_, rfl⟩ (.nil)⟩
      | 14, _ => exact Or.inr ⟨_, _, _, lq14, rfl, rfl, by show 2 ≤ sizeLine; decide, .cons ⟨_, rfl⟩ (.cons ⟨_, rfl⟩ (.nil))⟩
      | 15, _ => exact Or.inr ⟨_, _, _, lq15, rfl, rfl, by show 2 ≤ sizeLine; decide, .cons ⟨_, rfl⟩ (.cons ⟨_, rfl⟩ (.nil))⟩
      | 16, _ => exact Or.inr ⟨_, _, _, lq16, rfl, rfl, by show 1 ≤ sizeLine; decide, .cons ⟨_, rfl⟩ (.nil)⟩
      | 17, _ => exact Or.inr ⟨_, _, _, lq17, rfl, rfl, by show 2 ≤ sizeLine; decide, .cons ⟨_, rfl⟩ (.cons ⟨_, rfl⟩ (.nil))⟩
      | 18, _ => exact Or.inr ⟨_, _, _, lq18, rfl, rfl, by show 3 ≤ sizeLine; decide, .cons ⟨_, rfl⟩ (.cons ⟨_, rfl⟩ (.cons ⟨_, rfl⟩ (.nil)))⟩
      | 19, _ => exact Or.inr ⟨_, _, _, lq19, rfl, rfl, by show 1 ≤ sizeLine; decide, .cons ⟨_, rfl⟩ (.nil)⟩
      | 20, _ => exact Or.inr ⟨_, _, _, lq20, rfl, rfl, by show 0 ≤ sizeLine; decide, .nil⟩
      | 21, _ => exact Or.inr ⟨_, _, _, lq21, rfl, rfl, by show 1 ≤ sizeLine; decide, .cons ⟨_, rfl⟩ (.nil)⟩
      | 22, _ => exact Or.inr ⟨_, _, _, lq22, rfl, rfl, by show 0 ≤ sizeLine; decide, .nil⟩
      | k + 23, q => exact absurd (show k + 23 < 23 from q) (by omega)
  refine ⟨PySem.W.fnOf "answers" "answers" (defArgs s_answers) (defBody s_answers) (defScope s_answers) .none kV_answers dc_answers pm_answers an_answers cd_answers ct_answers, fun s us hu => match us, hu with | [_], _ => .of_eq rfl, fun base _ _ => ?_⟩
  have G_holds : FnOk P w K mg base CX0 1 f_holds _ ["members", "cases"] (spHolds) := ok_holds F_holds
  have G_size : FnOk P w K mg base CX0 1 f_size _ ["members"] (spSize) := ok_size F_size T.range T.sum
  have D_size : Def P w K mg base "size_of" 1 f_size ["members"] (spSize) := ⟨⟨_, G_size, B_size⟩, k_size, g_size⟩
  have G_all : FnOk P w K mg base CX0 1 f_all _ ["cases"] (spAll) := ok_all F_all T.range T.list
  have D_all : Def P w K mg base "all_sets" 1 f_all ["cases"] (spAll) := ⟨⟨_, G_all, B_all⟩, k_all, g_all⟩
  have G_sets : FnOk P w K mg base CX0 2 f_sets _ ["cases", "size"] (spSets) := ok_sets F_sets F_all F_size B_all B_size g_all g_size G_all G_size
  have D_sets : Def P w K mg base "sets_of_size" 2 f_sets ["cases", "size"] (spSets) := ⟨⟨_, G_sets, B_sets⟩, k_sets, g_sets⟩
  have G_many : FnOk P w K mg base CX0 1 f_many _ ["things", "size"] (spMany) := ok_many F_many T
  have D_many : Def P w K mg base "how_many_sets" 1 f_many ["things", "size"] (spMany) := ⟨⟨_, G_many, B_many⟩, k_many, g_many⟩
  have G_ways : FnOk P w K mg base CX0 1 f_ways _ ["guesses", "members"] (spWays K) := ok_ways F_ways
  have D_ways : Def P w K mg base "ways_parted" 1 f_ways ["guesses", "members"] (spWays K) := ⟨⟨_, G_ways, B_ways⟩, k_ways, g_ways⟩
  have G_every : FnOk P w K mg base CX0 2 f_every _ ["guesses", "members"] (spEvery K) := ok_every F_every F_ways F_size B_ways B_size g_ways g_size T.len G_ways G_size
  have G_depth : FnOk P w K mg base CX0 3 f_depth _ ["guesses", "cases"] (spDepth K) := ok_depth F_depth T F_all F_size F_every B_all B_size B_every g_all g_size g_every G_all G_size G_every
  have G_wset : FnOk P w K mg base CX0 1 f_wset _ ["state"] (spWset C) := ok_wset F_wset T
  have D_wset : Def P w K mg base "wrong_sets" 1 f_wset ["state"] (spWset C) := ⟨⟨_, G_wset, B_wset⟩, k_wset, g_wset⟩
  have G_wat : FnOk P w K mg base CX0 2 f_wat _ ["state", "e"] (spWat C) := ok_wat F_wat T D_wset D_size
  have D_wat : Def P w K mg base "wrong_on_at_least" 2 f_wat ["state", "e"] (spWat C) := ⟨⟨_, G_wat, B_wat⟩, k_wat, g_wat⟩
  have G_fitg : FnOk P w K mg base CX0 1 f_fitg _ ["wrongs", "sample"] (spFitg K) := ok_fitg F_fitg T
  have D_fitg : Def P w K mg base "fitting" 1 f_fitg ["wrongs", "sample"] (spFitg K) := ⟨⟨_, G_fitg, B_fitg⟩, k_fitg, g_fitg⟩
  have G_mis : FnOk P w K mg base CX0 3 f_mis _ ["state", "k", "e"] (spMis C) := ok_mis F_mis T D_wat D_sets D_fitg
  have D_mis : Def P w K mg base "misleading_samples" 3 f_mis ["state", "k", "e"] (spMis C) := ⟨⟨_, G_mis, B_mis⟩, k_mis, g_mis⟩
  have G_mostw : FnOk P w K mg base CX0 2 f_mostw _ ["wrongs", "sample"] (spMostw K) := ok_mostw F_mostw T D_fitg D_size
  have D_mostw : Def P w K mg base "most_wrong" 2 f_mostw ["wrongs", "sample"] (spMostw K) := ⟨⟨_, G_mostw, B_mostw⟩, k_mostw, g_mostw⟩
  have G_tfa : FnOk P w K mg base CX0 1 f_tfa _ ["differences", "members"] (spTfa K) := ok_tfa F_tfa T
  have D_tfa : Def P w K mg base "tells_from_all" 1 f_tfa ["differences", "members"] (spTfa K) := ⟨⟨_, G_tfa, B_tfa⟩, k_tfa, g_tfa⟩
  have G_tell : FnOk P w K mg base CX0 3 f_tell _ ["state", "i"] (spTell C) := ok_tell F_tell T D_all D_tfa D_size
  have D_tell : Def P w K mg base "telling_cases" 3 f_tell ["state", "i"] (spTell C) := ⟨⟨_, G_tell, B_tell⟩, k_tell, g_tell⟩
  have G_begin : FnOk P w K mg base CX0 2 f_begin _ ["state", "cases", "truth"] (spBegin C) := ok_begin F_begin T F_holds B_holds g_holds G_holds
  have G_add : FnOk P w K mg base CX0 1 f_add _ ["state", "s"] (spAdd C) := ok_add F_add T
  have G_drop : FnOk P w K mg base CX0 1 f_drop _ ["state", "i"] (spDrop C) := ok_drop F_drop T
  have G_truth : FnOk P w K mg base CX0 1 f_truth _ ["state", "s"] (spTruth C) := ok_truth F_truth T
  have G_guess : FnOk P w K mg base CX0 1 f_guess _ ["state", "i"] (spGuess C) := ok_guess F_guess T
  have G_wrong : FnOk P w K mg base CX0 2 f_wrong _ ["state", "i"] (spWrong C) := ok_wrong F_wrong T F_size B_size g_size G_size
  have G_best : FnOk P w K mg base CX0 2 f_best _ ["state"] (spBest C) := ok_best F_best T D_wset D_size
  have G_aways : FnOk P w K mg base CX0 2 f_aways _ ["state", "s"] (spAWays C) := ok_aways F_aways T F_ways B_ways g_ways G_ways
  have G_aevery : FnOk P w K mg base CX0 3 f_aevery _ ["state", "s"] (spAEvery C) := ok_aevery F_aevery T F_every B_every g_every G_every
  have G_growth : FnOk P w K mg base CX0 3 f_growth _ ["state", "k"] (spGrowth C) := ok_growth F_growth T F_ways F_sets B_ways B_sets g_ways g_sets G_ways G_sets
  have G_adepth : FnOk P w K mg base CX0 4 f_adepth _ ["state"] (spADepth C) := ok_adepth F_adepth T F_depth B_depth g_depth G_depth
  have G_deep : FnOk P w K mg base CX0 4 f_deep _ ["state"] (spDeep C) := ok_deep F_deep T F_depth F_every F_sets B_depth B_every B_sets g_depth g_every g_sets G_depth G_every G_sets
  have G_few : FnOk P w K mg base CX0 2 f_few _ ["state", "n", "d"] (spFew C) := ok_few F_few T D_many
  have G_fit : FnOk P w K mg base CX0 2 f_fit _ ["state", "s"] (spFit C) := ok_fit F_fit T D_fitg D_wset
  have G_msl : FnOk P w K mg base CX0 2 f_msl _ ["state", "e", "s"] (spMsl C) := ok_msl F_msl T D_fitg D_wset D_size
  have G_msg : FnOk P w K mg base CX0 4 f_msg _ ["state", "k", "e"] (spMsg C) := ok_msg F_msg T D_mis D_many
  have G_worst : FnOk P w K mg base CX0 4 f_worst _ ["state", "k"] (spWorst C) := ok_worst F_worst T D_wset D_mis D_mostw
  have G_byone : FnOk P w K mg base CX0 3 f_byone _ ["state", "k", "e"] (spByone C) := ok_byone F_byone T D_wat D_many D_size
  have G_enough : FnOk P w K mg base CX0 4 f_enough _ ["state", "e", "p", "q"] (spEnough C) := ok_enough F_enough T D_mis D_many
  have G_tells : FnOk P w K mg base CX0 4 f_tells _ ["state", "i"] (spTells C) := ok_tells F_tells T D_tell D_size
  have G_hard : FnOk P w K mg base CX0 4 f_hard _ ["state"] (spHard C) := ok_hard F_hard T D_tell D_size
  have G_parted : FnOk P w K mg base CX0 2 f_parted _ ["state", "s"] (spParted C) := ok_parted F_parted T D_size D_ways
  have G_told : FnOk P w K mg base CX0 1 f_told _ ["state"] (spTold C) := ok_told F_told T
  have G_ref : FnOk P w K mg base CX0 2 f_ref _ ["state", "letter", "number"] (spRef C) := ok_ref F_ref T F_holds B_holds g_holds G_holds
  have A4 : AnsOk P w K mg base C (fun c => ([f_begin, f_add, f_drop, f_truth, f_guess, f_wrong, f_best, f_aways, f_aevery, f_growth, f_adepth, f_deep, f_few, f_fit, f_msl, f_msg, f_worst, f_byone, f_enough, f_tells, f_hard, f_parted, f_told] : List Addr).getD c 0) 4 := by
    intro c hc
    match c, hc with
    | 0, _ => exact ⟨2, _, _, by decide, G_begin, k_begin, B_begin⟩
    | 1, _ => exact ⟨1, _, _, by decide, G_add, k_add, B_add⟩
    | 2, _ => exact ⟨1, _, _, by decide, G_drop, k_drop, B_drop⟩
    | 3, _ => exact ⟨1, _, _, by decide, G_truth, k_truth, B_truth⟩
    | 4, _ => exact ⟨1, _, _, by decide, G_guess, k_guess, B_guess⟩
    | 5, _ => exact ⟨2, _, _, by decide, G_wrong, k_wrong, B_wrong⟩
    | 6, _ => exact ⟨2, _, _, by decide, G_best, k_best, B_best⟩
    | 7, _ => exact ⟨2, _, _, by decide, G_aways, k_aways, B_aways⟩
    | 8, _ => exact ⟨3, _, _, by decide, G_aevery, k_aevery, B_aevery⟩
    | 9, _ => exact ⟨3, _, _, by decide, G_growth, k_growth, B_growth⟩
    | 10, _ => exact ⟨4, _, _, by decide, G_adepth, k_adepth, B_adepth⟩
    | 11, _ => exact ⟨4, _, _, by decide, G_deep, k_deep, B_deep⟩
    | 12, _ => exact ⟨2, _, _, by decide, G_few, k_few, B_few⟩
    | 13, _ => exact ⟨2, _, _, by decide, G_fit, k_fit, B_fit⟩
    | 14, _ => exact ⟨2, _, _, by decide, G_msl, k_msl, B_msl⟩
    | 15, _ => exact ⟨4, _, _, by decide, G_msg, k_msg, B_msg⟩
    | 16, _ => exact ⟨4, _, _, by decide, G_worst, k_worst, B_worst⟩
    | 17, _ => exact ⟨3, _, _, by decide, G_byone, k_byone, B_byone⟩
    | 18, _ => exact ⟨4, _, _, by decide, G_enough, k_enough, B_enough⟩
    | 19, _ => exact ⟨4, _, _, by decide, G_tells, k_tells, B_tells⟩
    | 20, _ => exact ⟨4, _, _, by decide, G_hard, k_hard, B_hard⟩
    | 21, _ => exact ⟨2, _, _, by decide, G_parted, k_parted, B_parted⟩
    | 22, _ => exact ⟨1, _, _, by decide, G_told, k_told, B_told⟩
    | k + 23, q => exact absurd (show k + 23 < 23 from q) (by omega)
  have G_answer : FnOk P w K mg base CX0 5 f_answer _ ["state", "call", "given"] (spAnswer K C) := ok_answer F_answer T tab A4 F_ref B_ref g_ref G_ref
  have G_i : FnOk P w K mg base CX0 1 fi _ ["self"] (spInit C) := ok_init Fi T
  exact ok_answers F_answers T tab ⟨mk, a_i, i_i, kc⟩ Fi bi G_i F_answer B_answer g_answer G_answer
end Pc
open PySem PySem.W PyProof.Rows
set_option maxRecDepth 100000 in
set_option maxHeartbeats 8000000 in
theorem PySem.Challenge.cw_partedcases_s01_answers_holds : PySem.Challenge.rw_partedcases_s01_answers.Holds := by
  w_on; k_headS; (case hw => exact ⟨[.list [.int 6]], by decide +kernel, by decide +kernel⟩)
  k_fillS
  refine L2.walk_specK (r := PySem.Challenge.rw_partedcases_s01_answers) (k := 6) (CX := L2.CX0) (ps := ["calls"]) (sp := Pc.spAnswers) (by decide +kernel) rfl rfl ⟨rfl, by decide, by decide⟩ (fun w h Y => PySem.W.kIn_of Y) ?F ?S (fun _ _ _ _ z => z)
  case F =>
    intro w mg fa h Y KX G hmg
    refine' Pc.all_mk KX G hmg ?aC ?a_i ?l_i ?c_i ?k_i ?i_i ?a_holds ?l_holds ?c_holds ?k_holds ?a_size ?l_size ?c_size ?k_size ?a_all ?l_all ?c_all ?k_all ?a_sets ?l_sets ?c_sets ?k_sets ?a_many ?l_many ?c_many ?k_many ?a_ways ?l_ways ?c_ways ?k_ways ?a_every ?l_every ?c_every ?k_every ?a_depth ?l_depth ?c_depth ?k_depth ?a_wset ?l_wset ?c_wset ?k_wset ?a_wat ?l_wat ?c_wat ?k_wat ?a_fitg ?l_fitg ?c_fitg ?k_fitg ?a_mis ?l_mis ?c_mis ?k_mis ?a_mostw ?l_mostw ?c_mostw ?k_mostw ?a_tfa ?l_tfa ?c_tfa ?k_tfa ?a_tell ?l_tell ?c_tell ?k_tell ?a_begin ?l_begin ?c_begin ?k_begin ?a_add ?l_add ?c_add ?k_add ?a_drop ?l_drop ?c_drop ?k_drop ?a_truth ?l_truth ?c_truth ?k_truth ?a_guess ?l_guess ?c_guess ?k_guess ?a_wrong ?l_wrong ?c_wrong ?k_wrong ?a_best ?l_best ?c_best ?k_best ?a_aways ?l_aways ?c_aways ?k_aways ?a_aevery ?l_aevery ?c_aevery ?k_aevery ?a_growth ?l_growth ?c_growth ?k_growth ?a_adepth ?l_adepth ?c_adepth ?k_adepth ?a_deep ?l_deep ?c_deep ?k_deep ?a_few ?l_few ?c_few ?k_few ?a_fit ?l_fit ?c_fit ?k_fit ?a_msl ?l_msl ?c_msl ?k_msl ?a_msg ?l_msg ?c_msg ?k_msg ?a_worst ?l_worst ?c_worst ?k_worst ?a_byone ?l_byone ?c_byone ?k_byone ?a_enough ?l_enough ?c_enough ?k_enough ?a_tells ?l_tells ?c_tells ?k_tells ?a_hard ?l_hard ?c_hard ?k_hard ?a_parted ?l_parted ?c_parted ?k_parted ?a_told ?l_told ?c_told ?k_told ?a_ref ?l_ref ?c_ref ?k_ref ?a_answer ?l_answer ?c_answer ?k_answer ?a_answers ?l_answers ?c_answers ?k_answers ?pg ?hd ?po ?sa ?mk ?kc ?nC ?nT ?nG ?b_len ?b_range ?b_sum ?b_list ?b_max ?b_min ?b_zip ?b_all ?n_NO_SUCH_GUESS ?n_NO_GUESSES ?n_ALIKE ?n_NOT_AS_TOLD ?n_FULL ?n_NONE_DOES ?n_NOT_BEGUN ?n_MOST_CASES ?n_MOST_GUESSES ?n_MOST_THINGS ?n_MOST_PARTS ?n_BEGIN ?aT ?lT ?lr0 ?lq0 ?lr1 ?lq1 ?lr2 ?lq2 ?lr3 ?lq3 ?lr4 ?lq4 ?lr5 ?lq5 ?lr6 ?lq6 ?lr7 ?lq7 ?lr8 ?lq8 ?lr9 ?lq9 ?lr10 ?lq10 ?lr11 ?lq11 ?lr12 ?lq12 ?lr13 ?lq13 ?lr14 ?lq14 ?lr15 ?lq15 ?lr16 ?lq16 ?lr17 ?lq17 ?lr18 ?lq18 ?lr19 ?lq19 ?lr20 ?lq20 ?lr21 ?lq21 ?lr22 ?lq22
    (case aC => k_is)
    (case a_i => k_is)
    (case l_i => k_is)
    (case c_i => k_is)
    (case k_i => k_is)
    (case i_i => k_is)
    (case a_holds => k_is)
    (case l_holds => k_is)
    (case c_holds => k_is)
    (case k_holds => k_is)
    (case a_size => k_is)
    (case l_size => k_is)
    (case c_size => k_is)
    (case k_size => k_is)
    (case a_all => k_is)
    (case l_all => k_is)
    (case c_all => k_is)
    (case k_all => k_is)
    (case a_sets => k_is)
    (case l_sets => k_is)
    (case c_sets => k_is)
    (case k_sets => k_is)
    (case a_many => k_is)
    (case l_many => k_is)
    (case c_many => k_is)
    (case k_many => k_is)
    (case a_ways => k_is)
    (case l_ways => k_is)
    (case c_ways => k_is)
    (case k_ways => k_is)
    (case a_every => k_is)
    (case l_every => k_is)
    (case c_every => k_is)
    (case k_every => k_is)
    (case a_depth => k_is)
    (case l_depth => k_is)
    (case c_depth => k_is)
    (case k_depth => k_is)
    (case a_wset => k_is)
    (case l_wset => k_is)
    (case c_wset => k_is)
    (case k_wset => k_is)
    (case a_wat => k_is)
    (case l_wat => k_is)
    (case c_wat => k_is)
    (case k_wat => k_is)
    (case a_fitg => k_is)
    (case l_fitg => k_is)
    (case c_fitg => k_is)
    (case k_fitg => k_is)
    (case a_mis => k_is)
    (case l_mis => k_is)
    (case c_mis => k_is)
    (case k_mis => k_is)
    (case a_mostw => k_is)
    (case l_mostw => k_is)
    (case c_mostw => k_is)
    (case k_mostw => k_is)
    (case a_tfa => k_is)
    (case l_tfa => k_is)
    (case c_tfa => k_is)
    (case k_tfa => k_is)
    (case a_tell => k_is)
    (case l_tell => k_is)
    (case c_tell => k_is)
    (case k_tell => k_is)
    (case a_begin => k_is)
    (case l_begin => k_is)
    (case c_begin => k_is)
    (case k_begin => k_is)
    (case a_add => k_is)
    (case l_add => k_is)
    (case c_add => k_is)
    (case k_add => k_is)
    (case a_drop => k_is)
    (case l_drop => k_is)
    (case c_drop => k_is)
    (case k_drop => k_is)
    (case a_truth => k_is)
    (case l_truth => k_is)
    (case c_truth => k_is)
    (case k_truth => k_is)
    (case a_guess => k_is)
    (case l_guess => k_is)
    (case c_guess => k_is)
    (case k_guess => k_is)
    (case a_wrong => k_is)
    (case l_wrong => k_is)
    (case c_wrong => k_is)
    (case k_wrong => k_is)
    (case a_best => k_is)
    (case l_best => k_is)
    (case c_best => k_is)
    (case k_best => k_is)
    (case a_aways => k_is)
    (case l_aways => k_is)
    (case c_aways => k_is)
    (case k_aways => k_is)
    (case a_aevery => k_is)
    (case l_aevery => k_is)
    (case c_aevery => k_is)
    (case k_aevery => k_is)
    (case a_growth => k_is)
    (case l_growth => k_is)
    (case c_growth => k_is)
    (case k_growth => k_is)
    (case a_adepth => k_is)
    (case l_adepth => k_is)
    (case c_adepth => k_is)
    (case k_adepth => k_is)
    (case a_deep => k_is)
    (case l_deep => k_is)
    (case c_deep => k_is)
    (case k_deep => k_is)
    (case a_few => k_is)
    (case l_few => k_is)
    (case c_few => k_is)
    (case k_few => k_is)
    (case a_fit => k_is)
    (case l_fit => k_is)
    (case c_fit => k_is)
    (case k_fit => k_is)
    (case a_msl => k_is)
    (case l_msl => k_is)
    (case c_msl => k_is)
    (case k_msl => k_is)
    (case a_msg => k_is)
    (case l_msg => k_is)
    (case c_msg => k_is)
    (case k_msg => k_is)
    (case a_worst => k_is)
    (case l_worst => k_is)
    (case c_worst => k_is)
    (case k_worst => k_is)
    (case a_byone => k_is)
    (case l_byone => k_is)
    (case c_byone => k_is)
    (case k_byone => k_is)
    (case a_enough => k_is)
    (case l_enough => k_is)
    (case c_enough => k_is)
    (case k_enough => k_is)
    (case a_tells => k_is)
    (case l_tells => k_is)
    (case c_tells => k_is)
    (case k_tells => k_is)
    (case a_hard => k_is)
    (case l_hard => k_is)
    (case c_hard => k_is)
    (case k_hard => k_is)
    (case a_parted => k_is)
    (case l_parted => k_is)
    (case c_parted => k_is)
    (case k_parted => k_is)
    (case a_told => k_is)
    (case l_told => k_is)
    (case c_told => k_is)
    (case k_told => k_is)
    (case a_ref => k_is)
    (case l_ref => k_is)
    (case c_ref => k_is)
    (case k_ref => k_is)
    (case a_answer => k_is)
    (case l_answer => k_is)
    (case c_answer => k_is)
    (case k_answer => k_is)
    (case a_answers => k_is)
    (case l_answers => k_is)
    (case c_answers => k_is)
    (case k_answers => k_is)
    (case pg => k_is)
    (case hd => k_is)
    (case po => k_is)
    (case sa => k_is)
    (case mk => k_is)
    (case kc => k_is)
    (case nC => k_is)
    (case nT => k_is)
    (case nG => k_is)
    (case b_len => k_is)
    (case b_range => k_is)
    (case b_sum => k_is)
    (case b_list => k_is)
    (case b_max => k_is)
    (case b_min => k_is)
    (case b_zip => k_is)
    (case b_all => k_is)
    (case n_NO_SUCH_GUESS => k_is)
    (case n_NO_GUESSES => k_is)
    (case n_ALIKE => k_is)
    (case n_NOT_AS_TOLD => k_is)
    (case n_FULL => k_is)
    (case n_NONE_DOES => k_is)
    (case n_NOT_BEGUN => k_is)
    (case n_MOST_CASES => k_is)
    (case n_MOST_GUESSES => k_is)
    (case n_MOST_THINGS => k_is)
    (case n_MOST_PARTS => k_is)
    (case n_BEGIN => k_is)
    (case aT => k_is)
    (case lT => k_is)
    (case lr0 => k_is)
    (case lq0 => k_is)
    (case lr1 => k_is)
    (case lq1 => k_is)
    (case lr2 => k_is)
    (case lq2 => k_is)
    (case lr3 => k_is)
    (case lq3 => k_is)
    (case lr4 => k_is)
    (case lq4 => k_is)
    (case lr5 => k_is)
    (case lq5 => k_is)
    (case lr6 => k_is)
    (case lq6 => k_is)
    (case lr7 => k_is)
    (case lq7 => k_is)
    (case lr8 => k_is)
    (case lq8 => k_is)
    (case lr9 => k_is)
    (case lq9 => k_is)
    (case lr10 => k_is)
    (case lq10 => k_is)
    (case lr11 => k_is)
    (case lq11 => k_is)
    (case lr12 => k_is)
    (case lq12 => k_is)
    (case lr13 => k_is)
    (case lq13 => k_is)
    (case lr14 => k_is)
    (case lq14 => k_is)
    (case lr15 => k_is)
    (case lq15 => k_is)
    (case lr16 => k_is)
    (case lq16 => k_is)
    (case lr17 => k_is)
    (case lq17 => k_is)
    (case lr18 => k_is)
    (case lq18 => k_is)
    (case lr19 => k_is)
    (case lq19 => k_is)
    (case lr20 => k_is)
    (case lq20 => k_is)
    (case lr21 => k_is)
    (case lq21 => k_is)
    (case lr22 => k_is)
    (case lq22 => k_is)
  case S =>
    intro K H xs a hO hwi hask hx
    cases hx with
    | cons h1 h2 =>
      cases h2
      cases h1 with
      | lst hs ha =>
        have e := L2.ints_dw a.1 _ ha
        subst e
        have q : ((Codec.inLen 0 240 a.1 && a.1.all (Codec.inInt 0 2147483647)) && true) = true := hwi
        rw [Bool.and_eq_true, Bool.and_eq_true] at q
        exact Pc.request hs (fun x hx => (Codec.inInt_iff.mp (List.all_eq_true.mp q.1.2 x hx)).1) hask fun H' p hp => .lst (L2.SqL.of hp) (L2.dw_ints _)

#print axioms PySem.Challenge.cw_partedcases_s01_answers_holds
