/- Which variables an expression names: of the program's text. Conditions: at most 1000000 parts. -/
import Derived.Test.YthihkpigikhflaaEyF
import Derived.Test.YthihkpigikhflaaExY
import Derived.RangeFuncBox
import Derived.Maps.AppendAt
namespace Go.Proofs.Ythihkpigikhflaa
open Go.RowKit Go.Shelf
set_option linter.unusedVariables false
set_option linter.unusedSimpArgs false
attribute [local go_sem] Oper.semAt_some

theorem stringCells (l : List ByteArray) : ∀ u ∈ l.map Value.string, u.oneCell' = true := by
  intro u hu
  simp only [List.mem_map] at hu
  obtain ⟨z, _, rfl⟩ := hu
  rfl

/-- Behind an append to a row that a box holds, and the store of it: as Boxed.appended, with another bound for the world. -/
theorem boxedAppended {W w1 : World} {n₀ m₀ B : Nat} {t e : TypeId} {size : Nat} {v v' : Value} {k m : Nat} {xs ys : List Value} {tmp : Obj}
    (hv : Boxed W B t v) (hte : t ≠ e) (hrow : W.ownsRow n₀ e size v k xs) (hn₀ : n₀ ≤ W.heap.size) (hm : m₀ ≤ n₀) (hB : m₀ ≤ B) (he : e ≠ 25) (ht : t ≠ 25)
    (hown' : w1.ownsRow n₀ e size v' m ys) (hgrow : (W.alloc tmp).grownBy w1 v.ownBlock) :
    Boxed w1 B t v ∧ Boxed (w1.setCell ⟨B, 0, none⟩ v') B t v' ∧ (w1.setCell ⟨B, 0, none⟩ v').ownsRow n₀ e size v' m ys ∧ KeepsOthers W (w1.setCell ⟨B, 0, none⟩ v') ∧ Below m₀ W (w1.setCell ⟨B, 0, none⟩ v') ∧ KeepsE W (w1.setCell ⟨B, 0, none⟩ v') := by
  have hv1 : Boxed w1 B t v := (hv.alloc tmp).kept hgrow (hv.not_row hte hrow)
  refine ⟨hv1, hv1.set v', hown'.kept (grownBy_setCell' w1 B v') (.inr (hv1.not_row hte hown').symm), ?_, ?_, ?_⟩
  · refine ((KeepsOthers.alloc W tmp).trans (KeepsOthers.of_grownBy hgrow fun j o ej hj => ?_)).trans (KeepsOthers.setCell _ _ _)
    rcases (hrow.alloc tmp).2 with ⟨rfl, _⟩ | ⟨g, cap, cur, rfl, _, hgb, _⟩
    · simp [Value.ownBlock] at ej
    · obtain rfl : g = j := by simpa [Value.ownBlock] using ej
      rw [hgb] at hj; cases hj; rfl
  · refine (((Below.refl m₀ W).alloc (by omega) tmp).grown hgrow (by simp; omega) fun j ej => ?_).setCell (p := ⟨B, 0, none⟩) hB v'
    have := (hrow.lt j ej).1
    omega
  · refine KeepsE.trans (fun k cs hh e1 => ?_) (KeepsE.setCell hv1 ht _)
    have hk := (Array.getElem?_eq_some_iff.1 e1).1
    have e2 := (Below.heap_alloc W tmp k hk).trans e1
    refine (hgrow.block k (by simp; omega) ?_).trans e2
    intro e3
    rcases hrow.2 with ⟨rfl, _⟩ | ⟨g, cap, cur, rfl, _, hgb, _⟩
    · simp [Value.ownBlock] at e3
    · obtain rfl : k = g := by simpa [Value.ownBlock] using e3
      rw [hgb] at e1
      injection e1 with e1
      injection e1 with _ e4
      exact he e4

/-- A block of cells abides the turn of a block that is no cells. -/
theorem blkOwn {β : Type} (B : Nat) (cs : Array Value) (t : TypeId) : Own (fun (_ : β) W => W.heap[B]? = some (Obj.cells cs t)) := fun s X Y row hs hg hrow =>
  (hg.block B (Array.getElem?_eq_some_iff.1 hs).1 (fun e' => by obtain ⟨o, ho, hc⟩ := hrow B e'.symm; rw [hs] at ho; cases ho; cases hc)).trans hs
theorem KeepsE.alloc (W : World) (o : Obj) : KeepsE W (W.alloc o) := KeepsE.of_below ((Below.refl _ _).alloc (Nat.le_refl _) o)

/-- Cells lie as they lay where a block of calls to come is emptied. -/
theorem cellKeptPut {W : World} {D : Nat} (hK : W.heap[D]? = some (.deferred (some []))) (p : Addr) : (W.putObj D (.deferred none)).cell? p = W.cell? p := by
  by_cases hp : p.block = D
  · have h1 : (W.putObj D (.deferred none)).heap[D]? = some (.deferred none) := World.putObj_heap_same (Array.getElem?_eq_some_iff.1 hK).1
    simp only [World.cell?, hp, h1, hK]
  · exact World.cell?_of_block (World.putObj_heap_other hp)

/-- The variables of the parts that have come. -/
def varsOf {w : World} {x : Ex} (pre : List (PtIn w x)) : List ByteArray := ((exs pre).filter isVar).map Ex.s
theorem varsOf_yes {w : World} {x : Ex} {pre : List (PtIn w x)} {y : PtIn w x} (h : isVar y.1.x = true) : varsOf (pre ++ [y]) = varsOf pre ++ [y.1.x.s] := by
  simp [varsOf, exs, List.filter_append, h]
theorem varsOf_no {w : World} {x : Ex} {pre : List (PtIn w x)} {y : PtIn w x} (h : isVar y.1.x = false) : varsOf (pre ++ [y]) = varsOf pre := by
  simp [varsOf, exs, List.filter_append, h]
theorem varsOf_len {w : World} {x : Ex} (pre : List (PtIn w x)) : (varsOf pre).length ≤ pre.length := by
  simp only [varsOf, List.length_map]
  exact Nat.le_trans (List.length_filter_le _ _) (by simp [exs])

set_option maxRecDepth 100000 in
set_option maxHeartbeats 2000000 in
theorem exVars_in (n : Nat) (hn : 6 ≤ n) (x : Ex) (A : Option Addr) (ca : Nat) (B : Option Addr) (cb : Nat) (w : World) (hr : rdX w x A B) (hs : sizeX x ≤ 1000000) :
    CallsIn Fence.wide n Try.prog 18 #[.agg (exA x A ca B cb)] w fun e w' => (∃ A2 c2, e = .returned (.slice A2 (varsX x).length c2) ∧ RdT w' A2 (varsX x).length (varsX x)) ∧ Below w.heap.size w w' := by
  have h1 : 1 ≤ n := by omega
  obtain ⟨i0, hi, hz0, hz1, hz2⟩ := info_parts infoString
  have HF := Lib.hid fun w1 h => box_facts w x A ca B cb w1 h hr
  have HR := Lib.hid hr
  have HEA := Lib.hid fun w1 (h : Below w.heap.size w w1) => exEach x A ca B cb w1 (hr.below h)
  have HST := Lib.hid fun (n Bs : Nat) (w0 w1 : World) h hb hbx => each_stops n Bs x A ca B cb w0 w1 h hb hbx
  have HLN := Lib.hid (partsX_len x)
  unfold exA at HEA ⊢
  refine callsIn_of_wp_marks Try.func18 rfl trivial ?_ rfl
  simp only [Try.ntmps18, List.size_toArray, List.length_cons, List.length_nil, Nat.reduceAdd, Nat.reduceSub, Array.replicate_succ, Array.replicate_zero, List.push_toArray, List.append_toArray, List.nil_append, List.cons_append]
  obtain ⟨hb1, hg1, hr1, hcell⟩ := HF.out _ rfl
  unfold exA at hb1 hg1 hr1 hcell
  have hbN : Below w.heap.size w ((w.alloc (.cells #[.int .i64 x.k, .int .i64 x.n, .string x.s, .int .i64 x.op, .slice A x.arms.length ca, .slice B x.subs.length cb] 25)).alloc (.cells #[.slice none 0 0] 22)) := hb1.alloc (Nat.le_of_lt hg1) _
  have hbM := (Below.refl (w.alloc (.cells #[.int .i64 x.k, .int .i64 x.n, .string x.s, .int .i64 x.op, .slice A x.arms.length ca, .slice B x.subs.length cb] 25)).heap.size (w.alloc (.cells #[.int .i64 x.k, .int .i64 x.n, .string x.s, .int .i64 x.op, .slice A x.arms.length ca, .slice B x.subs.length cb] 25))).alloc (Nat.le_refl _) (.cells #[.slice none 0 0] 22)
  have q0 := hcell _ hbM 0
  have q1 := hcell _ hbM 1
  have q2 := hcell _ hbM 2
  have q3 := hcell _ hbM 3
  have q4 := hcell _ hbM 4
  have q5 := hcell _ hbM 5
  have HEA2 := Lib.hid (HEA.out _ hbN)
  clear HF hb1 hg1 hr1 hcell hr HEA hbM
  gi_wp2_with fail
  refine ⟨trivial, (callsIn_wide.2 HEA2.out).mono ?_⟩
  rintro e w' ⟨rfl, rfl⟩
  gi_wp2_with fail
  have hN0 : Boxed ((w.alloc (.cells #[.int .i64 x.k, .int .i64 x.n, .string x.s, .int .i64 x.op, .slice A x.arms.length ca, .slice B x.subs.length cb] 25)).alloc (.cells #[.slice none 0 0] 22)) (w.heap.size + 1) 22 (.slice none 0 0) := by
    have := Boxed.new (w.alloc (.cells #[.int .i64 x.k, .int .i64 x.n, .string x.s, .int .i64 x.op, .slice A x.arms.length ca, .slice B x.subs.length cb] 25)) 22 (.slice none 0 0)
    rwa [World.size_alloc] at this
  have hsz : ((w.alloc (.cells #[.int .i64 x.k, .int .i64 x.n, .string x.s, .int .i64 x.op, .slice A x.arms.length ca, .slice B x.subs.length cb] 25)).alloc (.cells #[.slice none 0 0] 22)).heap.size = w.heap.size + 1 + 1 := by simp
  clear q0 q1 q2 q3 q4 q5 HEA2
  generalize (w.alloc _).alloc _ = w2 at *
  have hbk : (w2.alloc (.cells #[.int .i64 x.k, .int .i64 x.n, .string x.s, .int .i64 x.op, .slice A x.arms.length ca, .slice B x.subs.length cb] 25)).heap[w.heap.size + 1 + 1]? = some (Obj.cells (exA x A ca B cb) 25) := by
    rw [← hsz]
    exact World.alloc_heap_new _ _
  have hN1 := hN0.alloc (.cells #[.int .i64 x.k, .int .i64 x.n, .string x.s, .int .i64 x.op, .slice A x.arms.length ca, .slice B x.subs.length cb] 25)
  have hB1 := hbN.alloc hbN.size (.cells #[.int .i64 x.k, .int .i64 x.n, .string x.s, .int .i64 x.op, .slice A x.arms.length ca, .slice B x.subs.length cb] 25)
  have hs1 : (w2.alloc (.cells #[.int .i64 x.k, .int .i64 x.n, .string x.s, .int .i64 x.op, .slice A x.arms.length ca, .slice B x.subs.length cb] 25)).heap.size = w.heap.size + 3 := by simp [hsz]
  clear hN0 hbN
  generalize w2.alloc _ = W0 at *
  clear hsz
  refine wpIn_rangeFunc_ownH rfl h1 (gf := 31) (lb := #[.pointer (some ⟨w.heap.size + 1 + 1, 0, none⟩)]) rfl trivial (enters_of Try.func31 (by kernel_rfl) rfl)
    (HST.out (n - 1) (w.heap.size + 1 + 1) w W0 HR.out hB1 hbk) (fun h k => h.trans k) (kpE_b (by omega)) (Below.refl _ _) (fun _ => rfl)
    (fun (pre : List (PtIn w x)) W => (∃ v, Boxed W (w.heap.size + 1) 22 v ∧ W.ownsRow w.heap.size 9 1 v (varsOf pre).length ((varsOf pre).map Value.string) ∧ True) ∧ Below w.heap.size w W)
    (fun _ _ _ => False)
    (OwnFrom.and (Own.from (holdsRow_own w.heap.size (w.heap.size + 1) 22 9 1 (fun (pre : List (PtIn w x)) => (varsOf pre).length) (fun (pre : List (PtIn w x)) => (varsOf pre).map Value.string) (fun _ _ => True)) _) (ownFrom_below (Nat.le_refl _) (by omega)))
    (fun _ => ownFrom_pure _ _)
    ⟨⟨_, hN1, World.ownsRow_nil _ _ _ _, trivial⟩, hB1⟩
    (fun (y : PtIn w x) a' W => ∃ Bx : Nat, W.heap[Bx]? = some (Obj.cells (exA y.1.x y.1.A y.1.ca y.1.B y.1.cb) 25) ∧ a' = { tmps := #[.agg #[.int .i64 x.k, .int .i64 x.n, .string x.s, .int .i64 x.op, .slice A x.arms.length ca, .slice B x.subs.length cb], .pointer (some ⟨w.heap.size, 0, none⟩), .slice none 0 0, .pointer (some ⟨w.heap.size + 1, 0, none⟩), .pointer (some ⟨Bx, 0, none⟩), .agg #[.int .i64 x.k, .int .i64 x.n, .string x.s, .int .i64 x.op, .slice A x.arms.length ca, .slice B x.subs.length cb], .func (.func 31) #[] #[.pointer (some ⟨w.heap.size + 1 + 1, 0, none⟩)], .agg (exA y.1.x y.1.A y.1.ca y.1.B y.1.cb), undef, undef, undef, undef, undef, undef, undef, undef, undef, undef, undef, undef], defers := [] })
    (fun y a' s X Y row hs hg hr => by obtain ⟨Bx, h2, h3⟩ := hs; exact ⟨Bx, (blkOwn (β := Unit) Bx _ _).from W0.heap.size () X Y row h2 hg hr, h3⟩)
    ?assign ?body ?done ?stop
  case assign =>
    rintro l pre y W K ⟨⟨v, hv, hrw, _⟩, hB⟩ hK
    have hz : ∀ v : Value, (#[7] : Array Tmp).zip #[v] = #[(7, v)] := fun v => by first | rfl | simp
    simp only [encP, hz]
    unfold exA at hK ⊢
    gi_wp2
    exact hK _ _ ((KeepsOthers.alloc _ _).from _) (KpE.of_below ((Below.refl _ _).alloc (Nat.le_refl _) _) hB.size) ⟨⟨v, hv.alloc _, hrw.alloc _, trivial⟩, hB.alloc hB.size _⟩ ⟨W.heap.size, World.alloc_heap_new _ _, rfl⟩
  case body =>
    rintro l pre y a' W hl _ ⟨⟨v, hv, hrw, _⟩, hB⟩ ⟨Bx, hbx, rfl⟩ hlt
    have hcell : ∀ j, W.cell? ⟨Bx, j, none⟩ = (exA y.1.x y.1.A y.1.ca y.1.B y.1.cb)[j]? := fun j => by simp [World.cell?, hbx]
    have q0 := hcell 0
    have q2 := hcell 2
    have hc := hv.cell
    have hlt' : pre.length < 1000000 := by omega
    have hvl := varsOf_len pre
    have HYS := Lib.hid fun h => varsOf_yes (pre := pre) (y := y) h
    have HNO := Lib.hid fun h => varsOf_no (pre := pre) (y := y) h
    have HIV := Lib.hid (show isVar y.1.x = ((y.1.x.k == 3) || (y.1.x.k == 11) || (y.1.x.k == 12)) from rfl)
    have hBs := hB.size
    clear hcell hbx
    unfold exA at q0 q2 ⊢
    generalize y.1.x.k = k at *
    generalize y.1.x.s = s at *
    by_cases e3 : k = 3
    · subst e3
      have HE := Lib.hid (HYS.out (by rw [HIV.out]; rfl))
      gi_wp2_with (gi_at_builtin; refine wpListIn_append_own _ rfl _ _ 22 rfl w.heap.size 9 i0 (.string ByteArray.empty) 1 16 Try.underlying22 hi hz0 hz1 hz2 rfl (by decide) _ _ _ rfl (hrw.alloc _) ⟨W.heap.size, 0, none⟩ 1 1 [.string s] rfl rfl (cell_one_new _ _ _) (stringCells [s]) (by unfold maxLen; omega) (by omega) (by simp; omega) ?_; intro v' w1 hown' hgrow _; obtain ⟨g', cap', rfl⟩ := ownsRow_succ hown'; obtain ⟨hv1, hv2, hr2, hk2, hb2, he2⟩ := boxedAppended hv (by decide) hrw hBs (Nat.le_refl _) (Nat.le_succ _) (by decide) (by decide) hown' hgrow; have hc1 := hv1.cell; have hf1 := hv1.frozen)
      exact ⟨hk2.from _, ⟨hb2, he2⟩, ⟨_, hv2, by rw [HE.out, List.map_append, List.length_append]; exact hr2, trivial⟩, hB.trans hb2⟩
    by_cases e11 : k = 11
    · subst e11
      have HE := Lib.hid (HYS.out (by rw [HIV.out]; rfl))
      gi_wp2_with (gi_at_builtin; refine wpListIn_append_own _ rfl _ _ 22 rfl w.heap.size 9 i0 (.string ByteArray.empty) 1 16 Try.underlying22 hi hz0 hz1 hz2 rfl (by decide) _ _ _ rfl (hrw.alloc _) ⟨W.heap.size, 0, none⟩ 1 1 [.string s] rfl rfl (cell_one_new _ _ _) (stringCells [s]) (by unfold maxLen; omega) (by omega) (by simp; omega) ?_; intro v' w1 hown' hgrow _; obtain ⟨g', cap', rfl⟩ := ownsRow_succ hown'; obtain ⟨hv1, hv2, hr2, hk2, hb2, he2⟩ := boxedAppended hv (by decide) hrw hBs (Nat.le_refl _) (Nat.le_succ _) (by decide) (by decide) hown' hgrow; have hc1 := hv1.cell; have hf1 := hv1.frozen)
      exact ⟨hk2.from _, ⟨hb2, he2⟩, ⟨_, hv2, by rw [HE.out, List.map_append, List.length_append]; exact hr2, trivial⟩, hB.trans hb2⟩
    by_cases e12 : k = 12
    · subst e12
      have HE := Lib.hid (HYS.out (by rw [HIV.out]; rfl))
      gi_wp2_with (gi_at_builtin; refine wpListIn_append_own _ rfl _ _ 22 rfl w.heap.size 9 i0 (.string ByteArray.empty) 1 16 Try.underlying22 hi hz0 hz1 hz2 rfl (by decide) _ _ _ rfl (hrw.alloc _) ⟨W.heap.size, 0, none⟩ 1 1 [.string s] rfl rfl (cell_one_new _ _ _) (stringCells [s]) (by unfold maxLen; omega) (by omega) (by simp; omega) ?_; intro v' w1 hown' hgrow _; obtain ⟨g', cap', rfl⟩ := ownsRow_succ hown'; obtain ⟨hv1, hv2, hr2, hk2, hb2, he2⟩ := boxedAppended hv (by decide) hrw hBs (Nat.le_refl _) (Nat.le_succ _) (by decide) (by decide) hown' hgrow; have hc1 := hv1.cell; have hf1 := hv1.frozen)
      exact ⟨hk2.from _, ⟨hb2, he2⟩, ⟨_, hv2, by rw [HE.out, List.map_append, List.length_append]; exact hr2, trivial⟩, hB.trans hb2⟩
    have d3 : (k == 3) = false := by simpa using e3
    have d11 : (k == 11) = false := by simpa using e11
    have d12 : (k == 12) = false := by simpa using e12
    have HE := Lib.hid (HNO.out (by rw [HIV.out, d3, d11, d12]; rfl))
    gi_wp2_with fail
    exact ⟨(KeepsOthers.refl _).from _, KpE.refl _ _, ⟨v, hv, by rw [HE.out]; exact hrw, trivial⟩, hB⟩
  case done =>
    rintro D ys W hD hys ⟨⟨v, hv, hrw, _⟩, hB⟩ hK
    have hc := hv.cell
    have HV := Lib.hid (show varsOf ys = varsX x by unfold varsOf varsX; rw [hys])
    have hvl := varsOf_len ys
    have hyl : ys.length = sizeX x := by rw [← exs_len, hys, HLN.out]
    obtain ⟨A1, c1, rfl, hR1, _⟩ := RdT.of_own hrw (by omega)
    have HR1 := Lib.hid hR1
    clear hR1
    rw [HV.out] at HR1 hc
    gi_wp2_with fail
    have hbl := belowK_b (w := w) (Nat.le_refl _) W D (.deferred (some [])) (.deferred none) (by omega) hK rfl rfl
    refine ⟨by simp, .inl ⟨_, _, rfl, run_takeDeferred hK, ?_⟩⟩
    refine ⟨_, results_tmp rfl _ _ _, ⟨_, _, rfl, ?_⟩, hB.trans hbl⟩
    exact HR1.out.keep (by simp) fun p hp => cellKeptPut hK p
  case stop =>
    rintro D c pre W hD hpre h _
    exact h.elim

theorem exVars (x : Ex) (A : Option Addr) (ca : Nat) (B : Option Addr) (cb : Nat) (w : World) (hr : rdX w x A B) (hs : sizeX x ≤ 1000000) :
    Calls Try.prog 18 #[.agg (exA x A ca B cb)] w fun e w' => (∃ A2 c2, e = .returned (.slice A2 (varsX x).length c2) ∧ RdT w' A2 (varsX x).length (varsX x)) ∧ Below w.heap.size w w' :=
  callsIn_wide.1 (exVars_in 6 (Nat.le_refl _) x A ca B cb w hr hs)
end Go.Proofs.Ythihkpigikhflaa
