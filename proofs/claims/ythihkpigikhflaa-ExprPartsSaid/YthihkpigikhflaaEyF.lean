/- What expr.Each returns; how many parts an expression has: of the program's text. Conditions: at most 1000000 parts. -/
import Derived.Test.YthihkpigikhflaaEyI
namespace Go.Proofs.Ythihkpigikhflaa
open Go.RowKit Go.Shelf
set_option linter.unusedVariables false
set_option linter.unusedSimpArgs false
attribute [local go_sem] Oper.semAt_some

set_option maxRecDepth 100000 in
set_option maxHeartbeats 2000000 in
theorem exEach (x : Ex) (A : Option Addr) (ca : Nat) (B : Option Addr) (cb : Nat) (w : World) (hr : rdX w x A B) :
    Calls Try.prog 21 #[.agg (exA x A ca B cb)] w fun r w' => r = .returned (.func (.func 31) #[] #[.pointer (some ⟨w.heap.size, 0, none⟩)]) ∧ w' = w.alloc (Obj.cells (exA x A ca B cb) 25) := by
  have hmk : ∀ fn first cap w, (Instr.makeFunc fn first cap).run Try.prog w = .ok (.func fn first cap) w := fun _ _ _ _ => rfl
  clear hr
  unfold exA
  go_enter Try.func21, Try.ntmps21
  go_wp2_with fail
  go_ret
  exact ⟨rfl, rfl⟩

theorem box_facts2 (w : World) (x : Ex) (A : Option Addr) (ca : Nat) (B : Option Addr) (cb : Nat) (w1 : World) (h : w.alloc (.cells (exA x A ca B cb) 25) = w1) : w1.heap[w.heap.size]? = some (Obj.cells (exA x A ca B cb) 25) := by
  subst h
  exact World.alloc_heap_new _ _
theorem KeepsE.setCell {W : World} {B : Nat} {t : TypeId} {v : Value} (h : Boxed W B t v) (ht : t ≠ 25) (u : Value) : KeepsE W (W.setCell ⟨B, 0, none⟩ u) := fun k cs hh e => by
  have hne : some k ≠ some B := by
    intro e'
    injection e' with e'
    subst e'
    rw [show W.heap[k]? = _ from h] at e
    injection e with e
    injection e with _ e
    exact ht e
  have hk := (Array.getElem?_eq_some_iff.1 e).1
  exact ((grownBy_setCell' W B u).block k hk hne).trans e
theorem exs_part {w0 : World} {e : Ex} (pre : List (PtIn w0 e)) : pre.length = (exs pre).length := (exs_len pre).symm

set_option maxRecDepth 100000 in
set_option maxHeartbeats 2000000 in
theorem exSize_in (n : Nat) (hn : 6 ≤ n) (x : Ex) (A : Option Addr) (ca : Nat) (B : Option Addr) (cb : Nat) (w : World) (hr : rdX w x A B) (hs : sizeX x ≤ 1000000) :
    CallsIn Fence.wide n Try.prog 13 #[.agg (exA x A ca B cb)] w fun e w' => e = .returned (.int .i64 (sizeX x : Nat)) ∧ Below w.heap.size w w' := by
  have h1 : 1 ≤ n := by omega
  have HF := Lib.hid fun w1 h => box_facts w x A ca B cb w1 h hr
  have HF2 := Lib.hid fun w1 h => box_facts2 w x A ca B cb w1 h
  have HR := Lib.hid hr
  have HEA := Lib.hid fun w1 (h : Below w.heap.size w w1) => exEach x A ca B cb w1 (hr.below h)
  have HST := Lib.hid fun (n Bs : Nat) (w0 w1 : World) h hb hbx => each_stops n Bs x A ca B cb w0 w1 h hb hbx
  have HLN := Lib.hid (partsX_len x)
  unfold exA at HEA ⊢
  refine callsIn_of_wp_marks Try.func13 rfl trivial ?_ rfl
  simp only [Try.ntmps13, List.size_toArray, List.length_cons, List.length_nil, Nat.reduceAdd, Nat.reduceSub, Array.replicate_succ, Array.replicate_zero, List.push_toArray, List.append_toArray, List.nil_append, List.cons_append]
  obtain ⟨hb1, hg1, hr1, hcell⟩ := HF.out _ rfl
  unfold exA at hb1 hg1 hr1 hcell
  have hbN : Below w.heap.size w ((w.alloc (.cells #[.int .i64 x.k, .int .i64 x.n, .string x.s, .int .i64 x.op, .slice A x.arms.length ca, .slice B x.subs.length cb] 25)).alloc (.cells #[.int .i64 0] 3)) := hb1.alloc (Nat.le_of_lt hg1) _
  have hbM := (Below.refl (w.alloc (.cells #[.int .i64 x.k, .int .i64 x.n, .string x.s, .int .i64 x.op, .slice A x.arms.length ca, .slice B x.subs.length cb] 25)).heap.size (w.alloc (.cells #[.int .i64 x.k, .int .i64 x.n, .string x.s, .int .i64 x.op, .slice A x.arms.length ca, .slice B x.subs.length cb] 25))).alloc (Nat.le_refl _) (.cells #[.int .i64 0] 3)
  have q0 := hcell _ hbM 0
  have q1 := hcell _ hbM 1
  have q2 := hcell _ hbM 2
  have q3 := hcell _ hbM 3
  have q4 := hcell _ hbM 4
  have q5 := hcell _ hbM 5
  have HEA2 := Lib.hid (HEA.out _ hbN)
  clear HF HF2 hb1 hg1 hr1 hcell hr HEA hbM
  gi_wp2_with fail
  refine ⟨trivial, (callsIn_wide.2 HEA2.out).mono ?_⟩
  rintro e w' ⟨rfl, rfl⟩
  gi_wp2_with fail
  have hN0 : Boxed ((w.alloc (.cells #[.int .i64 x.k, .int .i64 x.n, .string x.s, .int .i64 x.op, .slice A x.arms.length ca, .slice B x.subs.length cb] 25)).alloc (.cells #[.int .i64 0] 3)) (w.heap.size + 1) 3 (.int .i64 0) := by
    have := Boxed.new (w.alloc (.cells #[.int .i64 x.k, .int .i64 x.n, .string x.s, .int .i64 x.op, .slice A x.arms.length ca, .slice B x.subs.length cb] 25)) 3 (.int .i64 0)
    rwa [World.size_alloc] at this
  have hsz : ((w.alloc (.cells #[.int .i64 x.k, .int .i64 x.n, .string x.s, .int .i64 x.op, .slice A x.arms.length ca, .slice B x.subs.length cb] 25)).alloc (.cells #[.int .i64 0] 3)).heap.size = w.heap.size + 1 + 1 := by simp
  clear q0 q1 q2 q3 q4 q5 HEA2
  generalize (w.alloc _).alloc _ = w2 at *
  have hbk : (w2.alloc (.cells #[.int .i64 x.k, .int .i64 x.n, .string x.s, .int .i64 x.op, .slice A x.arms.length ca, .slice B x.subs.length cb] 25)).heap[w.heap.size + 1 + 1]? = some (Obj.cells (exA x A ca B cb) 25) := by
    rw [← hsz]
    exact World.alloc_heap_new _ _
  have hN1 := hN0.alloc (.cells #[.int .i64 x.k, .int .i64 x.n, .string x.s, .int .i64 x.op, .slice A x.arms.length ca, .slice B x.subs.length cb] 25)
  have hB1 := hbN.alloc hbN.size (.cells #[.int .i64 x.k, .int .i64 x.n, .string x.s, .int .i64 x.op, .slice A x.arms.length ca, .slice B x.subs.length cb] 25)
  have hs1 : (w2.alloc (.cells #[.int .i64 x.k, .int .i64 x.n, .string x.s, .int .i64 x.op, .slice A x.arms.length ca, .slice B x.subs.length cb] 25)).heap.size = w.heap.size + 3 := by simp [hsz]
  clear hN0 hbN
  generalize w2.alloc _ = W0 at *
  clear hsz
  refine wpIn_rangeFunc_ownG rfl h1 (gf := 31) (lb := #[.pointer (some ⟨w.heap.size + 1 + 1, 0, none⟩)]) rfl trivial (enters_of Try.func31 (by kernel_rfl) rfl)
    (HST.out (n - 1) (w.heap.size + 1 + 1) w W0 HR.out hB1 hbk) (fun h k => h.trans k) (kpE_b (by omega)) (Below.refl _ _) (fun _ => rfl)
    (fun (pre : List (PtIn w x)) W => Boxed W (w.heap.size + 1) 3 (.int .i64 (pre.length : Nat)) ∧ Below w.heap.size w W)
    (fun _ _ _ => False)
    (OwnFrom.and (Own.from (boxed_own _ _ (fun (pre : List (PtIn w x)) => Value.int .i64 (pre.length : Nat))) _) (ownFrom_below (Nat.le_refl _) (by omega)))
    (fun _ => ownFrom_pure _ _)
    ⟨hN1, hB1⟩
    (fun y => { tmps := #[.agg #[.int .i64 x.k, .int .i64 x.n, .string x.s, .int .i64 x.op, .slice A x.arms.length ca, .slice B x.subs.length cb], .pointer (some ⟨w.heap.size, 0, none⟩), .int .i64 0, .pointer (some ⟨w.heap.size + 1, 0, none⟩), .agg #[.int .i64 x.k, .int .i64 x.n, .string x.s, .int .i64 x.op, .slice A x.arms.length ca, .slice B x.subs.length cb], .func (.func 31) #[] #[.pointer (some ⟨w.heap.size + 1 + 1, 0, none⟩)], .agg (exA y.1.x y.1.A y.1.ca y.1.B y.1.cb), undef, undef, undef], defers := [] }) ?assign ?body ?done ?stop
  case assign =>
    intro l y W K hK
    have hz : ∀ v : Value, (#[6] : Array Tmp).zip #[v] = #[(6, v)] := fun v => by first | rfl | simp
    simp only [encP, hz]
    gi_wp2
    simpa using hK
  case body =>
    rintro l pre y W ⟨hb, hB⟩ hlt
    have e1 := hb.cell
    have f1 := hb.frozen
    have hlt' : pre.length < 1000000 := by omega
    have HNX := Lib.hid (show Value.int IntKind.i64 ((pre.length : Int) + 1) = .int .i64 (((pre ++ [y]).length : Nat) : Int) by simp)
    gi_wp2_with fail
    exact ⟨(KeepsOthers.setCell _ _ _).from _, ⟨(Below.refl _ _).setCell (p := ⟨w.heap.size + 1, 0, none⟩) (Nat.le_succ _) _, KeepsE.setCell hb (by decide) _⟩, by rw [← HNX.out]; exact hb.set _, hB.setCell (p := ⟨w.heap.size + 1, 0, none⟩) (Nat.le_succ _) _⟩
  case done =>
    rintro D ys W hD hys ⟨hb, hB⟩ hK
    have e1 := hb.cell
    have HYS := Lib.hid (show ys.length = sizeX x by rw [← exs_len, hys, HLN.out])
    gi_wp2_with fail
    refine ⟨by simp, .inl ⟨_, _, rfl, run_takeDeferred hK, ?_⟩⟩
    exact ⟨_, results_tmp rfl _ _ _, by rw [← HYS.out]; rfl, hB.trans (belowK_b (w := w) (Nat.le_refl _) W D _ _ (by omega) hK rfl rfl)⟩
  case stop =>
    rintro D c pre W hD hpre h _
    exact h.elim

theorem exSize (x : Ex) (A : Option Addr) (ca : Nat) (B : Option Addr) (cb : Nat) (w : World) (hr : rdX w x A B) (hs : sizeX x ≤ 1000000) :
    Calls Try.prog 13 #[.agg (exA x A ca B cb)] w fun e w' => e = .returned (.int .i64 (sizeX x : Nat)) ∧ Below w.heap.size w w' :=
  callsIn_wide.1 (exSize_in 6 (Nat.le_refl _) x A ca B cb w hr hs)
end Go.Proofs.Ythihkpigikhflaa
