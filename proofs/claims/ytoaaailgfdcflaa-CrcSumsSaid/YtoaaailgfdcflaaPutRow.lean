/- What Put of octet returns, as a row of its own. Conditions: none. -/
import Derived.Test.YtoaaailgfdcflaaPut
namespace Go.Proofs.Ytoaaailgfdcflaa
open Go.RowKit
set_option linter.unusedVariables false

set_option maxHeartbeats 400000 in
theorem octPutRow (a : Int) (s : Nat) (w : World) (h1 : 1 ≤ s) (h8 : s ≤ 8) (ha : 0 ≤ a) :
    Calls Try.prog 25 #[.int .u64 a, .int .i64 s] w fun e w' => e = .returned (.slice (some ⟨w.heap.size, 0, none⟩) s s) ∧ w'.rowIs w.heap.size 5 s (putCell a s s) ∧ Below w.heap.size w w' := by
  have hmk := fun W : World => mk_row (P := Try.prog) 24 5 (.int .u8 0) 1 Try.underlying24 Try.info5 rfl s (by omega) (by omega) W
  have h1' : ¬ (s : Int) < 1 := by omega
  have h8' : ¬ (8 : Int) < s := by omega
  go_enter Try.func25, Try.ntmps25
  go_wp2_with fail
  go_loopw [6, 16] (fun _ i wr => ∃ k : Nat, k ≤ s ∧ i = .int .i64 k ∧ wr.rowIs w.heap.size 5 s (putCell a s k) ∧ Below w.heap.size w wr) (fun _ i _ => s - (intOf i).toNat)
  case atStart =>
    refine ⟨0, Nat.zero_le _, rfl, (World.rowIs_made w (.int .u8 0) s 5).congr (fun i hi => ?_), (Below.refl _ _).alloc (Nat.le_refl _) _⟩
    unfold putCell
    rw [if_neg (by omega)]
  case round =>
    obtain ⟨k, hk, rfl, hrow, hbel⟩ := hrel
    by_cases hlt : k < s
    · have hc := hrow.cell (i := s - 1 - k) (by omega)
      have hf := hrow.frozen (s - 1 - k)
      clear hmk
      go_wp2
      go_roundw
      case rel => exact ⟨k + 1, by omega, by go_num, (hrow.set _ _).congr fun j hj => putCell_step hlt hj, hbel.setCell (Nat.le_refl _) _⟩
      case measure => simp [intOf]; omega
    · obtain rfl : k = s := by omega
      go_wp2_with fail
      go_ret
      exact ⟨rfl, hrow, hbel⟩
end Go.Proofs.Ytoaaailgfdcflaa
