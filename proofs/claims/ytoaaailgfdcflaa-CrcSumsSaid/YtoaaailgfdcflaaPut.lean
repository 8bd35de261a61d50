/- What Put of octet returns, from 1 to 8 bytes. Conditions: none. -/
import Derived.Test.YtoaaailgfdcflaaBase
import Derived.Test.YtoaaailgfdcflaaOctM
import Derived.Test.YtoaaailgfdcflaaRows
namespace Go.Proofs.Ytoaaailgfdcflaa
open Go.RowKit
set_option linter.unusedVariables false

/-- What a call leaves that returns a slice of its own. -/
def Gives (k : IntKind) (w : World) (l : List Int) (e : Ending) (w' : World) : Prop :=
  ∃ A n c, e = .returned (.slice A n c) ∧ Rd k w' A n c l ∧ Below w.heap.size w w'


theorem Try.info5 : (Try.prog.info? 5).map (fun i => (i.zero, i.size, i.bytes)) = some (some (.int .u8 0), 1, 1) := by kernel_rfl

def putCell (a : Int) (s k j : Nat) : Value := .int .u8 (if s - k ≤ j then byteAt a (s - 1 - j) else 0)

theorem putL_wf (a : Int) (s : Nat) : ∀ z ∈ putL a s, (Lit.int .u8 z).wf = true := by
  intro z hz
  simp only [putL, List.mem_map] at hz
  obtain ⟨j, _, rfl⟩ := hz
  have := byteAt_bd a (s - 1 - j)
  simp [Lit.wf, IntKind.min, IntKind.max, IntKind.signed, IntKind.bits]
  omega

theorem pow_8 (k : Nat) : (2 : Int) ^ (8 * k) = 256 ^ k := by rw [Int.pow_mul]; rfl

theorem putCell_step {a : Int} {s k j : Nat} (hk : k < s) (hj : j < s) :
    (if j = s - 1 - k then Value.int .u8 (a / 2 ^ (8 * k) % 256) else putCell a s k j) = putCell a s (k + 1) j := by
  unfold putCell
  by_cases e : j = s - 1 - k
  · subst e
    rw [if_pos rfl, if_pos (by omega), pow_8, show s - 1 - (s - 1 - k) = k from by omega]
    rfl
  · rw [if_neg e]
    by_cases h : s - k ≤ j
    · rw [if_pos h, if_pos (by omega)]
    · rw [if_neg h, if_neg (by omega)]

set_option maxHeartbeats 400000 in
theorem octPut (a : Int) (s : Nat) (w : World) (h1 : 1 ≤ s) (h8 : s ≤ 8) (ha : 0 ≤ a) :
    Calls Try.prog 25 #[.int .u64 a, .int .i64 s] w fun e w' => Gives .u8 w (putL a s) e w' := by
  have hmk := fun W : World => mk_row (P := Try.prog) 24 5 (.int .u8 0) 1 Try.underlying24 Try.info5 rfl s (by omega) (by omega) W
  have h1' : ¬ (s : Int) < 1 := by omega
  have h8' : ¬ (8 : Int) < s := by omega
  go_enter Try.func25, Try.ntmps25
  go_wp2_with fail
  go_loopw [6, 16] (fun _ i wr => ∃ k : Nat, k ≤ s ∧ i = .int .i64 k ∧ wr.rowIs w.heap.size 5 s (putCell a s k) ∧ Below w.heap.size w wr) (fun _ i _ => s - (intOf i).toNat)
  case atStart =>
    refine ⟨0, Nat.zero_le _, rfl, (World.rowIs_made w (.int .u8 0) s 5).congr (fun i hi => ?_), (Below.refl _ _).alloc (Nat.le_refl _) _⟩
    unfold putCell
    rw [if_neg (by omega)]
  case round =>
    obtain ⟨k, hk, rfl, hrow, hbel⟩ := hrel
    by_cases hlt : k < s
    · have hc := hrow.cell (i := s - 1 - k) (by omega)
      have hf := hrow.frozen (s - 1 - k)
      clear hmk
      go_wp2
      go_roundw
      case rel => exact ⟨k + 1, by omega, by go_num, (hrow.set _ _).congr fun j hj => putCell_step hlt hj, hbel.setCell (Nat.le_refl _) _⟩
      case measure => simp [intOf]; omega
    · obtain rfl : k = s := by omega
      go_wp2_with fail
      go_ret
      refine ⟨_, _, _, rfl, ⟨putL_length _ _, Nat.le_refl _, by unfold maxLen; omega, putL_wf _ _, fun _ => ⟨_, _, rfl, hrow.lt, fun i hi => ?_⟩⟩, hbel⟩
      rw [Nat.zero_add, hrow.cell hi, putL_get _ _ _ hi, putCell, if_pos (by omega)]
end Go.Proofs.Ytoaaailgfdcflaa
