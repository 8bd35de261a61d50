/- What Get of octet, and of its reference, returns. Conditions: none. -/
import Derived.Test.YtjihgpjpmfeakaaBase
import Derived.Test.YtjihgpjpmfeakaaOctM
import Derived.Test.YtjihgpjpmfeakaaRows
namespace Go.Proofs.Ytjihgpjpmfeakaa
open Go.RowKit
set_option linter.unusedVariables false

theorem get_add {g x : Int} (h0 : 0 ≤ x) (h1 : x ≤ 255) : IntKind.u64.wrap (IntKind.u64.wrap (g * 256) + x) = getStep g x := by
  unfold getStep
  simp only [IntKind.wrap_u64]
  omega

theorem get_or {g x : Int} (h0 : 0 ≤ x) (h1 : x ≤ 255) : bits .or .u64 (IntKind.u64.wrap (g * 256)) x = getStep g x := by
  have e : IntKind.u64.wrap (g * 256) = (((g % 72057594037927936).toNat * 256 : Nat) : Int) := by rw [IntKind.wrap_u64]; omega
  obtain ⟨X, rfl⟩ := Int.eq_ofNat_of_zero_le h0
  rw [e, u64_or_nat _ _ (by omega) (by omega)]
  have e2 : (g % 72057594037927936).toNat * 256 ||| X = (g % 72057594037927936).toNat * 256 + X := by
    have := Nat.two_pow_add_eq_or_of_lt (i := 8) (b := X) (by omega) (g % 72057594037927936).toNat
    rw [Nat.mul_comm] at this
    exact this.symm
  rw [e2]
  unfold getStep
  omega

set_option maxHeartbeats 400000 in
theorem refGet (A : Option Addr) (n c : Nat) (l : List Int) (w : World) (h : Rd .u8 w A n c l) :
    Calls Try.prog 37 #[.slice A n c] w fun e w' => e = .returned (.int .u64 (getL l)) ∧ w = w' := by
  have HL := Lib.hid h.len
  have hm := h.max
  go_enter Try.func37, Try.ntmps37
  go_wp2_with fail
  go_loop [3, 4] (fun a i => ∃ k : Nat, k ≤ n ∧ i = .int .i64 k ∧ a = .int .u64 (getL (l.take k))) (fun _ i => n - (intOf i).toNat)
  case atStart => exact ⟨0, Nat.zero_le _, rfl, rfl⟩
  case round =>
    obtain ⟨k, hk, rfl, rfl⟩ := hrel
    have hg := getL_bd (l.take k)
    by_cases hlt : k < n
    · obtain ⟨b, off, rfl, hb, hc⟩ := h.at_ hlt
      have hx := h.u8 hlt
      have hc := hc k hlt
      go_wp2
      go_round
      case rel => exact ⟨k + 1, by omega, by go_num, by rw [take_snoc (by rw [HL.out]; exact hlt), getL_snoc, get_add hx.1 hx.2]⟩
      case measure => simp [intOf]; omega
    · go_wp2
      go_ret
      exact ⟨ret_int (by rw [List.take_of_length_le (by rw [HL.out]; omega)]), rfl⟩

set_option maxHeartbeats 400000 in
theorem octGet (A : Option Addr) (n c : Nat) (l : List Int) (w : World) (h : Rd .u8 w A n c l) :
    Calls Try.prog 35 #[.slice A n c] w fun e w' => e = .returned (.int .u64 (getL l)) ∧ w = w' := by
  have HL := Lib.hid h.len
  have hm := h.max
  go_enter Try.func35, Try.ntmps35
  go_wp2_with fail
  go_loop [3, 5, 8] (fun a _ i => ∃ k : Nat, k ≤ n ∧ i = .int .i64 k ∧ a = .int .u64 (getL (l.take k))) (fun _ _ i => n - (intOf i).toNat)
  case atStart => exact ⟨0, Nat.zero_le _, rfl, rfl⟩
  case round =>
    obtain ⟨k, hk, rfl, rfl⟩ := hrel
    have hg := getL_bd (l.take k)
    by_cases hlt : k < n
    · obtain ⟨b, off, rfl, hb, hc⟩ := h.at_ hlt
      have hx := h.u8 hlt
      have hc := hc k hlt
      go_wp2
      go_round
      case rel => exact ⟨k + 1, by omega, by go_num, by rw [take_snoc (by rw [HL.out]; exact hlt), getL_snoc, get_or hx.1 hx.2]⟩
      case measure => simp [intOf]; omega
    · go_wp2
      go_ret
      exact ⟨ret_int (by rw [List.take_of_length_le (by rw [HL.out]; omega)]), rfl⟩

end Go.Proofs.Ytjihgpjpmfeakaa
