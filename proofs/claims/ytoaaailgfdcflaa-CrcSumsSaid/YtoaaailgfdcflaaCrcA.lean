/- What the register's eight moves by one byte return, and the sum of all bytes by the reference. Conditions: none. -/
import Derived.Test.YtoaaailgfdcflaaBase
import Derived.Test.YtoaaailgfdcflaaCrcM
import Derived.Test.YtoaaailgfdcflaaRows
namespace Go.Proofs.Ytoaaailgfdcflaa
open Go.RowKit
set_option linter.unusedVariables false

theorem stp_odd {r : Nat} (hr : r < 4294967296) (h : r % 2 = 1) : bits .xor .u32 ((r : Int) / 2) 3988292384 = ((stp r : Nat) : Int) := by
  have e : ((r : Int) / 2) = ((r / 2 : Nat) : Int) := by omega
  rw [e, show (3988292384 : Int) = ((3988292384 : Nat) : Int) from rfl, u32_xor_nat _ _ (by omega) (by decide), stp, if_pos h]
theorem stp_ev {r : Nat} (h : ¬ r % 2 = 1) : (r : Int) / 2 = ((stp r : Nat) : Int) := by
  rw [stp, if_neg h, Nat.xor_zero]
  omega

set_option maxHeartbeats 400000 in
theorem moved_any (n : Nat) (w : World) (hn : n < 4294967296) :
    Calls Try.prog 24 #[.int .u32 n] w fun e w' => e = .returned (.int .u32 (stps 8 n : Nat)) ∧ w = w' := by
  go_enter Try.func24, Try.ntmps24
  go_wp2_with fail
  go_loop [0, 4] (fun r i => ∃ k : Nat, k ≤ 8 ∧ i = .int .i64 k ∧ r = .int .u32 (stps k n : Nat)) (fun _ i => 8 - (intOf i).toNat)
  case atStart => exact ⟨0, by omega, rfl, rfl⟩
  case round =>
    obtain ⟨k, hk, rfl, rfl⟩ := hrel
    have hr := stps_lt k hn
    have HS := Lib.hid (stps_succ k n)
    generalize hE : stps k n = r at *
    have HE := Lib.hid hE
    clear hE
    by_cases hlt : k < 8
    · by_cases hb : r % 2 = 1
      · have h1 : bits .and .u32 (r : Int) 1 = 1 := by
          rw [show (1 : Int) = ((1 : Nat) : Int) from rfl, u32_and_nat _ _ hr (by decide), nat_mask1, hb]
        go_wp2_with fail
        go_round
        case rel => exact ⟨k + 1, by omega, by go_num, by rw [HS.out, stp_odd hr hb]⟩
        case measure => simp [intOf]; omega
      · have h1 : bits .and .u32 (r : Int) 1 = 0 := by
          rw [show (1 : Int) = ((1 : Nat) : Int) from rfl, u32_and_nat _ _ hr (by decide), nat_mask1, show r % 2 = 0 from by omega]
          rfl
        go_wp2_with fail
        go_round
        case rel => exact ⟨k + 1, by omega, by go_num, by rw [HS.out, stp_ev hb]⟩
        case measure => simp [intOf]; omega
    · obtain rfl : k = 8 := by omega
      go_wp2_with fail
      go_ret
      exact ⟨ret_int (by rw [HE.out]), rfl⟩

set_option maxHeartbeats 400000 in
theorem refOf (A : Option Addr) (n c : Nat) (l : List Int) (w : World) (h : Rd .u8 w A n c l) :
    Calls Try.prog 10 #[.slice A n c] w fun e w' => e = .returned (.int .u32 (crcN l : Nat)) ∧ w = w' := by
  have HL := Lib.hid h.len
  have hm := h.max
  have HB := Lib.hid (show Byt l from fun z hz => by simpa [Lit.wf, IntKind.min, IntKind.max, IntKind.signed, IntKind.bits] using h.2.2.2.1 z hz)
  go_enter Try.func10, Try.ntmps10
  go_wp2_with fail
  go_loop [3, 4] (fun a i => ∃ k : Nat, k ≤ n ∧ i = .int .i64 k ∧ a = .int .u32 (reg (l.take k) : Nat)) (fun _ i => n - (intOf i).toNat)
  case atStart => exact ⟨0, Nat.zero_le _, rfl, rfl⟩
  case round =>
    obtain ⟨k, hk, rfl, rfl⟩ := hrel
    have hr := reg_lt (l := l.take k) fun z hz => HB.out z (List.mem_of_mem_take hz)
    by_cases hlt : k < n
    · obtain ⟨b, off, rfl, hb, hc⟩ := h.at_ hlt
      have hx := h.u8 hlt
      have hc := hc k hlt
      have HS := Lib.hid (show reg (l.take (k + 1)) = stps 8 (reg (l.take k) ^^^ (l[k]?.getD 0).toNat) from by rw [take_snoc (by rw [HL.out]; exact hlt), crcN_snoc])
      have HX := Lib.hid (u32_xor (reg (l.take k)) (l[k]?.getD 0) (by omega) (by omega) hx.1 (by omega))
      have h0 : reg (l.take k) ^^^ (l[k]?.getD 0).toNat < 4294967296 := Nat.xor_lt_two_pow (n := 32) hr (by omega)
      rw [Int.toNat_natCast] at HX
      generalize hR : reg (l.take k) ^^^ (l[k]?.getD 0).toNat = R at *
      clear hR
      go_wp2_with fail
      go_loop [3, 5] (fun r i => ∃ j : Nat, j ≤ 8 ∧ i = .int .i64 j ∧ r = .int .u32 (stps j R : Nat)) (fun _ i => 8 - (intOf i).toNat)
      case atStart => exact ⟨0, by omega, rfl, by rw [HX.out]; rfl⟩
      case round =>
        obtain ⟨j, hj, rfl, rfl⟩ := hrel
        have hr' := stps_lt j h0
        have HJ := Lib.hid (stps_succ j R)
        generalize hE : stps j R = r at *
        have HE := Lib.hid hE
        clear hE
        by_cases hlt' : j < 8
        · by_cases hb : r % 2 = 1
          · have h1 : (r : Int) % 2 = 1 := by omega
            go_wp2_with fail
            go_round
            case rel => exact ⟨j + 1, by omega, by go_num, by rw [HJ.out, stp_odd hr' hb]⟩
            case measure => simp [intOf]; omega
          · have h1 : (r : Int) % 2 = 0 := by omega
            go_wp2_with fail
            go_round
            case rel => exact ⟨j + 1, by omega, by go_num, by rw [HJ.out, stp_ev hb]⟩
            case measure => simp [intOf]; omega
        · obtain rfl : j = 8 := by omega
          go_wp2_with fail
          go_round
          case rel => exact ⟨k + 1, by omega, by go_num, by rw [HS.out, HE.out]⟩
          case measure => simp [intOf]; omega
    · go_wp2_with fail
      go_ret
      exact ⟨ret_int (by rw [List.take_of_length_le (by rw [HL.out]; omega)] at hr ⊢; unfold crcN; omega), rfl⟩
end Go.Proofs.Ytoaaailgfdcflaa
