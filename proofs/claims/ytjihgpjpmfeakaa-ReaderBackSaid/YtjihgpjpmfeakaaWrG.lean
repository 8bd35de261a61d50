/- What the reference's Num of a writer does. Conditions: what is written is less than memory holds. -/
import Derived.Test.YtjihgpjpmfeakaaWrF
namespace Go.Proofs.Ytjihgpjpmfeakaa
open Go.RowKit
set_option linter.unusedVariables false

set_option maxHeartbeats 1600000 in
theorem rwNum_sym (base b : Nat) (l : List Int) (g : Option Nat) (n z : Int) (w : World) (h : RwAt w base b (some l) g)
    (hz : decide (z < 1) = true ∨ (decide (z < 1) = false ∧ decide (4 < z) = true) ∨ (decide (z < 1) = false ∧ decide (4 < z) = false ∧ decide (n < 0) = true)) :
    Calls Try.prog 24 #[.pointer (some ⟨b, 0, none⟩), .int .i64 n, .int .i64 z] w fun e w' => WroteR w base b none g e w' := by
  have hbad : w.cell? ⟨b, 1, none⟩ = some (.bool false) := h.bad
  obtain ⟨A, m, c, h0⟩ := h.shape
  have f0 := h.fz 0
  have f1 := h.fz 1
  have H := Lib.hid h.fails
  clear h
  rcases hz with z1 | ⟨z1, z2⟩ | ⟨z1, z2, z3⟩
  · go_enter Try.func24, Try.ntmps24
    go_wp2_with fail
    go_loop [6, 7] (fun tp i => ∃ k : Nat, k ≤ 4 ∧ i = .int .i64 k ∧ tp = .int .i64 (256 ^ k)) (fun _ i => 4 - (intOf i).toNat)
    case atStart => exact ⟨0, by omega, rfl, rfl⟩
    case round =>
      obtain ⟨k, hk, rfl, rfl⟩ := hrel
      by_cases hlt : (k : Int) < z ∧ k < 4
      · obtain rfl | rfl | rfl | rfl : k = 0 ∨ k = 1 ∨ k = 2 ∨ k = 3 := by omega
        · have d1 : decide ((0 : Int) < z) = true := by simp; omega
          clear hlt
          go_wp2_with fail
          go_round
          case rel => exact ⟨1, by omega, rfl, rfl⟩
          case measure => simp [intOf]
        · have d1 : decide ((1 : Int) < z) = true := by simp; omega
          clear hlt
          go_wp2_with fail
          go_round
          case rel => exact ⟨2, by omega, rfl, rfl⟩
          case measure => simp [intOf]
        · have d1 : decide ((2 : Int) < z) = true := by simp; omega
          clear hlt
          go_wp2_with fail
          go_round
          case rel => exact ⟨3, by omega, rfl, rfl⟩
          case measure => simp [intOf]
        · have d1 : decide ((3 : Int) < z) = true := by simp; omega
          clear hlt
          go_wp2_with fail
          go_round
          case rel => exact ⟨4, by omega, rfl, rfl⟩
          case measure => simp [intOf]
      · have hd : decide ((k : Int) < z) = false ∨ (decide ((k : Int) < z) = true ∧ decide ((k : Int) < 4) = false) := by
          simp
          omega
        clear hlt
        rcases hd with d1 | ⟨d1, d2⟩
        all_goals
          go_wp2_with fail
          first | (refine bodyPost_ret (results_none rfl _ _ _) rfl ?_) | go_end0
          exact ⟨rfl, g, H.out, ((Mine.refl _ _ _).set _ _).set _ _, Goes.refl _ _⟩
  · go_enter Try.func24, Try.ntmps24
    go_wp2_with fail
    go_loop [6, 7] (fun tp i => ∃ k : Nat, k ≤ 4 ∧ i = .int .i64 k ∧ tp = .int .i64 (256 ^ k)) (fun _ i => 4 - (intOf i).toNat)
    case atStart => exact ⟨0, by omega, rfl, rfl⟩
    case round =>
      obtain ⟨k, hk, rfl, rfl⟩ := hrel
      by_cases hlt : (k : Int) < z ∧ k < 4
      · obtain rfl | rfl | rfl | rfl : k = 0 ∨ k = 1 ∨ k = 2 ∨ k = 3 := by omega
        · have d1 : decide ((0 : Int) < z) = true := by simp; omega
          clear hlt
          go_wp2_with fail
          go_round
          case rel => exact ⟨1, by omega, rfl, rfl⟩
          case measure => simp [intOf]
        · have d1 : decide ((1 : Int) < z) = true := by simp; omega
          clear hlt
          go_wp2_with fail
          go_round
          case rel => exact ⟨2, by omega, rfl, rfl⟩
          case measure => simp [intOf]
        · have d1 : decide ((2 : Int) < z) = true := by simp; omega
          clear hlt
          go_wp2_with fail
          go_round
          case rel => exact ⟨3, by omega, rfl, rfl⟩
          case measure => simp [intOf]
        · have d1 : decide ((3 : Int) < z) = true := by simp; omega
          clear hlt
          go_wp2_with fail
          go_round
          case rel => exact ⟨4, by omega, rfl, rfl⟩
          case measure => simp [intOf]
      · have hd : decide ((k : Int) < z) = false ∨ (decide ((k : Int) < z) = true ∧ decide ((k : Int) < 4) = false) := by
          simp
          omega
        clear hlt
        rcases hd with d1 | ⟨d1, d2⟩
        all_goals
          go_wp2_with fail
          first | (refine bodyPost_ret (results_none rfl _ _ _) rfl ?_) | go_end0
          exact ⟨rfl, g, H.out, ((Mine.refl _ _ _).set _ _).set _ _, Goes.refl _ _⟩
  · go_enter Try.func24, Try.ntmps24
    go_wp2_with fail
    go_loop [6, 7] (fun tp i => ∃ k : Nat, k ≤ 4 ∧ i = .int .i64 k ∧ tp = .int .i64 (256 ^ k)) (fun _ i => 4 - (intOf i).toNat)
    case atStart => exact ⟨0, by omega, rfl, rfl⟩
    case round =>
      obtain ⟨k, hk, rfl, rfl⟩ := hrel
      by_cases hlt : (k : Int) < z ∧ k < 4
      · obtain rfl | rfl | rfl | rfl : k = 0 ∨ k = 1 ∨ k = 2 ∨ k = 3 := by omega
        · have d1 : decide ((0 : Int) < z) = true := by simp; omega
          clear hlt
          go_wp2_with fail
          go_round
          case rel => exact ⟨1, by omega, rfl, rfl⟩
          case measure => simp [intOf]
        · have d1 : decide ((1 : Int) < z) = true := by simp; omega
          clear hlt
          go_wp2_with fail
          go_round
          case rel => exact ⟨2, by omega, rfl, rfl⟩
          case measure => simp [intOf]
        · have d1 : decide ((2 : Int) < z) = true := by simp; omega
          clear hlt
          go_wp2_with fail
          go_round
          case rel => exact ⟨3, by omega, rfl, rfl⟩
          case measure => simp [intOf]
        · have d1 : decide ((3 : Int) < z) = true := by simp; omega
          clear hlt
          go_wp2_with fail
          go_round
          case rel => exact ⟨4, by omega, rfl, rfl⟩
          case measure => simp [intOf]
      · have hd : decide ((k : Int) < z) = false ∨ (decide ((k : Int) < z) = true ∧ decide ((k : Int) < 4) = false) := by
          simp
          omega
        clear hlt
        rcases hd with d1 | ⟨d1, d2⟩
        all_goals
          go_wp2_with fail
          first | (refine bodyPost_ret (results_none rfl _ _ _) rfl ?_) | go_end0
          exact ⟨rfl, g, H.out, ((Mine.refl _ _ _).set _ _).set _ _, Goes.refl _ _⟩

set_option maxHeartbeats 1600000 in
theorem rwNum_over1 (base b : Nat) (l : List Int) (g : Option Nat) (n : Int) (w : World) (h : RwAt w base b (some l) g) (hn : 256 ≤ n) :
    Calls Try.prog 24 #[.pointer (some ⟨b, 0, none⟩), .int .i64 n, .int .i64 1] w fun e w' => WroteR w base b none g e w' := by
  have hbad : w.cell? ⟨b, 1, none⟩ = some (.bool false) := h.bad
  obtain ⟨A, m, c, h0⟩ := h.shape
  have f0 := h.fz 0
  have f1 := h.fz 1
  have H := Lib.hid h.fails
  clear h
  go_enter Try.func24, Try.ntmps24
  go_wp2_with fail
  go_loop [6, 7] (fun tp i => ∃ k : Nat, k ≤ 1 ∧ i = .int .i64 k ∧ tp = .int .i64 (256 ^ k)) (fun _ i => 1 - (intOf i).toNat)
  case atStart => exact ⟨0, by omega, rfl, rfl⟩
  case round =>
    obtain ⟨k, hk, rfl, rfl⟩ := hrel
    obtain rfl | rfl : k = 0 ∨ k = 1 := by omega
    · go_wp2_with fail
      go_round
      case rel => exact ⟨1, by omega, rfl, rfl⟩
      case measure => simp [intOf]
    · go_wp2_with fail
      first | (refine bodyPost_ret (results_none rfl _ _ _) rfl ?_) | go_end0
      exact ⟨rfl, g, H.out, ((Mine.refl _ _ _).set _ _).set _ _, Goes.refl _ _⟩

set_option maxHeartbeats 1600000 in
theorem rwNum_over2 (base b : Nat) (l : List Int) (g : Option Nat) (n : Int) (w : World) (h : RwAt w base b (some l) g) (hn : 65536 ≤ n) :
    Calls Try.prog 24 #[.pointer (some ⟨b, 0, none⟩), .int .i64 n, .int .i64 2] w fun e w' => WroteR w base b none g e w' := by
  have hbad : w.cell? ⟨b, 1, none⟩ = some (.bool false) := h.bad
  obtain ⟨A, m, c, h0⟩ := h.shape
  have f0 := h.fz 0
  have f1 := h.fz 1
  have H := Lib.hid h.fails
  clear h
  go_enter Try.func24, Try.ntmps24
  go_wp2_with fail
  go_loop [6, 7] (fun tp i => ∃ k : Nat, k ≤ 2 ∧ i = .int .i64 k ∧ tp = .int .i64 (256 ^ k)) (fun _ i => 2 - (intOf i).toNat)
  case atStart => exact ⟨0, by omega, rfl, rfl⟩
  case round =>
    obtain ⟨k, hk, rfl, rfl⟩ := hrel
    obtain rfl | rfl | rfl : k = 0 ∨ k = 1 ∨ k = 2 := by omega
    · go_wp2_with fail
      go_round
      case rel => exact ⟨1, by omega, rfl, rfl⟩
      case measure => simp [intOf]
    · go_wp2_with fail
      go_round
      case rel => exact ⟨2, by omega, rfl, rfl⟩
      case measure => simp [intOf]
    · go_wp2_with fail
      first | (refine bodyPost_ret (results_none rfl _ _ _) rfl ?_) | go_end0
      exact ⟨rfl, g, H.out, ((Mine.refl _ _ _).set _ _).set _ _, Goes.refl _ _⟩

set_option maxHeartbeats 1600000 in
theorem rwNum_over3 (base b : Nat) (l : List Int) (g : Option Nat) (n : Int) (w : World) (h : RwAt w base b (some l) g) (hn : 16777216 ≤ n) :
    Calls Try.prog 24 #[.pointer (some ⟨b, 0, none⟩), .int .i64 n, .int .i64 3] w fun e w' => WroteR w base b none g e w' := by
  have hbad : w.cell? ⟨b, 1, none⟩ = some (.bool false) := h.bad
  obtain ⟨A, m, c, h0⟩ := h.shape
  have f0 := h.fz 0
  have f1 := h.fz 1
  have H := Lib.hid h.fails
  clear h
  go_enter Try.func24, Try.ntmps24
  go_wp2_with fail
  go_loop [6, 7] (fun tp i => ∃ k : Nat, k ≤ 3 ∧ i = .int .i64 k ∧ tp = .int .i64 (256 ^ k)) (fun _ i => 3 - (intOf i).toNat)
  case atStart => exact ⟨0, by omega, rfl, rfl⟩
  case round =>
    obtain ⟨k, hk, rfl, rfl⟩ := hrel
    obtain rfl | rfl | rfl | rfl : k = 0 ∨ k = 1 ∨ k = 2 ∨ k = 3 := by omega
    · go_wp2_with fail
      go_round
      case rel => exact ⟨1, by omega, rfl, rfl⟩
      case measure => simp [intOf]
    · go_wp2_with fail
      go_round
      case rel => exact ⟨2, by omega, rfl, rfl⟩
      case measure => simp [intOf]
    · go_wp2_with fail
      go_round
      case rel => exact ⟨3, by omega, rfl, rfl⟩
      case measure => simp [intOf]
    · go_wp2_with fail
      first | (refine bodyPost_ret (results_none rfl _ _ _) rfl ?_) | go_end0
      exact ⟨rfl, g, H.out, ((Mine.refl _ _ _).set _ _).set _ _, Goes.refl _ _⟩

set_option maxHeartbeats 1600000 in
theorem rwNum_over4 (base b : Nat) (l : List Int) (g : Option Nat) (n : Int) (w : World) (h : RwAt w base b (some l) g) (hn : 4294967296 ≤ n) :
    Calls Try.prog 24 #[.pointer (some ⟨b, 0, none⟩), .int .i64 n, .int .i64 4] w fun e w' => WroteR w base b none g e w' := by
  have hbad : w.cell? ⟨b, 1, none⟩ = some (.bool false) := h.bad
  obtain ⟨A, m, c, h0⟩ := h.shape
  have f0 := h.fz 0
  have f1 := h.fz 1
  have H := Lib.hid h.fails
  clear h
  go_enter Try.func24, Try.ntmps24
  go_wp2_with fail
  go_loop [6, 7] (fun tp i => ∃ k : Nat, k ≤ 4 ∧ i = .int .i64 k ∧ tp = .int .i64 (256 ^ k)) (fun _ i => 4 - (intOf i).toNat)
  case atStart => exact ⟨0, by omega, rfl, rfl⟩
  case round =>
    obtain ⟨k, hk, rfl, rfl⟩ := hrel
    obtain rfl | rfl | rfl | rfl | rfl : k = 0 ∨ k = 1 ∨ k = 2 ∨ k = 3 ∨ k = 4 := by omega
    · go_wp2_with fail
      go_round
      case rel => exact ⟨1, by omega, rfl, rfl⟩
      case measure => simp [intOf]
    · go_wp2_with fail
      go_round
      case rel => exact ⟨2, by omega, rfl, rfl⟩
      case measure => simp [intOf]
    · go_wp2_with fail
      go_round
      case rel => exact ⟨3, by omega, rfl, rfl⟩
      case measure => simp [intOf]
    · go_wp2_with fail
      go_round
      case rel => exact ⟨4, by omega, rfl, rfl⟩
      case measure => simp [intOf]
    · go_wp2_with fail
      first | (refine bodyPost_ret (results_none rfl _ _ _) rfl ?_) | go_end0
      exact ⟨rfl, g, H.out, ((Mine.refl _ _ _).set _ _).set _ _, Goes.refl _ _⟩
end Go.Proofs.Ytjihgpjpmfeakaa
