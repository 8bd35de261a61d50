/- What the reference's Num of a writer does when it writes. Conditions: what is written is less than memory holds. -/
import Derived.Test.YtjihgpjpmfeakaaWrG
import Derived.Deep.RegionLaw
namespace Go.Proofs.Ytjihgpjpmfeakaa
open Go.RowKit
set_option linter.unusedVariables false

theorem own_below {w w' : World} {base : Nat} {e : TypeId} {size n : Nat} {v : Value} {xs : List Value} (h : w.ownsRow base e size v n xs) (hb : Below w.heap.size w w') : w'.ownsRow base e size v n xs :=
  h.kept (row := none) ⟨hb.os, hb.tape, hb.output, hb.size, fun k hk _ => hb.block k hk⟩ (by cases v.ownBlock <;> simp)

set_option maxHeartbeats 1600000 in
theorem rwNum_in1 (base b : Nat) (l : List Int) (g : Option Nat) (n : Int) (w : World) (h : RwAt w base b (some l) g) (h0 : 0 ≤ n) (hn : n < 256) (hl : l.length + 4 ≤ 140737488355328) (hB : base ≤ w.heap.size) :
    Calls Try.prog 24 #[.pointer (some ⟨b, 0, none⟩), .int .i64 n, .int .i64 1] w fun e w' => WroteR w base b (some (l ++ putL n 1)) g e w' := by
  obtain ⟨i0, hi, hz0, hz1, hz2⟩ := info_parts Try.info5
  have hbad : w.cell? ⟨b, 1, none⟩ = some (.bool false) := h.bad
  obtain ⟨A, m, c, hrow, hown, hg, hb, hlen⟩ := h.open_
  have hc0 : w.cell? ⟨b, 0, none⟩ = some (.slice A m c) := hrow.cell (by omega)
  have f0 := h.fz 0
  have hw : IntKind.u64.wrap n = n := by rw [IntKind.wrap_u64]; omega
  have HP := Lib.hid (fun W : World => refPut n 1 W (by omega) (by omega) h0 (Lib.hid (by omega)))
  have HRow := Lib.hid hrow
  have HO := Lib.hid hown
  have HG := Lib.hid hg
  have HBt := Lib.hid hb
  have hm : m + 4 ≤ 140737488355328 := by omega
  clear h hrow hown hg hb hlen hl
  have hd0 : decide (n < 0) = false := by simp; omega
  go_enter Try.func24, Try.ntmps24
  go_wp2_with fail
  go_loop [6, 7] (fun tp i => ∃ k : Nat, k ≤ 1 ∧ i = .int .i64 k ∧ tp = .int .i64 (256 ^ k)) (fun _ i => 1 - (intOf i).toNat)
  case atStart => exact ⟨0, by omega, rfl, rfl⟩
  case round =>
    obtain ⟨k, hk, rfl, rfl⟩ := hrel
    obtain rfl | rfl : k = 0 ∨ k = 1 := by omega
    · go_wp2_with fail
      go_round
      case rel => exact ⟨1, by omega, rfl, rfl⟩
      case measure => simp [intOf]
    · go_wp2_with fail
      go_region_law (first
        | (refine step_append_lies _ (by rfl) _ _ _ (by rfl) base 5 i0 (.int .u8 0) 1 1 Try.underlying22 hi hz0 hz1 hz2 rfl (by decide) (.slice A m c) m (l.map (Value.int .u8)) (by rfl) HO1.out ⟨bb, off, none⟩ 1 c1 ((putL n 1).map (Value.int .u8)) (by rfl) (by simp [putL_length]) HN1.out (one_cells _) (by omega) (by unfold maxLen; omega) (by omega) (Nat.le_trans hB HB1.out.size) _ rfl ?_
           intro g1 cap1 w4 hown4 hgrow4 hat4 hlt4
           have HRow4 := Lib.hid (HRow1.out.of_block (hgrow4.block b HRow1.out.lt (own_row_ne HO1.out HRow1.out (by decide))))
           have hy2 : w4.cell? ⟨b, 0, none⟩ = some (.slice A m c) := HRow4.out.cell (by omega)
           have fy2 := HRow4.out.frozen 0)
        | (go_simp
           go_at_call 44
           refine (HP.out _).mono ?_
           rintro e w3 ⟨A1, n1, c1, rfl, hrd1, hb1, hloc1⟩
           have HB1 := Lib.hid ((below_drewN (Below.refl w.heap.size w) 1).trans (hb1.mono (Nat.le_refl _)))
           obtain rfl : 1 = n1 := by have := hrd1.len; rw [putL_length] at this; exact this
           obtain ⟨bb, off, rfl, hbb, hcc⟩ := hrd1.at_ (i := 0) (by omega)
           have HN1 := Lib.hid hrd1.news
           have HRow1 := Lib.hid (HRow.out.of_block (HB1.out.block b HRow.out.lt))
           have HO1 := Lib.hid (own_below HO.out HB1.out)
           have hy1 : w3.cell? ⟨b, 0, none⟩ = some (.slice A m c) := HRow1.out.cell (by omega)
           clear hrd1 hb1 hloc1 hbb hcc))
      all_goals
        rw [← List.map_append] at hown4
        have HO4 := Lib.hid hown4
        have HGr := Lib.hid hgrow4
        have HAt := Lib.hid hat4
        clear hown4 hgrow4 hat4 hlt4 hc0 hy1 hy2 f0 fy2
        go_wp2_with fail
        go_end0
        have hM : Mine w w4 b g := (Mine.below_ HB1.out).trans (Mine.row (HG.out ▸ HGr.out)) (.inl rfl)
        refine ⟨rfl, some g1, rw_stored HRow4.out HO4.out (fun z hz => (List.mem_append.1 hz).elim (HBt.out z) (putL_byt n 1 z)), hM.set 0 _, ?_⟩
        rcases HAt.out with h | h
        · exact .inl (by rw [← HG.out, h])
        · exact .inr ⟨_, rfl, by rw [h]; exact HB1.out.size⟩

set_option maxHeartbeats 1600000 in
theorem rwNum_in2 (base b : Nat) (l : List Int) (g : Option Nat) (n : Int) (w : World) (h : RwAt w base b (some l) g) (h0 : 0 ≤ n) (hn : n < 65536) (hl : l.length + 4 ≤ 140737488355328) (hB : base ≤ w.heap.size) :
    Calls Try.prog 24 #[.pointer (some ⟨b, 0, none⟩), .int .i64 n, .int .i64 2] w fun e w' => WroteR w base b (some (l ++ putL n 2)) g e w' := by
  obtain ⟨i0, hi, hz0, hz1, hz2⟩ := info_parts Try.info5
  have hbad : w.cell? ⟨b, 1, none⟩ = some (.bool false) := h.bad
  obtain ⟨A, m, c, hrow, hown, hg, hb, hlen⟩ := h.open_
  have hc0 : w.cell? ⟨b, 0, none⟩ = some (.slice A m c) := hrow.cell (by omega)
  have f0 := h.fz 0
  have hw : IntKind.u64.wrap n = n := by rw [IntKind.wrap_u64]; omega
  have HP := Lib.hid (fun W : World => refPut n 2 W (by omega) (by omega) h0 (Lib.hid (by omega)))
  have HRow := Lib.hid hrow
  have HO := Lib.hid hown
  have HG := Lib.hid hg
  have HBt := Lib.hid hb
  have hm : m + 4 ≤ 140737488355328 := by omega
  clear h hrow hown hg hb hlen hl
  have hd0 : decide (n < 0) = false := by simp; omega
  go_enter Try.func24, Try.ntmps24
  go_wp2_with fail
  go_loop [6, 7] (fun tp i => ∃ k : Nat, k ≤ 2 ∧ i = .int .i64 k ∧ tp = .int .i64 (256 ^ k)) (fun _ i => 2 - (intOf i).toNat)
  case atStart => exact ⟨0, by omega, rfl, rfl⟩
  case round =>
    obtain ⟨k, hk, rfl, rfl⟩ := hrel
    obtain rfl | rfl | rfl : k = 0 ∨ k = 1 ∨ k = 2 := by omega
    · go_wp2_with fail
      go_round
      case rel => exact ⟨1, by omega, rfl, rfl⟩
      case measure => simp [intOf]
    · go_wp2_with fail
      go_round
      case rel => exact ⟨2, by omega, rfl, rfl⟩
      case measure => simp [intOf]
    · go_wp2_with fail
      go_region_law (first
        | (refine step_append_lies _ (by rfl) _ _ _ (by rfl) base 5 i0 (.int .u8 0) 1 1 Try.underlying22 hi hz0 hz1 hz2 rfl (by decide) (.slice A m c) m (l.map (Value.int .u8)) (by rfl) HO1.out ⟨bb, off, none⟩ 2 c1 ((putL n 2).map (Value.int .u8)) (by rfl) (by simp [putL_length]) HN1.out (one_cells _) (by omega) (by unfold maxLen; omega) (by omega) (Nat.le_trans hB HB1.out.size) _ rfl ?_
           intro g1 cap1 w4 hown4 hgrow4 hat4 hlt4
           have HRow4 := Lib.hid (HRow1.out.of_block (hgrow4.block b HRow1.out.lt (own_row_ne HO1.out HRow1.out (by decide))))
           have hy2 : w4.cell? ⟨b, 0, none⟩ = some (.slice A m c) := HRow4.out.cell (by omega)
           have fy2 := HRow4.out.frozen 0)
        | (go_simp
           go_at_call 44
           refine (HP.out _).mono ?_
           rintro e w3 ⟨A1, n1, c1, rfl, hrd1, hb1, hloc1⟩
           have HB1 := Lib.hid ((below_drewN (Below.refl w.heap.size w) 1).trans (hb1.mono (Nat.le_refl _)))
           obtain rfl : 2 = n1 := by have := hrd1.len; rw [putL_length] at this; exact this
           obtain ⟨bb, off, rfl, hbb, hcc⟩ := hrd1.at_ (i := 0) (by omega)
           have HN1 := Lib.hid hrd1.news
           have HRow1 := Lib.hid (HRow.out.of_block (HB1.out.block b HRow.out.lt))
           have HO1 := Lib.hid (own_below HO.out HB1.out)
           have hy1 : w3.cell? ⟨b, 0, none⟩ = some (.slice A m c) := HRow1.out.cell (by omega)
           clear hrd1 hb1 hloc1 hbb hcc))
      all_goals
        rw [← List.map_append] at hown4
        have HO4 := Lib.hid hown4
        have HGr := Lib.hid hgrow4
        have HAt := Lib.hid hat4
        clear hown4 hgrow4 hat4 hlt4 hc0 hy1 hy2 f0 fy2
        go_wp2_with fail
        go_end0
        have hM : Mine w w4 b g := (Mine.below_ HB1.out).trans (Mine.row (HG.out ▸ HGr.out)) (.inl rfl)
        refine ⟨rfl, some g1, rw_stored HRow4.out HO4.out (fun z hz => (List.mem_append.1 hz).elim (HBt.out z) (putL_byt n 2 z)), hM.set 0 _, ?_⟩
        rcases HAt.out with h | h
        · exact .inl (by rw [← HG.out, h])
        · exact .inr ⟨_, rfl, by rw [h]; exact HB1.out.size⟩

set_option maxHeartbeats 1600000 in
theorem rwNum_in3 (base b : Nat) (l : List Int) (g : Option Nat) (n : Int) (w : World) (h : RwAt w base b (some l) g) (h0 : 0 ≤ n) (hn : n < 16777216) (hl : l.length + 4 ≤ 140737488355328) (hB : base ≤ w.heap.size) :
    Calls Try.prog 24 #[.pointer (some ⟨b, 0, none⟩), .int .i64 n, .int .i64 3] w fun e w' => WroteR w base b (some (l ++ putL n 3)) g e w' := by
  obtain ⟨i0, hi, hz0, hz1, hz2⟩ := info_parts Try.info5
  have hbad : w.cell? ⟨b, 1, none⟩ = some (.bool false) := h.bad
  obtain ⟨A, m, c, hrow, hown, hg, hb, hlen⟩ := h.open_
  have hc0 : w.cell? ⟨b, 0, none⟩ = some (.slice A m c) := hrow.cell (by omega)
  have f0 := h.fz 0
  have hw : IntKind.u64.wrap n = n := by rw [IntKind.wrap_u64]; omega
  have HP := Lib.hid (fun W : World => refPut n 3 W (by omega) (by omega) h0 (Lib.hid (by omega)))
  have HRow := Lib.hid hrow
  have HO := Lib.hid hown
  have HG := Lib.hid hg
  have HBt := Lib.hid hb
  have hm : m + 4 ≤ 140737488355328 := by omega
  clear h hrow hown hg hb hlen hl
  have hd0 : decide (n < 0) = false := by simp; omega
  go_enter Try.func24, Try.ntmps24
  go_wp2_with fail
  go_loop [6, 7] (fun tp i => ∃ k : Nat, k ≤ 3 ∧ i = .int .i64 k ∧ tp = .int .i64 (256 ^ k)) (fun _ i => 3 - (intOf i).toNat)
  case atStart => exact ⟨0, by omega, rfl, rfl⟩
  case round =>
    obtain ⟨k, hk, rfl, rfl⟩ := hrel
    obtain rfl | rfl | rfl | rfl : k = 0 ∨ k = 1 ∨ k = 2 ∨ k = 3 := by omega
    · go_wp2_with fail
      go_round
      case rel => exact ⟨1, by omega, rfl, rfl⟩
      case measure => simp [intOf]
    · go_wp2_with fail
      go_round
      case rel => exact ⟨2, by omega, rfl, rfl⟩
      case measure => simp [intOf]
    · go_wp2_with fail
      go_round
      case rel => exact ⟨3, by omega, rfl, rfl⟩
      case measure => simp [intOf]
    · go_wp2_with fail
      go_region_law (first
        | (refine step_append_lies _ (by rfl) _ _ _ (by rfl) base 5 i0 (.int .u8 0) 1 1 Try.underlying22 hi hz0 hz1 hz2 rfl (by decide) (.slice A m c) m (l.map (Value.int .u8)) (by rfl) HO1.out ⟨bb, off, none⟩ 3 c1 ((putL n 3).map (Value.int .u8)) (by rfl) (by simp [putL_length]) HN1.out (one_cells _) (by omega) (by unfold maxLen; omega) (by omega) (Nat.le_trans hB HB1.out.size) _ rfl ?_
           intro g1 cap1 w4 hown4 hgrow4 hat4 hlt4
           have HRow4 := Lib.hid (HRow1.out.of_block (hgrow4.block b HRow1.out.lt (own_row_ne HO1.out HRow1.out (by decide))))
           have hy2 : w4.cell? ⟨b, 0, none⟩ = some (.slice A m c) := HRow4.out.cell (by omega)
           have fy2 := HRow4.out.frozen 0)
        | (go_simp
           go_at_call 44
           refine (HP.out _).mono ?_
           rintro e w3 ⟨A1, n1, c1, rfl, hrd1, hb1, hloc1⟩
           have HB1 := Lib.hid ((below_drewN (Below.refl w.heap.size w) 1).trans (hb1.mono (Nat.le_refl _)))
           obtain rfl : 3 = n1 := by have := hrd1.len; rw [putL_length] at this; exact this
           obtain ⟨bb, off, rfl, hbb, hcc⟩ := hrd1.at_ (i := 0) (by omega)
           have HN1 := Lib.hid hrd1.news
           have HRow1 := Lib.hid (HRow.out.of_block (HB1.out.block b HRow.out.lt))
           have HO1 := Lib.hid (own_below HO.out HB1.out)
           have hy1 : w3.cell? ⟨b, 0, none⟩ = some (.slice A m c) := HRow1.out.cell (by omega)
           clear hrd1 hb1 hloc1 hbb hcc))
      all_goals
        rw [← List.map_append] at hown4
        have HO4 := Lib.hid hown4
        have HGr := Lib.hid hgrow4
        have HAt := Lib.hid hat4
        clear hown4 hgrow4 hat4 hlt4 hc0 hy1 hy2 f0 fy2
        go_wp2_with fail
        go_end0
        have hM : Mine w w4 b g := (Mine.below_ HB1.out).trans (Mine.row (HG.out ▸ HGr.out)) (.inl rfl)
        refine ⟨rfl, some g1, rw_stored HRow4.out HO4.out (fun z hz => (List.mem_append.1 hz).elim (HBt.out z) (putL_byt n 3 z)), hM.set 0 _, ?_⟩
        rcases HAt.out with h | h
        · exact .inl (by rw [← HG.out, h])
        · exact .inr ⟨_, rfl, by rw [h]; exact HB1.out.size⟩

set_option maxHeartbeats 1600000 in
theorem rwNum_in4 (base b : Nat) (l : List Int) (g : Option Nat) (n : Int) (w : World) (h : RwAt w base b (some l) g) (h0 : 0 ≤ n) (hn : n < 4294967296) (hl : l.length + 4 ≤ 140737488355328) (hB : base ≤ w.heap.size) :
    Calls Try.prog 24 #[.pointer (some ⟨b, 0, none⟩), .int .i64 n, .int .i64 4] w fun e w' => WroteR w base b (some (l ++ putL n 4)) g e w' := by
  obtain ⟨i0, hi, hz0, hz1, hz2⟩ := info_parts Try.info5
  have hbad : w.cell? ⟨b, 1, none⟩ = some (.bool false) := h.bad
  obtain ⟨A, m, c, hrow, hown, hg, hb, hlen⟩ := h.open_
  have hc0 : w.cell? ⟨b, 0, none⟩ = some (.slice A m c) := hrow.cell (by omega)
  have f0 := h.fz 0
  have hw : IntKind.u64.wrap n = n := by rw [IntKind.wrap_u64]; omega
  have HP := Lib.hid (fun W : World => refPut n 4 W (by omega) (by omega) h0 (Lib.hid (by omega)))
  have HRow := Lib.hid hrow
  have HO := Lib.hid hown
  have HG := Lib.hid hg
  have HBt := Lib.hid hb
  have hm : m + 4 ≤ 140737488355328 := by omega
  clear h hrow hown hg hb hlen hl
  have hd0 : decide (n < 0) = false := by simp; omega
  go_enter Try.func24, Try.ntmps24
  go_wp2_with fail
  go_loop [6, 7] (fun tp i => ∃ k : Nat, k ≤ 4 ∧ i = .int .i64 k ∧ tp = .int .i64 (256 ^ k)) (fun _ i => 4 - (intOf i).toNat)
  case atStart => exact ⟨0, by omega, rfl, rfl⟩
  case round =>
    obtain ⟨k, hk, rfl, rfl⟩ := hrel
    obtain rfl | rfl | rfl | rfl | rfl : k = 0 ∨ k = 1 ∨ k = 2 ∨ k = 3 ∨ k = 4 := by omega
    · go_wp2_with fail
      go_round
      case rel => exact ⟨1, by omega, rfl, rfl⟩
      case measure => simp [intOf]
    · go_wp2_with fail
      go_round
      case rel => exact ⟨2, by omega, rfl, rfl⟩
      case measure => simp [intOf]
    · go_wp2_with fail
      go_round
      case rel => exact ⟨3, by omega, rfl, rfl⟩
      case measure => simp [intOf]
    · go_wp2_with fail
      go_round
      case rel => exact ⟨4, by omega, rfl, rfl⟩
      case measure => simp [intOf]
    · go_wp2_with fail
      go_region_law (first
        | (refine step_append_lies _ (by rfl) _ _ _ (by rfl) base 5 i0 (.int .u8 0) 1 1 Try.underlying22 hi hz0 hz1 hz2 rfl (by decide) (.slice A m c) m (l.map (Value.int .u8)) (by rfl) HO1.out ⟨bb, off, none⟩ 4 c1 ((putL n 4).map (Value.int .u8)) (by rfl) (by simp [putL_length]) HN1.out (one_cells _) (by omega) (by unfold maxLen; omega) (by omega) (Nat.le_trans hB HB1.out.size) _ rfl ?_
           intro g1 cap1 w4 hown4 hgrow4 hat4 hlt4
           have HRow4 := Lib.hid (HRow1.out.of_block (hgrow4.block b HRow1.out.lt (own_row_ne HO1.out HRow1.out (by decide))))
           have hy2 : w4.cell? ⟨b, 0, none⟩ = some (.slice A m c) := HRow4.out.cell (by omega)
           have fy2 := HRow4.out.frozen 0)
        | (go_simp
           go_at_call 44
           refine (HP.out _).mono ?_
           rintro e w3 ⟨A1, n1, c1, rfl, hrd1, hb1, hloc1⟩
           have HB1 := Lib.hid ((below_drewN (Below.refl w.heap.size w) 1).trans (hb1.mono (Nat.le_refl _)))
           obtain rfl : 4 = n1 := by have := hrd1.len; rw [putL_length] at this; exact this
           obtain ⟨bb, off, rfl, hbb, hcc⟩ := hrd1.at_ (i := 0) (by omega)
           have HN1 := Lib.hid hrd1.news
           have HRow1 := Lib.hid (HRow.out.of_block (HB1.out.block b HRow.out.lt))
           have HO1 := Lib.hid (own_below HO.out HB1.out)
           have hy1 : w3.cell? ⟨b, 0, none⟩ = some (.slice A m c) := HRow1.out.cell (by omega)
           clear hrd1 hb1 hloc1 hbb hcc))
      all_goals
        rw [← List.map_append] at hown4
        have HO4 := Lib.hid hown4
        have HGr := Lib.hid hgrow4
        have HAt := Lib.hid hat4
        clear hown4 hgrow4 hat4 hlt4 hc0 hy1 hy2 f0 fy2
        go_wp2_with fail
        go_end0
        have hM : Mine w w4 b g := (Mine.below_ HB1.out).trans (Mine.row (HG.out ▸ HGr.out)) (.inl rfl)
        refine ⟨rfl, some g1, rw_stored HRow4.out HO4.out (fun z hz => (List.mem_append.1 hz).elim (HBt.out z) (putL_byt n 4 z)), hM.set 0 _, ?_⟩
        rcases HAt.out with h | h
        · exact .inl (by rw [← HG.out, h])
        · exact .inr ⟨_, rfl, by rw [h]; exact HB1.out.size⟩

theorem rwNum (base b : Nat) (st : Option (List Int)) (g : Option Nat) (n z : Int) (k : Nat) (w : World) (h : RwAt w base b st g) (hs : Short st k) (hk : k + 4 ≤ 140737488355328) (hB : base ≤ w.heap.size) :
    Calls Try.prog 24 #[.pointer (some ⟨b, 0, none⟩), .int .i64 n, .int .i64 z] w fun e w' => WroteR w base b (wNum st n z) g e w' := by
  cases st with
  | none => exact rwNum_no base b g n z w h
  | some l =>
    have := hs l rfl
    by_cases hz : 1 ≤ z ∧ z ≤ 4 ∧ 0 ≤ n ∧ n < 256 ^ z.toNat
    · obtain ⟨z1, z4, n0, nz⟩ := hz
      obtain rfl | rfl | rfl | rfl : z = 1 ∨ z = 2 ∨ z = 3 ∨ z = 4 := by omega
      · rw [show wNum (some l) n 1 = some (l ++ putL n 1) from wNum_yes l (z := 1) (by omega) (by omega) n0 nz]
        exact rwNum_in1 base b l g n w h n0 (by simpa using nz) (by omega) hB
      · rw [show wNum (some l) n 2 = some (l ++ putL n 2) from wNum_yes l (z := 2) (by omega) (by omega) n0 nz]
        exact rwNum_in2 base b l g n w h n0 (by simpa using nz) (by omega) hB
      · rw [show wNum (some l) n 3 = some (l ++ putL n 3) from wNum_yes l (z := 3) (by omega) (by omega) n0 nz]
        exact rwNum_in3 base b l g n w h n0 (by simpa using nz) (by omega) hB
      · rw [show wNum (some l) n 4 = some (l ++ putL n 4) from wNum_yes l (z := 4) (by omega) (by omega) n0 nz]
        exact rwNum_in4 base b l g n w h n0 (by simpa using nz) (by omega) hB
    · rw [wNum_no l hz]
      rcases size_ways hz with h1 | ⟨h1, h2⟩ | ⟨h1, h2, h3⟩ | ⟨rfl, h3⟩ | ⟨rfl, h3⟩ | ⟨rfl, h3⟩ | ⟨rfl, h3⟩
      · exact rwNum_sym base b l g n z w h (.inl h1)
      · exact rwNum_sym base b l g n z w h (.inr (.inl ⟨h1, h2⟩))
      · exact rwNum_sym base b l g n z w h (.inr (.inr ⟨h1, h2, h3⟩))
      · exact rwNum_over1 base b l g n w h h3
      · exact rwNum_over2 base b l g n w h h3
      · exact rwNum_over3 base b l g n w h h3
      · exact rwNum_over4 base b l g n w h h3
end Go.Proofs.Ytjihgpjpmfeakaa
