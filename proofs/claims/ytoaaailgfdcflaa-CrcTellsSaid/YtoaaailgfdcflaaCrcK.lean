/- The walk of CrcTells: what is sealed is opened; with bits turned that stand within 32 in a row it is not. Conditions: none. -/
import Derived.Test.YtoaaailgfdcflaaCrcL
import Derived.Deep.AppendLies
namespace Go.Proofs.Ytoaaailgfdcflaa
open Go.RowKit
set_option linter.unusedVariables false

theorem open_sealed (l : List Int) : openB (sealL l) = true ∧ openL (sealL l) = l := by
  have h := open_seal l
  refine ⟨h, ?_⟩
  rw [openL, if_pos h]
  have e : (sealL l).length - 4 = l.length := by simp [sealL, le4_length]
  rw [e, sealL, List.take_left]
theorem sealL_length (l : List Int) : (sealL l).length = l.length + 4 := by simp [sealL, le4_length]
theorem openL_none {d : List Int} (h : openB d = false) : openL d = [] := by rw [openL, h]; rfl

/-- With the lower k bits of 'turn' turned, from the bit 'at' on. -/
def Turned (l : List Int) (a turn k : Nat) (xs : List Int) : Prop := Byt xs ∧ xs.length = l.length + 4 ∧ num xs = num (sealL l) ^^^ (turn % 2 ^ k) * 2 ^ a

theorem seal_byt {l : List Int} (h : Byt l) : Byt (sealL l) := h.app (le4_byt _)
theorem turned_0 {l : List Int} {a turn : Nat} (h : Byt l) : Turned l a turn 0 (sealL l) :=
  ⟨seal_byt h, sealL_length l, by rw [Nat.pow_zero, Nat.mod_one, Nat.zero_mul, Nat.xor_zero]⟩

theorem turn_mod {turn k b : Nat} (h : turn / 2 ^ k % 2 = b) : ((turn : Int) / 2 ^ k).tmod 2 = b := by
  have e : ((turn : Int) / 2 ^ k) = ((turn / 2 ^ k : Nat) : Int) := by simp
  rw [e]
  generalize turn / 2 ^ k = q at *
  rw [Int.tmod_eq_emod_of_nonneg (by omega)]
  omega
theorem xor_turn {x : Int} (hx : 0 ≤ x ∧ x ≤ 255) {r : Nat} (hr : r < 8) : bits .xor .u8 x (2 ^ r % 256) = ((x.toNat ^^^ 2 ^ r : Nat) : Int) := by
  obtain ⟨y, rfl⟩ := Int.eq_ofNat_of_zero_le hx.1
  have h2 : (2 : Nat) ^ r < 256 := Nat.pow_lt_pow_right (by omega) (by omega : r < 8)
  have e : (2 : Int) ^ r % 256 = ((2 ^ r : Nat) : Int) := by
    rw [show (2 : Int) ^ r = ((2 ^ r : Nat) : Int) from by simp]
    generalize 2 ^ r = q at *
    omega
  rw [e, u8_xor_nat _ _ (by omega) h2]
  rfl
theorem turned_no {l xs : List Int} {a turn k : Nat} (h : Turned l a turn k xs) (hb : ¬ turn / 2 ^ k % 2 = 1) : Turned l a turn (k + 1) xs := by
  refine ⟨h.1, h.2.1, ?_⟩
  rw [low_bits, if_neg hb, Nat.xor_zero]
  exact h.2.2
theorem turned_yes {l xs : List Int} {a turn k : Nat} (h : Turned l a turn k xs) (hb : turn / 2 ^ k % 2 = 1) (hj : (a + k) / 8 < xs.length) :
    Turned l a turn (k + 1) (xs.set ((a + k) / 8) ((xs[(a + k) / 8]?.getD 0).toNat ^^^ 2 ^ ((a + k) % 8) : Nat)) := by
  refine ⟨fun z hz => ?_, by rw [List.length_set, h.2.1], ?_⟩
  · rcases List.mem_or_eq_of_mem_set hz with hz | rfl
    · exact h.1 z hz
    · have h1 : (xs[(a + k) / 8]?.getD 0).toNat < 256 := byte_lt (h.1 _ (by rw [List.getElem?_eq_getElem hj]; exact List.getElem_mem _))
      have h2 : (2 : Nat) ^ ((a + k) % 8) < 256 := Nat.pow_lt_pow_right (by omega) (by omega : (a + k) % 8 < 8)
      have h3 := Nat.xor_lt_two_pow (n := 8) h1 h2
      omega
  · rw [num_turn _ _ _ hj, h.2.2, low_bits, if_pos hb, xmul, ← Nat.pow_add, Nat.xor_assoc, show 8 * ((a + k) / 8) + (a + k) % 8 = k + a from by omega]

set_option maxHeartbeats 1600000 in
theorem turn_loop (a turn n : Nat) (A : Option Addr) (c : Nat) (l : List Int) (w w1 : World) (hn : n ≤ 1000) (ha : a ≤ 8 * n) (ht : turn < 4294967296) (h0 : turn ≠ 0)
    (HR : Hid (Rd .u8 w A n c l)) :
    Calls Try.prog 5 #[.slice A n c, .int .i64 a, .int .u32 turn] w fun e w' => e = .returned (.bool true) ∧ Below w.heap.size w w' := by
  obtain ⟨i0, hi, hz0, hz1, hz2⟩ := info_parts Try.info5
  have hn' : ¬ (1000 : Int) < n := by omega
  have HS := Lib.hid (open_sealed l)
  have HL := Lib.hid HR.out.len
  go_enter Try.func5, Try.ntmps5
  go_wp2_with fail
  refine (crcSeal A n c l _ HR.out (by omega)).mono ?_
  rintro e w1 ⟨A1, n1, c1, rfl, hrd1, hb1⟩
  obtain rfl : n1 = n + 4 := by rw [← hrd1.len, sealL_length, HL.out]
  have H1 := Lib.hid hrd1
  have HB1 := Lib.hid hb1
  have HR1 := Lib.hid (HR.out.below hb1)
  clear hrd1 hb1
  go_wp2_with fail
  refine (crcOpen _ _ _ _ _ H1.out (by omega)).mono ?_
  rintro e w2 ⟨A2, n2, c2, rfl, hrd2, hb2⟩
  rw [HS.out.1]
  have H1 := Lib.hid (H1.out.below hb2)
  have H2 := Lib.hid (show Rd .u8 w2 A2 n2 c2 l from by rw [← HS.out.2]; exact hrd2)
  have HR2 := Lib.hid (HR1.out.below hb2)
  have HB2 := Lib.hid (size_le HB1.out hb2)
  clear hrd2 hb2
  go_wp2_with fail
  refine (refSame _ _ _ _ _ _ _ _ _ H2.out HR2.out).mono ?_
  rintro e w3 ⟨rfl, k1, rfl⟩
  rw [decide_eq_true rfl]
  have ha0 : ¬ (a : Int) < 0 := by omega
  have ha8 : ¬ (8 * (n : Int)) < a := by omega
  have ht0 : ((turn : Int) == 0) = false := by simp; omega
  have hne : (((n : Int) + 4) != ((n : Int) + 4)) = false := by simp
  have HBd := Lib.hid (below_drewN HB2.out k1)
  have HO0 := Lib.hid (World.ownsRow_lit (base := w.heap.size) (e := 5) (size := 1) (w2.drewN k1) #[] 0 HBd.out.size (by decide) rfl)
  have HR0 := Lib.hid ((H1.out.drewN k1).alloc (.cells #[] 5))
  have HB0 := Lib.hid (HBd.out.alloc HBd.out.size (.cells #[] 5))
  go_wp2_with (at_builtin; go_must (refine wpList_append_rd rfl _ _ _ rfl w.heap.size 5 i0 (.int .u8 0) 1 Try.underlying24 hi hz0 hz1 hz2 rfl _ 0 [] rfl HO0.out _ (n + 4) _ (sealL l) rfl HR0.out ?c1 ?c2 ?c3 ?_))
  case c1 => unfold maxLen; omega
  case c2 => omega
  case c3 => have := HBd.out.size; simp; simp at this; omega
  intro v3 w3 hown3 hgrow3
  have HB3 := Lib.hid (below_grown HB0.out hgrow3 (by have := HBd.out.size; simp; simp at this; omega) HO0.out (Nat.le_refl _))
  obtain ⟨g, cap, rfl, hg, hgl⟩ := hown3.form (by omega)
  have HO3 := Lib.hid hown3
  have HG := Lib.hid hg
  clear hown3 hgrow3 hg hgl ha0 ha8 ht0 hne
  go_wp2_with fail
  go_loopw [11] (fun i wr => ∃ (k : Nat) (xs : List Int), k ≤ 32 ∧ i = .int .i64 k ∧ Turned l a turn k xs ∧ wr.ownsRow w.heap.size 5 1 (.slice (some ⟨g, 0, none⟩) (n + 4) cap) (n + 4) (xs.map (Value.int .u8)) ∧ Below w.heap.size w wr) (fun i _ => 32 - (intOf i).toNat)
  case atStart => exact ⟨0, sealL l, by omega, rfl, turned_0 HR.out.byt, HO3.out, HB3.out⟩
  case round =>
    obtain ⟨k, xs, hk, rfl, hT, hown, hbel⟩ := hrel
    have HO := Lib.hid hown
    have HB := Lib.hid hbel
    have HT := Lib.hid hT
    clear hown hbel hT
    by_cases hlt : k < 32
    · have hj : (a + k) / 8 < n + 4 := by omega
      have hcell := HO.out.cellAt ((a + k) / 8) (by omega)
      rw [List.getElem?_map, List.getElem?_eq_getElem (by rw [HT.out.2.1, HL.out]; exact hj)] at hcell
      have hf := HO.out.frozenAt ((a + k) / 8)
      have hjl : (a + k) / 8 < xs.length := by rw [HT.out.2.1, HL.out]; exact hj
      by_cases hb : turn / 2 ^ k % 2 = 1
      · have htm : ((turn : Int) / 2 ^ k).tmod 2 = 1 := turn_mod hb
        go_wp2_with fail
        go_roundw
        case rel =>
          have hv : bits .xor .u8 xs[(a + k) / 8] (2 ^ ((a + k) % 8) % 256) = (((xs[(a + k) / 8]?.getD 0).toNat ^^^ 2 ^ ((a + k) % 8) : Nat) : Int) := by
            rw [xor_turn (HT.out.1 _ (List.getElem_mem _)) (by omega), List.getElem?_eq_getElem hjl]
            rfl
          refine ⟨k + 1, _, by omega, by go_num, turned_yes HT.out hb hjl, ?_, HB.out.setCell HG.out _⟩
          rw [List.map_set, hv]
          exact (HO.out.stored _ _).1
        case measure => simp [intOf]; omega
      · have htm : ((turn : Int) / 2 ^ k).tmod 2 = 0 := turn_mod (Nat.mod_two_ne_one.1 hb)
        go_wp2_with fail
        go_roundw
        case rel => exact ⟨k + 1, xs, by omega, by go_num, turned_no HT.out hb, HO.out, HB.out⟩
        case measure => simp [intOf]; omega
    · obtain rfl : k = 32 := by omega
      have hrd : Rd .u8 wr (some ⟨g, 0, none⟩) (n + 4) cap xs := by
        obtain ⟨A', c', e, hrd, _⟩ := Rd.of_own (l := xs) HO.out rfl (byt_wf HT.out.1)
        injection e with e1 e2 e3
        subst e1 e3
        exact hrd
      have HRx := Lib.hid hrd
      have HF := Lib.hid (torn (d := xs) (at_ := a) (turn := turn) HR.out.byt HT.out.1 HT.out.2.1 (by rw [HL.out]; exact ha) h0 ht (by rw [HT.out.2.2, Nat.mod_eq_of_lt ht]))
      clear hrd
      go_wp2_with fail
      refine (crcOpen _ _ _ _ _ HRx.out (by omega)).mono ?_
      rintro e w4 ⟨A4, n4, c4, rfl, hrd4, hb4⟩
      rw [openL_none HF.out] at hrd4
      obtain rfl : n4 = 0 := hrd4.len.symm
      rw [HF.out]
      have HB4 := Lib.hid (size_le HB.out hb4)
      clear hrd4 hb4
      go_wp2_with fail
      refine (live_any _).mono ?_
      rintro e w6 ⟨rfl, hb6⟩
      have HB6 := Lib.hid (size_le HB4.out hb6)
      clear hb6
      go_wp2_with fail
      go_ret
      exact ⟨rfl, HB6.out⟩

set_option maxHeartbeats 1600000 in
theorem tells_rest (a : Int) (turn n : Nat) (A : Option Addr) (c : Nat) (l : List Int) (w : World) (hn : n ≤ 1000) (ha : a < 0 ∨ 8 * (n : Int) < a ∨ turn = 0)
    (HR : Hid (Rd .u8 w A n c l)) :
    Calls Try.prog 5 #[.slice A n c, .int .i64 a, .int .u32 turn] w fun e w' => e = .returned (.bool true) ∧ Below w.heap.size w w' := by
  have hn' : ¬ (1000 : Int) < n := by omega
  have HS := Lib.hid (open_sealed l)
  have HL := Lib.hid HR.out.len
  have HA := Lib.hid ha
  clear ha
  go_enter Try.func5, Try.ntmps5
  go_wp2_with fail
  refine (crcSeal A n c l _ HR.out (by omega)).mono ?_
  rintro e w1 ⟨A1, n1, c1, rfl, hrd1, hb1⟩
  obtain rfl : n1 = n + 4 := by rw [← hrd1.len, sealL_length, HL.out]
  have H1 := Lib.hid hrd1
  have HB1 := Lib.hid hb1
  have HR1 := Lib.hid (HR.out.below hb1)
  clear hrd1 hb1
  go_wp2_with fail
  refine (crcOpen _ _ _ _ _ H1.out (by omega)).mono ?_
  rintro e w2 ⟨A2, n2, c2, rfl, hrd2, hb2⟩
  rw [HS.out.1]
  have H1 := Lib.hid (H1.out.below hb2)
  have H2 := Lib.hid (show Rd .u8 w2 A2 n2 c2 l from by rw [← HS.out.2]; exact hrd2)
  have HR2 := Lib.hid (HR1.out.below hb2)
  have HB2 := Lib.hid (size_le HB1.out hb2)
  clear hrd2 hb2
  go_wp2_with fail
  refine (refSame _ _ _ _ _ _ _ _ _ H2.out HR2.out).mono ?_
  rintro e w3 ⟨rfl, k1, rfl⟩
  rw [decide_eq_true rfl]
  have hne : (((n : Int) + 4) != ((n : Int) + 4)) = false := by simp
  have hfin := fun W : World => live_any W
  have HBd := Lib.hid (below_drewN HB2.out k1)
  by_cases ha0 : a < 0
  · go_wp2_with fail
    refine (live_any _).mono ?_
    rintro e w6 ⟨rfl, hb6⟩
    have HB6 := Lib.hid (size_le HBd.out hb6)
    clear hb6
    go_wp2_with fail
    go_ret
    exact ⟨rfl, HB6.out⟩
  · by_cases ha8 : 8 * (n : Int) < a
    · go_wp2_with fail
      refine (live_any _).mono ?_
      rintro e w6 ⟨rfl, hb6⟩
      have HB6 := Lib.hid (size_le HBd.out hb6)
      clear hb6
      go_wp2_with fail
      go_ret
      exact ⟨rfl, HB6.out⟩
    · obtain rfl : turn = 0 := by
        rcases HA.out with h | h | h
        · exact absurd h ha0
        · exact absurd h ha8
        · exact h
      go_wp2_with fail
      refine (live_any _).mono ?_
      rintro e w6 ⟨rfl, hb6⟩
      have HB6 := Lib.hid (size_le HBd.out hb6)
      clear hb6
      go_wp2_with fail
      go_ret
      exact ⟨rfl, HB6.out⟩

theorem walkTells (A : Option Addr) (n c : Nat) (l : List Int) (a turn : Int) (w : World) (h : Rd .u8 w A n c l) (ht : 0 ≤ turn ∧ turn ≤ 4294967295) :
    Calls Try.prog 5 #[.slice A n c, .int .i64 a, .int .u32 turn] w fun e w' => e = .returned (.bool true) ∧ Below w.heap.size w w' := by
  obtain ⟨t, rfl⟩ := Int.eq_ofNat_of_zero_le ht.1
  by_cases hn : 1000 < n
  · clear h
    go_enter Try.func5, Try.ntmps5
    go_wp2_with fail
    refine (live_any _).mono ?_
    rintro e w' ⟨rfl, hb⟩
    go_wp2_with fail
    go_ret
    exact ⟨rfl, hb⟩
  · by_cases hr : a < 0 ∨ 8 * (n : Int) < a ∨ t = 0
    · exact tells_rest a t n A c l w (by omega) hr (Lib.hid h)
    · obtain ⟨b, rfl⟩ := Int.eq_ofNat_of_zero_le (show 0 ≤ a by omega)
      exact turn_loop b t n A c l w w (by omega) (by omega) (by omega) (by omega) (Lib.hid h)
theorem wf_u32 {a : Int} (h : (Lit.int .u32 a).wf = true) : 0 ≤ a ∧ a ≤ 4294967295 := by
  simpa [Lit.wf, IntKind.min, IntKind.max, IntKind.signed, IntKind.bits] using h
end Go.Proofs.Ytoaaailgfdcflaa
