/- The page's examples hold; the walks of IdentTells and IdentJoins. Conditions: none. -/
import Derived.Test.YtdacaahkddnkpaaIdF
namespace Go.Proofs.Ytdacaahkddnkpaa
open Go.RowKit
set_option linter.unusedVariables false

theorem ex1 : lowB (⟨#[97, 95, 49]⟩ : ByteArray).data.toList = true := by decide
theorem ex2 : lowB (⟨#[110, 111, 100, 101]⟩ : ByteArray).data.toList = false := by decide
theorem ex3 : wordB (⟨#[110, 111, 100, 101]⟩ : ByteArray).data.toList = true := by decide
theorem ex4 : highB (⟨#[65]⟩ : ByteArray).data.toList = true := by decide
theorem ex5 : pathB (⟨#[97, 47, 98, 46, 49, 50]⟩ : ByteArray).data.toList = true := by decide
theorem ex6 : pathB (⟨#[97, 46, 48]⟩ : ByteArray).data.toList = false := by decide
theorem ex7 : pathB (⟨#[97, 47, 47, 98]⟩ : ByteArray).data.toList = false := by decide

set_option maxHeartbeats 1600000 in
theorem live_any (w : World) :
    Calls Try.prog 6 #[] w fun e w' => e = .returned (.bool true) ∧ Below w.heap.size w w' := by
  have HB0 := Lib.hid (Below.refl w.heap.size w)
  go_enter Try.func6, Try.ntmps6
  go_wp2_with fail
  refine (idLow _ _ (by decide)).mono ?_
  rw [ex1]
  rintro e w1 ⟨rfl, hb⟩
  have HB1 := Lib.hid (HB0.out.trans (hb.mono HB0.out.size))
  clear hb
  go_wp2_with fail
  refine (idLow _ _ (by decide)).mono ?_
  rw [ex2]
  rintro e w2 ⟨rfl, hb⟩
  have HB2 := Lib.hid (HB1.out.trans (hb.mono HB1.out.size))
  clear hb
  go_wp2_with fail
  refine (idWord _ _).mono ?_
  rw [ex3]
  rintro e w3 ⟨rfl, rfl⟩
  go_wp2_with fail
  refine (idHigh _ _ (by decide)).mono ?_
  rw [ex4]
  rintro e w4 ⟨rfl, hb⟩
  have HB4 := Lib.hid (HB2.out.trans (hb.mono HB2.out.size))
  clear hb
  go_wp2_with fail
  refine (idPath _ _ (by decide)).mono ?_
  rw [ex5]
  rintro e w5 ⟨rfl, hb⟩
  have HB5 := Lib.hid (HB4.out.trans (hb.mono HB4.out.size))
  clear hb
  go_wp2_with fail
  refine (idPath _ _ (by decide)).mono ?_
  rw [ex6]
  rintro e w6 ⟨rfl, hb⟩
  have HB6 := Lib.hid (HB5.out.trans (hb.mono HB5.out.size))
  clear hb
  go_wp2_with fail
  refine (idPath _ _ (by decide)).mono ?_
  rw [ex7]
  rintro e w7 ⟨rfl, hb⟩
  have HB7 := Lib.hid (HB6.out.trans (hb.mono HB6.out.size))
  clear hb
  go_wp2_with fail
  go_ret
  exact ⟨rfl, HB7.out⟩

set_option maxHeartbeats 1600000 in
theorem walkTells (s : ByteArray) (w : World) (hs : s.size ≤ maxLen) :
    Calls Try.prog 3 #[.string s] w fun e w' => e = .returned (.bool true) ∧ Below w.heap.size w w' := by
  unfold maxLen at hs
  have HB0 := Lib.hid (Below.refl w.heap.size w)
  by_cases h1 : 1000 < s.size
  · go_enter Try.func3, Try.ntmps3
    go_wp2_with fail
    refine (live_any _).mono ?_
    rintro e w1 ⟨rfl, hb⟩
    have HB1 := Lib.hid (HB0.out.trans (hb.mono HB0.out.size))
    clear hb
    go_wp2_with fail
    go_ret
    exact ⟨rfl, HB1.out⟩
  · go_enter Try.func3, Try.ntmps3
    go_wp2_with fail
    refine (idLow s _ (by omega)).mono ?_
    rintro e w1 ⟨rfl, hb⟩
    have HB1 := Lib.hid (HB0.out.trans (hb.mono HB0.out.size))
    clear hb
    generalize hl : lowB s.data.toList = bl
    have HL := Lib.hid hl
    clear hl
    go_wp2_with fail
    refine (refLow s _ (by omega)).mono ?_
    rw [HL.out]
    rintro e w2 ⟨rfl, hb⟩
    have HB2 := Lib.hid (HB1.out.trans (hb.mono HB1.out.size))
    clear hb
    go_wp2_with fail
    refine (idHigh s _ (by omega)).mono ?_
    rintro e w3 ⟨rfl, hb⟩
    have HB3 := Lib.hid (HB2.out.trans (hb.mono HB2.out.size))
    clear hb
    generalize hh : highB s.data.toList = bh
    have HH := Lib.hid hh
    clear hh
    go_wp2_with fail
    refine (refHigh s _ (by omega)).mono ?_
    rw [HH.out]
    rintro e w4 ⟨rfl, rfl⟩
    go_wp2_with fail
    refine (idWord s _).mono ?_
    rintro e w4 ⟨rfl, rfl⟩
    generalize hw : wordB s.data.toList = bw
    have HW := Lib.hid hw
    clear hw
    go_wp2_with fail
    refine (refWord s _).mono ?_
    rw [HW.out]
    rintro e w4 ⟨rfl, hb⟩
    have HB4 := Lib.hid (HB3.out.trans (hb.mono HB3.out.size))
    clear hb
    go_wp2_with fail
    refine (live_any _).mono ?_
    rintro e w5 ⟨rfl, hb⟩
    have HB5 := Lib.hid (HB4.out.trans (hb.mono HB4.out.size))
    clear hb
    go_wp2_with fail
    go_ret
    exact ⟨rfl, HB5.out⟩

theorem join_path (s t : ByteArray) : pathB (s ++ (⟨#[47]⟩ : ByteArray) ++ t).data.toList = (pathB s.data.toList && pathB t.data.toList) := by
  have e : (s ++ (⟨#[47]⟩ : ByteArray) ++ t).data.toList = s.data.toList ++ 47 :: t.data.toList := by simp
  rw [e, path_app]

set_option maxHeartbeats 1600000 in
theorem walkJoins (s t : ByteArray) (w : World) (hs : s.size ≤ maxLen) (ht : t.size ≤ maxLen) :
    Calls Try.prog 5 #[.string s, .string t] w fun e w' => e = .returned (.bool true) ∧ Below w.heap.size w w' := by
  unfold maxLen at hs ht
  have HB0 := Lib.hid (Below.refl w.heap.size w)
  by_cases h1 : 1000 < s.size
  · go_enter Try.func5, Try.ntmps5
    go_wp2_with fail
    refine (live_any _).mono ?_
    rintro e w1 ⟨rfl, hb⟩
    have HB1 := Lib.hid (HB0.out.trans (hb.mono HB0.out.size))
    clear hb
    go_wp2_with fail
    go_ret
    exact ⟨rfl, HB1.out⟩
  · by_cases h2 : 1000 < t.size
    · go_enter Try.func5, Try.ntmps5
      go_wp2_with fail
      refine (live_any _).mono ?_
      rintro e w1 ⟨rfl, hb⟩
      have HB1 := Lib.hid (HB0.out.trans (hb.mono HB0.out.size))
      clear hb
      go_wp2_with fail
      go_ret
      exact ⟨rfl, HB1.out⟩
    · have hj := join_path s t
      have HJS : (s ++ (⟨#[47]⟩ : ByteArray) ++ t).size ≤ 9223372036854775806 := by
        rw [ByteArray.size_append, ByteArray.size_append]
        have : (⟨#[47]⟩ : ByteArray).size = 1 := rfl
        omega
      by_cases hl : lowB s.data.toList = true
      · have HH := Lib.hid (low_high hl)
        have HW := Lib.hid (low_word hl)
        have hp := low_path hl
        rw [hp, Bool.true_and] at hj
        generalize ht2 : pathB t.data.toList = bt at hj
        have HP := Lib.hid hp
        have HT := Lib.hid ht2
        have HJ := Lib.hid hj
        clear hp ht2 hj
        go_enter Try.func5, Try.ntmps5
        go_wp2_with fail
        refine (idLow s _ (by omega)).mono ?_
        rw [hl]
        rintro e w1 ⟨rfl, hb⟩
        have HB1 := Lib.hid (HB0.out.trans (hb.mono HB0.out.size))
        clear hb hl
        go_wp2_with fail
        refine (idHigh s _ (by omega)).mono ?_
        rw [HH.out]
        rintro e w2 ⟨rfl, hb⟩
        have HB2 := Lib.hid (HB1.out.trans (hb.mono HB1.out.size))
        clear hb
        go_wp2_with fail
        refine (idWord s _).mono ?_
        rw [HW.out]
        rintro e w3 ⟨rfl, rfl⟩
        go_wp2_with fail
        refine (idPath s _ (by omega)).mono ?_
        rw [HP.out]
        rintro e w4 ⟨rfl, hb⟩
        have HB4 := Lib.hid (HB2.out.trans (hb.mono HB2.out.size))
        clear hb
        go_wp2_with fail
        refine (idPath _ _ HJS).mono ?_
        rw [HJ.out]
        rintro e w5 ⟨rfl, hb⟩
        have HB5 := Lib.hid (HB4.out.trans (hb.mono HB4.out.size))
        clear hb
        go_wp2_with fail
        refine (idPath s _ (by omega)).mono ?_
        rw [HP.out]
        rintro e w6 ⟨rfl, hb⟩
        have HB6 := Lib.hid (HB5.out.trans (hb.mono HB5.out.size))
        clear hb
        go_wp2_with fail
        refine (idPath t _ (by omega)).mono ?_
        rw [HT.out]
        rintro e w7 ⟨rfl, hb⟩
        have HB7 := Lib.hid (HB6.out.trans (hb.mono HB6.out.size))
        clear hb
        go_wp2_with fail
        refine (live_any _).mono ?_
        rintro e w8 ⟨rfl, hb⟩
        have HB8 := Lib.hid (HB7.out.trans (hb.mono HB7.out.size))
        clear hb
        go_wp2_with fail
        go_ret
        exact ⟨rfl, HB8.out⟩
      · have hl : lowB s.data.toList = false := by simpa using hl
        cases hp : pathB s.data.toList with
        | false =>
          rw [hp, Bool.false_and] at hj
          have HP := Lib.hid hp
          have HJ := Lib.hid hj
          clear hp hj
          go_enter Try.func5, Try.ntmps5
          go_wp2_with fail
          refine (idLow s _ (by omega)).mono ?_
          rw [hl]
          rintro e w1 ⟨rfl, hb⟩
          have HB1 := Lib.hid (HB0.out.trans (hb.mono HB0.out.size))
          clear hb hl
          go_wp2_with fail
          refine (idPath _ _ HJS).mono ?_
          rw [HJ.out]
          rintro e w5 ⟨rfl, hb⟩
          have HB5 := Lib.hid (HB1.out.trans (hb.mono HB1.out.size))
          clear hb
          go_wp2_with fail
          refine (idPath s _ (by omega)).mono ?_
          rw [HP.out]
          rintro e w6 ⟨rfl, hb⟩
          have HB6 := Lib.hid (HB5.out.trans (hb.mono HB5.out.size))
          clear hb
          go_wp2_with fail
          refine (live_any _).mono ?_
          rintro e w8 ⟨rfl, hb⟩
          have HB8 := Lib.hid (HB6.out.trans (hb.mono HB6.out.size))
          clear hb
          go_wp2_with fail
          go_ret
          exact ⟨rfl, HB8.out⟩
        | true =>
          rw [hp, Bool.true_and] at hj
          generalize ht2 : pathB t.data.toList = bt at hj
          have HP := Lib.hid hp
          have HT := Lib.hid ht2
          have HJ := Lib.hid hj
          clear hp ht2 hj
          go_enter Try.func5, Try.ntmps5
          go_wp2_with fail
          refine (idLow s _ (by omega)).mono ?_
          rw [hl]
          rintro e w1 ⟨rfl, hb⟩
          have HB1 := Lib.hid (HB0.out.trans (hb.mono HB0.out.size))
          clear hb hl
          go_wp2_with fail
          refine (idPath _ _ HJS).mono ?_
          rw [HJ.out]
          rintro e w5 ⟨rfl, hb⟩
          have HB5 := Lib.hid (HB1.out.trans (hb.mono HB1.out.size))
          clear hb
          go_wp2_with fail
          refine (idPath s _ (by omega)).mono ?_
          rw [HP.out]
          rintro e w6 ⟨rfl, hb⟩
          have HB6 := Lib.hid (HB5.out.trans (hb.mono HB5.out.size))
          clear hb
          go_wp2_with fail
          refine (idPath t _ (by omega)).mono ?_
          rw [HT.out]
          rintro e w7 ⟨rfl, hb⟩
          have HB7 := Lib.hid (HB6.out.trans (hb.mono HB6.out.size))
          clear hb
          go_wp2_with fail
          refine (live_any _).mono ?_
          rintro e w8 ⟨rfl, hb⟩
          have HB8 := Lib.hid (HB7.out.trans (hb.mono HB7.out.size))
          clear hb
          go_wp2_with fail
          go_ret
          exact ⟨rfl, HB8.out⟩
end Go.Proofs.Ytdacaahkddnkpaa
