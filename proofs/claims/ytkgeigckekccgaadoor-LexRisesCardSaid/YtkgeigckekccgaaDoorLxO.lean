/- What the document's All returns, and Quote of both. Conditions: that the text has at most 1000 bytes. -/
import Derived.Test.YtkgeigckekccgaaDoorLxN
import Derived.Test.YtkgeigckekccgaaDoorLxH
namespace Go.Proofs.YtkgeigckekccgaaDoor
open Go.RowKit Go.Sort
set_option linter.unusedVariables false

set_option maxHeartbeats 2000000 in
theorem rxAll_long (s : ByteArray) (most : Int) (w : World) (hs : s.size ≤ 9223372036854775807) (hm : most < (s.size : Int)) :
    Calls Tryd.prog 8 #[.string s, .int .i64 most] w fun e w' => e = .returned (.tuple #[.slice none 0 0, .int .i64 most, .int .i64 3]) ∧ w = w' := by
  go_enter Tryd.func8, Tryd.ntmps8
  go_wp2_with fail
  exact bodyPost_ret (v := .tuple #[.slice none 0 0, .int .i64 most, .int .i64 3]) (by simp [results, Tryd.results8, go_sem]) rfl ⟨rfl, rfl⟩

theorem infoTr : (Tryd.prog.info? 42).map (fun i => (i.zero, i.size, i.bytes)) = some (some (tkV tk0), 4, 40) := by kernel_rfl

theorem AllRel.skip {T : TypeId} {s : ByteArray} {w w' : World} {v : Value} {p q : Nat} {acc : List Tk} (h : AllRel T s w v p acc w') (k : SkipTo s p q) : AllRel T s w v q acc w' :=
  ⟨k.2.1, by have := h.2.1; have := k.1; omega, h.2.2.1, by rw [h.2.2.2.1, k.2.2], h.2.2.2.2⟩

set_option maxRecDepth 100000 in
set_option maxHeartbeats 4000000 in
theorem rxAll (s : ByteArray) (most : Int) (w : World) (hs : s.size ≤ 1000) (hm : (s.size : Int) ≤ most) :
    Calls Tryd.prog 8 #[.string s, .int .i64 most] w fun e w' => AllAns s e w' ∧ Below w.heap.size w w' := by
  obtain ⟨i0, hi, hz0, hz1, hz2⟩ := info_parts infoTr
  have hg : decide (most < (s.size : Int)) = false := decide_eq_false (by omega)
  have hA0 : Hid (AllRel 42 s w (.slice (some ⟨w.heap.size, 0, none⟩) 0 0) 0 [] (w.alloc (.cells #[] 42))) :=
    Lib.hid ⟨Nat.zero_le _, Nat.le_refl _, World.ownsRow_lit w #[] 0 (Nat.le_refl _) (by decide) rfl, by simp, (Below.refl _ _).alloc (Nat.le_refl _) _⟩
  go_enter Tryd.func8, Tryd.ntmps8
  go_upto_region 4 with (fail)
  generalize (w.alloc (.cells #[] 42)) = w1 at *
  clear hg hm
  go_wp2_with fail
  refine (rxSkip s 0 _ (by omega) (Nat.zero_le _)).mono ?_
  rintro e w' ⟨⟨q0, rfl, hsk, hbk⟩, rfl⟩
  have hA1 := Lib.hid (hA0.out.skip hsk)
  have hbk0 := Lib.hid hbk
  clear hsk hbk hA0
  go_wp2_with fail
  go_loopw [7, 8] (fun v i wr => ∃ (p : Nat) (acc : List Tk), i = .int .i64 p ∧ AllRel 42 s w v p acc wr ∧ (p < s.size → blankN (s.data.toList.drop p) = 0)) (fun _ i _ => s.size - (intOf i).toNat)
  case atStart => exact ⟨q0, [], rfl, hA1.out, hbk0.out⟩
  case round =>
    obtain ⟨p, acc, rfl, hrel, hbk⟩ := hrel
    have HA := Lib.hid hrel
    have HBK := Lib.hid hbk
    have hp := hrel.1
    clear hrel hbk
    by_cases hlt : p < s.size
    · go_wp2_with fail
      refine (rxOne s p _ hs hlt).mono ?_
      rintro e w2 ⟨⟨t, q, b, rfl, hm⟩, hb2⟩
      have HA2 := Lib.hid (HA.out.on hb2)
      clear hb2
      cases ht : tokL (s.data.toList.drop p) with
      | none =>
        rw [ht] at hm
        obtain rfl : b = false := hm
        have HE := Lib.hid (HA2.out.bad hlt (HBK.out hlt) ht)
        have HBW := Lib.hid HA2.out.2.2.2.2
        clear ht
        simp only [tkV, tkA]
        go_wp2_with fail
        exact bodyPost_ret (v := .tuple #[.slice none 0 0, .int .i64 (p : Int), .int .i64 2]) (by simp [results, Tryd.results8, go_sem]) rfl ⟨AllAns.no HE.out, HBW.out.alloc HBW.out.size _⟩
      | some x =>
        obtain ⟨u, z⟩ := x
        rw [ht] at hm
        obtain ⟨rfl, rfl, rfl⟩ := hm
        have HT := Lib.hid ht
        have hrow := HA2.out.2.2.1
        have hlen := HA2.out.2.1
        have hBz := HA2.out.2.2.2.2.size
        have HBW := Lib.hid HA2.out.2.2.2.2
        have hzq : p + z ≤ s.size := by have := (tok_ok ht).2.1; rw [List.length_drop, ← Lib.size_eq] at this; omega
        clear ht
        simp only [tkV, tkA]
        go_wp2_with (at_builtin; go_must (refine wpList_append_own _ rfl _ _ 27 rfl w.heap.size 42 i0 (tkV tk0) 4 40 Tryd.underlying27 hi hz0 hz1 hz2 rfl (by decide) _ _ _ rfl ((hrow.alloc _).alloc _) ⟨w2.heap.size + 1, 0, none⟩ 1 1 (tkA { u with a := p }).toList rfl rfl (cells_new _ _ _ _) (by rw [← flatT_one]; exact flatT_ones _) (by unfold maxLen; omega) (by omega) (by simp; omega) ?_; intro v' w3 hown' hgrow _))
        have hBE := Lib.hid (((HBW.out.alloc hBz (.cells (tkA { u with a := p }) 42)).alloc (by simp; omega) (.cells (tkA { u with a := p }) 42)).grown hgrow (by simp; omega) (fun j hj => (hrow.lt j hj).1))
        have HN := Lib.hid (HA2.out.tok (HBK.out hlt) HT.out hown' hBE.out)
        have hzp := (tok_ok HT.out).1
        clear hown' hgrow hrow
        refine (rxSkip s (p + z) _ (by omega) hzq).mono ?_
        rintro e w' ⟨⟨q1, rfl, hsk, hbk⟩, rfl⟩
        have HN2 := Lib.hid (HN.out.skip hsk)
        have HBK2 := Lib.hid hbk
        have hq1 := hsk.1
        clear hsk hbk
        go_wp2_with fail
        go_roundw
        case rel => exact ⟨q1, acc ++ [{ u with a := p }], rfl, HN2.out, HBK2.out⟩
        case measure => simp [intOf]; omega
    · have hpe : p = s.size := by omega
      have HP := Lib.hid hpe
      have HE := Lib.hid (AllRel.all (hpe ▸ HA.out))
      have hrow := HA.out.2.2.1
      have hlen := HA.out.2.1
      have hBz := HA.out.2.2.2.2.size
      have HBW := Lib.hid HA.out.2.2.2.2
      clear hpe
      go_wp2_with (at_builtin; go_must (refine wpList_append_own _ rfl _ _ 27 rfl w.heap.size 42 i0 (tkV tk0) 4 40 Tryd.underlying27 hi hz0 hz1 hz2 rfl (by decide) _ _ _ rfl (hrow.alloc _) ⟨wr.heap.size, 0, none⟩ 1 1 (tkA ⟨6, [], 0, s.size⟩).toList rfl rfl (cells_new1 _ _ _) (by rw [← flatT_one]; exact flatT_ones _) (by unfold maxLen; omega) (by omega) (by simp; omega) ?_; intro v' w3 hown' hgrow _))
      have hBE := (HBW.out.alloc hBz (.cells (tkA ⟨6, [], 0, s.size⟩) 42)).grown hgrow (by simp; omega) (fun j hj => (hrow.lt j hj).1)
      obtain ⟨A, c, rfl, hR⟩ := RdK.of_own (ts := acc ++ [⟨6, [], 0, s.size⟩]) (by rw [flatT_app, flatT_one]; exact hown') (by omega)
      exact bodyPost_ret (v := .tuple #[.slice A (acc.length + 1) c, .int .i64 (s.size : Int), .int .i64 0]) (by simp [results, Tryd.results8, go_sem]) rfl ⟨AllAns.yes HE.out rfl hR, hBE⟩

/-! ### Quote -/

/-- A path as it is quoted. -/
def quoteS (s : ByteArray) : ByteArray := if pathB s.data.toList = true then (⟨#[39]⟩ : ByteArray) ++ s ++ ⟨#[39]⟩ else ⟨#[]⟩

set_option maxHeartbeats 1000000 in
theorem lxQuote (s : ByteArray) (w : World) (hs : s.size ≤ 9223372036854775800) :
    Calls Tryd.prog 11 #[.string s] w fun e w' => e = .returned (.string (quoteS s)) ∧ Below w.heap.size w w' := by
  have HC := Lib.hid (idPath s)
  have HQ : Hid (quoteS s = if pathB s.data.toList = true then (⟨#[39]⟩ : ByteArray) ++ s ++ ⟨#[39]⟩ else ⟨#[]⟩) := Lib.hid rfl
  have z1 : (9223372036854775807 < 1 + s.size) = False := by rw [eq_iff_iff, iff_false]; omega
  have z2 : (9223372036854775807 < s.size + 1) = False := by rw [eq_iff_iff, iff_false]; omega
  have z3 : (9223372036854775807 < 1 + s.size + 1) = False := by rw [eq_iff_iff, iff_false]; omega
  cases hb : pathB s.data.toList with
  | true =>
    rw [hb] at HC HQ
    clear hb
    go_enter Tryd.func11, Tryd.ntmps11
    go_wp2_with fail
    refine (HC.out _ (by omega)).mono ?_
    rintro e w2 ⟨rfl, hb2⟩
    have HB2 := Lib.hid hb2
    clear hb2
    go_wp2_with fail
    go_ret
    exact ⟨ret_str (HQ.out.trans (if_pos trivial)).symm, HB2.out⟩
  | false =>
    rw [hb] at HC HQ
    clear hb
    go_enter Tryd.func11, Tryd.ntmps11
    go_wp2_with fail
    refine (HC.out _ (by omega)).mono ?_
    rintro e w2 ⟨rfl, hb2⟩
    have HB2 := Lib.hid hb2
    clear hb2
    go_wp2_with fail
    go_ret
    exact ⟨ret_str (HQ.out.trans (if_neg (by simp))).symm, HB2.out⟩

set_option maxHeartbeats 1000000 in
theorem rxQuote (s : ByteArray) (w : World) (hs : s.size ≤ 1000) :
    Calls Tryd.prog 12 #[.string s] w fun e w' => e = .returned (.string (quoteS s)) ∧ Below w.heap.size w w' := by
  have HC := Lib.hid (refPath s)
  have HQ : Hid (quoteS s = if pathB s.data.toList = true then (⟨#[39]⟩ : ByteArray) ++ s ++ ⟨#[39]⟩ else ⟨#[]⟩) := Lib.hid rfl
  have z1 : (9223372036854775807 < 1 + s.size) = False := by rw [eq_iff_iff, iff_false]; omega
  have z2 : (9223372036854775807 < s.size + 1) = False := by rw [eq_iff_iff, iff_false]; omega
  have z3 : (9223372036854775807 < 1 + s.size + 1) = False := by rw [eq_iff_iff, iff_false]; omega
  cases hb : pathB s.data.toList with
  | true =>
    rw [hb] at HC HQ
    clear hb
    go_enter Tryd.func12, Tryd.ntmps12
    go_wp2_with fail
    refine (HC.out _ hs).mono ?_
    rintro e w2 ⟨rfl, hb2⟩
    have HB2 := Lib.hid hb2
    clear hb2
    go_wp2_with fail
    go_ret
    exact ⟨ret_str (HQ.out.trans (if_pos trivial)).symm, HB2.out⟩
  | false =>
    rw [hb] at HC HQ
    clear hb
    go_enter Tryd.func12, Tryd.ntmps12
    go_wp2_with fail
    refine (HC.out _ hs).mono ?_
    rintro e w2 ⟨rfl, hb2⟩
    have HB2 := Lib.hid hb2
    clear hb2
    go_wp2_with fail
    go_ret
    exact ⟨ret_str (HQ.out.trans (if_neg (by simp))).symm, HB2.out⟩
end Go.Proofs.YtkgeigckekccgaaDoor
