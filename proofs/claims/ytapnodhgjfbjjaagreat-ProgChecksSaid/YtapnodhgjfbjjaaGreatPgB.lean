/- Of the document's text: names, Arm. Conditions: none. -/
import Derived.Test.YtapnodhgjfbjjaaGreatPgA
import Derived.Test.YtapnodhgjfbjjaaGreatTyU
import Derived.Test.YtapnodhgjfbjjaaGreatTyV
namespace Go.Proofs.YtapnodhgjfbjjaaGreat
open Go.RowKit
set_option linter.unusedVariables false
set_option linter.unusedSimpArgs false

theorem names_succ {l : List Dc} {k : Nat} (hk : k < l.length) : (namesD l).take (k + 1) = (namesD l).take k ++ [(l[k]?.getD default).nm] := by
  rw [namesD, List.take_add_one, List.getElem?_map, List.getElem?_eq_getElem hk]
  simp
theorem names_len (l : List Dc) : (namesD l).length = l.length := by simp [namesD]

/-- What a call ends with that lays a list of texts of its own. -/
def TextsPost (w : World) (n : Nat) (ss : List ByteArray) (e : Ending) (w' : World) : Prop := ∃ A c, e = .returned (.slice A n c) ∧ RdT w' A n ss ∧ Below w.heap.size w w'

set_option maxRecDepth 100000 in
set_option maxHeartbeats 4000000 in
theorem refNamesD (A : Option Addr) (n c : Nat) (l : List Dc) (w : World) (h : RdD w A n l) (hn : n ≤ 1000) :
    Calls Tryz.prog 24 #[.slice A n c] w (TextsPost w n (namesD l)) := by
  have hlen := h.len
  have hmx := h.max
  obtain ⟨i0, hi, hz0, hz1, hz2⟩ := info_parts infoString
  have hr3 := Lib.hid (World.ownsRow_lit (base := w.heap.size) (e := 9) (size := 1) w #[] 0 (Nat.le_refl _) (by decide) rfl)
  have HB0 := Lib.hid ((Below.refl w.heap.size w).alloc (Nat.le_refl _) (.cells #[] 9))
  have HLN := Lib.hid hlen
  go_enter Tryz.func24, Tryz.ntmps24
  go_wp2_with fail
  go_loopw [3, 4] (fun v i wr => ∃ k : Nat, k ≤ n ∧ i = .int .i64 k ∧ wr.ownsRow w.heap.size 9 1 v k (((namesD l).take k).map Value.string) ∧ Below w.heap.size w wr) (fun _ i _ => n - (intOf i).toNat)
  case atStart => exact ⟨0, Nat.zero_le _, rfl, hr3.out, HB0.out⟩
  case round =>
    obtain ⟨k, hk, rfl, hrw3, hnx⟩ := hrel
    by_cases hlt : k < n
    · obtain ⟨b, off, rfl, hb, hc⟩ := RdS.at_ h (by omega)
      obtain ⟨hn0, -⟩ := (hc k hlt).six
      have hn1 := (hnx.cell (p := ⟨b, off + k * 6, none⟩) hb).trans hn0
      have hNM := Lib.hid (names_succ (l := l) (k := k) (by omega))
      generalize (l[k]?.getD default).nm = x at hn1 hNM
      have HNX := Lib.hid hnx
      have H3 := Lib.hid hrw3
      have hwz := hnx.size
      clear hrw3 hr3 HB0 hn0 hc
      go_wp2_with (at_builtin; refine wpList_append_own_at _ rfl _ _ 38 rfl w.heap.size 9 i0 (.string ByteArray.empty) 1 16 Tryz.underlying38 hi hz0 hz1 hz2 rfl (by decide) _ _ _ rfl (H3.out.alloc _) ⟨wr.heap.size, 0, none⟩ 1 1 [.string x] rfl rfl (cell_one_new _ _ _) (string_cells [x]) (by unfold maxLen; omega) (by omega) (by simp; omega) ?_; intro v' w1 hown' hgrow hnil hloc; have hB1 := (HNX.out.alloc hwz (.cells #[.string x] 9)).grown hgrow (by simp; omega) (fun j hj => (H3.out.lt j hj).1); have HO := Lib.hid hown'; have HB1 := Lib.hid hB1; clear hgrow hown' hnil hloc hB1)
      go_roundw
      case rel =>
        refine ⟨k + 1, by omega, by go_num, ?_, HB1.out⟩
        rw [hNM.out, List.map_append]
        exact HO.out
      case measure => simp [intOf]; omega
    · obtain rfl : k = n := by omega
      have hnm : (namesD l).take k = namesD l := List.take_of_length_le (by rw [names_len]; omega)
      rw [hnm] at hrw3
      obtain ⟨A1, c1, rfl, hR1, _⟩ := RdT.of_own hrw3 (by omega)
      have HR1 := Lib.hid hR1
      have HNX := Lib.hid hnx
      clear hrw3 hR1 hr3 HB0 hnm hnx
      go_wp2_with fail
      go_ret
      exact ⟨A1, c1, rfl, HR1.out, HNX.out⟩

set_option maxRecDepth 100000 in
set_option maxHeartbeats 4000000 in
theorem refPgArm (s : ByteArray) (w : World) (hs : s.size ≤ 9223372036854775807) :
    Calls Tryz.prog 67 #[.string s] w fun e w' => e = .returned (.bool (armT s)) ∧ w = w' := by
  have HH := Lib.hid (refHigh s w hs)
  have HE := Lib.hid (show armT s = (highB s.data.toList || (s.toList == [116, 114, 117, 101]) || (s.toList == [102, 97, 108, 115, 101])) by rw [Lib.toList_data]; rfl)
  cases h1 : highB s.data.toList with
  | true =>
    rw [h1] at HH HE
    go_enter Tryz.func67, Tryz.ntmps67
    go_wp2_with fail
    refine HH.out.mono ?_
    rintro e w1 ⟨rfl, rfl⟩
    go_wp2_with fail
    go_ret
    exact ⟨ret_bool (by rw [HE.out]; rfl), rfl⟩
  | false =>
    rw [h1] at HH HE
    cases h2 : (s.toList == [116, 114, 117, 101]) with
    | true =>
      rw [h2] at HE
      go_enter Tryz.func67, Tryz.ntmps67
      go_wp2_with fail
      refine HH.out.mono ?_
      rintro e w1 ⟨rfl, rfl⟩
      go_wp2_with fail
      go_ret
      exact ⟨ret_bool (by rw [HE.out]; rfl), rfl⟩
    | false =>
      rw [h2] at HE
      cases h3 : (s.toList == [102, 97, 108, 115, 101]) with
      | true =>
        rw [h3] at HE
        go_enter Tryz.func67, Tryz.ntmps67
        go_wp2_with fail
        refine HH.out.mono ?_
        rintro e w1 ⟨rfl, rfl⟩
        go_wp2_with fail
        go_ret
        exact ⟨ret_bool (by rw [HE.out]; rfl), rfl⟩
      | false =>
        rw [h3] at HE
        go_enter Tryz.func67, Tryz.ntmps67
        go_wp2_with fail
        refine HH.out.mono ?_
        rintro e w1 ⟨rfl, rfl⟩
        go_wp2_with fail
        go_ret
        exact ⟨ret_bool (by rw [HE.out]; rfl), rfl⟩
end Go.Proofs.YtapnodhgjfbjjaaGreat
