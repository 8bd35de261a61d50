/- What the document's Once, cut and Path return. Conditions: none. -/
import Derived.Test.YtijbahdpblopjaaDoorIdG
import Derived.Maps.AppendAt
namespace Go.Proofs.YtijbahdpblopjaaDoor
open Go.RowKit
set_option linter.unusedVariables false

/-- That none of the texts ahead of j is the one at k. -/
def apartTo (ss : List ByteArray) (x : ByteArray) (j : Nat) : Prop := ∀ i, i < j → ((ss[i]?.getD ByteArray.empty).toList == x.toList) = false

theorem apart_seen {ss : List ByteArray} {k : Nat} (h : k < ss.length) (H : apartTo ss (ss[k]?.getD ByteArray.empty) k) : seenAt ss k = false := by
  refine decide_eq_false fun hm => ?_
  obtain ⟨y, hy, e⟩ := List.mem_map.1 hm
  obtain ⟨i, hi, ey⟩ := List.getElem_of_mem hy
  rw [List.length_take] at hi
  have h1 := H i (by omega)
  rw [List.getElem_take] at ey
  rw [List.getElem?_eq_getElem (show i < ss.length by omega), Option.getD_some, ey, Lib.toList_data, Lib.toList_data, e] at h1
  simp at h1

theorem meets_seen {ss : List ByteArray} {i k : Nat} (h : k < ss.length) (hi : i < k) (he : ((ss[i]?.getD ByteArray.empty).toList == (ss[k]?.getD ByteArray.empty).toList) = true) : seenAt ss k = true := by
  refine decide_eq_true (List.mem_map.2 ⟨ss[i]?.getD ByteArray.empty, ?_, ?_⟩)
  · rw [List.getElem?_eq_getElem (show i < ss.length by omega), Option.getD_some]
    exact List.mem_take_iff_getElem.2 ⟨i, by omega, rfl⟩
  · rw [Lib.toList_data, Lib.toList_data] at he
    exact beq_iff_eq.1 he

set_option maxRecDepth 100000 in
set_option maxHeartbeats 2000000 in
theorem refOnce (A : Option Addr) (n c : Nat) (ss : List ByteArray) (w : World) (h : RdT w A n ss) (hn : n ≤ 100) :
    Calls Tryd.prog 45 #[.slice A n c] w fun e w' => e = .returned (.bool (onceS ss)) ∧ ∃ m, w' = w.drewN m := by
  have HL := Lib.hid h.len
  go_enter Tryd.func45, Tryd.ntmps45
  go_wp2_with fail
  go_loopw [3] (fun i wr => ∃ k : Nat, k ≤ n ∧ i = .int .i64 k ∧ (∃ m, wr = w.drewN m) ∧ onceTo ss k) (fun i _ => n - (intOf i).toNat)
  case atStart => exact ⟨0, Nat.zero_le _, rfl, ⟨0, rfl⟩, onceTo_zero _⟩
  case round =>
    obtain ⟨k, hk, rfl, ⟨m, rfl⟩, honce⟩ := hrel
    have HO := Lib.hid honce
    clear honce
    by_cases hlt : k < n
    · obtain ⟨b, off, rfl, hb, hc⟩ := h.at_ hlt
      have hkk : k < ss.length := by rw [HL.out]; exact hlt
      have hck := hc k hlt
      generalize hx : ss[k]?.getD ByteArray.empty = x at hck
      have HX := Lib.hid hx
      have HKK := Lib.hid hkk
      have HC := Lib.hid hc
      clear hx hkk hc
      go_wp2_with fail
      go_loopw [4] (fun j wr => ∃ i : Nat, i ≤ k ∧ j = .int .i64 i ∧ (∃ m, wr = w.drewN m) ∧ apartTo ss x i) (fun j _ => k - (intOf j).toNat)
      case atStart => exact ⟨0, Nat.zero_le _, rfl, ⟨_, rfl⟩, fun i hi => absurd hi (by omega)⟩
      case round =>
        obtain ⟨i, hi, rfl, ⟨m2, rfl⟩, hap⟩ := hrel
        have HAP := Lib.hid hap
        clear hap
        by_cases hik : i < k
        · have hci := HC.out i (by omega)
          generalize hy : ss[i]?.getD ByteArray.empty = y at hci
          have HY := Lib.hid hy
          clear hy
          by_cases he : (y.toList == x.toList) = true
          · have HE := Lib.hid he
            go_wp2_with fail
            go_quiet (fail)
            go_wp2_with fail
            go_ret
            refine ⟨ret_bool ?_, _, World.drewN_drewN _ _ _⟩
            exact (seen_twice HKK.out (meets_seen HKK.out hik (by rw [HX.out, HY.out]; exact HE.out))).symm
          · have he : (y.toList == x.toList) = false := by simpa using he
            have HE := Lib.hid he
            go_wp2_with fail
            go_quiet (fail)
            go_wp2_with fail
            go_roundw
            case rel =>
              refine ⟨i + 1, by omega, by go_num, ⟨_, rfl⟩, fun j hj => ?_⟩
              rcases Nat.lt_or_ge j i with h1 | h1
              · exact HAP.out j h1
              · obtain rfl : j = i := by omega
                rw [HY.out]
                exact HE.out
            case measure => simp [intOf]; omega
        · go_wp2_with fail
          go_roundw
          case rel =>
            refine ⟨k + 1, by omega, by go_num, ⟨_, rfl⟩, onceTo_succ HO.out HKK.out (apart_seen HKK.out ?_)⟩
            rw [HX.out]
            exact fun j hj => HAP.out j (by omega)
          case measure => simp [intOf]; omega
    · go_wp2_with fail
      go_ret
      exact ⟨ret_bool (onceTo_end HO.out (by rw [HL.out]; omega)).symm, _, rfl⟩
end Go.Proofs.YtijbahdpblopjaaDoor
