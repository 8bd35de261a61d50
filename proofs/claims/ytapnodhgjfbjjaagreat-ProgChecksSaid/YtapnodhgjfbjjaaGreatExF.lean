/- Which expressions are small, of the document's text. Conditions: none. -/
import Derived.Test.YtapnodhgjfbjjaaGreatExP
namespace Go.Proofs.YtapnodhgjfbjjaaGreat
open Go.RowKit Go.Sort
set_option linter.unusedVariables false

theorem all_false {α : Type} [Inhabited α] {l : List α} {f : α → Bool} {i : Nat} (hi : i < l.length) (h : f (l[i]?.getD default) = false) : l.all f = false := by
  rw [List.all_eq_false]
  refine ⟨l[i]?.getD default, ?_, by simp [h]⟩
  rw [List.getElem?_eq_getElem hi]
  exact List.getElem_mem _
theorem all_take_succ {α : Type} [Inhabited α] {l : List α} {f : α → Bool} {k : Nat} (hk : k < l.length) (h : (l.take k).all f = true) (hx : f (l[k]?.getD default) = true) : (l.take (k + 1)).all f = true := by
  rw [List.take_succ_eq_append_getElem hk, List.all_append, h, Bool.true_and]
  rw [List.getElem?_eq_getElem hk] at hx
  simpa using hx
theorem all_take_end {α : Type} {l : List α} {f : α → Bool} {k : Nat} (h : (l.take k).all f = true) (hk : l.length ≤ k) : l.all f = true := by rwa [List.take_of_length_le hk] at h
instance : Inhabited ByteArray := ⟨ByteArray.empty⟩

/-- One part's name and arms are few. -/
def fewA (t : ByteArray) : Bool := !decide (100 < t.size)
def fewP (p : Ex) : Bool := !decide (200 < p.s.size) && !decide (20 < p.arms.length) && p.arms.all fewA
def tinyX (x : Ex) : Bool := decide (sizeX x < 200) && (partsX x).all fewP

set_option maxRecDepth 100000 in
set_option maxHeartbeats 4000000 in
theorem refFew (x : Ex) (A : Option Addr) (ca : Nat) (B : Option Addr) (cb : Nat) (w : World) (hr : rdX w x A B) (hs : sizeX x ≤ 1000000) :
    Calls Tryz.prog 27 #[.agg (exA x A ca B cb)] w fun e w' => e = .returned (.bool ((partsX x).all fewP)) ∧ Below w.heap.size w w' := by
  have HF := Lib.hid fun w1 h => box_facts w x A ca B cb w1 h hr
  have HP := Lib.hid fun w1 (h : Below w.heap.size w w1) => refParts x A ca B cb w w1 hr h hs
  have HLN := Lib.hid (partsX_len x)
  have hsp := size_pos x
  clear hr
  unfold exA at HF HP ⊢
  go_enter Tryz.func27, Tryz.ntmps27
  go_upto_region 1 with (fail)
  generalize hw1 : w.alloc _ = w1
  obtain ⟨hb1, hg, hr1, hcell⟩ := HF.out w1 hw1
  have HB1 := Lib.hid hb1
  have HP1 := Lib.hid (HP.out w1 hb1)
  have q0 := hcell w1 (Below.refl _ _) 0
  have q1 := hcell w1 (Below.refl _ _) 1
  have q2 := hcell w1 (Below.refl _ _) 2
  have q3 := hcell w1 (Below.refl _ _) 3
  have q4 := hcell w1 (Below.refl _ _) 4
  have q5 := hcell w1 (Below.refl _ _) 5
  clear hcell hb1 hr1 hw1 HF HP
  go_wp2_with fail
  refine HP1.out.mono ?_
  rintro r w2 ⟨A2, c2, cs2, rfl, hcel, hfl2, hb2, _⟩
  have HB2 := Lib.hid (HB1.out.trans (hb2.mono HB1.out.size))
  have HRX := Lib.hid (hcel.rd hfl2 HB2.out)
  clear hcel hfl2 hb2 q0 q1 q2 q3 q4 q5 HP1
  generalize hl : partsX x = l at *
  have HLL := Lib.hid hl
  generalize hn : sizeX x = n at *
  go_wp2_with fail
  go_loopw [4] (fun i wr => ∃ k : Nat, k ≤ n ∧ i = .int .i64 k ∧ w2 = wr ∧ (l.take k).all fewP = true) (fun i _ => n - (intOf i).toNat)
  case atStart => exact ⟨0, Nat.zero_le _, rfl, rfl, by simp⟩
  case round =>
    obtain ⟨k, hk, rfl, rfl, hall⟩ := hrel
    have HA := Lib.hid hall
    clear hall
    by_cases hlt : k < n
    · obtain ⟨b, off, rfl, hb, hat⟩ := HRX.out.at_ hlt
      obtain ⟨A', ca', B', cb', hrg, hrd⟩ := hat k hlt
      obtain ⟨c0, c1, c2, c3, c4, c5⟩ := rangeAt_six hrg
      have HAR := Lib.hid hrd.arms
      have HK := Lib.hid (show k < l.length by rw [HLN.out]; exact hlt)
      clear hat hrg hrd
      generalize hp : l[k]?.getD default = p at *
      have HPP := Lib.hid hp
      by_cases h1 : 200 < p.s.size
      · have HN := Lib.hid (all_false (f := fewP) HK.out (by rw [HPP.out]; simp [fewP, h1]))
        go_wp2_with fail
        go_ret
        exact ⟨ret_bool (by first | exact HN.out.symm | (rw [HLL.out]; exact HN.out.symm)), HB2.out⟩
      · by_cases h2 : 20 < p.arms.length
        · have HN := Lib.hid (all_false (f := fewP) HK.out (by rw [HPP.out]; simp [fewP, h2]))
          go_wp2_with fail
          go_ret
          exact ⟨ret_bool (by first | exact HN.out.symm | (rw [HLL.out]; exact HN.out.symm)), HB2.out⟩
        · generalize hm : p.arms.length = m at *
          have HM := Lib.hid hm
          go_wp2_with fail
          go_loopw [5] (fun j wr => ∃ i : Nat, i ≤ m ∧ j = .int .i64 i ∧ w2 = wr ∧ (p.arms.take i).all fewA = true) (fun j _ => m - (intOf j).toNat)
          case atStart => exact ⟨0, Nat.zero_le _, rfl, rfl, by simp⟩
          case round =>
            obtain ⟨i, hi, rfl, rfl, hall⟩ := hrel
            have HJ := Lib.hid hall
            clear hall
            by_cases him : i < m
            · obtain ⟨b3, off3, rfl, hb3, hc3⟩ := HAR.out.at_ him
              have hci := hc3 i him
              have HI := Lib.hid (show i < p.arms.length by rw [HM.out]; exact him)
              clear hc3
              generalize ht : p.arms[i]?.getD ByteArray.empty = t at *
              have HT := Lib.hid ht
              by_cases h3 : 100 < t.size
              · have HN := Lib.hid (all_false (f := fewA) HI.out (by show fewA (p.arms[i]?.getD ByteArray.empty) = false; rw [HT.out]; simp [fewA, h3]))
                have HN2 := Lib.hid (all_false (f := fewP) HK.out (by rw [HPP.out]; unfold fewP; rw [HN.out]; simp))
                go_wp2_with fail
                go_ret
                exact ⟨ret_bool (by first | exact HN2.out.symm | (rw [HLL.out]; exact HN2.out.symm)), HB2.out⟩
              · have HN := Lib.hid (all_take_succ (f := fewA) HI.out HJ.out (by show fewA (p.arms[i]?.getD ByteArray.empty) = true; rw [HT.out]; simp [fewA, h3]))
                go_wp2_with fail
                go_roundw
                case rel => exact ⟨i + 1, by omega, by go_num, (by first | trivial | rfl), HN.out⟩
                case measure => simp [intOf]; omega
            · have HN := Lib.hid (all_take_end HJ.out (by rw [HM.out]; omega))
              have HN2 := Lib.hid (all_take_succ (f := fewP) HK.out HA.out (by rw [HPP.out]; unfold fewP; rw [HN.out, HM.out]; simp [h1, h2]))
              go_wp2_with fail
              go_roundw
              case rel => exact ⟨k + 1, by omega, by go_num, (by first | trivial | rfl), HN2.out⟩
              case measure => simp [intOf]; omega
    · have HN := Lib.hid (all_take_end HA.out (by rw [HLN.out]; omega))
      go_wp2_with fail
      go_ret
      exact ⟨ret_bool (by first | exact HN.out.symm | (rw [HLL.out]; exact HN.out.symm)), HB2.out⟩

set_option maxRecDepth 100000 in
set_option maxHeartbeats 4000000 in
theorem refSmall (x : Ex) (A : Option Addr) (ca : Nat) (B : Option Addr) (cb : Nat) (w : World) (hr : rdX w x A B) :
    Calls Tryz.prog 11 #[.agg (exA x A ca B cb)] w fun e w' => e = .returned (.bool (tinyX x)) ∧ Below w.heap.size w w' := by
  have HF := Lib.hid fun w1 h => box_facts w x A ca B cb w1 h hr
  have HCT := Lib.hid fun w1 (h : rdX w1 x A B) => refCount x A ca B cb w1 h 200 (by omega)
  have HFW := Lib.hid fun w1 (h : rdX w1 x A B) (h2 : sizeX x ≤ 1000000) => refFew x A ca B cb w1 h h2
  have HT := Lib.hid (show tinyX x = (decide (sizeX x < 200) && (partsX x).all fewP) from rfl)
  clear hr
  unfold exA at HF HCT HFW ⊢
  by_cases hs : sizeX x < 200
  · obtain ⟨q, hq⟩ : ∃ q, 200 - sizeX x = q + 1 := ⟨199 - sizeX x, by omega⟩
    rw [hq] at HCT
    have HT1 := Lib.hid (show tinyX x = (partsX x).all fewP by rw [HT.out]; simp [hs])
    clear hq HT
    go_enter Tryz.func11, Tryz.ntmps11
    go_upto_region 1 with (fail)
    generalize hw1 : w.alloc _ = w1
    obtain ⟨hb1, hg, hr1, hcell⟩ := HF.out w1 hw1
    have HB1 := Lib.hid hb1
    have HC1 := Lib.hid (HCT.out w1 hr1)
    have HR1 := Lib.hid hr1
    have q0 := hcell w1 (Below.refl _ _) 0
    have q1 := hcell w1 (Below.refl _ _) 1
    have q2 := hcell w1 (Below.refl _ _) 2
    have q3 := hcell w1 (Below.refl _ _) 3
    have q4 := hcell w1 (Below.refl _ _) 4
    have q5 := hcell w1 (Below.refl _ _) 5
    have HCC := Lib.hid hcell
    clear hcell hb1 hr1 hw1 HF HCT
    go_wp2_with fail
    refine HC1.out.mono ?_
    rintro r w2 ⟨rfl, hb2⟩
    have HB2 := Lib.hid (HB1.out.trans (hb2.mono HB1.out.size))
    have HF2 := Lib.hid (HFW.out w2 (HR1.out.below hb2) (by omega))
    clear q0 q1 q2 q3 q4 q5
    have q0 := HCC.out w2 hb2 0
    have q1 := HCC.out w2 hb2 1
    have q2 := HCC.out w2 hb2 2
    have q3 := HCC.out w2 hb2 3
    have q4 := HCC.out w2 hb2 4
    have q5 := HCC.out w2 hb2 5
    clear hb2 HCC HFW
    go_wp2_with fail
    refine HF2.out.mono ?_
    rintro r w3 ⟨rfl, hb3⟩
    have HB3 := Lib.hid (HB2.out.trans (hb3.mono HB2.out.size))
    clear hb3
    generalize hb : (partsX x).all fewP = bb at *
    go_wp2_with fail
    go_ret
    exact ⟨ret_bool (by rw [HT1.out]), HB3.out⟩
  · have hq : 200 - sizeX x = 0 := by omega
    rw [hq] at HCT
    have HT1 := Lib.hid (show tinyX x = false by rw [HT.out]; simp [hs])
    clear hq HT HFW
    go_enter Tryz.func11, Tryz.ntmps11
    go_upto_region 1 with (fail)
    generalize hw1 : w.alloc _ = w1
    obtain ⟨hb1, hg, hr1, hcell⟩ := HF.out w1 hw1
    have HB1 := Lib.hid hb1
    have HC1 := Lib.hid (HCT.out w1 hr1)
    have q0 := hcell w1 (Below.refl _ _) 0
    have q1 := hcell w1 (Below.refl _ _) 1
    have q2 := hcell w1 (Below.refl _ _) 2
    have q3 := hcell w1 (Below.refl _ _) 3
    have q4 := hcell w1 (Below.refl _ _) 4
    have q5 := hcell w1 (Below.refl _ _) 5
    clear hcell hb1 hr1 hw1 HF HCT
    go_wp2_with fail
    refine HC1.out.mono ?_
    rintro r w2 ⟨rfl, hb2⟩
    have HB2 := Lib.hid (HB1.out.trans (hb2.mono HB1.out.size))
    clear hb2
    go_wp2_with fail
    go_ret
    exact ⟨ret_bool HT1.out.symm, HB2.out⟩
end Go.Proofs.YtapnodhgjfbjjaaGreat
