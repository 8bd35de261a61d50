/- The text of every expression: of the document's text. Conditions: names of at most 1000 bytes, few arms, numbers of 64 bits. -/
import Derived.Test.YtijbahdpblopjaaGreatDoorShC
namespace Go.Proofs.YtijbahdpblopjaaGreatDoor
open Go.RowKit Go.Sort
set_option linter.unusedVariables false
set_option linter.unusedSimpArgs false

/-- The text of an expression: empty, if it is not right. -/
def textS (x : Ex) : ByteArray := if rightX x = true then ofB (textL x) else ⟨#[]⟩
theorem right_size {x : Ex} (h : rightX x = true) : sizeX x ≤ 60 := by
  simp only [rightX, Bool.and_eq_true, Bool.not_eq_true', decide_eq_false_iff_not] at h
  omega

set_option maxRecDepth 100000 in
set_option maxHeartbeats 2000000 in
theorem refExpr (x : Ex) (A : Option Addr) (ca : Nat) (B : Option Addr) (cb : Nat) (w : World) (hr : rdX w x A B) (hcb : x.subs.length ≤ cb) (hc : capX w x B) (hs : sizeX x ≤ 1000000) (hsh : ∀ p ∈ partsX x, ShortP p) (hn : ∀ p ∈ partsX x, NumP p) :
    Calls Tryz.prog 7 #[.agg (exA x A ca B cb)] w fun e w' => e = .returned (.string (textS x)) ∧ Below w.heap.size w w' := by
  have HF := Lib.hid fun w1 h => box_facts w x A ca B cb w1 h hr
  have HRT := Lib.hid fun w1 (h : Below w.heap.size w w1) => refRight x A ca B cb w1 (hr.below h) hs hsh
  have HTX := Lib.hid fun (hx : rightX x = true) w1 (h : Below w.heap.size w w1) => refText x (right_ok hx) hn (by have := right_size hx; omega) A ca B cb w1 (hr.below h) hcb (hc.below hr h)
  have HS := Lib.hid (show textS x = if rightX x = true then ofB (textL x) else ⟨#[]⟩ from rfl)
  clear hr hc hsh hn
  unfold exA at HF HRT HTX ⊢
  generalize textS x = ts at *
  generalize rightX x = rx at *
  cases rx with
  | false =>
    have HE := Lib.hid (show (⟨#[]⟩ : ByteArray) = ts by rw [HS.out]; rfl)
    go_enter Tryz.func7, Tryz.ntmps7
    go_upto_region 1 with (fail)
    generalize hw1 : w.alloc _ = w1
    obtain ⟨hb1, hg, hr1, hcell⟩ := HF.out w1 hw1
    have HB1 := Lib.hid hb1
    have HC := Lib.hid hcell
    have q0 := hcell w1 (Below.refl _ _) 0
    have q1 := hcell w1 (Below.refl _ _) 1
    have q2 := hcell w1 (Below.refl _ _) 2
    have q3 := hcell w1 (Below.refl _ _) 3
    have q4 := hcell w1 (Below.refl _ _) 4
    have q5 := hcell w1 (Below.refl _ _) 5
    clear hcell hb1 hr1 hw1 HF
    go_wp2_with fail
    refine (HRT.out w1 HB1.out).mono ?_
    rintro r w2 ⟨rfl, hb⟩
    have HB2 := Lib.hid (HB1.out.trans (hb.mono HB1.out.size))
    clear hb
    go_wp2_with fail
    go_ret
    exact ⟨ret_str HE.out, HB2.out⟩
  | true =>
    have HE := Lib.hid (show ofB (textL x) = ts by rw [HS.out]; rfl)
    go_enter Tryz.func7, Tryz.ntmps7
    go_upto_region 1 with (fail)
    generalize hw1 : w.alloc _ = w1
    obtain ⟨hb1, hg, hr1, hcell⟩ := HF.out w1 hw1
    have HB1 := Lib.hid hb1
    have HC := Lib.hid hcell
    have q0 := hcell w1 (Below.refl _ _) 0
    have q1 := hcell w1 (Below.refl _ _) 1
    have q2 := hcell w1 (Below.refl _ _) 2
    have q3 := hcell w1 (Below.refl _ _) 3
    have q4 := hcell w1 (Below.refl _ _) 4
    have q5 := hcell w1 (Below.refl _ _) 5
    clear hcell hb1 hr1 hw1 HF
    go_wp2_with fail
    refine (HRT.out w1 HB1.out).mono ?_
    rintro r w2 ⟨rfl, hb⟩
    have HB2 := Lib.hid (HB1.out.trans (hb.mono HB1.out.size))
    have HW2 := Lib.hid hb
    clear hb q0 q1 q2 q3 q4 q5
    have q0 := HC.out w2 HW2.out 0
    have q1 := HC.out w2 HW2.out 1
    have q2 := HC.out w2 HW2.out 2
    have q3 := HC.out w2 HW2.out 3
    have q4 := HC.out w2 HW2.out 4
    have q5 := HC.out w2 HW2.out 5
    go_wp2_with fail
    refine (HTX.out (by first | trivial | rfl) w2 HB2.out).mono ?_
    rintro r w3 ⟨rfl, hb⟩
    have HB3 := Lib.hid (HB2.out.trans (hb.mono HB2.out.size))
    clear hb
    go_wp2_with fail
    go_ret
    exact ⟨ret_str HE.out, HB3.out⟩
end Go.Proofs.YtijbahdpblopjaaGreatDoor
