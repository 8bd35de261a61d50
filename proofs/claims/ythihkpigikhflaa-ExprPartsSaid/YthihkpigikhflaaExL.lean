/- The page's example. Conditions: none. -/
import Derived.Test.YthihkpigikhflaaExT
import Derived.Laws.Tables
namespace Go.Proofs.Ythihkpigikhflaa
open Go.RowKit Go.Sort
set_option linter.unusedVariables false

def liveA : Ex := .mk 3 0 ⟨#[97]⟩ 0 [] []
def liveB : Ex := .mk 1 1 ⟨#[]⟩ 0 [] []
def liveX : Ex := .mk 6 0 ⟨#[]⟩ 3 [] [liveA, liveB]
theorem live_size : sizeX liveX = 3 := by decide
theorem live_depth : depthX liveX = 2 := by decide
theorem live_vars : varsX liveX = [⟨#[97]⟩] := by rfl
theorem live_right : rightX liveX = true := by decide +kernel
theorem live_short : ∀ p ∈ partsX liveX, ShortP p := by
  intro p hp
  have hl : partsX liveX = [liveX, liveA, liveB] := rfl
  rw [hl] at hp
  simp only [List.mem_cons, List.not_mem_nil, or_false] at hp
  rcases hp with hp | hp | hp <;> rw [hp] <;> unfold ShortP <;> refine ⟨by decide, ?_, by decide⟩ <;> intro t ht <;> simp [liveX, liveA, liveB, Ex.arms] at ht
theorem live_same : sameT [⟨#[97]⟩] [⟨#[97]⟩] = true := by simp [sameT]

abbrev liveC (B : Option Addr) : Array Value := #[.int .i64 6, .int .i64 0, .string ⟨#[]⟩, .int .i64 3, .slice none 0 0, .slice B 2 2]
theorem liveC_eq (B : Option Addr) : exA liveX none 0 B 2 = liveC B := rfl
abbrev liveS : Array Value := #[.int .i64 3, .int .i64 0, .string ⟨#[97]⟩, .int .i64 0, .slice none 0 0, .slice none 0 0, .int .i64 1, .int .i64 1, .string ⟨#[]⟩, .int .i64 0, .slice none 0 0, .slice none 0 0]

theorem live_facts (w w2 : World) (h : (w.alloc (.cells liveS 25)).alloc (.cells (liveC (some ⟨w.heap.size, 0, none⟩)) 25) = w2) :
    Below w.heap.size w w2 ∧ rdX w2 liveX none (some ⟨w.heap.size, 0, none⟩) ∧ ∀ w', Below w2.heap.size w2 w' → ∀ j, w'.cell? ⟨w.heap.size + 1, j, none⟩ = (liveC (some ⟨w.heap.size, 0, none⟩))[j]? := by
  subst h
  refine ⟨((Below.refl _ _).alloc (Nat.le_refl _) _).alloc (by simp) _, rdX.alloc ?_ _, fun w' hb j => ?_⟩
  · rw [rdX_eq]
    refine ⟨RdT.nil_ _, rfl, by show (2 : Nat) ≤ _; omega, fun _ => ⟨_, _, rfl, by simp, ?_⟩⟩
    have hc : ∀ j, (w.alloc (.cells liveS 25)).cell? ⟨w.heap.size, j, none⟩ = liveS[j]? := fun j => World.cell?_alloc_new w _ _ j
    have hnil : ∀ k n s op (W : World), rdX W (.mk k n s op [] []) none none := fun k n s op W => by
      rw [rdX_eq]
      exact ⟨RdT.nil_ _, RdX.nil_ _⟩
    simp only [Ex.subs, liveX, rdXs]
    refine ⟨⟨none, 0, none, 0, fun j v hj => ?_, hnil _ _ _ _ _⟩, ⟨none, 0, none, 0, fun j v hj => ?_, hnil _ _ _ _ _⟩, trivial⟩
    · rw [hc]
      match j, hj with
      | 0, hj | 1, hj | 2, hj | 3, hj | 4, hj | 5, hj => exact hj
    · rw [hc]
      match j, hj with
      | 0, hj | 1, hj | 2, hj | 3, hj | 4, hj | 5, hj => exact hj
  · rw [hb.cell (p := ⟨w.heap.size + 1, j, none⟩) (by simp)]
    have := World.cell?_alloc_new (w.alloc (.cells liveS 25)) (liveC (some ⟨w.heap.size, 0, none⟩)) 25 j
    rwa [World.size_alloc] at this

set_option maxRecDepth 100000 in
set_option maxHeartbeats 8000000 in
theorem live_any (w : World) : Calls Try.prog 8 #[] w fun e w' => e = .returned (.bool true) ∧ Below w.heap.size w w' := by
  have HF := Lib.hid (live_facts w)
  have HSZ := Lib.hid fun W h => exSize liveX none 0 (some ⟨w.heap.size, 0, none⟩) 2 W h (by decide)
  have HDP := Lib.hid fun W h => exDepth liveX none 0 (some ⟨w.heap.size, 0, none⟩) 2 W h (by decide)
  have HVR := Lib.hid fun W h => exVars liveX none 0 (some ⟨w.heap.size, 0, none⟩) 2 W h (by decide)
  have HRT := Lib.hid fun W h => exRight liveX none 0 (some ⟨w.heap.size, 0, none⟩) 2 W h (by decide) live_short
  simp only [liveC_eq, live_size, live_depth, live_vars, live_right, List.length_cons, List.length_nil, Nat.zero_add] at HSZ HDP HVR HRT
  go_enter Try.func8, Try.ntmps8
  go_upto_region 2 with (fail)
  generalize hw1 : (w.alloc _).alloc _ = w1
  obtain ⟨hb1, hr1, hcell⟩ := HF.out w1 hw1
  have HB1 := Lib.hid hb1
  have HR1 := Lib.hid hr1
  have HC := Lib.hid hcell
  have HW1 := Lib.hid (Below.refl w1.heap.size w1)
  clear hw1 hb1 hr1 hcell HF
  have q0 := HC.out w1 HW1.out 0
  have q1 := HC.out w1 HW1.out 1
  have q2 := HC.out w1 HW1.out 2
  have q3 := HC.out w1 HW1.out 3
  have q4 := HC.out w1 HW1.out 4
  have q5 := HC.out w1 HW1.out 5
  go_wp2_with fail
  refine (HSZ.out w1 HR1.out).mono ?_
  rintro r w2 ⟨rfl, hb⟩
  have HB2 := Lib.hid (HB1.out.trans (hb.mono HB1.out.size))
  have HW2 := Lib.hid (HW1.out.trans (hb.mono HW1.out.size))
  clear hb q0 q1 q2 q3 q4 q5
  have q0 := HC.out w2 HW2.out 0
  have q1 := HC.out w2 HW2.out 1
  have q2 := HC.out w2 HW2.out 2
  have q3 := HC.out w2 HW2.out 3
  have q4 := HC.out w2 HW2.out 4
  have q5 := HC.out w2 HW2.out 5
  go_wp2_with fail
  refine (HDP.out w2 (HR1.out.below HW2.out)).mono ?_
  rintro r w3 ⟨rfl, hb⟩
  have HB3 := Lib.hid (HB2.out.trans (hb.mono HB2.out.size))
  have HW3 := Lib.hid (HW2.out.trans (hb.mono HW2.out.size))
  clear hb q0 q1 q2 q3 q4 q5
  have q0 := HC.out w3 HW3.out 0
  have q1 := HC.out w3 HW3.out 1
  have q2 := HC.out w3 HW3.out 2
  have q3 := HC.out w3 HW3.out 3
  have q4 := HC.out w3 HW3.out 4
  have q5 := HC.out w3 HW3.out 5
  go_wp2_with fail
  refine (HVR.out w3 (HR1.out.below HW3.out)).mono ?_
  rintro r w4 ⟨⟨A2, c2, rfl, hV⟩, hb⟩
  have HB4 := Lib.hid (HB3.out.trans (hb.mono HB3.out.size))
  have HW4 := Lib.hid (HW3.out.trans (hb.mono HW3.out.size))
  have HV := Lib.hid hV
  clear hV
  clear hb q0 q1 q2 q3 q4 q5
  have q0 := HC.out w4 HW4.out 0
  have q1 := HC.out w4 HW4.out 1
  have q2 := HC.out w4 HW4.out 2
  have q3 := HC.out w4 HW4.out 3
  have q4 := HC.out w4 HW4.out 4
  have q5 := HC.out w4 HW4.out 5
  have HLT := Lib.hid (RdT.lit w4 9 [⟨#[97]⟩] 1 rfl (by omega) #[.string ⟨#[97]⟩] rfl)
  have HA4 := Lib.hid ((Below.refl w4.heap.size w4).alloc (Nat.le_refl _) (.cells #[.string ⟨#[97]⟩] 9))
  have HNM := Lib.hid (refNames A2 (some ⟨w4.heap.size, 0, none⟩) 1 1 c2 1 _ _ _ (HV.out.below HA4.out) HLT.out)
  rw [live_same] at HNM
  have HB5 := Lib.hid (HB4.out.trans (HA4.out.mono HB4.out.size))
  have HW5 := Lib.hid (HW4.out.trans (HA4.out.mono HW4.out.size))
  go_wp2_with fail
  refine HNM.out.mono ?_
  rintro r w6 ⟨rfl, hb⟩
  have HB6 := Lib.hid (HB5.out.trans (hb.mono HB5.out.size))
  have HW6 := Lib.hid (HW5.out.trans (hb.mono HW5.out.size))
  clear hb q0 q1 q2 q3 q4 q5
  have q0 := HC.out w6 HW6.out 0
  have q1 := HC.out w6 HW6.out 1
  have q2 := HC.out w6 HW6.out 2
  have q3 := HC.out w6 HW6.out 3
  have q4 := HC.out w6 HW6.out 4
  have q5 := HC.out w6 HW6.out 5
  go_wp2_with fail
  refine (HRT.out w6 (HR1.out.below HW6.out)).mono ?_
  rintro r w7 ⟨rfl, hb⟩
  have HB7 := Lib.hid (HB6.out.trans (hb.mono HB6.out.size))
  have HW7 := Lib.hid (HW6.out.trans (hb.mono HW6.out.size))
  clear hb q0 q1 q2 q3 q4 q5
  have q0 := HC.out w7 HW7.out 0
  have q1 := HC.out w7 HW7.out 1
  have q2 := HC.out w7 HW7.out 2
  have q3 := HC.out w7 HW7.out 3
  have q4 := HC.out w7 HW7.out 4
  have q5 := HC.out w7 HW7.out 5
  go_wp2_with fail
  go_ret
  exact ⟨rfl, HB7.out⟩
end Go.Proofs.Ythihkpigikhflaa
