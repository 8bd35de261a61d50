/- The page's example. Conditions: none. -/
import Derived.Test.YtapnodhgjfbjjaaGreatPhC
namespace Go.Proofs.YtapnodhgjfbjjaaGreat
open Go.RowKit Go.Sort
set_option linter.unusedVariables false
set_option linter.unusedSimpArgs false

def liveC : Dc := ⟨⟨#[99]⟩, 2, 0, 0, ⟨#[]⟩, ⟨#[]⟩⟩
def liveH : Dc := ⟨⟨#[104]⟩, 1, 0, 0, ⟨#[99]⟩, ⟨#[116, 114, 117, 101]⟩⟩
def liveN : Nd := ⟨⟨#[102]⟩, [liveC], [], [liveH], []⟩
theorem live_clock : clockO liveN ⟨#[104]⟩ = some [liveH] := by kernel_rfl
/-- A list of one variable, in a block of its own. -/
theorem rdD_one {w : World} {b : Nat} {d : Dc} (h : RowD w b d) : RdD w (some ⟨b, 0, none⟩) 1 [d] := by
  refine ⟨rfl, by omega, fun _ => ⟨b, 0, rfl, (Array.getElem?_eq_some_iff.1 h).1, fun i hi => ?_⟩⟩
  obtain rfl : i = 0 := by omega
  intro j v hv
  have := h.cells j
  rw [Nat.zero_mul, Nat.add_zero, Nat.zero_add, this]
  simpa [dcA, dcL] using hv
set_option maxRecDepth 100000 in
set_option maxHeartbeats 4000000 in
theorem live_any (w : World) : Calls Tryz.prog 5 #[] w fun e w' => e = .returned (.bool true) ∧ Below w.heap.size w w' := by
  have HL := Lib.hid fun w3 hw => (show Calls Tryz.prog 12 #[.agg (ndA liveN (some ⟨w.heap.size, 0, none⟩) 1 none 0 (some ⟨w.heap.size + 1, 0, none⟩) 1 none 0), .string ⟨#[104]⟩] w3 (ClockPost w3 (some [liveH])) by
    rw [← live_clock]
    exact pgClock liveN _ _ _ _ _ _ _ _ _ w3 hw)
  have HW := Lib.hid fun (cs : Array Value) (T : TypeId) w3 (hw : ((w.alloc (.cells (dcA liveC) 48)).alloc (.cells (dcA liveH) 48)).alloc (.cells cs T) = w3) => (show rdN w3 liveN (some ⟨w.heap.size, 0, none⟩) none (some ⟨w.heap.size + 1, 0, none⟩) none ∧ Below w.heap.size w w3 by
    subst hw
    have h1 : RowD (w.alloc (.cells (dcA liveC) 48)) w.heap.size liveC := heap_alloc_new _ _
    have h2 : RowD ((w.alloc (.cells (dcA liveC) 48)).alloc (.cells (dcA liveH) 48)) (w.heap.size + 1) liveH := by
      have := heap_alloc_new (w.alloc (.cells (dcA liveC) 48)) (.cells (dcA liveH) 48)
      rwa [World.size_alloc] at this
    have b2 := (Below.refl (w.alloc (.cells (dcA liveC) 48)).heap.size _).alloc (Nat.le_refl _) (.cells (dcA liveH) 48)
    have b3 := (Below.refl ((w.alloc (.cells (dcA liveC) 48)).alloc (.cells (dcA liveH) 48)).heap.size _).alloc (Nat.le_refl _) (.cells cs T)
    refine ⟨⟨rdD_one ((h1.below b2).below b3), RdS.nil_ _ _ _, rdD_one (h2.below b3), RdS.nil_ _ _ _⟩, ?_⟩
    exact below_next (below_next ((Below.refl _ _).alloc (Nat.le_refl _) _) b2) b3)
  go_enter Tryz.func5, Tryz.ntmps5
  go_wp2_with fail
  generalize hw3 : World.alloc _ _ = w3
  obtain ⟨hr, hb⟩ := HW.out _ _ w3 hw3
  have HB := Lib.hid hb
  clear hw3
  refine (HL.out w3 hr).mono ?_
  rintro e w4 ⟨hb4, A, c, rfl, hrd⟩
  have HB4 := Lib.hid (below_next HB.out hb4)
  obtain ⟨b, off, rfl, hbl, hc⟩ := RdS.at_ hrd (by decide)
  obtain ⟨d0, -⟩ := (hc 0 (by decide)).six
  rw [Nat.zero_mul, Nat.add_zero] at d0
  replace d0 : w4.cell? ⟨b, off, none⟩ = some (.string ⟨#[104]⟩) := d0
  clear hc hrd hb4
  go_wp2_with fail
  go_ret
  exact ⟨rfl, HB4.out⟩
theorem lawNum (x : Int) (w : World) : Calls Tryz.prog 6 #[.int .i64 x] w fun e w' => e = .returned (.int .i64 x) ∧ w' = w := by
  go_enter Tryz.func6, Tryz.ntmps6
  go_wp2
  go_ret
  exact ⟨rfl, rfl⟩
end Go.Proofs.YtapnodhgjfbjjaaGreat
