/- The walk of TyAlike. Conditions: none. -/
import Derived.Test.YtccpihpfpobjpaaDoorTyL
namespace Go.Proofs.YtccpihpfpobjpaaDoor
open Go.RowKit
set_option linter.unusedVariables false

/-- Two types. -/
def twoV (k e l k' e' l' : Int) : Value := .agg #[.int .i64 k, .int .i64 e, .int .i64 l, .int .i64 k', .int .i64 e', .int .i64 l']
def six (k e l k' e' l' : Int) : Obj := .cells #[.int .i64 k, .int .i64 e, .int .i64 l, .int .i64 k', .int .i64 e', .int .i64 l'] 38

theorem six_at (w : World) (k e l k' e' l' : Int) : (w.alloc (six k e l k' e' l')).cell? ⟨w.heap.size, 0, none⟩ = some (.int .i64 k) ∧ (w.alloc (six k e l k' e' l')).cell? ⟨w.heap.size, 1, none⟩ = some (.int .i64 e) ∧ (w.alloc (six k e l k' e' l')).cell? ⟨w.heap.size, 2, none⟩ = some (.int .i64 l) ∧
    (w.alloc (six k e l k' e' l')).cell? ⟨w.heap.size, 3, none⟩ = some (.int .i64 k') ∧ (w.alloc (six k e l k' e' l')).cell? ⟨w.heap.size, 4, none⟩ = some (.int .i64 e') ∧ (w.alloc (six k e l k' e' l')).cell? ⟨w.heap.size, 5, none⟩ = some (.int .i64 l') := by
  unfold six
  refine ⟨?_, ?_, ?_, ?_, ?_, ?_⟩ <;> simp [go_sem]

set_option maxRecDepth 100000 in
set_option maxHeartbeats 8000000 in
theorem walkAlike (A : Option Addr) (n c : Nat) (es : List En) (B : Option Addr) (m d : Nat) (fs : List En) (k e l k' e' l' : Int) (w : World) (hE : RdE w A n es) (hF : RdE w B m fs) :
    Calls Tryd.prog 5 #[.slice A n c, .slice B m d, twoV k e l k' e' l'] w fun r w' => r = .returned (.bool true) ∧ Below w.heap.size w w' := by
  have HE := Lib.hid (hE.alloc (six k e l k' e' l'))
  have HF := Lib.hid (hF.alloc (six k e l k' e' l'))
  have HB := Lib.hid ((Below.refl w.heap.size w).alloc (Nat.le_refl _) (six k e l k' e' l'))
  have HC1 := Lib.hid fun (W : World) (h1 : RdE W A n es) (h2 : RdE W B m fs) => tyAlike A B n m c d es fs k e l k' e' l' W h1 h2
  have HC2 := Lib.hid fun (W : World) (h1 : RdE W A n es) (h2 : RdE W B m fs) => refAlike A B n m c d es fs k e l k' e' l' W h1 h2
  generalize alikeB es fs k e l k' e' l' = br at HC1 HC2
  clear hE hF
  unfold twoV
  unfold tyV at HC1 HC2
  unfold six at HE HF HB
  go_enter Tryd.func5, Tryd.ntmps5
  go_wp2_with fail
  refine (refSmall A n c es _ HE.out).mono ?_
  rintro r w' ⟨b1, rfl, -, rfl⟩
  cases b1 with
  | false =>
    go_wp2_with fail
    refine (live_any _).mono ?_
    rintro r w1 ⟨rfl, hb1⟩
    have HB1 := Lib.hid (HB.out.trans (hb1.mono HB.out.size))
    clear hb1
    go_wp2_with fail
    go_ret
    exact ⟨rfl, HB1.out⟩
  | true =>
    go_wp2_with fail
    refine (refSmall B m d fs _ HF.out).mono ?_
    rintro r w' ⟨b2, rfl, -, rfl⟩
    cases b2 with
    | false =>
      go_wp2_with fail
      refine (live_any _).mono ?_
      rintro r w1 ⟨rfl, hb1⟩
      have HB1 := Lib.hid (HB.out.trans (hb1.mono HB.out.size))
      clear hb1
      go_wp2_with fail
      go_ret
      exact ⟨rfl, HB1.out⟩
    | true =>
      have H6 := Lib.hid (six_at w k e l k' e' l')
      unfold six at H6
      obtain ⟨q0, q1, q2, q3, q4, q5⟩ := H6.out
      go_wp2_with fail
      generalize hw1 : w.alloc (.cells #[.int .i64 k, .int .i64 e, .int .i64 l, .int .i64 k', .int .i64 e', .int .i64 l'] 38) = w1 at *
      clear hw1 H6
      have HBLq := Lib.hid (below_drewN HB.out 1)
      have HEq := Lib.hid (HE.out.drewN 1)
      have HFq := Lib.hid (HF.out.drewN 1)
      go_region_held3 (fun W => W.cell? ⟨w.heap.size, 0, none⟩ = some (.int .i64 k) ∧ W.cell? ⟨w.heap.size, 1, none⟩ = some (.int .i64 e) ∧ W.cell? ⟨w.heap.size, 2, none⟩ = some (.int .i64 l) ∧ W.cell? ⟨w.heap.size, 3, none⟩ = some (.int .i64 k') ∧ W.cell? ⟨w.heap.size, 4, none⟩ = some (.int .i64 e') ∧ W.cell? ⟨w.heap.size, 5, none⟩ = some (.int .i64 l')) (first | exact ⟨q0, q1, q2, q3, q4, q5⟩ | exact ⟨a0, a1, a2, a3, a4, a5⟩ | exact ⟨b0, b1, b2, b3, b4, b5⟩ | exact ⟨c0, c1, c2, c3, c4, c5⟩)
        ((first
          | (go_at_call 22; refine (HC1.out _ HEq.out HFq.out).mono ?_; rintro r Wa ⟨rfl, hba⟩; have a0 := (hba.cell (p := ⟨w.heap.size, 0, none⟩) (World.block_lt_of_cell? _ _ q0)).trans q0; have a1 := (hba.cell (p := ⟨w.heap.size, 1, none⟩) (World.block_lt_of_cell? _ _ q1)).trans q1; have a2 := (hba.cell (p := ⟨w.heap.size, 2, none⟩) (World.block_lt_of_cell? _ _ q2)).trans q2; have a3 := (hba.cell (p := ⟨w.heap.size, 3, none⟩) (World.block_lt_of_cell? _ _ q3)).trans q3; have a4 := (hba.cell (p := ⟨w.heap.size, 4, none⟩) (World.block_lt_of_cell? _ _ q4)).trans q4; have a5 := (hba.cell (p := ⟨w.heap.size, 5, none⟩) (World.block_lt_of_cell? _ _ q5)).trans q5; have HBLa := Lib.hid (HBLq.out.trans (hba.mono HBLq.out.size)); have HEa := Lib.hid (HEq.out.below hba); have HFa := Lib.hid (HFq.out.below hba); clear hba)
          | (go_at_call 23; refine (HC2.out _ HEa.out HFa.out).mono ?_; rintro r Wb ⟨rfl, hbb⟩; have b0 := (hbb.cell (p := ⟨w.heap.size, 0, none⟩) (World.block_lt_of_cell? _ _ a0)).trans a0; have b1 := (hbb.cell (p := ⟨w.heap.size, 1, none⟩) (World.block_lt_of_cell? _ _ a1)).trans a1; have b2 := (hbb.cell (p := ⟨w.heap.size, 2, none⟩) (World.block_lt_of_cell? _ _ a2)).trans a2; have b3 := (hbb.cell (p := ⟨w.heap.size, 3, none⟩) (World.block_lt_of_cell? _ _ a3)).trans a3; have b4 := (hbb.cell (p := ⟨w.heap.size, 4, none⟩) (World.block_lt_of_cell? _ _ a4)).trans a4; have b5 := (hbb.cell (p := ⟨w.heap.size, 5, none⟩) (World.block_lt_of_cell? _ _ a5)).trans a5; have HBLb := Lib.hid (HBLa.out.trans (hbb.mono HBLa.out.size)); have HEb := Lib.hid (HEa.out.below hbb); have HFb := Lib.hid (HFa.out.below hbb); clear hbb)
          | (go_at_call 8; refine (live_any _).mono ?_; rintro r Wc ⟨rfl, hbc⟩; have c0 := (hbc.cell (p := ⟨w.heap.size, 0, none⟩) (World.block_lt_of_cell? _ _ b0)).trans b0; have c1 := (hbc.cell (p := ⟨w.heap.size, 1, none⟩) (World.block_lt_of_cell? _ _ b1)).trans b1; have c2 := (hbc.cell (p := ⟨w.heap.size, 2, none⟩) (World.block_lt_of_cell? _ _ b2)).trans b2; have c3 := (hbc.cell (p := ⟨w.heap.size, 3, none⟩) (World.block_lt_of_cell? _ _ b3)).trans b3; have c4 := (hbc.cell (p := ⟨w.heap.size, 4, none⟩) (World.block_lt_of_cell? _ _ b4)).trans b4; have c5 := (hbc.cell (p := ⟨w.heap.size, 5, none⟩) (World.block_lt_of_cell? _ _ b5)).trans b5; have HBLc := Lib.hid (HBLb.out.trans (hbc.mono HBLb.out.size)); have HEc := Lib.hid (HEb.out.below hbc); have HFc := Lib.hid (HFb.out.below hbc); clear hbc)))
      go_wp2_with fail
      go_ret
      exact ⟨rfl, HBLc.out⟩
end Go.Proofs.YtccpihpfpobjpaaDoor
