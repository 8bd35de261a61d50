/- The walk of ExprParts. Conditions: none. -/
import Derived.Test.YthihkpigikhflaaExW
import Derived.Deep.RegionHeld3
namespace Go.Proofs.Ythihkpigikhflaa
open Go.RowKit Go.Sort
set_option linter.unusedVariables false

set_option maxRecDepth 100000 in
set_option maxHeartbeats 8000000 in
theorem walkParts (x : Ex) (A : Option Addr) (ca : Nat) (B : Option Addr) (cb : Nat) (w : World) (hr : rdX w x A B) :
    Calls Try.prog 4 #[.agg (exA x A ca B cb)] w fun e w' => e = .returned (.bool true) ∧ Below w.heap.size w w' := by
  have HF := Lib.hid fun w1 h => box_facts w x A ca B cb w1 h hr
  have HTX := Lib.hid fun w1 (h : Below w.heap.size w w1) => refSmall x A ca B cb w1 (hr.below h)
  have HK1 := Lib.hid fun (ht : tinyX x = true) w1 (h : Below w.heap.size w w1) => exSize x A ca B cb w1 (hr.below h) (tiny_size ht)
  have HK2 := Lib.hid fun (ht : tinyX x = true) w1 (h : Below w.heap.size w w1) => refSize x A ca B cb w1 (hr.below h) (tiny_size ht)
  have HK3 := Lib.hid fun (ht : tinyX x = true) w1 (h : Below w.heap.size w w1) => exDepth x A ca B cb w1 (hr.below h) (tiny_size ht)
  have HK4 := Lib.hid fun (ht : tinyX x = true) w1 (h : Below w.heap.size w w1) => refDepth x A ca B cb w1 (hr.below h) (tiny_size ht)
  have HK5 := Lib.hid fun (ht : tinyX x = true) w1 (h : Below w.heap.size w w1) => exVars x A ca B cb w1 (hr.below h) (tiny_size ht)
  have HK6 := Lib.hid fun (ht : tinyX x = true) w1 (h : Below w.heap.size w w1) => refVars x A ca B cb w1 (hr.below h) (tiny_size ht)
  have HSR := Lib.hid (sameT_refl (varsX x))
  clear hr
  unfold exA at HF HTX HK1 HK2 HK3 HK4 HK5 HK6 ⊢
  generalize tinyX x = tx at *
  generalize sizeX x = sz at *
  generalize depthX x = dp at *
  generalize varsX x = vs at *
  generalize x.arms.length = la at *
  generalize x.subs.length = lb at *
  generalize x.k = xk at *
  generalize x.n = xn at *
  generalize x.s = xs at *
  generalize x.op = xo at *
  cases tx with
  | false =>
    go_enter Try.func4, Try.ntmps4
    go_upto_region 1 with (fail)
    generalize hw1 : w.alloc _ = w1
    obtain ⟨hb1, hg, hr1, hcell⟩ := HF.out w1 hw1
    have HB1 := Lib.hid hb1
    have HC := Lib.hid hcell
    have HW1 := Lib.hid (Below.refl w1.heap.size w1)
    clear hb1 hr1 hcell hw1 HF
    have q0 := HC.out w1 HW1.out 0
    have q1 := HC.out w1 HW1.out 1
    have q2 := HC.out w1 HW1.out 2
    have q3 := HC.out w1 HW1.out 3
    have q4 := HC.out w1 HW1.out 4
    have q5 := HC.out w1 HW1.out 5
    go_wp2_with fail
    refine (HTX.out w1 HB1.out).mono ?_
    rintro r w2 ⟨rfl, hb⟩
    have HB2 := Lib.hid (HB1.out.trans (hb.mono HB1.out.size))
    have HW2 := Lib.hid (HW1.out.trans (hb.mono HW1.out.size))
    clear hb q0 q1 q2 q3 q4 q5
    have q0 := HC.out w2 HW2.out 0
    have q1 := HC.out w2 HW2.out 1
    have q2 := HC.out w2 HW2.out 2
    have q3 := HC.out w2 HW2.out 3
    have q4 := HC.out w2 HW2.out 4
    have q5 := HC.out w2 HW2.out 5
    go_wp2_with fail
    refine (live_any w2).mono ?_
    rintro r w3 ⟨rfl, hb⟩
    have HB3 := Lib.hid (HB2.out.trans (hb.mono HB2.out.size))
    clear hb
    go_wp2_with fail
    go_ret
    exact ⟨rfl, HB3.out⟩
  | true =>
    go_enter Try.func4, Try.ntmps4
    go_upto_region 1 with (fail)
    generalize hw1 : w.alloc _ = w1
    obtain ⟨hb1, hg, hr1, hcell⟩ := HF.out w1 hw1
    have HB1 := Lib.hid hb1
    have HC := Lib.hid hcell
    have HW1 := Lib.hid (Below.refl w1.heap.size w1)
    clear hb1 hr1 hcell hw1 HF
    have q0 := HC.out w1 HW1.out 0
    have q1 := HC.out w1 HW1.out 1
    have q2 := HC.out w1 HW1.out 2
    have q3 := HC.out w1 HW1.out 3
    have q4 := HC.out w1 HW1.out 4
    have q5 := HC.out w1 HW1.out 5
    go_wp2_with fail
    refine (HTX.out w1 HB1.out).mono ?_
    rintro r w2 ⟨rfl, hb⟩
    have HB2 := Lib.hid (HB1.out.trans (hb.mono HB1.out.size))
    have HW2 := Lib.hid (HW1.out.trans (hb.mono HW1.out.size))
    clear hb q0 q1 q2 q3 q4 q5
    have q0 := HC.out w2 HW2.out 0
    have q1 := HC.out w2 HW2.out 1
    have q2 := HC.out w2 HW2.out 2
    have q3 := HC.out w2 HW2.out 3
    have q4 := HC.out w2 HW2.out 4
    have q5 := HC.out w2 HW2.out 5
    have es : ((sz : Int) == (sz : Int)) = true := by simp
    have ed : ((dp : Int) == (dp : Int)) = true := by simp
    go_wp2_with fail
    go_region_held3 (fun W => W.cell? ⟨w.heap.size, 0, none⟩ = some (.int .i64 xk) ∧ W.cell? ⟨w.heap.size, 1, none⟩ = some (.int .i64 xn) ∧ W.cell? ⟨w.heap.size, 2, none⟩ = some (.string xs) ∧ W.cell? ⟨w.heap.size, 3, none⟩ = some (.int .i64 xo) ∧ W.cell? ⟨w.heap.size, 4, none⟩ = some (.slice A la ca) ∧ W.cell? ⟨w.heap.size, 5, none⟩ = some (.slice B lb cb)) (first | exact ⟨q0, q1, q2, q3, q4, q5⟩ | exact ⟨a0, a1, a2, a3, a4, a5⟩ | exact ⟨b0, b1, b2, b3, b4, b5⟩ | exact ⟨d0, d1, d2, d3, d4, d5⟩ | exact ⟨e0, e1, e2, e3, e4, e5⟩ | exact ⟨f0, f1, f2, f3, f4, f5⟩ | exact ⟨g0, g1, g2, g3, g4, g5⟩ | exact ⟨h0, h1, h2, h3, h4, h5⟩ | exact ⟨i0, i1, i2, i3, i4, i5⟩)
      ((first
        | (go_at_call 13; refine (HK1.out (by first | trivial | rfl) _ (below_drewN HB2.out 1)).mono ?_; rintro r Wa ⟨rfl, hba⟩; have a0 := HC.out Wa ((below_drewN HW2.out 1).trans (hba.mono (below_drewN HW2.out 1).size)) 0; have a1 := HC.out Wa ((below_drewN HW2.out 1).trans (hba.mono (below_drewN HW2.out 1).size)) 1; have a2 := HC.out Wa ((below_drewN HW2.out 1).trans (hba.mono (below_drewN HW2.out 1).size)) 2; have a3 := HC.out Wa ((below_drewN HW2.out 1).trans (hba.mono (below_drewN HW2.out 1).size)) 3; have a4 := HC.out Wa ((below_drewN HW2.out 1).trans (hba.mono (below_drewN HW2.out 1).size)) 4; have a5 := HC.out Wa ((below_drewN HW2.out 1).trans (hba.mono (below_drewN HW2.out 1).size)) 5; have HBa := Lib.hid ((below_drewN HB2.out 1).trans (hba.mono (below_drewN HB2.out 1).size)); have HWa := Lib.hid ((below_drewN HW2.out 1).trans (hba.mono (below_drewN HW2.out 1).size)); clear hba)
        | (go_at_call 14; refine (HK2.out (by first | trivial | rfl) _ HBa.out).mono ?_; rintro r Wb ⟨rfl, hbb⟩; have b0 := HC.out Wb (HWa.out.trans (hbb.mono HWa.out.size)) 0; have b1 := HC.out Wb (HWa.out.trans (hbb.mono HWa.out.size)) 1; have b2 := HC.out Wb (HWa.out.trans (hbb.mono HWa.out.size)) 2; have b3 := HC.out Wb (HWa.out.trans (hbb.mono HWa.out.size)) 3; have b4 := HC.out Wb (HWa.out.trans (hbb.mono HWa.out.size)) 4; have b5 := HC.out Wb (HWa.out.trans (hbb.mono HWa.out.size)) 5; have HBb := Lib.hid (HBa.out.trans (hbb.mono HBa.out.size)); have HWb := Lib.hid (HWa.out.trans (hbb.mono HWa.out.size)); clear hbb)
        | (go_at_call 15; refine (HK3.out (by first | trivial | rfl) _ HBb.out).mono ?_; rintro r Wd ⟨rfl, hbd⟩; have d0 := HC.out Wd (HWb.out.trans (hbd.mono HWb.out.size)) 0; have d1 := HC.out Wd (HWb.out.trans (hbd.mono HWb.out.size)) 1; have d2 := HC.out Wd (HWb.out.trans (hbd.mono HWb.out.size)) 2; have d3 := HC.out Wd (HWb.out.trans (hbd.mono HWb.out.size)) 3; have d4 := HC.out Wd (HWb.out.trans (hbd.mono HWb.out.size)) 4; have d5 := HC.out Wd (HWb.out.trans (hbd.mono HWb.out.size)) 5; have HBd := Lib.hid (HBb.out.trans (hbd.mono HBb.out.size)); have HWd := Lib.hid (HWb.out.trans (hbd.mono HWb.out.size)); clear hbd)
        | (go_at_call 16; refine (HK4.out (by first | trivial | rfl) _ HBd.out).mono ?_; rintro r We ⟨rfl, hbe⟩; have e0 := HC.out We (HWd.out.trans (hbe.mono HWd.out.size)) 0; have e1 := HC.out We (HWd.out.trans (hbe.mono HWd.out.size)) 1; have e2 := HC.out We (HWd.out.trans (hbe.mono HWd.out.size)) 2; have e3 := HC.out We (HWd.out.trans (hbe.mono HWd.out.size)) 3; have e4 := HC.out We (HWd.out.trans (hbe.mono HWd.out.size)) 4; have e5 := HC.out We (HWd.out.trans (hbe.mono HWd.out.size)) 5; have HBe := Lib.hid (HBd.out.trans (hbe.mono HBd.out.size)); have HWe := Lib.hid (HWd.out.trans (hbe.mono HWd.out.size)); clear hbe)
        | (go_at_call 18; refine (HK5.out (by first | trivial | rfl) _ HBe.out).mono ?_; rintro r Wf ⟨⟨Af, cf, rfl, hRf⟩, hbf⟩; have f0 := HC.out Wf (HWe.out.trans (hbf.mono HWe.out.size)) 0; have f1 := HC.out Wf (HWe.out.trans (hbf.mono HWe.out.size)) 1; have f2 := HC.out Wf (HWe.out.trans (hbf.mono HWe.out.size)) 2; have f3 := HC.out Wf (HWe.out.trans (hbf.mono HWe.out.size)) 3; have f4 := HC.out Wf (HWe.out.trans (hbf.mono HWe.out.size)) 4; have f5 := HC.out Wf (HWe.out.trans (hbf.mono HWe.out.size)) 5; have HBf := Lib.hid (HBe.out.trans (hbf.mono HBe.out.size)); have HWf := Lib.hid (HWe.out.trans (hbf.mono HWe.out.size)); have HRf := Lib.hid hRf; have HXf := Lib.hid hbf; clear hRf; clear hbf)
        | (go_at_call 19; refine (HK6.out (by first | trivial | rfl) _ HBf.out).mono ?_; rintro r Wg ⟨⟨Ag, cg, rfl, hRg⟩, hbg⟩; have g0 := HC.out Wg (HWf.out.trans (hbg.mono HWf.out.size)) 0; have g1 := HC.out Wg (HWf.out.trans (hbg.mono HWf.out.size)) 1; have g2 := HC.out Wg (HWf.out.trans (hbg.mono HWf.out.size)) 2; have g3 := HC.out Wg (HWf.out.trans (hbg.mono HWf.out.size)) 3; have g4 := HC.out Wg (HWf.out.trans (hbg.mono HWf.out.size)) 4; have g5 := HC.out Wg (HWf.out.trans (hbg.mono HWf.out.size)) 5; have HBg := Lib.hid (HBf.out.trans (hbg.mono HBf.out.size)); have HWg := Lib.hid (HWf.out.trans (hbg.mono HWf.out.size)); have HRg := Lib.hid hRg; have HXg := Lib.hid hbg; clear hRg; clear hbg)
        | (go_at_call 17; refine (refNames _ _ _ _ _ _ _ _ _ (HRf.out.below HXg.out) HRg.out).mono ?_; rintro r Wh ⟨rfl, hbh⟩; have h0 := HC.out Wh (HWg.out.trans (hbh.mono HWg.out.size)) 0; have h1 := HC.out Wh (HWg.out.trans (hbh.mono HWg.out.size)) 1; have h2 := HC.out Wh (HWg.out.trans (hbh.mono HWg.out.size)) 2; have h3 := HC.out Wh (HWg.out.trans (hbh.mono HWg.out.size)) 3; have h4 := HC.out Wh (HWg.out.trans (hbh.mono HWg.out.size)) 4; have h5 := HC.out Wh (HWg.out.trans (hbh.mono HWg.out.size)) 5; have HBh := Lib.hid (HBg.out.trans (hbh.mono HBg.out.size)); have HWh := Lib.hid (HWg.out.trans (hbh.mono HWg.out.size)); clear hbh)
        | (go_at_call 8; refine (live_any _).mono ?_; rintro r Wi ⟨rfl, hbi⟩; have i0 := HC.out Wi (HWh.out.trans (hbi.mono HWh.out.size)) 0; have i1 := HC.out Wi (HWh.out.trans (hbi.mono HWh.out.size)) 1; have i2 := HC.out Wi (HWh.out.trans (hbi.mono HWh.out.size)) 2; have i3 := HC.out Wi (HWh.out.trans (hbi.mono HWh.out.size)) 3; have i4 := HC.out Wi (HWh.out.trans (hbi.mono HWh.out.size)) 4; have i5 := HC.out Wi (HWh.out.trans (hbi.mono HWh.out.size)) 5; have HBi := Lib.hid (HBh.out.trans (hbi.mono HBh.out.size)); have HWi := Lib.hid (HWh.out.trans (hbi.mono HWh.out.size)); clear hbi)))
    go_wp2_with fail
    go_ret
    exact ⟨rfl, HBi.out⟩
end Go.Proofs.Ythihkpigikhflaa
