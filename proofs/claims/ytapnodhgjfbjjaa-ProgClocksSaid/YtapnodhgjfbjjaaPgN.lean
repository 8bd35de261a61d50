/- Which nodes are the same: of the document's text. Conditions: none. -/
import Derived.Test.YtapnodhgjfbjjaaPgK
import Derived.Test.YtapnodhgjfbjjaaExS
namespace Go.Proofs.Ytapnodhgjfbjjaa
open Go.RowKit Go.Sort Go.BigFrame
set_option linter.unusedVariables false
set_option linter.unusedSimpArgs false

def eqQ (a b : Qn) : Bool := sameT a.ns b.ns && sameX a.x b.x
def eqN (a b : Nd) : Bool := (a.nm.data.toList == b.nm.data.toList) && sameL eqD a.ins b.ins && sameL eqD a.outs b.outs && sameL eqD a.vars b.vars && sameL eqQ a.eqs b.eqs

set_option maxRecDepth 100000 in
set_option maxHeartbeats 8000000 in
theorem refSameNode (x : Nd) (A1 : Option Addr) (c1 : Nat) (A2 : Option Addr) (c2 : Nat) (A3 : Option Addr) (c3 : Nat) (A4 : Option Addr) (c4 : Nat) (y : Nd) (B1 : Option Addr) (d1 : Nat) (B2 : Option Addr) (d2 : Nat) (B3 : Option Addr) (d3 : Nat) (B4 : Option Addr) (d4 : Nat) (w : World)
    (h : rdN w x A1 A2 A3 A4) (h' : rdN w y B1 B2 B3 B4) :
    Calls Try.prog 28 #[.agg (ndA x A1 c1 A2 c2 A3 c3 A4 c4), .agg (ndA y B1 d1 B2 d2 B3 d3 B4 d4)] w fun e w' => e = .returned (.bool (eqN x y)) ∧ Below w.heap.size w w' := by
  have HF := Lib.hid fun w1 hw => nd_facts w x A1 c1 A2 c2 A3 c3 A4 c4 w1 hw h
  have HF' := Lib.hid fun w1 w2 hw (hb : Below w.heap.size w w1) => nd_facts w1 y B1 d1 B2 d2 B3 d3 B4 d4 w2 hw (h'.below hb)
  have HE := Lib.hid (show eqN x y = ((x.nm.toList == y.nm.toList) && sameL eqD x.ins y.ins && sameL eqD x.outs y.outs && sameL eqD x.vars y.vars && sameL eqQ x.eqs y.eqs) by simp only [Lib.toList_data]; rfl)
  have HC1 := Lib.hid fun w1 a b => refSameDecls A1 x.ins.length c1 x.ins B1 y.ins.length d1 y.ins w1 a b
  have HC2 := Lib.hid fun w1 a b => refSameDecls A2 x.outs.length c2 x.outs B2 y.outs.length d2 y.outs w1 a b
  have HC3 := Lib.hid fun w1 a b => refSameDecls A3 x.vars.length c3 x.vars B3 y.vars.length d3 y.vars w1 a b
  have HNO := Lib.hid fun (i : Nat) hi hl hf => sameL_no (f := eqQ) (l := x.eqs) (m := y.eqs) (i := i) hi hl hf
  have HYES := Lib.hid fun hl hf => sameL_yes (f := eqQ) (l := x.eqs) (m := y.eqs) hl hf
  have HLEN := Lib.hid fun hl => sameL_len (f := eqQ) (l := x.eqs) (m := y.eqs) hl
  have hmx := RdS.max h.2.2.2
  have hmy := RdS.max h'.2.2.2
  unfold ndA
  generalize eqN x y = out at *
  go_enter Try.func28, Try.ntmps28
  go_upto_region 1 with (fail)
  generalize hw1 : w.alloc _ = w1
  obtain ⟨hb1, hg, hR1, hcell⟩ := HF.out w1 hw1
  have HB1 := Lib.hid hb1
  generalize hw2 : w1.alloc _ = w2
  obtain ⟨hb2, hg2, hR2, hcell2⟩ := HF'.out w1 w2 hw2 hb1
  rw [hg] at hg2
  have HB2 := Lib.hid (below_next hb1 hb2)
  have HX := Lib.hid fun w' (hb : Below w2.heap.size w2 w') j => (show w'.cell? ⟨w.heap.size, j, none⟩ = (ndA x A1 c1 A2 c2 A3 c3 A4 c4)[j]? from hcell w' (hb2.trans (hb.mono hb2.size)) j)
  have HY := Lib.hid fun w' (hb : Below w2.heap.size w2 w') j => (show w'.cell? ⟨w.heap.size + 1, j, none⟩ = (ndA y B1 d1 B2 d2 B3 d3 B4 d4)[j]? by rw [← hg]; exact hcell2 w' hb j)
  have HRX := Lib.hid (hR1.below hb2)
  have HRY := Lib.hid hR2
  have HRX4 := Lib.hid (show RdS 7 QnAt w2 A4 x.eqs.length x.eqs from (hR1.below hb2).2.2.2)
  have HRY4 := Lib.hid (show RdS 7 QnAt w2 B4 y.eqs.length y.eqs from hR2.2.2.2)
  simp only [ndA] at HX HY
  clear hw1 hw2 hcell hcell2 hb1 hb2 HF HF' h h' hR1 hR2
  have HBW := Lib.hid (Below.refl w2.heap.size w2)
  generalize x.nm = s at *
  generalize y.nm = t at *
  generalize hqx : x.eqs = qs at *
  generalize hqy : y.eqs = rs at *
  generalize hnx : qs.length = n at *
  generalize hny : rs.length = m at *
  have p0 := HX.out w2 HBW.out 0
  have q0 := HY.out w2 HBW.out 0
  have p1 := HX.out w2 HBW.out 1
  have q1 := HY.out w2 HBW.out 1
  simp only [List.getElem?_toArray, List.getElem?_cons_zero, List.getElem?_cons_succ] at p0 q0 p1 q1
  cases e0 : (s.toList == t.toList) with
  | false =>
    have HB := Lib.hid HB2.out
    rw [e0] at HE
    go_wp2_with fail
    go_ret
    exact ⟨ret_bool (by rw [HE.out]; rfl), HB.out⟩
  | true =>
    rw [e0] at HE
    cases e1 : sameL eqD x.ins y.ins with
    | false =>
      rw [e1] at HE
      go_wp2_with fail
      refine (HC1.out w2 (RdD.below HRX.out.1 HBW.out) (RdD.below HRY.out.1 HBW.out)).mono ?_
      rw [e1]
      rintro e v1 ⟨rfl, hb⟩
      have HBW := Lib.hid (HBW.out.trans (hb.mono HBW.out.size))
      have HB := Lib.hid (HB2.out.trans (HBW.out.mono HB2.out.size))
      clear hb p1 q1
      clear p0 q0
      go_wp2_with fail
      go_ret
      exact ⟨ret_bool (by rw [HE.out]; rfl), HB.out⟩
    | true =>
      rw [e1, Bool.and_true] at HE
      go_wp2_with fail
      refine (HC1.out w2 (RdD.below HRX.out.1 HBW.out) (RdD.below HRY.out.1 HBW.out)).mono ?_
      rw [e1]
      rintro e v1 ⟨rfl, hb⟩
      have HBW := Lib.hid (HBW.out.trans (hb.mono HBW.out.size))
      have HB := Lib.hid (HB2.out.trans (HBW.out.mono HB2.out.size))
      clear hb p1 q1
      clear p0 q0
      have p2 := HX.out v1 HBW.out 2
      have q2 := HY.out v1 HBW.out 2
      simp only [List.getElem?_toArray, List.getElem?_cons_zero, List.getElem?_cons_succ] at p2 q2
      cases e2 : sameL eqD x.outs y.outs with
      | false =>
        rw [e2] at HE
        go_wp2_with fail
        refine (HC2.out v1 (RdD.below HRX.out.2.1 HBW.out) (RdD.below HRY.out.2.1 HBW.out)).mono ?_
        rw [e2]
        rintro e v2 ⟨rfl, hb⟩
        have HBW := Lib.hid (HBW.out.trans (hb.mono HBW.out.size))
        have HB := Lib.hid (HB2.out.trans (HBW.out.mono HB2.out.size))
        clear hb p2 q2
        go_wp2_with fail
        go_ret
        exact ⟨ret_bool (by rw [HE.out]; rfl), HB.out⟩
      | true =>
        rw [e2, Bool.and_true] at HE
        go_wp2_with fail
        refine (HC2.out v1 (RdD.below HRX.out.2.1 HBW.out) (RdD.below HRY.out.2.1 HBW.out)).mono ?_
        rw [e2]
        rintro e v2 ⟨rfl, hb⟩
        have HBW := Lib.hid (HBW.out.trans (hb.mono HBW.out.size))
        have HB := Lib.hid (HB2.out.trans (HBW.out.mono HB2.out.size))
        clear hb p2 q2
        have p3 := HX.out v2 HBW.out 3
        have q3 := HY.out v2 HBW.out 3
        simp only [List.getElem?_toArray, List.getElem?_cons_zero, List.getElem?_cons_succ] at p3 q3
        cases e3 : sameL eqD x.vars y.vars with
        | false =>
          rw [e3] at HE
          go_wp2_with fail
          refine (HC3.out v2 (RdD.below HRX.out.2.2.1 HBW.out) (RdD.below HRY.out.2.2.1 HBW.out)).mono ?_
          rw [e3]
          rintro e v3 ⟨rfl, hb⟩
          have HBW := Lib.hid (HBW.out.trans (hb.mono HBW.out.size))
          have HB := Lib.hid (HB2.out.trans (HBW.out.mono HB2.out.size))
          clear hb p3 q3
          go_wp2_with fail
          go_ret
          exact ⟨ret_bool (by rw [HE.out]; rfl), HB.out⟩
        | true =>
          rw [e3, Bool.and_true] at HE
          go_wp2_with fail
          refine (HC3.out v2 (RdD.below HRX.out.2.2.1 HBW.out) (RdD.below HRY.out.2.2.1 HBW.out)).mono ?_
          rw [e3]
          rintro e v3 ⟨rfl, hb⟩
          have HBW := Lib.hid (HBW.out.trans (hb.mono HBW.out.size))
          have HB := Lib.hid (HB2.out.trans (HBW.out.mono HB2.out.size))
          clear hb p3 q3
          have p4 := HX.out v3 HBW.out 4
          have q4 := HY.out v3 HBW.out 4
          simp only [List.getElem?_toArray, List.getElem?_cons_zero, List.getElem?_cons_succ] at p4 q4
          by_cases hnm : n = m
          · have dm : ((n : Int) == (m : Int)) = true := by rw [beq_iff_eq]; omega
            have hnm : n = m := by omega
            subst hnm
            have HBV := Lib.hid HBW.out
            go_wp2_with fail
            go_loopw [5] (fun i wr => ∃ k : Nat, k ≤ n ∧ i = .int .i64 k ∧ (∀ j, j < k → eqQ (qs[j]?.getD default) (rs[j]?.getD default) = true) ∧ Below w2.heap.size w2 wr) (fun i _ => n - (intOf i).toNat)
            case atStart => exact ⟨0, Nat.zero_le _, rfl, fun j hj => absurd hj (by omega), HBV.out⟩
            case round =>
              obtain ⟨k, hk, rfl, hto, hnx⟩ := hrel
              have HT := Lib.hid hto
              have HNX := Lib.hid hnx
              have p4 := HX.out wr hnx 4
              have q4 := HY.out wr hnx 4
              simp only [List.getElem?_toArray, List.getElem?_cons_zero, List.getElem?_cons_succ] at p4 q4
              clear hto
              by_cases hlt : k < n
              · obtain ⟨b, off, rfl, hb, hc⟩ := RdS.at_ (RdQ.below HRX4.out hnx) (by omega)
                obtain ⟨b', off', rfl, hb', hc'⟩ := RdS.at_ (RdQ.below HRY4.out hnx) (by omega)
                have hq1 := hc k hlt
                have hq2 := hc' k hlt
                clear hc hc' hnx
                have HN := Lib.hid (HNO.out k hlt (by first | trivial | rfl))
                have HS := Lib.hid fun (hf : eqQ (qs[k]?.getD default) (rs[k]?.getD default) = true) => to_next (P := fun j => eqQ (qs[j]?.getD default) (rs[j]?.getD default) = true) HT.out hf
                have HEQ := Lib.hid fun (a b : Qn) => (show eqQ a b = (sameT a.ns b.ns && sameX a.x b.x) from rfl)
                generalize qs[k]?.getD default = qa at hq1 HN HS
                generalize rs[k]?.getD default = qb at hq2 HN HS
                rw [HEQ.out] at HN HS
                clear HEQ
                obtain ⟨A6, c6, A7, c7, A8, c8, hT1, hX1, p10, p11, p12, p13, p14, p15, p16⟩ := hq1.seven
                obtain ⟨B6, d6, B7, d7, B8, d8, hT2, hX2, q10, q11, q12, q13, q14, q15, q16⟩ := hq2.seven
                have HT1 := Lib.hid hT1
                have HT2 := Lib.hid hT2
                have HX1 := Lib.hid hX1
                have HX2 := Lib.hid hX2
                have HSX := Lib.hid fun w1 a b => refSame qa.x A7 c7 A8 c8 qb.x B7 d7 B8 d8 w1 a b
                have HBR := Lib.hid fun d os => below_regrown wr d os
                unfold exA at HSX
                clear hT1 hT2 hX1 hX2 hq1 hq2
                go_upto_region 6 with (fail)
                have lp0 := fun d os => cell_regrown p10 d os
                have lq0 := fun d os => cell_regrown q10 d os
                have lp1 := fun d os => cell_regrown p11 d os
                have lq1 := fun d os => cell_regrown q11 d os
                have lp2 := fun d os => cell_regrown p12 d os
                have lq2 := fun d os => cell_regrown q12 d os
                have lp3 := fun d os => cell_regrown p13 d os
                have lq3 := fun d os => cell_regrown q13 d os
                have lp4 := fun d os => cell_regrown p14 d os
                have lq4 := fun d os => cell_regrown q14 d os
                have lp5 := fun d os => cell_regrown p15 d os
                have lq5 := fun d os => cell_regrown q15 d os
                have lp6 := fun d os => cell_regrown p16 d os
                have lq6 := fun d os => cell_regrown q16 d os
                have lx := fun d os => cell_regrown p4 d os
                have ly := fun d os => cell_regrown q4 d os
                have cA := fun d os => Calls.regrown_of (refNames A6 B6 qa.ns.length qb.ns.length c6 d6 qa.ns qb.ns (grow (redrawn wr d) os) (HT1.out.below (below_regrown wr d os)) (HT2.out.below (below_regrown wr d os)))
                have cB := fun d os => Calls.regrown_of (HSX.out (grow (redrawn wr d) os) (HX1.out.below (below_regrown wr d os)) (HX2.out.below (below_regrown wr d os)))
                cases g1 : sameT qa.ns qb.ns with
                | false =>
                  have HN2 := Lib.hid (HN.out (by rw [g1]; rfl))
                  simp only [g1] at cA
                  rw [HN2.out] at HE
                  refine wp_region_quiet_below (by kernel_rfl) (by kernel_rfl) ?_
                  repeat (go_big_quiet_step (first | with_reducible exact cA _ _ | with_reducible exact cB _ _))
                  refine wpQuiet_nil ?_
                  intro _ hw'
                  obtain ⟨⟨dq, osq⟩, hw''⟩ := hw'
                  subst hw''
                  have HNX := Lib.hid (HNX.out.trans ((HBR.out dq osq).mono HNX.out.size))
                  clear lp0 lq0 lp1 lq1 lp2 lq2 lp3 lq3 lp4 lq4 lp5 lq5 lp6 lq6 lx ly cA cB
                  have HB := Lib.hid (HB2.out.trans (HNX.out.mono HB2.out.size))
                  go_wp2_with fail
                  go_ret
                  exact ⟨ret_bool (by rw [HE.out]; rfl), HB.out⟩
                | true =>
                  simp only [g1] at cA
                  cases g2 : sameX qa.x qb.x with
                  | false =>
                    have HN2 := Lib.hid (HN.out (by rw [g1, g2]; rfl))
                    simp only [g2] at cB
                    rw [HN2.out] at HE
                    refine wp_region_quiet_below (by kernel_rfl) (by kernel_rfl) ?_
                    repeat (go_big_quiet_step (first | with_reducible exact cA _ _ | with_reducible exact cB _ _))
                    refine wpQuiet_nil ?_
                    intro _ hw'
                    obtain ⟨⟨dq, osq⟩, hw''⟩ := hw'
                    subst hw''
                    have HNX := Lib.hid (HNX.out.trans ((HBR.out dq osq).mono HNX.out.size))
                    clear lp0 lq0 lp1 lq1 lp2 lq2 lp3 lq3 lp4 lq4 lp5 lq5 lp6 lq6 lx ly cA cB
                    have HB := Lib.hid (HB2.out.trans (HNX.out.mono HB2.out.size))
                    go_wp2_with fail
                    go_ret
                    exact ⟨ret_bool (by rw [HE.out]; rfl), HB.out⟩
                  | true =>
                    have HS2 := Lib.hid (HS.out (by rw [g1, g2]; rfl))
                    simp only [g2] at cB
                    refine wp_region_quiet_below (by kernel_rfl) (by kernel_rfl) ?_
                    repeat (go_big_quiet_step (first | with_reducible exact cA _ _ | with_reducible exact cB _ _))
                    refine wpQuiet_nil ?_
                    intro _ hw'
                    obtain ⟨⟨dq, osq⟩, hw''⟩ := hw'
                    subst hw''
                    have HNX := Lib.hid (HNX.out.trans ((HBR.out dq osq).mono HNX.out.size))
                    clear lp0 lq0 lp1 lq1 lp2 lq2 lp3 lq3 lp4 lq4 lp5 lq5 lp6 lq6 lx ly cA cB
                    go_wp2_with fail
                    go_roundw
                    case rel => exact ⟨k + 1, by omega, by go_num, HS2.out, HNX.out⟩
                    case measure => simp [intOf]; omega
              · obtain rfl : k = n := by omega
                have HQ := Lib.hid (HYES.out (by first | trivial | rfl) fun i hi => HT.out i hi)
                rw [HQ.out] at HE
                have HB := Lib.hid (HB2.out.trans (HNX.out.mono HB2.out.size))
                go_wp2_with fail
                go_ret
                exact ⟨ret_bool (by rw [HE.out]; rfl), HB.out⟩
          · have dm : ((n : Int) == (m : Int)) = false := by rw [beq_eq_false_iff_ne]; omega
            have HL := Lib.hid (HLEN.out hnm)
            rw [HL.out] at HE
            go_wp2_with fail
            go_ret
            exact ⟨ret_bool (by rw [HE.out]; rfl), HB.out⟩
end Go.Proofs.Ytapnodhgjfbjjaa
