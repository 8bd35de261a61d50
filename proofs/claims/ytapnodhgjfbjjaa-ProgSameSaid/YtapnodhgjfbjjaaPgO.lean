/- Which programs are the same: of the document's text. Conditions: none. -/
import Derived.Test.YtapnodhgjfbjjaaPgN
namespace Go.Proofs.Ytapnodhgjfbjjaa
open Go.RowKit Go.Sort Go.BigFrame
set_option linter.unusedVariables false
set_option linter.unusedSimpArgs false

def eqP (a b : Pg) : Bool := sameL eqE a.es b.es && sameL eqN a.ns b.ns
/-- A node's cells at a place, one by one. -/
theorem NdAt.five {w : World} {b o : Nat} {x : Nd} (h : NdAt w b o x) : ∃ A1 c1 A2 c2 A3 c3 A4 c4, rdN w x A1 A2 A3 A4 ∧
    w.cell? ⟨b, o, none⟩ = some (.string x.nm) ∧ w.cell? ⟨b, o + 1, none⟩ = some (.slice A1 x.ins.length c1) ∧ w.cell? ⟨b, o + 2, none⟩ = some (.slice A2 x.outs.length c2) ∧ w.cell? ⟨b, o + 3, none⟩ = some (.slice A3 x.vars.length c3) ∧ w.cell? ⟨b, o + 4, none⟩ = some (.slice A4 x.eqs.length c4) := by
  obtain ⟨A1, c1, A2, c2, A3, c3, A4, c4, h1, h2⟩ := h
  obtain ⟨d0, d1, d2, d3, d4⟩ := ndL_five h1
  exact ⟨A1, c1, A2, c2, A3, c3, A4, c4, h2, d0, d1, d2, d3, d4⟩

set_option maxRecDepth 100000 in
set_option maxHeartbeats 8000000 in
theorem refSameP (p : Pg) (E : Option Addr) (ec : Nat) (N : Option Addr) (nc : Nat) (q : Pg) (E' : Option Addr) (ec' : Nat) (N' : Option Addr) (nc' : Nat) (w : World) (h : rdP w p E N) (h' : rdP w q E' N') :
    Calls Try.prog 15 #[.agg (pgA p E ec N nc), .agg (pgA q E' ec' N' nc')] w fun e w' => e = .returned (.bool (eqP p q)) ∧ Below w.heap.size w w' := by
  have HF := Lib.hid fun w1 hw => pg_facts w p E ec N nc w1 hw h
  have HF' := Lib.hid fun w1 w2 hw (hb : Below w.heap.size w w1) => pg_facts w1 q E' ec' N' nc' w2 hw (h'.below hb)
  have HE := Lib.hid (show eqP p q = (sameL eqE p.es q.es && sameL eqN p.ns q.ns) from rfl)
  have HC1 := Lib.hid fun w1 a b => refEnSame E p.es.length ec p.es E' q.es.length ec' q.es w1 a b
  have HNO := Lib.hid fun (i : Nat) hi hl hf => sameL_no (f := eqN) (l := p.ns) (m := q.ns) (i := i) hi hl hf
  have HYES := Lib.hid fun hl hf => sameL_yes (f := eqN) (l := p.ns) (m := q.ns) hl hf
  have HLEN := Lib.hid fun hl => sameL_len (f := eqN) (l := p.ns) (m := q.ns) hl
  have hmx := RdS.max h.2
  have hmy := RdS.max h'.2
  unfold pgA
  generalize eqP p q = out at *
  go_enter Try.func15, Try.ntmps15
  go_upto_region 1 with (fail)
  generalize hw1 : w.alloc _ = w1
  obtain ⟨hb1, hg, hR1, hcell⟩ := HF.out w1 hw1
  have HB1 := Lib.hid hb1
  generalize hw2 : w1.alloc _ = w2
  obtain ⟨hb2, hg2, hR2, hcell2⟩ := HF'.out w1 w2 hw2 hb1
  rw [hg] at hg2
  have HB2 := Lib.hid (below_next hb1 hb2)
  have HX := Lib.hid fun w' (hb : Below w2.heap.size w2 w') j => (show w'.cell? ⟨w.heap.size, j, none⟩ = (pgA p E ec N nc)[j]? from hcell w' (hb2.trans (hb.mono hb2.size)) j)
  have HY := Lib.hid fun w' (hb : Below w2.heap.size w2 w') j => (show w'.cell? ⟨w.heap.size + 1, j, none⟩ = (pgA q E' ec' N' nc')[j]? by rw [← hg]; exact hcell2 w' hb j)
  have HEX := Lib.hid (hR1.below hb2).1
  have HEY := Lib.hid hR2.1
  have HRX4 := Lib.hid (show RdS 5 NdAt w2 N p.ns.length p.ns from (hR1.below hb2).2)
  have HRY4 := Lib.hid (show RdS 5 NdAt w2 N' q.ns.length q.ns from hR2.2)
  simp only [pgA] at HX HY
  clear hw1 hw2 hcell hcell2 hb1 hb2 HF HF' h h' hR1 hR2
  have HBW := Lib.hid (Below.refl w2.heap.size w2)
  generalize hqx : p.ns = qs at *
  generalize hqy : q.ns = rs at *
  generalize hnx : qs.length = n at *
  generalize hny : rs.length = m at *
  have p0 := HX.out w2 HBW.out 0
  have q0 := HY.out w2 HBW.out 0
  simp only [List.getElem?_toArray, List.getElem?_cons_zero, List.getElem?_cons_succ] at p0 q0
  cases e1 : sameL eqE p.es q.es with
  | false =>
    rw [e1] at HE
    go_wp2_with fail
    refine (HC1.out w2 HEX.out HEY.out).mono ?_
    rw [e1]
    rintro e v1 ⟨rfl, hb⟩
    have HBW := Lib.hid hb
    have HB := Lib.hid (HB2.out.trans (HBW.out.mono HB2.out.size))
    clear hb p0 q0
    go_wp2_with fail
    go_ret
    exact ⟨ret_bool (by first | exact HE.out.symm | (rw [HE.out]; rfl)), HB.out⟩
  | true =>
    rw [e1, Bool.true_and] at HE
    go_wp2_with fail
    refine (HC1.out w2 HEX.out HEY.out).mono ?_
    rw [e1]
    rintro e v1 ⟨rfl, hb⟩
    have HBW := Lib.hid hb
    have HB := Lib.hid (HB2.out.trans (HBW.out.mono HB2.out.size))
    clear hb p0 q0
    have p1 := HX.out v1 HBW.out 1
    have q1 := HY.out v1 HBW.out 1
    simp only [List.getElem?_toArray, List.getElem?_cons_zero, List.getElem?_cons_succ] at p1 q1
    by_cases hnm : n = m
    · have dm : ((n : Int) == (m : Int)) = true := by rw [beq_iff_eq]; omega
      have hnm : n = m := by omega
      subst hnm
      go_wp2_with fail
      go_loopw [5] (fun i wr => ∃ k : Nat, k ≤ n ∧ i = .int .i64 k ∧ (∀ j, j < k → eqN (qs[j]?.getD default) (rs[j]?.getD default) = true) ∧ Below w2.heap.size w2 wr) (fun i _ => n - (intOf i).toNat)
      case atStart => exact ⟨0, Nat.zero_le _, rfl, fun j hj => absurd hj (by omega), HBW.out⟩
      case round =>
        obtain ⟨k, hk, rfl, hto, hnx⟩ := hrel
        have HT := Lib.hid hto
        have HNX := Lib.hid hnx
        have p4 := HX.out wr hnx 1
        have q4 := HY.out wr hnx 1
        simp only [List.getElem?_toArray, List.getElem?_cons_zero, List.getElem?_cons_succ] at p4 q4
        clear hto
        by_cases hlt : k < n
        · obtain ⟨b, off, rfl, hb, hc⟩ := RdS.at_ (RdNs.below HRX4.out hnx) (by omega)
          obtain ⟨b', off', rfl, hb', hc'⟩ := RdS.at_ (RdNs.below HRY4.out hnx) (by omega)
          have hq1 := hc k hlt
          have hq2 := hc' k hlt
          clear hc hc' hnx
          have HN := Lib.hid (HNO.out k hlt (by first | trivial | rfl))
          have HS := Lib.hid fun (hf : eqN (qs[k]?.getD default) (rs[k]?.getD default) = true) => to_next (P := fun j => eqN (qs[j]?.getD default) (rs[j]?.getD default) = true) HT.out hf
          generalize qs[k]?.getD default = qa at hq1 HN HS
          generalize rs[k]?.getD default = qb at hq2 HN HS
          obtain ⟨A1, c1, A2, c2, A3, c3, A4, c4, hX1, p10, p11, p12, p13, p14⟩ := hq1.five
          obtain ⟨B1, d1, B2, d2, B3, d3, B4, d4, hX2, q10, q11, q12, q13, q14⟩ := hq2.five
          have HX1 := Lib.hid hX1
          have HX2 := Lib.hid hX2
          have HSX := Lib.hid fun w1 a b => refSameNode qa A1 c1 A2 c2 A3 c3 A4 c4 qb B1 d1 B2 d2 B3 d3 B4 d4 w1 a b
          have HBR := Lib.hid fun d os => below_regrown wr d os
          unfold ndA at HSX
          clear hX1 hX2 hq1 hq2
          go_upto_region 6 with (fail)
          have lp0 := fun d os => cell_regrown p10 d os
          have lq0 := fun d os => cell_regrown q10 d os
          have lp1 := fun d os => cell_regrown p11 d os
          have lq1 := fun d os => cell_regrown q11 d os
          have lp2 := fun d os => cell_regrown p12 d os
          have lq2 := fun d os => cell_regrown q12 d os
          have lp3 := fun d os => cell_regrown p13 d os
          have lq3 := fun d os => cell_regrown q13 d os
          have lp4 := fun d os => cell_regrown p14 d os
          have lq4 := fun d os => cell_regrown q14 d os
          have lx := fun d os => cell_regrown p4 d os
          have ly := fun d os => cell_regrown q4 d os
          have cA := fun d os => Calls.regrown_of (HSX.out (grow (redrawn wr d) os) (HX1.out.below (below_regrown wr d os)) (HX2.out.below (below_regrown wr d os)))
          cases g1 : eqN qa qb with
          | false =>
            have HN2 := Lib.hid (HN.out g1)
            simp only [g1] at cA
            rw [HN2.out] at HE
            refine wp_region_quiet_below (by kernel_rfl) (by kernel_rfl) ?_
            repeat (go_big_quiet_step (with_reducible exact cA _ _))
            refine wpQuiet_nil ?_
            intro _ hw'
            obtain ⟨⟨dq, osq⟩, hw''⟩ := hw'
            subst hw''
            have HNX := Lib.hid (HNX.out.trans ((HBR.out dq osq).mono HNX.out.size))
            clear lp0 lq0 lp1 lq1 lp2 lq2 lp3 lq3 lp4 lq4 lx ly cA
            have HB := Lib.hid (HB2.out.trans (HNX.out.mono HB2.out.size))
            go_wp2_with fail
            go_ret
            exact ⟨ret_bool (by first | exact HE.out.symm | (rw [HE.out]; rfl)), HB.out⟩
          | true =>
            have HS2 := Lib.hid (HS.out g1)
            simp only [g1] at cA
            refine wp_region_quiet_below (by kernel_rfl) (by kernel_rfl) ?_
            repeat (go_big_quiet_step (with_reducible exact cA _ _))
            refine wpQuiet_nil ?_
            intro _ hw'
            obtain ⟨⟨dq, osq⟩, hw''⟩ := hw'
            subst hw''
            have HNX := Lib.hid (HNX.out.trans ((HBR.out dq osq).mono HNX.out.size))
            clear lp0 lq0 lp1 lq1 lp2 lq2 lp3 lq3 lp4 lq4 lx ly cA
            go_wp2_with fail
            go_roundw
            case rel => exact ⟨k + 1, by omega, by go_num, HS2.out, HNX.out⟩
            case measure => simp [intOf]; omega
        · obtain rfl : k = n := by omega
          have HQ := Lib.hid (HYES.out (by first | trivial | rfl) fun i hi => HT.out i hi)
          rw [HQ.out] at HE
          have HB := Lib.hid (HB2.out.trans (HNX.out.mono HB2.out.size))
          go_wp2_with fail
          go_ret
          exact ⟨ret_bool (by first | exact HE.out.symm | (rw [HE.out]; rfl)), HB.out⟩
    · have dm : ((n : Int) == (m : Int)) = false := by rw [beq_eq_false_iff_ne]; omega
      have HL := Lib.hid (HLEN.out hnm)
      rw [HL.out] at HE
      go_wp2_with fail
      go_ret
      exact ⟨ret_bool (by first | exact HE.out.symm | (rw [HE.out]; rfl)), HB.out⟩
end Go.Proofs.Ytapnodhgjfbjjaa
