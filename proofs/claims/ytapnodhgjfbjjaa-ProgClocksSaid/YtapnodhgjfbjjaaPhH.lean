/- Which nodes, and programs, are the same: of the program's text. Conditions: none. -/
import Derived.Test.YtapnodhgjfbjjaaPhG
namespace Go.Proofs.Ytapnodhgjfbjjaa
open Go.RowKit Go.Sort
set_option linter.unusedVariables false
set_option linter.unusedSimpArgs false

set_option maxRecDepth 100000 in
set_option maxHeartbeats 8000000 in
theorem pgSameNode (x : Nd) (A1 : Option Addr) (c1 : Nat) (A2 : Option Addr) (c2 : Nat) (A3 : Option Addr) (c3 : Nat) (A4 : Option Addr) (c4 : Nat) (y : Nd) (B1 : Option Addr) (d1 : Nat) (B2 : Option Addr) (d2 : Nat) (B3 : Option Addr) (d3 : Nat) (B4 : Option Addr) (d4 : Nat) (w : World)
    (h : rdN w x A1 A2 A3 A4) (h' : rdN w y B1 B2 B3 B4) :
    Calls Try.prog 26 #[.agg (ndA x A1 c1 A2 c2 A3 c3 A4 c4), .agg (ndA y B1 d1 B2 d2 B3 d3 B4 d4)] w fun e w' => e = .returned (.bool (eqN x y)) ∧ Below w.heap.size w w' := by
  have HF := Lib.hid fun w1 hw => nd_facts w x A1 c1 A2 c2 A3 c3 A4 c4 w1 hw h
  have HF' := Lib.hid fun w1 w2 hw (hb : Below w.heap.size w w1) => nd_facts w1 y B1 d1 B2 d2 B3 d3 B4 d4 w2 hw (h'.below hb)
  have HE := Lib.hid (show eqN x y = ((x.nm.toList == y.nm.toList) && sameL eqD x.ins y.ins && sameL eqD x.outs y.outs && sameL eqD x.vars y.vars && sameL eqQ x.eqs y.eqs) by simp only [Lib.toList_data]; rfl)
  have HC1 := Lib.hid fun w1 a b => slEqualD A1 x.ins.length c1 x.ins B1 y.ins.length d1 y.ins w1 a b
  have HC2 := Lib.hid fun w1 a b => slEqualD A2 x.outs.length c2 x.outs B2 y.outs.length d2 y.outs w1 a b
  have HC3 := Lib.hid fun w1 a b => slEqualD A3 x.vars.length c3 x.vars B3 y.vars.length d3 y.vars w1 a b
  have HC4 := Lib.hid fun w1 a b => slEqFuncQ x.eqs y.eqs A4 B4 x.eqs.length y.eqs.length c4 d4 w1 a b
  unfold ndA
  generalize eqN x y = out at *
  generalize sameL eqD x.ins y.ins = s1 at *
  generalize sameL eqD x.outs y.outs = s2 at *
  generalize sameL eqD x.vars y.vars = s3 at *
  generalize sameL eqQ x.eqs y.eqs = s4 at *
  go_enter Try.func26, Try.ntmps26
  go_upto_region 1 with (fail)
  generalize hw1 : w.alloc _ = w1
  obtain ⟨hb1, hg, hR1, hcell⟩ := HF.out w1 hw1
  generalize hw2 : w1.alloc _ = w2
  obtain ⟨hb2, hg2, hR2, hcell2⟩ := HF'.out w1 w2 hw2 hb1
  rw [hg] at hg2
  have HB2 := Lib.hid (below_next hb1 hb2)
  have HX := Lib.hid fun w' (hb : Below w2.heap.size w2 w') j => (show w'.cell? ⟨w.heap.size, j, none⟩ = (ndA x A1 c1 A2 c2 A3 c3 A4 c4)[j]? from hcell w' (hb2.trans (hb.mono hb2.size)) j)
  have HY := Lib.hid fun w' (hb : Below w2.heap.size w2 w') j => (show w'.cell? ⟨w.heap.size + 1, j, none⟩ = (ndA y B1 d1 B2 d2 B3 d3 B4 d4)[j]? by rw [← hg]; exact hcell2 w' hb j)
  have HRX := Lib.hid (hR1.below hb2)
  have HRY := Lib.hid hR2
  simp only [ndA] at HX HY
  clear hw1 hw2 hcell hcell2 hb1 hb2 HF HF' h h' hR1 hR2
  have HW2 := Lib.hid (Below.refl w2.heap.size w2)
  have p0 := HX.out w2 HW2.out 0
  have q0 := HY.out w2 HW2.out 0
  have p1 := HX.out w2 HW2.out 1
  have q1 := HY.out w2 HW2.out 1
  simp only [List.getElem?_toArray, List.getElem?_cons_zero, List.getElem?_cons_succ] at p0 q0 p1 q1
  cases e0 : (x.nm.toList == y.nm.toList) with
  | false =>
    rw [e0] at HE
    go_wp2_with fail
    go_ret
    exact ⟨ret_bool (by rw [HE.out]; rfl), HB2.out⟩
  | true =>
    rw [e0] at HE
    cases s1 with
    | false =>
      go_wp2_with fail
      refine (HC1.out w2 (RdD.below HRX.out.1 HW2.out) (RdD.below HRY.out.1 HW2.out)).mono ?_
      rintro e w3 ⟨rfl, hb⟩
      have HW3 := Lib.hid (HW2.out.trans (hb.mono HW2.out.size))
      have HB3 := Lib.hid (HB2.out.trans (HW3.out.mono HB2.out.size))
      clear hb p1 q1
      clear p0 q0
      go_wp2_with fail
      go_ret
      exact ⟨ret_bool (by rw [HE.out]; rfl), HB3.out⟩
    | true =>
      go_wp2_with fail
      refine (HC1.out w2 (RdD.below HRX.out.1 HW2.out) (RdD.below HRY.out.1 HW2.out)).mono ?_
      rintro e w3 ⟨rfl, hb⟩
      have HW3 := Lib.hid (HW2.out.trans (hb.mono HW2.out.size))
      have HB3 := Lib.hid (HB2.out.trans (HW3.out.mono HB2.out.size))
      clear hb p1 q1
      clear p0 q0
      have p2 := HX.out w3 HW3.out 2
      have q2 := HY.out w3 HW3.out 2
      simp only [List.getElem?_toArray, List.getElem?_cons_zero, List.getElem?_cons_succ] at p2 q2
      cases s2 with
      | false =>
        go_wp2_with fail
        refine (HC2.out w3 (RdD.below HRX.out.2.1 HW3.out) (RdD.below HRY.out.2.1 HW3.out)).mono ?_
        rintro e w4 ⟨rfl, hb⟩
        have HW4 := Lib.hid (HW3.out.trans (hb.mono HW3.out.size))
        have HB4 := Lib.hid (HB2.out.trans (HW4.out.mono HB2.out.size))
        clear hb p2 q2
        go_wp2_with fail
        go_ret
        exact ⟨ret_bool (by rw [HE.out]; rfl), HB4.out⟩
      | true =>
        go_wp2_with fail
        refine (HC2.out w3 (RdD.below HRX.out.2.1 HW3.out) (RdD.below HRY.out.2.1 HW3.out)).mono ?_
        rintro e w4 ⟨rfl, hb⟩
        have HW4 := Lib.hid (HW3.out.trans (hb.mono HW3.out.size))
        have HB4 := Lib.hid (HB2.out.trans (HW4.out.mono HB2.out.size))
        clear hb p2 q2
        have p3 := HX.out w4 HW4.out 3
        have q3 := HY.out w4 HW4.out 3
        simp only [List.getElem?_toArray, List.getElem?_cons_zero, List.getElem?_cons_succ] at p3 q3
        cases s3 with
        | false =>
          go_wp2_with fail
          refine (HC3.out w4 (RdD.below HRX.out.2.2.1 HW4.out) (RdD.below HRY.out.2.2.1 HW4.out)).mono ?_
          rintro e w5 ⟨rfl, hb⟩
          have HW5 := Lib.hid (HW4.out.trans (hb.mono HW4.out.size))
          have HB5 := Lib.hid (HB2.out.trans (HW5.out.mono HB2.out.size))
          clear hb p3 q3
          go_wp2_with fail
          go_ret
          exact ⟨ret_bool (by rw [HE.out]; rfl), HB5.out⟩
        | true =>
          go_wp2_with fail
          refine (HC3.out w4 (RdD.below HRX.out.2.2.1 HW4.out) (RdD.below HRY.out.2.2.1 HW4.out)).mono ?_
          rintro e w5 ⟨rfl, hb⟩
          have HW5 := Lib.hid (HW4.out.trans (hb.mono HW4.out.size))
          have HB5 := Lib.hid (HB2.out.trans (HW5.out.mono HB2.out.size))
          clear hb p3 q3
          have p4 := HX.out w5 HW5.out 4
          have q4 := HY.out w5 HW5.out 4
          simp only [List.getElem?_toArray, List.getElem?_cons_zero, List.getElem?_cons_succ] at p4 q4
          go_wp2_with fail
          refine (HC4.out w5 (RdQ.below HRX.out.2.2.2 HW5.out) (RdQ.below HRY.out.2.2.2 HW5.out)).mono ?_
          rintro e w6 ⟨rfl, hb⟩
          have HW6 := Lib.hid (HW5.out.trans (hb.mono HW5.out.size))
          have HB6 := Lib.hid (HB2.out.trans (HW6.out.mono HB2.out.size))
          clear hb p4 q4
          go_wp2_with fail
          go_ret
          exact ⟨ret_bool (by rw [HE.out]; rfl), HB6.out⟩

set_option maxRecDepth 100000 in
set_option maxHeartbeats 4000000 in
theorem slEqFuncN (l m : List Nd) (A B : Option Addr) (n1 n2 c d : Nat) (w : World) (hl : RdNs w A n1 l) (hm : RdNs w B n2 m) :
    Calls Try.prog 25 #[.slice A n1 c, .slice B n2 d, .func (.func 26) #[] #[]] w fun e w' => e = .returned (.bool (sameL eqN l m)) ∧ Below w.heap.size w w' := by
  have hl1 := hl.len
  have hl2 := hm.len
  have hx1 := hl.max
  have hx2 := hm.max
  have HRL := Lib.hid hl
  have HRM := Lib.hid hm
  have HXL := Lib.hid fun h => sameL_len (f := eqN) (l := l) (m := m) h
  have HXA := Lib.hid fun (i : Nat) h1 h2 h => sameL_no (f := eqN) (l := l) (m := m) (i := i) h1 h2 h
  have HXY := Lib.hid fun h1 h2 => sameL_yes (f := eqN) (l := l) (m := m) h1 h2
  have HBX := Lib.hid nd_facts
  have HK := Lib.hid pgSameNode
  clear hl hm
  unfold ndA at HBX HK
  generalize sameL eqN l m = res at *
  by_cases hnn : n1 = n2
  · subst hnn
    go_enter Try.func25, Try.ntmps25
    go_wp2_with fail
    go_loopw [17] (fun i wr => ∃ k : Nat, k ≤ n1 ∧ i = .int .i64 k ∧ (∀ j, j < k → eqN (l[j]?.getD default) (m[j]?.getD default) = true) ∧ Below w.heap.size w wr) (fun i _ => n1 - (intOf i).toNat)
    case atStart => exact ⟨0, Nat.zero_le _, rfl, fun j hj => absurd hj (by omega), Below.refl _ _⟩
    case round =>
      obtain ⟨k, hk, rfl, hall, hbw⟩ := hrel
      have HA := Lib.hid hall
      have HBW := Lib.hid hbw
      clear hall
      by_cases hlt : k < n1
      · obtain ⟨b, off, A1, c1, A2, c2, A3, c3, A4, c4, rfl, hb, hrdx, d0, d1, d2, d3, d4⟩ := nd_at (HRL.out.below hbw) hlt
        obtain ⟨b2, off2, B1, e1, B2, e2, B3, e3, B4, e4, rfl, hby, hrdy, f0, f1, f2, f3, f4⟩ := nd_at (HRM.out.below hbw) hlt
        have HRDx := Lib.hid hrdx
        have HRDy := Lib.hid hrdy
        have HNO := Lib.hid fun h => HXA.out k (by omega) (by omega) h
        have HYE := Lib.hid fun (hsm : eqN (l[k]?.getD default) (m[k]?.getD default) = true) => to_next (P := fun j => eqN (l[j]?.getD default) (m[j]?.getD default) = true) HA.out hsm
        clear hrdx hrdy hbw
        generalize l[k]?.getD default = p at *
        generalize m[k]?.getD default = q at *
        have HF3 := Lib.hid fun w3 h => HBX.out wr p A1 c1 A2 c2 A3 c3 A4 c4 w3 h HRDx.out
        go_upto_region 6 with (fail)
        generalize hw3 : wr.alloc _ = w3
        obtain ⟨hb3, hg3, hr3, hcell3⟩ := HF3.out w3 hw3
        have HR3 := Lib.hid hr3
        have HC3 := Lib.hid hcell3
        have HB3 := Lib.hid (HBW.out.trans (hb3.mono HBW.out.size))
        have HRY3 := Lib.hid (rdN.below HRDy.out hb3)
        have g0 := below_cell hb3 hby f0
        have g1 := below_cell hb3 hby f1
        have g2 := below_cell hb3 hby f2
        have g3 := below_cell hb3 hby f3
        have g4 := below_cell hb3 hby f4
        clear f0 f1 f2 f3 f4
        have HF4 := Lib.hid fun w4 h => HBX.out w3 q B1 e1 B2 e2 B3 e3 B4 e4 w4 h HRY3.out
        clear hcell3 hb3 hw3 HF3 d0 d1 d2 d3 d4 hr3
        go_upto_region 7 with (fail)
        generalize hw4 : w3.alloc _ = w4
        obtain ⟨hb4, hg4, hr4, hcell4⟩ := HF4.out w4 hw4
        rw [hg3] at hcell4 hg4
        have z0 := HC3.out w4 hb4 0
        have h0 := hcell4 w4 (Below.refl _ _) 0
        have z1 := HC3.out w4 hb4 1
        have h1 := hcell4 w4 (Below.refl _ _) 1
        have z2 := HC3.out w4 hb4 2
        have h2 := hcell4 w4 (Below.refl _ _) 2
        have z3 := HC3.out w4 hb4 3
        have h3 := hcell4 w4 (Below.refl _ _) 3
        have z4 := HC3.out w4 hb4 4
        have h4 := hcell4 w4 (Below.refl _ _) 4
        simp only [List.getElem?_toArray, List.getElem?_cons_zero, List.getElem?_cons_succ] at z0 h0 e1 h1 e2 h2 e3 h3 e4 h4
        have HB4 := Lib.hid (HB3.out.trans (hb4.mono HB3.out.size))
        have HCL := Lib.hid (HK.out p A1 c1 A2 c2 A3 c3 A4 c4 q B1 e1 B2 e2 B3 e3 B4 e4 w4 (rdN.below HR3.out hb4) hr4)
        clear hcell4 hb4 hw4 HF4 g0 g1 g2 g3 g4 HR3 HC3 HRY3 hr4
        cases hsm : eqN p q with
        | false =>
          have HN := Lib.hid (HNO.out hsm)
          rw [hsm] at HCL
          go_wp2_with fail
          refine HCL.out.mono ?_
          rintro r w5 ⟨rfl, hb5⟩
          have HB5 := Lib.hid (HB4.out.trans (hb5.mono HB4.out.size))
          clear hb5
          go_wp2_with fail
          go_ret
          exact ⟨ret_bool HN.out.symm, HB5.out⟩
        | true =>
          have HN := Lib.hid (HYE.out hsm)
          rw [hsm] at HCL
          go_wp2_with fail
          refine HCL.out.mono ?_
          rintro r w5 ⟨rfl, hb5⟩
          have HB5 := Lib.hid (HB4.out.trans (hb5.mono HB4.out.size))
          clear hb5
          go_wp2_with fail
          go_roundw
          case rel => exact ⟨k + 1, by omega, by go_num, HN.out, HB5.out⟩
          case measure => simp [intOf]; omega
      · have hkl : k = n1 := by omega
        have HN := Lib.hid (show res = true by rw [HXY.out (by omega) (fun i hi => HA.out i (by omega))])
        go_wp2_with fail
        go_ret
        exact ⟨ret_bool HN.out.symm, HBW.out⟩
  · have nn : ((n1 : Int) != (n2 : Int)) = true := by rw [bne_iff_ne]; omega
    have HN := Lib.hid (show res = false by rw [HXL.out (by omega)])
    go_enter Try.func25, Try.ntmps25
    go_wp2_with fail
    go_ret
    exact ⟨ret_bool HN.out.symm, Below.refl _ _⟩
end Go.Proofs.Ytapnodhgjfbjjaa
