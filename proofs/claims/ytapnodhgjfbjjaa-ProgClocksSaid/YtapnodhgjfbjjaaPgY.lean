/- The walks of ProgFinds and ProgClocks. Conditions: none. -/
import Derived.Test.YtapnodhgjfbjjaaPgW
import Derived.Test.YtapnodhgjfbjjaaPgP
namespace Go.Proofs.Ytapnodhgjfbjjaa
open Go.RowKit Go.Sort Go.BigFrame
set_option linter.unusedVariables false
set_option linter.unusedSimpArgs false

set_option maxRecDepth 100000 in
set_option maxHeartbeats 8000000 in
/-- The law ProgFinds. -/
theorem walkFinds (p : Pg) (E : Option Addr) (ec : Nat) (N : Option Addr) (nc : Nat) (s : ByteArray) (w : World) (h : rdP w p E N) :
    Calls Try.prog 3 #[.agg (pgA p E ec N nc), .string s] w fun e w' => e = .returned (.bool true) ∧ Below w.heap.size w w' := by
  have HF := Lib.hid fun w1 hw => pg_facts w p E ec N nc w1 hw h
  have HSM := Lib.hid fun w1 a => refPgSmall p E ec N nc w1 a
  have HC := Lib.hid fun w1 a => pgFind p E ec N nc s w1 a
  have HR := Lib.hid fun w1 a => refFind p E ec N nc s w1 a
  have hmx := RdS.max h.2
  unfold pgA at HSM HC HR ⊢
  go_enter Try.func3, Try.ntmps3
  go_upto_region 1 with (fail)
  generalize hw1 : w.alloc _ = w1
  obtain ⟨hb1, hg, hR1, hcell⟩ := HF.out w1 hw1
  have HB1 := Lib.hid hb1
  have HCE := Lib.hid hcell
  have HR1 := Lib.hid hR1
  simp only [pgA] at HCE
  have q0 := HCE.out w1 (Below.refl _ _) 0
  have q1 := HCE.out w1 (Below.refl _ _) 1
  simp only [List.getElem?_toArray, List.getElem?_cons_zero, List.getElem?_cons_succ] at q0 q1
  clear hw1 hcell hb1 HF h hR1
  go_wp2_with fail
  refine (HSM.out w1 HR1.out).mono ?_
  rintro e w2 ⟨b, rfl, ht, hb2⟩
  have HB2 := Lib.hid (below_next HB1.out hb2)
  have HW2 := Lib.hid hb2
  have hz2 := hb2.size
  have HR2 := Lib.hid (HR1.out.below hb2)
  have q0 := HCE.out w2 hb2 0
  have q1 := HCE.out w2 hb2 1
  simp only [List.getElem?_toArray, List.getElem?_cons_zero, List.getElem?_cons_succ] at q0 q1
  clear hb2
  cases b with
  | false =>
    go_wp2_with fail
    refine (live_any w2).mono ?_
    rintro e w3 ⟨rfl, hb3⟩
    have HB3 := Lib.hid (below_next HB2.out hb3)
    clear hb3
    go_wp2_with fail
    go_ret
    exact ⟨rfl, HB3.out⟩
  | true =>
    have HT := Lib.hid (ht rfl)
    clear ht
    by_cases h5 : 500 < s.size
    · go_wp2_with fail
      refine (live_any w2).mono ?_
      rintro e w3 ⟨rfl, hb3⟩
      have HB3 := Lib.hid (below_next HB2.out hb3)
      clear hb3
      go_wp2_with fail
      go_ret
      exact ⟨rfl, HB3.out⟩
    · have d5 : decide ((500 : Int) < (s.size : Int)) = false := decide_eq_false (by omega)
      go_upto_region 3 with (fail)
      have l0 := fun d os => cell_regrown q0 d os
      have l1 := fun d os => cell_regrown q1 d os
      have HBR := Lib.hid fun d os => below_regrown w2 d os
      have cA := fun d os => Calls.regrown_of (HC.out (grow (redrawn w2 d) os) (HR2.out.below (below_regrown w2 d os)))
      have cC := fun d os => Calls.regrown_of (HR.out (grow (redrawn w2 d) os) (HR2.out.below (below_regrown w2 d os)))
      generalize findN p s = fo at *
      refine wp_region_quiet_below (by kernel_rfl) (by kernel_rfl) ?_
      repeat (go_big_quiet_step (first | with_reducible exact cA _ _ | with_reducible exact cC _ _))
      refine wpQuiet_nil ?_
      intro _ hw'
      obtain ⟨⟨dq, osq⟩, hw''⟩ := hw'
      subst hw''
      have hbr := HBR.out dq osq
      clear cA cC l0 l1 q0 q1 HBR
      generalize grow (redrawn w2 dq) osq = w3 at *
      have HW3 := Lib.hid (HW2.out.trans (hbr.mono HW2.out.size))
      clear hbr
      have HNS := Lib.hid (show RdS 5 NdAt w1 N p.ns.length p.ns from HR1.out.2)
      have HTN := Lib.hid HT.out.2.2
      generalize p.es.length = ne at *
      generalize p.ns = ns at *
      generalize ns.length = n at *
      go_wp2_with fail
      go_loopw [5] (fun i wr => ∃ k : Nat, k ≤ n ∧ i = .int .i64 k ∧ Below w1.heap.size w1 wr) (fun i _ => n - (intOf i).toNat)
      case atStart => exact ⟨0, Nat.zero_le _, rfl, HW3.out⟩
      case round =>
        obtain ⟨k, hk, rfl, hnx⟩ := hrel
        have HNX := Lib.hid hnx
        have hz := hnx.size
        have q1 := HCE.out wr hnx 1
        simp only [List.getElem?_toArray, List.getElem?_cons_zero, List.getElem?_cons_succ] at q1
        by_cases hlt : k < n
        · obtain ⟨b, off, rfl, hb, hc⟩ := RdS.at_ HNS.out (by omega)
          have hnd := hc k hlt
          have HTX := Lib.hid (HTN.out k hlt)
          clear hc
          generalize ns[k]?.getD default = x at hnd HTX
          obtain ⟨A1, c1, A2, c2, A3, c3, A4, c4, hrd, e0, e1, e2, e3, e4⟩ := hnd.five
          have HE := Lib.hid fun w' (hb' : Below w1.heap.size w1 w') => (show w'.cell? ⟨b, off + k * 5, none⟩ = some (.string x.nm) ∧ w'.cell? ⟨b, off + k * 5 + 1, none⟩ = some (.slice A1 x.ins.length c1) ∧ w'.cell? ⟨b, off + k * 5 + 2, none⟩ = some (.slice A2 x.outs.length c2) ∧ w'.cell? ⟨b, off + k * 5 + 3, none⟩ = some (.slice A3 x.vars.length c3) ∧ w'.cell? ⟨b, off + k * 5 + 4, none⟩ = some (.slice A4 x.eqs.length c4) from ⟨(hb'.cell (p := ⟨b, _, none⟩) hb).trans e0, (hb'.cell (p := ⟨b, _, none⟩) hb).trans e1, (hb'.cell (p := ⟨b, _, none⟩) hb).trans e2, (hb'.cell (p := ⟨b, _, none⟩) hb).trans e3, (hb'.cell (p := ⟨b, _, none⟩) hb).trans e4⟩)
          have HRD := Lib.hid hrd
          obtain ⟨p10, p11, p12, p13, p14⟩ := HE.out wr hnx
          have HD1 := Lib.hid (pgDecl x A1 c1 A2 c2 A3 c3 A4 c4 s wr (HRD.out.below hnx))
          have HD2 := Lib.hid fun w' a => refDeclN x A1 c1 A2 c2 A3 c3 A4 c4 s w' a (by have := HTX.out.len; omega)
          unfold ndA at HD1 HD2
          generalize declO x s = out at *
          clear hrd hnd e0 e1 e2 e3 e4 hnx
          go_wp2_with fail
          refine HD1.out.mono ?_
          rintro e v2 ⟨rfl, hb2⟩
          have HV2 := Lib.hid (HNX.out.trans (hb2.mono hz))
          have HBX := Lib.hid fun v3 (hw : v2.alloc (.cells (dcA (out.getD default)) 32) = v3) => (show RowD v3 v2.heap.size (out.getD default) ∧ Below v2.heap.size v2 v3 by subst hw; exact ⟨heap_alloc_new _ _, (Below.refl _ _).alloc (Nat.le_refl _) _⟩)
          clear hb2 p10 p11 p12 p13 p14 q1
          unfold declV dcA
          unfold dcA at HBX
          go_upto_region 9 with (fail)
          generalize hw3 : World.alloc _ _ = v3
          obtain ⟨hr3, hb3⟩ := HBX.out v3 hw3
          have HV3 := Lib.hid (HV2.out.trans (hb3.mono HV2.out.size))
          have HROW := Lib.hid hr3
          have hz3 := HV3.out.size
          have q1 := HCE.out v3 HV3.out 1
          simp only [List.getElem?_toArray, List.getElem?_cons_zero, List.getElem?_cons_succ] at q1
          obtain ⟨p10, p11, p12, p13, p14⟩ := HE.out v3 HV3.out
          have HD3 := Lib.hid (HD2.out v3 (HRD.out.below HV3.out))
          clear hw3 hr3 hb3 HBX HD2
          generalize v2.heap.size = ga at *
          go_wp2_with fail
          refine HD3.out.mono ?_
          rintro e v4 ⟨rfl, hb4⟩
          have HV4 := Lib.hid (HV3.out.trans (hb4.mono hz3))
          have HROW4 := Lib.hid (HROW.out.below hb4)
          have HBX := Lib.hid fun v5 (hw : v4.alloc (.cells (dcA (out.getD default)) 32) = v5) => (show RowD v5 v4.heap.size (out.getD default) ∧ Below v4.heap.size v4 v5 by subst hw; exact ⟨heap_alloc_new _ _, (Below.refl _ _).alloc (Nat.le_refl _) _⟩)
          clear hb4 p10 p11 p12 p13 p14 q1
          unfold declV dcA
          unfold dcA at HBX
          go_upto_region 10 with (fail)
          generalize hw5 : World.alloc _ _ = v5
          obtain ⟨hr5, hb5⟩ := HBX.out v5 hw5
          have HV5 := Lib.hid (HV4.out.trans (hb5.mono HV4.out.size))
          have hr4 := HROW4.out.below hb5
          generalize v4.heap.size = gb at *
          generalize out.getD default = d at *
          have r0 := hr4.cells 0
          have r1 := hr4.cells 1
          have r2 := hr4.cells 2
          have r3 := hr4.cells 3
          have r4 := hr4.cells 4
          have r5 := hr4.cells 5
          have t0 := hr5.cells 0
          have t1 := hr5.cells 1
          have t2 := hr5.cells 2
          have t3 := hr5.cells 3
          have t4 := hr5.cells 4
          have t5 := hr5.cells 5
          simp only [dcA, List.getElem?_toArray, List.getElem?_cons_zero, List.getElem?_cons_succ] at r0 r1 r2 r3 r4 r5 t0 t1 t2 t3 t4 t5
          clear hw5 hr5 hr4 hb5 HBX
          generalize out.isSome = bo at *
          cases bo with
          | false =>
            go_wp2_with fail
            go_roundw
            case rel => exact ⟨k + 1, by omega, by go_num, HV5.out⟩
            case measure => simp [intOf]; omega
          | true =>
            go_wp2_with fail
            go_roundw
            case rel => exact ⟨k + 1, by omega, by go_num, HV5.out⟩
            case measure => simp [intOf]; omega
        · have HBW := Lib.hid (HB1.out.trans (HNX.out.mono (by omega)))
          go_wp2_with fail
          refine (live_any wr).mono ?_
          rintro e w3 ⟨rfl, hb3⟩
          have HB3 := Lib.hid (below_next HBW.out hb3)
          clear hb3
          go_wp2_with fail
          go_ret
          exact ⟨rfl, HB3.out⟩
end Go.Proofs.Ytapnodhgjfbjjaa
