/- The walks of ProgChecks and ProgSame. Conditions: none. -/
import Derived.Test.YtapnodhgjfbjjaaPgV
import Derived.Test.YtapnodhgjfbjjaaPhI
namespace Go.Proofs.Ytapnodhgjfbjjaa
open Go.RowKit Go.Sort Go.BigFrame
set_option linter.unusedVariables false
set_option linter.unusedSimpArgs false

theorem sameT_self_ (l : List ByteArray) : sameT l l = true := by simp [sameT]
theorem eqE_refl (a : En) : eqE a a = true := by
  simp only [eqE, sameT_self_, Bool.and_true]
  simp
theorem sameX_self : ∀ x : Ex, sameX x x = true := by
  refine size_ind fun x ih => ?_
  rw [sameX_eq, sameT_self_, sameXs_yes rfl fun i hi => ih i hi]
  simp
theorem eqQ_refl (a : Qn) : eqQ a a = true := by rw [eqQ, sameT_self_, sameX_self]; rfl
theorem eqN_refl (a : Nd) : eqN a a = true := by
  simp only [eqN, sameL_refl (fun x _ => eqD_refl x), sameL_refl (fun x _ => eqQ_refl x), Bool.and_true]
  simp
theorem eqP_refl (a : Pg) : eqP a a = true := by
  simp only [eqP, sameL_refl (fun x _ => eqE_refl x), sameL_refl (fun x _ => eqN_refl x), Bool.and_true]

set_option maxRecDepth 100000 in
set_option maxHeartbeats 8000000 in
/-- The law ProgSame. -/
theorem walkSame (p : Pg) (E : Option Addr) (ec : Nat) (N : Option Addr) (nc : Nat) (q : Pg) (E' : Option Addr) (ec' : Nat) (N' : Option Addr) (nc' : Nat) (w : World) (h : rdP w p E N) (h' : rdP w q E' N') :
    Calls Try.prog 5 #[.agg (pgA p E ec N nc), .agg (pgA q E' ec' N' nc')] w fun e w' => e = .returned (.bool true) ∧ Below w.heap.size w w' := by
  have HF := Lib.hid fun w1 hw => pg_facts w p E ec N nc w1 hw h
  have HF' := Lib.hid fun w1 w2 hw (hb : Below w.heap.size w w1) => pg_facts w1 q E' ec' N' nc' w2 hw (h'.below hb)
  have HSM := Lib.hid fun w1 a => refPgSmall p E ec N nc w1 a
  have HSM' := Lib.hid fun w1 a => refPgSmall q E' ec' N' nc' w1 a
  have HC := Lib.hid fun w1 a b c d => pgSame p E ec N nc q E' ec' N' nc' w1 a b c d
  have HC2 := Lib.hid fun w1 a b c d => pgSame p E ec N nc p E ec N nc w1 a b c d
  have HR := Lib.hid fun w1 a b => refSameP p E ec N nc q E' ec' N' nc' w1 a b
  simp only [eqP_refl] at HC2
  unfold pgA at HSM HSM' HC HC2 HR ⊢
  go_enter Try.func5, Try.ntmps5
  go_upto_region 1 with (fail)
  generalize hw1 : w.alloc _ = w1
  obtain ⟨hb1, hg, hR1, hcell⟩ := HF.out w1 hw1
  have HB1 := Lib.hid hb1
  generalize hw2 : w1.alloc _ = w2
  obtain ⟨hb2, hg2, hR2, hcell2⟩ := HF'.out w1 w2 hw2 hb1
  rw [hg] at hg2
  have HB2 := Lib.hid (below_next hb1 hb2)
  have HX := Lib.hid fun w' (hb : Below w2.heap.size w2 w') j => (show w'.cell? ⟨w.heap.size, j, none⟩ = (pgA p E ec N nc)[j]? from hcell w' (hb2.trans (hb.mono hb2.size)) j)
  have HY := Lib.hid fun w' (hb : Below w2.heap.size w2 w') j => (show w'.cell? ⟨w.heap.size + 1, j, none⟩ = (pgA q E' ec' N' nc')[j]? by rw [← hg]; exact hcell2 w' hb j)
  have HRX := Lib.hid (hR1.below hb2)
  have HRY := Lib.hid hR2
  simp only [pgA] at HX HY
  clear hw1 hw2 hcell hcell2 hb1 hb2 HF HF' h h' hR1 hR2
  have p0 := HX.out w2 (Below.refl _ _) 0
  have p1 := HX.out w2 (Below.refl _ _) 1
  simp only [List.getElem?_toArray, List.getElem?_cons_zero, List.getElem?_cons_succ] at p0 p1
  go_wp2_with fail
  refine (HSM.out w2 HRX.out).mono ?_
  rintro e w3 ⟨b, rfl, ht, hb3⟩
  have HB3 := Lib.hid (below_next HB2.out hb3)
  have HW3 := Lib.hid hb3
  have q0 := HY.out w3 hb3 0
  have q1 := HY.out w3 hb3 1
  simp only [List.getElem?_toArray, List.getElem?_cons_zero, List.getElem?_cons_succ] at q0 q1
  clear hb3 p0 p1
  cases b with
  | false =>
    go_wp2_with fail
    refine (live_any w3).mono ?_
    rintro e w4 ⟨rfl, hb4⟩
    have HB4 := Lib.hid (below_next HB3.out hb4)
    clear hb4
    go_wp2_with fail
    go_ret
    exact ⟨rfl, HB4.out⟩
  | true =>
    have HT := Lib.hid (ht rfl)
    clear ht
    go_wp2_with fail
    refine (HSM'.out w3 (HRY.out.below HW3.out)).mono ?_
    rintro e w4 ⟨b, rfl, ht, hb4⟩
    have HB4 := Lib.hid (below_next HB3.out hb4)
    have HW4 := Lib.hid (below_next HW3.out hb4)
    clear hb4 q0 q1
    cases b with
    | false =>
      go_wp2_with fail
      refine (live_any w4).mono ?_
      rintro e w5 ⟨rfl, hb5⟩
      have HB5 := Lib.hid (below_next HB4.out hb5)
      clear hb5
      go_wp2_with fail
      go_ret
      exact ⟨rfl, HB5.out⟩
    | true =>
      have HT' := Lib.hid (ht rfl)
      have p0 := HX.out w4 HW4.out 0
      have p1 := HX.out w4 HW4.out 1
      have q0 := HY.out w4 HW4.out 0
      have q1 := HY.out w4 HW4.out 1
      simp only [List.getElem?_toArray, List.getElem?_cons_zero, List.getElem?_cons_succ] at p0 p1 q0 q1
      have HRX4 := Lib.hid (HRX.out.below HW4.out)
      have HRY4 := Lib.hid (HRY.out.below HW4.out)
      clear ht
      go_upto_region 3 with (fail)
      have l0 := fun d os => cell_regrown p0 d os
      have l1 := fun d os => cell_regrown p1 d os
      have l2 := fun d os => cell_regrown q0 d os
      have l3 := fun d os => cell_regrown q1 d os
      have HBR := Lib.hid fun d os => below_regrown w4 d os
      have cA := fun d os => Calls.regrown_of (HC.out (grow (redrawn w4 d) os) (HRX4.out.below (below_regrown w4 d os)) (HRY4.out.below (below_regrown w4 d os)) HT.out HT'.out)
      have cB := fun d os => Calls.regrown_of (HC2.out (grow (redrawn w4 d) os) (HRX4.out.below (below_regrown w4 d os)) (HRX4.out.below (below_regrown w4 d os)) HT.out HT.out)
      have cC := fun d os => Calls.regrown_of (HR.out (grow (redrawn w4 d) os) (HRX4.out.below (below_regrown w4 d os)) (HRY4.out.below (below_regrown w4 d os)))
      have cD := fun d os => Calls.regrown_of (live_any (grow (redrawn w4 d) os))
      generalize eqP p q = out at *
      refine wp_region_quiet_below (by kernel_rfl) (by kernel_rfl) ?_
      repeat (go_big_quiet_step (first | with_reducible exact cA _ _ | with_reducible exact cC _ _ | with_reducible exact cB _ _ | with_reducible exact cD _ _))
      refine wpQuiet_nil ?_
      intro _ hw'
      obtain ⟨⟨dq, osq⟩, hw''⟩ := hw'
      subst hw''
      have HB5 := Lib.hid (below_next HB4.out (HBR.out dq osq))
      clear cA cB cC cD l0 l1 l2 l3 p0 p1 q0 q1
      go_wp2_with fail
      go_ret
      exact ⟨rfl, HB5.out⟩
end Go.Proofs.Ytapnodhgjfbjjaa
