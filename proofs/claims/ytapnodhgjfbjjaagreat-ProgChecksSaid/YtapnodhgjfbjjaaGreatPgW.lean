/- The walks of ProgChecks and ProgSame. Conditions: none. -/
import Derived.Test.YtapnodhgjfbjjaaGreatPgV
import Derived.Test.YtapnodhgjfbjjaaGreatPiH
namespace Go.Proofs.YtapnodhgjfbjjaaGreat
open Go.RowKit Go.Sort Go.BigFrame
set_option linter.unusedVariables false
set_option linter.unusedSimpArgs false

set_option maxRecDepth 100000 in
set_option maxHeartbeats 4000000 in
/-- The law ProgChecks. -/
theorem walkChecks (p : Pg) (E : Option Addr) (ec : Nat) (N : Option Addr) (nc : Nat) (w : World) (h : rdP w p E N) :
    Calls Tryz.prog 3 #[.agg (pgA p E ec N nc)] w fun e w' => e = .returned (.bool true) ∧ Below w.heap.size w w' := by
  have HF := Lib.hid fun w1 hw => pg_facts w p E ec N nc w1 hw h
  have HSM := Lib.hid fun w1 a => refPgSmall p E ec N nc w1 a
  have HC := Lib.hid fun w1 a b => pgCheck p E ec N nc w1 a b
  have HR := Lib.hid fun w1 a b => refCheck p E ec N nc w1 a b
  unfold pgA at HSM HC HR ⊢
  go_enter Tryz.func3, Tryz.ntmps3
  go_upto_region 1 with (fail)
  generalize hw1 : w.alloc _ = w1
  obtain ⟨hb1, hg, hR1, hcell⟩ := HF.out w1 hw1
  have HB1 := Lib.hid hb1
  have HCE := Lib.hid hcell
  have HR1 := Lib.hid hR1
  simp only [pgA] at HCE
  have q0 := HCE.out w1 (Below.refl _ _) 0
  have q1 := HCE.out w1 (Below.refl _ _) 1
  simp only [List.getElem?_toArray, List.getElem?_cons_zero, List.getElem?_cons_succ] at q0 q1
  clear hw1 hcell hb1 HF h hR1
  go_wp2_with fail
  refine (HSM.out w1 HR1.out).mono ?_
  rintro e w2 ⟨b, rfl, ht, hb2⟩
  have HB2 := Lib.hid (below_next HB1.out hb2)
  have HR2 := Lib.hid (HR1.out.below hb2)
  have q0 := HCE.out w2 hb2 0
  have q1 := HCE.out w2 hb2 1
  simp only [List.getElem?_toArray, List.getElem?_cons_zero, List.getElem?_cons_succ] at q0 q1
  clear hb2
  cases b with
  | false =>
    go_wp2_with fail
    refine (live_any w2).mono ?_
    rintro e w3 ⟨rfl, hb3⟩
    have HB3 := Lib.hid (below_next HB2.out hb3)
    clear hb3
    go_wp2_with fail
    go_ret
    exact ⟨rfl, HB3.out⟩
  | true =>
    have HT := Lib.hid (ht rfl)
    clear ht
    go_upto_region 3 with (fail)
    have l0 := fun d os => cell_regrown q0 d os
    have l1 := fun d os => cell_regrown q1 d os
    have HBR := Lib.hid fun d os => below_regrown w2 d os
    have cA := fun d os => Calls.regrown_of (HC.out (grow (redrawn w2 d) os) (HR2.out.below (below_regrown w2 d os)) HT.out)
    have cC := fun d os => Calls.regrown_of (HR.out (grow (redrawn w2 d) os) (HR2.out.below (below_regrown w2 d os)) HT.out)
    have cB := fun x d os => Calls.regrown_of ((lawNum x (grow (redrawn w2 d) os)).mono fun _ _ ⟨a, b⟩ => ⟨a, b ▸ Below.refl _ _⟩)
    have cD := fun d os => Calls.regrown_of (live_any (grow (redrawn w2 d) os))
    refine wp_region_quiet_below (by kernel_rfl) (by kernel_rfl) ?_
    repeat (go_big_quiet_step (first | with_reducible exact cA _ _ | with_reducible exact cC _ _ | with_reducible exact cB _ _ _ | with_reducible exact cD _ _))
    refine wpQuiet_nil ?_
    intro _ hw'
    obtain ⟨⟨dq, osq⟩, hw''⟩ := hw'
    subst hw''
    have HB3 := Lib.hid (below_next HB2.out (HBR.out dq osq))
    clear cA cB cC cD l0 l1 q0 q1
    go_wp2_with fail
    go_ret
    exact ⟨rfl, HB3.out⟩

theorem sameT_self_ (l : List ByteArray) : sameT l l = true := by simp [sameT]
theorem eqE_refl (a : En) : eqE a a = true := by
  simp only [eqE, sameT_self_, Bool.and_true]
  simp
theorem sameX_self : ∀ x : Ex, sameX x x = true := by
  refine size_ind fun x ih => ?_
  rw [sameX_eq, sameT_self_, sameXs_yes rfl fun i hi => ih i hi]
  simp
theorem eqQ_refl (a : Qn) : eqQ a a = true := by rw [eqQ, sameT_self_, sameX_self]; rfl
theorem eqN_refl (a : Nd) : eqN a a = true := by
  simp only [eqN, sameL_refl (fun x _ => eqD_refl x), sameL_refl (fun x _ => eqQ_refl x), Bool.and_true]
  simp
theorem eqP_refl (a : Pg) : eqP a a = true := by
  simp only [eqP, sameL_refl (fun x _ => eqE_refl x), sameL_refl (fun x _ => eqN_refl x), Bool.and_true]

end Go.Proofs.YtapnodhgjfbjjaaGreat
