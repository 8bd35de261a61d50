/- Which enums are the same: of the document's text. Conditions: none. -/
import Derived.Test.YtapnodhgjfbjjaaPgJ
import Derived.Test.YtapnodhgjfbjjaaNmT
import Derived.BigQuiet
namespace Go.Proofs.Ytapnodhgjfbjjaa
open Go.RowKit Go.Sort Go.BigFrame
set_option linter.unusedVariables false
set_option linter.unusedSimpArgs false

def eqE (a b : En) : Bool := (a.1.data.toList == b.1.data.toList) && sameT a.2 b.2
theorem enD (es : List En) (i : Nat) : es[i]?.getD default = (nmE es i, csE es i) := by
  unfold nmE csE
  cases es[i]? <;> rfl

set_option maxRecDepth 100000 in
set_option maxHeartbeats 4000000 in
theorem refEnSame (A : Option Addr) (n c : Nat) (l : List En) (B : Option Addr) (m d : Nat) (r : List En) (w : World) (hl : RdE w A n l) (hr : RdE w B m r) :
    Calls Try.prog 27 #[.slice A n c, .slice B m d] w fun e w' => e = .returned (.bool (sameL eqE l r)) ∧ Below w.heap.size w w' := by
  have hln := hl.len
  have hrn := hr.len
  have hlm := hl.max
  have hrm := hr.max
  by_cases hnm : n = m
  · subst hnm
    have HNO := Lib.hid fun (i : Nat) hi hf => sameL_no (f := eqE) (l := l) (m := r) (i := i) (by rw [hln]; exact hi) (by rw [hln, hrn]) hf
    have HYES := Lib.hid fun hf => sameL_yes (f := eqE) (l := l) (m := r) (by rw [hln, hrn]) (by rw [hln]; exact hf)
    generalize sameL eqE l r = out at *
    have dn : decide ((n : Int) = (n : Int)) = true := decide_eq_true rfl
    go_enter Try.func27, Try.ntmps27
    go_wp2_with fail
    go_loopw [5] (fun i wr => ∃ k : Nat, k ≤ n ∧ i = .int .i64 k ∧ (∀ j, j < k → eqE (l[j]?.getD default) (r[j]?.getD default) = true) ∧ Below w.heap.size w wr) (fun i _ => n - (intOf i).toNat)
    case atStart => exact ⟨0, Nat.zero_le _, rfl, fun j hj => absurd hj (by omega), Below.refl _ _⟩
    case round =>
      obtain ⟨k, hk, rfl, hto, hnx⟩ := hrel
      have HT := Lib.hid hto
      have HNX := Lib.hid hnx
      clear hto
      by_cases hlt : k < n
      · obtain ⟨b, off, rfl, hb, hc⟩ := (hl.below hnx).at_ hlt
        obtain ⟨b', off', rfl, hb', hc'⟩ := (hr.below hnx).at_ hlt
        obtain ⟨p0, A1, n1, c1, p1, hR1⟩ := hc k hlt
        obtain ⟨q0, A2, n2, c2, q1, hR2⟩ := hc' k hlt
        clear hc hc' hnx
        have HN := Lib.hid (HNO.out k hlt)
        have HS := Lib.hid fun (hf : eqE (l[k]?.getD default) (r[k]?.getD default) = true) => to_next (P := fun j => eqE (l[j]?.getD default) (r[j]?.getD default) = true) HT.out hf
        rw [enD, enD] at HN HS
        have HEQ := Lib.hid (show eqE (nmE l k, csE l k) (nmE r k, csE r k) = ((nmE l k).toList == (nmE r k).toList && sameT (csE l k) (csE r k)) by simp only [Lib.toList_data]; rfl)
        rw [HEQ.out] at HN HS
        clear HEQ
        have HR1 := Lib.hid hR1
        have HR2 := Lib.hid hR2
        clear hR1 hR2
        generalize nmE l k = x at p0 HN HS
        generalize nmE r k = y at q0 HN HS
        generalize csE l k = ss at HR1 HN HS
        generalize csE r k = tt at HR2 HN HS
        have HBR := Lib.hid fun d os => below_regrown wr d os
        cases h1 : (x.toList == y.toList) with
        | false =>
          have HN2 := Lib.hid (HN.out (by rw [h1]; rfl))
          go_upto_region 6 with (fail)
          have l0 := fun d os => cell_regrown p0 d os
          have l1 := fun d os => cell_regrown p1 d os
          have l2 := fun d os => cell_regrown q0 d os
          have l3 := fun d os => cell_regrown q1 d os
          have cA := fun d os => Calls.regrown_of (refNames A1 A2 n1 n2 c1 c2 ss tt (grow (redrawn wr d) os) (HR1.out.below (below_regrown wr d os)) (HR2.out.below (below_regrown wr d os)))
          clear cA
          refine wp_region_quiet_below (by kernel_rfl) (by kernel_rfl) ?_
          repeat (go_big_quiet_step (fail))
          refine wpQuiet_nil ?_
          intro _ hw'
          obtain ⟨⟨dq, osq⟩, hw''⟩ := hw'
          subst hw''
          have HB3 := Lib.hid (HNX.out.trans ((HBR.out dq osq).mono HNX.out.size))
          clear l0 l1 l2 l3
          go_wp2_with fail
          go_ret
          exact ⟨ret_bool HN2.out.symm, HB3.out⟩
        | true =>
          cases h2 : sameT ss tt with
          | false =>
            have HN2 := Lib.hid (HN.out (by rw [h1, h2]; rfl))
            go_upto_region 6 with (fail)
            have l0 := fun d os => cell_regrown p0 d os
            have l1 := fun d os => cell_regrown p1 d os
            have l2 := fun d os => cell_regrown q0 d os
            have l3 := fun d os => cell_regrown q1 d os
            have cA := fun d os => Calls.regrown_of (refNames A1 A2 n1 n2 c1 c2 ss tt (grow (redrawn wr d) os) (HR1.out.below (below_regrown wr d os)) (HR2.out.below (below_regrown wr d os)))
            simp only [h2] at cA
            refine wp_region_quiet_below (by kernel_rfl) (by kernel_rfl) ?_
            repeat (go_big_quiet_step (exact cA _ _))
            refine wpQuiet_nil ?_
            intro _ hw'
            obtain ⟨⟨dq, osq⟩, hw''⟩ := hw'
            subst hw''
            have HB3 := Lib.hid (HNX.out.trans ((HBR.out dq osq).mono HNX.out.size))
            clear cA l0 l1 l2 l3
            go_wp2_with fail
            go_ret
            exact ⟨ret_bool HN2.out.symm, HB3.out⟩
          | true =>
            have HS2 := Lib.hid (HS.out (by rw [h1, h2]; rfl))
            go_upto_region 6 with (fail)
            have l0 := fun d os => cell_regrown p0 d os
            have l1 := fun d os => cell_regrown p1 d os
            have l2 := fun d os => cell_regrown q0 d os
            have l3 := fun d os => cell_regrown q1 d os
            have cA := fun d os => Calls.regrown_of (refNames A1 A2 n1 n2 c1 c2 ss tt (grow (redrawn wr d) os) (HR1.out.below (below_regrown wr d os)) (HR2.out.below (below_regrown wr d os)))
            simp only [h2] at cA
            refine wp_region_quiet_below (by kernel_rfl) (by kernel_rfl) ?_
            repeat (go_big_quiet_step (exact cA _ _))
            refine wpQuiet_nil ?_
            intro _ hw'
            obtain ⟨⟨dq, osq⟩, hw''⟩ := hw'
            subst hw''
            have HB3 := Lib.hid (HNX.out.trans ((HBR.out dq osq).mono HNX.out.size))
            clear cA l0 l1 l2 l3
            go_wp2_with fail
            go_roundw
            case rel => exact ⟨k + 1, by omega, by go_num, HS2.out, HB3.out⟩
            case measure => simp [intOf]; omega
      · have hkn : k = n := by omega
        have HY := Lib.hid (HYES.out fun i hi => HT.out i (by omega))
        go_wp2_with fail
        go_ret
        exact ⟨ret_bool HY.out.symm, HNX.out⟩
  · have dm : ((n : Int) == (m : Int)) = false := by rw [beq_eq_false_iff_ne]; omega
    have HE := Lib.hid (sameL_len (f := eqE) (l := l) (m := r) (by rw [hln, hrn]; exact hnm))
    go_enter Try.func27, Try.ntmps27
    go_wp2_with fail
    go_ret
    exact ⟨ret_bool HE.out.symm, Below.refl _ _⟩
end Go.Proofs.Ytapnodhgjfbjjaa
