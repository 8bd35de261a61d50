/- Which lists of variables are the same: slices.Equal. Conditions: none. -/
import Derived.Test.YtapnodhgjfbjjaaPgJ
namespace Go.Proofs.Ytapnodhgjfbjjaa
open Go.RowKit Go.Sort
set_option linter.unusedVariables false
set_option linter.unusedSimpArgs false

set_option maxRecDepth 100000 in
set_option maxHeartbeats 4000000 in
theorem slEqualD (A : Option Addr) (n c : Nat) (l : List Dc) (B : Option Addr) (m d : Nat) (r : List Dc) (w : World) (hl : RdD w A n l) (hr : RdD w B m r) :
    Calls Try.prog 32 #[.slice A n c, .slice B m d] w fun e w' => e = .returned (.bool (sameL eqD l r)) ∧ Below w.heap.size w w' := by
  have hln := hl.len
  have hrn := hr.len
  have hlm := hl.max
  have hrm := hr.max
  by_cases hnm : n = m
  · subst hnm
    have HNO := Lib.hid fun (i : Nat) hi hf => sameL_no (f := eqD) (l := l) (m := r) (i := i) (by rw [hln]; exact hi) (by rw [hln, hrn]) hf
    have HYES := Lib.hid fun hf => sameL_yes (f := eqD) (l := l) (m := r) (by rw [hln, hrn]) (by rw [hln]; exact hf)
    generalize sameL eqD l r = out at *
    have dn : decide ((n : Int) = (n : Int)) = true := decide_eq_true rfl
    go_enter Try.func32, Try.ntmps32
    go_wp2_with fail
    go_loopw [13] (fun i wr => ∃ k : Nat, k ≤ n ∧ i = .int .i64 k ∧ (∀ j, j < k → eqD (l[j]?.getD default) (r[j]?.getD default) = true) ∧ Below w.heap.size w wr) (fun i _ => n - (intOf i).toNat)
    case atStart => exact ⟨0, Nat.zero_le _, rfl, fun j hj => absurd hj (by omega), Below.refl _ _⟩
    case round =>
      obtain ⟨k, hk, rfl, hto, hnx⟩ := hrel
      have HT := Lib.hid hto
      have HNX := Lib.hid hnx
      clear hto
      by_cases hlt : k < n
      · obtain ⟨b, off, rfl, hb, hc⟩ := RdS.at_ (hl.below hnx) (by omega)
        obtain ⟨b', off', rfl, hb', hc'⟩ := RdS.at_ (hr.below hnx) (by omega)
        obtain ⟨p0, p1, p2, p3, p4, p5⟩ := (hc k hlt).six
        obtain ⟨q0, q1, q2, q3, q4, q5⟩ := (hc' k hlt).six
        clear hc hc' hnx
        have HN := Lib.hid (HNO.out k hlt)
        have HS := Lib.hid fun (hf : eqD (l[k]?.getD default) (r[k]?.getD default) = true) => to_next (P := fun j => eqD (l[j]?.getD default) (r[j]?.getD default) = true) HT.out hf
        generalize l[k]?.getD default = x at p0 p1 p2 p3 p4 p5 HN HS
        generalize r[k]?.getD default = y at q0 q1 q2 q3 q4 q5 HN HS
        obtain ⟨x0, x1, x2, x3, x4, x5⟩ := x
        obtain ⟨y0, y1, y2, y3, y4, y5⟩ := y
        simp only at p0 p1 p2 p3 p4 p5 q0 q1 q2 q3 q4 q5
        by_cases e0 : x0 = y0
        · subst e0
          by_cases e1 : x1 = y1
          · subst e1
            by_cases e2 : x2 = y2
            · subst e2
              by_cases e3 : x3 = y3
              · subst e3
                by_cases e4 : x4 = y4
                · subst e4
                  by_cases e5 : x5 = y5
                  · subst e5
                    have HS2 := Lib.hid (HS.out (eqD_refl _))
                    go_upto_region 6 with (fail)
                    go_quiet (fail)
                    go_wp2_with fail
                    go_roundw
                    case rel => exact ⟨k + 1, by omega, by go_num, HS2.out, below_drewN HNX.out _⟩
                    case measure => simp [intOf]; omega
                  · have f5 : (x5.toList == y5.toList) = false := by rw [Lib.toList_data, Lib.toList_data, beq_eq_false_iff_ne]; exact fun h => e5 (toL_eq h)
                    have HN2 := Lib.hid (HN.out (by have h := f5; rw [Lib.toList_data, Lib.toList_data] at h; simp [eqD, h]))
                    go_upto_region 6 with (fail)
                    go_quiet (fail)
                    go_wp2_with fail
                    go_ret
                    exact ⟨ret_bool HN2.out.symm, below_drewN HNX.out _⟩
                · have f4 : (x4.toList == y4.toList) = false := by rw [Lib.toList_data, Lib.toList_data, beq_eq_false_iff_ne]; exact fun h => e4 (toL_eq h)
                  have HN2 := Lib.hid (HN.out (by have h := f4; rw [Lib.toList_data, Lib.toList_data] at h; simp [eqD, h]))
                  go_upto_region 6 with (fail)
                  go_quiet (fail)
                  go_wp2_with fail
                  go_ret
                  exact ⟨ret_bool HN2.out.symm, below_drewN HNX.out _⟩
              · have f3 : (x3 == y3) = false := by rw [beq_eq_false_iff_ne]; exact e3
                have HN2 := Lib.hid (HN.out (by simp [eqD, f3]))
                go_upto_region 6 with (fail)
                go_quiet (fail)
                go_wp2_with fail
                go_ret
                exact ⟨ret_bool HN2.out.symm, below_drewN HNX.out _⟩
            · have f2 : (x2 == y2) = false := by rw [beq_eq_false_iff_ne]; exact e2
              have HN2 := Lib.hid (HN.out (by simp [eqD, f2]))
              go_upto_region 6 with (fail)
              go_quiet (fail)
              go_wp2_with fail
              go_ret
              exact ⟨ret_bool HN2.out.symm, below_drewN HNX.out _⟩
          · have f1 : (x1 == y1) = false := by rw [beq_eq_false_iff_ne]; exact e1
            have HN2 := Lib.hid (HN.out (by simp [eqD, f1]))
            go_upto_region 6 with (fail)
            go_quiet (fail)
            go_wp2_with fail
            go_ret
            exact ⟨ret_bool HN2.out.symm, below_drewN HNX.out _⟩
        · have f0 : (x0.toList == y0.toList) = false := by rw [Lib.toList_data, Lib.toList_data, beq_eq_false_iff_ne]; exact fun h => e0 (toL_eq h)
          have HN2 := Lib.hid (HN.out (by have h := f0; rw [Lib.toList_data, Lib.toList_data] at h; simp [eqD, h]))
          go_upto_region 6 with (fail)
          go_quiet (fail)
          go_wp2_with fail
          go_ret
          exact ⟨ret_bool HN2.out.symm, below_drewN HNX.out _⟩
      · have hkn : k = n := by omega
        have HY := Lib.hid (HYES.out fun i hi => HT.out i (by omega))
        go_wp2_with fail
        go_ret
        exact ⟨ret_bool HY.out.symm, HNX.out⟩
  · have dn : decide ((n : Int) = (m : Int)) = false := decide_eq_false (by omega)
    have dm : ((n : Int) == (m : Int)) = false := by rw [beq_eq_false_iff_ne]; omega
    have HE := Lib.hid (sameL_len (f := eqD) (l := l) (m := r) (by rw [hln, hrn]; exact hnm))
    go_enter Try.func32, Try.ntmps32
    go_wp2_with fail
    go_ret
    exact ⟨ret_bool HE.out.symm, Below.refl _ _⟩
end Go.Proofs.Ytapnodhgjfbjjaa
