/- Which types are alike, and where a constructor stands, of the document's text; which enums are small. Conditions: none. -/
import Derived.Test.YtccpihpfpobjpaaDoorTyA
import Derived.Test.YtccpihpfpobjpaaDoorTyC
namespace Go.Proofs.YtccpihpfpobjpaaDoor
open Go.RowKit
set_option linter.unusedVariables false

set_option maxRecDepth 100000 in
set_option maxHeartbeats 4000000 in
theorem refAlike (A B : Option Addr) (n m c d : Nat) (es fs : List En) (k e l k' e' l' : Int) (w : World) (hE : RdE w A n es) (hF : RdE w B m fs) :
    Calls Tryd.prog 23 #[.slice A n c, tyV k e l, .slice B m d, tyV k' e' l'] w fun r w' => r = .returned (.bool (alikeB es fs k e l k' e' l')) ∧ Below w.heap.size w w' := by
  have HB := Lib.hid (((Below.refl w.heap.size w).alloc (Nat.le_refl _) (.cells #[.int .i64 k, .int .i64 e, .int .i64 l] 30)).alloc (by simp) (.cells #[.int .i64 k', .int .i64 e', .int .i64 l'] 30))
  have HE := Lib.hid ((hE.alloc (.cells #[.int .i64 k, .int .i64 e, .int .i64 l] 30)).alloc (.cells #[.int .i64 k', .int .i64 e', .int .i64 l'] 30))
  have HF := Lib.hid ((hF.alloc (.cells #[.int .i64 k, .int .i64 e, .int .i64 l] 30)).alloc (.cells #[.int .i64 k', .int .i64 e', .int .i64 l'] 30))
  have hlen := hE.len
  have hlen2 := hF.len
  have HR1 := Lib.hid fun (W : World) => refRight A n c k e l W hE.max
  have HR2 := Lib.hid fun (W : World) => refRight B m d k' e' l' W hF.max
  have H3 := Lib.hid (cell3 w 30 (.int .i64 k) (.int .i64 e) (.int .i64 l))
  have h4 := cell3 (w.alloc (.cells #[.int .i64 k, .int .i64 e, .int .i64 l] 30)) 30 (.int .i64 k') (.int .i64 e') (.int .i64 l')
  rw [World.size_alloc] at h4
  have H4 := Lib.hid h4
  clear h4
  rw [← hlen] at HR1
  rw [← hlen2] at HR2
  clear hE hF
  cases ha : rightB es.length k e l with
  | false =>
    have HO := Lib.hid (alike_a (fs := fs) (k' := k') (e' := e') (l' := l') ha)
    rw [ha] at HR1
    clear HR2
    unfold tyV at HR1 ⊢
    go_enter Tryd.func23, Tryd.ntmps23
    go_wp2_with fail
    rw [← hlen]
    refine (HR1.out _).mono ?_
    rintro r w1 ⟨rfl, hb1⟩
    have HB1 := Lib.hid (HB.out.trans (hb1.mono HB.out.size))
    clear hb1
    go_wp2_with fail
    go_ret
    exact ⟨ret_bool HO.out.symm, HB1.out⟩
  | true =>
    rw [ha] at HR1
    cases hb : rightB fs.length k' e' l' with
    | false =>
      have HO := Lib.hid (alike_b (es := es) (k := k) (e := e) (l := l) hb)
      rw [hb] at HR2
      unfold tyV at HR1 HR2 ⊢
      go_enter Tryd.func23, Tryd.ntmps23
      go_wp2_with fail
      rw [← hlen]
      refine (HR1.out _).mono ?_
      rintro r w1 ⟨rfl, hb1⟩
      have r0 := (hb1.cell (p := ⟨w.heap.size + 1, 0, none⟩) (by simp)).trans H4.out.1
      have r1 := (hb1.cell (p := ⟨w.heap.size + 1, 1, none⟩) (by simp)).trans H4.out.2.1
      have r2 := (hb1.cell (p := ⟨w.heap.size + 1, 2, none⟩) (by simp)).trans H4.out.2.2
      have q0 := (hb1.cell (p := ⟨w.heap.size, 0, none⟩) (by simp; omega)).trans ((Below.cell ((Below.refl (w.heap.size + 1) _).alloc (by simp) _) (p := ⟨w.heap.size, 0, none⟩) (by simp)).trans H3.out.1)
      have q1 := (hb1.cell (p := ⟨w.heap.size, 1, none⟩) (by simp; omega)).trans ((Below.cell ((Below.refl (w.heap.size + 1) _).alloc (by simp) _) (p := ⟨w.heap.size, 1, none⟩) (by simp)).trans H3.out.2.1)
      have q2 := (hb1.cell (p := ⟨w.heap.size, 2, none⟩) (by simp; omega)).trans ((Below.cell ((Below.refl (w.heap.size + 1) _).alloc (by simp) _) (p := ⟨w.heap.size, 2, none⟩) (by simp)).trans H3.out.2.2)
      have hws : w.heap.size + 1 < w1.heap.size := by have := hb1.size; simp at this; omega
      have HB1 := Lib.hid (HB.out.trans (hb1.mono HB.out.size))
      have HE1 := Lib.hid (HE.out.below hb1)
      have HF1 := Lib.hid (HF.out.below hb1)
      clear hb1 H3 H4
      go_wp2_with fail
      rw [← hlen2]
      refine (HR2.out _).mono ?_
      rintro r w2 ⟨rfl, hb2⟩
      have HB2 := Lib.hid (HB1.out.trans (hb2.mono HB1.out.size))
      clear hb2
      go_wp2_with fail
      go_ret
      exact ⟨ret_bool HO.out.symm, HB2.out⟩
    | true =>
      rw [hb] at HR2
      by_cases hkk : k = k'
      · by_cases hll : l = l'
        · subst hkk hll
          have nk : (k != k) = false := by simp
          have nl : (l != l) = false := by simp
          by_cases hk3 : k = 3
          · subst hk3
            have HO := Lib.hid (alike_yes ha hb)
            obtain ⟨_, hx⟩ := right_cases ha
            obtain ⟨_, hy⟩ := right_cases hb
            obtain ⟨i, rfl, hi⟩ : ∃ i : Nat, e = i ∧ i < es.length := by rcases hx with h | h | ⟨_, h⟩ <;> first | exact h | (exfalso; omega)
            obtain ⟨j, rfl, hj⟩ : ∃ j : Nat, e' = j ∧ j < fs.length := by rcases hy with h | h | ⟨_, h⟩ <;> first | exact h | (exfalso; omega)
            clear hx hy
            have hin : i < n := by omega
            have hjm : j < m := by omega
            have hmn := HE.out.max
            have hmm := HF.out.max
            unfold tyV at HR1 HR2 ⊢
            go_enter Tryd.func23, Tryd.ntmps23
            go_wp2_with fail
            rw [← hlen]
            refine (HR1.out _).mono ?_
            rintro r w1 ⟨rfl, hb1⟩
            have r0 := (hb1.cell (p := ⟨w.heap.size + 1, 0, none⟩) (by simp)).trans H4.out.1
            have r1 := (hb1.cell (p := ⟨w.heap.size + 1, 1, none⟩) (by simp)).trans H4.out.2.1
            have r2 := (hb1.cell (p := ⟨w.heap.size + 1, 2, none⟩) (by simp)).trans H4.out.2.2
            have q0 := (hb1.cell (p := ⟨w.heap.size, 0, none⟩) (by simp; omega)).trans ((Below.cell ((Below.refl (w.heap.size + 1) _).alloc (by simp) _) (p := ⟨w.heap.size, 0, none⟩) (by simp)).trans H3.out.1)
            have q1 := (hb1.cell (p := ⟨w.heap.size, 1, none⟩) (by simp; omega)).trans ((Below.cell ((Below.refl (w.heap.size + 1) _).alloc (by simp) _) (p := ⟨w.heap.size, 1, none⟩) (by simp)).trans H3.out.2.1)
            have q2 := (hb1.cell (p := ⟨w.heap.size, 2, none⟩) (by simp; omega)).trans ((Below.cell ((Below.refl (w.heap.size + 1) _).alloc (by simp) _) (p := ⟨w.heap.size, 2, none⟩) (by simp)).trans H3.out.2.2)
            have hws : w.heap.size + 1 < w1.heap.size := by have := hb1.size; simp at this; omega
            have HB1 := Lib.hid (HB.out.trans (hb1.mono HB.out.size))
            have HE1 := Lib.hid (HE.out.below hb1)
            have HF1 := Lib.hid (HF.out.below hb1)
            clear hb1 H3 H4
            go_wp2_with fail
            rw [← hlen2]
            refine (HR2.out _).mono ?_
            rintro r w2 ⟨rfl, hb2⟩
            have r0 := (hb2.cell (p := ⟨w.heap.size + 1, 0, none⟩) hws).trans r0
            have r1 := (hb2.cell (p := ⟨w.heap.size + 1, 1, none⟩) hws).trans r1
            have r2 := (hb2.cell (p := ⟨w.heap.size + 1, 2, none⟩) hws).trans r2
            have q0 := (hb2.cell (p := ⟨w.heap.size, 0, none⟩) (by show w.heap.size < _; omega)).trans q0
            have q1 := (hb2.cell (p := ⟨w.heap.size, 1, none⟩) (by show w.heap.size < _; omega)).trans q1
            have q2 := (hb2.cell (p := ⟨w.heap.size, 2, none⟩) (by show w.heap.size < _; omega)).trans q2
            have HB2 := Lib.hid (HB1.out.trans (hb2.mono HB1.out.size))
            have HE2 := Lib.hid (HE1.out.below hb2)
            have HF2 := Lib.hid (HF1.out.below hb2)
            clear hb2
            obtain ⟨b, off, rfl, hbb, hc⟩ := HE2.out.at_ hin
            obtain ⟨b', off', rfl, hbb', hc'⟩ := HF2.out.at_ hjm
            obtain ⟨n0, A', n', c', s0, hR⟩ := hc i hin
            obtain ⟨n0', B', m', d', s0', hR'⟩ := hc' j hjm
            clear hc hc'
            have hnx : nmE es (i : Int).toNat = nmE es i := rfl
            have HO2 := Lib.hid (show alikeB es fs 3 i l 3 j l = sameEn (nmE es i) (nmE fs j) (csE es i) (csE fs j) from HO.out)
            generalize nmE es i = x at n0 HO2
            generalize nmE fs j = y at n0' HO2
            have hi0 : (0 : Int) ≤ (i : Int) := by omega
            have hi1 : (i : Int) < (n : Int) := by omega
            have hj0 : (0 : Int) ≤ (j : Int) := by omega
            have hj1 : (j : Int) < (m : Int) := by omega
            have hit : (i : Int).toNat = i := by omega
            have hjt : (j : Int).toNat = j := by omega
            have hp0 : w.heap.size < w2.heap.size := World.block_lt_of_cell? w2 _ q0
            have hp1 : w.heap.size + 1 < w2.heap.size := World.block_lt_of_cell? w2 _ r1
            have HSM := Lib.hid fun p => refNames A' B' n' m' c' d' (csE es i) (csE fs j) (w2.drewN p) (hR.drewN p) (hR'.drewN p)
            by_cases hxy : (x.toList == y.toList) = true
            · have HO3 := Lib.hid (show sameT (csE es i) (csE fs j) = alikeB es fs 3 i l 3 j l by rw [HO2.out]; simp only [sameEn, hxy, Bool.true_and])
              go_wp2_with fail
              go_region_held3 (fun W => W.cell? ⟨w.heap.size, 0, none⟩ = some (.int .i64 3) ∧ W.cell? ⟨w.heap.size, 1, none⟩ = some (.int .i64 (i : Int)) ∧ W.cell? ⟨w.heap.size + 1, 1, none⟩ = some (.int .i64 (j : Int)) ∧ W.cell? ⟨b, off + i * 2, none⟩ = some (.string x) ∧ W.cell? ⟨b, off + i * 2 + 1, none⟩ = some (.slice A' n' c') ∧ W.cell? ⟨b', off' + j * 2, none⟩ = some (.string y) ∧ W.cell? ⟨b', off' + j * 2 + 1, none⟩ = some (.slice B' m' d')) (first | exact ⟨q0, q1, r1, n0, s0, n0', s0'⟩ | exact ⟨q0', q1', r1', m0, t0, m0', t0'⟩)
                ((first | (go_at_call 34; refine (HSM.out _).mono ?_; rintro r w3 ⟨rfl, hb3⟩; have q0' := (hb3.cell (p := ⟨w.heap.size, 0, none⟩) hp0).trans q0; have q1' := (hb3.cell (p := ⟨w.heap.size, 1, none⟩) hp0).trans q1; have r1' := (hb3.cell (p := ⟨w.heap.size + 1, 1, none⟩) hp1).trans r1; have m0 := (hb3.cell (p := ⟨b, off + i * 2, none⟩) hbb).trans n0; have t0 := (hb3.cell (p := ⟨b, off + i * 2 + 1, none⟩) hbb).trans s0; have m0' := (hb3.cell (p := ⟨b', off' + j * 2, none⟩) hbb').trans n0'; have t0' := (hb3.cell (p := ⟨b', off' + j * 2 + 1, none⟩) hbb').trans s0'; have HB3 := Lib.hid hb3)))
              have HB4 := Lib.hid ((below_drewN HB2.out 1).trans (HB3.out.mono HB2.out.size))
              go_wp2_with fail
              go_ret
              exact ⟨ret_bool HO3.out, HB4.out⟩
            · have hxy : (x.toList == y.toList) = false := by simpa using hxy
              have HO3 := Lib.hid (show false = alikeB es fs 3 i l 3 j l by rw [HO2.out]; simp only [sameEn, hxy, Bool.false_and])
              go_wp2_with fail
              go_quiet (fail)
              go_wp2_with fail
              go_ret
              exact ⟨ret_bool HO3.out, below_drewN HB2.out _⟩
          · have HO := Lib.hid (alike_no ha hb hk3)
            have n3 : (k != 3) = true := by simpa using hk3
            unfold tyV at HR1 HR2 ⊢
            go_enter Tryd.func23, Tryd.ntmps23
            go_wp2_with fail
            rw [← hlen]
            refine (HR1.out _).mono ?_
            rintro r w1 ⟨rfl, hb1⟩
            have r0 := (hb1.cell (p := ⟨w.heap.size + 1, 0, none⟩) (by simp)).trans H4.out.1
            have r1 := (hb1.cell (p := ⟨w.heap.size + 1, 1, none⟩) (by simp)).trans H4.out.2.1
            have r2 := (hb1.cell (p := ⟨w.heap.size + 1, 2, none⟩) (by simp)).trans H4.out.2.2
            have q0 := (hb1.cell (p := ⟨w.heap.size, 0, none⟩) (by simp; omega)).trans ((Below.cell ((Below.refl (w.heap.size + 1) _).alloc (by simp) _) (p := ⟨w.heap.size, 0, none⟩) (by simp)).trans H3.out.1)
            have q1 := (hb1.cell (p := ⟨w.heap.size, 1, none⟩) (by simp; omega)).trans ((Below.cell ((Below.refl (w.heap.size + 1) _).alloc (by simp) _) (p := ⟨w.heap.size, 1, none⟩) (by simp)).trans H3.out.2.1)
            have q2 := (hb1.cell (p := ⟨w.heap.size, 2, none⟩) (by simp; omega)).trans ((Below.cell ((Below.refl (w.heap.size + 1) _).alloc (by simp) _) (p := ⟨w.heap.size, 2, none⟩) (by simp)).trans H3.out.2.2)
            have hws : w.heap.size + 1 < w1.heap.size := by have := hb1.size; simp at this; omega
            have HB1 := Lib.hid (HB.out.trans (hb1.mono HB.out.size))
            have HE1 := Lib.hid (HE.out.below hb1)
            have HF1 := Lib.hid (HF.out.below hb1)
            clear hb1 H3 H4
            go_wp2_with fail
            rw [← hlen2]
            refine (HR2.out _).mono ?_
            rintro r w2 ⟨rfl, hb2⟩
            have r0 := (hb2.cell (p := ⟨w.heap.size + 1, 0, none⟩) hws).trans r0
            have r1 := (hb2.cell (p := ⟨w.heap.size + 1, 1, none⟩) hws).trans r1
            have r2 := (hb2.cell (p := ⟨w.heap.size + 1, 2, none⟩) hws).trans r2
            have q0 := (hb2.cell (p := ⟨w.heap.size, 0, none⟩) (by show w.heap.size < _; omega)).trans q0
            have q1 := (hb2.cell (p := ⟨w.heap.size, 1, none⟩) (by show w.heap.size < _; omega)).trans q1
            have q2 := (hb2.cell (p := ⟨w.heap.size, 2, none⟩) (by show w.heap.size < _; omega)).trans q2
            have HB2 := Lib.hid (HB1.out.trans (hb2.mono HB1.out.size))
            have HE2 := Lib.hid (HE1.out.below hb2)
            have HF2 := Lib.hid (HF1.out.below hb2)
            clear hb2
            go_wp2_with fail
            go_quiet (fail)
            go_wp2_with fail
            go_ret
            exact ⟨ret_bool HO.out.symm, below_drewN HB2.out _⟩
        · subst hkk
          have HO := Lib.hid (alike_l (es := es) (fs := fs) (k := k) (e := e) (k' := k) (e' := e') hll)
          have nk : (k != k) = false := by simp
          have nl : (l != l') = true := by simpa using hll
          unfold tyV at HR1 HR2 ⊢
          go_enter Tryd.func23, Tryd.ntmps23
          go_wp2_with fail
          rw [← hlen]
          refine (HR1.out _).mono ?_
          rintro r w1 ⟨rfl, hb1⟩
          have r0 := (hb1.cell (p := ⟨w.heap.size + 1, 0, none⟩) (by simp)).trans H4.out.1
          have r1 := (hb1.cell (p := ⟨w.heap.size + 1, 1, none⟩) (by simp)).trans H4.out.2.1
          have r2 := (hb1.cell (p := ⟨w.heap.size + 1, 2, none⟩) (by simp)).trans H4.out.2.2
          have q0 := (hb1.cell (p := ⟨w.heap.size, 0, none⟩) (by simp; omega)).trans ((Below.cell ((Below.refl (w.heap.size + 1) _).alloc (by simp) _) (p := ⟨w.heap.size, 0, none⟩) (by simp)).trans H3.out.1)
          have q1 := (hb1.cell (p := ⟨w.heap.size, 1, none⟩) (by simp; omega)).trans ((Below.cell ((Below.refl (w.heap.size + 1) _).alloc (by simp) _) (p := ⟨w.heap.size, 1, none⟩) (by simp)).trans H3.out.2.1)
          have q2 := (hb1.cell (p := ⟨w.heap.size, 2, none⟩) (by simp; omega)).trans ((Below.cell ((Below.refl (w.heap.size + 1) _).alloc (by simp) _) (p := ⟨w.heap.size, 2, none⟩) (by simp)).trans H3.out.2.2)
          have hws : w.heap.size + 1 < w1.heap.size := by have := hb1.size; simp at this; omega
          have HB1 := Lib.hid (HB.out.trans (hb1.mono HB.out.size))
          have HE1 := Lib.hid (HE.out.below hb1)
          have HF1 := Lib.hid (HF.out.below hb1)
          clear hb1 H3 H4
          go_wp2_with fail
          rw [← hlen2]
          refine (HR2.out _).mono ?_
          rintro r w2 ⟨rfl, hb2⟩
          have r0 := (hb2.cell (p := ⟨w.heap.size + 1, 0, none⟩) hws).trans r0
          have r1 := (hb2.cell (p := ⟨w.heap.size + 1, 1, none⟩) hws).trans r1
          have r2 := (hb2.cell (p := ⟨w.heap.size + 1, 2, none⟩) hws).trans r2
          have q0 := (hb2.cell (p := ⟨w.heap.size, 0, none⟩) (by show w.heap.size < _; omega)).trans q0
          have q1 := (hb2.cell (p := ⟨w.heap.size, 1, none⟩) (by show w.heap.size < _; omega)).trans q1
          have q2 := (hb2.cell (p := ⟨w.heap.size, 2, none⟩) (by show w.heap.size < _; omega)).trans q2
          have HB2 := Lib.hid (HB1.out.trans (hb2.mono HB1.out.size))
          have HE2 := Lib.hid (HE1.out.below hb2)
          have HF2 := Lib.hid (HF1.out.below hb2)
          clear hb2
          go_wp2_with fail
          go_ret
          exact ⟨ret_bool HO.out.symm, HB2.out⟩
      · have HO := Lib.hid (alike_k (es := es) (fs := fs) (e := e) (l := l) (e' := e') (l' := l') hkk)
        have nk : (k != k') = true := by simpa using hkk
        unfold tyV at HR1 HR2 ⊢
        go_enter Tryd.func23, Tryd.ntmps23
        go_wp2_with fail
        rw [← hlen]
        refine (HR1.out _).mono ?_
        rintro r w1 ⟨rfl, hb1⟩
        have r0 := (hb1.cell (p := ⟨w.heap.size + 1, 0, none⟩) (by simp)).trans H4.out.1
        have r1 := (hb1.cell (p := ⟨w.heap.size + 1, 1, none⟩) (by simp)).trans H4.out.2.1
        have r2 := (hb1.cell (p := ⟨w.heap.size + 1, 2, none⟩) (by simp)).trans H4.out.2.2
        have q0 := (hb1.cell (p := ⟨w.heap.size, 0, none⟩) (by simp; omega)).trans ((Below.cell ((Below.refl (w.heap.size + 1) _).alloc (by simp) _) (p := ⟨w.heap.size, 0, none⟩) (by simp)).trans H3.out.1)
        have q1 := (hb1.cell (p := ⟨w.heap.size, 1, none⟩) (by simp; omega)).trans ((Below.cell ((Below.refl (w.heap.size + 1) _).alloc (by simp) _) (p := ⟨w.heap.size, 1, none⟩) (by simp)).trans H3.out.2.1)
        have q2 := (hb1.cell (p := ⟨w.heap.size, 2, none⟩) (by simp; omega)).trans ((Below.cell ((Below.refl (w.heap.size + 1) _).alloc (by simp) _) (p := ⟨w.heap.size, 2, none⟩) (by simp)).trans H3.out.2.2)
        have hws : w.heap.size + 1 < w1.heap.size := by have := hb1.size; simp at this; omega
        have HB1 := Lib.hid (HB.out.trans (hb1.mono HB.out.size))
        have HE1 := Lib.hid (HE.out.below hb1)
        have HF1 := Lib.hid (HF.out.below hb1)
        clear hb1 H3 H4
        go_wp2_with fail
        rw [← hlen2]
        refine (HR2.out _).mono ?_
        rintro r w2 ⟨rfl, hb2⟩
        have r0 := (hb2.cell (p := ⟨w.heap.size + 1, 0, none⟩) hws).trans r0
        have r1 := (hb2.cell (p := ⟨w.heap.size + 1, 1, none⟩) hws).trans r1
        have r2 := (hb2.cell (p := ⟨w.heap.size + 1, 2, none⟩) hws).trans r2
        have q0 := (hb2.cell (p := ⟨w.heap.size, 0, none⟩) (by show w.heap.size < _; omega)).trans q0
        have q1 := (hb2.cell (p := ⟨w.heap.size, 1, none⟩) (by show w.heap.size < _; omega)).trans q1
        have q2 := (hb2.cell (p := ⟨w.heap.size, 2, none⟩) (by show w.heap.size < _; omega)).trans q2
        have HB2 := Lib.hid (HB1.out.trans (hb2.mono HB1.out.size))
        have HE2 := Lib.hid (HE1.out.below hb2)
        have HF2 := Lib.hid (HF1.out.below hb2)
        clear hb2
        go_wp2_with fail
        go_ret
        exact ⟨ret_bool HO.out.symm, HB2.out⟩

/-- None that came so far bears the name. -/
def noneTo (es : List En) (name : ByteArray) (i k : Nat) : Prop := ∀ p ∈ upTo es i k, isNm name p = false
theorem noneTo_succ {es : List En} {name : ByteArray} {i k : Nat} (H : noneTo es name i k) (h : ((ctAt es i k).toList == name.toList) = false) : noneTo es name i (k + 1) := fun p hp => by
  rw [upTo_succ, List.mem_append] at hp
  rcases hp with hp | hp
  · exact H p hp
  · simp at hp
    subst hp
    exact h
theorem noneTo_next {es : List En} {name : ByteArray} {i k : Nat} (H : noneTo es name i k) (h : k = (csE es i).length) : noneTo es name (i + 1) 0 := by
  subst h
  unfold noneTo at H ⊢
  rwa [upTo_next] at H
theorem find_at {es : List En} {name : ByteArray} {i k : Nat} (hi : i < es.length) (hk : k < (csE es i).length) (H : noneTo es name i k) (h : ((ctAt es i k).toList == name.toList) = true) : findE es name = some (i, k, ctAt es i k) :=
  findE_some (ini := upTo es i k) (by rw [← upTo_succ]; exact upTo_pre hi (by omega)) H h
theorem find_no {es : List En} {name : ByteArray} (H : noneTo es name es.length 0) : findE es name = none := findE_none fun p hp => H p (by rw [upTo_end]; exact hp)

set_option maxRecDepth 100000 in
set_option maxHeartbeats 4000000 in
theorem refCtor (A : Option Addr) (len cap : Nat) (es : List En) (name : ByteArray) (w : World) (hE : RdE w A len es) :
    Calls Tryd.prog 13 #[.slice A len cap, .string name] w fun e w' => e = .returned (ctorV (findE es name)) ∧ Below w.heap.size w w' := by
  have hlen := hE.len
  have hmx := hE.max
  go_enter Tryd.func13, Tryd.ntmps13
  go_wp2_with fail
  go_loopw [7] (fun i wr => ∃ k : Nat, k ≤ len ∧ i = .int .i64 k ∧ noneTo es name k 0 ∧ ∃ p, wr = w.drewN p) (fun i _ => len - (intOf i).toNat)
  case atStart => exact ⟨0, Nat.zero_le _, rfl, fun p hp => by rw [upTo_zero] at hp; simp at hp, 0, rfl⟩
  case round =>
    obtain ⟨k, hk, rfl, hto, p, rfl⟩ := hrel
    have HT := Lib.hid hto
    clear hto
    by_cases hlt : k < len
    · obtain ⟨b, off, rfl, hb, hc⟩ := hE.at_ hlt
      obtain ⟨hn0, A', n', c', hs0, hR0⟩ := hc k hlt
      have hkl : k < es.length := by omega
      have hcl := hR0.len
      have hcm := hR0.max
      clear hc
      go_wp2_with fail
      go_loopw [8] (fun i wr => ∃ m : Nat, m ≤ n' ∧ i = .int .i64 m ∧ noneTo es name k m ∧ ∃ p, wr = w.drewN p) (fun i _ => n' - (intOf i).toNat)
      case atStart => exact ⟨0, Nat.zero_le _, rfl, HT.out, _, rfl⟩
      case round =>
        obtain ⟨m, hm, rfl, hto, q, rfl⟩ := hrel
        have HT2 := Lib.hid hto
        clear hto
        by_cases hltm : m < n'
        · obtain ⟨b2, off2, rfl, hb2, hc2⟩ := hR0.at_ hltm
          have hcm2 := hc2 m hltm
          clear hc2
          have HN := Lib.hid fun h => noneTo_succ HT2.out h
          have HF := Lib.hid fun h => find_at hkl (show m < (csE es k).length by omega) HT2.out h
          rw [show (csE es k)[m]?.getD ByteArray.empty = ctAt es k m from rfl] at hcm2
          generalize ctAt es k m = x at hcm2 HN HF
          by_cases he : (x.toList == name.toList) = true
          · have HF := Lib.hid (HF.out he)
            go_wp2_with fail
            refine bodyPost_ret (v := ctorV (findE es name)) ?_ rfl ⟨rfl, ?_⟩
            · rw [HF.out]; simp [results, Tryd.results13, go_sem, ctorV]
            · exact below_drewN (Below.refl _ _) _
          · have he : (x.toList == name.toList) = false := by simpa using he
            have HN := Lib.hid (HN.out he)
            go_wp2_with fail
            go_roundw
            case rel => exact ⟨m + 1, by omega, by go_num, HN.out, _, rfl⟩
            case measure => simp [intOf]; omega
        · have HN := Lib.hid (noneTo_next HT2.out (by omega))
          go_wp2_with fail
          go_roundw
          case rel => exact ⟨k + 1, by omega, by go_num, HN.out, _, rfl⟩
          case measure => simp [intOf]; omega
    · have hkl : k = es.length := by omega
      have hno := HT.out
      rw [hkl] at hno
      have HF := Lib.hid (find_no hno)
      go_wp2_with fail
      refine bodyPost_ret (v := ctorV (findE es name)) ?_ rfl ⟨rfl, ?_⟩
      · rw [HF.out]; simp [results, Tryd.results13, go_sem, ctorV]
      · exact below_drewN (Below.refl _ _) _
end Go.Proofs.YtccpihpfpobjpaaDoor
