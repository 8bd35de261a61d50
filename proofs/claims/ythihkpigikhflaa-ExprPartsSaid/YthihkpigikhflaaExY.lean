/- An expression's variables, of the document's text. Conditions: none. -/
import Derived.Test.YthihkpigikhflaaExV
namespace Go.Proofs.Ythihkpigikhflaa
open Go.RowKit Go.Sort
set_option linter.unusedVariables false

def varsTo (l : List Ex) (k : Nat) : List ByteArray := ((l.take k).filter isVar).map Ex.s
theorem varsTo_yes {l : List Ex} {k : Nat} (hk : k < l.length) (h : isVar (l[k]?.getD default) = true) : varsTo l (k + 1) = varsTo l k ++ [(l[k]?.getD default).s] := by
  rw [List.getElem?_eq_getElem hk] at h ⊢
  simp only [varsTo, List.take_succ_eq_append_getElem hk, List.filter_append, List.map_append]
  simp only [Option.getD_some] at h ⊢
  simp [h]
theorem varsTo_no {l : List Ex} {k : Nat} (hk : k < l.length) (h : isVar (l[k]?.getD default) = false) : varsTo l (k + 1) = varsTo l k := by
  rw [List.getElem?_eq_getElem hk] at h
  simp only [varsTo, List.take_succ_eq_append_getElem hk, List.filter_append, List.map_append]
  simp only [Option.getD_some] at h
  simp [h]
theorem varsTo_len (l : List Ex) (k : Nat) : (varsTo l k).length ≤ k := by
  simp only [varsTo, List.length_map]
  exact Nat.le_trans (List.length_filter_le _ _) (by simp; omega)
theorem varsTo_end (l : List Ex) (k : Nat) (h : l.length ≤ k) : varsTo l k = (l.filter isVar).map Ex.s := by rw [varsTo, List.take_of_length_le h]

set_option maxRecDepth 100000 in
set_option maxHeartbeats 8000000 in
theorem refVars (x : Ex) (A : Option Addr) (ca : Nat) (B : Option Addr) (cb : Nat) (w : World) (hr : rdX w x A B) (hs : sizeX x ≤ 1000000) :
    Calls Try.prog 19 #[.agg (exA x A ca B cb)] w fun e w' => (∃ A2 c2, e = .returned (.slice A2 (varsX x).length c2) ∧ RdT w' A2 (varsX x).length (varsX x)) ∧ Below w.heap.size w w' := by
  obtain ⟨i0, hi, hz0, hz1, hz2⟩ := info_parts infoString
  have HF := Lib.hid fun w1 h => box_facts w x A ca B cb w1 h hr
  have HPT := Lib.hid fun w1 (h : Below w.heap.size w w1) => refParts x A ca B cb w w1 hr h hs
  have HLN := Lib.hid (partsX_len x)
  have HVX := Lib.hid (show varsX x = ((partsX x).filter isVar).map Ex.s from rfl)
  clear hr
  unfold exA at HF HPT ⊢
  generalize varsX x = vx at *
  go_enter Try.func19, Try.ntmps19
  go_upto_region 1 with (fail)
  generalize hw1 : w.alloc _ = w1
  obtain ⟨hb1, hg, hr1, hcell⟩ := HF.out w1 hw1
  have HB1 := Lib.hid hb1
  have HC := Lib.hid hcell
  clear hcell hb1 hr1 hw1 HF
  have HL0 := Lib.hid (World.ownsRow_lit (base := w1.heap.size) (e := 9) (size := 1) w1 #[] 0 (Nat.le_refl _) (by decide) rfl)
  have HA0 := Lib.hid ((Below.refl w1.heap.size w1).alloc (Nat.le_refl _) (.cells #[] 9))
  go_upto_region 2 with (fail)
  have hws : (w1.alloc (.cells #[] 9)).heap.size = w1.heap.size + 1 := by simp
  generalize w1.alloc _ = w2 at *
  have HB2 := Lib.hid (HB1.out.trans (HA0.out.mono HB1.out.size))
  have q0 := HC.out w2 HA0.out 0
  have q1 := HC.out w2 HA0.out 1
  have q2 := HC.out w2 HA0.out 2
  have q3 := HC.out w2 HA0.out 3
  have q4 := HC.out w2 HA0.out 4
  have q5 := HC.out w2 HA0.out 5
  go_wp2_with fail
  refine (HPT.out w2 HB2.out).mono ?_
  rintro r w3 ⟨A2, c2, cs2, rfl, hcel, hfl2, hb, g2, rfl, hg2⟩
  have HB3 := Lib.hid (HB2.out.trans (hb.mono HB2.out.size))
  have HRX := Lib.hid (hcel.rd hfl2 HB3.out)
  have HW3 := Lib.hid (HA0.out.trans (hb.mono HA0.out.size))
  have HO3 := Lib.hid (own_belowX HL0.out hb)
  have hs23 := hb.size
  clear hcel hfl2 hb q0 q1 q2 q3 q4 q5 HPT HL0
  generalize partsX x = l at *
  generalize sizeX x = n at *
  go_wp2_with fail
  go_loopw [3, 5] (fun v i wr => ∃ k : Nat, k ≤ n ∧ i = .int .i64 k ∧ wr.ownsRow w1.heap.size 9 1 v (varsTo l k).length ((varsTo l k).map Value.string) ∧ (∀ g, v.ownBlock = some g → g ≠ g2) ∧ wr.heap[g2]? = w3.heap[g2]? ∧ w3.heap.size ≤ wr.heap.size ∧ Below w1.heap.size w1 wr) (fun _ i _ => n - (intOf i).toNat)
  case atStart =>
    refine ⟨0, Nat.zero_le _, rfl, HO3.out, fun g hg => ?_, rfl, Nat.le_refl _, HW3.out⟩
    simp only [Value.ownBlock, Option.some.injEq] at hg
    omega
  case round =>
    obtain ⟨k, hk, rfl, hrow, hap, hbl, hsz, hbw⟩ := hrel
    have HRW := Lib.hid hrow
    have HAP := Lib.hid hap
    have HBL := Lib.hid hbl
    have HBW := Lib.hid hbw
    have hbs := hbw.size
    have hvl := varsTo_len l k
    by_cases hlt : k < n
    · obtain ⟨b, off, hbo, hb, hat⟩ := HRX.out.at_ hlt
      injection hbo with hbo
      injection hbo with hbo1 hbo2
      subst hbo1 hbo2
      obtain ⟨A', ca', B', cb', hrg, hrd⟩ := hat k hlt
      obtain ⟨d0, d1, d2, d3, d4, d5⟩ := rangeAt_six hrg
      have c0 := (World.cell?_of_block (a := ⟨g2, 0 + k * 6, none⟩) hbl).trans d0
      have c2 := (World.cell?_of_block (a := ⟨g2, 0 + k * 6 + 2, none⟩) hbl).trans d2
      rw [Nat.zero_add] at c0 c2
      have HK := Lib.hid (show k < l.length by rw [HLN.out]; exact hlt)
      have HY := Lib.hid fun h => varsTo_yes (l := l) (k := k) HK.out h
      have HNO := Lib.hid fun h => varsTo_no (l := l) (k := k) HK.out h
      have hb2 : g2 < wr.heap.size := by omega
      clear hat hrg hbw hrow hap hbl d0 d1 d2 d3 d4 d5 hrd
      generalize l[k]?.getD default = p at *
      have HP := Lib.hid (show isVar p = ((p.k == 3) || (p.k == 11) || (p.k == 12)) from rfl)
      generalize p.k = z at *
      generalize p.s = s at *
      by_cases h3 : z = 3
      · subst h3
        have HN := Lib.hid (HY.out (by rw [HP.out]; simp))
        go_wp2_with (first | (at_builtin; refine wpList_append_own_at _ rfl _ _ 22 rfl w1.heap.size 9 i0 (.string ByteArray.empty) 1 16 Try.underlying22 hi hz0 hz1 hz2 rfl (by decide) _ _ _ rfl (HRW.out.alloc _) ⟨wr.heap.size, 0, none⟩ 1 1 [.string s] rfl rfl (cell_one_new _ _ _) (string_cells [s]) (by unfold maxLen; omega) (by omega) (by simp; omega) ?_; intro v' w4 hown' hgrow hnil hloc))
        have HB4 := Lib.hid ((HBW.out.alloc hbs (.cells #[.string s] 9)).grown hgrow (by simp; omega) (fun j hj => (HRW.out.lt j hj).1))
        have hgs := hgrow.size
        simp only [World.size_alloc] at hgs
        have HG2 := Lib.hid ((hgrow.block g2 (by simp; omega) (fun e => HAP.out g2 e.symm rfl)).trans ((((Below.refl wr.heap.size wr).alloc (Nat.le_refl _) (.cells #[.string s] 9)).block g2 hb2).trans HBL.out))
        have HOW := Lib.hid hown'
        have HLO := Lib.hid hloc
        clear hgrow hnil hown' hloc
        go_roundw
        case rel =>
          refine ⟨k + 1, by omega, by go_num, ?_, fun g hg => ?_, HG2.out, by omega, HB4.out⟩
          · rw [HN.out, List.map_append, List.length_append]
            exact HOW.out
          · rcases HLO.out with h | h
            · rw [h] at hg
              exact HAP.out g hg
            · rw [h] at hg
              simp only [World.size_alloc, Option.some.injEq] at hg
              omega
        case measure => simp [intOf]; omega
      · have e3 : (z == 3) = false := by simpa using h3
        by_cases h11 : z = 11
        · subst h11
          have HN := Lib.hid (HY.out (by rw [HP.out]; simp))
          go_wp2_with (first | (at_builtin; refine wpList_append_own_at _ rfl _ _ 22 rfl w1.heap.size 9 i0 (.string ByteArray.empty) 1 16 Try.underlying22 hi hz0 hz1 hz2 rfl (by decide) _ _ _ rfl (HRW.out.alloc _) ⟨wr.heap.size, 0, none⟩ 1 1 [.string s] rfl rfl (cell_one_new _ _ _) (string_cells [s]) (by unfold maxLen; omega) (by omega) (by simp; omega) ?_; intro v' w4 hown' hgrow hnil hloc))
          have HB4 := Lib.hid ((HBW.out.alloc hbs (.cells #[.string s] 9)).grown hgrow (by simp; omega) (fun j hj => (HRW.out.lt j hj).1))
          have hgs := hgrow.size
          simp only [World.size_alloc] at hgs
          have HG2 := Lib.hid ((hgrow.block g2 (by simp; omega) (fun e => HAP.out g2 e.symm rfl)).trans ((((Below.refl wr.heap.size wr).alloc (Nat.le_refl _) (.cells #[.string s] 9)).block g2 hb2).trans HBL.out))
          have HOW := Lib.hid hown'
          have HLO := Lib.hid hloc
          clear hgrow hnil hown' hloc
          go_roundw
          case rel =>
            refine ⟨k + 1, by omega, by go_num, ?_, fun g hg => ?_, HG2.out, by omega, HB4.out⟩
            · rw [HN.out, List.map_append, List.length_append]
              exact HOW.out
            · rcases HLO.out with h | h
              · rw [h] at hg
                exact HAP.out g hg
              · rw [h] at hg
                simp only [World.size_alloc, Option.some.injEq] at hg
                omega
          case measure => simp [intOf]; omega
        · have e11 : (z == 11) = false := by simpa using h11
          by_cases h12 : z = 12
          · subst h12
            have HN := Lib.hid (HY.out (by rw [HP.out]; simp))
            go_wp2_with (first | (at_builtin; refine wpList_append_own_at _ rfl _ _ 22 rfl w1.heap.size 9 i0 (.string ByteArray.empty) 1 16 Try.underlying22 hi hz0 hz1 hz2 rfl (by decide) _ _ _ rfl (HRW.out.alloc _) ⟨wr.heap.size, 0, none⟩ 1 1 [.string s] rfl rfl (cell_one_new _ _ _) (string_cells [s]) (by unfold maxLen; omega) (by omega) (by simp; omega) ?_; intro v' w4 hown' hgrow hnil hloc))
            have HB4 := Lib.hid ((HBW.out.alloc hbs (.cells #[.string s] 9)).grown hgrow (by simp; omega) (fun j hj => (HRW.out.lt j hj).1))
            have hgs := hgrow.size
            simp only [World.size_alloc] at hgs
            have HG2 := Lib.hid ((hgrow.block g2 (by simp; omega) (fun e => HAP.out g2 e.symm rfl)).trans ((((Below.refl wr.heap.size wr).alloc (Nat.le_refl _) (.cells #[.string s] 9)).block g2 hb2).trans HBL.out))
            have HOW := Lib.hid hown'
            have HLO := Lib.hid hloc
            clear hgrow hnil hown' hloc
            go_roundw
            case rel =>
              refine ⟨k + 1, by omega, by go_num, ?_, fun g hg => ?_, HG2.out, by omega, HB4.out⟩
              · rw [HN.out, List.map_append, List.length_append]
                exact HOW.out
              · rcases HLO.out with h | h
                · rw [h] at hg
                  exact HAP.out g hg
                · rw [h] at hg
                  simp only [World.size_alloc, Option.some.injEq] at hg
                  omega
            case measure => simp [intOf]; omega
          · have e12 : (z == 12) = false := by simpa using h12
            have HN := Lib.hid (HNO.out (by rw [HP.out, e3, e11, e12]; rfl))
            go_wp2_with fail
            go_roundw
            case rel =>
              refine ⟨k + 1, by omega, by go_num, ?_, HAP.out, HBL.out, by omega, HBW.out⟩
              rw [HN.out]
              exact HRW.out
            case measure => simp [intOf]; omega
    · have HE := Lib.hid (varsTo_end l k (by rw [HLN.out]; omega))
      have hE : varsTo l k = vx := HE.out.trans HVX.out.symm
      rw [hE] at HRW hvl
      obtain ⟨A4, c4, rfl, hR4, _⟩ := RdT.of_own HRW.out (by omega)
      have HR4 := Lib.hid hR4
      clear hR4 hE hrow
      go_wp2_with fail
      go_ret
      exact ⟨⟨A4, c4, rfl, HR4.out⟩, HB1.out.trans (HBW.out.mono HB1.out.size)⟩
end Go.Proofs.Ythihkpigikhflaa
