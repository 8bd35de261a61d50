/- A clock's row: of the program's text. Conditions: none. -/
import Derived.Test.YtapnodhgjfbjjaaGreatPhD
import Derived.Test.YtapnodhgjfbjjaaGreatPgU1
import Derived.Test.YtapnodhgjfbjjaaGreatSlR
namespace Go.Proofs.YtapnodhgjfbjjaaGreat
open Go.RowKit Go.Sort
set_option linter.unusedVariables false
set_option linter.unusedSimpArgs false

def lenV : Value → Nat
  | .slice _ n _ => n
  | _ => 0
theorem own_below {w w' : World} {base : Nat} {e : TypeId} {size n : Nat} {v : Value} {xs : List Value} (h : w.ownsRow base e size v n xs) (hb : Below w.heap.size w w') : w'.ownsRow base e size v n xs := by
  refine ⟨h.1, ?_⟩
  rcases h.2 with h2 | ⟨g, cap, cur, hv, hg, hh, hr⟩
  · exact .inl h2
  · exact .inr ⟨g, cap, cur, hv, hg, (hb.block g (Array.getElem?_eq_some_iff.1 hh).1).trans hh, hr⟩
theorem dc_lit (w : World) (d : Dc) : RdD (w.alloc (.cells (dcA d) 48)) (some ⟨w.heap.size, 0, none⟩) 1 [d] := by
  refine ⟨rfl, by omega, fun _ => ⟨w.heap.size, 0, rfl, by simp, fun i hi => ?_⟩⟩
  obtain rfl : i = 0 := by omega
  intro j v hv
  rw [show 0 + 0 * 6 + j = j by omega, World.cell?_alloc_new]
  have : (dcL d)[j]? = some v := by simpa using hv
  rw [← this]
  show (dcL d).toArray[j]? = _
  simp
theorem below_cell {n : Nat} {w w' : World} {p : Addr} {v : Value} (hb : Below n w w') (hp : p.block < n) (h : w.cell? p = some v) : w'.cell? p = some v := (hb.cell hp).trans h

set_option maxRecDepth 100000 in
set_option maxHeartbeats 8000000 in
theorem pgClock (x : Nd) (A1 : Option Addr) (c1 : Nat) (A2 : Option Addr) (c2 : Nat) (A3 : Option Addr) (c3 : Nat) (A4 : Option Addr) (c4 : Nat) (s : ByteArray) (w : World) (h : rdN w x A1 A2 A3 A4) :
    Calls Tryz.prog 12 #[.agg (ndA x A1 c1 A2 c2 A3 c3 A4 c4), .string s] w (ClockPost w (clockO x s)) := by
  have HF := Lib.hid fun w1 hw => nd_facts w x A1 c1 A2 c2 A3 c3 A4 c4 w1 hw h
  have HDC := Lib.hid fun t w1 (hw : rdN w1 x A1 A2 A3 A4) => pgDecl x A1 c1 A2 c2 A3 c3 A4 c4 t w1 hw
  obtain ⟨i0, z0, hi, hz1, hz0, hz2, hz3⟩ := info_three infoDecl
  have HOUT := Lib.hid (show clockR x 13 s [] = clockO x s from rfl)
  unfold ndA at HDC ⊢
  generalize clockO x s = out at *
  go_enter Tryz.func12, Tryz.ntmps12
  go_upto_region 1 with (fail)
  generalize hw1 : w.alloc _ = w1
  obtain ⟨hb1, hg, hR1, hcell⟩ := HF.out w1 hw1
  have HB1 := Lib.hid hb1
  have HC := Lib.hid hcell
  have HR1 := Lib.hid hR1
  have HOWN := Lib.hid (show w1.ownsRow w1.heap.size 48 6 (.slice none 0 0) 0 (flD []) from ⟨rfl, .inl ⟨rfl, rfl⟩⟩)
  simp only [ndA] at HC
  clear hw1 hcell hb1 HF h hR1
  go_wp2_with fail
  go_loopw [1, 6] (fun nm v wr => ∃ (k : Nat) (t : ByteArray) (row : List Dc), k ≤ 12 ∧ nm = .string t ∧ row.length = k ∧ wr.ownsRow w1.heap.size 48 6 v k (flD row) ∧ clockR x (13 - k) t row.reverse = out ∧ Below w1.heap.size w1 wr) (fun _ v _ => 13 - lenV v)
  case atStart => exact ⟨0, s, [], by omega, rfl, rfl, HOWN.out, HOUT.out, Below.refl _ _⟩
  case round =>
    obtain ⟨k, t, row, hk, rfl, hrl, hown, hcl, hnx⟩ := hrel
    obtain ⟨A0, c0, rfl, -⟩ := RdD.of_own hown (by omega)
    have HNX := Lib.hid hnx
    have HCL := Lib.hid hcl
    have HRL := Lib.hid hrl
    have HOW := Lib.hid hown
    have hz := hnx.size
    rw [hg] at hz
    have q0 := HC.out wr hnx 0
    have q1 := HC.out wr hnx 1
    have q2 := HC.out wr hnx 2
    have q3 := HC.out wr hnx 3
    have q4 := HC.out wr hnx 4
    simp only [List.getElem?_toArray, List.getElem?_cons_zero, List.getElem?_cons_succ] at q0 q1 q2 q3 q4
    have HD := Lib.hid (HDC.out t wr (HR1.out.below hnx))
    rw [show 13 - k = (12 - k) + 1 by omega, clockR_succ] at HCL
    clear hcl hnx hrl hown
    cases hd : declO x t with
    | none =>
      rw [hd] at HD HCL
      have HO := Lib.hid (show none = out from HCL.out)
      go_wp2_with fail
      refine HD.out.mono ?_
      rintro e w2 ⟨rfl, hb2⟩
      have HN3 := Lib.hid (show RowD (w2.alloc (.cells (dcA default) 48)) w2.heap.size default from heap_alloc_new _ _)
      have HB2 := Lib.hid (HNX.out.trans (hb2.mono HNX.out.size))
      have HB3 := Lib.hid (below_setRow ((HB2.out).alloc HB2.out.size (.cells (dcA default) 48)) (g := w2.heap.size) HB2.out.size (dcA default))
      unfold declV dcA
      unfold dcA at HN3 HB3
      simp only [Option.getD_none, Option.isSome_none]
      clear q0 q1 q2 q3 q4
      go_upto_region 3 with (refine wpList_store_row rfl _ _ _ rfl w2.heap.size _ rfl rfl _ _ HN3.out dcinfo rfl (by simp [Value.oneCell']) ?_)
      go_wp2_with fail
      refine bodyPost_ret (results_tmp2 rfl _ _ _) rfl ?_
      refine ⟨HB1.out.trans (HB3.out.mono (by omega)), ?_⟩
      rw [← HO.out]
      rfl
    | some d =>
      rw [hd] at HD HCL
      have HCL := Lib.hid (show (if noB d.on then some row.reverse else clockR x (12 - k) d.on (d :: row.reverse)) = out from HCL.out)
      go_wp2_with fail
      refine HD.out.mono ?_
      rintro e w2 ⟨rfl, hb2⟩
      have HN3 := Lib.hid (show RowD (w2.alloc (.cells (dcA default) 48)) w2.heap.size default from heap_alloc_new _ _)
      have HB2 := Lib.hid (HNX.out.trans (hb2.mono HNX.out.size))
      have hB3 := below_setRow ((HB2.out).alloc HB2.out.size (.cells (dcA default) 48)) (g := w2.heap.size) HB2.out.size (dcA d)
      have hN4 := HN3.out.set d
      have hW4 := below_setRow ((Below.refl w2.heap.size w2).alloc (Nat.le_refl _) (.cells (dcA default) 48)) (g := w2.heap.size) (Nat.le_refl _) (dcA d)
      have HZ2 := Lib.hid hb2.size
      have hWo := hb2.trans (hW4.mono hb2.size)
      have HRS := Lib.hid fun w4 (hw : (w2.alloc (.cells (dcA default) 48)).setRow w2.heap.size (dcA d) = w4) => (show RowD w4 w2.heap.size d ∧ Below w1.heap.size w1 w4 ∧ Below wr.heap.size wr w4 by subst hw; exact ⟨hN4, hB3, hWo⟩)
      unfold declV dcA
      unfold dcA at HN3
      simp only [Option.getD_some, Option.isSome_some]
      clear q0 q1 q2 q3 q4 hB3 hN4 hW4 hWo hb2
      go_upto_region 3 with (refine wpList_store_row rfl _ _ _ rfl w2.heap.size _ rfl rfl _ _ HN3.out dcinfo rfl (by simp [Value.oneCell']) ?_)
      generalize hw4 : World.setRow _ _ _ = w4
      obtain ⟨hN4, hB4, hWR4⟩ := HRS.out w4 hw4
      have HN4 := Lib.hid hN4
      have HB4 := Lib.hid hB4
      have HOW4 := Lib.hid (own_below HOW.out hWR4)
      have HGB := Lib.hid (show wr.heap.size ≤ w2.heap.size ∧ w2.heap.size < w4.heap.size from ⟨HZ2.out, (Array.getElem?_eq_some_iff.1 hN4).1⟩)
      generalize w2.heap.size = gb at *
      have r0 := hN4.cells 0
      have r1 := hN4.cells 1
      have r2 := hN4.cells 2
      have r3 := hN4.cells 3
      have r4 := hN4.cells 4
      have r5 := hN4.cells 5
      simp only [dcA, List.getElem?_toArray, List.getElem?_cons_zero, List.getElem?_cons_succ] at r0 r1 r2 r3 r4 r5
      clear hw4 HRS hN4 hB4 hWR4 HN3
      cases h1 : (d.on.toList == []) with
      | true =>
        have HO := Lib.hid (show some row.reverse = out by have h := HCL.out; rwa [show noB d.on = true by rw [Lib.toList_data] at h1; exact h1, if_pos rfl] at h)
        have HRV := Lib.hid (slRevD w1.heap.size k _ row w4 HOW4.out (by omega))
        go_wp2_with fail
        refine HRV.out.mono ?_
        rintro e w5 ⟨rfl, hb5, A, c, he, hrd⟩
        injection he with hA _ hc
        subst hA
        subst hc
        have HRD := Lib.hid hrd
        have HB5 := Lib.hid (HB4.out.trans hb5)
        clear hrd hb5
        go_wp2_with fail
        refine bodyPost_ret (results_tmp2 rfl _ _ _) rfl ?_
        refine ⟨HB1.out.trans (HB5.out.mono (by omega)), ?_⟩
        rw [← HO.out]
        exact ⟨A0, c0, by rw [List.length_reverse, HRL.out]; rfl, by rw [List.length_reverse, HRL.out]; exact HRD.out⟩
      | false =>
        have HO := Lib.hid (show clockR x (12 - k) d.on (d :: row.reverse) = out by have h := HCL.out; rwa [show noB d.on = false by rw [Lib.toList_data] at h1; exact h1, if_neg (by simp)] at h)
        by_cases h12 : k = 12
        · have HO := Lib.hid (show none = out by have h := HO.out; rwa [show 12 - k = 0 by omega] at h)
          have k12 : ((k : Int) == 12) = true := by rw [beq_iff_eq]; omega
          clear h12
          go_wp2_with fail
          refine bodyPost_ret (results_tmp2 rfl _ _ _) rfl ?_
          refine ⟨HB1.out.trans (HB4.out.mono (by omega)), ?_⟩
          rw [← HO.out]
          rfl
        · have HK := Lib.hid (show k < 12 by omega)
          have k12 : ((k : Int) == 12) = false := by rw [beq_eq_false_iff_ne]; omega
          have HO := Lib.hid (show clockR x (13 - (k + 1)) d.on (row ++ [d]).reverse = out by have h := HO.out; rwa [List.reverse_append, show 13 - (k + 1) = 12 - k by omega])
          have HLIT := Lib.hid (dc_lit w4 d)
          have HAL := Lib.hid ((Below.refl w4.heap.size w4).alloc (Nat.le_refl _) (.cells (dcA d) 48))
          have HOW5 := Lib.hid (own_below HOW4.out HAL.out)
          have HB5 := Lib.hid (HB4.out.trans (HAL.out.mono HB4.out.size))
          have H4 := Lib.hid ((HAL.out.cell (p := ⟨gb, 4, none⟩) HGB.out.2).trans r4)
          have HLT5 := Lib.hid (show gb < (w4.alloc (.cells (dcA d) 48)).heap.size by rw [World.size_alloc]; exact Nat.lt_succ_of_lt HGB.out.2)
          have HNE := Lib.hid (show (some gb : Option Nat) ≠ (Value.slice A0 k c0).ownBlock from fun e => by
            have h1 := (HOW.out.lt gb e.symm).2
            have h2 := HGB.out.1
            omega)
          unfold dcA at HLIT HAL HOW5 HB5 H4 HLT5
          clear h12
          go_wp2_with (at_builtin; refine wpList_append_dc rfl _ _ 33 rfl w1.heap.size 48 i0 z0 72 Tryz.underlying33 hi hz1 hz0 hz2 hz3 _ k row rfl HOW5.out _ 1 1 [d] rfl HLIT.out (by unfold maxLen; omega) (by omega) HB5.out.size ?_; intro v' w5 hown' hgrow; have hB6 := HB5.out.grown hgrow HB5.out.size (fun j hj => (HOW5.out.lt j hj).1); have HO6 := Lib.hid hown'; have HB6 := Lib.hid hB6; have s4 := (World.cell?_of_block (a := ⟨gb, 4, none⟩) (hgrow.block gb (HLT5.out) (HNE.out))).trans H4.out; clear hown' hgrow hB6)
          have hO6 := HO6.out
          obtain ⟨A9, c9, e9, -⟩ := RdD.of_own hO6 (by omega)
          subst e9
          have HO6 := Lib.hid hO6
          clear hO6
          go_wp2_with fail
          go_roundw
          case rel => exact ⟨k + 1, d.on, row ++ [d], (by have := HK.out; omega), rfl, by rw [List.length_append, HRL.out]; rfl, HO6.out, HO.out, HB6.out⟩
          case measure => have := HK.out; simp only [lenV]; omega
end Go.Proofs.YtapnodhgjfbjjaaGreat
