/- The walk of ValRight. Conditions: the powers of ten lie as laid. -/
import Derived.Test.YtdnmnfpcgbbplaaDoorVaL
namespace Go.Proofs.YtdnmnfpcgbbplaaDoor
open Go.RowKit
set_option linter.unusedVariables false

set_option maxRecDepth 100000 in
set_option maxHeartbeats 8000000 in
theorem walkRight (A : Option Addr) (n c : Nat) (es : List En) (k e l : Int) (B : Option Addr) (m d : Nat) (zs : List Int) (w : World) (hE : RdE w A n es) (hV : Rd .i64 w B m d zs) (hTab : Tab w) :
    Calls Tryd.prog 3 #[.slice A n c, tyV k e l, .slice B m d] w fun r w' => r = .returned (.bool true) ∧ Below w.heap.size w w' := by
  have HB := Lib.hid ((Below.refl w.heap.size w).alloc (Nat.le_refl _) (.cells #[.int .i64 k, .int .i64 e, .int .i64 l] 24))
  have H3 := Lib.hid (cell3 w 24 (.int .i64 k) (.int .i64 e) (.int .i64 l))
  have HE := Lib.hid hE
  have HV := Lib.hid hV
  have HTB := Lib.hid hTab
  have hmx := hV.max
  have HO1 := Lib.hid fun (z : Int) (W : World) (h1 : RdE W A n es) => valOne A n c es k e l z W h1
  have HO2 := Lib.hid fun (z : Int) (W : World) (h1 : RdE W A n es) => refValOne A n c es k e l z W h1
  have HC1 := Lib.hid fun (W : World) (h1 : RdE W A n es) (h2 : Rd .i64 W B m d zs) => valRight A n c es B m d zs k e l W h1 h2
  have HC2 := Lib.hid fun (W : World) (h1 : RdE W A n es) (h2 : Rd .i64 W B m d zs) => refValRight A n c es B m d zs k e l W h1 h2
  have HZ1 := Lib.hid fun (W : World) => (show Calls _ _ _ W (fun r w' => ∃ A c, r = .returned (.slice A (cellsN l).toNat c) ∧ Rd .i64 w' A (cellsN l).toNat c (zerosL l) ∧ Below W.heap.size W w') from valZero k e l W)
  have HZ2 := Lib.hid fun (W : World) => (show Calls _ _ _ W (fun r w' => ∃ A c, r = .returned (.slice A (cellsN l).toNat c) ∧ Rd .i64 w' A (cellsN l).toNat c (zerosL l) ∧ Below W.heap.size W w') from refZero k e l W)
  have HK1 := Lib.hid fun (W : World) => valKind k e l W
  have HK2 := Lib.hid fun (W : World) => refKind k e l W
  have HVZ := Lib.hid fun (A1 A2 : Option Addr) (n1 c1 c2 : Nat) (ss : List Int) (W : World) (h1 : Rd .i64 W A1 n1 c1 ss) (h2 : Rd .i64 W A2 n1 c2 ss) => (by have := refVals A1 A2 n1 n1 c1 c2 ss ss W h1 h2; rw [sameB_self] at this; exact this)
  have HVV := Lib.hid fun (A1 : Option Addr) (c1 : Nat) (W : World) (h1 : Rd .i64 W B m d zs) (h2 : Rd .i64 W A1 (cellsN l).toNat c1 (zerosL l)) => refVals B A1 m (cellsN l).toNat d c1 zs (zerosL l) W h1 h2
  have HSM := Lib.hid fun (A1 : Option Addr) (c1 : Nat) (W : World) (h1 : Rd .i64 W B m d zs) (h2 : Rd .i64 W A1 (cellsN l).toNat c1 (zerosL l)) => valSame B A1 m (cellsN l).toNat d c1 zs (zerosL l) W h1 h2
  clear hE hV hTab
  unfold tyV at HO1 HO2 HC1 HC2 HZ1 HZ2 HK1 HK2 ⊢
  generalize sameB zs (zerosL l) = bs at HVV HSM
  generalize zerosL l = zz at HZ1 HZ2 HVV HSM
  generalize (cellsN l).toNat = nz at HZ1 HZ2 HVV HSM
  generalize kindN k e = kk at HK1 HK2
  generalize rightVB es k e l zs = br at HC1 HC2
  have HZ3 := HZ1
  have HZ4 := HZ2
  go_enter Tryd.func3, Tryd.ntmps3
  go_wp2_with fail
  refine (refSmall A n c es _ (HE.out.below HB.out)).mono ?_
  rintro r w' ⟨b, rfl, ht, rfl⟩
  cases b with
  | false =>
    clear ht
    go_wp2_with fail
    refine (live_any _ (HTB.out.below HB.out)).mono ?_
    rintro r w1 ⟨rfl, hb1⟩
    have HB1 := Lib.hid (HB.out.trans (hb1.mono HB.out.size))
    clear hb1
    go_wp2_with fail
    go_ret
    exact ⟨rfl, HB1.out⟩
  | true =>
    have HT := Lib.hid (ht rfl)
    clear ht
    by_cases hn : 20 < m
    · go_wp2_with fail
      refine (live_any _ (HTB.out.below HB.out)).mono ?_
      rintro r w1 ⟨rfl, hb1⟩
      have HB1 := Lib.hid (HB.out.trans (hb1.mono HB.out.size))
      clear hb1
      go_wp2_with fail
      go_ret
      exact ⟨rfl, HB1.out⟩
    · have hd : decide ((20 : Int) < (m : Int)) = false := decide_eq_false (by omega)
      go_wp2_with fail
      go_loopw [7] (fun i wr => ∃ j : Nat, j ≤ m ∧ i = .int .i64 j ∧ Below w.heap.size w wr ∧ wr.cell? ⟨w.heap.size, 0, none⟩ = some (.int .i64 k) ∧ wr.cell? ⟨w.heap.size, 1, none⟩ = some (.int .i64 e) ∧ wr.cell? ⟨w.heap.size, 2, none⟩ = some (.int .i64 l)) (fun i _ => m - (intOf i).toNat)
      case atStart => exact ⟨0, Nat.zero_le _, rfl, HB.out, H3.out.1, H3.out.2.1, H3.out.2.2⟩
      case round =>
        obtain ⟨j, hj, rfl, hnx, q0, q1, q2⟩ := hrel
        have HNX := Lib.hid hnx
        have HBLq := Lib.hid (below_drewN hnx 1)
        by_cases hlt : j < m
        · obtain ⟨b, off, rfl, hb, hc⟩ := rd_cell HV.out hlt
          have q3 := (hnx.cell (p := ⟨b, off + j, none⟩) hb).trans hc
          clear hc hnx HC1 HC2 HZ1 HZ2 HZ3 HZ4 HK1 HK2 HVZ HVV HSM
          generalize zs[j]?.getD 0 = x at q3
          have HP1 := Lib.hid (HO1.out x)
          have HP2 := Lib.hid (HO2.out x)
          clear HO1 HO2
          generalize oneB es k e l x = bx at HP1 HP2
          have hne : (bx != bx) = false := by simp
          go_wp2_with fail
          go_region_held3 (fun W => W.cell? ⟨w.heap.size, 0, none⟩ = some (.int .i64 k) ∧ W.cell? ⟨w.heap.size, 1, none⟩ = some (.int .i64 e) ∧ W.cell? ⟨w.heap.size, 2, none⟩ = some (.int .i64 l) ∧ W.cell? ⟨b, off + j, none⟩ = some (.int .i64 x)) (first | exact ⟨q0, q1, q2, q3⟩ | exact ⟨a0, a1, a2, a3⟩ | exact ⟨b0, b1, b2, b3⟩)
            ((first
              | (go_at_call 8; refine (HP1.out _ (HE.out.below HBLq.out)).mono ?_; rintro r Wa ⟨rfl, hba⟩; have a0 := (hba.cell (p := ⟨w.heap.size, 0, none⟩) (World.block_lt_of_cell? _ _ q0)).trans q0; have a1 := (hba.cell (p := ⟨w.heap.size, 1, none⟩) (World.block_lt_of_cell? _ _ q1)).trans q1; have a2 := (hba.cell (p := ⟨w.heap.size, 2, none⟩) (World.block_lt_of_cell? _ _ q2)).trans q2; have a3 := (hba.cell (p := ⟨b, off + j, none⟩) (World.block_lt_of_cell? _ _ q3)).trans q3; have HBLa := Lib.hid (HBLq.out.trans (hba.mono HBLq.out.size)); clear hba)
              | (go_at_call 9; refine (HP2.out _ (HE.out.below HBLa.out)).mono ?_; rintro r Wb ⟨rfl, hbb⟩; have b0 := (hbb.cell (p := ⟨w.heap.size, 0, none⟩) (World.block_lt_of_cell? _ _ a0)).trans a0; have b1 := (hbb.cell (p := ⟨w.heap.size, 1, none⟩) (World.block_lt_of_cell? _ _ a1)).trans a1; have b2 := (hbb.cell (p := ⟨w.heap.size, 2, none⟩) (World.block_lt_of_cell? _ _ a2)).trans a2; have b3 := (hbb.cell (p := ⟨b, off + j, none⟩) (World.block_lt_of_cell? _ _ a3)).trans a3; have HBLb := Lib.hid (HBLa.out.trans (hbb.mono HBLa.out.size)); clear hbb)))
          go_wp2_with fail
          go_roundw
          case rel => exact ⟨j + 1, by omega, by go_num, HBLb.out, b0, b1, b2⟩
          case measure => simp [intOf]; omega
        · clear hnx HO1 HO2
          have n1 : (br == br) = true := by simp
          have n2 : (kk == kk) = true := by simp
          have n3 : (bs == bs) = true := by simp
          go_wp2_with fail
          go_region_held3 (fun W => W.cell? ⟨w.heap.size, 0, none⟩ = some (.int .i64 k) ∧ W.cell? ⟨w.heap.size, 1, none⟩ = some (.int .i64 e) ∧ W.cell? ⟨w.heap.size, 2, none⟩ = some (.int .i64 l)) (first | exact ⟨q0, q1, q2⟩ | exact ⟨a0, a1, a2⟩ | exact ⟨b0, b1, b2⟩ | exact ⟨c0, c1, c2⟩ | exact ⟨d0, d1, d2⟩ | exact ⟨f0, f1, f2⟩ | exact ⟨g0, g1, g2⟩ | exact ⟨h0, h1, h2⟩ | exact ⟨i0, i1, i2⟩ | exact ⟨j0, j1, j2⟩ | exact ⟨u0, u1, u2⟩ | exact ⟨v0, v1, v2⟩ | exact ⟨y0, y1, y2⟩)
            ((first
              | (go_at_call 10; refine (HC1.out _ (HE.out.below HBLq.out) (HV.out.below HBLq.out)).mono ?_; rintro r Wa ⟨rfl, hba⟩; have a0 := (hba.cell (p := ⟨w.heap.size, 0, none⟩) (World.block_lt_of_cell? _ _ q0)).trans q0; have a1 := (hba.cell (p := ⟨w.heap.size, 1, none⟩) (World.block_lt_of_cell? _ _ q1)).trans q1; have a2 := (hba.cell (p := ⟨w.heap.size, 2, none⟩) (World.block_lt_of_cell? _ _ q2)).trans q2; have HBLa := Lib.hid (HBLq.out.trans (hba.mono HBLq.out.size)); clear hba)
              | (go_at_call 11; refine (HC2.out _ (HE.out.below HBLa.out) (HV.out.below HBLa.out)).mono ?_; rintro r Wb ⟨rfl, hbb⟩; have b0 := (hbb.cell (p := ⟨w.heap.size, 0, none⟩) (World.block_lt_of_cell? _ _ a0)).trans a0; have b1 := (hbb.cell (p := ⟨w.heap.size, 1, none⟩) (World.block_lt_of_cell? _ _ a1)).trans a1; have b2 := (hbb.cell (p := ⟨w.heap.size, 2, none⟩) (World.block_lt_of_cell? _ _ a2)).trans a2; have HBLb := Lib.hid (HBLa.out.trans (hbb.mono HBLa.out.size)); clear hbb)
              | (go_at_call 13; refine (HZ1.out _).mono ?_; clear HZ1; rintro r Wc ⟨A1, sz1, rfl, hR1, hbc⟩; have c0 := (hbc.cell (p := ⟨w.heap.size, 0, none⟩) (World.block_lt_of_cell? _ _ b0)).trans b0; have c1 := (hbc.cell (p := ⟨w.heap.size, 1, none⟩) (World.block_lt_of_cell? _ _ b1)).trans b1; have c2 := (hbc.cell (p := ⟨w.heap.size, 2, none⟩) (World.block_lt_of_cell? _ _ b2)).trans b2; have HBLc := Lib.hid (HBLb.out.trans (hbc.mono HBLb.out.size)); have HR1 := Lib.hid hR1; clear hR1; clear hbc)
              | (go_at_call 14; refine (HZ2.out _).mono ?_; clear HZ2; rintro r Wd ⟨A2, sz2, rfl, hR2, hbd⟩; have d0 := (hbd.cell (p := ⟨w.heap.size, 0, none⟩) (World.block_lt_of_cell? _ _ c0)).trans c0; have d1 := (hbd.cell (p := ⟨w.heap.size, 1, none⟩) (World.block_lt_of_cell? _ _ c1)).trans c1; have d2 := (hbd.cell (p := ⟨w.heap.size, 2, none⟩) (World.block_lt_of_cell? _ _ c2)).trans c2; have HBLd := Lib.hid (HBLc.out.trans (hbd.mono HBLc.out.size)); have HR2 := Lib.hid hR2; have HR1 := Lib.hid (HR1.out.below hbd); clear hR2; clear hbd)
              | (go_at_call 12; refine (HVZ.out A1 A2 _ sz1 sz2 _ _ HR1.out HR2.out).mono ?_; clear HVZ; rintro r Wf ⟨rfl, hbf⟩; have f0 := (hbf.cell (p := ⟨w.heap.size, 0, none⟩) (World.block_lt_of_cell? _ _ d0)).trans d0; have f1 := (hbf.cell (p := ⟨w.heap.size, 1, none⟩) (World.block_lt_of_cell? _ _ d1)).trans d1; have f2 := (hbf.cell (p := ⟨w.heap.size, 2, none⟩) (World.block_lt_of_cell? _ _ d2)).trans d2; have HBLf := Lib.hid (HBLd.out.trans (hbf.mono HBLd.out.size)); clear hbf)
              | (go_at_call 15; refine (HK1.out _).mono ?_; rintro r Wg ⟨rfl, hbg⟩; have g0 := (hbg.cell (p := ⟨w.heap.size, 0, none⟩) (World.block_lt_of_cell? _ _ f0)).trans f0; have g1 := (hbg.cell (p := ⟨w.heap.size, 1, none⟩) (World.block_lt_of_cell? _ _ f1)).trans f1; have g2 := (hbg.cell (p := ⟨w.heap.size, 2, none⟩) (World.block_lt_of_cell? _ _ f2)).trans f2; have HBLg := Lib.hid (HBLf.out.trans (hbg.mono HBLf.out.size)); clear hbg)
              | (go_at_call 16; refine (HK2.out _).mono ?_; rintro r Wh ⟨rfl, hbh⟩; have h0 := (hbh.cell (p := ⟨w.heap.size, 0, none⟩) (World.block_lt_of_cell? _ _ g0)).trans g0; have h1 := (hbh.cell (p := ⟨w.heap.size, 1, none⟩) (World.block_lt_of_cell? _ _ g1)).trans g1; have h2 := (hbh.cell (p := ⟨w.heap.size, 2, none⟩) (World.block_lt_of_cell? _ _ g2)).trans g2; have HBLh := Lib.hid (HBLg.out.trans (hbh.mono HBLg.out.size)); clear hbh)
              | (go_at_call 13; refine (HZ3.out _).mono ?_; clear HZ3; rintro r Wi ⟨A3, sz3, rfl, hR3, hbi⟩; have i0 := (hbi.cell (p := ⟨w.heap.size, 0, none⟩) (World.block_lt_of_cell? _ _ h0)).trans h0; have i1 := (hbi.cell (p := ⟨w.heap.size, 1, none⟩) (World.block_lt_of_cell? _ _ h1)).trans h1; have i2 := (hbi.cell (p := ⟨w.heap.size, 2, none⟩) (World.block_lt_of_cell? _ _ h2)).trans h2; have HBLi := Lib.hid (HBLh.out.trans (hbi.mono HBLh.out.size)); have HR3 := Lib.hid hR3; clear hR3; clear hbi)
              | (go_at_call 17; refine (HSM.out A3 sz3 _ (HV.out.below HBLi.out) HR3.out).mono ?_; clear HSM; rintro r Wj ⟨rfl, hbj⟩; have j0 := (hbj.cell (p := ⟨w.heap.size, 0, none⟩) (World.block_lt_of_cell? _ _ i0)).trans i0; have j1 := (hbj.cell (p := ⟨w.heap.size, 1, none⟩) (World.block_lt_of_cell? _ _ i1)).trans i1; have j2 := (hbj.cell (p := ⟨w.heap.size, 2, none⟩) (World.block_lt_of_cell? _ _ i2)).trans i2; have HBLj := Lib.hid (HBLi.out.trans (hbj.mono HBLi.out.size)); clear hbj)
              | (go_at_call 14; refine (HZ4.out _).mono ?_; clear HZ4; rintro r Wu ⟨A4, sz4, rfl, hR4, hbu⟩; have u0 := (hbu.cell (p := ⟨w.heap.size, 0, none⟩) (World.block_lt_of_cell? _ _ j0)).trans j0; have u1 := (hbu.cell (p := ⟨w.heap.size, 1, none⟩) (World.block_lt_of_cell? _ _ j1)).trans j1; have u2 := (hbu.cell (p := ⟨w.heap.size, 2, none⟩) (World.block_lt_of_cell? _ _ j2)).trans j2; have HBLu := Lib.hid (HBLj.out.trans (hbu.mono HBLj.out.size)); have HR4 := Lib.hid hR4; clear hR4; clear hbu)
              | (go_at_call 12; refine (HVV.out A4 sz4 _ (HV.out.below HBLu.out) HR4.out).mono ?_; clear HVV; rintro r Wv ⟨rfl, hbv⟩; have v0 := (hbv.cell (p := ⟨w.heap.size, 0, none⟩) (World.block_lt_of_cell? _ _ u0)).trans u0; have v1 := (hbv.cell (p := ⟨w.heap.size, 1, none⟩) (World.block_lt_of_cell? _ _ u1)).trans u1; have v2 := (hbv.cell (p := ⟨w.heap.size, 2, none⟩) (World.block_lt_of_cell? _ _ u2)).trans u2; have HBLv := Lib.hid (HBLu.out.trans (hbv.mono HBLu.out.size)); clear hbv)
              | (go_at_call 7; refine (live_any _ (HTB.out.below HBLv.out)).mono ?_; rintro r Wy ⟨rfl, hby⟩; have y0 := (hby.cell (p := ⟨w.heap.size, 0, none⟩) (World.block_lt_of_cell? _ _ v0)).trans v0; have y1 := (hby.cell (p := ⟨w.heap.size, 1, none⟩) (World.block_lt_of_cell? _ _ v1)).trans v1; have y2 := (hby.cell (p := ⟨w.heap.size, 2, none⟩) (World.block_lt_of_cell? _ _ v2)).trans v2; have HBLy := Lib.hid (HBLv.out.trans (hby.mono HBLv.out.size)); clear hby)))
          go_wp2_with fail
          go_ret
          exact ⟨rfl, HBLy.out⟩
end Go.Proofs.YtdnmnfpcgbbplaaDoor
