/- The walk of ReaderBack. Conditions: none. -/
import Derived.Test.YtjihgpjpmfeakaaBkA
import Derived.Deep.DeepCutAuto
namespace Go.Proofs.Ytjihgpjpmfeakaa
open Go.RowKit
set_option linter.unusedVariables false

theorem back_bound {f : Nat → Pc} {LA : Option Addr} {ln lc : Nat} {w : World} (h : Pcs w LA ln lc f) : ∀ i, i < ln → I64 (f i).i := fun i hi => by
  obtain ⟨b, off, _, _, hc⟩ := h.2.2 (by omega)
  exact (hc i hi).2.2.1

set_option maxRecDepth 100000 in
set_option maxHeartbeats 3200000 in
theorem walkBack (LA : Option Addr) (ln lc : Nat) (f : Nat → Pc) (w : World) (hp : Pcs w LA ln lc f) :
    Calls Try.prog 5 #[.slice LA ln lc] w fun e w' => e = .returned (.bool true) ∧ Below w.heap.size w w' := by
  by_cases hl : 40 < ln
  · clear hp
    go_enter Try.func5, Try.ntmps5
    go_wp2_with fail
    refine (live_any _).mono ?_
    rintro e w' ⟨rfl, hb⟩
    go_wp2_with fail
    go_ret
    exact ⟨rfl, hb⟩
  have HP := Lib.hid hp
  have HF := Lib.hid (back_bound hp)
  clear hp
  go_enter Try.func5, Try.ntmps5
  go_wp2_with fail
  refine (wrNew _).mono ?_
  rintro e w1 ⟨rfl, hat1, hbel1⟩
  have HSo0 := Lib.hid (show Solo w1 w.heap.size w.heap.size (wAll f 0) none from ⟨hat1, fun e => by cases e⟩)
  have HB1 := Lib.hid hbel1
  clear hat1 hbel1
  generalize hbB : w.heap.size = B at *
  go_wp2_with fail
  go_loopw [4] (fun i wr => ∃ (k : Nat) (g : Option Nat), k ≤ ln ∧ i = .int .i64 k ∧ Solo wr B B (wAll f k) g ∧ Short (wAll f k) (k * 70004) ∧ Below B w wr) (fun i _ => ln - (intOf i).toNat)
  case atStart => exact ⟨0, none, Nat.zero_le _, rfl, HSo0.out, (fun l e => by injection e with e; subst e; simp), HB1.out⟩
  case round =>
    obtain ⟨k, g, hk, rfl, hso, hshort, hbel⟩ := hrel
    clear HSo0 HB1
    have HSo := Lib.hid hso
    have HS := Lib.hid hshort
    have HB := Lib.hid hbel
    clear hso hshort hbel
    by_cases hlt : k < ln
    · obtain ⟨lb, off, rfl, hlb, hcs⟩ := HP.out.2.2 (by omega)
      obtain ⟨⟨c0', c1', c2', c3', c4'⟩, hin, hii, hss⟩ := hcs k hlt
      have hlb' : lb < B := by omega
      have c0 := (HB.out.cell (p := ⟨lb, off + k * 5, none⟩) hlb').trans c0'
      have c1 := (HB.out.cell (p := ⟨lb, off + k * 5 + 1, none⟩) hlb').trans c1'
      have c2 := (HB.out.cell (p := ⟨lb, off + k * 5 + 2, none⟩) hlb').trans c2'
      have c3 := (HB.out.cell (p := ⟨lb, off + k * 5 + 3, none⟩) hlb').trans c3'
      have c4 := (HB.out.cell (p := ⟨lb, off + k * 5 + 4, none⟩) hlb').trans c4'
      have HIn := Lib.hid (And.intro hin hii)
      have hB0 : B < wr.heap.size := HSo.out.wr.lt
      have HSx := Lib.hid (HSo.out.below ((Below.refl _ _).alloc (Nat.le_refl _) (pcRow (f k))))
      have HBx := Lib.hid (HB.out.alloc (Nat.le_of_lt hB0) (pcRow (f k)))
      have hX := XAt.new wr (f k)
      have hgx1 : Hid (some wr.heap.size ≠ g) := Lib.hid fun e => by have := (HSo.out.glt _ e.symm).2; omega
      clear hcs c0' c1' c2' c3' c4' hin hii
      go_upto_region 8 with (fail)
      clear c0 c1 c2 c3 c4 HSo HB
      change Code.wp _ _ _ _ (wr.alloc (pcRow (f k)))
      have hLx : B < (wr.alloc (pcRow (f k))).heap.size := Nat.lt_trans hB0 hX.1
      have hxB : wr.heap.size ≠ B := by omega
      generalize wr.alloc (pcRow (f k)) = wx at *
      generalize wr.heap.size = xb at *
      have hLx' : B ≤ wx.heap.size := Nat.le_of_lt hLx
      obtain ⟨_, x0, x1, x2, x3, x4⟩ := hX
      by_cases h1 : 1000 < (f k).s.size
      · have d1 : decide (1000 < ((f k).s.size : Int)) = true := by simp; omega
        go_wp2_with fail
        refine (live_any _).mono ?_
        rintro e w' ⟨rfl, hb⟩
        have HB3 := Lib.hid (HBx.out.trans (hb.mono hLx'))
        clear hb
        go_wp2_with fail
        go_ret
        exact ⟨rfl, hbB ▸ HB3.out⟩
      · have d1 : decide (1000 < ((f k).s.size : Int)) = false := by simp; omega
        by_cases hd0 : (f k).d = 0
        · have hwp : wPc (wAll f k) (f k) = wNum (wAll f k) (f k).n (f k).z := if_pos hd0
          have hd : ((f k).d == 0) = true := by simpa using hd0
          have HC1 := Lib.hid (wrNum B B (wAll f k) g (f k).n (f k).z (k * 70004) wx HSx.out.wr HS.out (by omega) hLx')
          have HS2 := Lib.hid (show Short (wPc (wAll f k) (f k)) ((k + 1) * 70004) from (HS.out.pc (f k) (by omega)).more (by omega))
          rw [← hwp] at HC1
          clear hwp
          go_wp2_with fail
          refine HC1.out.mono ?_
          intro e W1 hw1
          have HW1 := Lib.hid hw1
          obtain rfl := hw1.1
          obtain ⟨g', hso1⟩ := Solo.next HW1.out
          have HSo1 := Lib.hid hso1
          have HB1 := Lib.hid (HSx.out.under HBx.out (Nat.le_refl _) hLx' HW1.out)
          clear hw1 hso1 HC1 HW1
          go_wp2_with fail
          go_roundw
          case rel => exact ⟨k + 1, g', by omega, by go_num, HSo1.out, HS2.out, HB1.out⟩
          case measure => simp [intOf]; omega
        · have hd : ((f k).d == 0) = false := by simpa using hd0
          by_cases hd1 : (f k).d = 1
          · have hwp : wPc (wAll f k) (f k) = wCount (wAll f k) (intL (f k).i) 1 := by unfold wPc; rw [if_neg hd0, if_pos hd1]
            have hdd : ((f k).d == 1) = true := by simpa using hd1
            have HC1 := Lib.hid (wrIntL B B (wAll f k) g (f k).i (k * 70004) wx HSx.out.wr HS.out (by omega) hLx' (Lib.hid HIn.out.2))
            have HS2 := Lib.hid (show Short (wPc (wAll f k) (f k)) ((k + 1) * 70004) from (HS.out.pc (f k) (by omega)).more (by omega))
            rw [← hwp] at HC1
            clear hwp
            go_wp2_with fail
            refine HC1.out.mono ?_
            intro e W1 hw1
            have HW1 := Lib.hid hw1
            obtain rfl := hw1.1
            obtain ⟨g', hso1⟩ := Solo.next HW1.out
            have HSo1 := Lib.hid hso1
            have HB1 := Lib.hid (HSx.out.under HBx.out (Nat.le_refl _) hLx' HW1.out)
            clear hw1 hso1 HC1 HW1
            go_wp2_with fail
            go_roundw
            case rel => exact ⟨k + 1, g', by omega, by go_num, HSo1.out, HS2.out, HB1.out⟩
            case measure => simp [intOf]; omega
          · have hdd : ((f k).d == 1) = false := by simpa using hd1
            by_cases hd2 : (f k).d = 2
            · have hwp : wPc (wAll f k) (f k) = wCount (wAll f k) (sL (f k).s) 2 := by unfold wPc; rw [if_neg hd0, if_neg hd1, if_pos hd2]
              have hde : ((f k).d == 2) = true := by simpa using hd2
              have HC1 := Lib.hid (wrText B B (wAll f k) g (f k).s (k * 70004) wx HSx.out.wr HS.out (by omega) hLx')
              have HS2 := Lib.hid (show Short (wPc (wAll f k) (f k)) ((k + 1) * 70004) from (HS.out.pc (f k) (by omega)).more (by omega))
              rw [← hwp] at HC1
              clear hwp
              go_wp2_with fail
              refine HC1.out.mono ?_
              intro e W1 hw1
              have HW1 := Lib.hid hw1
              obtain rfl := hw1.1
              obtain ⟨g', hso1⟩ := Solo.next HW1.out
              have HSo1 := Lib.hid hso1
              have HB1 := Lib.hid (HSx.out.under HBx.out (Nat.le_refl _) hLx' HW1.out)
              clear hw1 hso1 HC1 HW1
              go_wp2_with fail
              go_roundw
              case rel => exact ⟨k + 1, g', by omega, by go_num, HSo1.out, HS2.out, HB1.out⟩
              case measure => simp [intOf]; omega
            · have hwp : wPc (wAll f k) (f k) = wCount (wAll f k) (sL (f k).s) 4 := by unfold wPc; rw [if_neg hd0, if_neg hd1, if_neg hd2]
              have hde : ((f k).d == 2) = false := by simpa using hd2
              have hcv := run_text (f k).s
              have hmx : (f k).s.size ≤ maxLen := by unfold maxLen; omega
              have HC1 := Lib.hid ((wrPart B B (wAll f k) g _ _ _ (sL (f k).s) (k * 70004) (textRow wx (f k).s) (HSx.out.wr.below (textRow_below wx (f k).s)) (textRow_rd wx (f k).s hmx)
                (fun h1 _ a e => by injection e with e; subst e; exact HSx.out.wr.fresh (Nat.le_refl _) h1) HS.out (by omega) (Nat.le_trans hLx' (textRow_below wx (f k).s).size)).mono fun e w' h => h.below (textRow_below wx (f k).s))
              have HS2 := Lib.hid (show Short (wPc (wAll f k) (f k)) ((k + 1) * 70004) from (HS.out.pc (f k) (by omega)).more (by omega))
              rw [← hwp] at HC1
              clear hwp
              go_wp2_with fail
              refine HC1.out.mono ?_
              intro e W1 hw1
              have HW1 := Lib.hid hw1
              obtain rfl := hw1.1
              obtain ⟨g', hso1⟩ := Solo.next HW1.out
              have HSo1 := Lib.hid hso1
              have HB1 := Lib.hid (HSx.out.under HBx.out (Nat.le_refl _) hLx' HW1.out)
              clear hw1 hso1 HC1 HW1
              go_wp2_with fail
              go_roundw
              case rel => exact ⟨k + 1, g', by omega, by go_num, HSo1.out, HS2.out, HB1.out⟩
              case measure => simp [intOf]; omega
    · obtain rfl : k = ln := by omega
      have hB0 : B < wr.heap.size := HSo.out.wr.lt
      go_wp2_with fail
      refine (wrNum_nil _ _ _).mono ?_
      rintro e w' ⟨rfl, rfl⟩
      go_wp2_with fail
      refine (rdOk_nil _).mono ?_
      rintro e w' ⟨rfl, rfl⟩
      go_wp2_with fail
      refine (rdNum_nil _ _).mono ?_
      rintro e w' ⟨rfl, rfl⟩
      go_wp2_with fail
      refine (rdMore_nil _).mono ?_
      rintro e w' ⟨rfl, m1, rfl⟩
      have HSd := Lib.hid (HSo.out.drewN m1)
      have HBd := Lib.hid (below_drewN HB.out m1)
      have hBd : B < (wr.drewN m1).heap.size := HSd.out.wr.lt
      clear HSo HB
      generalize wr.drewN m1 = wd at *
      go_wp2_with fail
      refine (rdText_nil _).mono ?_
      rintro e w' ⟨rfl, rfl⟩
      go_wp2_with fail
      refine (wrOk_nil _).mono ?_
      rintro e w' ⟨rfl, rfl⟩
      go_wp2_with fail
      refine (wrBytes_nil _).mono ?_
      rintro e w' ⟨rfl, rfl⟩
      go_wp2_with fail
      refine (rdOk_raw _ _ ((World.cell?_alloc_new _ _ _ 0).trans rfl)).mono ?_
      rintro e w' ⟨rfl, rfl⟩
      have HSe := Lib.hid (HSd.out.below ((Below.refl _ _).alloc (Nat.le_refl _) (.cells #[.bool false, .slice none 0 0, .int .i64 0] 53)))
      have HBe := Lib.hid (HBd.out.alloc (Nat.le_of_lt hBd) (.cells #[.bool false, .slice none 0 0, .int .i64 0] 53))
      clear HSd HBd hBd
      generalize wd.alloc (.cells #[.bool false, .slice none 0 0, .int .i64 0] 53) = we at *
      go_wp2_with fail
      refine (wrOk_raw _ _ ((World.cell?_alloc_new _ _ _ 0).trans rfl)).mono ?_
      rintro e w' ⟨rfl, rfl⟩
      have HSf := Lib.hid (HSe.out.below ((Below.refl _ _).alloc (Nat.le_refl _) (.cells #[.bool false, .slice none 0 0] 55)))
      have HBf := Lib.hid (HBe.out.alloc (Nat.le_of_lt HSe.out.wr.lt) (.cells #[.bool false, .slice none 0 0] 55))
      clear HSe HBe
      generalize we.alloc (.cells #[.bool false, .slice none 0 0] 55) = wf at *
      have hBf : B < wf.heap.size := HSf.out.wr.lt
      cases hst : wAll f k with
      | none =>
        rw [hst] at HSf
        clear hst
        go_wp2_with fail
        refine (wrOk_no B B g _ HSf.out.wr).mono ?_
        rintro e w' ⟨rfl, rfl⟩
        go_wp2_with fail
        refine (wrBytes_no B B g _ HSf.out.wr).mono ?_
        rintro e w' ⟨rfl, rfl⟩
        go_wp2_with fail
        refine (live_any _).mono ?_
        rintro e w' ⟨rfl, hb⟩
        have HB3 := Lib.hid (HBf.out.trans (hb.mono (Nat.le_of_lt hBf)))
        clear hb
        go_wp2_with fail
        go_ret
        exact ⟨rfl, hbB ▸ HB3.out⟩
      | some L =>
        rw [hst] at HSf
        have HST := Lib.hid hst
        have HLl : Hid (L.length ≤ 140737488355328) := Lib.hid (by have := HS.out L hst; omega)
        clear hst
        go_wp2_with fail
        refine (wrOk_yes B B L g _ HSf.out.wr).mono ?_
        rintro e w' ⟨rfl, rfl⟩
        go_wp2_with fail
        refine (wrBytes_yes B B L g _ HSf.out.wr HLl.out).mono ?_
        rintro e wg ⟨A1, n1, c1, rfl, hrd1, hbg, _⟩
        have HSg := Lib.hid (HSf.out.below hbg)
        have HBg := Lib.hid (HBf.out.trans (hbg.mono (Nat.le_of_lt hBf)))
        have HR1 := Lib.hid hrd1
        have hn1 : n1 ≤ 140737488355328 := by have := hrd1.len; have := HLl.out; omega
        have hBg : B < wg.heap.size := HSg.out.wr.lt
        clear hrd1 hbg HSf HBf hBf
        go_wp2_with fail
        refine (rdFrom _ _ _ _ _ HR1.out hn1).mono ?_
        rintro e wh ⟨br, A, n, c, rfl, hbr, hA, hat, hbh⟩
        obtain rfl : n = L.length := hat.rd.len.symm
        have HSh := Lib.hid (HSg.out.below hbh)
        have HBh := Lib.hid (HBg.out.trans (hbh.mono (Nat.le_of_lt hBg)))
        have hBr : B < br := Nat.lt_of_lt_of_le hBg hbr
        have HGr : Hid (g = none ∨ g ≠ some br) := Lib.hid (by
          by_cases hg : g = none
          · exact .inl hg
          · exact .inr fun e => by have := (HSg.out.glt br e).2; omega)
        have HT := Lib.hid hat
        clear hat hbh hA hbr HSg HBg hBg HR1 hn1
        go_wp2_with fail
        go_loopw [9] (fun i wr => ∃ (j : Nat) (l : List Int), j ≤ k ∧ i = .int .i64 j ∧ Hid (wAll f j = some l) ∧ RdrAt wr br A L.length c L (some l.length) ∧ Solo wr B B (some L) g ∧ Below B w wr) (fun i _ => k - (intOf i).toNat)
        case atStart => exact ⟨0, [], Nat.zero_le _, rfl, Lib.hid rfl, HT.out, HSh.out, HBh.out⟩
        case round =>
          obtain ⟨j, l, hj, rfl, HW, hat, hso, hbel⟩ := hrel
          clear HT HSh HBh
          have HT := Lib.hid hat
          have HSo := Lib.hid hso
          have HB := Lib.hid hbel
          clear hat hso hbel
          by_cases hjk : j < k
          · obtain ⟨lb, off, rfl, hlb, hcs⟩ := HP.out.2.2 (by omega)
            obtain ⟨⟨c0', c1', c2', c3', c4'⟩, hin, hii, hss⟩ := hcs j hjk
            have hlb' : lb < B := by omega
            have c0 := (HB.out.cell (p := ⟨lb, off + j * 5, none⟩) hlb').trans c0'
            have c1 := (HB.out.cell (p := ⟨lb, off + j * 5 + 1, none⟩) hlb').trans c1'
            have c2 := (HB.out.cell (p := ⟨lb, off + j * 5 + 2, none⟩) hlb').trans c2'
            have c3 := (HB.out.cell (p := ⟨lb, off + j * 5 + 3, none⟩) hlb').trans c3'
            have c4 := (HB.out.cell (p := ⟨lb, off + j * 5 + 4, none⟩) hlb').trans c4'
            have HIn := Lib.hid (And.intro hin hii)
            have hB0 : B < wr.heap.size := HSo.out.wr.lt
            have HSx := Lib.hid (HSo.out.below ((Below.refl _ _).alloc (Nat.le_refl _) (pcRow (f j))))
            have HBx := Lib.hid (HB.out.alloc (Nat.le_of_lt hB0) (pcRow (f j)))
            have hX := XAt.new wr (f j)
            have hbr0 : br < wr.heap.size := HT.out.lt
            have HTx := Lib.hid (HT.out.below ((Below.refl _ _).alloc (Nat.le_refl _) (pcRow (f j))))
            obtain ⟨l', t, hl', ht', hreads⟩ := wAll_reads HF.out HST.out hjk
            obtain rfl : l' = l := by have h1 := HW.out; rw [hl'] at h1; exact Option.some.inj h1
            have HRe := Lib.hid hreads
            have HW2 := Lib.hid ht'
            clear hcs c0' c1' c2' c3' c4' hin hii hl' ht' hreads
            go_upto_region 30 with (fail)
            clear c0 c1 c2 c3 c4 HSo HB HT
            change Code.wp _ _ _ _ (wr.alloc (pcRow (f j)))
            have hLx : B < (wr.alloc (pcRow (f j))).heap.size := Nat.lt_trans hB0 hX.1
            have hxr : wr.heap.size ≠ br := by omega
            generalize wr.alloc (pcRow (f j)) = wx at *
            generalize wr.heap.size = xb at *
            have HX := Lib.hid hX
            obtain ⟨_, x0, x1, x2, x3, x4⟩ := hX
            have hne : some xb ≠ some br := fun e => absurd (Option.some.inj e) hxr
            by_cases hd0 : (f j).d = 0
            · have hd : ((f j).d == 0) = true := by simpa using hd0
              have HC : Hid (∀ m : Nat, Calls Try.prog 9 #[.pointer (some ⟨br, 0, none⟩), .int .i64 (f j).z] (wx.drewN m) fun e w' => Nums .i64 (wx.drewN m) br A L.length c L (some t.length, (f j).n) e w') := Lib.hid fun m => by
                have := rdNum br A L.length c L (some l'.length) (f j).z (wx.drewN m) (HTx.out.drewN m)
                rw [HRe.out.1 hd0] at this
                exact this
              go_wp2_with fail
              go_region_held3 (fun W => W.cell? ⟨xb, 2, none⟩ = some (.int .i64 (f j).z) ∧ W.cell? ⟨xb, 1, none⟩ = some (.int .i64 (f j).n)) (first | exact ⟨x2, x1⟩ | exact ⟨z2, z1⟩)
                ((first
                  | (go_at_call 9; refine (HC.out _).mono ?_; rintro e w3 ⟨rfl, hat3, hg3⟩; have z2 := hg3.cell x2 hne; have z1 := hg3.cell x1 hne)))
              clear x0 x1 x2 x3 x4 z2 z1 hne
              have HT3 := Lib.hid hat3
              have HSo3 := Lib.hid (show Solo w3 B B (some L) g from ⟨(HSx.out.drewN 1).wr.kept hg3 (fun e => absurd (Option.some.inj e) (by omega)) HGr.out, fun e => by cases e⟩)
              have HB3 := Lib.hid (below_row (below_drewN HBx.out 1) hg3 (Nat.le_of_lt hBr) (Nat.le_of_lt hLx))
              clear hat3 hg3
              go_wp2_with fail
              refine (rdOk_yes br A L.length c L _ _ HT3.out).mono ?_
              rintro e w' ⟨rfl, rfl⟩
              go_wp2_with fail
              go_roundw
              case rel => exact ⟨j + 1, t, by omega, by go_num, HW2, HT3.out, HSo3.out, HB3.out⟩
              case measure => simp [intOf]; omega
            · have hd : ((f j).d == 0) = false := by simpa using hd0
              by_cases hd1 : (f j).d = 1
              · have hdd : ((f j).d == 1) = true := by simpa using hd1
                have HC : Hid (∀ m : Nat, Calls Try.prog 11 #[.pointer (some ⟨br, 0, none⟩)] (wx.drewN m) fun e w' => Nums .i64 (wx.drewN m) br A L.length c L (some t.length, (f j).i) e w') := Lib.hid fun m => by
                  have := rdInt br A L.length c L (some l'.length) (wx.drewN m) (HTx.out.drewN m)
                  rw [HRe.out.2.1 hd1] at this
                  exact this
                go_wp2_with fail
                go_region_held3 (fun W => W.cell? ⟨xb, 3, none⟩ = some (.int .i64 (f j).i)) (first | exact x3 | exact z3)
                  ((first
                    | (go_at_call 11; refine (HC.out _).mono ?_; rintro e w3 ⟨rfl, hat3, hg3⟩; have z3 := hg3.cell x3 hne)))
                clear x0 x1 x2 x3 x4 z3 hne
                have HT3 := Lib.hid hat3
                have HSo3 := Lib.hid (show Solo w3 B B (some L) g from ⟨(HSx.out.drewN 1).wr.kept hg3 (fun e => absurd (Option.some.inj e) (by omega)) HGr.out, fun e => by cases e⟩)
                have HB3 := Lib.hid (below_row (below_drewN HBx.out 1) hg3 (Nat.le_of_lt hBr) (Nat.le_of_lt hLx))
                clear hat3 hg3
                go_wp2_with fail
                refine (rdOk_yes br A L.length c L _ _ HT3.out).mono ?_
                rintro e w' ⟨rfl, rfl⟩
                go_wp2_with fail
                go_roundw
                case rel => exact ⟨j + 1, t, by omega, by go_num, HW2, HT3.out, HSo3.out, HB3.out⟩
                case measure => simp [intOf]; omega
              · have hdd : ((f j).d == 1) = false := by simpa using hd1
                by_cases hd2 : (f j).d = 2
                · have hde : ((f j).d == 2) = true := by simpa using hd2
                  have HC : Hid (∀ m : Nat, Calls Try.prog 13 #[.pointer (some ⟨br, 0, none⟩)] (wx.drewN m) fun e w' => e = .returned (.string (f j).s) ∧ RdrAt w' br A L.length c L (some t.length) ∧ (wx.drewN m).grownBy w' (some br)) := Lib.hid fun m => by
                    have := rdText br A L.length c L (some l'.length) (wx.drewN m) (HTx.out.drewN m)
                    rw [HRe.out.2.2.1 hd2] at this
                    refine this.mono fun e w' h => ?_
                    obtain ⟨he, h1, h2⟩ := h
                    rw [sL_back] at he
                    exact ⟨he, h1, h2⟩
                  go_wp2_with fail
                  go_region_held3 (fun W => W.cell? ⟨xb, 4, none⟩ = some (.string (f j).s)) (first | exact x4 | exact z4)
                    ((first
                      | (go_at_call 13; refine (HC.out _).mono ?_; rintro e w3 ⟨rfl, hat3, hg3⟩; have z4 := hg3.cell x4 hne)))
                  clear x0 x1 x2 x3 x4 z4 hne
                  have HT3 := Lib.hid hat3
                  have HSo3 := Lib.hid (show Solo w3 B B (some L) g from ⟨(HSx.out.drewN 1).wr.kept hg3 (fun e => absurd (Option.some.inj e) (by omega)) HGr.out, fun e => by cases e⟩)
                  have HB3 := Lib.hid (below_row (below_drewN HBx.out 1) hg3 (Nat.le_of_lt hBr) (Nat.le_of_lt hLx))
                  clear hat3 hg3
                  go_wp2_with fail
                  refine (rdOk_yes br A L.length c L _ _ HT3.out).mono ?_
                  rintro e w' ⟨rfl, rfl⟩
                  go_wp2_with fail
                  go_roundw
                  case rel => exact ⟨j + 1, t, by omega, by go_num, HW2, HT3.out, HSo3.out, HB3.out⟩
                  case measure => simp [intOf]; omega
                · have hde : ((f j).d == 2) = false := by simpa using hd2
                  have HC : Hid (∀ m : Nat, Calls Try.prog 16 #[.pointer (some ⟨br, 0, none⟩)] (wx.drewN m) fun e w' => Tells (wx.drewN m) br A L.length c L (some t.length, sL (f j).s) e w') := Lib.hid fun m => by
                    have := rdPart br A L.length c L (some l'.length) (wx.drewN m) (HTx.out.drewN m)
                    rw [HRe.out.2.2.2 hd0 hd1 hd2] at this
                    exact this
                  go_wp2_with fail
                  go_region_law (first
                    | (go_simp
                       go_at_call 16
                       refine (HC.out _).mono ?_
                       rintro e w3 ⟨A7, n7, c7, rfl, hrd7, hat3, hg3⟩
                       have z4 := hg3.cell x4 hne
                       have hcv7 := run_string hrd7
                       rw [sL_back] at hcv7
                       clear hrd7))
                  all_goals
                    clear x0 x1 x2 x3 x4 z4 hne hcv7
                    have HT3 := Lib.hid hat3
                    have HSo3 := Lib.hid (show Solo w3 B B (some L) g from ⟨(HSx.out.drewN 1).wr.kept hg3 (fun e => absurd (Option.some.inj e) (by omega)) HGr.out, fun e => by cases e⟩)
                    have HB3 := Lib.hid (below_row (below_drewN HBx.out 1) hg3 (Nat.le_of_lt hBr) (Nat.le_of_lt hLx))
                    clear hat3 hg3
                    go_wp2_with fail
                    refine (rdOk_yes br A L.length c L _ _ HT3.out).mono ?_
                    rintro e w' ⟨rfl, rfl⟩
                    go_wp2_with fail
                    go_roundw
                    case rel => exact ⟨j + 1, t, by omega, by go_num, HW2, HT3.out, HSo3.out, HB3.out⟩
                    case measure => simp [intOf]; omega
          · obtain rfl : j = k := by omega
            obtain rfl : l = L := by have h1 := HW.out; rw [HST.out] at h1; exact (Option.some.inj h1).symm
            clear HW
            have hmo : moreS (some l.length) l.length = false := by simp [moreS]
            go_wp2_with fail
            refine (rdMore br A l.length c l (some l.length) _ HT.out).mono ?_
            rintro e w' ⟨rfl, m2, rfl⟩
            rw [hmo]
            have HTd := Lib.hid (HT.out.drewN m2)
            have HSd := Lib.hid (HSo.out.drewN m2)
            have HBd := Lib.hid (below_drewN HB.out m2)
            clear HT HSo HB
            generalize wr.drewN m2 = wd at *
            go_wp2_with fail
            refine (rdAt_yes br A l.length c l l.length _ HTd.out).mono ?_
            rintro e w' ⟨rfl, rfl⟩
            go_wp2_with fail
            refine (wrBytes_yes B B l g _ HSd.out.wr HLl.out).mono ?_
            rintro e wg ⟨A5, n5, c5, rfl, hrd5, hbg, _⟩
            obtain rfl : n5 = l.length := hrd5.len.symm
            have HBg := Lib.hid (HBd.out.trans (hbg.mono (Nat.le_of_lt HSd.out.wr.lt)))
            have hBg : B ≤ wg.heap.size := Nat.le_trans (Nat.le_of_lt HSd.out.wr.lt) hbg.size
            clear hrd5 hbg
            go_wp2_with fail
            refine (live_any _).mono ?_
            rintro e w' ⟨rfl, hb⟩
            have HB3 := Lib.hid (HBg.out.trans (hb.mono hBg))
            clear hb
            go_wp2_with fail
            go_ret
            exact ⟨rfl, hbB ▸ HB3.out⟩
end Go.Proofs.Ytjihgpjpmfeakaa
