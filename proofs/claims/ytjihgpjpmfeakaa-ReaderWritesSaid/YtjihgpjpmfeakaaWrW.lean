/- The walk of ReaderWrites. Conditions: none. -/
import Derived.Test.YtjihgpjpmfeakaaWrP
import Derived.Test.YtjihgpjpmfeakaaSameR
import Derived.Deep.DeepCutAuto
namespace Go.Proofs.Ytjihgpjpmfeakaa
open Go.RowKit
set_option linter.unusedVariables false

theorem rw_made (w : World) (B : Nat) : RwAt (w.alloc (.cells #[.slice none 0 0, .bool false] 44)) B w.heap.size (some []) none := by
  refine ⟨.slice none 0 0, 0, World.rowIs_alloc w _ _ _ fun i hi => ?_, (fun e => by cases e), fun l e => ?_⟩
  · obtain rfl | rfl : i = 0 ∨ i = 1 := by have : i < 2 := hi; omega
    all_goals rfl
  · injection e with e
    subst e
    exact ⟨World.ownsRow_nil _ _ _ _, rfl, by simp⟩

set_option maxRecDepth 100000 in
set_option maxHeartbeats 3200000 in
theorem walkWrites (LA : Option Addr) (ln lc : Nat) (f : Nat → Pc) (w : World) (hp : Pcs w LA ln lc f) :
    Calls Try.prog 4 #[.slice LA ln lc] w fun e w' => e = .returned (.bool true) ∧ Below w.heap.size w w' := by
  by_cases hl : 40 < ln
  · clear hp
    go_enter Try.func4, Try.ntmps4
    go_wp2_with fail
    refine (live_any _).mono ?_
    rintro e w' ⟨rfl, hb⟩
    go_wp2_with fail
    go_ret
    exact ⟨rfl, hb⟩
  have HP := Lib.hid hp
  clear hp
  go_enter Try.func4, Try.ntmps4
  go_wp2_with fail
  refine (wrNew _).mono ?_
  rintro e w1 ⟨rfl, hat1, hbel1⟩
  have HT1 := Lib.hid hat1
  have HB1 := Lib.hid hbel1
  clear hat1 hbel1
  have hb12 : w.heap.size ≠ w1.heap.size := by have := HT1.out.lt; omega
  have hB2 := HB1.out.size
  have HPr0 := Lib.hid (show Pair (w1.alloc (.cells #[.slice none 0 0, .bool false] 44)) w.heap.size w.heap.size w1.heap.size (some []) none none from
    ⟨HT1.out.below ((Below.refl _ _).alloc (Nat.le_refl _) _), rw_made w1 _, (fun e => by cases e), .inl rfl⟩)
  have HB2 := Lib.hid (HB1.out.alloc hB2 (.cells #[.slice none 0 0, .bool false] 44))
  clear HT1
  generalize hbb : w1.heap.size = b2 at *
  generalize hbB : w.heap.size = B at *
  go_wp2_with fail
  go_loopw [5] (fun i wr => ∃ (k : Nat) (st : Option (List Int)) (g1 g2 : Option Nat), k ≤ ln ∧ i = .int .i64 k ∧ Pair wr B B b2 st g1 g2 ∧ Short st (k * 70004) ∧ Below B w wr) (fun i _ => ln - (intOf i).toNat)
  case atStart => exact ⟨0, some [], none, none, Nat.zero_le _, rfl, HPr0.out, (fun l e => by injection e with e; subst e; simp), HB2.out⟩
  case round =>
    obtain ⟨k, st, g1, g2, hk, rfl, hpair, hshort, hbel⟩ := hrel
    clear HPr0 HB1 HB2
    have HPr := Lib.hid hpair
    have HS := Lib.hid hshort
    have HB := Lib.hid hbel
    clear hpair hshort hbel
    by_cases hlt : k < ln
    · obtain ⟨lb, off, rfl, hlb, hcs⟩ := HP.out.2.2 (by omega)
      obtain ⟨⟨c0', c1', c2', c3', c4'⟩, hin, hii, hss⟩ := hcs k hlt
      have hlb' : lb < B := by omega
      have c0 := (HB.out.cell (p := ⟨lb, off + k * 5, none⟩) hlb').trans c0'
      have c1 := (HB.out.cell (p := ⟨lb, off + k * 5 + 1, none⟩) hlb').trans c1'
      have c2 := (HB.out.cell (p := ⟨lb, off + k * 5 + 2, none⟩) hlb').trans c2'
      have c3 := (HB.out.cell (p := ⟨lb, off + k * 5 + 3, none⟩) hlb').trans c3'
      have c4 := (HB.out.cell (p := ⟨lb, off + k * 5 + 4, none⟩) hlb').trans c4'
      have HIn := Lib.hid (And.intro hin hii)
      have hB0 : B < wr.heap.size := HPr.out.wr.lt
      have hb20 : b2 < wr.heap.size := HPr.out.rw_.lt
      have HPx := Lib.hid (HPr.out.below ((Below.refl _ _).alloc (Nat.le_refl _) (pcRow (f k))))
      have HBx := Lib.hid (HB.out.alloc (Nat.le_of_lt hB0) (pcRow (f k)))
      have hX := XAt.new wr (f k)
      have hgx1 : Hid (some wr.heap.size ≠ g1) := Lib.hid fun e => by have := (HPr.out.g1lt _ e.symm).2; omega
      clear hcs c0' c1' c2' c3' c4' hin hii
      go_upto_region 8 with (fail)
      clear c0 c1 c2 c3 c4 HPr HB
      change Code.wp _ _ _ _ (wr.alloc (pcRow (f k)))
      have hLx : B < (wr.alloc (pcRow (f k))).heap.size := Nat.lt_trans hB0 hX.1
      have hxB : wr.heap.size ≠ B := by omega
      generalize wr.alloc (pcRow (f k)) = wx at *
      generalize wr.heap.size = xb at *
      have HX := Lib.hid hX
      have hLx' : B ≤ wx.heap.size := Nat.le_of_lt hLx
      obtain ⟨_, x0, x1, x2, x3, x4⟩ := hX
      have HGx := hgx1
      by_cases h7 : 70000 < (f k).s.size
      · have d7 : decide (70000 < ((f k).s.size : Int)) = true := by simp; omega
        go_wp2_with fail
        refine (live_any _).mono ?_
        rintro e w' ⟨rfl, hb⟩
        have HB3 := Lib.hid (HBx.out.trans (hb.mono hLx'))
        clear hb
        go_wp2_with fail
        go_ret
        exact ⟨rfl, hbB ▸ HB3.out⟩
      · have d7 : decide (70000 < ((f k).s.size : Int)) = false := by simp; omega
        by_cases hgo : 1000 < (f k).s.size ∧ 2 < k
        · have d1 : decide (1000 < ((f k).s.size : Int)) = true := by simp; omega
          have d2 : decide (2 < (k : Int)) = true := by simp; omega
          go_wp2_with fail
          refine (live_any _).mono ?_
          rintro e w' ⟨rfl, hb⟩
          have HB3 := Lib.hid (HBx.out.trans (hb.mono hLx'))
          clear hb
          go_wp2_with fail
          go_ret
          exact ⟨rfl, hbB ▸ HB3.out⟩
        · have hgo' : (decide (1000 < ((f k).s.size : Int)) = true ∧ decide (2 < (k : Int)) = false) ∨ decide (1000 < ((f k).s.size : Int)) = false := by
            simp
            omega
          clear hgo
          by_cases hd0 : (f k).d = 0
          · rcases hgo' with ⟨d1, d2⟩ | d1
            all_goals
              have hwp : wPc st (f k) = wNum st (f k).n (f k).z := if_pos hd0
              have hd : ((f k).d == 0) = true := by simpa using hd0
              have HC1 := Lib.hid (wrNum B B st g1 (f k).n (f k).z (k * 70004) wx HPx.out.wr HS.out (by omega) hLx')
              have HC2 := Lib.hid (fun (W1 : World) (h : RwAt W1 B b2 st g2) (hs : B ≤ W1.heap.size) => rwNum B b2 st g2 (f k).n (f k).z (k * 70004) W1 h HS.out (by omega) hs)
              have HS2 := Lib.hid (show Short (wPc st (f k)) ((k + 1) * 70004) from (HS.out.pc (f k) (by omega)).more (by omega))
              rw [← hwp] at HC1 HC2
              generalize wPc st (f k) = st' at HC1 HC2 HS2
              clear hwp
              go_wp2_with fail
              refine HC1.out.mono ?_
              intro e W1 hw1
              have hM1 : Mine wx W1 B g1 := by obtain ⟨_, _, _, m1, _⟩ := hw1; exact m1
              have hX1 := HX.out.mine hM1 hxB HGx.out
              have hB1 : B ≤ W1.heap.size := Nat.le_trans hLx' hM1.size
              have HC3 := Lib.hid (HC2.out W1 (HPx.out.first hb12 hM1) hB1)
              have HW1 := Lib.hid hw1
              obtain ⟨_, y0, y1, y2, y3, y4⟩ := hX1
              obtain rfl := hw1.1
              clear hw1 hM1
              go_wp2_with fail
              refine HC3.out.mono ?_
              intro e W2 hw2
              have HW2 := Lib.hid hw2
              obtain rfl := hw2.1
              obtain ⟨h1', h2', hpair2⟩ := HPx.out.second hb12 HW1.out HW2.out
              have HB2 := Lib.hid (HPx.out.under HBx.out (Nat.le_refl _) hB2 hLx' HW1.out HW2.out)
              have hL2 : B ≤ W2.heap.size := Nat.le_of_lt hpair2.wr.lt
              clear hw2 x0 x1 x2 x3 x4 y0 y1 y2 y3 y4 HC1 HC2 HC3 HW1 HW2
              cases st' with
              | none =>
                have q1 : W2.cell? ⟨b2, 1, none⟩ = some (.bool true) := hpair2.rw_.bad
                have q0 : W2.cell? ⟨b2, 0, none⟩ = some (.slice none 0 0) := by
                  obtain ⟨v, n, hrow, hv, _⟩ := hpair2.rw_
                  obtain rfl := hv rfl
                  exact hrow.cell (by omega)
                have HP2 := Lib.hid hpair2
                clear hpair2
                go_wp2_with fail
                go_quiet (first
                  | (go_at_call 31; refine Calls.quiet_of_same ((wrOk_no B B h1' _ (HP2.out.wr.drewN _)).mono fun e w' h => ⟨h.1, h.2.symm⟩))
                  | (go_at_call 32; refine Calls.quiet_of_same ((wrBytes_no B B h1' _ (HP2.out.wr.drewN _)).mono fun e w' h => ⟨h.1, h.2.symm⟩))
                  | (go_at_call 15; refine Calls.quiet_of (same_nil _)))
                go_wp2_with fail
                go_roundw
                case rel => exact ⟨k + 1, none, h1', h2', by omega, by go_num, HP2.out.drewN _, HS2.out, below_drewN HB2.out _⟩
                case measure => simp [intOf]; omega
              | some t =>
                have q1 : W2.cell? ⟨b2, 1, none⟩ = some (.bool false) := hpair2.rw_.bad
                obtain ⟨A2, n2, c2, hrow2, hown2, _, hbt2, hlen2⟩ := hpair2.rw_.open_
                have q0 : W2.cell? ⟨b2, 0, none⟩ = some (.slice A2 n2 c2) := hrow2.cell (by omega)
                have hb2lt : b2 < W2.heap.size := hrow2.lt
                have HR2 := Lib.hid (show Rd .u8 W2 A2 n2 c2 t by
                  obtain ⟨A', c', e, hr, _⟩ := own_rd hown2 hbt2
                  injection e with e1 _ e3
                  subst e1 e3
                  exact hr)
                have HP2 := Lib.hid hpair2
                have HT2 : Hid (t.length ≤ 140737488355328) := Lib.hid (by have := HS2.out t rfl; omega)
                clear hpair2 hrow2 hown2 hbt2 hlen2
                go_wp2_with fail
                go_region_held3 (fun W => W.cell? ⟨b2, 1, none⟩ = some (.bool false) ∧ W.cell? ⟨b2, 0, none⟩ = some (.slice A2 n2 c2)) (first | exact ⟨q1, q0⟩ | exact ⟨p1, p0⟩)
                  ((first
                    | (go_at_call 31; refine (wrOk_yes B B t h1' _ (HP2.out.wr.drewN _)).mono ?_; rintro e w' ⟨rfl, rfl⟩)
                    | (go_at_call 32; refine (wrBytes_yes B B t h1' _ (HP2.out.wr.drewN _) HT2.out).mono ?_; rintro e W3 ⟨A3, n3, c3, rfl, hrd3, hb3, hloc3⟩; have p1 := (hb3.cell (p := ⟨b2, 1, none⟩) hb2lt).trans q1; have p0 := (hb3.cell (p := ⟨b2, 0, none⟩) hb2lt).trans q0)
                    | (go_at_call 15; refine (refSame _ _ _ _ _ _ _ _ _ hrd3 ((HR2.out.drewN _).below hb3)).mono ?_; rintro e w' ⟨rfl, m5, rfl⟩; rw [decide_eq_true rfl])))
                have HB4 := Lib.hid (below_drewN ((below_drewN HB2.out 1).trans (hb3.mono hL2)) m5)
                have HP4 := Lib.hid (((HP2.out.drewN 1).below hb3).drewN m5)
                clear hb3 hrd3 hloc3 p1 p0 q1 q0
                go_wp2_with fail
                go_roundw
                case rel => exact ⟨k + 1, some t, h1', h2', by omega, by go_num, HP4.out, HS2.out, HB4.out⟩
                case measure => simp [intOf]; omega
          · have hd : ((f k).d == 0) = false := by simpa using hd0
            by_cases hd1 : (f k).d = 1
            · rcases hgo' with ⟨d1, d2⟩ | d1
              all_goals
                have hwp : wPc st (f k) = wCount st (intL (f k).i) 1 := by unfold wPc; rw [if_neg hd0, if_pos hd1]
                have hdd : ((f k).d == 1) = true := by simpa using hd1
                have HC1 := Lib.hid (wrIntL B B st g1 (f k).i (k * 70004) wx HPx.out.wr HS.out (by omega) hLx' (Lib.hid HIn.out.2))
                have HC2 := Lib.hid (fun (W1 : World) (h : RwAt W1 B b2 st g2) (hs : B ≤ W1.heap.size) => rwIntL B b2 st g2 (f k).i (k * 70004) W1 h HS.out (by omega) hs (Lib.hid HIn.out.2))
                have HS2 := Lib.hid (show Short (wPc st (f k)) ((k + 1) * 70004) from (HS.out.pc (f k) (by omega)).more (by omega))
                rw [← hwp] at HC1 HC2
                generalize wPc st (f k) = st' at HC1 HC2 HS2
                clear hwp
                go_wp2_with fail
                refine HC1.out.mono ?_
                intro e W1 hw1
                have hM1 : Mine wx W1 B g1 := by obtain ⟨_, _, _, m1, _⟩ := hw1; exact m1
                have hX1 := HX.out.mine hM1 hxB HGx.out
                have hB1 : B ≤ W1.heap.size := Nat.le_trans hLx' hM1.size
                have HC3 := Lib.hid (HC2.out W1 (HPx.out.first hb12 hM1) hB1)
                have HW1 := Lib.hid hw1
                obtain ⟨_, y0, y1, y2, y3, y4⟩ := hX1
                obtain rfl := hw1.1
                clear hw1 hM1
                go_wp2_with fail
                refine HC3.out.mono ?_
                intro e W2 hw2
                have HW2 := Lib.hid hw2
                obtain rfl := hw2.1
                obtain ⟨h1', h2', hpair2⟩ := HPx.out.second hb12 HW1.out HW2.out
                have HB2 := Lib.hid (HPx.out.under HBx.out (Nat.le_refl _) hB2 hLx' HW1.out HW2.out)
                have hL2 : B ≤ W2.heap.size := Nat.le_of_lt hpair2.wr.lt
                clear hw2 x0 x1 x2 x3 x4 y0 y1 y2 y3 y4 HC1 HC2 HC3 HW1 HW2
                cases st' with
                | none =>
                  have q1 : W2.cell? ⟨b2, 1, none⟩ = some (.bool true) := hpair2.rw_.bad
                  have q0 : W2.cell? ⟨b2, 0, none⟩ = some (.slice none 0 0) := by
                    obtain ⟨v, n, hrow, hv, _⟩ := hpair2.rw_
                    obtain rfl := hv rfl
                    exact hrow.cell (by omega)
                  have HP2 := Lib.hid hpair2
                  clear hpair2
                  go_wp2_with fail
                  go_quiet (first
                    | (go_at_call 31; refine Calls.quiet_of_same ((wrOk_no B B h1' _ (HP2.out.wr.drewN _)).mono fun e w' h => ⟨h.1, h.2.symm⟩))
                    | (go_at_call 32; refine Calls.quiet_of_same ((wrBytes_no B B h1' _ (HP2.out.wr.drewN _)).mono fun e w' h => ⟨h.1, h.2.symm⟩))
                    | (go_at_call 15; refine Calls.quiet_of (same_nil _)))
                  go_wp2_with fail
                  go_roundw
                  case rel => exact ⟨k + 1, none, h1', h2', by omega, by go_num, HP2.out.drewN _, HS2.out, below_drewN HB2.out _⟩
                  case measure => simp [intOf]; omega
                | some t =>
                  have q1 : W2.cell? ⟨b2, 1, none⟩ = some (.bool false) := hpair2.rw_.bad
                  obtain ⟨A2, n2, c2, hrow2, hown2, _, hbt2, hlen2⟩ := hpair2.rw_.open_
                  have q0 : W2.cell? ⟨b2, 0, none⟩ = some (.slice A2 n2 c2) := hrow2.cell (by omega)
                  have hb2lt : b2 < W2.heap.size := hrow2.lt
                  have HR2 := Lib.hid (show Rd .u8 W2 A2 n2 c2 t by
                    obtain ⟨A', c', e, hr, _⟩ := own_rd hown2 hbt2
                    injection e with e1 _ e3
                    subst e1 e3
                    exact hr)
                  have HP2 := Lib.hid hpair2
                  have HT2 : Hid (t.length ≤ 140737488355328) := Lib.hid (by have := HS2.out t rfl; omega)
                  clear hpair2 hrow2 hown2 hbt2 hlen2
                  go_wp2_with fail
                  go_region_held3 (fun W => W.cell? ⟨b2, 1, none⟩ = some (.bool false) ∧ W.cell? ⟨b2, 0, none⟩ = some (.slice A2 n2 c2)) (first | exact ⟨q1, q0⟩ | exact ⟨p1, p0⟩)
                    ((first
                      | (go_at_call 31; refine (wrOk_yes B B t h1' _ (HP2.out.wr.drewN _)).mono ?_; rintro e w' ⟨rfl, rfl⟩)
                      | (go_at_call 32; refine (wrBytes_yes B B t h1' _ (HP2.out.wr.drewN _) HT2.out).mono ?_; rintro e W3 ⟨A3, n3, c3, rfl, hrd3, hb3, hloc3⟩; have p1 := (hb3.cell (p := ⟨b2, 1, none⟩) hb2lt).trans q1; have p0 := (hb3.cell (p := ⟨b2, 0, none⟩) hb2lt).trans q0)
                      | (go_at_call 15; refine (refSame _ _ _ _ _ _ _ _ _ hrd3 ((HR2.out.drewN _).below hb3)).mono ?_; rintro e w' ⟨rfl, m5, rfl⟩; rw [decide_eq_true rfl])))
                  have HB4 := Lib.hid (below_drewN ((below_drewN HB2.out 1).trans (hb3.mono hL2)) m5)
                  have HP4 := Lib.hid (((HP2.out.drewN 1).below hb3).drewN m5)
                  clear hb3 hrd3 hloc3 p1 p0 q1 q0
                  go_wp2_with fail
                  go_roundw
                  case rel => exact ⟨k + 1, some t, h1', h2', by omega, by go_num, HP4.out, HS2.out, HB4.out⟩
                  case measure => simp [intOf]; omega
            · have hdd : ((f k).d == 1) = false := by simpa using hd1
              by_cases hd2 : (f k).d = 2
              · rcases hgo' with ⟨d1, d2⟩ | d1
                all_goals
                  have hwp : wPc st (f k) = wCount st (sL (f k).s) 2 := by unfold wPc; rw [if_neg hd0, if_neg hd1, if_pos hd2]
                  have hde : ((f k).d == 2) = true := by simpa using hd2
                  have HC1 := Lib.hid (wrText B B st g1 (f k).s (k * 70004) wx HPx.out.wr HS.out (by omega) hLx')
                  have HC2 := Lib.hid (fun (W1 : World) (h : RwAt W1 B b2 st g2) (hs : B ≤ W1.heap.size) => rwText B b2 st g2 (f k).s (k * 70004) W1 h HS.out (by omega) hs)
                  have HS2 := Lib.hid (show Short (wPc st (f k)) ((k + 1) * 70004) from (HS.out.pc (f k) (by omega)).more (by omega))
                  rw [← hwp] at HC1 HC2
                  generalize wPc st (f k) = st' at HC1 HC2 HS2
                  clear hwp
                  go_wp2_with fail
                  refine HC1.out.mono ?_
                  intro e W1 hw1
                  have hM1 : Mine wx W1 B g1 := by obtain ⟨_, _, _, m1, _⟩ := hw1; exact m1
                  have hX1 := HX.out.mine hM1 hxB HGx.out
                  have hB1 : B ≤ W1.heap.size := Nat.le_trans hLx' hM1.size
                  have HC3 := Lib.hid (HC2.out W1 (HPx.out.first hb12 hM1) hB1)
                  have HW1 := Lib.hid hw1
                  obtain ⟨_, y0, y1, y2, y3, y4⟩ := hX1
                  obtain rfl := hw1.1
                  clear hw1 hM1
                  go_wp2_with fail
                  refine HC3.out.mono ?_
                  intro e W2 hw2
                  have HW2 := Lib.hid hw2
                  obtain rfl := hw2.1
                  obtain ⟨h1', h2', hpair2⟩ := HPx.out.second hb12 HW1.out HW2.out
                  have HB2 := Lib.hid (HPx.out.under HBx.out (Nat.le_refl _) hB2 hLx' HW1.out HW2.out)
                  have hL2 : B ≤ W2.heap.size := Nat.le_of_lt hpair2.wr.lt
                  clear hw2 x0 x1 x2 x3 x4 y0 y1 y2 y3 y4 HC1 HC2 HC3 HW1 HW2
                  cases st' with
                  | none =>
                    have q1 : W2.cell? ⟨b2, 1, none⟩ = some (.bool true) := hpair2.rw_.bad
                    have q0 : W2.cell? ⟨b2, 0, none⟩ = some (.slice none 0 0) := by
                      obtain ⟨v, n, hrow, hv, _⟩ := hpair2.rw_
                      obtain rfl := hv rfl
                      exact hrow.cell (by omega)
                    have HP2 := Lib.hid hpair2
                    clear hpair2
                    go_wp2_with fail
                    go_quiet (first
                      | (go_at_call 31; refine Calls.quiet_of_same ((wrOk_no B B h1' _ (HP2.out.wr.drewN _)).mono fun e w' h => ⟨h.1, h.2.symm⟩))
                      | (go_at_call 32; refine Calls.quiet_of_same ((wrBytes_no B B h1' _ (HP2.out.wr.drewN _)).mono fun e w' h => ⟨h.1, h.2.symm⟩))
                      | (go_at_call 15; refine Calls.quiet_of (same_nil _)))
                    go_wp2_with fail
                    go_roundw
                    case rel => exact ⟨k + 1, none, h1', h2', by omega, by go_num, HP2.out.drewN _, HS2.out, below_drewN HB2.out _⟩
                    case measure => simp [intOf]; omega
                  | some t =>
                    have q1 : W2.cell? ⟨b2, 1, none⟩ = some (.bool false) := hpair2.rw_.bad
                    obtain ⟨A2, n2, c2, hrow2, hown2, _, hbt2, hlen2⟩ := hpair2.rw_.open_
                    have q0 : W2.cell? ⟨b2, 0, none⟩ = some (.slice A2 n2 c2) := hrow2.cell (by omega)
                    have hb2lt : b2 < W2.heap.size := hrow2.lt
                    have HR2 := Lib.hid (show Rd .u8 W2 A2 n2 c2 t by
                      obtain ⟨A', c', e, hr, _⟩ := own_rd hown2 hbt2
                      injection e with e1 _ e3
                      subst e1 e3
                      exact hr)
                    have HP2 := Lib.hid hpair2
                    have HT2 : Hid (t.length ≤ 140737488355328) := Lib.hid (by have := HS2.out t rfl; omega)
                    clear hpair2 hrow2 hown2 hbt2 hlen2
                    go_wp2_with fail
                    go_region_held3 (fun W => W.cell? ⟨b2, 1, none⟩ = some (.bool false) ∧ W.cell? ⟨b2, 0, none⟩ = some (.slice A2 n2 c2)) (first | exact ⟨q1, q0⟩ | exact ⟨p1, p0⟩)
                      ((first
                        | (go_at_call 31; refine (wrOk_yes B B t h1' _ (HP2.out.wr.drewN _)).mono ?_; rintro e w' ⟨rfl, rfl⟩)
                        | (go_at_call 32; refine (wrBytes_yes B B t h1' _ (HP2.out.wr.drewN _) HT2.out).mono ?_; rintro e W3 ⟨A3, n3, c3, rfl, hrd3, hb3, hloc3⟩; have p1 := (hb3.cell (p := ⟨b2, 1, none⟩) hb2lt).trans q1; have p0 := (hb3.cell (p := ⟨b2, 0, none⟩) hb2lt).trans q0)
                        | (go_at_call 15; refine (refSame _ _ _ _ _ _ _ _ _ hrd3 ((HR2.out.drewN _).below hb3)).mono ?_; rintro e w' ⟨rfl, m5, rfl⟩; rw [decide_eq_true rfl])))
                    have HB4 := Lib.hid (below_drewN ((below_drewN HB2.out 1).trans (hb3.mono hL2)) m5)
                    have HP4 := Lib.hid (((HP2.out.drewN 1).below hb3).drewN m5)
                    clear hb3 hrd3 hloc3 p1 p0 q1 q0
                    go_wp2_with fail
                    go_roundw
                    case rel => exact ⟨k + 1, some t, h1', h2', by omega, by go_num, HP4.out, HS2.out, HB4.out⟩
                    case measure => simp [intOf]; omega
              · rcases hgo' with ⟨d1, d2⟩ | d1
                all_goals
                  have hwp : wPc st (f k) = wCount st (sL (f k).s) 4 := by unfold wPc; rw [if_neg hd0, if_neg hd1, if_neg hd2]
                  have hde : ((f k).d == 2) = false := by simpa using hd2
                  have hcv := run_text (f k).s
                  have hmx : (f k).s.size ≤ maxLen := by unfold maxLen; omega
                  have HC1 := Lib.hid ((wrPart B B st g1 _ _ _ (sL (f k).s) (k * 70004) (textRow wx (f k).s) (HPx.out.wr.below (textRow_below wx (f k).s)) (textRow_rd wx (f k).s hmx)
                    (fun h1 _ a e => by injection e with e; subst e; exact HPx.out.wr.fresh (Nat.le_refl _) h1) HS.out (by omega) (Nat.le_trans hLx' (textRow_below wx (f k).s).size)).mono fun e w' h => h.below (textRow_below wx (f k).s))
                  have HC2 := Lib.hid (fun (W1 : World) (h : RwAt W1 B b2 st g2) (hs : B ≤ W1.heap.size) => (rwPart B b2 st g2 _ _ _ (sL (f k).s) (k * 70004) (textRow W1 (f k).s) (h.below (textRow_below W1 (f k).s)) (textRow_rd W1 (f k).s hmx)
                    (fun h1 _ a e => by injection e with e; subst e; exact h.fresh (Nat.le_refl _) h1) HS.out (by omega) (Nat.le_trans hs (textRow_below W1 (f k).s).size)).mono fun e w' h => h.below (textRow_below W1 (f k).s))
                  have HS2 := Lib.hid (show Short (wPc st (f k)) ((k + 1) * 70004) from (HS.out.pc (f k) (by omega)).more (by omega))
                  rw [← hwp] at HC1 HC2
                  generalize wPc st (f k) = st' at HC1 HC2 HS2
                  clear hwp
                  go_wp2_with fail
                  refine HC1.out.mono ?_
                  intro e W1 hw1
                  have hM1 : Mine wx W1 B g1 := by obtain ⟨_, _, _, m1, _⟩ := hw1; exact m1
                  have hX1 := HX.out.mine hM1 hxB HGx.out
                  have hB1 : B ≤ W1.heap.size := Nat.le_trans hLx' hM1.size
                  have HC3 := Lib.hid (HC2.out W1 (HPx.out.first hb12 hM1) hB1)
                  have HW1 := Lib.hid hw1
                  obtain ⟨_, y0, y1, y2, y3, y4⟩ := hX1
                  obtain rfl := hw1.1
                  clear hw1 hM1
                  go_wp2_with fail
                  refine HC3.out.mono ?_
                  intro e W2 hw2
                  have HW2 := Lib.hid hw2
                  obtain rfl := hw2.1
                  obtain ⟨h1', h2', hpair2⟩ := HPx.out.second hb12 HW1.out HW2.out
                  have HB2 := Lib.hid (HPx.out.under HBx.out (Nat.le_refl _) hB2 hLx' HW1.out HW2.out)
                  have hL2 : B ≤ W2.heap.size := Nat.le_of_lt hpair2.wr.lt
                  clear hw2 x0 x1 x2 x3 x4 y0 y1 y2 y3 y4 HC1 HC2 HC3 HW1 HW2
                  cases st' with
                  | none =>
                    have q1 : W2.cell? ⟨b2, 1, none⟩ = some (.bool true) := hpair2.rw_.bad
                    have q0 : W2.cell? ⟨b2, 0, none⟩ = some (.slice none 0 0) := by
                      obtain ⟨v, n, hrow, hv, _⟩ := hpair2.rw_
                      obtain rfl := hv rfl
                      exact hrow.cell (by omega)
                    have HP2 := Lib.hid hpair2
                    clear hpair2
                    go_wp2_with fail
                    go_quiet (first
                      | (go_at_call 31; refine Calls.quiet_of_same ((wrOk_no B B h1' _ (HP2.out.wr.drewN _)).mono fun e w' h => ⟨h.1, h.2.symm⟩))
                      | (go_at_call 32; refine Calls.quiet_of_same ((wrBytes_no B B h1' _ (HP2.out.wr.drewN _)).mono fun e w' h => ⟨h.1, h.2.symm⟩))
                      | (go_at_call 15; refine Calls.quiet_of (same_nil _)))
                    go_wp2_with fail
                    go_roundw
                    case rel => exact ⟨k + 1, none, h1', h2', by omega, by go_num, HP2.out.drewN _, HS2.out, below_drewN HB2.out _⟩
                    case measure => simp [intOf]; omega
                  | some t =>
                    have q1 : W2.cell? ⟨b2, 1, none⟩ = some (.bool false) := hpair2.rw_.bad
                    obtain ⟨A2, n2, c2, hrow2, hown2, _, hbt2, hlen2⟩ := hpair2.rw_.open_
                    have q0 : W2.cell? ⟨b2, 0, none⟩ = some (.slice A2 n2 c2) := hrow2.cell (by omega)
                    have hb2lt : b2 < W2.heap.size := hrow2.lt
                    have HR2 := Lib.hid (show Rd .u8 W2 A2 n2 c2 t by
                      obtain ⟨A', c', e, hr, _⟩ := own_rd hown2 hbt2
                      injection e with e1 _ e3
                      subst e1 e3
                      exact hr)
                    have HP2 := Lib.hid hpair2
                    have HT2 : Hid (t.length ≤ 140737488355328) := Lib.hid (by have := HS2.out t rfl; omega)
                    clear hpair2 hrow2 hown2 hbt2 hlen2
                    go_wp2_with fail
                    go_region_held3 (fun W => W.cell? ⟨b2, 1, none⟩ = some (.bool false) ∧ W.cell? ⟨b2, 0, none⟩ = some (.slice A2 n2 c2)) (first | exact ⟨q1, q0⟩ | exact ⟨p1, p0⟩)
                      ((first
                        | (go_at_call 31; refine (wrOk_yes B B t h1' _ (HP2.out.wr.drewN _)).mono ?_; rintro e w' ⟨rfl, rfl⟩)
                        | (go_at_call 32; refine (wrBytes_yes B B t h1' _ (HP2.out.wr.drewN _) HT2.out).mono ?_; rintro e W3 ⟨A3, n3, c3, rfl, hrd3, hb3, hloc3⟩; have p1 := (hb3.cell (p := ⟨b2, 1, none⟩) hb2lt).trans q1; have p0 := (hb3.cell (p := ⟨b2, 0, none⟩) hb2lt).trans q0)
                        | (go_at_call 15; refine (refSame _ _ _ _ _ _ _ _ _ hrd3 ((HR2.out.drewN _).below hb3)).mono ?_; rintro e w' ⟨rfl, m5, rfl⟩; rw [decide_eq_true rfl])))
                    have HB4 := Lib.hid (below_drewN ((below_drewN HB2.out 1).trans (hb3.mono hL2)) m5)
                    have HP4 := Lib.hid (((HP2.out.drewN 1).below hb3).drewN m5)
                    clear hb3 hrd3 hloc3 p1 p0 q1 q0
                    go_wp2_with fail
                    go_roundw
                    case rel => exact ⟨k + 1, some t, h1', h2', by omega, by go_num, HP4.out, HS2.out, HB4.out⟩
                    case measure => simp [intOf]; omega
    · obtain rfl : k = ln := by omega
      go_wp2_with fail
      refine (live_any _).mono ?_
      rintro e w' ⟨rfl, hb⟩
      have HB3 := Lib.hid (HB.out.trans (hb.mono (Nat.le_of_lt HPr.out.wr.lt)))
      clear hb
      go_wp2_with fail
      go_ret
      exact ⟨rfl, hbB ▸ HB3.out⟩
end Go.Proofs.Ytjihgpjpmfeakaa
