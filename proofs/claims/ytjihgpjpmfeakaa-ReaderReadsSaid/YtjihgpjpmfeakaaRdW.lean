/- The walk of ReaderReads. Conditions: none. -/
import Derived.Test.YtjihgpjpmfeakaaRdN
import Derived.Test.YtjihgpjpmfeakaaSameR
namespace Go.Proofs.Ytjihgpjpmfeakaa
open Go.RowKit
set_option linter.unusedVariables false

set_option maxRecDepth 100000 in
set_option maxHeartbeats 3200000 in
theorem walkReads (A : Option Addr) (n c : Nat) (l : List Int) (LA : Option Addr) (ln lc : Nat) (f : Nat → Pc) (w : World) (h : Rd .u8 w A n c l) (hp : Pcs w LA ln lc f) :
    Calls Try.prog 3 #[.slice A n c, .slice LA ln lc] w fun e w' => e = .returned (.bool true) ∧ Below w.heap.size w w' := by
  by_cases hn : 1000 < n
  · clear h hp
    go_enter Try.func3, Try.ntmps3
    go_wp2_with fail
    refine (live_any _).mono ?_
    rintro e w' ⟨rfl, hb⟩
    go_wp2_with fail
    go_ret
    exact ⟨rfl, hb⟩
  by_cases hl : 40 < ln
  · clear h hp
    go_enter Try.func3, Try.ntmps3
    go_wp2_with fail
    refine (live_any _).mono ?_
    rintro e w' ⟨rfl, hb⟩
    go_wp2_with fail
    go_ret
    exact ⟨rfl, hb⟩
  have HR := Lib.hid h
  have HP := Lib.hid hp
  have HN := Lib.hid h.len
  clear h hp
  go_enter Try.func3, Try.ntmps3
  go_wp2_with fail
  refine (rdFrom A n c l _ HR.out (by omega)).mono ?_
  rintro e w1 ⟨b1, A1, n1, c1, rfl, hb1, hA1, hat1, hbel1⟩
  obtain rfl : n1 = n := by rw [← hat1.rd.len, HN.out]
  have HR1 := Lib.hid (HR.out.below hbel1)
  have HAlt : Hid (0 < n1 → ∀ a, A = some a → a.block < w.heap.size) := Lib.hid fun h0 a e => by
    obtain ⟨b, off, e2, hb, _⟩ := HR.out.at_ h0
    rw [e] at e2
    injection e2 with e2
    subst e2
    exact hb
  have HT1 := Lib.hid hat1
  have HB1 := Lib.hid hbel1
  have HA1 := Lib.hid hA1
  clear hat1 hbel1 hA1
  go_wp2_with fail
  refine (refFrom A n1 c l _ HR1.out fun h0 a e => Nat.lt_of_lt_of_le (HAlt.out h0 a e) HB1.out.size).mono ?_
  rintro e w2 ⟨rfl, hat2, hbel2⟩
  have hb1' := HT1.out.lt
  have HT1 := Lib.hid (HT1.out.kept (row := none) ⟨hbel2.os, hbel2.tape, hbel2.output, hbel2.size, fun k hk _ => hbel2.block k hk⟩ (by simp) (fun _ _ _ => by simp))
  generalize hb2 : w1.heap.size = b2 at *
  have hle2 : w.heap.size ≤ b2 := by rw [← hb2]; exact HB1.out.size
  have HB2 := Lib.hid (HB1.out.trans (hbel2.mono hle2))
  have HT2 := Lib.hid hat2
  clear hat2 hbel2 HR1 HB1 hb2
  go_wp2_with fail
  go_loopw [7] (fun i wr => ∃ (k : Nat) (s : Option Nat), k ≤ ln ∧ i = .int .i64 k ∧ RdrAt wr b1 A1 n1 c1 l s ∧ RefAt wr b2 A n1 c l s ∧ Below w.heap.size w wr) (fun i _ => ln - (intOf i).toNat)
  case atStart => exact ⟨0, some 0, Nat.zero_le _, rfl, HT1.out, HT2.out, HB2.out⟩
  case round =>
    obtain ⟨k, s, hk, rfl, hat1, hat2, hbel⟩ := hrel
    clear HT1 HT2 HB2
    have HT1 := Lib.hid hat1
    have HT2 := Lib.hid hat2
    have HB := Lib.hid hbel
    have HPr := Lib.hid (HP.out.below hbel)
    clear hat1 hat2 hbel
    by_cases hlt : k < ln
    · obtain ⟨lb, off, rfl, hlb, hcs⟩ := HP.out.2.2 (by omega)
      obtain ⟨⟨c0', c1', c2', c3', c4'⟩, hin, hii, hss⟩ := hcs k hlt
      have c0 := (HB.out.cell (p := ⟨lb, off + k * 5, none⟩) hlb).trans c0'
      have hz : wr.cell? ⟨lb, off + k * 5 + 2, none⟩ = some (.int .i64 (f k).z) := (HB.out.cell (p := ⟨lb, off + k * 5 + 2, none⟩) hlb).trans c2'
      have hne1 : some lb ≠ some b1 := fun e => absurd (Option.some.inj e) (by omega)
      have hne2 : some lb ≠ some b2 := fun e => absurd (Option.some.inj e) (by omega)
      have HE : Hid (some b2 ≠ some b1 ∧ (0 < n1 → ∀ a, A = some a → some a.block ≠ some b1)) := Lib.hid ⟨fun e => absurd (Option.some.inj e) (by omega), fun h0 a e x => absurd (Option.some.inj x) (by have := HAlt.out h0 a e; omega)⟩
      have HF : Hid (some b1 ≠ some b2 ∧ (0 < n1 → ∀ a, A1 = some a → some a.block ≠ some b2)) := Lib.hid ⟨fun e => absurd (Option.some.inj e) (by omega), fun h0 a e x => absurd (Option.some.inj x) (by have := HA1.out a e; omega)⟩
      have HS := Lib.hid (And.intro hin (And.intro hii hss))
      clear hcs c0' c1' c2' c3' c4' hin hii hss
      by_cases hd0 : (f k).d = 0
      · have hd : ((f k).d == 0) = true := by simpa using hd0
        go_wp2_with fail
        go_region_held3 (fun W => W.cell? ⟨lb, off + k * 5 + 2, none⟩ = some (.int .i64 (f k).z)) (first | exact hz | exact hz1 | exact hz2)
          ((first
            | (go_at_call 9; refine (rdNum b1 A1 n1 c1 l s (f k).z _ (HT1.out.drewN _)).mono ?_; rintro e w3 ⟨rfl, hat3, hg3⟩; have hz1 := hg3.cell hz hne1)
            | (go_at_call 10; refine (refNum b2 A n1 c l s (f k).z _ ((HT2.out.drewN _).kept hg3 HE.out.1 HE.out.2)).mono ?_; rintro e w4 ⟨rfl, hat4, hg4⟩; have hz2 := hg4.cell hz1 hne2)))
        generalize (numS l s (f k).z).2 = v at *
        generalize (numS l s (f k).z).1 = s' at *
        simp only [Exit.then]
        have HB4 := Lib.hid (below_row (below_row (below_drewN HB.out 1) hg3 hb1 HB.out.size) hg4 hle2 (Nat.le_trans HB.out.size hg3.size))
        have HT3 := Lib.hid ((hat3.kept hg4 HF.out.1 HF.out.2))
        clear hg3 hg4 hat3 hz hz1 hz2
        cases s' with
        | none =>
          have q1 := hat4.n1
          have q2 := hat4.n2
          have HT4 := Lib.hid hat4
          clear hat4
          go_wp2_with fail
          go_quiet (first
            | (go_at_call 18; refine Calls.quiet_of_same ((rdOk_no b1 A1 n1 c1 l _ (HT3.out.drewN _)).mono fun e w' h => ⟨h.1, h.2.symm⟩))
            | (go_at_call 19; refine Calls.quiet_of_same ((rdAt_no b1 A1 n1 c1 l _ (HT3.out.drewN _)).mono fun e w' h => ⟨h.1, h.2.symm⟩))
            | (go_at_call 20; refine Calls.quiet_of (rdMore b1 A1 n1 c1 l none _ (HT3.out.drewN _)))
            | (go_at_call 21; refine Calls.quiet_of (refMore b2 A n1 c l none _ (HT4.out.drewN _))))
          go_wp2_with fail
          go_roundw
          case rel => exact ⟨k + 1, none, by omega, by go_num, HT3.out.drewN _, HT4.out.drewN _, below_drewN HB4.out _⟩
          case measure => simp [intOf]; omega
        | some p =>
          have q1 := hat4.y1
          have q2 := hat4.y2
          have HT4 := Lib.hid hat4
          clear hat4
          go_wp2_with fail
          go_quiet (first
            | (go_at_call 18; refine Calls.quiet_of_same ((rdOk_yes b1 A1 n1 c1 l p _ (HT3.out.drewN _)).mono fun e w' h => ⟨h.1, h.2.symm⟩))
            | (go_at_call 19; refine Calls.quiet_of_same ((rdAt_yes b1 A1 n1 c1 l p _ (HT3.out.drewN _)).mono fun e w' h => ⟨h.1, h.2.symm⟩))
            | (go_at_call 20; refine Calls.quiet_of (rdMore b1 A1 n1 c1 l (some p) _ (HT3.out.drewN _)))
            | (go_at_call 21; refine Calls.quiet_of (refMore b2 A n1 c l (some p) _ (HT4.out.drewN _))))
          go_wp2_with fail
          go_roundw
          case rel => exact ⟨k + 1, some p, by omega, by go_num, HT3.out.drewN _, HT4.out.drewN _, below_drewN HB4.out _⟩
          case measure => simp [intOf]; omega
      · have hd : ((f k).d == 0) = false := by simpa using hd0
        clear hz hne1 hne2
        by_cases hd1 : (f k).d = 1
        · have hdd : ((f k).d == 1) = true := by simpa using hd1
          go_wp2_with fail
          refine (rdInt b1 A1 n1 c1 l s _ HT1.out).mono ?_
          rintro e w3 ⟨rfl, hat3, hg3⟩
          go_wp2_with fail
          refine (refInt3 b2 A n1 c l s _ (HT2.out.kept hg3 HE.out.1 HE.out.2)).mono ?_
          rintro e w4 ⟨rfl, hat4, hg4⟩
          generalize (intS l s).2 = v at *
          generalize ((intS l s).1) = s' at *
          have HB4 := Lib.hid (below_row (below_row HB.out hg3 hb1 HB.out.size) hg4 hle2 (Nat.le_trans HB.out.size hg3.size))
          have HT3 := Lib.hid ((hat3.kept hg4 HF.out.1 HF.out.2))
          clear hg3 hg4 hat3 
          cases s' with
          | none =>
            have q1 := hat4.n1
            have q2 := hat4.n2
            have HT4 := Lib.hid hat4
            clear hat4
            go_wp2_with fail
            go_quiet (first
              | (go_at_call 18; refine Calls.quiet_of_same ((rdOk_no b1 A1 n1 c1 l _ (HT3.out.drewN _)).mono fun e w' h => ⟨h.1, h.2.symm⟩))
              | (go_at_call 19; refine Calls.quiet_of_same ((rdAt_no b1 A1 n1 c1 l _ (HT3.out.drewN _)).mono fun e w' h => ⟨h.1, h.2.symm⟩))
              | (go_at_call 20; refine Calls.quiet_of (rdMore b1 A1 n1 c1 l none _ (HT3.out.drewN _)))
              | (go_at_call 21; refine Calls.quiet_of (refMore b2 A n1 c l none _ (HT4.out.drewN _))))
            go_wp2_with fail
            go_roundw
            case rel => exact ⟨k + 1, none, by omega, by go_num, HT3.out.drewN _, HT4.out.drewN _, below_drewN HB4.out _⟩
            case measure => simp [intOf]; omega
          | some p =>
            have q1 := hat4.y1
            have q2 := hat4.y2
            have HT4 := Lib.hid hat4
            clear hat4
            go_wp2_with fail
            go_quiet (first
              | (go_at_call 18; refine Calls.quiet_of_same ((rdOk_yes b1 A1 n1 c1 l p _ (HT3.out.drewN _)).mono fun e w' h => ⟨h.1, h.2.symm⟩))
              | (go_at_call 19; refine Calls.quiet_of_same ((rdAt_yes b1 A1 n1 c1 l p _ (HT3.out.drewN _)).mono fun e w' h => ⟨h.1, h.2.symm⟩))
              | (go_at_call 20; refine Calls.quiet_of (rdMore b1 A1 n1 c1 l (some p) _ (HT3.out.drewN _)))
              | (go_at_call 21; refine Calls.quiet_of (refMore b2 A n1 c l (some p) _ (HT4.out.drewN _))))
            go_wp2_with fail
            go_roundw
            case rel => exact ⟨k + 1, some p, by omega, by go_num, HT3.out.drewN _, HT4.out.drewN _, below_drewN HB4.out _⟩
            case measure => simp [intOf]; omega
        · have hdd : ((f k).d == 1) = false := by simpa using hd1
          by_cases hd2 : (f k).d = 2
          · have hd3 : ((f k).d == 2) = true := by simpa using hd2
            go_wp2_with fail
            refine (rdText b1 A1 n1 c1 l s _ HT1.out).mono ?_
            rintro e w3 ⟨rfl, hat3, hg3⟩
            go_wp2_with fail
            refine (refText b2 A n1 c l s _ (HT2.out.kept hg3 HE.out.1 HE.out.2)).mono ?_
            rintro e w4 ⟨rfl, hat4, hg4⟩
            generalize (strOfNums (countS l s 2).2) = v at *
            generalize ((countS l s 2).1) = s' at *
            have HB4 := Lib.hid (below_row (below_row HB.out hg3 hb1 HB.out.size) hg4 hle2 (Nat.le_trans HB.out.size hg3.size))
            have HT3 := Lib.hid ((hat3.kept hg4 HF.out.1 HF.out.2))
            clear hg3 hg4 hat3 
            cases s' with
            | none =>
              have q1 := hat4.n1
              have q2 := hat4.n2
              have HT4 := Lib.hid hat4
              clear hat4
              go_wp2_with fail
              go_quiet (first
                | (go_at_call 18; refine Calls.quiet_of_same ((rdOk_no b1 A1 n1 c1 l _ (HT3.out.drewN _)).mono fun e w' h => ⟨h.1, h.2.symm⟩))
                | (go_at_call 19; refine Calls.quiet_of_same ((rdAt_no b1 A1 n1 c1 l _ (HT3.out.drewN _)).mono fun e w' h => ⟨h.1, h.2.symm⟩))
                | (go_at_call 20; refine Calls.quiet_of (rdMore b1 A1 n1 c1 l none _ (HT3.out.drewN _)))
                | (go_at_call 21; refine Calls.quiet_of (refMore b2 A n1 c l none _ (HT4.out.drewN _))))
              go_wp2_with fail
              go_roundw
              case rel => exact ⟨k + 1, none, by omega, by go_num, HT3.out.drewN _, HT4.out.drewN _, below_drewN HB4.out _⟩
              case measure => simp [intOf]; omega
            | some p =>
              have q1 := hat4.y1
              have q2 := hat4.y2
              have HT4 := Lib.hid hat4
              clear hat4
              go_wp2_with fail
              go_quiet (first
                | (go_at_call 18; refine Calls.quiet_of_same ((rdOk_yes b1 A1 n1 c1 l p _ (HT3.out.drewN _)).mono fun e w' h => ⟨h.1, h.2.symm⟩))
                | (go_at_call 19; refine Calls.quiet_of_same ((rdAt_yes b1 A1 n1 c1 l p _ (HT3.out.drewN _)).mono fun e w' h => ⟨h.1, h.2.symm⟩))
                | (go_at_call 20; refine Calls.quiet_of (rdMore b1 A1 n1 c1 l (some p) _ (HT3.out.drewN _)))
                | (go_at_call 21; refine Calls.quiet_of (refMore b2 A n1 c l (some p) _ (HT4.out.drewN _))))
              go_wp2_with fail
              go_roundw
              case rel => exact ⟨k + 1, some p, by omega, by go_num, HT3.out.drewN _, HT4.out.drewN _, below_drewN HB4.out _⟩
              case measure => simp [intOf]; omega
          · have hd3 : ((f k).d == 2) = false := by simpa using hd2
            go_wp2_with fail
            refine (rdPart b1 A1 n1 c1 l s _ HT1.out).mono ?_
            rintro e w3 ⟨A3, n3, c3, rfl, hr3, hat3, hg3⟩
            have HR3 := Lib.hid hr3
            have HT5 := Lib.hid (HT2.out.kept hg3 HE.out.1 HE.out.2)
            have HA3 := Lib.hid (HT5.out.off hr3)
            clear hr3
            go_wp2_with fail
            refine (refPart b2 A n1 c l s _ HT5.out).mono ?_
            rintro e w4 ⟨A4, n4, c4, rfl, hr4, hat4, hg4⟩
            have HR4 := Lib.hid hr4
            clear hr4
            go_wp2_with fail
            refine (refSame _ _ _ _ _ _ _ _ _ (HR3.out.grown hg4 HA3.out) HR4.out).mono ?_
            rintro e w5 ⟨rfl, m5, rfl⟩
            rw [decide_eq_true rfl]
            generalize ((countS l s 4).1) = s' at *
            have HB4 := Lib.hid (below_drewN (below_row (below_row HB.out hg3 hb1 HB.out.size) hg4 hle2 (Nat.le_trans HB.out.size hg3.size)) m5)
            have HT3 := Lib.hid ((hat3.kept hg4 HF.out.1 HF.out.2).drewN m5)
            have hat4 := hat4.drewN m5
            clear hg3 hg4 hat3 
            generalize w4.drewN m5 = w5 at *
            cases s' with
            | none =>
              have q1 := hat4.n1
              have q2 := hat4.n2
              have HT4 := Lib.hid hat4
              clear hat4
              go_wp2_with fail
              go_quiet (first
                | (go_at_call 18; refine Calls.quiet_of_same ((rdOk_no b1 A1 n1 c1 l _ (HT3.out.drewN _)).mono fun e w' h => ⟨h.1, h.2.symm⟩))
                | (go_at_call 19; refine Calls.quiet_of_same ((rdAt_no b1 A1 n1 c1 l _ (HT3.out.drewN _)).mono fun e w' h => ⟨h.1, h.2.symm⟩))
                | (go_at_call 20; refine Calls.quiet_of (rdMore b1 A1 n1 c1 l none _ (HT3.out.drewN _)))
                | (go_at_call 21; refine Calls.quiet_of (refMore b2 A n1 c l none _ (HT4.out.drewN _))))
              go_wp2_with fail
              go_roundw
              case rel => exact ⟨k + 1, none, by omega, by go_num, HT3.out.drewN _, HT4.out.drewN _, below_drewN HB4.out _⟩
              case measure => simp [intOf]; omega
            | some p =>
              have q1 := hat4.y1
              have q2 := hat4.y2
              have HT4 := Lib.hid hat4
              clear hat4
              go_wp2_with fail
              go_quiet (first
                | (go_at_call 18; refine Calls.quiet_of_same ((rdOk_yes b1 A1 n1 c1 l p _ (HT3.out.drewN _)).mono fun e w' h => ⟨h.1, h.2.symm⟩))
                | (go_at_call 19; refine Calls.quiet_of_same ((rdAt_yes b1 A1 n1 c1 l p _ (HT3.out.drewN _)).mono fun e w' h => ⟨h.1, h.2.symm⟩))
                | (go_at_call 20; refine Calls.quiet_of (rdMore b1 A1 n1 c1 l (some p) _ (HT3.out.drewN _)))
                | (go_at_call 21; refine Calls.quiet_of (refMore b2 A n1 c l (some p) _ (HT4.out.drewN _))))
              go_wp2_with fail
              go_roundw
              case rel => exact ⟨k + 1, some p, by omega, by go_num, HT3.out.drewN _, HT4.out.drewN _, below_drewN HB4.out _⟩
              case measure => simp [intOf]; omega
    · obtain rfl : k = ln := by omega
      go_wp2_with fail
      refine (live_any _).mono ?_
      rintro e w' ⟨rfl, hb⟩
      have HB3 := Lib.hid (HB.out.trans (hb.mono HB.out.size))
      clear hb
      go_wp2_with fail
      go_ret
      exact ⟨rfl, HB3.out⟩
end Go.Proofs.Ytjihgpjpmfeakaa
