/- How deep an expression is, whether it is a constant: of the program's text. Conditions: none. Which expressions are the same, of the program's text. Conditions: none. Which expressions are the same, of the program's text: subs and all. Conditions: none. Numbers that are 0 or 1; arms, of the program's text. Conditions: at most 100 arms. -/
import Derived.Test.YtapnodhgjfbjjaaGreatExN
import Derived.Test.YtapnodhgjfbjjaaGreatExS
import Derived.Test.YtapnodhgjfbjjaaGreatExV
namespace Go.Proofs.YtapnodhgjfbjjaaGreat
open Go.RowKit Go.Sort
set_option linter.unusedVariables false
set_option linter.unusedSimpArgs false

set_option maxRecDepth 100000 in
set_option maxHeartbeats 8000000 in
theorem exSingle (x : Ex) (A : Option Addr) (ca : Nat) (B : Option Addr) (cb : Nat) (w : World) (hr : rdX w x A B) :
    Calls Tryz.prog 101 #[.agg (exA x A ca B cb)] w fun e w' => e = .returned (.bool (literalX x)) ∧ Below w.heap.size w w' := by
  have HF := Lib.hid fun w1 h => box_facts w x A ca B cb w1 h hr
  have HS := Lib.hid (show literalX x = if x.k == 5 then (x.op == 1) && (x.subs.length == 1) && ((subX x 0).k == 1) else (x.k == 1) || (x.k == 2) || (x.k == 4) from rfl)
  have hmx := hr.subs.max
  clear hr
  unfold exA at HF ⊢
  generalize literalX x = res at *
  generalize x.k = k at *
  generalize x.op = o at *
  generalize hlen : x.subs.length = n at *
  have hln := int_len n
  by_cases h1 : k = 1
  · subst h1
    have HN := Lib.hid (show res = true by rw [HS.out]; rfl)
    go_enter Tryz.func101, Tryz.ntmps101
    go_upto_region 1 with (fail)
    generalize hw1 : w.alloc _ = w1
    obtain ⟨hb1, hg, hr1, hcell⟩ := HF.out w1 hw1
    have HB1 := Lib.hid hb1
    have q0 := hcell w1 (Below.refl _ _) 0
    clear hcell hb1 hr1 hw1 HF
    go_wp2_with fail
    go_ret
    exact ⟨ret_bool HN.out.symm, HB1.out⟩
  by_cases h2 : k = 2
  · subst h2
    have HN := Lib.hid (show res = true by rw [HS.out]; rfl)
    go_enter Tryz.func101, Tryz.ntmps101
    go_upto_region 1 with (fail)
    generalize hw1 : w.alloc _ = w1
    obtain ⟨hb1, hg, hr1, hcell⟩ := HF.out w1 hw1
    have HB1 := Lib.hid hb1
    have q0 := hcell w1 (Below.refl _ _) 0
    clear hcell hb1 hr1 hw1 HF
    go_wp2_with fail
    go_ret
    exact ⟨ret_bool HN.out.symm, HB1.out⟩
  by_cases h4 : k = 4
  · subst h4
    have HN := Lib.hid (show res = true by rw [HS.out]; rfl)
    go_enter Tryz.func101, Tryz.ntmps101
    go_upto_region 1 with (fail)
    generalize hw1 : w.alloc _ = w1
    obtain ⟨hb1, hg, hr1, hcell⟩ := HF.out w1 hw1
    have HB1 := Lib.hid hb1
    have q0 := hcell w1 (Below.refl _ _) 0
    clear hcell hb1 hr1 hw1 HF
    go_wp2_with fail
    go_ret
    exact ⟨ret_bool HN.out.symm, HB1.out⟩
  by_cases h5 : k = 5
  · subst h5
    cases ho : (o == 1) with
    | false =>
      have HN := Lib.hid (show res = false by rw [HS.out, ho]; rfl)
      go_enter Tryz.func101, Tryz.ntmps101
      go_upto_region 1 with (fail)
      generalize hw1 : w.alloc _ = w1
      obtain ⟨hb1, hg, hr1, hcell⟩ := HF.out w1 hw1
      have HB1 := Lib.hid hb1
      have q0 := hcell w1 (Below.refl _ _) 0
      have q3 := hcell w1 (Below.refl _ _) 3
      have q5 := hcell w1 (Below.refl _ _) 5
      clear hcell hb1 hr1 hw1 HF
      go_wp2_with fail
      go_ret
      exact ⟨ret_bool HN.out.symm, HB1.out⟩
    | true =>
      cases hl : (n == 1) with
      | false =>
        have HN := Lib.hid (show res = false by rw [HS.out, ho, hl]; rfl)
        rw [hl] at hln
        go_enter Tryz.func101, Tryz.ntmps101
        go_upto_region 1 with (fail)
        generalize hw1 : w.alloc _ = w1
        obtain ⟨hb1, hg, hr1, hcell⟩ := HF.out w1 hw1
        have HB1 := Lib.hid hb1
        have q0 := hcell w1 (Below.refl _ _) 0
        have q3 := hcell w1 (Below.refl _ _) 3
        have q5 := hcell w1 (Below.refl _ _) 5
        clear hcell hb1 hr1 hw1 HF
        go_wp2_with fail
        go_ret
        exact ⟨ret_bool HN.out.symm, HB1.out⟩
      | true =>
        have HN := Lib.hid (show res = ((subX x 0).k == 1) by rw [HS.out, ho, hl]; rfl)
        rw [hl] at hln
        obtain rfl : n = 1 := by simpa using hl
        go_enter Tryz.func101, Tryz.ntmps101
        go_upto_region 1 with (fail)
        generalize hw1 : w.alloc _ = w1
        obtain ⟨hb1, hg, hr1, hcell⟩ := HF.out w1 hw1
        have HB1 := Lib.hid hb1
        have q0 := hcell w1 (Below.refl _ _) 0
        have q3 := hcell w1 (Below.refl _ _) 3
        have q5 := hcell w1 (Below.refl _ _) 5
        obtain ⟨b, off, rfl, hb, hat⟩ := hr1.sub (i := 0) (by omega)
        obtain ⟨A', ca', B', cb', hrg, hrd⟩ := hat 0 (by omega)
        rw [Nat.zero_mul, Nat.add_zero] at hrg
        obtain ⟨c0, c1, c2, c3, c4, c5⟩ := rangeAt_six hrg
        clear hat hrg hrd c1 c2 c3 c4 c5
        clear hcell hb1 hr1 hw1 HF
        generalize (subX x 0).k = z at *
        go_wp2_with fail
        go_ret
        exact ⟨ret_bool HN.out.symm, HB1.out⟩
  have e1 : (k == 1) = false := by simpa using h1
  have e2 : (k == 2) = false := by simpa using h2
  have e4 : (k == 4) = false := by simpa using h4
  have e5 : (k == 5) = false := by simpa using h5
  have HN := Lib.hid (show res = false by rw [HS.out, e5, e1, e2, e4]; rfl)
  go_enter Tryz.func101, Tryz.ntmps101
  go_upto_region 1 with (fail)
  generalize hw1 : w.alloc _ = w1
  obtain ⟨hb1, hg, hr1, hcell⟩ := HF.out w1 hw1
  have HB1 := Lib.hid hb1
  have q0 := hcell w1 (Below.refl _ _) 0
  clear hcell hb1 hr1 hw1 HF
  go_wp2_with fail
  go_ret
  exact ⟨ret_bool HN.out.symm, HB1.out⟩

set_option maxRecDepth 100000 in
set_option maxHeartbeats 8000000 in
theorem exConst (x : Ex) (A : Option Addr) (ca : Nat) (B : Option Addr) (cb : Nat) (w : World) (hr : rdX w x A B) :
    Calls Tryz.prog 93 #[.agg (exA x A ca B cb)] w fun e w' => e = .returned (.bool (constX x)) ∧ Below w.heap.size w w' := by
  have HF := Lib.hid fun w1 h => box_facts w x A ca B cb w1 h hr
  have HS := Lib.hid (show constX x = if x.k == 14 then x.subs.all literalX else literalX x from rfl)
  have hmx := hr.subs.max
  have HLT := Lib.hid fun (x : Ex) (A : Option Addr) (ca : Nat) (B : Option Addr) (cb : Nat) (w : World) (hr : rdX w x A B) => exSingle x A ca B cb w hr
  have HBX := Lib.hid fun (x : Ex) (A : Option Addr) (ca : Nat) (B : Option Addr) (cb : Nat) (w w1 : World) (h : _) (hr : rdX w x A B) => box_facts w x A ca B cb w1 h hr
  have HAL := Lib.hid fun i (hi : i < x.subs.length) (h : literalX (subX x i) = false) => all_false (f := literalX) hi h
  have HAS := Lib.hid fun k (hk : k < x.subs.length) h (hx : literalX (subX x k) = true) => all_take_succ (f := literalX) hk h hx
  have HAE := Lib.hid fun k h (hk : x.subs.length ≤ k) => all_take_end (l := x.subs) (f := literalX) (k := k) h hk
  have HLX := Lib.hid fun w1 (h : rdX w1 x A B) => exSingle x A ca B cb w1 h
  clear hr
  unfold exA at HF HLT HLX HBX ⊢
  generalize constX x = res at *
  generalize literalX x = lx at *
  generalize x.k = k at *
  generalize hlen : x.subs.length = n at *
  cases h14 : (k == 14) with
  | false =>
    have n14 : (k != 14) = true := by rw [bne, h14]; rfl
    have HN := Lib.hid (show res = lx by rw [HS.out, h14]; rfl)
    go_enter Tryz.func93, Tryz.ntmps93
    go_upto_region 1 with (fail)
    generalize hw1 : w.alloc _ = w1
    obtain ⟨hb1, hg, hr1, hcell⟩ := HF.out w1 hw1
    have HB1 := Lib.hid hb1
    have q0 := hcell w1 (Below.refl _ _) 0
    have q1 := hcell w1 (Below.refl _ _) 1
    have q2 := hcell w1 (Below.refl _ _) 2
    have q3 := hcell w1 (Below.refl _ _) 3
    have q4 := hcell w1 (Below.refl _ _) 4
    have q5 := hcell w1 (Below.refl _ _) 5
    have HL1 := Lib.hid (HLX.out w1 hr1)
    clear hcell hb1 hr1 hw1 HF
    go_wp2_with fail
    refine HL1.out.mono ?_
    rintro r w2 ⟨rfl, hb2⟩
    have HB2 := Lib.hid (HB1.out.trans (hb2.mono HB1.out.size))
    clear hb2
    go_wp2_with fail
    go_ret
    exact ⟨ret_bool HN.out.symm, HB2.out⟩
  | true =>
    obtain rfl : k = 14 := by simpa using h14
    have HN := Lib.hid (show res = x.subs.all literalX by rw [HS.out]; rfl)
    go_enter Tryz.func93, Tryz.ntmps93
    go_upto_region 1 with (fail)
    generalize hw1 : w.alloc _ = w1
    obtain ⟨hb1, hg, hr1, hcell⟩ := HF.out w1 hw1
    have HB1 := Lib.hid hb1
    have q0 := hcell w1 (Below.refl _ _) 0
    have q5 := hcell w1 (Below.refl _ _) 5
    have HC := Lib.hid hcell
    have HR1 := Lib.hid hr1
    clear hcell hb1 hr1 hw1 HF
    go_wp2_with fail
    go_loopw [13] (fun i wr => ∃ k : Nat, k ≤ n ∧ i = .int .i64 k ∧ (x.subs.take k).all literalX = true ∧ Below w1.heap.size w1 wr) (fun i _ => n - (intOf i).toNat)
    case atStart => exact ⟨0, Nat.zero_le _, rfl, by simp, Below.refl _ _⟩
    case round =>
      obtain ⟨k, hk, rfl, hall, hbw⟩ := hrel
      have HA := Lib.hid hall
      have HBW := Lib.hid hbw
      clear hall
      by_cases hlt : k < n
      · obtain ⟨b, off, rfl, hb, hat⟩ := (HR1.out.below hbw).sub (i := k) (by omega)
        obtain ⟨A', ca', B', cb', hrg, hrd⟩ := hat k (by omega)
        obtain ⟨c0, c1, c2, c3, c4, c5⟩ := rangeAt_six hrg
        have HF3 := Lib.hid fun w3 h => HBX.out (subX x k) A' ca' B' cb' wr w3 h hrd
        have HAL' := Lib.hid (HAL.out k (by omega))
        have HAS' := Lib.hid (HAS.out k (by omega) HA.out)
        clear hat hbw hrg hrd
        go_upto_region 6 with (fail)
        generalize hw3 : wr.alloc _ = w3
        obtain ⟨hb3, hg3, hr3, hcell3⟩ := HF3.out w3 hw3
        have d0 := hcell3 w3 (Below.refl _ _) 0
        have d1 := hcell3 w3 (Below.refl _ _) 1
        have d2 := hcell3 w3 (Below.refl _ _) 2
        have d3 := hcell3 w3 (Below.refl _ _) 3
        have d4 := hcell3 w3 (Below.refl _ _) 4
        have d5 := hcell3 w3 (Below.refl _ _) 5
        have HCL := Lib.hid (HLT.out (subX x k) A' ca' B' cb' w3 hr3)
        have HB3 := Lib.hid (HBW.out.trans (hb3.mono HBW.out.size))
        clear hcell3 hb3 hr3 hw3 HF3
        cases hl : literalX (subX x k) with
        | false =>
          rw [hl] at HCL
          have HF' := Lib.hid (HAL'.out hl)
          go_wp2_with fail
          refine HCL.out.mono ?_
          rintro r w2 ⟨rfl, hb2⟩
          have HB2 := Lib.hid (HB3.out.trans (hb2.mono HB3.out.size))
          clear hb2
          go_wp2_with fail
          go_ret
          exact ⟨ret_bool (by rw [HN.out, HF'.out]), HB1.out.trans (HB2.out.mono HB1.out.size)⟩
        | true =>
          rw [hl] at HCL
          have HF' := Lib.hid (HAS'.out hl)
          go_wp2_with fail
          refine HCL.out.mono ?_
          rintro r w2 ⟨rfl, hb2⟩
          have HB2 := Lib.hid (HB3.out.trans (hb2.mono HB3.out.size))
          clear hb2
          go_wp2_with fail
          go_roundw
          case rel => exact ⟨k + 1, by omega, by go_num, HF'.out, HB2.out⟩
          case measure => simp [intOf]; omega
      · have HE := Lib.hid (HAE.out k HA.out (by omega))
        go_wp2_with fail
        go_ret
        exact ⟨ret_bool (by rw [HN.out, HE.out]), HB1.out.trans (HBW.out.mono HB1.out.size)⟩

set_option maxRecDepth 100000 in
set_option maxHeartbeats 8000000 in
theorem exDepth : ∀ (x : Ex) (A : Option Addr) (ca : Nat) (B : Option Addr) (cb : Nat) (w : World), rdX w x A B → sizeX x ≤ 1000000 →
    Calls Tryz.prog 75 #[.agg (exA x A ca B cb)] w fun e w' => e = .returned (.int .i64 (depthX x : Nat)) ∧ Below w.heap.size w w' := by
  refine size_ind fun x ih A ca B cb w hr hs => ?_
  have HIH := Lib.hid ih
  have HSZ := Lib.hid (depthX_eq x)
  have hds := depth_size x
  have hsz := depthX_eq x
  have hmx := hr.subs.max
  have HF := Lib.hid fun w1 h => box_facts w x A ca B cb w1 h hr
  have HBX := Lib.hid fun (x : Ex) (A : Option Addr) (ca : Nat) (B : Option Addr) (cb : Nat) (w w1 : World) (h : _) (hr : rdX w x A B) => box_facts w x A ca B cb w1 h hr
  have HSN := Lib.hid fun i (hi : i < x.subs.length) => depths_snoc hi
  have HSUB := Lib.hid fun i (hi : i < x.subs.length) => (size_sub (subX_mem hi))
  have HTL := Lib.hid (List.take_length (l := x.subs))
  clear ih hr
  unfold exA at HF HIH HBX ⊢
  generalize hlen : x.subs.length = len at *
  go_enter Tryz.func75, Tryz.ntmps75
  go_upto_region 1 with (fail)
  generalize hw1 : w.alloc _ = w1
  obtain ⟨hb1, hg, hr1, hcell⟩ := HF.out w1 hw1
  have HB1 := Lib.hid hb1
  have q5 := hcell w1 (Below.refl _ _) 5
  have HR1 := Lib.hid hr1
  clear hcell hb1 hr1 hw1 HF
  go_wp2_with fail
  go_loopw [3, 9] (fun s i wr => ∃ k : Nat, k ≤ len ∧ i = .int .i64 k ∧ s = .int .i64 ((depthsX (x.subs.take k) : Nat) : Int) ∧ Below w1.heap.size w1 wr) (fun _ i _ => len - (intOf i).toNat)
  case atStart => exact ⟨0, Nat.zero_le _, rfl, by simp [depthsX], Below.refl _ _⟩
  case round =>
    obtain ⟨k, hk, rfl, rfl, hbw⟩ := hrel
    have HBW := Lib.hid hbw
    by_cases hlt : k < len
    · obtain ⟨b, off, rfl, hb, hat⟩ := (HR1.out.below hbw).sub (i := k) (by omega)
      obtain ⟨A', ca', B', cb', hrg, hrd⟩ := hat k (by omega)
      obtain ⟨c0, c1, c2, c3, c4, c5⟩ := rangeAt_six hrg
      have HF3 := Lib.hid fun w3 h => HBX.out (subX x k) A' ca' B' cb' wr w3 h hrd
      have HSNK := Lib.hid (HSN.out k (by omega))
      clear hat hbw hrg hrd
      have hss := HSUB.out k (by omega)
      go_upto_region 5 with (fail)
      generalize hw3 : wr.alloc _ = w3
      obtain ⟨hb3, hg3, hr3, hcell3⟩ := HF3.out w3 hw3
      have d0 := hcell3 w3 (Below.refl _ _) 0
      have d1 := hcell3 w3 (Below.refl _ _) 1
      have d2 := hcell3 w3 (Below.refl _ _) 2
      have d3 := hcell3 w3 (Below.refl _ _) 3
      have d4 := hcell3 w3 (Below.refl _ _) 4
      have d5 := hcell3 w3 (Below.refl _ _) 5
      have HCL := Lib.hid (HIH.out k (by omega) A' ca' B' cb' w3 hr3 (by omega))
      have HB3 := Lib.hid (HBW.out.trans (hb3.mono HBW.out.size))
      clear hcell3 hb3 hr3 hw3 HF3
      go_wp2_with fail
      refine HCL.out.mono ?_
      rintro r w2 ⟨rfl, hb2⟩
      have HB2 := Lib.hid (HB3.out.trans (hb2.mono HB3.out.size))
      clear hb2
      go_wp2_with fail
      go_roundw
      case rel =>
        refine ⟨k + 1, by omega, by go_num, ?_, HB2.out⟩
        rw [HSNK.out]
        first | rfl | (congr 1; omega) | (simp; done) | skip
      case measure => simp [intOf]; omega
    · have hkl : k = len := by omega
      subst hkl
      have HE := Lib.hid (hlen ▸ HTL.out : x.subs.take k = x.subs)
      rw [HE.out]
      generalize depthsX x.subs = d at *
      go_wp2_with fail
      go_ret
      refine ⟨?_, HB1.out.trans (HBW.out.mono HB1.out.size)⟩
      rw [HSZ.out, Nat.add_comm]
      rfl
end Go.Proofs.YtapnodhgjfbjjaaGreat

namespace Go.Proofs.YtapnodhgjfbjjaaGreat
open Go.RowKit Go.Sort
set_option linter.unusedVariables false
set_option linter.unusedSimpArgs false

set_option maxRecDepth 100000 in
set_option maxHeartbeats 2000000 in
theorem slEqual (A B : Option Addr) (n m c d : Nat) (ss tt : List ByteArray) (w : World) (hs : RdT w A n ss) (ht : RdT w B m tt) :
    Calls Tryz.prog 95 #[.slice A n c, .slice B m d] w fun r w' => r = .returned (.bool (sameT ss tt)) ∧ Below w.heap.size w w' := by
  have h1 := hs.len
  have h2 := ht.len
  have h3 := hs.max
  have h4 := ht.max
  by_cases hnm : n = m
  · subst hnm
    go_enter Tryz.func95, Tryz.ntmps95
    go_wp2_with fail
    go_loopw [13] (fun i wr => ∃ k : Nat, k ≤ n ∧ i = .int .i64 k ∧ sameTo ss tt k ∧ ∃ p, wr = w.drewN p) (fun i _ => n - (intOf i).toNat)
    case atStart => exact ⟨0, Nat.zero_le _, rfl, fun j hj => absurd hj (by omega), 0, rfl⟩
    case round =>
      obtain ⟨k, hk, rfl, hto, p, rfl⟩ := hrel
      have HT := Lib.hid hto
      clear hto
      by_cases hlt : k < n
      · obtain ⟨b, off, rfl, hb, hc⟩ := hs.at_ hlt
        obtain ⟨b', off', rfl, hb', hc'⟩ := ht.at_ hlt
        have e1 := hc k hlt
        have e2 := hc' k hlt
        have HN := Lib.hid fun h => sameTo_succ HT.out h
        have HF := Lib.hid fun h => sameT_at (a := ss) (b := tt) (k := k) (by omega) (by omega) h
        clear hc hc'
        generalize ss[k]?.getD ByteArray.empty = x at e1 HN HF
        generalize tt[k]?.getD ByteArray.empty = y at e2 HN HF
        by_cases he : (x.toList == y.toList) = true
        · have HN := Lib.hid (HN.out he)
          have hne : (x.toList != y.toList) = false := by simp only [bne, he]; rfl
          go_wp2_with fail
          go_quiet (fail)
          go_wp2_with fail
          go_roundw
          case rel => exact ⟨k + 1, by omega, by go_num, HN.out, _, rfl⟩
          case measure => simp [intOf]; omega
        · have he : (x.toList == y.toList) = false := by simpa using he
          have HF := Lib.hid (HF.out he)
          have hne : (x.toList != y.toList) = true := by simp only [bne, he]; rfl
          go_wp2_with fail
          go_quiet (fail)
          go_wp2_with fail
          go_ret
          exact ⟨ret_bool HF.out.symm, below_drewN (below_drewN (Below.refl _ _) _) _⟩
      · have HY := Lib.hid (sameT_yes (by omega) HT.out (by omega))
        go_wp2_with fail
        go_ret
        exact ⟨ret_bool HY.out.symm, below_drewN (Below.refl _ _) _⟩
  · have hF := Lib.hid (sameT_len (a := ss) (b := tt) (by omega))
    have hne : ((n : Int) != (m : Int)) = true := by rw [bne_iff_ne]; omega
    go_enter Tryz.func95, Tryz.ntmps95
    go_wp2_with fail
    go_ret
    exact ⟨ret_bool hF.out.symm, Below.refl _ _⟩

/-- Whether two expressions have the same fields, whatever their subs are. -/
def fieldsB (x y : Ex) : Bool := (x.k == y.k) && (x.n == y.n) && (x.s.toList == y.s.toList) && (x.op == y.op) && sameT x.arms y.arms
theorem sameX_fields (x y : Ex) : sameX x y = (fieldsB x y && sameXs x.subs y.subs) := sameX_eq x y

set_option maxRecDepth 100000 in
set_option maxHeartbeats 2000000 in
theorem exFields (x : Ex) (A : Option Addr) (ca : Nat) (B : Option Addr) (cb : Nat) (y : Ex) (A' : Option Addr) (ca' : Nat) (B' : Option Addr) (cb' : Nat) (w : World) (hr : rdX w x A B) (hr' : rdX w y A' B') :
    Calls Tryz.prog 85 #[.agg (exA x A ca B cb), .agg (exA y A' ca' B' cb')] w fun e w' => e = .returned (.bool (fieldsB x y)) ∧ Below w.heap.size w w' := by
  have HF := Lib.hid fun w1 h => box2_facts w x y A A' ca ca' B B' cb cb' w1 h hr hr'
  have HNM := Lib.hid fun w1 (h : Below w.heap.size w w1) => slEqual A A' x.arms.length y.arms.length ca ca' x.arms y.arms w1 (hr.below h).arms (hr'.below h).arms
  have HS := Lib.hid (show fieldsB x y = ((x.k == y.k) && (x.n == y.n) && (x.s.toList == y.s.toList) && (x.op == y.op) && sameT x.arms y.arms) from rfl)
  clear hr hr'
  unfold exA at HF ⊢
  generalize fieldsB x y = res at *
  generalize x.k = k1 at *
  generalize y.k = k2 at *
  generalize x.n = m1 at *
  generalize y.n = m2 at *
  generalize x.s = s1 at *
  generalize y.s = s2 at *
  generalize x.op = o1 at *
  generalize y.op = o2 at *
  generalize sameT x.arms y.arms = nb at *
  generalize x.arms.length = a1 at *
  generalize y.arms.length = a2 at *
  generalize x.subs.length = n1 at *
  generalize y.subs.length = n2 at *
  generalize hk : (k1 == k2) = bk at *
  generalize hm : (m1 == m2) = bm at *
  generalize hs : (s1.toList == s2.toList) = bs at *
  generalize ho : (o1 == o2) = bo at *
  cases bk with
  | false =>
    have HN := Lib.hid (show res = false by rw [HS.out]; simp)
    go_enter Tryz.func85, Tryz.ntmps85
    go_upto_region 1 with (fail)
    generalize hw1 : (w.alloc _).alloc _ = w1
    obtain ⟨hb1, hg, hr1, hr2, hcell, hcell2⟩ := HF.out w1 hw1
    have HB1 := Lib.hid hb1
    have q0 := hcell w1 (Below.refl _ _) 0
    have p0 := hcell2 w1 (Below.refl _ _) 0
    have q1 := hcell w1 (Below.refl _ _) 1
    have p1 := hcell2 w1 (Below.refl _ _) 1
    have q2 := hcell w1 (Below.refl _ _) 2
    have p2 := hcell2 w1 (Below.refl _ _) 2
    have q3 := hcell w1 (Below.refl _ _) 3
    have p3 := hcell2 w1 (Below.refl _ _) 3
    have q4 := hcell w1 (Below.refl _ _) 4
    have p4 := hcell2 w1 (Below.refl _ _) 4
    have q5 := hcell w1 (Below.refl _ _) 5
    have p5 := hcell2 w1 (Below.refl _ _) 5
    clear hcell hcell2 hb1 hr1 hr2 hw1 HF
    go_wp2_with fail
    go_ret
    exact ⟨ret_bool HN.out.symm, HB1.out⟩
  | true =>
    cases bm with
    | false =>
      have HN := Lib.hid (show res = false by rw [HS.out]; simp)
      go_enter Tryz.func85, Tryz.ntmps85
      go_upto_region 1 with (fail)
      generalize hw1 : (w.alloc _).alloc _ = w1
      obtain ⟨hb1, hg, hr1, hr2, hcell, hcell2⟩ := HF.out w1 hw1
      have HB1 := Lib.hid hb1
      have q0 := hcell w1 (Below.refl _ _) 0
      have p0 := hcell2 w1 (Below.refl _ _) 0
      have q1 := hcell w1 (Below.refl _ _) 1
      have p1 := hcell2 w1 (Below.refl _ _) 1
      have q2 := hcell w1 (Below.refl _ _) 2
      have p2 := hcell2 w1 (Below.refl _ _) 2
      have q3 := hcell w1 (Below.refl _ _) 3
      have p3 := hcell2 w1 (Below.refl _ _) 3
      have q4 := hcell w1 (Below.refl _ _) 4
      have p4 := hcell2 w1 (Below.refl _ _) 4
      have q5 := hcell w1 (Below.refl _ _) 5
      have p5 := hcell2 w1 (Below.refl _ _) 5
      clear hcell hcell2 hb1 hr1 hr2 hw1 HF
      go_wp2_with fail
      go_ret
      exact ⟨ret_bool HN.out.symm, HB1.out⟩
    | true =>
      cases bs with
      | false =>
        have HN := Lib.hid (show res = false by rw [HS.out]; simp)
        go_enter Tryz.func85, Tryz.ntmps85
        go_upto_region 1 with (fail)
        generalize hw1 : (w.alloc _).alloc _ = w1
        obtain ⟨hb1, hg, hr1, hr2, hcell, hcell2⟩ := HF.out w1 hw1
        have HB1 := Lib.hid hb1
        have q0 := hcell w1 (Below.refl _ _) 0
        have p0 := hcell2 w1 (Below.refl _ _) 0
        have q1 := hcell w1 (Below.refl _ _) 1
        have p1 := hcell2 w1 (Below.refl _ _) 1
        have q2 := hcell w1 (Below.refl _ _) 2
        have p2 := hcell2 w1 (Below.refl _ _) 2
        have q3 := hcell w1 (Below.refl _ _) 3
        have p3 := hcell2 w1 (Below.refl _ _) 3
        have q4 := hcell w1 (Below.refl _ _) 4
        have p4 := hcell2 w1 (Below.refl _ _) 4
        have q5 := hcell w1 (Below.refl _ _) 5
        have p5 := hcell2 w1 (Below.refl _ _) 5
        clear hcell hcell2 hb1 hr1 hr2 hw1 HF
        go_wp2_with fail
        go_ret
        exact ⟨ret_bool HN.out.symm, HB1.out⟩
      | true =>
        cases bo with
        | false =>
          have HN := Lib.hid (show res = false by rw [HS.out]; simp)
          go_enter Tryz.func85, Tryz.ntmps85
          go_upto_region 1 with (fail)
          generalize hw1 : (w.alloc _).alloc _ = w1
          obtain ⟨hb1, hg, hr1, hr2, hcell, hcell2⟩ := HF.out w1 hw1
          have HB1 := Lib.hid hb1
          have q0 := hcell w1 (Below.refl _ _) 0
          have p0 := hcell2 w1 (Below.refl _ _) 0
          have q1 := hcell w1 (Below.refl _ _) 1
          have p1 := hcell2 w1 (Below.refl _ _) 1
          have q2 := hcell w1 (Below.refl _ _) 2
          have p2 := hcell2 w1 (Below.refl _ _) 2
          have q3 := hcell w1 (Below.refl _ _) 3
          have p3 := hcell2 w1 (Below.refl _ _) 3
          have q4 := hcell w1 (Below.refl _ _) 4
          have p4 := hcell2 w1 (Below.refl _ _) 4
          have q5 := hcell w1 (Below.refl _ _) 5
          have p5 := hcell2 w1 (Below.refl _ _) 5
          clear hcell hcell2 hb1 hr1 hr2 hw1 HF
          go_wp2_with fail
          go_ret
          exact ⟨ret_bool HN.out.symm, HB1.out⟩
        | true =>
          have HN := Lib.hid (show res = nb by rw [HS.out]; simp)
          go_enter Tryz.func85, Tryz.ntmps85
          go_upto_region 1 with (fail)
          generalize hw1 : (w.alloc _).alloc _ = w1
          obtain ⟨hb1, hg, hr1, hr2, hcell, hcell2⟩ := HF.out w1 hw1
          have HB1 := Lib.hid hb1
          have q0 := hcell w1 (Below.refl _ _) 0
          have p0 := hcell2 w1 (Below.refl _ _) 0
          have q1 := hcell w1 (Below.refl _ _) 1
          have p1 := hcell2 w1 (Below.refl _ _) 1
          have q2 := hcell w1 (Below.refl _ _) 2
          have p2 := hcell2 w1 (Below.refl _ _) 2
          have q3 := hcell w1 (Below.refl _ _) 3
          have p3 := hcell2 w1 (Below.refl _ _) 3
          have q4 := hcell w1 (Below.refl _ _) 4
          have p4 := hcell2 w1 (Below.refl _ _) 4
          have q5 := hcell w1 (Below.refl _ _) 5
          have p5 := hcell2 w1 (Below.refl _ _) 5
          have HN1 := Lib.hid (HNM.out w1 hb1)
          clear hcell hcell2 hb1 hr1 hr2 hw1 HF
          go_wp2_with fail
          refine HN1.out.mono ?_
          rintro r w2 ⟨rfl, hb2⟩
          have HB2 := Lib.hid (HB1.out.trans (hb2.mono HB1.out.size))
          clear hb2
          go_wp2_with fail
          go_ret
          exact ⟨ret_bool HN.out.symm, HB2.out⟩

end Go.Proofs.YtapnodhgjfbjjaaGreat

namespace Go.Proofs.YtapnodhgjfbjjaaGreat
open Go.RowKit Go.Sort
set_option linter.unusedVariables false
set_option linter.unusedSimpArgs false

end Go.Proofs.YtapnodhgjfbjjaaGreat

namespace Go.Proofs.YtapnodhgjfbjjaaGreat
open Go.RowKit Go.Sort
set_option linter.unusedVariables false
set_option linter.unusedSimpArgs false

def bitB (n : Int) : Bool := (n == 0) || (n == 1)
set_option maxRecDepth 100000 in
set_option maxHeartbeats 2000000 in
theorem exBit (n : Int) (w : World) : Calls Tryz.prog 91 #[.int .i64 n] w fun e w' => e = .returned (.bool (bitB n)) ∧ w = w' := by
  have HS := Lib.hid (show bitB n = ((n == 0) || (n == 1)) from rfl)
  generalize bitB n = res at *
  cases h0 : (n == 0) <;> cases h1 : (n == 1)
  all_goals (
    rw [h0, h1] at HS
    go_enter Tryz.func91, Tryz.ntmps91
    go_wp2_with fail
    go_ret
    exact ⟨ret_bool HS.out.symm, rfl⟩)

set_option maxRecDepth 100000 in
set_option maxHeartbeats 2000000 in
theorem exArm (s : ByteArray) (w : World) (hs : s.size ≤ 9223372036854775807) : Calls Tryz.prog 102 #[.string s] w fun e w' => e = .returned (.bool (armB s)) ∧ Below w.heap.size w w' := by
  have HS := Lib.hid (show armB s = (highB s.data.toList || (s.toList == [116, 114, 117, 101]) || (s.toList == [102, 97, 108, 115, 101])) from rfl)
  have HH := Lib.hid (idHigh s w hs)
  generalize armB s = res at *
  generalize highB s.data.toList = bh at *
  cases bh <;> cases ht : (s.toList == [116, 114, 117, 101]) <;> cases hf : (s.toList == [102, 97, 108, 115, 101])
  all_goals (
    rw [ht, hf] at HS
    go_enter Tryz.func102, Tryz.ntmps102
    go_wp2_with fail
    refine HH.out.mono ?_
    rintro r w2 ⟨rfl, hb⟩
    go_wp2_with fail
    go_ret
    exact ⟨ret_bool HS.out.symm, hb⟩)

/-- Whether these are arms, from one to so many, each once. -/
def armsB (l : List ByteArray) (m : Int) : Bool := decide (1 ≤ l.length) && decide ((l.length : Int) ≤ m) && l.all armB && onceS l

set_option maxRecDepth 100000 in
set_option maxHeartbeats 2000000 in
theorem exArms (A : Option Addr) (n c : Nat) (m : Int) (l : List ByteArray) (w : World) (hr : RdT w A n l) (hz : ∀ t ∈ l, t.size ≤ 9223372036854775807) (hm : n ≤ 100) :
    Calls Tryz.prog 94 #[.slice A n c, .int .i64 m] w fun e w' => e = .returned (.bool (armsB l m)) ∧ Below w.heap.size w w' := by
  have HS := Lib.hid (show armsB l m = (decide (1 ≤ l.length) && decide ((l.length : Int) ≤ m) && l.all armB && onceS l) from rfl)
  have hlen := hr.len
  have HAR := Lib.hid hr
  have HAL := Lib.hid fun i (hi : i < l.length) (h : armB (l[i]?.getD ByteArray.empty) = false) => all_false (f := armB) hi h
  have HAS := Lib.hid fun k (hk : k < l.length) h (hx : armB (l[k]?.getD ByteArray.empty) = true) => all_take_succ (f := armB) hk h hx
  have HAE := Lib.hid fun k h (hk : l.length ≤ k) => all_take_end (l := l) (f := armB) (k := k) h hk
  have HZ := Lib.hid fun i (hi : i < l.length) => hz (l[i]?.getD ByteArray.empty) (by rw [List.getElem?_eq_getElem hi]; exact List.getElem_mem _)
  have HON := Lib.hid fun w1 (h : Below w.heap.size w w1) => idOnce A n c l w1 (hr.below h) hz hm
  clear hr hz
  rw [hlen] at HS HAL HAS HAE HZ
  clear hlen
  generalize armsB l m = res at *
  by_cases h1 : 1 ≤ n
  · by_cases h2 : (n : Int) ≤ m
    · have d1 : decide ((n : Int) < 1) = false := decide_eq_false (by omega)
      have d2 : decide (m < (n : Int)) = false := decide_eq_false (by omega)
      have HSS := Lib.hid (show res = (l.all armB && onceS l) by rw [HS.out]; simp [h1, h2])
      go_enter Tryz.func94, Tryz.ntmps94
      go_wp2_with fail
      go_loopw [18] (fun i wr => ∃ j : Nat, j ≤ n ∧ i = .int .i64 j ∧ (l.take j).all armB = true ∧ Below w.heap.size w wr) (fun i _ => n - (intOf i).toNat)
      case atStart => exact ⟨0, Nat.zero_le _, rfl, by simp, Below.refl _ _⟩
      case round =>
        obtain ⟨j, hj, rfl, hall, hbw⟩ := hrel
        have HA := Lib.hid hall
        have HBW := Lib.hid hbw
        clear hall
        by_cases hlt : j < n
        · obtain ⟨b, off, rfl, hb, hat⟩ := (HAR.out.below hbw).at_ hlt
          have c0 := hat j hlt
          have HAL' := Lib.hid (HAL.out j (by omega))
          have HAS' := Lib.hid (HAS.out j (by omega) HA.out)
          have hzz := HZ.out j (by omega)
          clear hat hbw
          generalize l[j]?.getD ByteArray.empty = t at *
          have HT := Lib.hid (exArm t wr hzz)
          clear hzz
          cases ht : armB t with
          | false =>
            rw [ht] at HT
            have HF' := Lib.hid (HAL'.out ht)
            have HN := Lib.hid (show res = false by rw [HSS.out, HF'.out]; rfl)
            go_wp2_with fail
            refine HT.out.mono ?_
            rintro r w2 ⟨rfl, hb2⟩
            have HB2 := Lib.hid (HBW.out.trans (hb2.mono HBW.out.size))
            clear hb2
            go_wp2_with fail
            go_ret
            exact ⟨ret_bool HN.out.symm, HB2.out⟩
          | true =>
            rw [ht] at HT
            have HF' := Lib.hid (HAS'.out ht)
            go_wp2_with fail
            refine HT.out.mono ?_
            rintro r w2 ⟨rfl, hb2⟩
            have HB2 := Lib.hid (HBW.out.trans (hb2.mono HBW.out.size))
            clear hb2
            go_wp2_with fail
            go_roundw
            case rel => exact ⟨j + 1, by omega, by go_num, HF'.out, HB2.out⟩
            case measure => simp [intOf]; omega
        · have HE := HAE.out j HA.out (by omega)
          have HN := Lib.hid (show res = onceS l by rw [HSS.out, HE]; rfl)
          have HO1 := Lib.hid (HON.out wr HBW.out)
          clear HE HAL HAS HAE HA hbw
          go_wp2_with fail
          refine HO1.out.mono ?_
          rintro r w2 ⟨rfl, hb2⟩
          have HB2 := Lib.hid (HBW.out.trans (hb2.mono HBW.out.size))
          clear hb2
          go_wp2_with fail
          go_ret
          exact ⟨ret_bool HN.out.symm, HB2.out⟩
    · have d1 : decide ((n : Int) < 1) = false := decide_eq_false (by omega)
      have d2 : decide (m < (n : Int)) = true := decide_eq_true (by omega)
      have HN := Lib.hid (show res = false by rw [HS.out]; simp [h2])
      go_enter Tryz.func94, Tryz.ntmps94
      go_wp2_with fail
      go_ret
      exact ⟨ret_bool HN.out.symm, Below.refl _ _⟩
  · have d1 : decide ((n : Int) < 1) = true := decide_eq_true (by omega)
    have HN := Lib.hid (show res = false by rw [HS.out]; simp [h1])
    go_enter Tryz.func94, Tryz.ntmps94
    go_wp2_with fail
    go_ret
    exact ⟨ret_bool HN.out.symm, Below.refl _ _⟩
end Go.Proofs.YtapnodhgjfbjjaaGreat
