/- Which parts are right, of the document's text. Conditions: names of at most 1000 bytes, at most 100 arms. -/
import Derived.Test.YtapnodhgjfbjjaaGreatExF
import Derived.Test.YtapnodhgjfbjjaaGreatIdX
namespace Go.Proofs.YtapnodhgjfbjjaaGreat
open Go.RowKit Go.Sort
set_option linter.unusedVariables false

def literalX (x : Ex) : Bool := if x.k == 5 then (x.op == 1) && (x.subs.length == 1) && ((subX x 0).k == 1) else (x.k == 1) || (x.k == 2) || (x.k == 4)
def constX (x : Ex) : Bool := if x.k == 14 then x.subs.all literalX else literalX x

theorem int_len (n : Nat) : ((n : Int) == 1) = (n == 1) := by rw [Bool.eq_iff_iff]; simp; omega

set_option maxRecDepth 100000 in
set_option maxHeartbeats 4000000 in
theorem refLiteral (x : Ex) (A : Option Addr) (ca : Nat) (B : Option Addr) (cb : Nat) (w : World) (hr : rdX w x A B) :
    Calls Tryz.prog 98 #[.agg (exA x A ca B cb)] w fun e w' => e = .returned (.bool (literalX x)) ∧ Below w.heap.size w w' := by
  have HF := Lib.hid fun w1 h => box_facts w x A ca B cb w1 h hr
  have HS := Lib.hid (show literalX x = if x.k == 5 then (x.op == 1) && (x.subs.length == 1) && ((subX x 0).k == 1) else (x.k == 1) || (x.k == 2) || (x.k == 4) from rfl)
  have hmx := hr.subs.max
  clear hr
  unfold exA at HF ⊢
  generalize literalX x = res at *
  generalize x.k = k at *
  generalize x.op = o at *
  generalize hlen : x.subs.length = n at *
  have hln := int_len n
  cases h5 : (k == 5) with
  | true =>
    obtain rfl : k = 5 := by simpa using h5
    cases ho : (o == 1) with
    | false =>
      have HN := Lib.hid (show res = false by rw [HS.out, ho]; rfl)
      go_enter Tryz.func98, Tryz.ntmps98
      go_upto_region 1 with (fail)
      generalize hw1 : w.alloc _ = w1
      obtain ⟨hb1, hg, hr1, hcell⟩ := HF.out w1 hw1
      have HB1 := Lib.hid hb1
      have q0 := hcell w1 (Below.refl _ _) 0
      have q3 := hcell w1 (Below.refl _ _) 3
      have q5 := hcell w1 (Below.refl _ _) 5
      clear hcell hb1 hr1 hw1 HF
      go_wp2_with fail
      go_ret
      exact ⟨ret_bool HN.out.symm, HB1.out⟩
    | true =>
      cases hl : (n == 1) with
      | false =>
        have HN := Lib.hid (show res = false by rw [HS.out, ho, hl]; rfl)
        rw [hl] at hln
        go_enter Tryz.func98, Tryz.ntmps98
        go_upto_region 1 with (fail)
        generalize hw1 : w.alloc _ = w1
        obtain ⟨hb1, hg, hr1, hcell⟩ := HF.out w1 hw1
        have HB1 := Lib.hid hb1
        have q0 := hcell w1 (Below.refl _ _) 0
        have q3 := hcell w1 (Below.refl _ _) 3
        have q5 := hcell w1 (Below.refl _ _) 5
        clear hcell hb1 hr1 hw1 HF
        go_wp2_with fail
        go_ret
        exact ⟨ret_bool HN.out.symm, HB1.out⟩
      | true =>
        have HN := Lib.hid (show res = ((subX x 0).k == 1) by rw [HS.out, ho, hl]; rfl)
        rw [hl] at hln
        obtain rfl : n = 1 := by simpa using hl
        go_enter Tryz.func98, Tryz.ntmps98
        go_upto_region 1 with (fail)
        generalize hw1 : w.alloc _ = w1
        obtain ⟨hb1, hg, hr1, hcell⟩ := HF.out w1 hw1
        obtain ⟨b, off, rfl, hb, hat⟩ := hr1.sub (i := 0) (by omega)
        obtain ⟨A', ca', B', cb', hrg, hrd⟩ := hat 0 (by omega)
        rw [Nat.zero_mul, Nat.add_zero] at hrg
        obtain ⟨c0, c1, c2, c3, c4, c5⟩ := rangeAt_six hrg
        have HB1 := Lib.hid hb1
        have q0 := hcell w1 (Below.refl _ _) 0
        have q3 := hcell w1 (Below.refl _ _) 3
        have q5 := hcell w1 (Below.refl _ _) 5
        clear hcell hb1 hr1 hw1 HF hat hrg hrd c1 c2 c3 c4 c5
        generalize (subX x 0).k = z at *
        go_wp2_with fail
        go_ret
        exact ⟨ret_bool HN.out.symm, HB1.out⟩
  | false =>
    have HN := Lib.hid (show res = ((k == 1) || (k == 2) || (k == 4)) by rw [HS.out, h5]; rfl)
    cases h1 : (k == 1) <;> cases h2 : (k == 2) <;> cases h4 : (k == 4)
    all_goals (
      rw [h1, h2, h4] at HN
      go_enter Tryz.func98, Tryz.ntmps98
      go_upto_region 1 with (fail)
      generalize hw1 : w.alloc _ = w1
      obtain ⟨hb1, hg, hr1, hcell⟩ := HF.out w1 hw1
      have HB1 := Lib.hid hb1
      have q0 := hcell w1 (Below.refl _ _) 0
      clear hcell hb1 hr1 hw1 HF
      go_wp2_with fail
      go_ret
      exact ⟨ret_bool HN.out.symm, HB1.out⟩)
/-! ### Const and the rest -/
set_option maxRecDepth 100000 in
set_option maxHeartbeats 8000000 in
theorem refConst (x : Ex) (A : Option Addr) (ca : Nat) (B : Option Addr) (cb : Nat) (w : World) (hr : rdX w x A B) :
    Calls Tryz.prog 90 #[.agg (exA x A ca B cb)] w fun e w' => e = .returned (.bool (constX x)) ∧ Below w.heap.size w w' := by
  have HF := Lib.hid fun w1 h => box_facts w x A ca B cb w1 h hr
  have HS := Lib.hid (show constX x = if x.k == 14 then x.subs.all literalX else literalX x from rfl)
  have hmx := hr.subs.max
  have HLT := Lib.hid fun (x : Ex) (A : Option Addr) (ca : Nat) (B : Option Addr) (cb : Nat) (w : World) (hr : rdX w x A B) => refLiteral x A ca B cb w hr
  have HAL := Lib.hid fun i (hi : i < x.subs.length) (h : literalX (subX x i) = false) => all_false (f := literalX) hi h
  have HAS := Lib.hid fun k (hk : k < x.subs.length) h (hx : literalX (subX x k) = true) => all_take_succ (f := literalX) hk h hx
  have HAE := Lib.hid fun k h (hk : x.subs.length ≤ k) => all_take_end (l := x.subs) (f := literalX) (k := k) h hk
  have HLX := Lib.hid fun w1 (h : rdX w1 x A B) => refLiteral x A ca B cb w1 h
  clear hr
  unfold exA at HF HLT HLX ⊢
  generalize constX x = res at *
  generalize literalX x = lx at *
  generalize x.k = k at *
  generalize hlen : x.subs.length = n at *
  cases h14 : (k == 14) with
  | false =>
    have n14 : (k != 14) = true := by rw [bne, h14]; rfl
    have HN := Lib.hid (show res = lx by rw [HS.out, h14]; rfl)
    go_enter Tryz.func90, Tryz.ntmps90
    go_upto_region 1 with (fail)
    generalize hw1 : w.alloc _ = w1
    obtain ⟨hb1, hg, hr1, hcell⟩ := HF.out w1 hw1
    have HB1 := Lib.hid hb1
    have q0 := hcell w1 (Below.refl _ _) 0
    have q1 := hcell w1 (Below.refl _ _) 1
    have q2 := hcell w1 (Below.refl _ _) 2
    have q3 := hcell w1 (Below.refl _ _) 3
    have q4 := hcell w1 (Below.refl _ _) 4
    have q5 := hcell w1 (Below.refl _ _) 5
    have HL1 := Lib.hid (HLX.out w1 hr1)
    clear hcell hb1 hr1 hw1 HF
    go_wp2_with fail
    refine HL1.out.mono ?_
    rintro r w2 ⟨rfl, hb2⟩
    have HB2 := Lib.hid (HB1.out.trans (hb2.mono HB1.out.size))
    clear hb2
    go_wp2_with fail
    go_ret
    exact ⟨ret_bool HN.out.symm, HB2.out⟩
  | true =>
    obtain rfl : k = 14 := by simpa using h14
    have HN := Lib.hid (show res = x.subs.all literalX by rw [HS.out]; rfl)
    go_enter Tryz.func90, Tryz.ntmps90
    go_upto_region 1 with (fail)
    generalize hw1 : w.alloc _ = w1
    obtain ⟨hb1, hg, hr1, hcell⟩ := HF.out w1 hw1
    have HB1 := Lib.hid hb1
    have q0 := hcell w1 (Below.refl _ _) 0
    have q5 := hcell w1 (Below.refl _ _) 5
    have HC := Lib.hid hcell
    have HR1 := Lib.hid hr1
    clear hcell hb1 hr1 hw1 HF
    go_wp2_with fail
    go_loopw [3] (fun i wr => ∃ k : Nat, k ≤ n ∧ i = .int .i64 k ∧ (x.subs.take k).all literalX = true ∧ Below w1.heap.size w1 wr) (fun i _ => n - (intOf i).toNat)
    case atStart => exact ⟨0, Nat.zero_le _, rfl, by simp, Below.refl _ _⟩
    case round =>
      obtain ⟨k, hk, rfl, hall, hbw⟩ := hrel
      have HA := Lib.hid hall
      have HBW := Lib.hid hbw
      have hc5 := HC.out wr hbw 5
      clear hall
      by_cases hlt : k < n
      · obtain ⟨b, off, rfl, hb, hat⟩ := (HR1.out.below hbw).sub (i := k) (by omega)
        obtain ⟨A', ca', B', cb', hrg, hrd⟩ := hat k (by omega)
        obtain ⟨c0, c1, c2, c3, c4, c5⟩ := rangeAt_six hrg
        have HRD := Lib.hid hrd
        have HCL := Lib.hid (HLT.out (subX x k) A' ca' B' cb' wr hrd)
        have HAL' := Lib.hid (HAL.out k (by omega))
        have HAS' := Lib.hid (HAS.out k (by omega) HA.out)
        clear hat hbw hrg hrd
        cases hl : literalX (subX x k) with
        | false =>
          rw [hl] at HCL
          have HF' := Lib.hid (HAL'.out hl)
          go_wp2_with fail
          refine HCL.out.mono ?_
          rintro r w2 ⟨rfl, hb2⟩
          have HB2 := Lib.hid (HBW.out.trans (hb2.mono HBW.out.size))
          clear hb2
          go_wp2_with fail
          go_ret
          exact ⟨ret_bool (by rw [HN.out, HF'.out]), HB1.out.trans (HB2.out.mono HB1.out.size)⟩
        | true =>
          rw [hl] at HCL
          have HF' := Lib.hid (HAS'.out hl)
          go_wp2_with fail
          refine HCL.out.mono ?_
          rintro r w2 ⟨rfl, hb2⟩
          have HB2 := Lib.hid (HBW.out.trans (hb2.mono HBW.out.size))
          clear hb2
          go_wp2_with fail
          go_roundw
          case rel => exact ⟨k + 1, by omega, by go_num, HF'.out, HB2.out⟩
          case measure => simp [intOf]; omega
      · have HE := Lib.hid (HAE.out k HA.out (by omega))
        go_wp2_with fail
        go_ret
        exact ⟨ret_bool (by rw [HN.out, HE.out]), HB1.out.trans (HBW.out.mono HB1.out.size)⟩

def numbersX (x : Ex) : Bool :=
  if x.op < (if x.k == 6 then 3 else if x.k == 5 then 1 else 0) ∨ (if x.k == 6 then 16 else if x.k == 5 then 2 else 0) < x.op then false
  else if x.k == 1 then decide (0 ≤ x.n) else if (x.k == 2 || x.k == 13) then (x.n == 0 || x.n == 1) else x.n == 0

set_option maxRecDepth 100000 in
set_option maxHeartbeats 8000000 in
theorem refNumbers (x : Ex) (A : Option Addr) (ca : Nat) (B : Option Addr) (cb : Nat) (w : World) (hr : rdX w x A B) :
    Calls Tryz.prog 86 #[.agg (exA x A ca B cb)] w fun e w' => e = .returned (.bool (numbersX x)) ∧ Below w.heap.size w w' := by
  have HF := Lib.hid fun w1 h => box_facts w x A ca B cb w1 h hr
  have HS := Lib.hid (show numbersX x = if x.op < (if x.k == 6 then 3 else if x.k == 5 then 1 else 0) ∨ (if x.k == 6 then 16 else if x.k == 5 then 2 else 0) < x.op then false
    else if x.k == 1 then decide (0 ≤ x.n) else if (x.k == 2 || x.k == 13) then (x.n == 0 || x.n == 1) else x.n == 0 from rfl)
  clear hr
  unfold exA at HF ⊢
  generalize numbersX x = res at *
  generalize x.k = k at *
  generalize x.op = o at *
  generalize x.n = n at *
  by_cases h1 : k = 1
  · subst h1
    by_cases hlo : o < 0
    · have HN := Lib.hid (show res = false by rw [HS.out]; simp [hlo])
      go_enter Tryz.func86, Tryz.ntmps86
      go_upto_region 1 with (fail)
      generalize hw1 : w.alloc _ = w1
      obtain ⟨hb1, hg, hr1, hcell⟩ := HF.out w1 hw1
      have HB1 := Lib.hid hb1
      have q0 := hcell w1 (Below.refl _ _) 0
      have q1 := hcell w1 (Below.refl _ _) 1
      have q3 := hcell w1 (Below.refl _ _) 3
      clear hcell hb1 hr1 hw1 HF
      go_wp2_with fail
      go_ret
      exact ⟨ret_bool HN.out.symm, HB1.out⟩
    · by_cases hhi : 0 < o
      · have HN := Lib.hid (show res = false by rw [HS.out]; simp [hlo, hhi])
        go_enter Tryz.func86, Tryz.ntmps86
        go_upto_region 1 with (fail)
        generalize hw1 : w.alloc _ = w1
        obtain ⟨hb1, hg, hr1, hcell⟩ := HF.out w1 hw1
        have HB1 := Lib.hid hb1
        have q0 := hcell w1 (Below.refl _ _) 0
        have q1 := hcell w1 (Below.refl _ _) 1
        have q3 := hcell w1 (Below.refl _ _) 3
        clear hcell hb1 hr1 hw1 HF
        go_wp2_with fail
        go_ret
        exact ⟨ret_bool HN.out.symm, HB1.out⟩
      · have HN := Lib.hid (show res = decide (0 ≤ n) by rw [HS.out]; simp [hlo, hhi])
        cases hd : decide (0 ≤ n) <;> rw [hd] at HN
        all_goals (
          go_enter Tryz.func86, Tryz.ntmps86
          go_upto_region 1 with (fail)
          generalize hw1 : w.alloc _ = w1
          obtain ⟨hb1, hg, hr1, hcell⟩ := HF.out w1 hw1
          have HB1 := Lib.hid hb1
          have q0 := hcell w1 (Below.refl _ _) 0
          have q1 := hcell w1 (Below.refl _ _) 1
          have q3 := hcell w1 (Below.refl _ _) 3
          clear hcell hb1 hr1 hw1 HF
          go_wp2_with fail
          go_ret
          exact ⟨ret_bool HN.out.symm, HB1.out⟩)
  · have e1 : (k == 1) = false := by simpa using h1
    by_cases h2 : k = 2
    · subst h2
      by_cases hlo : o < 0
      · have HN := Lib.hid (show res = false by rw [HS.out]; simp [hlo])
        go_enter Tryz.func86, Tryz.ntmps86
        go_upto_region 1 with (fail)
        generalize hw1 : w.alloc _ = w1
        obtain ⟨hb1, hg, hr1, hcell⟩ := HF.out w1 hw1
        have HB1 := Lib.hid hb1
        have q0 := hcell w1 (Below.refl _ _) 0
        have q1 := hcell w1 (Below.refl _ _) 1
        have q3 := hcell w1 (Below.refl _ _) 3
        clear hcell hb1 hr1 hw1 HF
        go_wp2_with fail
        go_ret
        exact ⟨ret_bool HN.out.symm, HB1.out⟩
      · by_cases hhi : 0 < o
        · have HN := Lib.hid (show res = false by rw [HS.out]; simp [hlo, hhi])
          go_enter Tryz.func86, Tryz.ntmps86
          go_upto_region 1 with (fail)
          generalize hw1 : w.alloc _ = w1
          obtain ⟨hb1, hg, hr1, hcell⟩ := HF.out w1 hw1
          have HB1 := Lib.hid hb1
          have q0 := hcell w1 (Below.refl _ _) 0
          have q1 := hcell w1 (Below.refl _ _) 1
          have q3 := hcell w1 (Below.refl _ _) 3
          clear hcell hb1 hr1 hw1 HF
          go_wp2_with fail
          go_ret
          exact ⟨ret_bool HN.out.symm, HB1.out⟩
        · have HN := Lib.hid (show res = (n == 0 || n == 1) by rw [HS.out]; simp [hlo, hhi])
          cases hd : (n == 0) <;> cases hd1 : (n == 1) <;> rw [hd, hd1] at HN
          all_goals (
            go_enter Tryz.func86, Tryz.ntmps86
            go_upto_region 1 with (fail)
            generalize hw1 : w.alloc _ = w1
            obtain ⟨hb1, hg, hr1, hcell⟩ := HF.out w1 hw1
            have HB1 := Lib.hid hb1
            have q0 := hcell w1 (Below.refl _ _) 0
            have q1 := hcell w1 (Below.refl _ _) 1
            have q3 := hcell w1 (Below.refl _ _) 3
            clear hcell hb1 hr1 hw1 HF
            go_wp2_with fail
            go_ret
            exact ⟨ret_bool HN.out.symm, HB1.out⟩)
    · have e2 : (k == 2) = false := by simpa using h2
      by_cases h5 : k = 5
      · subst h5
        by_cases hlo : o < 1
        · have HN := Lib.hid (show res = false by rw [HS.out]; simp [hlo])
          go_enter Tryz.func86, Tryz.ntmps86
          go_upto_region 1 with (fail)
          generalize hw1 : w.alloc _ = w1
          obtain ⟨hb1, hg, hr1, hcell⟩ := HF.out w1 hw1
          have HB1 := Lib.hid hb1
          have q0 := hcell w1 (Below.refl _ _) 0
          have q1 := hcell w1 (Below.refl _ _) 1
          have q3 := hcell w1 (Below.refl _ _) 3
          clear hcell hb1 hr1 hw1 HF
          go_wp2_with fail
          go_ret
          exact ⟨ret_bool HN.out.symm, HB1.out⟩
        · by_cases hhi : 2 < o
          · have HN := Lib.hid (show res = false by rw [HS.out]; simp [hlo, hhi])
            go_enter Tryz.func86, Tryz.ntmps86
            go_upto_region 1 with (fail)
            generalize hw1 : w.alloc _ = w1
            obtain ⟨hb1, hg, hr1, hcell⟩ := HF.out w1 hw1
            have HB1 := Lib.hid hb1
            have q0 := hcell w1 (Below.refl _ _) 0
            have q1 := hcell w1 (Below.refl _ _) 1
            have q3 := hcell w1 (Below.refl _ _) 3
            clear hcell hb1 hr1 hw1 HF
            go_wp2_with fail
            go_ret
            exact ⟨ret_bool HN.out.symm, HB1.out⟩
          · have HN := Lib.hid (show res = (n == 0) by rw [HS.out]; simp [hlo, hhi])
            cases hd : (n == 0) <;> rw [hd] at HN
            all_goals (
              go_enter Tryz.func86, Tryz.ntmps86
              go_upto_region 1 with (fail)
              generalize hw1 : w.alloc _ = w1
              obtain ⟨hb1, hg, hr1, hcell⟩ := HF.out w1 hw1
              have HB1 := Lib.hid hb1
              have q0 := hcell w1 (Below.refl _ _) 0
              have q1 := hcell w1 (Below.refl _ _) 1
              have q3 := hcell w1 (Below.refl _ _) 3
              clear hcell hb1 hr1 hw1 HF
              go_wp2_with fail
              go_ret
              exact ⟨ret_bool HN.out.symm, HB1.out⟩)
      · have e5 : (k == 5) = false := by simpa using h5
        by_cases h6 : k = 6
        · subst h6
          by_cases hlo : o < 3
          · have HN := Lib.hid (show res = false by rw [HS.out]; simp [hlo])
            go_enter Tryz.func86, Tryz.ntmps86
            go_upto_region 1 with (fail)
            generalize hw1 : w.alloc _ = w1
            obtain ⟨hb1, hg, hr1, hcell⟩ := HF.out w1 hw1
            have HB1 := Lib.hid hb1
            have q0 := hcell w1 (Below.refl _ _) 0
            have q1 := hcell w1 (Below.refl _ _) 1
            have q3 := hcell w1 (Below.refl _ _) 3
            clear hcell hb1 hr1 hw1 HF
            go_wp2_with fail
            go_ret
            exact ⟨ret_bool HN.out.symm, HB1.out⟩
          · by_cases hhi : 16 < o
            · have HN := Lib.hid (show res = false by rw [HS.out]; simp [hlo, hhi])
              go_enter Tryz.func86, Tryz.ntmps86
              go_upto_region 1 with (fail)
              generalize hw1 : w.alloc _ = w1
              obtain ⟨hb1, hg, hr1, hcell⟩ := HF.out w1 hw1
              have HB1 := Lib.hid hb1
              have q0 := hcell w1 (Below.refl _ _) 0
              have q1 := hcell w1 (Below.refl _ _) 1
              have q3 := hcell w1 (Below.refl _ _) 3
              clear hcell hb1 hr1 hw1 HF
              go_wp2_with fail
              go_ret
              exact ⟨ret_bool HN.out.symm, HB1.out⟩
            · have HN := Lib.hid (show res = (n == 0) by rw [HS.out]; simp [hlo, hhi])
              cases hd : (n == 0) <;> rw [hd] at HN
              all_goals (
                go_enter Tryz.func86, Tryz.ntmps86
                go_upto_region 1 with (fail)
                generalize hw1 : w.alloc _ = w1
                obtain ⟨hb1, hg, hr1, hcell⟩ := HF.out w1 hw1
                have HB1 := Lib.hid hb1
                have q0 := hcell w1 (Below.refl _ _) 0
                have q1 := hcell w1 (Below.refl _ _) 1
                have q3 := hcell w1 (Below.refl _ _) 3
                clear hcell hb1 hr1 hw1 HF
                go_wp2_with fail
                go_ret
                exact ⟨ret_bool HN.out.symm, HB1.out⟩)
        · have e6 : (k == 6) = false := by simpa using h6
          by_cases h13 : k = 13
          · subst h13
            by_cases hlo : o < 0
            · have HN := Lib.hid (show res = false by rw [HS.out]; simp [hlo])
              go_enter Tryz.func86, Tryz.ntmps86
              go_upto_region 1 with (fail)
              generalize hw1 : w.alloc _ = w1
              obtain ⟨hb1, hg, hr1, hcell⟩ := HF.out w1 hw1
              have HB1 := Lib.hid hb1
              have q0 := hcell w1 (Below.refl _ _) 0
              have q1 := hcell w1 (Below.refl _ _) 1
              have q3 := hcell w1 (Below.refl _ _) 3
              clear hcell hb1 hr1 hw1 HF
              go_wp2_with fail
              go_ret
              exact ⟨ret_bool HN.out.symm, HB1.out⟩
            · by_cases hhi : 0 < o
              · have HN := Lib.hid (show res = false by rw [HS.out]; simp [hlo, hhi])
                go_enter Tryz.func86, Tryz.ntmps86
                go_upto_region 1 with (fail)
                generalize hw1 : w.alloc _ = w1
                obtain ⟨hb1, hg, hr1, hcell⟩ := HF.out w1 hw1
                have HB1 := Lib.hid hb1
                have q0 := hcell w1 (Below.refl _ _) 0
                have q1 := hcell w1 (Below.refl _ _) 1
                have q3 := hcell w1 (Below.refl _ _) 3
                clear hcell hb1 hr1 hw1 HF
                go_wp2_with fail
                go_ret
                exact ⟨ret_bool HN.out.symm, HB1.out⟩
              · have HN := Lib.hid (show res = (n == 0 || n == 1) by rw [HS.out]; simp [hlo, hhi])
                cases hd : (n == 0) <;> cases hd1 : (n == 1) <;> rw [hd, hd1] at HN
                all_goals (
                  go_enter Tryz.func86, Tryz.ntmps86
                  go_upto_region 1 with (fail)
                  generalize hw1 : w.alloc _ = w1
                  obtain ⟨hb1, hg, hr1, hcell⟩ := HF.out w1 hw1
                  have HB1 := Lib.hid hb1
                  have q0 := hcell w1 (Below.refl _ _) 0
                  have q1 := hcell w1 (Below.refl _ _) 1
                  have q3 := hcell w1 (Below.refl _ _) 3
                  clear hcell hb1 hr1 hw1 HF
                  go_wp2_with fail
                  go_ret
                  exact ⟨ret_bool HN.out.symm, HB1.out⟩)
          · have e13 : (k == 13) = false := by simpa using h13
            by_cases hlo : o < 0
            · have HN := Lib.hid (show res = false by rw [HS.out, e1, e2, e5, e6, e13]; simp [hlo])
              go_enter Tryz.func86, Tryz.ntmps86
              go_upto_region 1 with (fail)
              generalize hw1 : w.alloc _ = w1
              obtain ⟨hb1, hg, hr1, hcell⟩ := HF.out w1 hw1
              have HB1 := Lib.hid hb1
              have q0 := hcell w1 (Below.refl _ _) 0
              have q1 := hcell w1 (Below.refl _ _) 1
              have q3 := hcell w1 (Below.refl _ _) 3
              clear hcell hb1 hr1 hw1 HF
              go_wp2_with fail
              go_ret
              exact ⟨ret_bool HN.out.symm, HB1.out⟩
            · by_cases hhi : 0 < o
              · have HN := Lib.hid (show res = false by rw [HS.out, e1, e2, e5, e6, e13]; simp [hlo, hhi])
                go_enter Tryz.func86, Tryz.ntmps86
                go_upto_region 1 with (fail)
                generalize hw1 : w.alloc _ = w1
                obtain ⟨hb1, hg, hr1, hcell⟩ := HF.out w1 hw1
                have HB1 := Lib.hid hb1
                have q0 := hcell w1 (Below.refl _ _) 0
                have q1 := hcell w1 (Below.refl _ _) 1
                have q3 := hcell w1 (Below.refl _ _) 3
                clear hcell hb1 hr1 hw1 HF
                go_wp2_with fail
                go_ret
                exact ⟨ret_bool HN.out.symm, HB1.out⟩
              · have HN := Lib.hid (show res = (n == 0) by rw [HS.out, e1, e2, e5, e6, e13]; simp [hlo, hhi])
                cases hd : (n == 0) <;> rw [hd] at HN
                all_goals (
                  go_enter Tryz.func86, Tryz.ntmps86
                  go_upto_region 1 with (fail)
                  generalize hw1 : w.alloc _ = w1
                  obtain ⟨hb1, hg, hr1, hcell⟩ := HF.out w1 hw1
                  have HB1 := Lib.hid hb1
                  have q0 := hcell w1 (Below.refl _ _) 0
                  have q1 := hcell w1 (Below.refl _ _) 1
                  have q3 := hcell w1 (Below.refl _ _) 3
                  clear hcell hb1 hr1 hw1 HF
                  go_wp2_with fail
                  go_ret
                  exact ⟨ret_bool HN.out.symm, HB1.out⟩)

end Go.Proofs.YtapnodhgjfbjjaaGreat
