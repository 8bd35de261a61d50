/- Which expressions are the same, of the program's text: subs and all. Conditions: none. -/
import Derived.Test.YtapnodhgjfbjjaaEyB
namespace Go.Proofs.Ytapnodhgjfbjjaa
open Go.RowKit Go.Sort
set_option linter.unusedVariables false
set_option linter.unusedSimpArgs false

set_option maxRecDepth 100000 in
set_option maxHeartbeats 2000000 in
theorem exEqFunc (l m : List Ex) (A B : Option Addr) (n1 n2 c d : Nat) (w : World) (hl : RdX w A n1 l) (hm : RdX w B n2 m)
    (ih : ∀ i, i < l.length → ∀ (A : Option Addr) (ca : Nat) (B : Option Addr) (cb : Nat) (y : Ex) (A' : Option Addr) (ca' : Nat) (B' : Option Addr) (cb' : Nat) (w : World), rdX w (l[i]?.getD default) A B → rdX w y A' B' →
      Calls Try.prog 39 #[.agg (exA (l[i]?.getD default) A ca B cb), .agg (exA y A' ca' B' cb')] w fun e w' => e = .returned (.bool (sameX (l[i]?.getD default) y)) ∧ Below w.heap.size w w') :
    Calls Try.prog 41 #[.slice A n1 c, .slice B n2 d, .func (.func 39) #[] #[]] w fun e w' => e = .returned (.bool (sameXs l m)) ∧ Below w.heap.size w w' := by
  have HIH := Lib.hid ih
  have hl1 := hl.len
  have hl2 := hm.len
  have hx1 := hl.max
  have hx2 := hm.max
  have HRL := Lib.hid hl
  have HRM := Lib.hid hm
  have HXL := Lib.hid fun h => sameXs_len (l := l) (m := m) h
  have HXA := Lib.hid fun i h1 h2 h => sameXs_at (l := l) (m := m) (i := i) h1 h2 h
  have HXY := Lib.hid fun h1 h2 => sameXs_yes (l := l) (m := m) h1 h2
  have HBX := Lib.hid fun (x : Ex) (A : Option Addr) (ca : Nat) (B : Option Addr) (cb : Nat) (w w1 : World) (h : _) (hr : rdX w x A B) => box_facts w x A ca B cb w1 h hr
  clear ih hl hm
  unfold exA at HIH HBX
  generalize sameXs l m = res at *
  by_cases hnn : n1 = n2
  · subst hnn
    go_enter Try.func41, Try.ntmps41
    go_wp2_with fail
    go_loopw [17] (fun i wr => ∃ k : Nat, k ≤ n1 ∧ i = .int .i64 k ∧ (∀ j, j < k → sameX (l[j]?.getD default) (m[j]?.getD default) = true) ∧ Below w.heap.size w wr) (fun i _ => n1 - (intOf i).toNat)
    case atStart => exact ⟨0, Nat.zero_le _, rfl, fun j hj => absurd hj (by omega), Below.refl _ _⟩
    case round =>
      obtain ⟨k, hk, rfl, hall, hbw⟩ := hrel
      have HA := Lib.hid hall
      have HBW := Lib.hid hbw
      clear hall
      by_cases hlt : k < n1
      · obtain ⟨b, off, rfl, hb, hat⟩ := (HRL.out.below hbw).at_ hlt
        obtain ⟨A1, ca1, B1, cb1, hrg, hrd⟩ := hat k hlt
        obtain ⟨c0, c1, c2, c3, c4, c5⟩ := rangeAt_six hrg
        obtain ⟨b', off', rfl, hb', hat'⟩ := (HRM.out.below hbw).at_ hlt
        obtain ⟨A2, ca2, B2, cb2, hrg', hrd'⟩ := hat' k hlt
        have HG' := Lib.hid hrg'
        have HRD' := Lib.hid hrd'
        have HF3 := Lib.hid fun w3 h => HBX.out (l[k]?.getD default) A1 ca1 B1 cb1 wr w3 h hrd
        have HIK := Lib.hid (HIH.out k (by omega))
        have HNO := Lib.hid fun h => HXA.out k (by omega) (by omega) h
        have HYE := Lib.hid (show sameX (l[k]?.getD default) (m[k]?.getD default) = true → ∀ j, j < k + 1 → sameX (l[j]?.getD default) (m[j]?.getD default) = true from fun hsm j hj => by
            rcases Nat.lt_or_ge j k with h | h
            · exact HA.out j h
            · obtain rfl : j = k := by omega
              exact hsm)
        clear hat hat' hrg hrg' hrd hrd' hbw HIH
        generalize l[k]?.getD default = p at *
        generalize m[k]?.getD default = q at *
        go_upto_region 6 with (fail)
        generalize hw3 : wr.alloc _ = w3
        obtain ⟨hb3, hg3, hr3, hcell3⟩ := HF3.out w3 hw3
        have HR3 := Lib.hid hr3
        have HC3 := Lib.hid hcell3
        have HB3 := Lib.hid (HBW.out.trans (hb3.mono HBW.out.size))
        have HRD3 := Lib.hid (HRD'.out.below hb3)
        obtain ⟨d0, d1, d2, d3, d4, d5⟩ := rangeAt_six (rangeAt_keep HG'.out hb' fun p hp => hb3.cell hp)
        have HF4 := Lib.hid fun w4 h => HBX.out q A2 ca2 B2 cb2 w3 w4 h HRD3.out
        clear hcell3 hb3 hr3 hw3 HF3 c0 c1 c2 c3 c4 c5
        go_upto_region 7 with (fail)
        generalize hw4 : w3.alloc _ = w4
        obtain ⟨hb4, hg4, hr4, hcell4⟩ := HF4.out w4 hw4
        have e0 := HC3.out w4 hb4 0
        have e1 := HC3.out w4 hb4 1
        have e2 := HC3.out w4 hb4 2
        have e3 := HC3.out w4 hb4 3
        have e4 := HC3.out w4 hb4 4
        have e5 := HC3.out w4 hb4 5
        have f0 := hcell4 w4 (Below.refl _ _) 0
        have f1 := hcell4 w4 (Below.refl _ _) 1
        have f2 := hcell4 w4 (Below.refl _ _) 2
        have f3 := hcell4 w4 (Below.refl _ _) 3
        have f4 := hcell4 w4 (Below.refl _ _) 4
        have f5 := hcell4 w4 (Below.refl _ _) 5
        have HB4 := Lib.hid (HB3.out.trans (hb4.mono HB3.out.size))
        have HCL := Lib.hid (HIK.out A1 ca1 B1 cb1 q A2 ca2 B2 cb2 w4 (HR3.out.below hb4) hr4)
        clear hcell4 hb4 hr4 hw4 HF4 d0 d1 d2 d3 d4 d5 HIK HR3 HC3 HRD' HRD3 HG'
        cases hsm : sameX p q with
        | false =>
          have HN := Lib.hid (HNO.out hsm)
          rw [hsm] at HCL
          go_wp2_with fail
          refine HCL.out.mono ?_
          rintro r w5 ⟨rfl, hb5⟩
          have HB5 := Lib.hid (HB4.out.trans (hb5.mono HB4.out.size))
          clear hb5
          go_wp2_with fail
          go_ret
          exact ⟨ret_bool HN.out.symm, HB5.out⟩
        | true =>
          have HN := Lib.hid (HYE.out hsm)
          rw [hsm] at HCL
          go_wp2_with fail
          refine HCL.out.mono ?_
          rintro r w5 ⟨rfl, hb5⟩
          have HB5 := Lib.hid (HB4.out.trans (hb5.mono HB4.out.size))
          clear hb5
          go_wp2_with fail
          go_roundw
          case rel => exact ⟨k + 1, by omega, by go_num, HN.out, HB5.out⟩
          case measure => simp [intOf]; omega
      · have hkl : k = n1 := by omega
        have HN := Lib.hid (show res = true by rw [HXY.out (by omega) (fun i hi => HA.out i (by omega))])
        go_wp2_with fail
        go_ret
        exact ⟨ret_bool HN.out.symm, HBW.out⟩
  · have nn : ((n1 : Int) != (n2 : Int)) = true := by rw [bne_iff_ne]; omega
    have HN := Lib.hid (show res = false by rw [HXL.out (by omega)])
    go_enter Try.func41, Try.ntmps41
    go_wp2_with fail
    go_ret
    exact ⟨ret_bool HN.out.symm, Below.refl _ _⟩

set_option maxRecDepth 100000 in
set_option maxHeartbeats 2000000 in
theorem exSame : ∀ (x : Ex) (A : Option Addr) (ca : Nat) (B : Option Addr) (cb : Nat) (y : Ex) (A' : Option Addr) (ca' : Nat) (B' : Option Addr) (cb' : Nat) (w : World) (_ : rdX w x A B) (_ : rdX w y A' B'),
    Calls Try.prog 39 #[.agg (exA x A ca B cb), .agg (exA y A' ca' B' cb')] w fun e w' => e = .returned (.bool (sameX x y)) ∧ Below w.heap.size w w' := by
  refine size_ind fun x ih A ca B cb y A' ca' B' cb' w hr hr' => ?_
  have HF := Lib.hid fun w1 h => box2_facts w x y A A' ca ca' B B' cb cb' w1 h hr hr'
  have HFL := Lib.hid fun w1 (h : Below w.heap.size w w1) => exFields x A ca B cb y A' ca' B' cb' w1 (hr.below h) (hr'.below h)
  have HEQ := Lib.hid fun w1 (h : Below w.heap.size w w1) => exEqFunc x.subs y.subs B B' x.subs.length y.subs.length cb cb' w1 (hr.below h).subs (hr'.below h).subs ih
  have HS := Lib.hid (sameX_fields x y)
  clear ih hr hr'
  unfold exA at HF HFL ⊢
  generalize sameX x y = res at *
  generalize fieldsB x y = fb at *
  generalize sameXs x.subs y.subs = sb at *
  cases fb with
  | false =>
    have HN := Lib.hid (show res = false by rw [HS.out]; rfl)
    go_enter Try.func39, Try.ntmps39
    go_upto_region 1 with (fail)
    generalize hw1 : (w.alloc _).alloc _ = w1
    obtain ⟨hb1, hg, hr1, hr2, hcell, hcell2⟩ := HF.out w1 hw1
    have HB1 := Lib.hid hb1
    have q0 := hcell w1 (Below.refl _ _) 0
    have p0 := hcell2 w1 (Below.refl _ _) 0
    have q1 := hcell w1 (Below.refl _ _) 1
    have p1 := hcell2 w1 (Below.refl _ _) 1
    have q2 := hcell w1 (Below.refl _ _) 2
    have p2 := hcell2 w1 (Below.refl _ _) 2
    have q3 := hcell w1 (Below.refl _ _) 3
    have p3 := hcell2 w1 (Below.refl _ _) 3
    have q4 := hcell w1 (Below.refl _ _) 4
    have p4 := hcell2 w1 (Below.refl _ _) 4
    have q5 := hcell w1 (Below.refl _ _) 5
    have p5 := hcell2 w1 (Below.refl _ _) 5
    have HN1 := Lib.hid (HFL.out w1 hb1)
    clear hcell hcell2 hb1 hr1 hr2 hw1 HF
    go_wp2_with fail
    refine HN1.out.mono ?_
    rintro r w2 ⟨rfl, hb2⟩
    have HB2 := Lib.hid (HB1.out.trans (hb2.mono HB1.out.size))
    clear hb2
    go_wp2_with fail
    go_ret
    exact ⟨ret_bool HN.out.symm, HB2.out⟩
  | true =>
    have HN := Lib.hid (show res = sb by rw [HS.out]; rfl)
    go_enter Try.func39, Try.ntmps39
    go_upto_region 1 with (fail)
    generalize hw1 : (w.alloc _).alloc _ = w1
    obtain ⟨hb1, hg, hr1, hr2, hcell, hcell2⟩ := HF.out w1 hw1
    have HB1 := Lib.hid hb1
    have q0 := hcell w1 (Below.refl _ _) 0
    have p0 := hcell2 w1 (Below.refl _ _) 0
    have q1 := hcell w1 (Below.refl _ _) 1
    have p1 := hcell2 w1 (Below.refl _ _) 1
    have q2 := hcell w1 (Below.refl _ _) 2
    have p2 := hcell2 w1 (Below.refl _ _) 2
    have q3 := hcell w1 (Below.refl _ _) 3
    have p3 := hcell2 w1 (Below.refl _ _) 3
    have q4 := hcell w1 (Below.refl _ _) 4
    have p4 := hcell2 w1 (Below.refl _ _) 4
    have q5 := hcell w1 (Below.refl _ _) 5
    have p5 := hcell2 w1 (Below.refl _ _) 5
    have HN1 := Lib.hid (HFL.out w1 hb1)
    have HC := Lib.hid hcell
    have HC2 := Lib.hid hcell2
    clear hcell hcell2 hb1 hr1 hr2 hw1 HF
    go_wp2_with fail
    refine HN1.out.mono ?_
    rintro r w2 ⟨rfl, hb2⟩
    have HB2 := Lib.hid (HB1.out.trans (hb2.mono HB1.out.size))
    have HQ2 := Lib.hid (HEQ.out w2 HB2.out)
    clear q0 q1 q2 q3 q4 q5 p0 p1 p2 p3 p4 p5
    have q5 := HC.out w2 hb2 5
    have p5 := HC2.out w2 hb2 5
    clear hb2
    go_wp2_with fail
    refine HQ2.out.mono ?_
    rintro r w3 ⟨rfl, hb3⟩
    have HB3 := Lib.hid (HB2.out.trans (hb3.mono HB2.out.size))
    clear hb3
    go_wp2_with fail
    go_ret
    exact ⟨ret_bool HN.out.symm, HB3.out⟩
end Go.Proofs.Ytapnodhgjfbjjaa
