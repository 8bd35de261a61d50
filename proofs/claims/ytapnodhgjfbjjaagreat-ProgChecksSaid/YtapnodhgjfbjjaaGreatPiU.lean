/- What the program asks of a variable. Conditions: texts that fit memory. What the program asks of a variable, and of an input or output: the closures of malformed. Conditions: texts that fit memory. What the program asks of an equation, and how much of a node: wrongEq, crowded. Conditions: texts that fit memory, at most 1000000 parts. -/
import Derived.Test.YtapnodhgjfbjjaaGreatPiA
import Derived.Test.YtapnodhgjfbjjaaGreatEyK
import Derived.Test.YtapnodhgjfbjjaaGreatPgU2
namespace Go.Proofs.YtapnodhgjfbjjaaGreat
open Go.RowKit Go.Sort
set_option linter.unusedVariables false
set_option linter.unusedSimpArgs false

set_option maxHeartbeats 2000000 in
theorem tyRight (A : Option Addr) (n c : Nat) (k e l : Int) (w : World) (hn : n ≤ 9223372036854775807) :
    Calls Tryz.prog 36 #[.slice A n c, tyV k e l] w fun r w' => r = .returned (.bool (rightB n k e l)) ∧ Below w.heap.size w w' := by
  unfold tyV
  have HB := Lib.hid ((Below.refl w.heap.size w).alloc (Nat.le_refl _) (.cells #[.int .i64 k, .int .i64 e, .int .i64 l] 46))
  by_cases h1 : l < 0
  · go_enter Tryz.func36, Tryz.ntmps36
    go_wp2_with fail
    go_ret
    exact ⟨ret_bool (right_len (.inl h1)).symm, HB.out⟩
  · by_cases h2 : 8 < l
    · go_enter Tryz.func36, Tryz.ntmps36
      go_wp2_with fail
      go_ret
      exact ⟨ret_bool (right_len (.inr h2)).symm, HB.out⟩
    · have hl : 0 ≤ l ∧ l ≤ 8 := by omega
      have HL := Lib.hid hl
      clear hl
      by_cases k1 : k = 1
      · have HE := Lib.hid (right_base (n := n) (e := e) HL.out (.inl k1))
        subst k1
        go_enter Tryz.func36, Tryz.ntmps36
        go_wp2_with fail
        go_ret
        exact ⟨ret_bool (by rw [HE.out, Bool.eq_iff_iff]; simp), HB.out⟩
      · by_cases k2 : k = 2
        · have HE := Lib.hid (right_base (n := n) (e := e) HL.out (.inr k2))
          subst k2
          go_enter Tryz.func36, Tryz.ntmps36
          go_wp2_with fail
          go_ret
          exact ⟨ret_bool (by rw [HE.out, Bool.eq_iff_iff]; simp), HB.out⟩
        · by_cases k3 : k = 3
          · have HE := Lib.hid (right_enum (n := n) (e := e) HL.out k3)
            subst k3
            by_cases e0 : 0 ≤ e
            all_goals
              go_enter Tryz.func36, Tryz.ntmps36
              go_wp2_with fail
              go_ret
              exact ⟨ret_bool (by rw [HE.out, Bool.eq_iff_iff]; simp; omega), HB.out⟩
          · have HE := Lib.hid (right_kind (n := n) (e := e) (l := l) (by omega) k3)
            have b1 : (k == 1) = false := by simpa using k1
            have b2 : (k == 2) = false := by simpa using k2
            have b3 : (k == 3) = false := by simpa using k3
            go_enter Tryz.func36, Tryz.ntmps36
            go_wp2_with fail
            go_ret
            exact ⟨ret_bool HE.out.symm, HB.out⟩

theorem low_empty {s : ByteArray} (h : noB s = true) : lowB s.data.toList = false := by
  have h : s.data.toList = [] := by simpa [noB] using h
  rw [h]
  rfl
/-- Is a variable there always, or on a value of another one? -/
def timedB (d : Dc) : Bool := if noB d.on then noB d.ct else lowB d.on.data.toList && armT d.ct
theorem decl_timed (n : Nat) (d : Dc) : declB n rightB d = (lowB d.nm.data.toList && rightB n d.k d.e d.l && timedB d) := by
  unfold declB timedB
  cases h : noB d.on with
  | true => rw [low_empty h]; simp
  | false => simp

set_option maxRecDepth 100000 in
set_option maxHeartbeats 2000000 in
theorem pgArm (s : ByteArray) (w : World) (hs : s.size ≤ 9223372036854775807) :
    Calls Tryz.prog 57 #[.string s] w fun e w' => e = .returned (.bool (armT s)) ∧ Below w.heap.size w w' := by
  have HH := Lib.hid (idHigh s w hs)
  have HE := Lib.hid (show armT s = (highB s.data.toList || (s.toList == [116, 114, 117, 101]) || (s.toList == [102, 97, 108, 115, 101])) by rw [Lib.toList_data]; rfl)
  generalize armT s = out at *
  generalize highB s.data.toList = b at *
  cases b with
  | true =>
    go_enter Tryz.func57, Tryz.ntmps57
    go_wp2_with fail
    refine HH.out.mono ?_
    rintro e w2 ⟨rfl, hb2⟩
    have HB2 := Lib.hid hb2
    clear hb2
    go_wp2_with fail
    go_ret
    exact ⟨ret_bool (by rw [HE.out]; rfl), HB2.out⟩
  | false =>
    cases h1 : (s.toList == [116, 114, 117, 101]) with
    | true =>
      rw [h1] at HE
      go_enter Tryz.func57, Tryz.ntmps57
      go_wp2_with fail
      refine HH.out.mono ?_
      rintro e w2 ⟨rfl, hb2⟩
      have HB2 := Lib.hid hb2
      clear hb2
      go_wp2_with fail
      go_ret
      exact ⟨ret_bool (by rw [HE.out]; rfl), HB2.out⟩
    | false =>
      rw [h1] at HE
      cases h2 : (s.toList == [102, 97, 108, 115, 101]) with
      | true =>
        rw [h2] at HE
        go_enter Tryz.func57, Tryz.ntmps57
        go_wp2_with fail
        refine HH.out.mono ?_
        rintro e w2 ⟨rfl, hb2⟩
        have HB2 := Lib.hid hb2
        clear hb2
        go_wp2_with fail
        go_ret
        exact ⟨ret_bool (by rw [HE.out]; rfl), HB2.out⟩
      | false =>
        rw [h2] at HE
        go_enter Tryz.func57, Tryz.ntmps57
        go_wp2_with fail
        refine HH.out.mono ?_
        rintro e w2 ⟨rfl, hb2⟩
        have HB2 := Lib.hid hb2
        clear hb2
        go_wp2_with fail
        go_ret
        exact ⟨ret_bool (by rw [HE.out]; rfl), HB2.out⟩

set_option maxRecDepth 100000 in
set_option maxHeartbeats 2000000 in
theorem pgTimed (d : Dc) (w : World) (ho : OkD d) :
    Calls Tryz.prog 37 #[.agg (dcA d)] w fun e w' => e = .returned (.bool (timedB d)) ∧ Below w.heap.size w w' := by
  have HF := Lib.hid fun w1 hw => dc_facts w d w1 hw
  have HL := Lib.hid fun w1 => idLow d.on w1 (by have := ho.2.1; unfold maxLen at this; omega)
  have HA := Lib.hid fun w1 => pgArm d.ct w1 (by have := ho.2.2; unfold maxLen at this; omega)
  have HE := Lib.hid (show timedB d = if (d.on.toList == []) then (d.ct.toList == []) else lowB d.on.data.toList && armT d.ct by rw [Lib.toList_data, Lib.toList_data]; rfl)
  clear ho
  unfold dcA at HF ⊢
  generalize timedB d = out at *
  generalize lowB d.on.data.toList = lb at *
  generalize armT d.ct = ab at *
  go_enter Tryz.func37, Tryz.ntmps37
  go_upto_region 1 with (fail)
  generalize hw1 : w.alloc _ = w1
  obtain ⟨hb1, hg, hcell⟩ := HF.out w1 hw1
  have HB1 := Lib.hid hb1
  have HC := Lib.hid hcell
  have q2 := hcell w1 (Below.refl _ _) 4
  have q3 := hcell w1 (Below.refl _ _) 5
  simp only [List.getElem?_toArray, List.getElem?_cons_zero, List.getElem?_cons_succ] at q2 q3
  clear hw1 hcell hb1 HF
  cases h1 : (d.on.toList == []) with
  | true =>
    rw [h1, if_pos rfl] at HE
    generalize hc : (d.ct.toList == []) = cb at *
    go_wp2_with fail
    go_ret
    exact ⟨ret_bool HE.out.symm, HB1.out⟩
  | false =>
    rw [h1, if_neg (by simp)] at HE
    cases lb with
    | false =>
      go_wp2_with fail
      refine (HL.out w1).mono ?_
      rintro e w2 ⟨rfl, hb2⟩
      have HB2 := Lib.hid (HB1.out.trans (hb2.mono HB1.out.size))
      clear hb2 q2 q3
      go_wp2_with fail
      go_ret
      exact ⟨ret_bool HE.out.symm, HB2.out⟩
    | true =>
      go_wp2_with fail
      refine (HL.out w1).mono ?_
      rintro e w2 ⟨rfl, hb2⟩
      have HB2 := Lib.hid (HB1.out.trans (hb2.mono HB1.out.size))
      have p3 := HC.out w2 hb2 5
      simp only [List.getElem?_toArray, List.getElem?_cons_zero, List.getElem?_cons_succ] at p3
      clear hb2 q2 q3
      go_wp2_with fail
      refine (HA.out w2).mono ?_
      rintro e w3 ⟨rfl, hb3⟩
      have HB3 := Lib.hid (HB2.out.trans (hb3.mono HB2.out.size))
      clear hb3 p3
      go_wp2_with fail
      go_ret
      exact ⟨ret_bool HE.out.symm, HB3.out⟩
end Go.Proofs.YtapnodhgjfbjjaaGreat

namespace Go.Proofs.YtapnodhgjfbjjaaGreat
open Go.RowKit Go.Sort
set_option linter.unusedVariables false
set_option linter.unusedSimpArgs false

set_option maxRecDepth 100000 in
set_option maxHeartbeats 2000000 in
theorem pgVar (d : Dc) (be : Nat) (E : Option Addr) (ne ec : Nat) (w : World) (ho : OkD d) (hn : ne ≤ 9223372036854775807) (he : w.cell? ⟨be, 0, none⟩ = some (.slice E ne ec)) :
    Calls Tryz.prog 34 #[.agg (dcA d), .pointer (some ⟨be, 0, none⟩)] w fun e w' => e = .returned (.bool (!declB ne rightB d)) ∧ Below w.heap.size w w' := by
  have HF := Lib.hid fun w1 hw => dc_facts w d w1 hw
  have HL := Lib.hid fun w1 => idLow d.nm w1 (by have := ho.1; unfold maxLen at this; omega)
  have HR := Lib.hid fun w1 => tyRight E ne ec d.k d.e d.l w1 hn
  have HT := Lib.hid fun w1 => pgTimed d w1 ho
  have HE := Lib.hid (decl_timed ne d)
  have HBE := Lib.hid (World.block_lt_of_cell? _ _ he)
  have HCE := Lib.hid he
  clear ho he
  unfold dcA at HF HT ⊢
  unfold tyV at HR
  generalize declB ne rightB d = out at *
  generalize lowB d.nm.data.toList = lb at *
  generalize rightB ne d.k d.e d.l = rb at *
  generalize timedB d = tb at *
  go_enter Tryz.func34, Tryz.ntmps34
  go_upto_region 1 with (fail)
  generalize hw1 : w.alloc _ = w1
  obtain ⟨hb1, hg, hcell⟩ := HF.out w1 hw1
  have HB1 := Lib.hid hb1
  have HC := Lib.hid hcell
  have q0 := hcell w1 (Below.refl _ _) 0
  simp only [List.getElem?_toArray, List.getElem?_cons_zero, List.getElem?_cons_succ] at q0
  clear hw1 hcell hb1 HF
  cases lb with
  | false =>
    go_wp2_with fail
    refine (HL.out w1).mono ?_
    rintro e w2 ⟨rfl, hb2⟩
    have HB2 := Lib.hid (HB1.out.trans (hb2.mono HB1.out.size))
    clear hb2 q0
    go_wp2_with fail
    go_ret
    exact ⟨ret_bool (by rw [HE.out]; rfl), HB2.out⟩
  | true =>
    go_wp2_with fail
    refine (HL.out w1).mono ?_
    rintro e w2 ⟨rfl, hb2⟩
    have HB2 := Lib.hid (HB1.out.trans (hb2.mono HB1.out.size))
    have p1 := HC.out w2 hb2 1
    have p2 := HC.out w2 hb2 2
    have p3 := HC.out w2 hb2 3
    simp only [List.getElem?_toArray, List.getElem?_cons_zero, List.getElem?_cons_succ] at p1 p2 p3
    have pe := (HB2.out.cell (p := ⟨be, 0, none⟩) HBE.out).trans HCE.out
    have HW2 := Lib.hid hb2
    clear hb2 q0
    cases rb with
    | false =>
      go_wp2_with fail
      refine (HR.out w2).mono ?_
      rintro e w3 ⟨rfl, hb3⟩
      have HB3 := Lib.hid (HB2.out.trans (hb3.mono HB2.out.size))
      clear hb3 p1 p2 p3 pe
      go_wp2_with fail
      go_ret
      exact ⟨ret_bool (by rw [HE.out]; rfl), HB3.out⟩
    | true =>
      go_wp2_with fail
      refine (HR.out w2).mono ?_
      rintro e w3 ⟨rfl, hb3⟩
      have HB3 := Lib.hid (HB2.out.trans (hb3.mono HB2.out.size))
      have hw3 := HW2.out.trans (hb3.mono HW2.out.size)
      have s0 := HC.out w3 hw3 0
      have s1 := HC.out w3 hw3 1
      have s2 := HC.out w3 hw3 2
      have s3 := HC.out w3 hw3 3
      have s4 := HC.out w3 hw3 4
      have s5 := HC.out w3 hw3 5
      simp only [List.getElem?_toArray, List.getElem?_cons_zero, List.getElem?_cons_succ] at s0 s1 s2 s3 s4 s5
      clear hb3 p1 p2 p3 pe hw3
      go_wp2_with fail
      refine (HT.out w3).mono ?_
      rintro e w4 ⟨rfl, hb4⟩
      have HB4 := Lib.hid (HB3.out.trans (hb4.mono HB3.out.size))
      clear hb4 s0 s1 s2 s3 s4 s5
      generalize hnt : (!tb) = nt at *
      cases nt with
      | true =>
        go_wp2_with fail
        go_ret
        exact ⟨ret_bool (by rw [HE.out]; simpa using hnt.symm), HB4.out⟩
      | false =>
        go_wp2_with fail
        go_ret
        exact ⟨ret_bool (by rw [HE.out]; simpa using hnt.symm), HB4.out⟩

set_option maxRecDepth 100000 in
set_option maxHeartbeats 2000000 in
theorem pgPort (d : Dc) (bv be : Nat) (E : Option Addr) (ne ec : Nat) (w : World) (ho : OkD d) (hn : ne ≤ 9223372036854775807) (he : w.cell? ⟨be, 0, none⟩ = some (.slice E ne ec))
    (hv : w.cell? ⟨bv, 0, none⟩ = some (.func (.func 34) #[] #[.pointer (some ⟨be, 0, none⟩)])) :
    Calls Tryz.prog 38 #[.agg (dcA d), .pointer (some ⟨bv, 0, none⟩)] w fun e w' => e = .returned (.bool (!(declB ne rightB d && noB d.on))) ∧ Below w.heap.size w w' := by
  have HF := Lib.hid fun w1 hw => dc_facts w d w1 hw
  have HV := Lib.hid fun w1 (hb : Below w.heap.size w w1) => pgVar d be E ne ec w1 ho hn ((hb.cell (p := ⟨be, 0, none⟩) (World.block_lt_of_cell? _ _ he)).trans he)
  have HE := Lib.hid (show noB d.on = (d.on.toList == []) by rw [Lib.toList_data]; rfl)
  have HBV := Lib.hid (World.block_lt_of_cell? _ _ hv)
  have HCV := Lib.hid hv
  clear ho he hv
  unfold dcA at HF HV ⊢
  rw [HE.out]
  clear HE
  generalize declB ne rightB d = db at *
  go_enter Tryz.func38, Tryz.ntmps38
  go_upto_region 1 with (fail)
  generalize hw1 : w.alloc _ = w1
  obtain ⟨hb1, hg, hcell⟩ := HF.out w1 hw1
  have HB1 := Lib.hid hb1
  have HC := Lib.hid hcell
  have HV1 := Lib.hid (HV.out w1 hb1)
  have qv := (hb1.cell (p := ⟨bv, 0, none⟩) HBV.out).trans HCV.out
  have q0 := hcell w1 (Below.refl _ _) 0
  have q1 := hcell w1 (Below.refl _ _) 1
  have q2 := hcell w1 (Below.refl _ _) 2
  have q3 := hcell w1 (Below.refl _ _) 3
  have q4 := hcell w1 (Below.refl _ _) 4
  have q5 := hcell w1 (Below.refl _ _) 5
  simp only [List.getElem?_toArray, List.getElem?_cons_zero, List.getElem?_cons_succ] at q0 q1 q2 q3 q4 q5
  clear hw1 hcell hb1 HF HV
  cases db with
  | false =>
    go_wp2_with fail
    refine HV1.out.mono ?_
    rintro e w2 ⟨rfl, hb2⟩
    have HB2 := Lib.hid (HB1.out.trans (hb2.mono HB1.out.size))
    clear hb2 q0 q1 q2 q3 q4 q5 qv
    go_wp2_with fail
    go_ret
    exact ⟨rfl, HB2.out⟩
  | true =>
    go_wp2_with fail
    refine HV1.out.mono ?_
    rintro e w2 ⟨rfl, hb2⟩
    have HB2 := Lib.hid (HB1.out.trans (hb2.mono HB1.out.size))
    have p4 := HC.out w2 hb2 4
    simp only [List.getElem?_toArray, List.getElem?_cons_zero, List.getElem?_cons_succ] at p4
    clear hb2 q0 q1 q2 q3 q4 q5 qv
    have hne : (d.on.toList != []) = !(d.on.toList == []) := rfl
    cases h1 : (d.on.toList == []) with
    | true =>
      rw [h1] at hne
      go_wp2_with fail
      go_ret
      exact ⟨ret_bool (by rw [h1]; rfl), HB2.out⟩
    | false =>
      rw [h1] at hne
      go_wp2_with fail
      go_ret
      exact ⟨ret_bool (by rw [h1]; rfl), HB2.out⟩
end Go.Proofs.YtapnodhgjfbjjaaGreat

namespace Go.Proofs.YtapnodhgjfbjjaaGreat
open Go.RowKit Go.Sort
set_option linter.unusedVariables false
set_option linter.unusedSimpArgs false

set_option maxRecDepth 100000 in
theorem pgWrong1 (s : ByteArray) (w : World) (hs : s.size ≤ 9223372036854775807) :
    Calls Tryz.prog 60 #[.string s] w fun e w' => e = .returned (.bool (!lowB s.data.toList)) ∧ Below w.heap.size w w' := by
  have HL := Lib.hid (idLow s w hs)
  generalize lowB s.data.toList = b at *
  go_enter Tryz.func60, Tryz.ntmps60
  go_wp2_with fail
  refine HL.out.mono ?_
  rintro e w2 ⟨rfl, hb2⟩
  have HB2 := Lib.hid hb2
  clear hb2
  go_wp2_with fail
  go_ret
  exact ⟨rfl, HB2.out⟩

set_option maxRecDepth 100000 in
set_option maxHeartbeats 4000000 in
theorem pgWrongEq (q : Qn) (A : Option Addr) (c : Nat) (A' : Option Addr) (ca : Nat) (B' : Option Addr) (cb : Nat) (w : World) (hr : RdT w A q.ns.length q.ns) (hx : rdX w q.x A' B') (hok : OkQ q) :
    Calls Tryz.prog 42 #[.agg (qnA q A c A' ca B' cb)] w fun e w' => e = .returned (.bool (!eqB rightX q)) ∧ Below w.heap.size w w' := by
  have HF := Lib.hid fun w1 h => qn_facts w q A c A' ca B' cb w1 h hr hx
  have hmx := hr.max
  have HRX := Lib.hid fun w1 (h : rdX w1 q.x A' B') => exRight q.x A' ca B' cb w1 h hok.2.1 hok.2.2
  have HNM := Lib.hid fun w1 (h : RdT w1 A q.ns.length q.ns) => slHasT 60 #[] (fun _ _ => rfl) (fun s => !lowB s.data.toList) A q.ns.length c q.ns w1 h
    fun s hs W _ => pgWrong1 s W (by have := hok.1 s hs; unfold maxLen at this; omega)
  have HE := Lib.hid (show (!eqB rightX q) = (decide (q.ns.length = 0) || (q.ns.any fun s => !lowB s.data.toList) || !rightX q.x || (!decide (q.ns.length ≤ 1) && !(q.x.k == 13))) by
    unfold eqB
    rw [← List.not_all_eq_any_not]
    generalize (q.ns.all fun s => lowB s.data.toList) = a
    rcases Nat.lt_trichotomy q.ns.length 1 with h | h | h
    · have : q.ns.length = 0 := by omega
      simp [this]
    · simp [h]
    · have h0 : q.ns.length ≠ 0 := by omega
      have h1 : q.ns.length ≠ 1 := by omega
      have h2 : ¬ q.ns.length ≤ 1 := by omega
      have h3 : 0 < q.ns.length := by omega
      simp [h0, h1, h2, h3])
  clear hok hr hx
  unfold exA at HRX
  unfold qnA
  generalize (!eqB rightX q) = out at *
  generalize rightX q.x = rb at *
  generalize (q.ns.any fun s => !lowB s.data.toList) = nb at *
  go_enter Tryz.func42, Tryz.ntmps42
  go_upto_region 1 with (fail)
  generalize hw1 : w.alloc _ = w1
  obtain ⟨hb1, hg, hR1, hX1, hcell⟩ := HF.out w1 hw1
  have HB1 := Lib.hid hb1
  have HC := Lib.hid hcell
  have HX1 := Lib.hid hX1
  have HN1 := Lib.hid (HNM.out w1 hR1)
  simp only [qnA] at HC
  have q0 := HC.out w1 (Below.refl _ _) 0
  simp only [List.getElem?_toArray, List.getElem?_cons_zero, List.getElem?_cons_succ] at q0
  clear hw1 hcell hb1 HF hR1 hX1 HNM
  generalize q.ns.length = n at *
  generalize q.x.k = xk at *
  generalize q.x.n = xn at *
  generalize q.x.s = xs at *
  generalize q.x.op = xo at *
  generalize q.x.arms.length = xa at *
  generalize q.x.subs.length = xb at *
  by_cases h0 : n = 0
  · subst h0
    have d0 : (((0 : Nat) : Int) == 0) = true := rfl
    go_wp2_with fail
    go_ret
    exact ⟨ret_bool (by rw [HE.out]; rfl), HB1.out⟩
  · have d0 : ((n : Int) == 0) = false := by rw [beq_eq_false_iff_ne]; omega
    rw [show decide (n = 0) = false by simp [h0]] at HE
    have HN0 := Lib.hid h0
    clear h0
    cases nb with
    | true =>
      go_wp2_with fail
      refine HN1.out.mono ?_
      rintro e w2 ⟨rfl, hb2⟩
      have HB2 := Lib.hid (HB1.out.trans (hb2.mono HB1.out.size))
      clear hb2 q0
      go_wp2_with fail
      go_ret
      exact ⟨ret_bool (by rw [HE.out]; rfl), HB2.out⟩
    | false =>
      go_wp2_with fail
      refine HN1.out.mono ?_
      rintro e w2 ⟨rfl, hb2⟩
      have HB2 := Lib.hid (HB1.out.trans (hb2.mono HB1.out.size))
      have HW2 := Lib.hid hb2
      have HR2 := Lib.hid (HRX.out w2 (HX1.out.below hb2))
      have p1 := HC.out w2 hb2 1
      have p2 := HC.out w2 hb2 2
      have p3 := HC.out w2 hb2 3
      have p4 := HC.out w2 hb2 4
      have p5 := HC.out w2 hb2 5
      have p6 := HC.out w2 hb2 6
      simp only [List.getElem?_toArray, List.getElem?_cons_zero, List.getElem?_cons_succ] at p1 p2 p3 p4 p5 p6
      clear hb2 q0
      cases rb with
      | false =>
        go_wp2_with fail
        refine HR2.out.mono ?_
        rintro e w3 ⟨rfl, hb3⟩
        have HB3 := Lib.hid (HB2.out.trans (hb3.mono HB2.out.size))
        clear hb3 p1 p2 p3 p4 p5 p6
        go_wp2_with fail
        go_ret
        exact ⟨ret_bool (by rw [HE.out]; rfl), HB3.out⟩
      | true =>
        go_wp2_with fail
        refine HR2.out.mono ?_
        rintro e w3 ⟨rfl, hb3⟩
        have HB3 := Lib.hid (HB2.out.trans (hb3.mono HB2.out.size))
        have hw3 := HW2.out.trans (hb3.mono HW2.out.size)
        have s0 := HC.out w3 hw3 0
        have s1 := HC.out w3 hw3 1
        simp only [List.getElem?_toArray, List.getElem?_cons_zero, List.getElem?_cons_succ] at s0 s1
        clear hb3 p1 p2 p3 p4 p5 p6 hw3
        by_cases h1 : n ≤ 1
        · rw [show decide (n ≤ 1) = true by simp [h1]] at HE
          have d1 : decide ((1 : Int) < (n : Int)) = false := decide_eq_false (by omega)
          clear h1
          go_wp2_with fail
          go_ret
          exact ⟨ret_bool (by rw [HE.out]; rfl), HB3.out⟩
        · rw [show decide (n ≤ 1) = false by simp [h1]] at HE
          have d1 : decide ((1 : Int) < (n : Int)) = true := decide_eq_true (by omega)
          clear h1
          cases hk : (xk == 13) with
          | true =>
            rw [hk] at HE
            have hk2 : (xk != 13) = false := by rw [bne, hk]; rfl
            go_wp2_with fail
            go_ret
            exact ⟨ret_bool (by rw [HE.out]; rfl), HB3.out⟩
          | false =>
            rw [hk] at HE
            have hk2 : (xk != 13) = true := by rw [bne, hk]; rfl
            go_wp2_with fail
            go_ret
            exact ⟨ret_bool (by rw [HE.out]; rfl), HB3.out⟩

set_option maxRecDepth 100000 in
set_option maxHeartbeats 4000000 in
theorem pgCrowded (x : Nd) (A1 : Option Addr) (c1 : Nat) (A2 : Option Addr) (c2 : Nat) (A3 : Option Addr) (c3 : Nat) (A4 : Option Addr) (c4 : Nat) (w : World) (h : rdN w x A1 A2 A3 A4) :
    Calls Tryz.prog 16 #[.agg (ndA x A1 c1 A2 c2 A3 c3 A4 c4)] w fun e w' => e = .returned (.bool (manyN x)) ∧ Below w.heap.size w w' := by
  have HF := Lib.hid fun w1 hw => nd_facts w x A1 c1 A2 c2 A3 c3 A4 c4 w1 hw h
  have HE := Lib.hid (show manyN x = (decide ((6 : Int) < (x.ins.length : Int)) || decide ((6 : Int) < (x.outs.length : Int)) || decide ((12 : Int) < (x.vars.length : Int)) || decide ((18 : Int) < (x.eqs.length : Int))) by
    unfold manyN
    congr 1
    · congr 1
      · congr 1
        · exact decide_eq_decide.2 (by omega)
        · exact decide_eq_decide.2 (by omega)
      · exact decide_eq_decide.2 (by omega)
    · exact decide_eq_decide.2 (by omega))
  clear h
  unfold ndA at HF ⊢
  generalize manyN x = out at *
  generalize (x.ins.length : Nat) = n1 at *
  generalize (x.outs.length : Nat) = n2 at *
  generalize (x.vars.length : Nat) = n3 at *
  generalize (x.eqs.length : Nat) = n4 at *
  go_enter Tryz.func16, Tryz.ntmps16
  go_upto_region 1 with (fail)
  generalize hw1 : w.alloc _ = w1
  obtain ⟨hb1, hg, hR1, hcell⟩ := HF.out w1 hw1
  have HB1 := Lib.hid hb1
  have q1 := hcell w1 (Below.refl _ _) 1
  have q2 := hcell w1 (Below.refl _ _) 2
  have q3 := hcell w1 (Below.refl _ _) 3
  have q4 := hcell w1 (Below.refl _ _) 4
  simp only [List.getElem?_toArray, List.getElem?_cons_zero, List.getElem?_cons_succ] at q1 q2 q3 q4
  clear hw1 hcell hb1 HF hR1
  cases e1 : decide ((6 : Int) < (n1 : Int)) with
  | true =>
    rw [e1] at HE
    go_wp2_with fail
    go_ret
    exact ⟨ret_bool (by rw [HE.out]; rfl), HB1.out⟩
  | false =>
    rw [e1] at HE
    cases e2 : decide ((6 : Int) < (n2 : Int)) with
    | true =>
      rw [e2] at HE
      go_wp2_with fail
      go_ret
      exact ⟨ret_bool (by rw [HE.out]; rfl), HB1.out⟩
    | false =>
      rw [e2] at HE
      cases e3 : decide ((12 : Int) < (n3 : Int)) with
      | true =>
        rw [e3] at HE
        go_wp2_with fail
        go_ret
        exact ⟨ret_bool (by rw [HE.out]; rfl), HB1.out⟩
      | false =>
        rw [e3] at HE
        cases e4 : decide ((18 : Int) < (n4 : Int)) with
        | true =>
          rw [e4] at HE
          go_wp2_with fail
          go_ret
          exact ⟨ret_bool (by rw [HE.out]; rfl), HB1.out⟩
        | false =>
          rw [e4] at HE
          go_wp2_with fail
          go_ret
          exact ⟨ret_bool (by rw [HE.out]; rfl), HB1.out⟩
end Go.Proofs.YtapnodhgjfbjjaaGreat
