/- Which expressions are the same, of the document's text. Conditions: none. -/
import Derived.Test.YtapnodhgjfbjjaaExF
import Derived.Test.YtapnodhgjfbjjaaNmT
namespace Go.Proofs.Ytapnodhgjfbjjaa
open Go.RowKit Go.Sort
set_option linter.unusedVariables false

mutual
def sameX : Ex → Ex → Bool
  | .mk k n s op arms subs, y => (k == y.k) && (n == y.n) && (s.toList == y.s.toList) && (op == y.op) && sameT arms y.arms && sameXs subs y.subs
def sameXs : List Ex → List Ex → Bool
  | [], [] => true
  | x :: l, y :: m => sameX x y && sameXs l m
  | _, _ => false
end
theorem sameX_eq (x y : Ex) : sameX x y = ((x.k == y.k) && (x.n == y.n) && (x.s.toList == y.s.toList) && (x.op == y.op) && sameT x.arms y.arms && sameXs x.subs y.subs) := by
  cases x; simp only [sameX, Ex.k, Ex.n, Ex.s, Ex.op, Ex.arms, Ex.subs]
theorem sameXs_len : ∀ {l m : List Ex}, l.length ≠ m.length → sameXs l m = false
  | [], [], h => absurd rfl h
  | x :: l, y :: m, h => by
    simp only [sameXs, sameXs_len (l := l) (m := m) (fun e => h (by simp [e])), Bool.and_false]
  | [], _ :: _, _ => by simp only [sameXs]
  | _ :: _, [], _ => by simp only [sameXs]
theorem sameXs_at : ∀ {l m : List Ex} {i : Nat}, i < l.length → i < m.length → sameX (l[i]?.getD default) (m[i]?.getD default) = false → sameXs l m = false
  | [], _, i, h, _, _ => absurd h (by simp)
  | _ :: _, [], i, _, h, _ => absurd h (by simp)
  | x :: l, y :: m, 0, _, _, h => by
    simp only [List.getElem?_cons_zero, Option.getD_some] at h
    simp only [sameXs, h, Bool.false_and]
  | x :: l, y :: m, i + 1, h1, h2, h => by
    simp only [List.getElem?_cons_succ] at h
    simp only [sameXs, sameXs_at (by simpa using h1) (by simpa using h2) h, Bool.and_false]
theorem sameXs_yes : ∀ {l m : List Ex}, l.length = m.length → (∀ i, i < l.length → sameX (l[i]?.getD default) (m[i]?.getD default) = true) → sameXs l m = true
  | [], [], _, _ => by simp only [sameXs]
  | [], _ :: _, h, _ => by simp at h
  | _ :: _, [], h, _ => by simp at h
  | x :: l, y :: m, h, H => by
    simp only [sameXs, Bool.and_eq_true]
    refine ⟨by simpa using H 0 (by simp), sameXs_yes (by simpa using h) fun i hi => ?_⟩
    simpa using H (i + 1) (by simpa using hi)

/-- Two parameters' boxes. -/
theorem box2_facts (w : World) (x y : Ex) (A A' : Option Addr) (ca ca' : Nat) (B B' : Option Addr) (cb cb' : Nat) (w1 : World) (h : (w.alloc (.cells (exA x A ca B cb) 48)).alloc (.cells (exA y A' ca' B' cb') 48) = w1) (hr : rdX w x A B) (hr' : rdX w y A' B') :
    Below w.heap.size w w1 ∧ w.heap.size + 1 < w1.heap.size ∧ rdX w1 x A B ∧ rdX w1 y A' B' ∧ (∀ w', Below w1.heap.size w1 w' → ∀ j, w'.cell? ⟨w.heap.size, j, none⟩ = (exA x A ca B cb)[j]?) ∧ ∀ w', Below w1.heap.size w1 w' → ∀ j, w'.cell? ⟨w.heap.size + 1, j, none⟩ = (exA y A' ca' B' cb')[j]? := by
  subst h
  refine ⟨((Below.refl _ _).alloc (Nat.le_refl _) _).alloc (by simp) _, by simp, (hr.alloc _).alloc _, (hr'.alloc _).alloc _, fun w' hb j => ?_, fun w' hb j => ?_⟩
  · rw [hb.cell (p := ⟨w.heap.size, j, none⟩) (by simp; omega), World.cell?_alloc_lt _ _ _ (by simp), World.cell?_alloc_new]
  · rw [hb.cell (p := ⟨w.heap.size + 1, j, none⟩) (by simp)]
    have := World.cell?_alloc_new (w.alloc (.cells (exA x A ca B cb) 48)) (exA y A' ca' B' cb') 48 j
    rwa [World.size_alloc] at this

set_option maxRecDepth 100000 in
set_option maxHeartbeats 8000000 in
theorem refSame : ∀ (x : Ex) (A : Option Addr) (ca : Nat) (B : Option Addr) (cb : Nat) (y : Ex) (A' : Option Addr) (ca' : Nat) (B' : Option Addr) (cb' : Nat) (w : World), rdX w x A B → rdX w y A' B' →
    Calls Try.prog 37 #[.agg (exA x A ca B cb), .agg (exA y A' ca' B' cb')] w fun e w' => e = .returned (.bool (sameX x y)) ∧ Below w.heap.size w w' := by
  refine size_ind fun x ih A ca B cb y A' ca' B' cb' w hr hr' => ?_
  have HIH := Lib.hid ih
  have hmx := hr.subs.max
  have hmx' := hr'.subs.max
  have HF := Lib.hid fun w1 h => box2_facts w x y A A' ca ca' B B' cb cb' w1 h hr hr'
  have HNM := Lib.hid fun w1 (h : Below w.heap.size w w1) => refNames A A' x.arms.length y.arms.length ca ca' x.arms y.arms w1 (hr.below h).arms (hr'.below h).arms
  have HS := Lib.hid (sameX_eq x y)
  have HXL := Lib.hid fun h => sameXs_len (l := x.subs) (m := y.subs) h
  have HXA := Lib.hid fun i h1 h2 h => sameXs_at (l := x.subs) (m := y.subs) (i := i) h1 h2 h
  have HXY := Lib.hid fun h1 h2 => sameXs_yes (l := x.subs) (m := y.subs) h1 h2
  clear ih hr hr'
  unfold exA at HF HIH ⊢
  generalize hlen : x.subs.length = n1 at *
  generalize hlen' : y.subs.length = n2 at *
  generalize sameX x y = res at *
  generalize x.k = k1 at *
  generalize y.k = k2 at *
  generalize x.n = m1 at *
  generalize y.n = m2 at *
  generalize x.s = s1 at *
  generalize y.s = s2 at *
  generalize x.op = o1 at *
  generalize y.op = o2 at *
  generalize sameT x.arms y.arms = nb at *
  generalize x.arms.length = a1 at *
  generalize y.arms.length = a2 at *
  generalize hk : (k1 == k2) = bk at *
  generalize hm : (m1 == m2) = bm at *
  generalize hs : (s1.toList == s2.toList) = bs at *
  generalize ho : (o1 == o2) = bo at *
  have nk : (k1 != k2) = !bk := by rw [bne, hk]
  have nm : (m1 != m2) = !bm := by rw [bne, hm]
  have ns : (s1.toList != s2.toList) = !bs := by rw [bne, hs]
  have no : (o1 != o2) = !bo := by rw [bne, ho]
  clear hk hm ho
  cases bk with
  | false =>
    have HN := Lib.hid (show res = false by rw [HS.out]; rfl)
    go_enter Try.func37, Try.ntmps37
    go_upto_region 1 with (fail)
    generalize hw1 : (w.alloc _).alloc _ = w1
    obtain ⟨hb1, hg, hr1, hr2, hcell, hcell2⟩ := HF.out w1 hw1
    have HB1 := Lib.hid hb1
    have q0 := hcell w1 (Below.refl _ _) 0
    have p0 := hcell2 w1 (Below.refl _ _) 0
    clear hcell hcell2 hb1 hr1 hr2 hw1 HF
    go_wp2_with fail
    go_ret
    exact ⟨ret_bool HN.out.symm, HB1.out⟩
  | true =>
    cases bm with
    | false =>
      have HN := Lib.hid (show res = false by rw [HS.out]; simp)
      go_enter Try.func37, Try.ntmps37
      go_upto_region 1 with (fail)
      generalize hw1 : (w.alloc _).alloc _ = w1
      obtain ⟨hb1, hg, hr1, hr2, hcell, hcell2⟩ := HF.out w1 hw1
      have HB1 := Lib.hid hb1
      have HC := Lib.hid hcell
      have HC2 := Lib.hid hcell2
      have HR1 := Lib.hid hr1
      have HR2 := Lib.hid hr2
      have HN1 := Lib.hid (HNM.out w1 hb1)
      have q0 := hcell w1 (Below.refl _ _) 0
      have p0 := hcell2 w1 (Below.refl _ _) 0
      have q1 := hcell w1 (Below.refl _ _) 1
      have p1 := hcell2 w1 (Below.refl _ _) 1
      have q2 := hcell w1 (Below.refl _ _) 2
      have p2 := hcell2 w1 (Below.refl _ _) 2
      have q3 := hcell w1 (Below.refl _ _) 3
      have p3 := hcell2 w1 (Below.refl _ _) 3
      have q4 := hcell w1 (Below.refl _ _) 4
      have p4 := hcell2 w1 (Below.refl _ _) 4
      have q5 := hcell w1 (Below.refl _ _) 5
      have p5 := hcell2 w1 (Below.refl _ _) 5
      clear hcell hcell2 hb1 hr1 hr2 hw1 HF
      go_wp2_with fail
      go_ret
      exact ⟨ret_bool HN.out.symm, HB1.out⟩
    | true =>
      cases bs with
      | false =>
        have HN := Lib.hid (show res = false by rw [HS.out]; simp)
        go_enter Try.func37, Try.ntmps37
        go_upto_region 1 with (fail)
        generalize hw1 : (w.alloc _).alloc _ = w1
        obtain ⟨hb1, hg, hr1, hr2, hcell, hcell2⟩ := HF.out w1 hw1
        have HB1 := Lib.hid hb1
        have HC := Lib.hid hcell
        have HC2 := Lib.hid hcell2
        have HR1 := Lib.hid hr1
        have HR2 := Lib.hid hr2
        have HN1 := Lib.hid (HNM.out w1 hb1)
        have q0 := hcell w1 (Below.refl _ _) 0
        have p0 := hcell2 w1 (Below.refl _ _) 0
        have q1 := hcell w1 (Below.refl _ _) 1
        have p1 := hcell2 w1 (Below.refl _ _) 1
        have q2 := hcell w1 (Below.refl _ _) 2
        have p2 := hcell2 w1 (Below.refl _ _) 2
        have q3 := hcell w1 (Below.refl _ _) 3
        have p3 := hcell2 w1 (Below.refl _ _) 3
        have q4 := hcell w1 (Below.refl _ _) 4
        have p4 := hcell2 w1 (Below.refl _ _) 4
        have q5 := hcell w1 (Below.refl _ _) 5
        have p5 := hcell2 w1 (Below.refl _ _) 5
        clear hcell hcell2 hb1 hr1 hr2 hw1 HF
        go_wp2_with fail
        go_ret
        exact ⟨ret_bool HN.out.symm, HB1.out⟩
      | true =>
        cases bo with
        | false =>
          have HN := Lib.hid (show res = false by rw [HS.out]; simp)
          go_enter Try.func37, Try.ntmps37
          go_upto_region 1 with (fail)
          generalize hw1 : (w.alloc _).alloc _ = w1
          obtain ⟨hb1, hg, hr1, hr2, hcell, hcell2⟩ := HF.out w1 hw1
          have HB1 := Lib.hid hb1
          have HC := Lib.hid hcell
          have HC2 := Lib.hid hcell2
          have HR1 := Lib.hid hr1
          have HR2 := Lib.hid hr2
          have HN1 := Lib.hid (HNM.out w1 hb1)
          have q0 := hcell w1 (Below.refl _ _) 0
          have p0 := hcell2 w1 (Below.refl _ _) 0
          have q1 := hcell w1 (Below.refl _ _) 1
          have p1 := hcell2 w1 (Below.refl _ _) 1
          have q2 := hcell w1 (Below.refl _ _) 2
          have p2 := hcell2 w1 (Below.refl _ _) 2
          have q3 := hcell w1 (Below.refl _ _) 3
          have p3 := hcell2 w1 (Below.refl _ _) 3
          have q4 := hcell w1 (Below.refl _ _) 4
          have p4 := hcell2 w1 (Below.refl _ _) 4
          have q5 := hcell w1 (Below.refl _ _) 5
          have p5 := hcell2 w1 (Below.refl _ _) 5
          clear hcell hcell2 hb1 hr1 hr2 hw1 HF
          go_wp2_with fail
          go_ret
          exact ⟨ret_bool HN.out.symm, HB1.out⟩
        | true =>
          cases nb with
          | false =>
            have HN := Lib.hid (show res = false by rw [HS.out]; simp)
            go_enter Try.func37, Try.ntmps37
            go_upto_region 1 with (fail)
            generalize hw1 : (w.alloc _).alloc _ = w1
            obtain ⟨hb1, hg, hr1, hr2, hcell, hcell2⟩ := HF.out w1 hw1
            have HB1 := Lib.hid hb1
            have HC := Lib.hid hcell
            have HC2 := Lib.hid hcell2
            have HR1 := Lib.hid hr1
            have HR2 := Lib.hid hr2
            have HN1 := Lib.hid (HNM.out w1 hb1)
            have q0 := hcell w1 (Below.refl _ _) 0
            have p0 := hcell2 w1 (Below.refl _ _) 0
            have q1 := hcell w1 (Below.refl _ _) 1
            have p1 := hcell2 w1 (Below.refl _ _) 1
            have q2 := hcell w1 (Below.refl _ _) 2
            have p2 := hcell2 w1 (Below.refl _ _) 2
            have q3 := hcell w1 (Below.refl _ _) 3
            have p3 := hcell2 w1 (Below.refl _ _) 3
            have q4 := hcell w1 (Below.refl _ _) 4
            have p4 := hcell2 w1 (Below.refl _ _) 4
            have q5 := hcell w1 (Below.refl _ _) 5
            have p5 := hcell2 w1 (Below.refl _ _) 5
            clear hcell hcell2 hb1 hr1 hr2 hw1 HF
            go_wp2_with fail
            refine HN1.out.mono ?_
            rintro r w2 ⟨rfl, hb2⟩
            have HB2 := Lib.hid (HB1.out.trans (hb2.mono HB1.out.size))
            clear hb2
            go_wp2_with fail
            go_ret
            exact ⟨ret_bool HN.out.symm, HB2.out⟩
          | true =>
            by_cases hnn : n1 = n2
            · subst hnn
              go_enter Try.func37, Try.ntmps37
              go_upto_region 1 with (fail)
              generalize hw1 : (w.alloc _).alloc _ = w1
              obtain ⟨hb1, hg, hr1, hr2, hcell, hcell2⟩ := HF.out w1 hw1
              have HB1 := Lib.hid hb1
              have HC := Lib.hid hcell
              have HC2 := Lib.hid hcell2
              have HR1 := Lib.hid hr1
              have HR2 := Lib.hid hr2
              have HN1 := Lib.hid (HNM.out w1 hb1)
              have q0 := hcell w1 (Below.refl _ _) 0
              have p0 := hcell2 w1 (Below.refl _ _) 0
              have q1 := hcell w1 (Below.refl _ _) 1
              have p1 := hcell2 w1 (Below.refl _ _) 1
              have q2 := hcell w1 (Below.refl _ _) 2
              have p2 := hcell2 w1 (Below.refl _ _) 2
              have q3 := hcell w1 (Below.refl _ _) 3
              have p3 := hcell2 w1 (Below.refl _ _) 3
              have q4 := hcell w1 (Below.refl _ _) 4
              have p4 := hcell2 w1 (Below.refl _ _) 4
              have q5 := hcell w1 (Below.refl _ _) 5
              have p5 := hcell2 w1 (Below.refl _ _) 5
              clear hcell hcell2 hb1 hr1 hr2 hw1 HF
              go_wp2_with fail
              refine HN1.out.mono ?_
              rintro r w2 ⟨rfl, hb2⟩
              have HB2 := Lib.hid (HB1.out.trans (hb2.mono HB1.out.size))
              have HW2 := Lib.hid hb2
              clear q0 q1 q2 q3 q4 q5 p0 p1 p2 p3 p4 p5
              have q5 := HC.out w2 hb2 5
              have p5 := HC2.out w2 hb2 5
              clear hb2
              go_wp2_with fail
              go_loopw [5] (fun i wr => ∃ k : Nat, k ≤ n1 ∧ i = .int .i64 k ∧ (∀ j, j < k → sameX (subX x j) (subX y j) = true) ∧ Below w1.heap.size w1 wr) (fun i _ => n1 - (intOf i).toNat)
              case atStart => exact ⟨0, Nat.zero_le _, rfl, fun j hj => absurd hj (by omega), HW2.out⟩
              case round =>
                obtain ⟨k, hk, rfl, hall, hbw⟩ := hrel
                have HA := Lib.hid hall
                have HBW := Lib.hid hbw
                have r5 := HC.out wr hbw 5
                have s5 := HC2.out wr hbw 5
                clear hall
                by_cases hlt : k < n1
                · obtain ⟨b, off, rfl, hb, hat⟩ := (HR1.out.below hbw).sub (i := k) (by omega)
                  obtain ⟨A1, ca1, B1, cb1, hrg, hrd⟩ := hat k (by omega)
                  obtain ⟨c0, c1, c2, c3, c4, c5⟩ := rangeAt_six hrg
                  obtain ⟨b', off', rfl, hb', hat'⟩ := (HR2.out.below hbw).sub (i := k) (by omega)
                  obtain ⟨A2, ca2, B2, cb2, hrg', hrd'⟩ := hat' k (by omega)
                  obtain ⟨d0, d1, d2, d3, d4, d5⟩ := rangeAt_six hrg'
                  have HRD := Lib.hid hrd
                  have HRD' := Lib.hid hrd'
                  have HCL := Lib.hid fun d os => HIH.out k (by omega) A1 ca1 B1 cb1 (subX y k) A2 ca2 B2 cb2 (grow (redrawn wr d) os) (HRD.out.below (below_regrown wr d os)) (HRD'.out.below (below_regrown wr d os))
                  have HBQ := Lib.hid fun d os => HBW.out.trans ((below_regrown wr d os).mono HBW.out.size)
                  clear hat hat' hrg hrg' hrd hrd' hbw HN1
                  cases hsm : sameX (subX x k) (subX y k) with
                  | false =>
                    have HN := Lib.hid (show res = false by rw [HS.out, HXA.out k (by omega) (by omega) hsm]; simp)
                    rw [hsm] at HCL
                    go_wp2_with fail
                    have cA := fun d os => Calls.regrown_of (HCL.out d os)
                    have lr5 := fun d os => cell_regrown r5 d os
                    have ls5 := fun d os => cell_regrown s5 d os
                    have lc0 := fun d os => cell_regrown c0 d os
                    have lc1 := fun d os => cell_regrown c1 d os
                    have lc2 := fun d os => cell_regrown c2 d os
                    have lc3 := fun d os => cell_regrown c3 d os
                    have lc4 := fun d os => cell_regrown c4 d os
                    have lc5 := fun d os => cell_regrown c5 d os
                    have ld0 := fun d os => cell_regrown d0 d os
                    have ld1 := fun d os => cell_regrown d1 d os
                    have ld2 := fun d os => cell_regrown d2 d os
                    have ld3 := fun d os => cell_regrown d3 d os
                    have ld4 := fun d os => cell_regrown d4 d os
                    have ld5 := fun d os => cell_regrown d5 d os
                    refine wp_region_quiet_below (by kernel_rfl) (by kernel_rfl) ?_
                    repeat (quiet_step (exact cA _ _))
                    refine wpQuiet_nil ?_
                    intro _ hw'
                    obtain ⟨⟨dq, osq⟩, hw''⟩ := hw'
                    subst hw''
                    have HBR := Lib.hid (HBQ.out dq osq)
                    clear cA lr5 ls5 lc0 lc1 lc2 lc3 lc4 lc5 ld0 ld1 ld2 ld3 ld4 ld5
                    generalize grow (redrawn wr dq) osq = wq at *
                    go_wp2_with fail
                    go_ret
                    exact ⟨ret_bool HN.out.symm, HB1.out.trans (HBR.out.mono HB1.out.size)⟩
                  | true =>
                    have HN := Lib.hid (show ∀ j, j < k + 1 → sameX (subX x j) (subX y j) = true from fun j hj => by
                      rcases Nat.lt_or_ge j k with h | h
                      · exact HA.out j h
                      · obtain rfl : j = k := by omega
                        exact hsm)
                    rw [hsm] at HCL
                    go_wp2_with fail
                    have cA := fun d os => Calls.regrown_of (HCL.out d os)
                    have lr5 := fun d os => cell_regrown r5 d os
                    have ls5 := fun d os => cell_regrown s5 d os
                    have lc0 := fun d os => cell_regrown c0 d os
                    have lc1 := fun d os => cell_regrown c1 d os
                    have lc2 := fun d os => cell_regrown c2 d os
                    have lc3 := fun d os => cell_regrown c3 d os
                    have lc4 := fun d os => cell_regrown c4 d os
                    have lc5 := fun d os => cell_regrown c5 d os
                    have ld0 := fun d os => cell_regrown d0 d os
                    have ld1 := fun d os => cell_regrown d1 d os
                    have ld2 := fun d os => cell_regrown d2 d os
                    have ld3 := fun d os => cell_regrown d3 d os
                    have ld4 := fun d os => cell_regrown d4 d os
                    have ld5 := fun d os => cell_regrown d5 d os
                    refine wp_region_quiet_below (by kernel_rfl) (by kernel_rfl) ?_
                    repeat (quiet_step (exact cA _ _))
                    refine wpQuiet_nil ?_
                    intro _ hw'
                    obtain ⟨⟨dq, osq⟩, hw''⟩ := hw'
                    subst hw''
                    have HBR := Lib.hid (HBQ.out dq osq)
                    clear cA lr5 ls5 lc0 lc1 lc2 lc3 lc4 lc5 ld0 ld1 ld2 ld3 ld4 ld5
                    generalize grow (redrawn wr dq) osq = wq at *
                    go_wp2_with fail
                    go_roundw
                    case rel => exact ⟨k + 1, by omega, by go_num, HN.out, HBR.out⟩
                    case measure => simp [intOf]; omega
                · have hkl : k = n1 := by omega
                  have hyes := HXY.out (by first | trivial | rfl) (fun i hi => HA.out i (by rw [hkl]; exact hi))
                  have HN := Lib.hid (show res = true by rw [HS.out, hyes]; rfl)
                  clear hyes
                  go_wp2_with fail
                  go_ret
                  exact ⟨ret_bool HN.out.symm, HB1.out.trans (HBW.out.mono HB1.out.size)⟩
            · have nn : ((n1 : Int) != (n2 : Int)) = true := by rw [bne_iff_ne]; omega
              have HN := Lib.hid (show res = false by rw [HS.out, HXL.out (by omega)]; simp)
              go_enter Try.func37, Try.ntmps37
              go_upto_region 1 with (fail)
              generalize hw1 : (w.alloc _).alloc _ = w1
              obtain ⟨hb1, hg, hr1, hr2, hcell, hcell2⟩ := HF.out w1 hw1
              have HB1 := Lib.hid hb1
              have HC := Lib.hid hcell
              have HC2 := Lib.hid hcell2
              have HR1 := Lib.hid hr1
              have HR2 := Lib.hid hr2
              have HN1 := Lib.hid (HNM.out w1 hb1)
              have q0 := hcell w1 (Below.refl _ _) 0
              have p0 := hcell2 w1 (Below.refl _ _) 0
              have q1 := hcell w1 (Below.refl _ _) 1
              have p1 := hcell2 w1 (Below.refl _ _) 1
              have q2 := hcell w1 (Below.refl _ _) 2
              have p2 := hcell2 w1 (Below.refl _ _) 2
              have q3 := hcell w1 (Below.refl _ _) 3
              have p3 := hcell2 w1 (Below.refl _ _) 3
              have q4 := hcell w1 (Below.refl _ _) 4
              have p4 := hcell2 w1 (Below.refl _ _) 4
              have q5 := hcell w1 (Below.refl _ _) 5
              have p5 := hcell2 w1 (Below.refl _ _) 5
              clear hcell hcell2 hb1 hr1 hr2 hw1 HF
              go_wp2_with fail
              refine HN1.out.mono ?_
              rintro r w2 ⟨rfl, hb2⟩
              have HB2 := Lib.hid (HB1.out.trans (hb2.mono HB1.out.size))
              clear q0 q1 q2 q3 q4 q5 p0 p1 p2 p3 p4 p5
              have q5 := HC.out w2 hb2 5
              have p5 := HC2.out w2 hb2 5
              clear hb2
              go_wp2_with fail
              go_ret
              exact ⟨ret_bool HN.out.symm, HB2.out⟩
end Go.Proofs.Ytapnodhgjfbjjaa
