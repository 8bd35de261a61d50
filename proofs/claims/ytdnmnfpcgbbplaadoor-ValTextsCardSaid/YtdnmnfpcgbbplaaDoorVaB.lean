/- Whether two rows of numbers are the same; which rows of numbers are values: of both texts. Conditions: none. -/
import Derived.Test.YtdnmnfpcgbbplaaDoorVaA
namespace Go.Proofs.YtdnmnfpcgbbplaaDoor
open Go.RowKit
set_option linter.unusedVariables false

set_option maxRecDepth 100000 in
set_option maxHeartbeats 2000000 in
theorem slEqual64 (A B : Option Addr) (n m c d : Nat) (ss tt : List Int) (w : World) (hs : Rd .i64 w A n c ss) (ht : Rd .i64 w B m d tt) :
    Calls Tryd.prog 25 #[.slice A n c, .slice B m d] w fun r w' => r = .returned (.bool (sameB ss tt)) ∧ Below w.heap.size w w' := by
  have h1 := hs.len
  have h2 := ht.len
  have h3 := hs.max
  have h4 := ht.max
  by_cases hnm : n = m
  · subst hnm
    go_enter Tryd.func25, Tryd.ntmps25
    go_wp2_with fail
    go_loopw [13] (fun i wr => ∃ k : Nat, k ≤ n ∧ i = .int .i64 k ∧ sameZ ss tt k ∧ ∃ p, wr = w.drewN p) (fun i _ => n - (intOf i).toNat)
    case atStart => exact ⟨0, Nat.zero_le _, rfl, fun j hj => absurd hj (by omega), 0, rfl⟩
    case round =>
      obtain ⟨k, hk, rfl, hto, p, rfl⟩ := hrel
      have HT := Lib.hid hto
      clear hto
      by_cases hlt : k < n
      · obtain ⟨b, off, rfl, hb, hc⟩ := hs.at_ hlt
        obtain ⟨b', off', rfl, hb', hc'⟩ := ht.at_ hlt
        have e1 := hc k hlt
        have e2 := hc' k hlt
        have HN := Lib.hid fun h => sameZ_succ HT.out h
        have HF := Lib.hid fun h => sameB_bad (zs := ss) (ys := tt) (i := k) h
        clear hc hc'
        generalize ss[k]?.getD 0 = x at e1 HN HF
        generalize tt[k]?.getD 0 = y at e2 HN HF
        by_cases he : x = y
        · have HN := Lib.hid (HN.out he)
          have hne : (x != y) = false := by simp [bne, he]
          go_wp2_with fail
          go_quiet (fail)
          go_wp2_with fail
          go_roundw
          case rel => exact ⟨k + 1, by omega, by go_num, HN.out, _, rfl⟩
          case measure => simp [intOf]; omega
        · have HF := Lib.hid (HF.out he)
          have hne : (x != y) = true := by simpa [bne] using he
          go_wp2_with fail
          go_quiet (fail)
          go_wp2_with fail
          go_ret
          exact ⟨ret_bool HF.out.symm, below_drewN (below_drewN (Below.refl _ _) _) _⟩
      · have HY := Lib.hid (sameB_yes (by omega) HT.out (by omega))
        go_wp2_with fail
        go_ret
        exact ⟨ret_bool HY.out.symm, below_drewN (Below.refl _ _) _⟩
  · have hF := Lib.hid (sameB_len (zs := ss) (ys := tt) (by omega))
    have hne : ((n : Int) != (m : Int)) = true := by rw [bne_iff_ne]; omega
    go_enter Tryd.func25, Tryd.ntmps25
    go_wp2_with fail
    go_ret
    exact ⟨ret_bool hF.out.symm, Below.refl _ _⟩

set_option maxRecDepth 100000 in
set_option maxHeartbeats 2000000 in
theorem refVals (A B : Option Addr) (n m c d : Nat) (ss tt : List Int) (w : World) (hs : Rd .i64 w A n c ss) (ht : Rd .i64 w B m d tt) :
    Calls Tryd.prog 12 #[.slice A n c, .slice B m d] w fun r w' => r = .returned (.bool (sameB ss tt)) ∧ Below w.heap.size w w' := by
  have h1 := hs.len
  have h2 := ht.len
  have h3 := hs.max
  have h4 := ht.max
  by_cases hnm : n = m
  · subst hnm
    go_enter Tryd.func12, Tryd.ntmps12
    go_wp2_with fail
    go_loopw [5] (fun i wr => ∃ k : Nat, k ≤ n ∧ i = .int .i64 k ∧ sameZ ss tt k ∧ ∃ p, wr = w.drewN p) (fun i _ => n - (intOf i).toNat)
    case atStart => exact ⟨0, Nat.zero_le _, rfl, fun j hj => absurd hj (by omega), 0, rfl⟩
    case round =>
      obtain ⟨k, hk, rfl, hto, p, rfl⟩ := hrel
      have HT := Lib.hid hto
      clear hto
      by_cases hlt : k < n
      · obtain ⟨b, off, rfl, hb, hc⟩ := hs.at_ hlt
        obtain ⟨b', off', rfl, hb', hc'⟩ := ht.at_ hlt
        have e1 := hc k hlt
        have e2 := hc' k hlt
        have HN := Lib.hid fun h => sameZ_succ HT.out h
        have HF := Lib.hid fun h => sameB_bad (zs := ss) (ys := tt) (i := k) h
        clear hc hc'
        generalize ss[k]?.getD 0 = x at e1 HN HF
        generalize tt[k]?.getD 0 = y at e2 HN HF
        by_cases he : x = y
        · have HN := Lib.hid (HN.out he)
          have hne : (x != y) = false := by simp [bne, he]
          go_wp2_with fail
          go_quiet (fail)
          go_wp2_with fail
          go_roundw
          case rel => exact ⟨k + 1, by omega, by go_num, HN.out, _, rfl⟩
          case measure => simp [intOf]; omega
        · have HF := Lib.hid (HF.out he)
          have hne : (x != y) = true := by simpa [bne] using he
          go_wp2_with fail
          go_quiet (fail)
          go_wp2_with fail
          go_ret
          exact ⟨ret_bool HF.out.symm, below_drewN (below_drewN (Below.refl _ _) _) _⟩
      · have HY := Lib.hid (sameB_yes (by omega) HT.out (by omega))
        go_wp2_with fail
        go_ret
        exact ⟨ret_bool HY.out.symm, below_drewN (Below.refl _ _) _⟩
  · have hF := Lib.hid (sameB_len (zs := ss) (ys := tt) (by omega))
    have hne : ((n : Int) != (m : Int)) = true := by rw [bne_iff_ne]; omega
    go_enter Tryd.func12, Tryd.ntmps12
    go_wp2_with fail
    go_ret
    exact ⟨ret_bool hF.out.symm, Below.refl _ _⟩

set_option maxHeartbeats 1000000 in
theorem valSame (A B : Option Addr) (n m c d : Nat) (ss tt : List Int) (w : World) (hs : Rd .i64 w A n c ss) (ht : Rd .i64 w B m d tt) :
    Calls Tryd.prog 17 #[.slice A n c, .slice B m d] w fun r w' => r = .returned (.bool (sameB ss tt)) ∧ Below w.heap.size w w' := by
  have HC := Lib.hid (slEqual64 A B n m c d ss tt w hs ht)
  clear hs ht
  go_enter Tryd.func17, Tryd.ntmps17
  go_wp2_with fail
  refine HC.out.mono ?_
  rintro r w1 ⟨rfl, hb1⟩
  have HB1 := Lib.hid hb1
  clear hb1
  go_wp2_with fail
  go_ret
  exact ⟨rfl, HB1.out⟩

theorem rd_cell {k : IntKind} {w : World} {B : Option Addr} {m d : Nat} {zs : List Int} (h : Rd k w B m d zs) {j : Nat} (hj : j < m) : ∃ b off, B = some ⟨b, off, none⟩ ∧ b < w.heap.size ∧ w.cell? ⟨b, off + j, none⟩ = some (.int k (zs[j]?.getD 0)) := by
  obtain ⟨b, off, e, hb, hc⟩ := h.at_ hj
  exact ⟨b, off, e, hb, hc j hj⟩

set_option maxRecDepth 100000 in
set_option maxHeartbeats 4000000 in
theorem valRight (A : Option Addr) (n c : Nat) (es : List En) (B : Option Addr) (m d : Nat) (zs : List Int) (k e l : Int) (w : World) (hE : RdE w A n es) (hV : Rd .i64 w B m d zs) :
    Calls Tryd.prog 10 #[.slice A n c, tyV k e l, .slice B m d] w fun r w' => r = .returned (.bool (rightVB es k e l zs)) ∧ Below w.heap.size w w' := by
  have HB := Lib.hid ((Below.refl w.heap.size w).alloc (Nat.le_refl _) (.cells #[.int .i64 k, .int .i64 e, .int .i64 l] 24))
  have HC3 := Lib.hid (cell3 w 24 (.int .i64 k) (.int .i64 e) (.int .i64 l))
  have hlen := hV.len
  have hmx := hV.max
  have HCE := Lib.hid fun (W : World) => tyCells k e l W
  have HON := Lib.hid fun (z : Int) (W : World) (h : RdE W A n es) => valOne A n c es k e l z W h
  have HE := Lib.hid hE
  have HV := Lib.hid hV
  unfold tyV at HCE HON ⊢
  clear hE hV
  by_cases hm : (m : Int) = cellsN l
  · have hne : ((m : Int) != cellsN l) = false := by simp [bne, hm]
    have HY := Lib.hid fun (i : Nat) (H : onesTo es k e l zs i) (hi : m ≤ i) => rightV_yes (by omega) H (by omega)
    have HM := Lib.hid hm
    generalize cellsN l = q at hne HCE HM
    clear hm
    go_enter Tryd.func10, Tryd.ntmps10
    go_wp2_with fail
    refine (HCE.out _).mono ?_
    rintro r w1 ⟨rfl, hb1⟩
    have q0 := (hb1.cell (p := ⟨w.heap.size, 0, none⟩) (by simp)).trans HC3.out.1
    have q1 := (hb1.cell (p := ⟨w.heap.size, 1, none⟩) (by simp)).trans HC3.out.2.1
    have q2 := (hb1.cell (p := ⟨w.heap.size, 2, none⟩) (by simp)).trans HC3.out.2.2
    have hws : w.heap.size < w1.heap.size := by have := hb1.size; simp at this; omega
    have HB1 := Lib.hid (HB.out.trans (hb1.mono HB.out.size))
    clear hb1
    go_wp2_with fail
    go_loopw [16] (fun i wr => ∃ j : Nat, j ≤ m ∧ i = .int .i64 j ∧ onesTo es k e l zs j ∧ Below w.heap.size w wr ∧ w.heap.size < wr.heap.size ∧ wr.cell? ⟨w.heap.size, 0, none⟩ = some (.int .i64 k) ∧ wr.cell? ⟨w.heap.size, 1, none⟩ = some (.int .i64 e) ∧ wr.cell? ⟨w.heap.size, 2, none⟩ = some (.int .i64 l)) (fun i _ => m - (intOf i).toNat)
    case atStart => exact ⟨0, Nat.zero_le _, rfl, fun j hj => absurd hj (by omega), HB1.out, hws, q0, q1, q2⟩
    case round =>
      clear q0 q1 q2 hws
      obtain ⟨j, hj, rfl, hto, hnx, hws, q0, q1, q2⟩ := hrel
      have HT := Lib.hid hto
      have HNX := Lib.hid hnx
      clear hto
      by_cases hlt : j < m
      · obtain ⟨b, off, rfl, hb, hc⟩ := rd_cell HV.out hlt
        have hck := (hnx.cell (p := ⟨b, off + j, none⟩) hb).trans hc
        clear hc hnx
        cases hone : oneAt es k e l zs j with
        | false =>
          have HF := Lib.hid (rightV_bad (zs := zs) (by omega) hone)
          have HC := Lib.hid fun W h => by have := HON.out (zs[j]?.getD 0) W h; rw [show oneB es k e l (zs[j]?.getD 0) = false from hone] at this; exact this
          clear hone
          generalize zs[j]?.getD 0 = x at hck HC
          go_wp2_with fail
          refine (HC.out _ (HE.out.below HNX.out)).mono ?_
          rintro r w2 ⟨rfl, hb2⟩
          have HB2 := Lib.hid (HNX.out.trans (hb2.mono HNX.out.size))
          clear hb2
          go_wp2_with fail
          go_ret
          exact ⟨ret_bool HF.out.symm, HB2.out⟩
        | true =>
          have HN := Lib.hid (onesTo_succ HT.out hone)
          have HC := Lib.hid fun W h => by have := HON.out (zs[j]?.getD 0) W h; rw [show oneB es k e l (zs[j]?.getD 0) = true from hone] at this; exact this
          clear hone
          generalize zs[j]?.getD 0 = x at hck HC
          go_wp2_with fail
          refine (HC.out _ (HE.out.below HNX.out)).mono ?_
          rintro r w2 ⟨rfl, hb2⟩
          have p0 := (hb2.cell (p := ⟨w.heap.size, 0, none⟩) hws).trans q0
          have p1 := (hb2.cell (p := ⟨w.heap.size, 1, none⟩) hws).trans q1
          have p2 := (hb2.cell (p := ⟨w.heap.size, 2, none⟩) hws).trans q2
          have pws : w.heap.size < w2.heap.size := by have := hb2.size; omega
          have HB2 := Lib.hid (HNX.out.trans (hb2.mono HNX.out.size))
          clear hb2 q0 q1 q2
          go_wp2_with fail
          go_roundw
          case rel => exact ⟨j + 1, by omega, by go_num, HN.out, HB2.out, pws, p0, p1, p2⟩
          case measure => simp [intOf]; omega
      · have HF := Lib.hid (HY.out j HT.out (by omega))
        go_wp2_with fail
        go_ret
        exact ⟨ret_bool HF.out.symm, HNX.out⟩
  · have hne : ((m : Int) != cellsN l) = true := by simpa [bne] using hm
    have HF := Lib.hid (rightV_len (es := es) (k := k) (e := e) (l := l) (zs := zs) (by omega))
    generalize cellsN l = q at hne HCE
    clear hm
    go_enter Tryd.func10, Tryd.ntmps10
    go_wp2_with fail
    refine (HCE.out _).mono ?_
    rintro r w1 ⟨rfl, hb1⟩
    have HB1 := Lib.hid (HB.out.trans (hb1.mono HB.out.size))
    clear hb1
    go_wp2_with fail
    go_ret
    exact ⟨ret_bool HF.out.symm, HB1.out⟩

set_option maxRecDepth 100000 in
set_option maxHeartbeats 4000000 in
theorem refValRight (A : Option Addr) (n c : Nat) (es : List En) (B : Option Addr) (m d : Nat) (zs : List Int) (k e l : Int) (w : World) (hE : RdE w A n es) (hV : Rd .i64 w B m d zs) :
    Calls Tryd.prog 11 #[.slice A n c, tyV k e l, .slice B m d] w fun r w' => r = .returned (.bool (rightVB es k e l zs)) ∧ Below w.heap.size w w' := by
  have HB := Lib.hid ((Below.refl w.heap.size w).alloc (Nat.le_refl _) (.cells #[.int .i64 k, .int .i64 e, .int .i64 l] 24))
  have HC3 := Lib.hid (cell3 w 24 (.int .i64 k) (.int .i64 e) (.int .i64 l))
  have hlen := hV.len
  have hmx := hV.max
  have hen := hE.len
  have hemx := hE.max
  have HCE := Lib.hid fun (W : World) => refCells k e l W
  have HRT := Lib.hid fun (W : World) => refRight A n c k e l W hemx
  have HON := Lib.hid fun (z : Int) (W : World) (h : RdE W A n es) => refValOne A n c es k e l z W h
  rw [← hen] at HRT
  have HE := Lib.hid hE
  have HV := Lib.hid hV
  unfold tyV at HCE HON HRT ⊢
  clear hE hV
  cases hr : rightB es.length k e l with
  | false =>
    have HF := Lib.hid (rightV_no (zs := zs) hr)
    rw [hr] at HRT
    clear hr
    go_enter Tryd.func11, Tryd.ntmps11
    go_wp2_with fail
    rw [← hen]
    refine (HRT.out _).mono ?_
    rintro r w1 ⟨rfl, hb1⟩
    have HB1 := Lib.hid (HB.out.trans (hb1.mono HB.out.size))
    clear hb1
    go_wp2_with fail
    go_ret
    exact ⟨ret_bool HF.out.symm, HB1.out⟩
  | true =>
    rw [hr] at HRT
    clear hr
    by_cases hm : (m : Int) = cellsN l
    · have hne : ((m : Int) != cellsN l) = false := by simp [bne, hm]
      have HY := Lib.hid fun (i : Nat) (H : onesTo es k e l zs i) (hi : m ≤ i) => rightV_yes (by omega) H (by omega)
      have HM := Lib.hid hm
      generalize cellsN l = q at hne HCE HM
      clear hm
      go_enter Tryd.func11, Tryd.ntmps11
      go_wp2_with fail
      rw [← hen]
      refine (HRT.out _).mono ?_
      rintro r w0 ⟨rfl, hb0⟩
      have p0 := (hb0.cell (p := ⟨w.heap.size, 0, none⟩) (by simp)).trans HC3.out.1
      have p1 := (hb0.cell (p := ⟨w.heap.size, 1, none⟩) (by simp)).trans HC3.out.2.1
      have p2 := (hb0.cell (p := ⟨w.heap.size, 2, none⟩) (by simp)).trans HC3.out.2.2
      have hws0 : w.heap.size < w0.heap.size := by have := hb0.size; simp at this; omega
      have HB0 := Lib.hid (HB.out.trans (hb0.mono HB.out.size))
      clear hb0
      go_wp2_with fail
      refine (HCE.out _).mono ?_
      rintro r w1 ⟨rfl, hb1⟩
      have q0 := (hb1.cell (p := ⟨w.heap.size, 0, none⟩) hws0).trans p0
      have q1 := (hb1.cell (p := ⟨w.heap.size, 1, none⟩) hws0).trans p1
      have q2 := (hb1.cell (p := ⟨w.heap.size, 2, none⟩) hws0).trans p2
      have hws : w.heap.size < w1.heap.size := by have := hb1.size; omega
      have HB1 := Lib.hid (HB0.out.trans (hb1.mono HB0.out.size))
      clear hb1 p0 p1 p2
      go_wp2_with fail
      go_loopw [7] (fun i wr => ∃ j : Nat, j ≤ m ∧ i = .int .i64 j ∧ onesTo es k e l zs j ∧ Below w.heap.size w wr ∧ w.heap.size < wr.heap.size ∧ wr.cell? ⟨w.heap.size, 0, none⟩ = some (.int .i64 k) ∧ wr.cell? ⟨w.heap.size, 1, none⟩ = some (.int .i64 e) ∧ wr.cell? ⟨w.heap.size, 2, none⟩ = some (.int .i64 l)) (fun i _ => m - (intOf i).toNat)
      case atStart => exact ⟨0, Nat.zero_le _, rfl, fun j hj => absurd hj (by omega), HB1.out, hws, q0, q1, q2⟩
      case round =>
        clear q0 q1 q2 hws
        obtain ⟨j, hj, rfl, hto, hnx, hws, q0, q1, q2⟩ := hrel
        have HT := Lib.hid hto
        have HNX := Lib.hid hnx
        clear hto
        by_cases hlt : j < m
        · obtain ⟨b, off, rfl, hb, hc⟩ := rd_cell HV.out hlt
          have hck := (hnx.cell (p := ⟨b, off + j, none⟩) hb).trans hc
          have hbr : b < wr.heap.size := by have := hnx.size; omega
          clear hc hnx
          cases hone : oneAt es k e l zs j with
          | false =>
            have HF := Lib.hid (rightV_bad (zs := zs) (by omega) hone)
            have HC := Lib.hid fun W h => by have := HON.out (zs[j]?.getD 0) W h; rw [show oneB es k e l (zs[j]?.getD 0) = false from hone] at this; exact this
            clear hone
            generalize zs[j]?.getD 0 = x at hck HC
            go_wp2_with fail
            go_region_held3 (fun W => W.cell? ⟨w.heap.size, 0, none⟩ = some (.int .i64 k) ∧ W.cell? ⟨w.heap.size, 1, none⟩ = some (.int .i64 e) ∧ W.cell? ⟨w.heap.size, 2, none⟩ = some (.int .i64 l) ∧ W.cell? ⟨b, off + j, none⟩ = some (.int .i64 x)) (first | exact ⟨q0, q1, q2, hck⟩ | exact ⟨p0, p1, p2, pck⟩)
              ((go_at_call 9; refine (HC.out _ ((HE.out.below HNX.out).drewN _)).mono ?_; rintro r w2 ⟨rfl, hb2⟩; have p0 := (hb2.cell (p := ⟨w.heap.size, 0, none⟩) hws).trans q0; have p1 := (hb2.cell (p := ⟨w.heap.size, 1, none⟩) hws).trans q1; have p2 := (hb2.cell (p := ⟨w.heap.size, 2, none⟩) hws).trans q2; have pck := (hb2.cell (p := ⟨b, off + j, none⟩) hbr).trans hck; have HB2 := Lib.hid hb2))
            have HB3 := Lib.hid ((below_drewN HNX.out 1).trans (HB2.out.mono HNX.out.size))
            go_wp2_with fail
            go_ret
            exact ⟨ret_bool HF.out.symm, HB3.out⟩
          | true =>
            have HN := Lib.hid (onesTo_succ HT.out hone)
            have HC := Lib.hid fun W h => by have := HON.out (zs[j]?.getD 0) W h; rw [show oneB es k e l (zs[j]?.getD 0) = true from hone] at this; exact this
            clear hone
            generalize zs[j]?.getD 0 = x at hck HC
            go_wp2_with fail
            go_region_held3 (fun W => W.cell? ⟨w.heap.size, 0, none⟩ = some (.int .i64 k) ∧ W.cell? ⟨w.heap.size, 1, none⟩ = some (.int .i64 e) ∧ W.cell? ⟨w.heap.size, 2, none⟩ = some (.int .i64 l) ∧ W.cell? ⟨b, off + j, none⟩ = some (.int .i64 x)) (first | exact ⟨q0, q1, q2, hck⟩ | exact ⟨p0, p1, p2, pck⟩)
              ((go_at_call 9; refine (HC.out _ ((HE.out.below HNX.out).drewN _)).mono ?_; rintro r w2 ⟨rfl, hb2⟩; have p0 := (hb2.cell (p := ⟨w.heap.size, 0, none⟩) hws).trans q0; have p1 := (hb2.cell (p := ⟨w.heap.size, 1, none⟩) hws).trans q1; have p2 := (hb2.cell (p := ⟨w.heap.size, 2, none⟩) hws).trans q2; have pck := (hb2.cell (p := ⟨b, off + j, none⟩) hbr).trans hck; have HB2 := Lib.hid hb2))
            have HB3 := Lib.hid ((below_drewN HNX.out 1).trans (HB2.out.mono HNX.out.size))
            have pws : w.heap.size < w2.heap.size := by have := HB2.out.size; simp at this; omega
            go_wp2_with fail
            go_roundw
            case rel => exact ⟨j + 1, by omega, by go_num, HN.out, HB3.out, pws, p0, p1, p2⟩
            case measure => simp [intOf]; omega
        · have HF := Lib.hid (HY.out j HT.out (by omega))
          go_wp2_with fail
          go_ret
          exact ⟨ret_bool HF.out.symm, HNX.out⟩
    · have hne : ((m : Int) != cellsN l) = true := by simpa [bne] using hm
      have HF := Lib.hid (rightV_len (es := es) (k := k) (e := e) (l := l) (zs := zs) (by omega))
      generalize cellsN l = q at hne HCE
      clear hm
      go_enter Tryd.func11, Tryd.ntmps11
      go_wp2_with fail
      rw [← hen]
      refine (HRT.out _).mono ?_
      rintro r w0 ⟨rfl, hb0⟩
      have p0 := (hb0.cell (p := ⟨w.heap.size, 0, none⟩) (by simp)).trans HC3.out.1
      have p1 := (hb0.cell (p := ⟨w.heap.size, 1, none⟩) (by simp)).trans HC3.out.2.1
      have p2 := (hb0.cell (p := ⟨w.heap.size, 2, none⟩) (by simp)).trans HC3.out.2.2
      have HB0 := Lib.hid (HB.out.trans (hb0.mono HB.out.size))
      clear hb0
      go_wp2_with fail
      refine (HCE.out _).mono ?_
      rintro r w1 ⟨rfl, hb1⟩
      have HB1 := Lib.hid (HB0.out.trans (hb1.mono HB0.out.size))
      clear hb1
      go_wp2_with fail
      go_ret
      exact ⟨ret_bool HF.out.symm, HB1.out⟩
end Go.Proofs.YtdnmnfpcgbbplaaDoor
