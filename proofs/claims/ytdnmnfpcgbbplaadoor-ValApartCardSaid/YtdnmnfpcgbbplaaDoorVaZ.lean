/- Zeros of a type, and of what kind its cells are: of both texts. Conditions: none. -/
import Derived.Test.YtdnmnfpcgbbplaaDoorVaB
import Derived.Test.YtdnmnfpcgbbplaaDoorApp
import Derived.Test.YtdnmnfpcgbbplaaDoorTyS
import Derived.Deep.AppendLies
namespace Go.Proofs.YtdnmnfpcgbbplaaDoor
open Go.RowKit
set_option linter.unusedVariables false

set_option maxRecDepth 100000 in
set_option maxHeartbeats 2000000 in
theorem valKind (k e l : Int) (w : World) :
    Calls Tryd.prog 15 #[tyV k e l] w fun r w' => r = .returned (.int .i64 (kindN k e)) ∧ Below w.heap.size w w' := by
  unfold tyV
  have HB := Lib.hid ((Below.refl w.heap.size w).alloc (Nat.le_refl _) (.cells #[.int .i64 k, .int .i64 e, .int .i64 l] 24))
  by_cases k1 : k = 1
  · subst k1
    go_enter Tryd.func15, Tryd.ntmps15
    go_wp2_with fail
    go_ret
    exact ⟨ret_int (by simp [kindN]), HB.out⟩
  · by_cases k2 : k = 2
    · subst k2
      go_enter Tryd.func15, Tryd.ntmps15
      go_wp2_with fail
      go_ret
      exact ⟨ret_int (by simp [kindN]), HB.out⟩
    · by_cases k3 : k = 3
      · subst k3
        by_cases e0 : 0 ≤ e
        · by_cases e1 : e ≤ 1000
          · have HN := Lib.hid (show (3 : Int) + e = kindN 3 e by simp [kindN, e0, e1])
            have hw : IntKind.i64.wrap (3 + e) = 3 + e := IntWalk.i64_in _ (by omega)
            go_enter Tryd.func15, Tryd.ntmps15
            go_wp2_with fail
            go_ret
            exact ⟨ret_int HN.out, HB.out⟩
          · have HN := Lib.hid (show (0 : Int) = kindN 3 e by simp [kindN, e1])
            go_enter Tryd.func15, Tryd.ntmps15
            go_wp2_with fail
            go_ret
            exact ⟨ret_int HN.out, HB.out⟩
        · have HN := Lib.hid (show (0 : Int) = kindN 3 e by simp [kindN, e0])
          go_enter Tryd.func15, Tryd.ntmps15
          go_wp2_with fail
          go_ret
          exact ⟨ret_int HN.out, HB.out⟩
      · have HN := Lib.hid (show (0 : Int) = kindN k e by simp [kindN, k1, k2, k3])
        have b1 : (k == 1) = false := by simpa using k1
        have b2 : (k == 2) = false := by simpa using k2
        have b3 : (k == 3) = false := by simpa using k3
        go_enter Tryd.func15, Tryd.ntmps15
        go_wp2_with fail
        go_ret
        exact ⟨ret_int HN.out, HB.out⟩

set_option maxRecDepth 100000 in
set_option maxHeartbeats 2000000 in
theorem refKind (k e l : Int) (w : World) :
    Calls Tryd.prog 16 #[tyV k e l] w fun r w' => r = .returned (.int .i64 (kindN k e)) ∧ Below w.heap.size w w' := by
  unfold tyV
  have HB := Lib.hid ((Below.refl w.heap.size w).alloc (Nat.le_refl _) (.cells #[.int .i64 k, .int .i64 e, .int .i64 l] 24))
  by_cases k1 : k = 1
  · subst k1
    go_enter Tryd.func16, Tryd.ntmps16
    go_wp2_with fail
    go_ret
    exact ⟨ret_int (by simp [kindN]), HB.out⟩
  · by_cases k2 : k = 2
    · subst k2
      go_enter Tryd.func16, Tryd.ntmps16
      go_wp2_with fail
      go_ret
      exact ⟨ret_int (by simp [kindN]), HB.out⟩
    · by_cases k3 : k = 3
      · subst k3
        by_cases e0 : 0 ≤ e
        · by_cases e1 : e ≤ 1000
          · have HN := Lib.hid (show (3 : Int) + e = kindN 3 e by simp [kindN, e0, e1])
            have hw : IntKind.i64.wrap (3 + e) = 3 + e := IntWalk.i64_in _ (by omega)
            go_enter Tryd.func16, Tryd.ntmps16
            go_wp2_with fail
            go_ret
            exact ⟨ret_int HN.out, HB.out⟩
          · have HN := Lib.hid (show (0 : Int) = kindN 3 e by simp [kindN, e1])
            go_enter Tryd.func16, Tryd.ntmps16
            go_wp2_with fail
            go_ret
            exact ⟨ret_int HN.out, HB.out⟩
        · have HN := Lib.hid (show (0 : Int) = kindN 3 e by simp [kindN, e0])
          go_enter Tryd.func16, Tryd.ntmps16
          go_wp2_with fail
          go_ret
          exact ⟨ret_int HN.out, HB.out⟩
      · have HN := Lib.hid (show (0 : Int) = kindN k e by simp [kindN, k1, k2, k3])
        have b1 : (k == 1) = false := by simpa using k1
        have b2 : (k == 2) = false := by simpa using k2
        have b3 : (k == 3) = false := by simpa using k3
        go_enter Tryd.func16, Tryd.ntmps16
        go_wp2_with fail
        go_ret
        exact ⟨ret_int HN.out, HB.out⟩

theorem infoInt64 : (Tryd.prog.info? 2).map (fun i => (i.zero, i.size, i.bytes)) = some (some (.int .i64 0), 1, 8) := by kernel_rfl

/-- What Zero tells: a slice that reads as so many zeros. -/
def ZeroPost (l : Int) (w : World) (r : Ending) (w' : World) : Prop := ∃ A c, r = .returned (.slice A (cellsN l).toNat c) ∧ Rd .i64 w' A (cellsN l).toNat c (zerosL l) ∧ Below w.heap.size w w'

theorem grownBy_of_below {W W' : World} (h : Below W.heap.size W W') : W.grownBy W' none := ⟨h.os, h.tape, h.output, h.size, fun i hi _ => h.block i hi⟩
theorem ownsRow_below {w w' : World} {base : Nat} {e : TypeId} {size : Nat} {v : Value} {n : Nat} {xs : List Value} (h : w.ownsRow base e size v n xs) (hb : Below w.heap.size w w') : w'.ownsRow base e size v n xs :=
  h.kept (grownBy_of_below hb) (by cases v.ownBlock <;> simp)
theorem zeros_wf (n : Nat) : ∀ z ∈ List.replicate n (0 : Int), (Lit.int .i64 z).wf = true := by
  intro z hz
  have := (List.mem_replicate.1 hz).2
  subst this
  rfl

theorem zero_made (l : Int) (w w0 : World) (hb : Below w.heap.size w w0) : ZeroPost l w (.returned (.slice (some ⟨w0.heap.size, 0, none⟩) (cellsN l).toNat (cellsN l).toNat)) (w0.alloc (.cells (madeCells #[.int .i64 0] (cellsN l).toNat) 2)) := by
  have hp := cellsN_pos l
  refine ⟨_, _, rfl, ?_, hb.alloc hb.size _⟩
  refine Rd.lit .i64 w0 _ (zerosL l) _ (by simp [zerosL]) (by omega) (zeros_wf _) _ ?_
  unfold zerosL
  generalize (cellsN l).toNat = n
  refine Array.ext (by simp [madeCells]) fun i h1 h2 => ?_
  simp [madeCells, Nat.mod_one]

theorem zero_own {l : Int} {w wr : World} {v : Value} {j : Nat} (hown : wr.ownsRow w.heap.size 2 1 v j ((List.replicate j (0 : Int)).map (Value.int .i64))) (hb : Below w.heap.size w wr) (hj : j = (cellsN l).toNat) : ZeroPost l w (.returned v) wr := by
  subst hj
  obtain ⟨A, c, rfl, hR, _⟩ := Rd.of_own hown rfl (zeros_wf _)
  exact ⟨A, c, rfl, hR, hb⟩

set_option maxRecDepth 100000 in
set_option maxHeartbeats 2000000 in
theorem valZero (k e l : Int) (w : World) : Calls Tryd.prog 13 #[tyV k e l] w (ZeroPost l w) := by
  have HB := Lib.hid ((Below.refl w.heap.size w).alloc (Nat.le_refl _) (.cells #[.int .i64 k, .int .i64 e, .int .i64 l] 24))
  have HCE := Lib.hid fun (W : World) => tyCells k e l W
  have hp := cellsN_pos l
  have hn : cellsN l = ((cellsN l).toNat : Int) := by omega
  have HZ := Lib.hid fun (w0 : World) (h : Below w.heap.size w w0) => zero_made l w w0 h
  rw [hn] at HCE
  have hmk := fun W : World => mk_row (P := Tryd.prog) 25 2 (.int .i64 0) 8 Tryd.underlying25 infoInt64 rfl (cellsN l).toNat (by omega) (by omega) W
  unfold tyV at HCE ⊢
  generalize (cellsN l).toNat = n at HCE HZ hmk
  clear hn hp
  go_enter Tryd.func13, Tryd.ntmps13
  go_wp2_with fail
  refine (HCE.out _).mono ?_
  rintro r w1 ⟨rfl, hb1⟩
  have HB1 := Lib.hid (HB.out.trans (hb1.mono HB.out.size))
  clear hb1
  go_wp2_with fail
  go_ret
  exact HZ.out _ HB1.out

set_option maxRecDepth 100000 in
set_option maxHeartbeats 2000000 in
theorem refZero (k e l : Int) (w : World) : Calls Tryd.prog 14 #[tyV k e l] w (ZeroPost l w) := by
  have HC3 := Lib.hid (cell3 w 24 (.int .i64 k) (.int .i64 e) (.int .i64 l))
  have HB := Lib.hid ((Below.refl w.heap.size w).alloc (Nat.le_refl _) (.cells #[.int .i64 k, .int .i64 e, .int .i64 l] 24))
  have HCE := Lib.hid fun (W : World) => refCells k e l W
  have hp := cellsN_pos l
  obtain ⟨n, hn⟩ : ∃ n : Nat, cellsN l = (n : Int) := ⟨(cellsN l).toNat, by omega⟩
  have HZ := Lib.hid fun (wr : World) (v : Value) (j : Nat) hown (h : Below w.heap.size w wr) (hj : j = n) => zero_own (l := l) (w := w) (wr := wr) (v := v) (j := j) hown h (by omega)
  rw [hn] at HCE
  obtain ⟨i0, hi, hz0, hz1, hz2⟩ := info_parts infoInt64
  have hn8 : n ≤ 8 := by omega
  have hr0 := Lib.hid (World.ownsRow_lit (base := w.heap.size) (e := 2) (size := 1) (w.alloc (.cells #[.int .i64 k, .int .i64 e, .int .i64 l] 24)) #[] 0 (by simp) (by decide) rfl)
  have HB0 := Lib.hid (HB.out.alloc HB.out.size (.cells #[] 2))
  unfold tyV at HCE ⊢
  clear hn hp
  have q0 := ((Below.refl _ (w.alloc (.cells #[.int .i64 k, .int .i64 e, .int .i64 l] 24))).alloc (Nat.le_refl _) (.cells #[] 2)).cell (p := ⟨w.heap.size, 0, none⟩) (by simp) |>.trans HC3.out.1
  have q1 := ((Below.refl _ (w.alloc (.cells #[.int .i64 k, .int .i64 e, .int .i64 l] 24))).alloc (Nat.le_refl _) (.cells #[] 2)).cell (p := ⟨w.heap.size, 1, none⟩) (by simp) |>.trans HC3.out.2.1
  have q2 := ((Below.refl _ (w.alloc (.cells #[.int .i64 k, .int .i64 e, .int .i64 l] 24))).alloc (Nat.le_refl _) (.cells #[] 2)).cell (p := ⟨w.heap.size, 2, none⟩) (by simp) |>.trans HC3.out.2.2
  have Q := Lib.hid (And.intro q0 (And.intro q1 q2))
  clear q0 q1 q2
  go_enter Tryd.func14, Tryd.ntmps14
  go_wp2_with fail
  go_loopw [3, 4] (fun v i wr => ∃ j : Nat, j ≤ n ∧ i = .int .i64 j ∧ wr.ownsRow w.heap.size 2 1 v j ((List.replicate j (0 : Int)).map (Value.int .i64)) ∧ Below w.heap.size w wr ∧ w.heap.size < wr.heap.size ∧ (∀ g, v.ownBlock = some g → w.heap.size < g) ∧ wr.cell? ⟨w.heap.size, 0, none⟩ = some (.int .i64 k) ∧ wr.cell? ⟨w.heap.size, 1, none⟩ = some (.int .i64 e) ∧ wr.cell? ⟨w.heap.size, 2, none⟩ = some (.int .i64 l)) (fun _ i _ => n - (intOf i).toNat)
  case atStart => exact ⟨0, Nat.zero_le _, rfl, by simpa using hr0.out, HB0.out, by simp; omega, fun g hg => by simp [Value.ownBlock] at hg; omega, Q.out.1, Q.out.2.1, Q.out.2.2⟩
  case round =>
    obtain ⟨j, hj, rfl, hown, hnx, hws, hbk, q0, q1, q2⟩ := hrel
    have HO := Lib.hid hown
    have HNX := Lib.hid hnx
    have HK := Lib.hid hbk
    clear hown hnx hbk
    go_wp2_with fail
    refine (HCE.out _).mono ?_
    rintro r w1 ⟨rfl, hb1⟩
    have p0 := (hb1.cell (p := ⟨w.heap.size, 0, none⟩) hws).trans q0
    have p1 := (hb1.cell (p := ⟨w.heap.size, 1, none⟩) hws).trans q1
    have p2 := (hb1.cell (p := ⟨w.heap.size, 2, none⟩) hws).trans q2
    have pws : w.heap.size < w1.heap.size := by have := hb1.size; omega
    have HB1 := Lib.hid (HNX.out.trans (hb1.mono HNX.out.size))
    have HO1 := Lib.hid (ownsRow_below HO.out hb1)
    clear hb1 q0 q1 q2 hws
    by_cases hlt : j < n
    · go_wp2_with (at_builtin; refine wpList_append_own_at _ rfl _ _ 25 rfl w.heap.size 2 i0 (.int .i64 0) 1 8 Tryd.underlying25 hi hz0 hz1 hz2 rfl (by decide) _ _ _ rfl (HO1.out.alloc _) ⟨w1.heap.size, 0, none⟩ 1 1 [.int .i64 0] rfl rfl (cell_one_new _ _ _) (one_cells [0]) (by unfold maxLen; omega) (by omega) (by simp; omega) ?_; intro v' w2 hown' hgrow hnil hloc; have hB2 := (HB1.out.alloc HB1.out.size (.cells #[.int .i64 0] 2)).grown hgrow (by simp; omega) (fun j hj => (HO1.out.lt j hj).1); have HG := Lib.hid hgrow; have HO2 := Lib.hid hown'; have HL := Lib.hid hloc; have HB2 := Lib.hid hB2; clear hgrow hown' hnil hloc hB2)
      have hne : ∀ p : Addr, p.block = w.heap.size → w2.cell? p = (w1.alloc (.cells #[.int .i64 0] 2)).cell? p := fun p hp => HG.out.cell_far p (by rw [hp]; simp; omega) (by rw [hp]; intro e; have := HK.out _ e.symm; omega)
      have r0 : w2.cell? ⟨w.heap.size, 0, none⟩ = some (.int .i64 k) := (hne _ rfl).trans ((((Below.refl _ w1).alloc (Nat.le_refl _) _).cell (p := ⟨w.heap.size, 0, none⟩) pws).trans p0)
      have r1 : w2.cell? ⟨w.heap.size, 1, none⟩ = some (.int .i64 e) := (hne _ rfl).trans ((((Below.refl _ w1).alloc (Nat.le_refl _) _).cell (p := ⟨w.heap.size, 1, none⟩) pws).trans p1)
      have r2 : w2.cell? ⟨w.heap.size, 2, none⟩ = some (.int .i64 l) := (hne _ rfl).trans ((((Below.refl _ w1).alloc (Nat.le_refl _) _).cell (p := ⟨w.heap.size, 2, none⟩) pws).trans p2)
      have rws : w.heap.size < w2.heap.size := by have := HG.out.size; simp at this; omega
      clear hne p0 p1 p2
      go_wp2_with fail
      go_roundw
      case rel =>
        refine ⟨j + 1, by omega, by go_num, ?_, HB2.out, rws, fun g hg => ?_, r0, r1, r2⟩
        · have := HO2.out
          simpa [List.replicate_succ'] using this
        · rcases HL.out with h1 | h1
          · exact HK.out g (h1 ▸ hg)
          · rw [h1] at hg; injection hg with hg; simp at hg; omega
      case measure => simp [intOf]; omega
    · have HF := Lib.hid (HZ.out _ _ j HO1.out HB1.out (by omega))
      go_wp2_with fail
      go_ret
      exact HF.out
end Go.Proofs.YtdnmnfpcgbbplaaDoor
