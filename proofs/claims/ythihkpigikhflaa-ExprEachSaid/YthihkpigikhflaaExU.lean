/- The function that the law hands over. Conditions: none. -/
import Derived.Test.YthihkpigikhflaaExQ
import Derived.RangeFuncBox
import Derived.RangeFuncNested
namespace Go.Proofs.Ythihkpigikhflaa
open Go.RowKit Go.Sort
set_option linter.unusedVariables false

/-- Of what was there, the blocks ob and nb alone may have turned. -/
def Turned (w w' : World) (ob nb : Nat) : Prop := w'.os = w.os ∧ w'.tape = w.tape ∧ w'.output = w.output ∧ w.heap.size ≤ w'.heap.size ∧ ∀ k, k < w.heap.size → k ≠ ob → k ≠ nb → w'.heap[k]? = w.heap[k]?

theorem turned_mk {w wq : World} {ob nb : Nat} (u v : Value) (h : Below w.heap.size w wq) : Turned w ((wq.setCell ⟨ob, 0, none⟩ u).setCell ⟨nb, 0, none⟩ v) ob nb := by
  have g1 := grownBy_setCell' wq ob u
  have g2 := grownBy_setCell' (wq.setCell ⟨ob, 0, none⟩ u) nb v
  refine ⟨g2.os.trans (g1.os.trans h.os), g2.tape.trans (g1.tape.trans h.tape), g2.output.trans (g1.output.trans h.output), Nat.le_trans h.size (Nat.le_trans g1.size g2.size), fun k hk h1 h2 => ?_⟩
  have hk1 : k < wq.heap.size := Nat.lt_of_lt_of_le hk h.size
  rw [g2.block k (Nat.lt_of_lt_of_le hk1 g1.size) (fun e => h2 (Option.some.inj e)), g1.block k hk1 (fun e => h1 (Option.some.inj e)), h.block k hk]

set_option maxRecDepth 100000 in
set_option maxHeartbeats 8000000 in
theorem lawYield (e : Ex) (A : Option Addr) (ca : Nat) (B : Option Addr) (cb : Nat) (A2 : Option Addr) (c2 i : Nat) (z : Int) (ob nb wb eb sb : Nat) (x : Ex) (A' : Option Addr) (ca' : Nat) (B' : Option Addr) (cb' : Nat) (w : World)
    (ht : tinyX e = true) (hi : i < sizeX e) (hx : (partsX e)[i]?.getD default = x) (hob : Boxed w ob 4 (.bool true)) (hnb : Boxed w nb 3 (.int .i64 i)) (hwb : w.cell? ⟨wb, 0, none⟩ = some (.slice A2 (sizeX e) c2))
    (heb : ∀ j, j < 6 → w.cell? ⟨eb, j, none⟩ = (exA e A ca B cb)[j]?) (hsb : w.cell? ⟨sb, 0, none⟩ = some (.int .i64 z)) (hon : ob ≠ nb) (hos : ob ≠ sb) (hns : nb ≠ sb) (hl : RdX w A2 (sizeX e) (partsX e)) (he : rdX w e A B) (hrx : rdX w x A' B') :
    Calls Try.prog 22 #[.agg (exA x A' ca' B' cb'), .pointer (some ⟨ob, 0, none⟩), .pointer (some ⟨nb, 0, none⟩), .pointer (some ⟨wb, 0, none⟩), .pointer (some ⟨eb, 0, none⟩), .pointer (some ⟨sb, 0, none⟩)] w
      fun r w' => r = .returned (.bool (decide ((i : Int) + 1 < z))) ∧ Turned w w' ob nb ∧ Boxed w' ob 4 (.bool true) ∧ Boxed w' nb 3 (.int .i64 (i + 1 : Nat)) := by
  have HF := Lib.hid fun w1 h => box_facts w x A' ca' B' cb' w1 h hrx
  have hsz := tiny_size ht
  have hmem : x ∈ partsX e := hx ▸ parts_at hi
  obtain ⟨hxs, hxh⟩ := tiny_part ht hmem
  have HE := Lib.hid fun w1 (h : Below w.heap.size w w1) => exRight e A ca B cb w1 (he.below h) hsz (tiny_short ht)
  have HX := Lib.hid fun w1 (h : Below w.heap.size w w1) => exRight x A' ca' B' cb' w1 (hrx.below h) hxs hxh
  have HRP := Lib.hid fun (h : rightX e = true) => right_parts h hmem
  obtain ⟨b2, off2, rfl, hb2, hat⟩ := hl.at_ hi
  obtain ⟨A3, ca3, B3, cb3, hrg, hrd⟩ := hat i hi
  rw [hx] at hrg hrd
  have HSM := Lib.hid fun w1 (h : Below w.heap.size w w1) => refSame x A' ca' B' cb' x A3 ca3 B3 cb3 w1 (hrx.below h) (hrd.below h)
  rw [sameX_refl] at HSM
  have hRG := rangeAt_six hrg
  have HOB := Lib.hid hob
  have HNB := Lib.hid hnb
  have hobl := hob.lt
  have hnbl := hnb.lt
  have hsbl := World.block_lt_of_cell? w _ hsb
  have hwbl := World.block_lt_of_cell? w _ hwb
  have hebl : eb < w.heap.size := World.block_lt_of_cell? w ⟨eb, 0, none⟩ ((heb 0 (by omega)).trans rfl)
  have HSB := Lib.hid hsb
  have k1 := hob.cell
  have k2 := hnb.cell
  have k3 := hwb
  have k4 := heb 0 (by omega)
  have k5 := heb 1 (by omega)
  have k6 := heb 2 (by omega)
  have k7 := heb 3 (by omega)
  have k8 := heb 4 (by omega)
  have k9 := heb 5 (by omega)
  clear hat hrg hrd he hrx hl hob hnb hwb heb hsb ht hxs hxh hmem hx
  obtain ⟨m0, m1, m2, m3, m4, m5⟩ := hRG
  unfold exA at HF HE HX HSM k4 k5 k6 k7 k8 k9 ⊢
  generalize rightX e = re at *
  generalize rightX x = rx at *
  generalize sizeX e = n at *
  go_enter Try.func22, Try.ntmps22
  go_upto_region 1 with (fail)
  generalize hw1 : w.alloc _ = w1
  obtain ⟨hb1, hg, hr1, hcell⟩ := HF.out w1 hw1
  have HB1 := Lib.hid hb1
  have q0 := hcell w1 (Below.refl _ _) 0
  have q1 := hcell w1 (Below.refl _ _) 1
  have q2 := hcell w1 (Below.refl _ _) 2
  have q3 := hcell w1 (Below.refl _ _) 3
  have q4 := hcell w1 (Below.refl _ _) 4
  have q5 := hcell w1 (Below.refl _ _) 5
  have k1 := (hb1.cell (p := ⟨ob, 0, none⟩) hobl).trans k1
  have k2 := (hb1.cell (p := ⟨nb, 0, none⟩) hnbl).trans k2
  have k3 := (hb1.cell (p := ⟨wb, 0, none⟩) hwbl).trans k3
  have k4 := (hb1.cell (p := ⟨eb, 0, none⟩) hebl).trans k4
  have k5 := (hb1.cell (p := ⟨eb, 1, none⟩) hebl).trans k5
  have k6 := (hb1.cell (p := ⟨eb, 2, none⟩) hebl).trans k6
  have k7 := (hb1.cell (p := ⟨eb, 3, none⟩) hebl).trans k7
  have k8 := (hb1.cell (p := ⟨eb, 4, none⟩) hebl).trans k8
  have k9 := (hb1.cell (p := ⟨eb, 5, none⟩) hebl).trans k9
  have m0 := (hb1.cell (p := ⟨b2, off2 + i * 6, none⟩) hb2).trans m0
  have m1 := (hb1.cell (p := ⟨b2, off2 + i * 6 + 1, none⟩) hb2).trans m1
  have m2 := (hb1.cell (p := ⟨b2, off2 + i * 6 + 2, none⟩) hb2).trans m2
  have m3 := (hb1.cell (p := ⟨b2, off2 + i * 6 + 3, none⟩) hb2).trans m3
  have m4 := (hb1.cell (p := ⟨b2, off2 + i * 6 + 4, none⟩) hb2).trans m4
  have m5 := (hb1.cell (p := ⟨b2, off2 + i * 6 + 5, none⟩) hb2).trans m5
  clear hcell hb1 hr1 hw1 HF
  have HBQ := Lib.hid fun d os => HB1.out.trans ((below_regrown w1 d os).mono HB1.out.size)
  have cA := fun d os => Calls.regrown_of (HSM.out (grow (redrawn w1 d) os) (HBQ.out d os))
  have cB := fun d os => Calls.regrown_of (HE.out (grow (redrawn w1 d) os) (HBQ.out d os))
  have cC := fun d os => Calls.regrown_of (HX.out (grow (redrawn w1 d) os) (HBQ.out d os))
  have lq0 := fun d os => cell_regrown q0 d os
  have lq1 := fun d os => cell_regrown q1 d os
  have lq2 := fun d os => cell_regrown q2 d os
  have lq3 := fun d os => cell_regrown q3 d os
  have lq4 := fun d os => cell_regrown q4 d os
  have lq5 := fun d os => cell_regrown q5 d os
  have lk1 := fun d os => cell_regrown k1 d os
  have lk2 := fun d os => cell_regrown k2 d os
  have lk3 := fun d os => cell_regrown k3 d os
  have lk4 := fun d os => cell_regrown k4 d os
  have lk5 := fun d os => cell_regrown k5 d os
  have lk6 := fun d os => cell_regrown k6 d os
  have lk7 := fun d os => cell_regrown k7 d os
  have lk8 := fun d os => cell_regrown k8 d os
  have lk9 := fun d os => cell_regrown k9 d os
  have lm0 := fun d os => cell_regrown m0 d os
  have lm1 := fun d os => cell_regrown m1 d os
  have lm2 := fun d os => cell_regrown m2 d os
  have lm3 := fun d os => cell_regrown m3 d os
  have lm4 := fun d os => cell_regrown m4 d os
  have lm5 := fun d os => cell_regrown m5 d os
  have hdi : decide ((i : Int) < (n : Int)) = true := decide_eq_true (by omega)
  cases re with
  | false =>
    go_wp2_with fail
    refine wp_region_quiet_tail (l1 := [_, _, _, _, _, _, _, _, _, _, _, _, _, _, _, _, _, _, _, _, _, _, _, _]) (l2 := [_]) (by kernel_rfl) (by kernel_rfl) (by kernel_rfl) (by kernel_rfl) (by kernel_rfl) ?_
    repeat (quiet_step (first | with_reducible exact cA _ _ | with_reducible exact cB _ _ | with_reducible exact cC _ _))
    refine wpQuiet_nil ?_
    intro _ hw'
    obtain ⟨⟨dq, osq⟩, hw''⟩ := hw'
    subst hw''
    have HBR := Lib.hid (HBQ.out dq osq)
    clear cA cB cC q0 q1 q2 q3 q4 q5 k1 k2 k3 k4 k5 k6 k7 k8 k9 m0 m1 m2 m3 m4 m5 lq0 lq1 lq2 lq3 lq4 lq5 lk1 lk2 lk3 lk4 lk5 lk6 lk7 lk8 lk9 lm0 lm1 lm2 lm3 lm4 lm5
    generalize grow (redrawn w1 dq) osq = wq at *
    have hob2 : Boxed wq ob 4 (.bool true) := (HBR.out.block ob hobl).trans HOB.out
    have hnb2 : Boxed wq nb 3 (.int .i64 i) := (HBR.out.block nb hnbl).trans HNB.out
    have u1 := hob2.cell
    have u2 := hob2.frozen
    have hob3 := hob2.set (.bool true)
    have hnb3 := hnb2.other (B' := ob) (fun e => hon e.symm) (.bool true)
    have u3 := hnb3.cell
    have u4 := hnb3.frozen
    have hnb4 := hnb3.set (.int .i64 ((i : Int) + 1))
    have hob4 := hob3.other (B' := nb) hon (.int .i64 ((i : Int) + 1))
    have u5 := hnb4.cell
    have u6 : ((wq.setCell ⟨ob, 0, none⟩ (.bool true)).setCell ⟨nb, 0, none⟩ (.int .i64 ((i : Int) + 1))).cell? ⟨sb, 0, none⟩ = some (.int .i64 z) := by
      rw [World.cell?_setCell_other _ _ _ _ (by intro e; injection e with e; exact hns e), World.cell?_setCell_other _ _ _ _ (by intro e; injection e with e; exact hos e), HBR.out.cell (p := ⟨sb, 0, none⟩) hsbl]
      exact HSB.out
    have HTM := Lib.hid (turned_mk (ob := ob) (nb := nb) (.bool true) (.int .i64 ((i : Int) + 1)) HBR.out)
    have HO4 := Lib.hid hob4
    have HN4 := Lib.hid hnb4
    clear hob2 hnb2 hob3 hnb3 hob4 hnb4
    go_wp2_with fail
    go_ret
    exact ⟨rfl, HTM.out, HO4.out, by rw [Int.natCast_add]; exact HN4.out⟩
  | true =>
    have hrx := HRP.out (by first | trivial | rfl)
    subst hrx
    go_wp2_with fail
    refine wp_region_quiet_tail (l1 := [_, _, _, _, _, _, _, _, _, _, _, _, _, _, _, _, _, _, _, _, _, _, _, _]) (l2 := [_]) (by kernel_rfl) (by kernel_rfl) (by kernel_rfl) (by kernel_rfl) (by kernel_rfl) ?_
    repeat (quiet_step (first | with_reducible exact cA _ _ | with_reducible exact cB _ _ | with_reducible exact cC _ _))
    refine wpQuiet_nil ?_
    intro _ hw'
    obtain ⟨⟨dq, osq⟩, hw''⟩ := hw'
    subst hw''
    have HBR := Lib.hid (HBQ.out dq osq)
    clear cA cB cC q0 q1 q2 q3 q4 q5 k1 k2 k3 k4 k5 k6 k7 k8 k9 m0 m1 m2 m3 m4 m5 lq0 lq1 lq2 lq3 lq4 lq5 lk1 lk2 lk3 lk4 lk5 lk6 lk7 lk8 lk9 lm0 lm1 lm2 lm3 lm4 lm5
    generalize grow (redrawn w1 dq) osq = wq at *
    have hob2 : Boxed wq ob 4 (.bool true) := (HBR.out.block ob hobl).trans HOB.out
    have hnb2 : Boxed wq nb 3 (.int .i64 i) := (HBR.out.block nb hnbl).trans HNB.out
    have u1 := hob2.cell
    have u2 := hob2.frozen
    have hob3 := hob2.set (.bool true)
    have hnb3 := hnb2.other (B' := ob) (fun e => hon e.symm) (.bool true)
    have u3 := hnb3.cell
    have u4 := hnb3.frozen
    have hnb4 := hnb3.set (.int .i64 ((i : Int) + 1))
    have hob4 := hob3.other (B' := nb) hon (.int .i64 ((i : Int) + 1))
    have u5 := hnb4.cell
    have u6 : ((wq.setCell ⟨ob, 0, none⟩ (.bool true)).setCell ⟨nb, 0, none⟩ (.int .i64 ((i : Int) + 1))).cell? ⟨sb, 0, none⟩ = some (.int .i64 z) := by
      rw [World.cell?_setCell_other _ _ _ _ (by intro e; injection e with e; exact hns e), World.cell?_setCell_other _ _ _ _ (by intro e; injection e with e; exact hos e), HBR.out.cell (p := ⟨sb, 0, none⟩) hsbl]
      exact HSB.out
    have HTM := Lib.hid (turned_mk (ob := ob) (nb := nb) (.bool true) (.int .i64 ((i : Int) + 1)) HBR.out)
    have HO4 := Lib.hid hob4
    have HN4 := Lib.hid hnb4
    clear hob2 hnb2 hob3 hnb3 hob4 hnb4
    go_wp2_with fail
    go_ret
    exact ⟨rfl, HTM.out, HO4.out, by rw [Int.natCast_add]; exact HN4.out⟩
end Go.Proofs.Ythihkpigikhflaa
