/- The walk of ExprEach, over the contracts exEach and seqCall of the program's Each. Conditions: none. -/
import Derived.Test.YthihkpigikhflaaExI
namespace Go.Proofs.Ythihkpigikhflaa
open Go.RowKit Go.Sort
set_option linter.unusedVariables false

/-- The boxes of an expression and a number. -/
theorem box2n_facts (w : World) (x : Ex) (A : Option Addr) (ca : Nat) (B : Option Addr) (cb : Nat) (z : Int) (w1 : World) (h : (w.alloc (.cells (exA x A ca B cb) 25)).alloc (.cells #[.int .i64 z] 3) = w1) :
    Below w.heap.size w w1 ∧ w.heap.size + 1 < w1.heap.size ∧ (∀ w' : World, Below w1.heap.size w1 w' → ∀ j : Nat, w'.cell? ⟨w.heap.size, j, none⟩ = (exA x A ca B cb)[j]?) ∧ ∀ w' : World, Below w1.heap.size w1 w' → w'.cell? ⟨w.heap.size + 1, 0, none⟩ = some (.int .i64 z) := by
  subst h
  refine ⟨((Below.refl _ _).alloc (Nat.le_refl _) _).alloc (by simp) _, by simp, fun w' hb j => ?_, fun w' hb => ?_⟩
  · rw [hb.cell (p := ⟨w.heap.size, j, none⟩) (by simp; omega), World.cell?_alloc_lt _ _ _ (by simp), World.cell?_alloc_new]
  · rw [hb.cell (p := ⟨w.heap.size + 1, 0, none⟩) (by simp)]
    have := World.cell?_alloc_new (w.alloc (.cells (exA x A ca B cb) 25)) #[.int .i64 z] 3 0
    rw [World.size_alloc] at this
    rw [this]
    rfl

set_option maxRecDepth 100000 in
set_option maxHeartbeats 8000000 in
theorem walkEach (x : Ex) (A : Option Addr) (ca : Nat) (B : Option Addr) (cb : Nat) (z : Int) (w : World) (hr : rdX w x A B) :
    Calls Try.prog 5 #[.agg (exA x A ca B cb), .int .i64 z] w fun e w' => e = .returned (.bool true) ∧ Below w.heap.size w w' := by
  have hmk : ∀ fn first cap w, (Instr.makeFunc fn first cap).run Try.prog w = .ok (.func fn first cap) w := fun _ _ _ _ => rfl
  have hnl : ∀ f cp W, (binOp BinOp.eql 33 (Value.func f #[] cp) Value.nilFunc).run Try.prog W = .ok (.bool false) W := fun _ _ _ => by first | rfl | kernel_rfl
  have HF := Lib.hid fun w1 h => box2n_facts w x A ca B cb z w1 h
  have HTX := Lib.hid fun w1 (h : Below w.heap.size w w1) => refSmall x A ca B cb w1 (hr.below h)
  have HPT := Lib.hid fun (ht : tinyX x = true) w1 (h : Below w.heap.size w w1) => refParts x A ca B cb w w1 hr h (tiny_size ht)
  have HEA := Lib.hid fun w1 (h : Below w.heap.size w w1) => exEachB x A ca B cb w1 (hr.below h)
  have HSQ := Lib.hid fun A2 c2 z g ob nb wb eb sb w0 w1 (ht : tinyX x = true) hz h0 (h : Below w.heap.size w w0) => seqCall x A ca B cb A2 c2 z g ob nb wb eb sb w0 w1 ht hz h0 (hr.below h)
  clear hr
  unfold exA at HF HTX HPT HEA HSQ ⊢
  generalize hht : tinyX x = tx at *
  cases tx with
  | false =>
    go_enter Try.func5, Try.ntmps5
    go_upto_region 1 with (fail)
    generalize hw1 : (w.alloc _).alloc _ = w1
    obtain ⟨hb1, hg, hcell, hst⟩ := HF.out w1 hw1
    have HB1 := Lib.hid hb1
    have q0 := hcell w1 (Below.refl _ _) 0
    have q1 := hcell w1 (Below.refl _ _) 1
    have q2 := hcell w1 (Below.refl _ _) 2
    have q3 := hcell w1 (Below.refl _ _) 3
    have q4 := hcell w1 (Below.refl _ _) 4
    have q5 := hcell w1 (Below.refl _ _) 5
    clear hcell hst hb1 hw1 HF
    go_wp2_with fail
    refine (HTX.out w1 HB1.out).mono ?_
    rintro r w2 ⟨rfl, hb⟩
    have HB2 := Lib.hid (HB1.out.trans (hb.mono HB1.out.size))
    clear hb q0 q1 q2 q3 q4 q5
    go_wp2_with fail
    refine (live_any w2).mono ?_
    rintro r w3 ⟨rfl, hb⟩
    have HB3 := Lib.hid (HB2.out.trans (hb.mono HB2.out.size))
    clear hb
    go_wp2_with fail
    go_ret
    exact ⟨rfl, HB3.out⟩
  | true =>
    by_cases hz : z < 0
    · have hd : decide (z < 0) = true := decide_eq_true hz
      go_enter Try.func5, Try.ntmps5
      go_upto_region 1 with (fail)
      generalize hw1 : (w.alloc _).alloc _ = w1
      obtain ⟨hb1, hg, hcell, hst⟩ := HF.out w1 hw1
      have HB1 := Lib.hid hb1
      have HST := Lib.hid hst
      have q0 := hcell w1 (Below.refl _ _) 0
      have q1 := hcell w1 (Below.refl _ _) 1
      have q2 := hcell w1 (Below.refl _ _) 2
      have q3 := hcell w1 (Below.refl _ _) 3
      have q4 := hcell w1 (Below.refl _ _) 4
      have q5 := hcell w1 (Below.refl _ _) 5
      clear hcell hst hb1 hw1 HF
      go_wp2_with fail
      refine (HTX.out w1 HB1.out).mono ?_
      rintro r w2 ⟨rfl, hb⟩
      have HB2 := Lib.hid (HB1.out.trans (hb.mono HB1.out.size))
      have s0 := HST.out w2 hb
      clear hb q0 q1 q2 q3 q4 q5
      go_wp2_with fail
      refine (live_any w2).mono ?_
      rintro r w3 ⟨rfl, hb⟩
      have HB3 := Lib.hid (HB2.out.trans (hb.mono HB2.out.size))
      clear hb
      go_wp2_with fail
      go_ret
      exact ⟨rfl, HB3.out⟩
    · have hd : decide (z < 0) = false := decide_eq_false hz
      go_enter Try.func5, Try.ntmps5
      go_upto_region 1 with (fail)
      generalize hw1 : (w.alloc _).alloc _ = w1
      obtain ⟨hb1, hg, hcell, hst⟩ := HF.out w1 hw1
      have HB1 := Lib.hid hb1
      have HC := Lib.hid hcell
      have HST := Lib.hid hst
      have HW1 := Lib.hid (Below.refl w1.heap.size w1)
      have q0 := HC.out w1 HW1.out 0
      have q1 := HC.out w1 HW1.out 1
      have q2 := HC.out w1 HW1.out 2
      have q3 := HC.out w1 HW1.out 3
      have q4 := HC.out w1 HW1.out 4
      have q5 := HC.out w1 HW1.out 5
      clear hcell hst hb1 hw1 HF
      go_wp2_with fail
      refine (HTX.out w1 HB1.out).mono ?_
      rintro r w2 ⟨rfl, hb⟩
      have HB2 := Lib.hid (HB1.out.trans (hb.mono HB1.out.size))
      have HW2 := Lib.hid hb
      have s0 := HST.out w2 hb
      clear hb q0 q1 q2 q3 q4 q5
      have q0 := HC.out w2 HW2.out 0
      have q1 := HC.out w2 HW2.out 1
      have q2 := HC.out w2 HW2.out 2
      have q3 := HC.out w2 HW2.out 3
      have q4 := HC.out w2 HW2.out 4
      have q5 := HC.out w2 HW2.out 5
      go_wp2_with fail
      refine (HPT.out (by first | trivial | rfl | exact hht) w2 HB2.out).mono ?_
      rintro r w3 ⟨A3, c3', cs3, rfl, hcel, hfl, hb, hg3⟩
      have HB3 := Lib.hid (HB2.out.trans (hb.mono HB2.out.size))
      have HW3 := Lib.hid (HW2.out.trans (hb.mono HW2.out.size))
      have HRX := Lib.hid (hcel.rd hfl HB3.out)
      clear hcel hfl hb hg3 q0 q1 q2 q3 q4 q5 s0 HPT HTX
      go_upto_region 4 with (fail)
      have hA4 : Below w3.heap.size w3 (w3.alloc (.cells #[.slice A3 (sizeX x) c3'] 23)) := (Below.refl _ _).alloc (Nat.le_refl _) _
      have hB4 : Boxed (w3.alloc (.cells #[.slice A3 (sizeX x) c3'] 23)) w3.heap.size 23 (.slice A3 (sizeX x) c3') := Boxed.new _ _ _
      generalize w3.alloc _ = w4 at *
      have HB4 := Lib.hid (HB3.out.trans (hA4.mono HB3.out.size))
      have HW4 := Lib.hid (HW3.out.trans (hA4.mono HW3.out.size))
      have HX4 := Lib.hid (HRX.out.below hA4)
      have HWB4 := Lib.hid hB4
      have hwl := hB4.lt
      have q0 := HC.out w4 HW4.out 0
      have q1 := HC.out w4 HW4.out 1
      have q2 := HC.out w4 HW4.out 2
      have q3 := HC.out w4 HW4.out 3
      have q4 := HC.out w4 HW4.out 4
      have q5 := HC.out w4 HW4.out 5
      have hw13 := HW3.out.size
      clear hA4 hB4
      go_wp2_with fail
      refine (HEA.out w4 HB4.out).mono ?_
      rintro r w5 ⟨rfl, hb, h45, hgc⟩
      have HB5 := Lib.hid (HB4.out.trans (hb.mono HB4.out.size))
      have HW5 := Lib.hid (HW4.out.trans (hb.mono HW4.out.size))
      have HX5 := Lib.hid (HX4.out.below hb)
      have HWB5 := Lib.hid (boxed_below' HWB4.out hb hwl)
      have HGC := Lib.hid hgc
      clear hb hgc q0 q1 q2 q3 q4 q5
      go_upto_region 8 with (fail)
      have hA6 : Below w5.heap.size w5 ((w5.alloc (.cells #[.int .i64 0] 3)).alloc (.cells #[.bool true] 4)) := ((Below.refl _ _).alloc (Nat.le_refl _) _).alloc (by simp) _
      have hN6 : Boxed ((w5.alloc (.cells #[.int .i64 0] 3)).alloc (.cells #[.bool true] 4)) w5.heap.size 3 (.int .i64 (0 : Nat)) := (Boxed.new w5 _ _).alloc _
      have hO6 : Boxed ((w5.alloc (.cells #[.int .i64 0] 3)).alloc (.cells #[.bool true] 4)) (w5.heap.size + 1) 4 (.bool true) := by
        have := Boxed.new (w5.alloc (.cells #[.int .i64 0] 3)) 4 (.bool true)
        rwa [World.size_alloc] at this
      generalize (w5.alloc _).alloc _ = w6 at *
      have hbe := HB5.out.size
      have hwe := HW5.out.size
      have HC6 := Lib.hid (HC.out w6 (HW5.out.trans (hA6.mono HW5.out.size)))
      have HS6 := Lib.hid (HST.out w6 (HW5.out.trans (hA6.mono HW5.out.size)))
      have HWB6 := Lib.hid (boxed_below' HWB5.out hA6 (by omega))
      have HG6 := Lib.hid (HGC.out w6 hA6.block)
      have HSC := Lib.hid (HSQ.out A3 c3' z w4.heap.size (w5.heap.size + 1) w5.heap.size w3.heap.size w.heap.size (w.heap.size + 1) w5 w6 (by first | trivial | rfl | exact hht) (by omega) hA6 HB5.out HX5.out (by omega) (by omega)
        (fun j _ => HG6.out j) hO6 hN6 HWB6.out.cell (fun j _ => HC6.out j) HS6.out (by omega) (by omega) (by omega) (by omega) (by omega) (by omega) (by omega))
      have HB6 := Lib.hid (HB5.out.trans (hA6.mono HB5.out.size))
      clear hA6 hN6 hO6
      go_wp2_with fail
      refine HSC.out.mono ?_
      rintro r w7 ⟨rfl, htu, ho7, hn7⟩
      have HB7 := Lib.hid (htu.below HB6.out (by omega) (by omega))
      have u1 := ho7.cell
      have u2 := hn7.cell
      have u3 := htu.cell HWB6.out.cell (by omega) (by omega)
      have u4 := htu.cell HS6.out (by omega) (by omega)
      clear htu ho7 hn7
      generalize sizeX x = n at *
      have hmm : (max (min (n : Int) z) 1 == max (min (n : Int) z) 1) = true := by simp
      go_wp2_with fail
      refine (live_any w7).mono ?_
      rintro r w8 ⟨rfl, hb⟩
      have HB8 := Lib.hid (HB7.out.trans (hb.mono HB7.out.size))
      clear hb
      go_wp2_with fail
      go_ret
      exact ⟨rfl, HB8.out⟩
end Go.Proofs.Ythihkpigikhflaa
