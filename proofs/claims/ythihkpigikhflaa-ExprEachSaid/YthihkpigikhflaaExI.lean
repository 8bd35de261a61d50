/- What Each hands back, called with the function that the law hands over. Conditions: none. -/
import Derived.Test.YthihkpigikhflaaExU
namespace Go.Proofs.Ythihkpigikhflaa
open Go.RowKit Go.Sort
set_option linter.unusedVariables false

theorem exEachB (x : Ex) (A : Option Addr) (ca : Nat) (B : Option Addr) (cb : Nat) (w : World) (hr : rdX w x A B) :
    Calls Try.prog 21 #[.agg (exA x A ca B cb)] w fun r w' => r = .returned (.func (.func 31) #[] #[.pointer (some ⟨w.heap.size, 0, none⟩)]) ∧ Below w.heap.size w w' ∧ w.heap.size < w'.heap.size ∧
      ∀ w'' : World, (∀ k : Nat, k < w'.heap.size → w''.heap[k]? = w'.heap[k]?) → ∀ j : Nat, w''.cell? ⟨w.heap.size, j, none⟩ = (exA x A ca B cb)[j]? :=
  (exEach x A ca B cb w hr).mono fun r w' ⟨h1, h2⟩ => by
    obtain ⟨hb1, hg, hr1, hcell⟩ := box_facts w x A ca B cb w' h2.symm hr
    refine ⟨h1, hb1, hg, fun w'' h j => ?_⟩
    rw [World.cell?_of_block (a := ⟨w.heap.size, j, none⟩) (h _ hg)]
    exact hcell w' (Below.refl _ _) j

theorem Turned.below {w w' w0 : World} {ob nb : Nat} (h : Turned w w' ob nb) (hb : Below w0.heap.size w0 w) (ho : w0.heap.size ≤ ob) (hn : w0.heap.size ≤ nb) : Below w0.heap.size w0 w' :=
  ⟨h.1.trans hb.os, h.2.1.trans hb.tape, h.2.2.1.trans hb.output, Nat.le_trans hb.size h.2.2.2.1, fun k hk => (h.2.2.2.2 k (Nat.lt_of_lt_of_le hk hb.size) (by omega) (by omega)).trans (hb.block k hk)⟩
theorem Turned.refl (w : World) (ob nb : Nat) : Turned w w ob nb := ⟨rfl, rfl, rfl, Nat.le_refl _, fun _ _ _ _ => rfl⟩
theorem Turned.trans {a b c : World} {ob nb : Nat} (h : Turned a b ob nb) (k : Turned b c ob nb) : Turned a c ob nb :=
  ⟨k.1.trans h.1, k.2.1.trans h.2.1, k.2.2.1.trans h.2.2.1, Nat.le_trans h.2.2.2.1 k.2.2.2.1, fun i hi h1 h2 => (k.2.2.2.2 i (Nat.lt_of_lt_of_le hi h.2.2.2.1) h1 h2).trans (h.2.2.2.2 i hi h1 h2)⟩
theorem Turned.cell {w w' : World} {ob nb : Nat} (h : Turned w w' ob nb) {b o : Nat} {v : Value} (hc : w.cell? ⟨b, o, none⟩ = some v) (h1 : b ≠ ob) (h2 : b ≠ nb) : w'.cell? ⟨b, o, none⟩ = some v :=
  (World.cell?_of_block (a := ⟨b, o, none⟩) (h.2.2.2.2 b (World.block_lt_of_cell? w _ hc) h1 h2)).trans hc
theorem Turned.of_below {w w' : World} (ob nb : Nat) (h : Below w.heap.size w w') : Turned w w' ob nb := ⟨h.os, h.tape, h.output, h.size, fun k hk _ _ => h.block k hk⟩

theorem flX_at {w : World} : ∀ {l : List Ex} {cs : List Value} (_ : flX w l cs) {i : Nat}, i < l.length → ∃ A ca B cb, (∀ j v, (exL (l[i]?.getD default) A ca B cb)[j]? = some v → cs[i * 6 + j]? = some v) ∧ rdX w (l[i]?.getD default) A B
  | [], cs, h, i, hi => absurd hi (by simp)
  | x :: l, cs, h, 0, hi => by
    obtain ⟨A, ca, B, cb, cs1, rfl, h1, h2⟩ := h
    refine ⟨A, ca, B, cb, fun j v hj => ?_, by simpa using h1⟩
    simp only [List.getElem?_cons_zero, Option.getD_some] at hj
    rw [Nat.zero_mul, Nat.zero_add, List.getElem?_append_left (List.getElem?_eq_some_iff.1 hj).1]
    exact hj
  | x :: l, cs, h, i + 1, hi => by
    obtain ⟨A, ca, B, cb, cs1, rfl, h1, h2⟩ := h
    obtain ⟨A', ca', B', cb', h3, h4⟩ := flX_at h2 (i := i) (by simpa using hi)
    refine ⟨A', ca', B', cb', fun j v hj => ?_, by simpa using h4⟩
    have := h3 j v (by simpa using hj)
    rw [List.getElem?_append_right (by show 6 ≤ (i + 1) * 6 + j; omega)]
    show cs1[(i + 1) * 6 + j - 6]? = some v
    rw [show (i + 1) * 6 + j - 6 = i * 6 + j by omega]
    exact this

theorem boxed_below' {W W' : World} {B n : Nat} {t : TypeId} {v : Value} (h : Boxed W B t v) (hb : Below n W W') (hn : B < n) : Boxed W' B t v := (hb.block B hn).trans h

theorem parts_idx : ∀ (l : List Ex) {k j : Nat}, k < l.length → j < sizeX (l[k]?.getD default) → (partssX l)[sizesX (l.take k) + j]? = (partsX (l[k]?.getD default))[j]?
  | [], k, j, h, _ => absurd h (by simp)
  | x :: l, 0, j, _, hj => by
    simp only [List.getElem?_cons_zero, Option.getD_some] at hj ⊢
    simp only [List.take_zero, sizesX, Nat.zero_add, partssX]
    exact List.getElem?_append_left (by rw [partsX_len]; exact hj)
  | x :: l, k + 1, j, h, hj => by
    simp only [List.getElem?_cons_succ] at hj ⊢
    simp only [List.take_succ_cons, sizesX, partssX]
    rw [List.getElem?_append_right (by rw [partsX_len]; omega), partsX_len, show sizeX x + sizesX (l.take k) + j - sizeX x = sizesX (l.take k) + j by omega]
    exact parts_idx l (by simpa using h) hj
theorem parts_idx0 (x : Ex) : (partsX x)[0]?.getD default = x := by rw [partsX_eq]; rfl
theorem parts_sub (x : Ex) {k j : Nat} (hk : k < x.subs.length) (hj : j < sizeX (subX x k)) : (partsX x)[1 + sizesX (x.subs.take k) + j]?.getD default = (partsX (subX x k))[j]?.getD default := by
  rw [partsX_eq x, show 1 + sizesX (x.subs.take k) + j = (sizesX (x.subs.take k) + j) + 1 by omega, List.getElem?_cons_succ, parts_idx x.subs hk hj]
  rfl

set_option maxRecDepth 100000 in
set_option maxHeartbeats 2000000 in
theorem eachLaw (e : Ex) (z : Int) (ob nb wb eb sb : Nat) (w0 wB : World) (hb0 : Below w0.heap.size w0 wB) (ho0 : w0.heap.size ≤ ob) (hn0 : w0.heap.size ≤ nb)
    (hY : ∀ (i : Nat) (hi : i < sizeX e) (A' : Option Addr) (ca' : Nat) (B' : Option Addr) (cb' : Nat) (W : World) (hW : Turned wB W ob nb) (hob : Boxed W ob 4 (.bool true)) (hnb : Boxed W nb 3 (.int .i64 i)) (hx : rdX W ((partsX e)[i]?.getD default) A' B'),
      Calls Try.prog 22 #[.agg (exA ((partsX e)[i]?.getD default) A' ca' B' cb'), .pointer (some ⟨ob, 0, none⟩), .pointer (some ⟨nb, 0, none⟩), .pointer (some ⟨wb, 0, none⟩), .pointer (some ⟨eb, 0, none⟩), .pointer (some ⟨sb, 0, none⟩)] W
        fun r w' => r = .returned (.bool (decide ((i : Int) + 1 < z))) ∧ Turned W w' ob nb ∧ Boxed w' ob 4 (.bool true) ∧ Boxed w' nb 3 (.int .i64 (i + 1 : Nat))) :
    ∀ (x : Ex) (A : Option Addr) (ca : Nat) (B : Option Addr) (cb : Nat) (i : Nat) (W : World), rdX w0 x A B → (∀ j, j < sizeX x → (partsX e)[i + j]?.getD default = (partsX x)[j]?.getD default) → i + sizeX x ≤ sizeX e →
      Turned wB W ob nb → Boxed W ob 4 (.bool true) → Boxed W nb 3 (.int .i64 (i : Nat)) →
      Calls Try.prog 32 #[.agg (exA x A ca B cb), .func (.func 22) #[] #[.pointer (some ⟨ob, 0, none⟩), .pointer (some ⟨nb, 0, none⟩), .pointer (some ⟨wb, 0, none⟩), .pointer (some ⟨eb, 0, none⟩), .pointer (some ⟨sb, 0, none⟩)]] W
        fun r w' => r = .returned (.bool (decide ((i : Int) + (sizeX x : Nat) < z))) ∧ Turned W w' ob nb ∧ Boxed w' ob 4 (.bool true) ∧ Boxed w' nb 3 (.int .i64 (max (min ((i : Int) + (sizeX x : Nat)) z) ((i : Int) + 1))) := by
  refine size_ind fun x ih A ca B cb i W hr hidx hle hW hob hnb => ?_
  have hsx := sizeX_eq x
  have hsp := size_pos x
  have hmx := hr.subs.max
  have HIH := Lib.hid ih
  have HR0 := Lib.hid hr
  have HWT := Lib.hid hW
  have HB0 := Lib.hid fun W (h : Turned wB W ob nb) => h.below hb0 ho0 hn0
  have hrW := hr.below (hW.below hb0 ho0 hn0)
  have HF := Lib.hid fun w1 h => box_facts W x A ca B cb w1 h hrW
  have HOB := Lib.hid hob
  have HNB := Lib.hid hnb
  have hobl := hob.lt
  have hnbl := hnb.lt
  have hx0 : (partsX e)[i]?.getD default = x := by
    have := hidx 0 hsp
    rw [Nat.add_zero, parts_idx0] at this
    exact this
  have hy0 := hY i (by omega)
  rw [hx0] at hy0
  have HYI := Lib.hid fun A' ca' B' cb' W h1 h2 h3 h4 => hy0 A' ca' B' cb' W h1 h2 h3 h4
  have HIDX := Lib.hid fun k (hk : k < x.subs.length) j (hj : j < sizeX (subX x k)) => (show (partsX e)[i + 1 + sizesX (x.subs.take k) + j]?.getD default = (partsX (subX x k))[j]?.getD default by
    have h1 := sizes_snoc hk
    have h2 := sizes_take x.subs (k + 1)
    rw [← parts_sub x hk hj, ← hidx _ (by omega), show i + (1 + sizesX (x.subs.take k) + j) = i + 1 + sizesX (x.subs.take k) + j by omega])
  have HSN := Lib.hid fun i (hi : i < x.subs.length) => sizes_snoc hi
  have HLE := Lib.hid fun i => sizes_take x.subs i
  have HTL := Lib.hid (List.take_length (l := x.subs))
  have HBX := Lib.hid fun (x : Ex) (A : Option Addr) (ca : Nat) (B : Option Addr) (cb : Nat) (w w1 : World) (h : _) (hr : rdX w x A B) => box_facts w x A ca B cb w1 h hr
  clear ih hr hidx hW hob hnb hrW hY hy0 hx0 hb0
  unfold exA at HF HIH HYI HBX ⊢
  generalize hlen : x.subs.length = len at *
  go_enter Try.func32, Try.ntmps32
  go_upto_region 1 with (fail)
  generalize hw1 : W.alloc _ = w1
  obtain ⟨hb1, hg, hr1, hcell⟩ := HF.out w1 hw1
  have HC := Lib.hid hcell
  have HT1 := Lib.hid (Turned.of_below ob nb hb1)
  have q0 := hcell w1 (Below.refl _ _) 0
  have q1 := hcell w1 (Below.refl _ _) 1
  have q2 := hcell w1 (Below.refl _ _) 2
  have q3 := hcell w1 (Below.refl _ _) 3
  have q4 := hcell w1 (Below.refl _ _) 4
  have q5 := hcell w1 (Below.refl _ _) 5
  have HY1 := Lib.hid (HYI.out A ca B cb w1 (HWT.out.trans HT1.out) (boxed_below' HOB.out hb1 hobl) (boxed_below' HNB.out hb1 hnbl) hr1)
  have r5 := fun w2 (h : Turned w1 w2 ob nb) => h.cell q5 (by omega) (by omega)
  have HR5 := Lib.hid r5
  clear hcell hb1 hr1 hw1 HF r5
  by_cases hz1 : (i : Int) + 1 < z
  · have hd : decide ((i : Int) + 1 < z) = true := decide_eq_true hz1
    rw [hd] at HY1
    go_wp2_with fail
    refine HY1.out.mono ?_
    rintro r w2 ⟨rfl, ht2, ho2, hn2⟩
    have HT2 := Lib.hid (HT1.out.trans ht2)
    have HO2 := Lib.hid ho2
    have HN2 := Lib.hid hn2
    have r5 := HR5.out w2 ht2
    clear ht2 ho2 hn2 q0 q1 q2 q3 q4 q5
    go_wp2_with fail
    go_loopw [14] (fun n wr => ∃ k : Nat, k ≤ len ∧ n = .int .i64 k ∧ Turned W wr ob nb ∧ Boxed wr ob 4 (.bool true) ∧ Boxed wr nb 3 (.int .i64 ((i + 1 + sizesX (x.subs.take k) : Nat) : Int)) ∧ ((i + 1 + sizesX (x.subs.take k) : Nat) : Int) < z) (fun n _ => len - (intOf n).toNat)
    case atStart => exact ⟨0, Nat.zero_le _, rfl, HT2.out, HO2.out, HN2.out, by simp [sizesX]; omega⟩
    case round =>
      obtain ⟨k, hk, rfl, htu, hbo, hbn, hkz⟩ := hrel
      have HTW := Lib.hid htu
      have HBO := Lib.hid hbo
      have HBN := Lib.hid hbn
      have hlek := HLE.out k
      have hbol := hbo.lt
      have hbnl := hbn.lt
      by_cases hlt : k < len
      · have HBW := Lib.hid (HB0.out wr (HWT.out.trans htu))
        obtain ⟨b, off, rfl, hb, hat⟩ := HR0.out.sub (i := k) (by omega)
        obtain ⟨A', ca', B', cb', hrg, hrd⟩ := hat k (by omega)
        obtain ⟨c0, c1, c2, c3, c4, c5⟩ := rangeAt_six (rangeAt_keep hrg hb fun p hp => HBW.out.cell hp)
        have HF3 := Lib.hid fun w3 h => HBX.out (subX x k) A' ca' B' cb' wr w3 h (hrd.below HBW.out)
        have hsn := HSN.out k (by omega)
        have hle2 := HLE.out (k + 1)
        have HIK := Lib.hid fun W h1 h2 h3 => HIH.out k (by omega) A' ca' B' cb' (i + 1 + sizesX (x.subs.take k)) W hrd (HIDX.out k (by omega)) (by omega) h1 h2 h3
        clear hat hrg hrd htu hbo hbn HIH HYI
        generalize subX x k = y at *
        go_upto_region 6 with (fail)
        generalize hw3 : wr.alloc _ = w3
        obtain ⟨hb3, hg3, hr3, hcell3⟩ := HF3.out w3 hw3
        have d0 := hcell3 w3 (Below.refl _ _) 0
        have d1 := hcell3 w3 (Below.refl _ _) 1
        have d2 := hcell3 w3 (Below.refl _ _) 2
        have d3 := hcell3 w3 (Below.refl _ _) 3
        have d4 := hcell3 w3 (Below.refl _ _) 4
        have d5 := hcell3 w3 (Below.refl _ _) 5
        have HT3 := Lib.hid (HTW.out.trans (Turned.of_below ob nb hb3))
        have HCL := Lib.hid (HIK.out w3 (HWT.out.trans HT3.out) (boxed_below' HBO.out hb3 hbol) (boxed_below' HBN.out hb3 hbnl))
        clear hcell3 hb3 hr3 hw3 HF3 HIK c0 c1 c2 c3 c4 c5
        by_cases hz2 : (((i + 1 + sizesX (x.subs.take k) : Nat) : Int) + (sizeX y : Nat)) < z
        · have hd2 : decide ((((i + 1 + sizesX (x.subs.take k) : Nat) : Int) + (sizeX y : Nat)) < z) = true := decide_eq_true hz2
          have hm : max (min (((i + 1 + sizesX (x.subs.take k) : Nat) : Int) + (sizeX y : Nat)) z) (((i + 1 + sizesX (x.subs.take k) : Nat) : Int) + 1) = ((i + 1 + sizesX (x.subs.take (k + 1)) : Nat) : Int) := by
            have := size_pos y
            omega
          rw [hd2, hm] at HCL
          clear hm hd2
          have hz3 : ((i + 1 + sizesX (x.subs.take (k + 1)) : Nat) : Int) < z := by omega
          go_wp2_with fail
          refine HCL.out.mono ?_
          rintro r w4 ⟨rfl, ht4, ho4, hn4⟩
          have HT4 := Lib.hid (HT3.out.trans ht4)
          have HO4 := Lib.hid ho4
          have HN4 := Lib.hid hn4
          clear ht4 ho4 hn4
          go_wp2_with fail
          go_roundw
          case rel => exact ⟨k + 1, by omega, by go_num, HT4.out, HO4.out, HN4.out, hz3⟩
          case measure => simp [intOf]; omega
        · have hd2 : decide ((((i + 1 + sizesX (x.subs.take k) : Nat) : Int) + (sizeX y : Nat)) < z) = false := decide_eq_false hz2
          have hm : max (min (((i + 1 + sizesX (x.subs.take k) : Nat) : Int) + (sizeX y : Nat)) z) (((i + 1 + sizesX (x.subs.take k) : Nat) : Int) + 1) = max (min ((i : Int) + (sizeX x : Nat)) z) ((i : Int) + 1) := by omega
          have hdr : decide ((i : Int) + (sizeX x : Nat) < z) = false := decide_eq_false (by omega)
          have HDR := Lib.hid hdr
          rw [hd2, hm] at HCL
          clear hm hd2 hdr
          go_wp2_with fail
          refine HCL.out.mono ?_
          rintro r w4 ⟨rfl, ht4, ho4, hn4⟩
          have HT4 := Lib.hid (HT3.out.trans ht4)
          have HO4 := Lib.hid ho4
          have HN4 := Lib.hid hn4
          clear ht4 ho4 hn4
          go_wp2_with fail
          go_ret
          exact ⟨ret_bool HDR.out.symm, HT4.out, HO4.out, HN4.out⟩
      · have hkl : k = len := by omega
        subst hkl
        have hse : sizesX (x.subs.take k) = sizesX x.subs := by rw [← hlen, List.take_length]
        have HDR := Lib.hid (show decide ((i : Int) + (sizeX x : Nat) < z) = true from decide_eq_true (by omega))
        have HM := Lib.hid (show ((i + 1 + sizesX (x.subs.take k) : Nat) : Int) = max (min ((i : Int) + (sizeX x : Nat)) z) ((i : Int) + 1) by omega)
        clear htu hbo hbn
        go_wp2_with fail
        go_ret
        exact ⟨ret_bool HDR.out.symm, HTW.out, HBO.out, by rw [← HM.out]; exact HBN.out⟩
  · have hd : decide ((i : Int) + 1 < z) = false := decide_eq_false hz1
    rw [hd] at HY1
    have HDR := Lib.hid (show decide ((i : Int) + (sizeX x : Nat) < z) = false from decide_eq_false (by omega))
    have HM := Lib.hid (show ((i + 1 : Nat) : Int) = max (min ((i : Int) + (sizeX x : Nat)) z) ((i : Int) + 1) by omega)
    go_wp2_with fail
    refine HY1.out.mono ?_
    rintro r w2 ⟨rfl, ht2, ho2, hn2⟩
    have HT2 := Lib.hid (HT1.out.trans ht2)
    have HO2 := Lib.hid ho2
    have HN2 := Lib.hid hn2
    clear ht2 ho2 hn2 q0 q1 q2 q3 q4 q5
    go_wp2_with fail
    go_ret
    exact ⟨ret_bool HDR.out.symm, HT2.out, HO2.out, by rw [← HM.out]; exact HN2.out⟩

set_option maxRecDepth 100000 in
set_option maxHeartbeats 2000000 in
theorem seqCall (x : Ex) (A : Option Addr) (ca : Nat) (B : Option Addr) (cb : Nat) (A2 : Option Addr) (c2 : Nat) (z : Int) (g ob nb wb eb sb : Nat) (w0 w : World)
    (ht : tinyX x = true) (hz : 0 ≤ z) (hb0 : Below w0.heap.size w0 w) (hr : rdX w0 x A B) (hl : RdX w0 A2 (sizeX x) (partsX x)) (ho0 : w0.heap.size ≤ ob) (hn0 : w0.heap.size ≤ nb)
    (hg : ∀ j, j < 6 → w.cell? ⟨g, j, none⟩ = (exA x A ca B cb)[j]?) (hob : Boxed w ob 4 (.bool true)) (hnb : Boxed w nb 3 (.int .i64 (0 : Nat))) (hwb : w.cell? ⟨wb, 0, none⟩ = some (.slice A2 (sizeX x) c2))
    (heb : ∀ j, j < 6 → w.cell? ⟨eb, j, none⟩ = (exA x A ca B cb)[j]?) (hsb : w.cell? ⟨sb, 0, none⟩ = some (.int .i64 z)) (hon : ob ≠ nb) (hos : ob ≠ sb) (hns : nb ≠ sb) (hwo : wb ≠ ob) (hwn : wb ≠ nb) (heo : eb ≠ ob) (hen : eb ≠ nb) :
    Calls Try.prog 31 #[.func (.func 22) #[] #[.pointer (some ⟨ob, 0, none⟩), .pointer (some ⟨nb, 0, none⟩), .pointer (some ⟨wb, 0, none⟩), .pointer (some ⟨eb, 0, none⟩), .pointer (some ⟨sb, 0, none⟩)], .pointer (some ⟨g, 0, none⟩)] w
      fun r w' => r = .returned (.tuple #[]) ∧ Turned w w' ob nb ∧ Boxed w' ob 4 (.bool true) ∧ Boxed w' nb 3 (.int .i64 (max (min (sizeX x : Int) z) 1)) := by
  have hsz := tiny_size ht
  have hsp := size_pos x
  have HEL := Lib.hid (eachLaw x z ob nb wb eb sb w0 w hb0 ho0 hn0 (fun i hi A' ca' B' cb' W hW hob hnb hx =>
    lawYield x A ca B cb A2 c2 i z ob nb wb eb sb _ A' ca' B' cb' W ht hi rfl hob hnb (hW.cell hwb hwo hwn) (fun j hj => by
      rw [World.cell?_of_block (a := ⟨eb, j, none⟩) (hW.2.2.2.2 eb (World.block_lt_of_cell? w ⟨eb, 0, none⟩ ((heb 0 (by omega)).trans rfl)) heo hen)]
      exact heb j hj) (hW.cell hsb (fun e => hos e.symm) (fun e => hns e.symm)) hon hos hns (hl.below (hW.below hb0 ho0 hn0)) (hr.below (hW.below hb0 ho0 hn0)) hx)
    x A ca B cb 0 w hr (fun j _ => by rw [Nat.zero_add]) (by omega) (Turned.refl _ _ _) hob hnb)
  have q0 := hg 0 (by omega)
  have q1 := hg 1 (by omega)
  have q2 := hg 2 (by omega)
  have q3 := hg 3 (by omega)
  have q4 := hg 4 (by omega)
  have q5 := hg 5 (by omega)
  clear hr hl hg hob hnb hwb heb hsb hb0
  unfold exA at HEL q0 q1 q2 q3 q4 q5
  have HM := Lib.hid (show max (min (((0 : Nat) : Int) + (sizeX x : Nat)) z) (((0 : Nat) : Int) + 1) = max (min (sizeX x : Int) z) 1 by simp)
  generalize decide (((0 : Nat) : Int) + (sizeX x : Nat) < z) = rb at *
  go_enter Try.func31, Try.ntmps31
  go_wp2_with fail
  refine HEL.out.mono ?_
  rintro r w2 ⟨rfl, ht2, ho2, hn2⟩
  have HT2 := Lib.hid ht2
  have HO2 := Lib.hid ho2
  have HN2 := Lib.hid hn2
  clear ht2 ho2 hn2 q0 q1 q2 q3 q4 q5
  go_wp2_with fail
  first | go_end0 | refine bodyPost_ret (results_none rfl _ _ _) rfl ?_
  exact ⟨rfl, HT2.out, HO2.out, by rw [← HM.out]; exact HN2.out⟩
end Go.Proofs.Ythihkpigikhflaa
