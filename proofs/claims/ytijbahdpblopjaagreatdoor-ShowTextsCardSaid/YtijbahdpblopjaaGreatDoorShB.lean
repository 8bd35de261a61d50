/- The text of a call: of the document's text. Conditions: names of at most 1000 bytes, numbers of 64 bits, at most 1000 parts. -/
import Derived.Test.YtijbahdpblopjaaGreatDoorShA
namespace Go.Proofs.YtijbahdpblopjaaGreatDoor
open Go.RowKit Go.Sort
set_option linter.unusedVariables false
set_option linter.unusedSimpArgs false

/-- The document's text function tells y's text. -/
def TxC (y : Ex) : Prop := ∀ (A : Option Addr) (ca : Nat) (B : Option Addr) (cb : Nat) (w : World), rdX w y A B → y.subs.length ≤ cb → capX w y B →
  Calls Tryz.prog 13 #[.agg (exA y A ca B cb)] w fun e w' => e = .returned (.string (ofB (textL y))) ∧ Below w.heap.size w w'

theorem take_getD {l : List Ex} {m i : Nat} (h : i < m) : (l.take m)[i]?.getD default = l[i]?.getD default := by
  rw [List.getElem?_take_of_lt h]

/-- The first subs of an expression, as a slice. -/
theorem RdX.take {w : World} {A : Option Addr} {n m : Nat} {l : List Ex} (h : RdX w A n l) (hm : m ≤ n) : RdX w A m (l.take m) := by
  have hl := h.1
  have hx := h.2.1
  refine ⟨by simp; omega, by omega, fun hp => ?_⟩
  obtain ⟨b, off, e, hb, hr⟩ := h.2.2 (by omega)
  refine ⟨b, off, e, hb, rdXs_of _ fun i hi => ?_⟩
  simp only [List.length_take] at hi
  rw [take_getD (by omega)]
  exact rdXs_at l hr i (by omega)

/-- A list of an expression's first subs. -/
theorem list_sub (x : Ex) (A : Option Addr) (B : Option Addr) (cb m c : Nat) (w0 w : World) (hr : rdX w0 x A B) (hc : capX w0 x B) (hb : Below w0.heap.size w0 w) (hm : m ≤ x.subs.length) (hs : sizesX x.subs ≤ 1000)
    (hl : ∀ y ∈ x.subs, (textL y).length ≤ 1300 * sizeX y) (ih : ∀ i, i < x.subs.length → TxC (subX x i)) :
    Calls Tryz.prog 35 #[.slice B m c] w fun e w' => e = .returned (.string (ofB (joinC ((x.subs.map textL).take m)))) ∧ Below w.heap.size w w' := by
  have hst := sizes_take x.subs m
  have h := refList (x.subs.take m) B m c w ((hr.below hb).subs.take hm) (by omega) (fun y hy => hl y (List.mem_of_mem_take hy)) (fun i hi w1 hw1 => by
    obtain ⟨b, off, e, hbl, hat⟩ := hr.subC hc (i := i) (by omega)
    have hb1 : Below w0.heap.size w0 w1 := hb.trans (hw1.mono hb.size)
    obtain ⟨A', ca', B', cb', hrg, hrd, hcl, hcx⟩ := hat i (by omega)
    have hbs := hb.size
    refine ⟨b, off, e, by omega, A', ca', B', cb', ?_, ?_⟩
    · rw [take_getD hi]
      exact rangeAt_keep hrg hbl fun p hp => hb1.cell hp
    · rw [take_getD hi]
      exact ih i (by omega) A' ca' B' cb' w1 (hrd.below hb1) hcl (hcx.below hrd hb1))
  rw [List.map_take] at h
  exact h

set_option maxRecDepth 100000 in
set_option maxHeartbeats 2000000 in
theorem refCall0 (x : Ex) (A : Option Addr) (ca : Nat) (B : Option Addr) (cb : Nat) (w : World) (hr : rdX w x A B) (hcb : x.subs.length ≤ cb) (hc : capX w x B) (hn : x.n = 0) (hsz : x.s.size ≤ 1000) (hs : sizesX x.subs ≤ 1000)
    (hl : ∀ y ∈ x.subs, (textL y).length ≤ 1300 * sizeX y) (ih : ∀ i, i < x.subs.length → TxC (subX x i)) :
    Calls Tryz.prog 34 #[.agg (exA x A ca B cb)] w fun e w' => e = .returned (.string (ofB (callT 0 x.s.data.toList (x.subs.map textL)))) ∧ Below w.heap.size w w' := by
  have HF := Lib.hid fun w1 h => box_facts w x A ca B cb w1 h hr
  have HLS := Lib.hid fun c w1 (h : Below w.heap.size w w1) => list_sub x A B cb x.subs.length c w w1 hr hc h (Nat.le_refl _) hs hl ih
  have hmx := hr.subs.max
  have hjl := join_take_len x.subs x.subs.length hl
  have htk : (x.subs.map textL).take x.subs.length = x.subs.map textL := List.take_of_length_le (by simp)
  rw [htk] at HLS hjl
  have HE := Lib.hid (show x.s ++ (⟨#[40]⟩ : ByteArray) ++ ofB (joinC (x.subs.map textL)) ++ ⟨#[41]⟩ = ofB (callT 0 x.s.data.toList (x.subs.map textL)) from ba_ext (by simp [ofB, callT]))
  have hos : (ofB (joinC (x.subs.map textL))).size ≤ 1302000 := by rw [ofB_size]; omega
  clear hr hc hl ih htk hjl
  unfold exA at HF ⊢
  rw [hn] at HF ⊢
  generalize ofB (joinC (x.subs.map textL)) = jt at *
  generalize callT 0 x.s.data.toList (x.subs.map textL) = ct at *
  generalize x.subs.length = len at *
  generalize x.s = s at *
  have z1 : (9223372036854775807 < s.size + 1) = False := by rw [eq_iff_iff, iff_false]; omega
  have z2 : (9223372036854775807 < s.size + 1 + jt.size) = False := by rw [eq_iff_iff, iff_false]; omega
  have z3 : (9223372036854775807 < s.size + 1 + jt.size + 1) = False := by rw [eq_iff_iff, iff_false]; omega
  go_enter Tryz.func34, Tryz.ntmps34
  go_upto_region 1 with (fail)
  generalize hw1 : w.alloc _ = w1
  obtain ⟨hb1, hg, hr1, hcell⟩ := HF.out w1 hw1
  have HB1 := Lib.hid hb1
  have HC := Lib.hid hcell
  have q1 := hcell w1 (Below.refl _ _) 1
  have q2 := hcell w1 (Below.refl _ _) 2
  have q5 := hcell w1 (Below.refl _ _) 5
  clear hcell hb1 hr1 hw1 HF
  go_wp2_with fail
  have HBQ := Lib.hid fun d os => HB1.out.trans ((below_regrown w1 d os).mono HB1.out.size)
  have cA := fun d os => Calls.regrown_of (HLS.out cb (grow (redrawn w1 d) os) (HBQ.out d os))
  have l1 := fun d os => cell_regrown q1 d os
  have l2 := fun d os => cell_regrown q2 d os
  have l5 := fun d os => cell_regrown q5 d os
  refine wp_region_quiet_below (by kernel_rfl) (by kernel_rfl) ?_
  repeat (quiet_step (exact cA _ _))
  refine wpQuiet_nil ?_
  intro _ hw'
  obtain ⟨⟨dq, osq⟩, hw''⟩ := hw'
  subst hw''
  have HB2 := Lib.hid (HBQ.out dq osq)
  have q1' := l1 dq osq
  clear cA l1 l2 l5 q1 q2 q5
  generalize grow (redrawn w1 dq) osq = w2 at *
  go_wp2_with fail
  go_ret
  exact ⟨ret_str HE.out, HB2.out⟩

set_option maxRecDepth 100000 in
set_option maxHeartbeats 2000000 in
theorem refCall1 (x : Ex) (l : List Ex) (y : Ex) (A : Option Addr) (ca : Nat) (B : Option Addr) (cb : Nat) (w : World) (hr : rdX w x A B) (hcb : x.subs.length ≤ cb) (hc : capX w x B) (hn : x.n = 1) (hly : x.subs = l ++ [y]) (hsz : x.s.size ≤ 1000) (hs : sizesX x.subs ≤ 1000)
    (hl : ∀ y ∈ x.subs, (textL y).length ≤ 1300 * sizeX y) (ih : ∀ i, i < x.subs.length → TxC (subX x i)) :
    Calls Tryz.prog 34 #[.agg (exA x A ca B cb)] w fun e w' => e = .returned (.string (ofB (callT 1 x.s.data.toList (x.subs.map textL)))) ∧ Below w.heap.size w w' := by
  have HF := Lib.hid fun w1 h => box_facts w x A ca B cb w1 h hr
  have hlen : x.subs.length = l.length + 1 := by rw [hly]; simp
  have HLS := Lib.hid fun c w1 (h : Below w.heap.size w w1) => list_sub x A B cb l.length c w w1 hr hc h (by omega) hs hl ih
  have hsub : subX x l.length = y := by simp [subX, hly]
  have HY := Lib.hid fun w1 (h : Below w.heap.size w w1) => (show ∃ b off, B = some ⟨b, off, none⟩ ∧ ∃ A' ca' B' cb', w1.rangeAt b (off + l.length * 6) (exL y A' ca' B' cb') ∧
      Calls Tryz.prog 13 #[.agg (exA y A' ca' B' cb')] w1 fun e w' => e = .returned (.string (ofB (textL y))) ∧ Below w1.heap.size w1 w' from by
    obtain ⟨b, off, e, hbl, hat⟩ := hr.subC hc (i := l.length) (by omega)
    obtain ⟨A', ca', B', cb', hrg, hrd, hcl, hcx⟩ := hat l.length (by omega)
    have ht := ih l.length (by omega)
    rw [hsub] at hrg hrd hcl hcx ht
    exact ⟨b, off, e, A', ca', B', cb', rangeAt_keep hrg hbl fun p hp => h.cell hp, ht A' ca' B' cb' w1 (hrd.below h) hcl (hcx.below hrd h)⟩)
  have hmx := hr.subs.max
  have hjl := join_take_len x.subs l.length hl
  have hyl : (textL y).length ≤ 1300000 := by
    have h1 := hl y (by rw [hly]; simp)
    have h2 := sizes_mem (l := x.subs) (x := y) (by rw [hly]; simp)
    omega
  have htk : (x.subs.map textL).take l.length = l.map textL := by rw [hly]; simp [List.take_append]
  rw [htk] at HLS hjl
  have HE := Lib.hid (show (⟨#[40]⟩ : ByteArray) ++ (x.s ++ (⟨#[40]⟩ : ByteArray) ++ ofB (joinC (l.map textL)) ++ ⟨#[41]⟩) ++ (⟨#[32, 101, 118, 101, 114, 121, 32]⟩ : ByteArray) ++ ofB (textL y) ++ ⟨#[41]⟩ = ofB (callT 1 x.s.data.toList (x.subs.map textL)) from ba_ext (by
    rw [hly]
    simp [ofB, callT, everyL, gT, List.take_append]))
  have hos : (ofB (joinC (l.map textL))).size ≤ 1302000 := by rw [ofB_size]; omega
  have hoy : (ofB (textL y)).size ≤ 1300000 := by rw [ofB_size]; exact hyl
  clear hr hc hl ih htk hjl hyl hsub
  unfold exA at HF HY ⊢
  rw [hn] at HF ⊢
  rw [hlen] at HF hmx hcb ⊢
  generalize callT 1 x.s.data.toList (x.subs.map textL) = ct at *
  clear hly
  generalize ofB (joinC (l.map textL)) = jt at *
  generalize ofB (textL y) = yt at *
  generalize l.length = len at *
  generalize x.s = s at *
  clear hlen
  have z1 : (9223372036854775807 < s.size + 1) = False := by rw [eq_iff_iff, iff_false]; omega
  have z2 : (9223372036854775807 < s.size + 1 + jt.size) = False := by rw [eq_iff_iff, iff_false]; omega
  have z3 : (9223372036854775807 < s.size + 1 + jt.size + 1) = False := by rw [eq_iff_iff, iff_false]; omega
  have z4 : (9223372036854775807 < 1 + (s.size + 1 + jt.size + 1)) = False := by rw [eq_iff_iff, iff_false]; omega
  have z5 : (9223372036854775807 < 1 + (s.size + 1 + jt.size + 1) + 7) = False := by rw [eq_iff_iff, iff_false]; omega
  have z6 : (9223372036854775807 < 1 + (s.size + 1 + jt.size + 1) + 7 + yt.size) = False := by rw [eq_iff_iff, iff_false]; omega
  have z7 : (9223372036854775807 < 1 + (s.size + 1 + jt.size + 1) + 7 + yt.size + 1) = False := by rw [eq_iff_iff, iff_false]; omega
  have hsub1 : ((len + 1 : Nat) : Int) - 1 = (len : Int) := by omega
  have hcb1 : len ≤ cb := by omega
  go_enter Tryz.func34, Tryz.ntmps34
  go_upto_region 1 with (fail)
  generalize hw1 : w.alloc _ = w1
  obtain ⟨hb1, hg, hr1, hcell⟩ := HF.out w1 hw1
  have HB1 := Lib.hid hb1
  have HC := Lib.hid hcell
  have q1 := hcell w1 (Below.refl _ _) 1
  have q2 := hcell w1 (Below.refl _ _) 2
  have q5 := hcell w1 (Below.refl _ _) 5
  clear hcell hb1 hr1 hw1 HF
  go_wp2_with fail
  have HBQ := Lib.hid fun d os => HB1.out.trans ((below_regrown w1 d os).mono HB1.out.size)
  have cA := fun d os => Calls.regrown_of (HLS.out cb (grow (redrawn w1 d) os) (HBQ.out d os))
  have l1 := fun d os => cell_regrown q1 d os
  have l2 := fun d os => cell_regrown q2 d os
  have l5 := fun d os => cell_regrown q5 d os
  refine wp_region_quiet_below (by kernel_rfl) (by kernel_rfl) ?_
  repeat (quiet_step (exact cA _ _))
  refine wpQuiet_nil ?_
  intro _ hw'
  obtain ⟨⟨dq, osq⟩, hw''⟩ := hw'
  subst hw''
  have HB2 := Lib.hid (HBQ.out dq osq)
  have q1' := l1 dq osq
  have q5' := l5 dq osq
  clear cA l1 l2 l5 q1 q2 q5 HBQ
  generalize grow (redrawn w1 dq) osq = w2 at *
  obtain ⟨b, off, rfl, A', ca', B', cb', hrg, hcl⟩ := HY.out w2 HB2.out
  obtain ⟨c0, c1, c2, c3, c4, c5⟩ := rangeAt_six hrg
  have HCL := Lib.hid hcl
  clear hrg hcl HY HLS
  go_wp2_with fail
  refine HCL.out.mono ?_
  rintro r w3 ⟨rfl, hb3⟩
  have HB3 := Lib.hid (HB2.out.trans (hb3.mono HB2.out.size))
  clear hb3
  go_wp2_with fail
  go_ret
  exact ⟨ret_str HE.out, HB3.out⟩
end Go.Proofs.YtijbahdpblopjaaGreatDoor
