/- How many parts an expression has, how deep it is, of the document's text; whether they are few. Conditions: none. -/
import Derived.Test.YtapnodhgjfbjjaaGreatExR
import Derived.Test.YtapnodhgjfbjjaaGreatBase
import Derived.Deep.DeepCutAuto
import Derived.Lib.QuietBelow
namespace Go.Proofs.YtapnodhgjfbjjaaGreat
open Go.RowKit Go.Sort
set_option linter.unusedVariables false

/-- A parameter's box: what is read of it, in every world behind. -/
theorem box_facts (w : World) (x : Ex) (A : Option Addr) (ca : Nat) (B : Option Addr) (cb : Nat) (w1 : World) (h : w.alloc (.cells (exA x A ca B cb) 41) = w1) (hr : rdX w x A B) :
    Below w.heap.size w w1 ∧ w.heap.size < w1.heap.size ∧ rdX w1 x A B ∧ ∀ w', Below w1.heap.size w1 w' → ∀ j, w'.cell? ⟨w.heap.size, j, none⟩ = (exA x A ca B cb)[j]? := by
  subst h
  refine ⟨(Below.refl _ _).alloc (Nat.le_refl _) _, by simp, hr.alloc _, fun w' hb j => ?_⟩
  rw [hb.cell (p := ⟨w.heap.size, j, none⟩) (by simp), World.cell?_alloc_new]

set_option maxRecDepth 100000 in
set_option maxHeartbeats 4000000 in
theorem refSize : ∀ (x : Ex) (A : Option Addr) (ca : Nat) (B : Option Addr) (cb : Nat) (w : World), rdX w x A B → sizeX x ≤ 1000000 →
    Calls Tryz.prog 78 #[.agg (exA x A ca B cb)] w fun e w' => e = .returned (.int .i64 (sizeX x : Nat)) ∧ Below w.heap.size w w' := by
  refine size_ind fun x ih A ca B cb w hr hs => ?_
  have HIH := Lib.hid ih
  have hsz := sizeX_eq x
  have HSZ := Lib.hid hsz
  have hmx := hr.subs.max
  have HF := Lib.hid fun w1 h => box_facts w x A ca B cb w1 h hr
  have HSN := Lib.hid fun i (hi : i < x.subs.length) => sizes_snoc hi
  have HLE := Lib.hid fun i => sizes_take x.subs i
  have HSUB := Lib.hid fun i (hi : i < x.subs.length) => size_sub (subX_mem hi)
  have HTL := Lib.hid (List.take_length (l := x.subs))
  clear ih hr
  unfold exA at HF HIH ⊢
  generalize hlen : x.subs.length = len at *
  go_enter Tryz.func78, Tryz.ntmps78
  go_upto_region 1 with (fail)
  generalize hw1 : w.alloc _ = w1
  obtain ⟨hb1, hg, hr1, hcell⟩ := HF.out w1 hw1
  have HC := Lib.hid hcell
  have HB1 := Lib.hid hb1
  have HR1 := Lib.hid hr1
  clear hcell hb1 hr1 hw1 HF
  go_wp2_with fail
  go_loopw [3, 4] (fun s i wr => ∃ k : Nat, k ≤ len ∧ i = .int .i64 k ∧ s = .int .i64 ((1 + sizesX (x.subs.take k) : Nat) : Int) ∧ Below w1.heap.size w1 wr) (fun _ i _ => len - (intOf i).toNat)
  case atStart => exact ⟨0, Nat.zero_le _, rfl, by simp [sizesX], Below.refl _ _⟩
  case round =>
    obtain ⟨k, hk, rfl, rfl, hbw⟩ := hrel
    have HBW := Lib.hid hbw
    have hc5 := HC.out wr hbw 5
    have hle := HLE.out k
    by_cases hlt : k < len
    · obtain ⟨b, off, rfl, hb, hat⟩ := (HR1.out.below hbw).sub (i := k) (by omega)
      obtain ⟨A', ca', B', cb', hrg, hrd⟩ := hat k (by omega)
      obtain ⟨c0, c1, c2, c3, c4, c5⟩ := rangeAt_six hrg
      have HRD := Lib.hid hrd
      have hsn := HSN.out k (by omega)
      have hle2 := HLE.out (k + 1)
      clear hat hbw hrg hrd
      have hss := HSUB.out k (by omega)
      go_wp2_with fail
      refine (HIH.out k (by omega) A' ca' B' cb' _ HRD.out (by omega)).mono ?_
      rintro r w2 ⟨rfl, hb2⟩
      have HB2 := Lib.hid (HBW.out.trans (hb2.mono HBW.out.size))
      go_wp2_with fail
      go_roundw
      case rel => refine ⟨k + 1, by omega, by go_num, ?_, HB2.out⟩; rw [hsn]; go_num
      case measure => simp [intOf]; omega
    · have hkl : k = len := by omega
      subst hkl
      have HE := Lib.hid (hlen ▸ HTL.out : x.subs.take k = x.subs)
      go_wp2_with fail
      go_ret
      refine ⟨?_, HB1.out.trans (HBW.out.mono (Nat.le_of_lt hg))⟩
      rw [HE.out, ← HSZ.out]
      rfl

set_option maxRecDepth 100000 in
set_option maxHeartbeats 4000000 in
theorem refDepth : ∀ (x : Ex) (A : Option Addr) (ca : Nat) (B : Option Addr) (cb : Nat) (w : World), rdX w x A B → sizeX x ≤ 1000000 →
    Calls Tryz.prog 79 #[.agg (exA x A ca B cb)] w fun e w' => e = .returned (.int .i64 (depthX x : Nat)) ∧ Below w.heap.size w w' := by
  refine size_ind fun x ih A ca B cb w hr hs => ?_
  have HIH := Lib.hid ih
  have HSZ := Lib.hid (depthX_eq x)
  have hds := depth_size x
  have hsz := depthX_eq x
  have hmx := hr.subs.max
  have HF := Lib.hid fun w1 h => box_facts w x A ca B cb w1 h hr
  have HSN := Lib.hid fun i (hi : i < x.subs.length) => depths_snoc hi
  have HSUB := Lib.hid fun i (hi : i < x.subs.length) => (size_sub (subX_mem hi))
  have HDS := Lib.hid fun i => depth_size (subX x i)
  have HTL := Lib.hid (List.take_length (l := x.subs))
  clear ih hr
  unfold exA at HF HIH ⊢
  generalize hlen : x.subs.length = len at *
  go_enter Tryz.func79, Tryz.ntmps79
  go_upto_region 1 with (fail)
  generalize hw1 : w.alloc _ = w1
  obtain ⟨hb1, hg, hr1, hcell⟩ := HF.out w1 hw1
  have HC := Lib.hid hcell
  have HB1 := Lib.hid hb1
  have HR1 := Lib.hid hr1
  clear hcell hb1 hr1 hw1 HF
  go_wp2_with fail
  go_loopw [3, 4] (fun s i wr => ∃ k : Nat, k ≤ len ∧ i = .int .i64 k ∧ s = .int .i64 ((depthsX (x.subs.take k) : Nat) : Int) ∧ Below w1.heap.size w1 wr) (fun _ i _ => len - (intOf i).toNat)
  case atStart => exact ⟨0, Nat.zero_le _, rfl, by simp [depthsX], Below.refl _ _⟩
  case round =>
    obtain ⟨k, hk, rfl, rfl, hbw⟩ := hrel
    have HBW := Lib.hid hbw
    have hc5 := HC.out wr hbw 5
    by_cases hlt : k < len
    · obtain ⟨b, off, rfl, hb, hat⟩ := (HR1.out.below hbw).sub (i := k) (by omega)
      obtain ⟨A', ca', B', cb', hrg, hrd⟩ := hat k (by omega)
      obtain ⟨c0, c1, c2, c3, c4, c5⟩ := rangeAt_six hrg
      have HRD := Lib.hid hrd
      have HSNK := Lib.hid (HSN.out k (by omega))
      clear hat hbw hrg hrd
      have hss := HSUB.out k (by omega)
      go_wp2_with fail
      refine (HIH.out k (by omega) A' ca' B' cb' _ HRD.out (by omega)).mono ?_
      rintro r w2 ⟨rfl, hb2⟩
      have HB2 := Lib.hid (HBW.out.trans (hb2.mono HBW.out.size))
      clear hb2
      go_wp2_with fail
      go_roundw
      case rel =>
        refine ⟨k + 1, by omega, by go_num, ?_, HB2.out⟩
        rw [HSNK.out]
        first | rfl | (congr 1; omega) | (simp; done) | skip
      case measure => simp [intOf]; omega
    · have hkl : k = len := by omega
      subst hkl
      have HE := Lib.hid (hlen ▸ HTL.out : x.subs.take k = x.subs)
      rw [HE.out]
      generalize depthsX x.subs = d at *
      go_wp2_with fail
      go_ret
      refine ⟨?_, HB1.out.trans (HBW.out.mono HB1.out.size)⟩
      rw [HSZ.out]
      rfl

set_option maxRecDepth 100000 in
set_option maxHeartbeats 4000000 in
theorem refCount : ∀ (x : Ex) (A : Option Addr) (ca : Nat) (B : Option Addr) (cb : Nat) (w : World) , rdX w x A B → ∀ left : Nat, left ≤ 1000000 →
    Calls Tryz.prog 26 #[.agg (exA x A ca B cb), .int .i64 left] w fun e w' => e = .returned (.int .i64 (left - sizeX x : Nat)) ∧ Below w.heap.size w w' := by
  refine size_ind fun x ih A ca B cb w hr left hs => ?_
  have HIH := Lib.hid fun i hi A ca B cb w h l hl => ih i hi A ca B cb w h l hl
  have hsz := sizeX_eq x
  have HSZ := Lib.hid hsz
  have hmx := hr.subs.max
  have HF := Lib.hid fun w1 h => box_facts w x A ca B cb w1 h hr
  have HSN := Lib.hid fun i (hi : i < x.subs.length) => sizes_snoc hi
  have HLE := Lib.hid fun i => sizes_take x.subs i
  have HTL := Lib.hid (List.take_length (l := x.subs))
  clear ih hr
  unfold exA at HF HIH ⊢
  generalize hlen : x.subs.length = len at *
  by_cases h0 : left = 0
  · subst h0
    go_enter Tryz.func26, Tryz.ntmps26
    go_upto_region 1 with (fail)
    generalize hw1 : w.alloc _ = w1
    obtain ⟨hb1, hg, hr1, hcell⟩ := HF.out w1 hw1
    have HB1 := Lib.hid hb1
    clear hcell hb1 hr1 hw1 HF
    go_wp2_with fail
    go_ret
    refine ⟨?_, HB1.out⟩
    rw [Nat.zero_sub]
    rfl
  · obtain ⟨l1, rfl⟩ : ∃ l1, left = l1 + 1 := ⟨left - 1, by omega⟩
    go_enter Tryz.func26, Tryz.ntmps26
    go_upto_region 1 with (fail)
    generalize hw1 : w.alloc _ = w1
    obtain ⟨hb1, hg, hr1, hcell⟩ := HF.out w1 hw1
    have HC := Lib.hid hcell
    have HB1 := Lib.hid hb1
    have HR1 := Lib.hid hr1
    clear hcell hb1 hr1 hw1 HF
    go_wp2_with fail
    go_loopw [1, 5] (fun s i wr => ∃ k : Nat, k ≤ len ∧ i = .int .i64 k ∧ s = .int .i64 ((l1 - sizesX (x.subs.take k) : Nat) : Int) ∧ Below w1.heap.size w1 wr) (fun _ i _ => len - (intOf i).toNat)
    case atStart => exact ⟨0, Nat.zero_le _, rfl, by simp [sizesX], Below.refl _ _⟩
    case round =>
      obtain ⟨k, hk, rfl, rfl, hbw⟩ := hrel
      have HBW := Lib.hid hbw
      have hc5 := HC.out wr hbw 5
      have hle := HLE.out k
      by_cases hlt : k < len
      · by_cases hp : l1 - sizesX (x.subs.take k) = 0
        · rw [hp]
          go_wp2_with fail
          go_ret
          refine ⟨?_, HB1.out.trans (HBW.out.mono HB1.out.size)⟩
          rw [show l1 + 1 - sizeX x = 0 by omega]
          rfl
        · obtain ⟨b, off, rfl, hb, hat⟩ := (HR1.out.below hbw).sub (i := k) (by omega)
          obtain ⟨A', ca', B', cb', hrg, hrd⟩ := hat k (by omega)
          obtain ⟨c0, c1, c2, c3, c4, c5⟩ := rangeAt_six hrg
          have HRD := Lib.hid hrd
          have hsn := HSN.out k (by omega)
          have HSNK := Lib.hid hsn
          clear hat hbw hrg hrd
          obtain ⟨q, hq⟩ : ∃ q, l1 - sizesX (x.subs.take k) = q := ⟨_, rfl⟩
          rw [hq]
          have hq0 : 0 < q := by omega
          have hql : q ≤ 1000000 := by omega
          have HQ := Lib.hid hq
          clear hq hp hsn hle hsz
          go_wp2_with fail
          refine (HIH.out k (by omega) A' ca' B' cb' _ HRD.out q hql).mono ?_
          rintro r w2 ⟨rfl, hb2⟩
          have HB2 := Lib.hid (HBW.out.trans (hb2.mono HBW.out.size))
          clear hb2
          go_wp2_with fail
          go_roundw
          case rel =>
            refine ⟨_, _, _, _, _, _, _, _, _, _, _, _, _, _, _, _, _, _, _, _, ?_, rfl⟩
            refine ⟨k + 1, by omega, by go_num, ?_, HB2.out⟩
            have := HQ.out
            rw [HSNK.out, show l1 - (sizesX (x.subs.take k) + sizeX (subX x k)) = q - sizeX (subX x k) by omega]
          case measure => simp [intOf]; omega
      · have hkl : k = len := by omega
        subst hkl
        have HE := Lib.hid (hlen ▸ HTL.out : x.subs.take k = x.subs)
        rw [HE.out]
        have HA : l1 + 1 - sizeX x = l1 - sizesX x.subs := by omega
        have HA' := Lib.hid HA
        generalize l1 - sizesX x.subs = d at *
        clear HA hle hsz
        go_wp2_with fail
        go_ret
        refine ⟨?_, HB1.out.trans (HBW.out.mono HB1.out.size)⟩
        rw [HA'.out]
        rfl
end Go.Proofs.YtapnodhgjfbjjaaGreat
