/- The text of a value, as the document's text makes it. Conditions: no constructor's name is longer than 100 bytes. -/
import Derived.Test.YtdnmnfpcgbbplaaDoorVaE
namespace Go.Proofs.YtdnmnfpcgbbplaaDoor
open Go.RowKit
set_option linter.unusedVariables false

theorem join_snoc (l : List (List UInt8)) (y : List UInt8) : Lib.join (l ++ [y]) [44] = if l = [] then y else Lib.join l [44] ++ [44] ++ y := by
  cases l with
  | nil => simp [Lib.join_one]
  | cons x r =>
    rw [if_neg (by simp), List.cons_append, Lib.join_cons, Lib.join_cons]
    simp [Lib.joinTail]

/-- What is laid ahead of cell j: the bracket, and the texts of j cells with commas between. -/
def laidTo (es : List En) (k e : Int) (zs : List Int) (j : Nat) : List UInt8 := 91 :: Lib.join ((textsTo es k e zs j).map (·.data.toList)) [44]
theorem laidTo_zero (es : List En) (k e : Int) (zs : List Int) : laidTo es k e zs 0 = [91] := by simp [laidTo, textsTo, Lib.join_nil]
theorem laidTo_first {es : List En} {k e : Int} {zs : List Int} {x y : ByteArray} (hx : x.data.toList = laidTo es k e zs 0) (h : 0 < zs.length) (hy : cellT es k e (zs[0]?.getD 0) = y) : (x ++ y).data.toList = laidTo es k e zs 1 := by
  subst hy
  unfold laidTo at hx ⊢
  rw [textsTo_succ es k e zs h, List.map_append, List.map_singleton, join_snoc, if_pos (by simp [textsTo])]
  have : x.data.toList = [91] := by rw [hx]; simp [textsTo, Lib.join_nil]
  simp [this]
theorem laidTo_next {es : List En} {k e : Int} {zs : List Int} {j : Nat} {x y : ByteArray} (hx : x.data.toList = laidTo es k e zs j) (hj : ¬ j = 0) (h : j < zs.length) (hy : cellT es k e (zs[j]?.getD 0) = y) : (x ++ (⟨#[44]⟩ : ByteArray) ++ y).data.toList = laidTo es k e zs (j + 1) := by
  subst hy
  unfold laidTo at hx ⊢
  rw [textsTo_succ es k e zs h, List.map_append, List.map_singleton, join_snoc, if_neg (by
    intro e
    have := congrArg List.length e
    simp only [textsTo, List.length_map, List.length_take, List.length_nil] at this
    omega)]
  have h1 : (x ++ (⟨#[44]⟩ : ByteArray) ++ cellT es k e (zs[j]?.getD 0)).data.toList = x.data.toList ++ [44] ++ (cellT es k e (zs[j]?.getD 0)).data.toList := by simp
  rw [h1, hx]
  simp
theorem laidTo_end {es : List En} {k e : Int} {zs : List Int} {j : Nat} {x : ByteArray} (hx : x.data.toList = laidTo es k e zs j) (h : zs.length ≤ j) : x ++ (⟨#[93]⟩ : ByteArray) = (⟨#[91]⟩ : ByteArray) ++ ⟨(listT es k e zs).toArray⟩ ++ ⟨#[93]⟩ := by
  refine ba_ext ?_
  unfold laidTo at hx
  rw [texts_join h] at hx
  have h1 : (x ++ (⟨#[93]⟩ : ByteArray)).data.toList = x.data.toList ++ [93] := by simp
  rw [h1, hx]
  simp

set_option maxRecDepth 100000 in
set_option maxHeartbeats 4000000 in
theorem refValText (A : Option Addr) (n c : Nat) (es : List En) (B : Option Addr) (m d : Nat) (zs : List Int) (k e l : Int) (w : World) (hE : RdE w A n es) (hV : Rd .i64 w B m d zs) (hcs : CtShort es) :
    Calls Tryd.prog 19 #[.slice A n c, tyV k e l, .slice B m d] w fun r w' => r = .returned (.string (valT es k e l zs)) ∧ Below w.heap.size w w' := by
  have HB := Lib.hid ((Below.refl w.heap.size w).alloc (Nat.le_refl _) (.cells #[.int .i64 k, .int .i64 e, .int .i64 l] 24))
  have HC3 := Lib.hid (cell3 w 24 (.int .i64 k) (.int .i64 e) (.int .i64 l))
  have HE := Lib.hid hE
  have HV := Lib.hid hV
  have hlen := hV.len
  have hmx := hV.max
  have HRT := Lib.hid fun (W : World) (h1 : RdE W A n es) (h2 : Rd .i64 W B m d zs) => refValRight A n c es B m d zs k e l W h1 h2
  have HCL := Lib.hid fun (z : Int) (W : World) (h : RdE W A n es) => refCell A n c es k e l z W h
  have HW := Lib.hid fun z hz => wf_range (k := .i64) hV (z := z) hz
  clear hE hV
  cases hr : rightVB es k e l zs with
  | false =>
    rw [hr] at HRT
    have HT := Lib.hid (valT_no hr)
    unfold tyV at HRT ⊢
    clear hr
    go_enter Tryd.func19, Tryd.ntmps19
    go_wp2_with fail
    refine (HRT.out _ (HE.out.below HB.out) (HV.out.below HB.out)).mono ?_
    rintro r w1 ⟨rfl, hb1⟩
    have HB1 := Lib.hid (HB.out.trans (hb1.mono HB.out.size))
    clear hb1
    go_wp2_with fail
    go_ret
    exact ⟨ret_str HT.out.symm, HB1.out⟩
  | true =>
    rw [hr] at HRT
    obtain ⟨hcl, hones⟩ := rightV_at hr
    have hp := cellsN_pos l
    have hm0 : 0 < m := by omega
    have hm8 : m ≤ 8 := by omega
    have HON := Lib.hid hones
    have HR := Lib.hid hr
    have HSZ := Lib.hid fun (j : Nat) (hj : j < m) => cellT_size (l := l) hcs (hones j (by omega)) (HW.out (zs[j]?.getD 0) (by rw [List.getElem?_eq_getElem (by omega)]; exact List.getElem_mem _)).1 (HW.out (zs[j]?.getD 0) (by rw [List.getElem?_eq_getElem (by omega)]; exact List.getElem_mem _)).2
    have HCJ := Lib.hid fun (j : Nat) (hj : j < m) (W : World) (h : RdE W A n es) => HCL.out (zs[j]?.getD 0) W h (hones j (by omega)) (HW.out (zs[j]?.getD 0) (by rw [List.getElem?_eq_getElem (by omega)]; exact List.getElem_mem _)).1 (HW.out (zs[j]?.getD 0) (by rw [List.getElem?_eq_getElem (by omega)]; exact List.getElem_mem _)).2
    unfold tyV at HRT HCJ ⊢
    clear hones hr hcl hp HCL
    by_cases hl0 : l = 0
    · subst hl0
      have HT := Lib.hid (valT_one HR.out)
      obtain ⟨b, off, rfl, hb, hc⟩ := HV.out.at_ hm0
      have hv0 := hc 0 hm0
      rw [Nat.add_zero] at hv0
      have HC := Lib.hid fun (W : World) (h : RdE W A n es) => HCJ.out 0 hm0 W h
      clear hc
      generalize cellT es k e (zs[0]?.getD 0) = y at HC HT
      generalize zs[0]?.getD 0 = x at hv0 HC
      go_enter Tryd.func19, Tryd.ntmps19
      go_wp2_with fail
      refine (HRT.out _ (HE.out.below HB.out) (HV.out.below HB.out)).mono ?_
      rintro r w1 ⟨rfl, hb1⟩
      have hws1 : w.heap.size < w1.heap.size := by have := hb1.size; simp at this; omega
      have q0 := (hb1.cell (p := ⟨w.heap.size, 0, none⟩) (by simp)).trans HC3.out.1
      have q1 := (hb1.cell (p := ⟨w.heap.size, 1, none⟩) (by simp)).trans HC3.out.2.1
      have q2 := (hb1.cell (p := ⟨w.heap.size, 2, none⟩) (by simp)).trans HC3.out.2.2
      have HB1 := Lib.hid (HB.out.trans (hb1.mono HB.out.size))
      have hv1 := (HB1.out.cell (p := ⟨b, off, none⟩) hb).trans hv0
      have hbr : b < w1.heap.size := by omega
      clear hb1
      go_wp2_with fail
      go_region_held3 (fun W => W.cell? ⟨w.heap.size, 0, none⟩ = some (.int .i64 k) ∧ W.cell? ⟨w.heap.size, 1, none⟩ = some (.int .i64 e) ∧ W.cell? ⟨w.heap.size, 2, none⟩ = some (.int .i64 0) ∧ W.cell? ⟨b, off, none⟩ = some (.int .i64 x)) (first | exact ⟨q0, q1, q2, hv1⟩ | exact ⟨p0, p1, p2, pck⟩)
        ((go_at_call 28; refine (HC.out _ ((HE.out.below HB1.out).drewN _)).mono ?_; rintro r w2 ⟨rfl, hb2⟩; have p0 := (hb2.cell (p := ⟨w.heap.size, 0, none⟩) hws1).trans q0; have p1 := (hb2.cell (p := ⟨w.heap.size, 1, none⟩) hws1).trans q1; have p2 := (hb2.cell (p := ⟨w.heap.size, 2, none⟩) hws1).trans q2; have pck := (hb2.cell (p := ⟨b, off, none⟩) hbr).trans hv1; have HB2 := Lib.hid hb2))
      have HB3 := Lib.hid ((below_drewN HB1.out 1).trans (HB2.out.mono HB1.out.size))
      go_wp2_with fail
      go_ret
      exact ⟨ret_str HT.out.symm, HB3.out⟩
    · have HT := Lib.hid (valT_many HR.out hl0)
      have hlb : (l == 0) = false := by simpa using hl0
      clear hl0
      go_enter Tryd.func19, Tryd.ntmps19
      go_wp2_with fail
      refine (HRT.out _ (HE.out.below HB.out) (HV.out.below HB.out)).mono ?_
      rintro r w1 ⟨rfl, hb1⟩
      have hws1 : w.heap.size < w1.heap.size := by have := hb1.size; simp at this; omega
      have q0 := (hb1.cell (p := ⟨w.heap.size, 0, none⟩) (by simp)).trans HC3.out.1
      have q1 := (hb1.cell (p := ⟨w.heap.size, 1, none⟩) (by simp)).trans HC3.out.2.1
      have q2 := (hb1.cell (p := ⟨w.heap.size, 2, none⟩) (by simp)).trans HC3.out.2.2
      have HB1 := Lib.hid (HB.out.trans (hb1.mono HB.out.size))
      clear hb1
      go_wp2_with fail
      go_loopw [7, 8] (fun v i wr => ∃ (j : Nat) (x : ByteArray), j ≤ m ∧ i = .int .i64 j ∧ v = .string x ∧ x.data.toList = laidTo es k e zs j ∧ x.size ≤ 1 + j * 101 ∧ Below w.heap.size w wr ∧ w.heap.size < wr.heap.size ∧ wr.cell? ⟨w.heap.size, 0, none⟩ = some (.int .i64 k) ∧ wr.cell? ⟨w.heap.size, 1, none⟩ = some (.int .i64 e) ∧ wr.cell? ⟨w.heap.size, 2, none⟩ = some (.int .i64 l)) (fun _ i _ => m - (intOf i).toNat)
      case atStart => exact ⟨0, ⟨#[91]⟩, Nat.zero_le _, rfl, rfl, (laidTo_zero es k e zs).symm, by decide, HB1.out, hws1, q0, q1, q2⟩
      case round =>
        clear q0 q1 q2 hws1
        obtain ⟨j, x, hj, rfl, rfl, hx, hxz, hnx, hws, q0, q1, q2⟩ := hrel
        have HNX := Lib.hid hnx
        have HX := Lib.hid hx
        clear hx
        by_cases hlt : j < m
        · obtain ⟨b, off, rfl, hb, hc⟩ := rd_cell HV.out hlt
          have hck := (hnx.cell (p := ⟨b, off + j, none⟩) hb).trans hc
          have hbr : b < wr.heap.size := by have := hnx.size; omega
          have hyz := HSZ.out j hlt
          have HC := Lib.hid fun (W : World) (h : RdE W A n es) => HCJ.out j hlt W h
          clear hc hnx
          by_cases hj0 : j = 0
          · subst hj0
            have HN := Lib.hid (laidTo_first HX.out (by omega) rfl)
            generalize cellT es k e (zs[0]?.getD 0) = y at HC HN hyz
            generalize zs[0]?.getD 0 = z at hck HC
            rw [Nat.add_zero] at hck
            have z1 : (9223372036854775807 < x.size + y.size) = False := by rw [eq_iff_iff, iff_false]; omega
            go_wp2_with fail
            go_region_held3 (fun W => W.cell? ⟨w.heap.size, 0, none⟩ = some (.int .i64 k) ∧ W.cell? ⟨w.heap.size, 1, none⟩ = some (.int .i64 e) ∧ W.cell? ⟨w.heap.size, 2, none⟩ = some (.int .i64 l) ∧ W.cell? ⟨b, off, none⟩ = some (.int .i64 z)) (first | exact ⟨q0, q1, q2, hck⟩ | exact ⟨p0, p1, p2, pck⟩)
              ((go_at_call 28; refine (HC.out _ ((HE.out.below HNX.out).drewN _)).mono ?_; rintro r w2 ⟨rfl, hb2⟩; have p0 := (hb2.cell (p := ⟨w.heap.size, 0, none⟩) hws).trans q0; have p1 := (hb2.cell (p := ⟨w.heap.size, 1, none⟩) hws).trans q1; have p2 := (hb2.cell (p := ⟨w.heap.size, 2, none⟩) hws).trans q2; have pck := (hb2.cell (p := ⟨b, off, none⟩) hbr).trans hck; have HB2 := Lib.hid hb2))
            have HB3 := Lib.hid ((below_drewN HNX.out 1).trans (HB2.out.mono HNX.out.size))
            have pws : w.heap.size < w2.heap.size := by have := HB2.out.size; simp at this; omega
            go_wp2_with fail
            go_roundw
            case rel => exact ⟨1, x ++ y, by omega, by go_num, rfl, HN.out, by simp; omega, HB3.out, pws, p0, p1, p2⟩
            case measure => simp [intOf]; omega
          · have HN := Lib.hid (laidTo_next HX.out hj0 (by omega) rfl)
            have hj1 : 0 < j := by omega
            generalize cellT es k e (zs[j]?.getD 0) = y at HC HN hyz
            generalize zs[j]?.getD 0 = z at hck HC
            have z1 : (9223372036854775807 < x.size + 1) = False := by rw [eq_iff_iff, iff_false]; omega
            have z2 : (9223372036854775807 < x.size + 1 + y.size) = False := by rw [eq_iff_iff, iff_false]; omega
            go_wp2_with fail
            go_region_held3 (fun W => W.cell? ⟨w.heap.size, 0, none⟩ = some (.int .i64 k) ∧ W.cell? ⟨w.heap.size, 1, none⟩ = some (.int .i64 e) ∧ W.cell? ⟨w.heap.size, 2, none⟩ = some (.int .i64 l) ∧ W.cell? ⟨b, off + j, none⟩ = some (.int .i64 z)) (first | exact ⟨q0, q1, q2, hck⟩ | exact ⟨p0, p1, p2, pck⟩)
              ((go_at_call 28; refine (HC.out _ ((HE.out.below HNX.out).drewN _)).mono ?_; rintro r w2 ⟨rfl, hb2⟩; have p0 := (hb2.cell (p := ⟨w.heap.size, 0, none⟩) hws).trans q0; have p1 := (hb2.cell (p := ⟨w.heap.size, 1, none⟩) hws).trans q1; have p2 := (hb2.cell (p := ⟨w.heap.size, 2, none⟩) hws).trans q2; have pck := (hb2.cell (p := ⟨b, off + j, none⟩) hbr).trans hck; have HB2 := Lib.hid hb2))
            have HB3 := Lib.hid ((below_drewN HNX.out 1).trans (HB2.out.mono HNX.out.size))
            have pws : w.heap.size < w2.heap.size := by have := HB2.out.size; simp at this; omega
            go_wp2_with fail
            go_roundw
            case rel => exact ⟨j + 1, x ++ (⟨#[44]⟩ : ByteArray) ++ y, by omega, by go_num, rfl, HN.out, (by have e : (x ++ (⟨#[44]⟩ : ByteArray) ++ y).size = x.size + 1 + y.size := (by simp; rfl); rw [e]; omega), HB3.out, pws, p0, p1, p2⟩
            case measure => simp [intOf]; omega
        · have HF := Lib.hid (laidTo_end HX.out (by omega))
          have z1 : (9223372036854775807 < x.size + 1) = False := by rw [eq_iff_iff, iff_false]; omega
          go_wp2_with fail
          go_ret
          exact ⟨ret_str (by rw [HT.out]; exact HF.out), HNX.out⟩
end Go.Proofs.YtdnmnfpcgbbplaaDoor
