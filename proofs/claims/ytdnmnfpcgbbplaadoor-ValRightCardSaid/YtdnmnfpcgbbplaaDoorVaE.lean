/- The text of a value, as the program makes it. Conditions: no constructor's name is longer than 100 bytes; the powers of ten lie as laid. -/
import Derived.Test.YtdnmnfpcgbbplaaDoorVaD
namespace Go.Proofs.YtdnmnfpcgbbplaaDoor
open Go.RowKit
set_option linter.unusedVariables false

/-- No constructor's name is long. -/
def CtShort (es : List En) : Prop := ∀ j q, j < es.length → q < (csE es j).length → (ctAt es j q).size ≤ 100

theorem cellT_size {es : List En} {k e l z : Int} (hc : CtShort es) (h : oneB es k e l z = true) (h0 : -9223372036854775808 ≤ z) (h1 : z ≤ 9223372036854775807) : (cellT es k e z).size ≤ 100 := by
  rcases one_cases h with rfl | ⟨rfl, rfl | rfl⟩ | ⟨rfl, m, q, rfl, hm, rfl, hq⟩
  · have := Lib.itoa_length_le z h0 h1
    show ((Lib.itoa z).toArray).size ≤ 100
    simp
    omega
  · show falseT.size ≤ 100
    decide
  · show trueT.size ≤ 100
    decide
  · rw [cellT_ctor]
    exact hc m q hm hq

/-- The texts of the first j cells. -/
def textsTo (es : List En) (k e : Int) (zs : List Int) (j : Nat) : List ByteArray := (zs.take j).map fun z => cellT es k e z
theorem textsTo_succ (es : List En) (k e : Int) (zs : List Int) {j : Nat} (h : j < zs.length) : textsTo es k e zs (j + 1) = textsTo es k e zs j ++ [cellT es k e (zs[j]?.getD 0)] := by
  unfold textsTo
  rw [take_snoc h, List.map_append]
  rfl
theorem texts_join {es : List En} {k e : Int} {zs : List Int} {j : Nat} (h : zs.length ≤ j) : Lib.join ((textsTo es k e zs j).map (·.data.toList)) [44] = listT es k e zs := by
  unfold textsTo listT
  rw [List.take_of_length_le h, List.map_map]
  rfl
theorem lens_le (l : List ByteArray) (b : Nat) (h : ∀ s ∈ l, s.size ≤ b) : Lib.lens (l.map (·.data.toList)) ≤ l.length * b := by
  induction l with
  | nil => simp [Lib.lens]
  | cons x r ih =>
    have h1 := ih fun s hs => h s (List.mem_cons_of_mem _ hs)
    have h2 := h x List.mem_cons_self
    simp only [Lib.lens, List.map_cons, List.sum_cons, List.length_cons] at h1 ⊢
    have h3 : x.data.toList.length = x.size := by simp
    rw [Nat.succ_mul]
    omega
theorem join_le (l : List ByteArray) (b : Nat) (h : ∀ s ∈ l, s.size ≤ b) : (Lib.join (l.map (·.data.toList)) [44]).length ≤ l.length * (b + 1) := by
  cases l with
  | nil => simp [Lib.join_nil]
  | cons x r =>
    have h1 := lens_le (x :: r) b h
    rw [List.map_cons] at h1 ⊢
    rw [Lib.join_length, List.length_map]
    simp only [List.length_cons, List.length_nil] at h1 ⊢
    rw [Nat.mul_succ]
    omega
theorem wf_range {k : IntKind} {w : World} {B : Option Addr} {m d : Nat} {zs : List Int} (h : Rd .i64 w B m d zs) {z : Int} (hz : z ∈ zs) : -9223372036854775808 ≤ z ∧ z ≤ 9223372036854775807 := by
  have := h.2.2.2.1 z hz
  simpa [Lit.wf, IntKind.min, IntKind.max, IntKind.signed, IntKind.bits] using this
theorem listT_le {es : List En} {k e l : Int} {zs : List Int} (hc : CtShort es) (hr : rightVB es k e l zs = true) (hw : ∀ z ∈ zs, -9223372036854775808 ≤ z ∧ z ≤ 9223372036854775807) : (listT es k e zs).length ≤ 808 := by
  obtain ⟨hl, ho⟩ := rightV_at hr
  have hp := cellsN_pos l
  have h1 := join_le (zs.map fun z => cellT es k e z) 100 fun s hs => by
    obtain ⟨z, hz, rfl⟩ := List.mem_map.1 hs
    obtain ⟨j, hj, rfl⟩ := List.getElem_of_mem hz
    have := ho j hj
    unfold oneAt at this
    rw [List.getElem?_eq_getElem hj, Option.getD_some] at this
    exact cellT_size hc this (hw _ hz).1 (hw _ hz).2
  rw [List.map_map, List.length_map] at h1
  show (Lib.join _ _).length ≤ 808
  have : zs.length * (100 + 1) ≤ 8 * 101 := Nat.mul_le_mul_right _ (by omega)
  exact Nat.le_trans h1 this

theorem texts_own {w : World} {base : Nat} {e : TypeId} {v : Value} {n : Nat} {ss : List ByteArray} (h : w.ownsRow base e 1 v n (ss.map Value.string)) (hm : n ≤ 9223372036854775807) : ∃ A c, v = .slice A n c ∧ RdT w A n ss ∧ n ≤ c := by
  obtain ⟨A, c, hv, hR, _⟩ := RdT.of_own h hm
  refine ⟨A, c, hv, hR, ?_⟩
  subst hv
  rcases h.2 with ⟨h1, h2⟩ | ⟨g, cap, cur, h1, _, _, h2, _⟩
  · injection h1 with _ h3 h4
    omega
  · injection h1 with _ h3 h4
    omega

set_option maxRecDepth 100000 in
set_option maxHeartbeats 2000000 in
theorem valText_no (A : Option Addr) (n c : Nat) (es : List En) (B : Option Addr) (m d : Nat) (zs : List Int) (k e l : Int) (w : World) (hE : RdE w A n es) (hV : Rd .i64 w B m d zs) (hr : rightVB es k e l zs = false) :
    Calls Tryd.prog 18 #[.slice A n c, tyV k e l, .slice B m d] w fun r w' => r = .returned (.string (valT es k e l zs)) ∧ Below w.heap.size w w' := by
  have HB := Lib.hid ((Below.refl w.heap.size w).alloc (Nat.le_refl _) (.cells #[.int .i64 k, .int .i64 e, .int .i64 l] 24))
  have HE := Lib.hid (hE.alloc (.cells #[.int .i64 k, .int .i64 e, .int .i64 l] 24))
  have HV := Lib.hid (hV.alloc (.cells #[.int .i64 k, .int .i64 e, .int .i64 l] 24))
  have HRT := Lib.hid fun (W : World) (h1 : RdE W A n es) (h2 : Rd .i64 W B m d zs) => valRight A n c es B m d zs k e l W h1 h2
  rw [hr] at HRT
  have HT := Lib.hid (valT_no hr)
  unfold tyV at HRT ⊢
  clear hE hV hr
  go_enter Tryd.func18, Tryd.ntmps18
  go_wp2_with fail
  refine (HRT.out _ HE.out HV.out).mono ?_
  rintro r w1 ⟨rfl, hb1⟩
  have HB1 := Lib.hid (HB.out.trans (hb1.mono HB.out.size))
  clear hb1
  go_wp2_with fail
  go_ret
  exact ⟨ret_str HT.out.symm, HB1.out⟩

set_option maxRecDepth 100000 in
set_option maxHeartbeats 4000000 in
theorem valText_1 (A : Option Addr) (n c : Nat) (es : List En) (B : Option Addr) (m d : Nat) (zs : List Int) (e l : Int) (w : World) (hE : RdE w A n es) (hV : Rd .i64 w B m d zs) (hr : rightVB es 1 e l zs = true) (hcs : CtShort es) (hTab : Tab w) :
    Calls Tryd.prog 18 #[.slice A n c, tyV 1 e l, .slice B m d] w fun r w' => r = .returned (.string (valT es 1 e l zs)) ∧ Below w.heap.size w w' := by
  have HB := Lib.hid ((Below.refl w.heap.size w).alloc (Nat.le_refl _) (.cells #[.int .i64 1, .int .i64 e, .int .i64 l] 24))
  have HC3 := Lib.hid (cell3 w 24 (.int .i64 1) (.int .i64 e) (.int .i64 l))
  have HE := Lib.hid hE
  have HV := Lib.hid hV
  have HTB := Lib.hid hTab
  have hlen := hV.len
  have hmx := hV.max
  obtain ⟨hcl, hones⟩ := rightV_at hr
  have hp := cellsN_pos l
  have hm0 : 0 < m := by omega
  have hm8 : m ≤ 8 := by omega
  have HON := Lib.hid hones
  have HRT := Lib.hid fun (W : World) (h1 : RdE W A n es) (h2 : Rd .i64 W B m d zs) => valRight A n c es B m d zs 1 e l W h1 h2
  rw [hr] at HRT
  have HW := Lib.hid fun z hz => wf_range (k := .i64) hV (z := z) hz
  have HTL := Lib.hid fun (W : World) => teller1 A n c e l W
  have hLL := listT_le hcs hr HW.out
  have HR := Lib.hid hr
  obtain ⟨i0, hi, hz0, hz1, hz2⟩ := info_parts infoString
  unfold tyV at HRT HTL ⊢
  clear hE hV hTab hones hr hcl hp
  by_cases hl0 : l = 0
  · subst hl0
    have HT := Lib.hid (valT_one HR.out)
    obtain ⟨b, off, rfl, hb, hc⟩ := HV.out.at_ hm0
    have hv0 := hc 0 hm0
    rw [Nat.add_zero] at hv0
    clear hc
    have HX := Lib.hid (HON.out 0 (by omega))
    have HXW := Lib.hid (HW.out (zs[0]?.getD 0) (by rw [List.getElem?_eq_getElem (by omega)]; exact List.getElem_mem _))
    have HX2 := Lib.hid (show oneB es 1 e 0 (zs[0]?.getD 0) = true from HX.out)
    generalize zs[0]?.getD 0 = x at hv0 HXW HT HX2
    clear HX
    go_enter Tryd.func18, Tryd.ntmps18
    go_wp2_with fail
    refine (HRT.out _ (HE.out.below HB.out) (HV.out.below HB.out)).mono ?_
    rintro r w1 ⟨rfl, hb1⟩
    have hws1 : w.heap.size < w1.heap.size := by have := hb1.size; simp at this; omega
    have p0 := (hb1.cell (p := ⟨w.heap.size, 0, none⟩) (by simp)).trans HC3.out.1
    have p1 := (hb1.cell (p := ⟨w.heap.size, 1, none⟩) (by simp)).trans HC3.out.2.1
    have p2 := (hb1.cell (p := ⟨w.heap.size, 2, none⟩) (by simp)).trans HC3.out.2.2
    have HB1 := Lib.hid (HB.out.trans (hb1.mono HB.out.size))
    clear hb1
    go_wp2_with fail
    refine (HTL.out _).mono ?_
    rintro r w2 ⟨rfl, hb2⟩
    have q0 := (hb2.cell (p := ⟨w.heap.size, 0, none⟩) hws1).trans p0
    have q1 := (hb2.cell (p := ⟨w.heap.size, 1, none⟩) hws1).trans p1
    have q2 := (hb2.cell (p := ⟨w.heap.size, 2, none⟩) hws1).trans p2
    have HB2 := Lib.hid (HB1.out.trans (hb2.mono HB1.out.size))
    have hv2 := (HB2.out.cell (p := ⟨b, off, none⟩) hb).trans hv0
    clear hb2 p0 p1 p2
    go_wp2_with fail
    refine (tell1 es e x HXW.out.1 HXW.out.2 _ (HTB.out.below HB2.out)).mono ?_
    rintro r w3 ⟨rfl, hb3⟩
    have HB3 := Lib.hid (HB2.out.trans (hb3.mono HB2.out.size))
    clear hb3
    go_wp2_with fail
    go_ret
    exact ⟨ret_str HT.out.symm, HB3.out⟩
  · have HT := Lib.hid (valT_many HR.out hl0)
    have hlb : (l == 0) = false := by simpa using hl0
    clear hl0
    go_enter Tryd.func18, Tryd.ntmps18
    go_wp2_with fail
    refine (HRT.out _ (HE.out.below HB.out) (HV.out.below HB.out)).mono ?_
    rintro r w1 ⟨rfl, hb1⟩
    have hws1 : w.heap.size < w1.heap.size := by have := hb1.size; simp at this; omega
    have p0 := (hb1.cell (p := ⟨w.heap.size, 0, none⟩) (by simp)).trans HC3.out.1
    have p1 := (hb1.cell (p := ⟨w.heap.size, 1, none⟩) (by simp)).trans HC3.out.2.1
    have p2 := (hb1.cell (p := ⟨w.heap.size, 2, none⟩) (by simp)).trans HC3.out.2.2
    have HB1 := Lib.hid (HB.out.trans (hb1.mono HB.out.size))
    clear hb1
    go_wp2_with fail
    refine (HTL.out _).mono ?_
    rintro r w2 ⟨rfl, hb2⟩
    have q2 := (hb2.cell (p := ⟨w.heap.size, 2, none⟩) hws1).trans p2
    have HB2 := Lib.hid (HB1.out.trans (hb2.mono HB1.out.size))
    clear hb2 p0 p1 p2
    have HV2 := Lib.hid (HV.out.below HB2.out)
    have HT2 := Lib.hid (HTB.out.below HB2.out)
    go_wp2_with fail
    go_loopw [8, 29] (fun v i wr => ∃ j : Nat, j ≤ m ∧ i = .int .i64 j ∧ wr.ownsRow w2.heap.size 9 1 v j ((textsTo es 1 e zs j).map Value.string) ∧ Below w2.heap.size w2 wr) (fun _ i _ => m - (intOf i).toNat)
    case atStart => exact ⟨0, Nat.zero_le _, rfl, World.ownsRow_nil _ _ _ _, Below.refl _ _⟩
    case round =>
      obtain ⟨j, hj, rfl, hown, hnx⟩ := hrel
      have HO := Lib.hid hown
      have HNX := Lib.hid hnx
      have hwz := hnx.size
      clear hown
      by_cases hlt : j < m
      · obtain ⟨b, off, rfl, hb, hc⟩ := rd_cell HV2.out hlt
        have hck := (hnx.cell (p := ⟨b, off + j, none⟩) hb).trans hc
        clear hc hnx
        have HS := Lib.hid (textsTo_succ es 1 e zs (j := j) (by omega))
        have HX2 := Lib.hid (show oneB es 1 e l (zs[j]?.getD 0) = true from HON.out j (by omega))
        have HXW := Lib.hid (HW.out (zs[j]?.getD 0) (by rw [List.getElem?_eq_getElem (by omega)]; exact List.getElem_mem _))
        generalize zs[j]?.getD 0 = x at hck HXW HS HX2
        go_wp2_with fail
        refine (tell1 es e x HXW.out.1 HXW.out.2 _ (HT2.out.below HNX.out)).mono ?_
        rintro r W3 ⟨rfl, hb3⟩
        have HBC := Lib.hid hb3
        clear hb3
        have HO3 := Lib.hid (ownsRow_below HO.out HBC.out)
        have HNX3 := Lib.hid (HNX.out.trans (HBC.out.mono HNX.out.size))
        have hw3 := HNX3.out.size
        generalize cellT es 1 e x = y at HS ⊢
        go_wp2_with (at_builtin; refine wpList_append_own_at _ rfl _ _ 38 rfl w2.heap.size 9 i0 (.string ByteArray.empty) 1 16 Tryd.underlying38 hi hz0 hz1 hz2 rfl (by decide) _ _ _ rfl (HO3.out.alloc _) ⟨W3.heap.size, 0, none⟩ 1 1 [.string y] rfl rfl (cell_one_new _ _ _) (string_cells [y]) (by unfold maxLen; omega) (by omega) (by simp; omega) ?_; intro v' w4 hown' hgrow hnil hloc; have hB4 := (HNX3.out.alloc HNX3.out.size (.cells #[.string y] 9)).grown hgrow (by simp; omega) (fun j hj => (HO3.out.lt j hj).1); have HO4 := Lib.hid hown'; have HB4 := Lib.hid hB4; clear hgrow hown' hnil hloc hB4)
        go_wp2_with fail
        go_roundw
        case rel =>
          refine ⟨j + 1, by omega, by go_num, ?_, HB4.out⟩
          rw [HS.out]
          have := HO4.out
          simpa using this
        case measure => simp [intOf]; omega
      · obtain rfl : j = m := by omega
        obtain ⟨A4, c4, rfl, hR4, hnc⟩ := texts_own HO.out hmx
        have HJ := Lib.hid (texts_join (es := es) (k := 1) (e := e) (zs := zs) (j := j) (by omega))
        have HJN := Lib.hid fun (W : World) (h : RdT W A4 j (textsTo es 1 e zs j)) => libJoin A4 j c4 (textsTo es 1 e zs j) ⟨#[44]⟩ W h hnc (by omega) (by show (Lib.join _ [44]).length ≤ _; rw [HJ.out]; omega)
        have HR4 := Lib.hid hR4
        rw [show (⟨#[44]⟩ : ByteArray).data.toList = [44] from rfl, HJ.out] at HJN
        clear hR4 hnc HJ
        have hzz : (⟨(listT es 1 e zs).toArray⟩ : ByteArray).size ≤ 808 := by show ((listT es 1 e zs).toArray).size ≤ 808; simpa using hLL
        generalize (⟨(listT es 1 e zs).toArray⟩ : ByteArray) = x at HJN HT hzz
        have z1 : (9223372036854775807 < 1 + x.size) = False := by rw [eq_iff_iff, iff_false]; omega
        have z2 : (9223372036854775807 < 1 + x.size + 1) = False := by rw [eq_iff_iff, iff_false]; omega
        go_wp2_with fail
        refine (HJN.out _ HR4.out).mono ?_
        rintro r w5 ⟨rfl, hb5⟩
        have HB5 := Lib.hid (HB2.out.trans ((HNX.out.trans (hb5.mono HNX.out.size)).mono HB2.out.size))
        clear hb5
        go_wp2_with fail
        go_ret
        exact ⟨ret_str HT.out.symm, HB5.out⟩

set_option maxRecDepth 100000 in
set_option maxHeartbeats 4000000 in
theorem valText_2 (A : Option Addr) (n c : Nat) (es : List En) (B : Option Addr) (m d : Nat) (zs : List Int) (e l : Int) (w : World) (hE : RdE w A n es) (hV : Rd .i64 w B m d zs) (hr : rightVB es 2 e l zs = true) (hcs : CtShort es) (hTab : Tab w) :
    Calls Tryd.prog 18 #[.slice A n c, tyV 2 e l, .slice B m d] w fun r w' => r = .returned (.string (valT es 2 e l zs)) ∧ Below w.heap.size w w' := by
  have HB := Lib.hid ((Below.refl w.heap.size w).alloc (Nat.le_refl _) (.cells #[.int .i64 2, .int .i64 e, .int .i64 l] 24))
  have HC3 := Lib.hid (cell3 w 24 (.int .i64 2) (.int .i64 e) (.int .i64 l))
  have HE := Lib.hid hE
  have HV := Lib.hid hV
  have HTB := Lib.hid hTab
  have hlen := hV.len
  have hmx := hV.max
  obtain ⟨hcl, hones⟩ := rightV_at hr
  have hp := cellsN_pos l
  have hm0 : 0 < m := by omega
  have hm8 : m ≤ 8 := by omega
  have HON := Lib.hid hones
  have HRT := Lib.hid fun (W : World) (h1 : RdE W A n es) (h2 : Rd .i64 W B m d zs) => valRight A n c es B m d zs 2 e l W h1 h2
  rw [hr] at HRT
  have HW := Lib.hid fun z hz => wf_range (k := .i64) hV (z := z) hz
  have HTL := Lib.hid fun (W : World) => teller2 A n c e l W
  have hLL := listT_le hcs hr HW.out
  have HR := Lib.hid hr
  obtain ⟨i0, hi, hz0, hz1, hz2⟩ := info_parts infoString
  unfold tyV at HRT HTL ⊢
  clear hE hV hTab hones hr hcl hp
  by_cases hl0 : l = 0
  · subst hl0
    have HT := Lib.hid (valT_one HR.out)
    obtain ⟨b, off, rfl, hb, hc⟩ := HV.out.at_ hm0
    have hv0 := hc 0 hm0
    rw [Nat.add_zero] at hv0
    clear hc
    have HX := Lib.hid (HON.out 0 (by omega))
    have HXW := Lib.hid (HW.out (zs[0]?.getD 0) (by rw [List.getElem?_eq_getElem (by omega)]; exact List.getElem_mem _))
    have HX2 := Lib.hid (show oneB es 2 e 0 (zs[0]?.getD 0) = true from HX.out)
    generalize zs[0]?.getD 0 = x at hv0 HXW HT HX2
    clear HX
    go_enter Tryd.func18, Tryd.ntmps18
    go_wp2_with fail
    refine (HRT.out _ (HE.out.below HB.out) (HV.out.below HB.out)).mono ?_
    rintro r w1 ⟨rfl, hb1⟩
    have hws1 : w.heap.size < w1.heap.size := by have := hb1.size; simp at this; omega
    have p0 := (hb1.cell (p := ⟨w.heap.size, 0, none⟩) (by simp)).trans HC3.out.1
    have p1 := (hb1.cell (p := ⟨w.heap.size, 1, none⟩) (by simp)).trans HC3.out.2.1
    have p2 := (hb1.cell (p := ⟨w.heap.size, 2, none⟩) (by simp)).trans HC3.out.2.2
    have HB1 := Lib.hid (HB.out.trans (hb1.mono HB.out.size))
    clear hb1
    go_wp2_with fail
    refine (HTL.out _).mono ?_
    rintro r w2 ⟨rfl, hb2⟩
    have q0 := (hb2.cell (p := ⟨w.heap.size, 0, none⟩) hws1).trans p0
    have q1 := (hb2.cell (p := ⟨w.heap.size, 1, none⟩) hws1).trans p1
    have q2 := (hb2.cell (p := ⟨w.heap.size, 2, none⟩) hws1).trans p2
    have HB2 := Lib.hid (HB1.out.trans (hb2.mono HB1.out.size))
    have hv2 := (HB2.out.cell (p := ⟨b, off, none⟩) hb).trans hv0
    clear hb2 p0 p1 p2
    go_wp2_with fail
    refine (tell2 es e x _).mono ?_
    rintro r w3 ⟨rfl, rfl⟩
    have HB3 := HB2
    go_wp2_with fail
    go_ret
    exact ⟨ret_str HT.out.symm, HB3.out⟩
  · have HT := Lib.hid (valT_many HR.out hl0)
    have hlb : (l == 0) = false := by simpa using hl0
    clear hl0
    go_enter Tryd.func18, Tryd.ntmps18
    go_wp2_with fail
    refine (HRT.out _ (HE.out.below HB.out) (HV.out.below HB.out)).mono ?_
    rintro r w1 ⟨rfl, hb1⟩
    have hws1 : w.heap.size < w1.heap.size := by have := hb1.size; simp at this; omega
    have p0 := (hb1.cell (p := ⟨w.heap.size, 0, none⟩) (by simp)).trans HC3.out.1
    have p1 := (hb1.cell (p := ⟨w.heap.size, 1, none⟩) (by simp)).trans HC3.out.2.1
    have p2 := (hb1.cell (p := ⟨w.heap.size, 2, none⟩) (by simp)).trans HC3.out.2.2
    have HB1 := Lib.hid (HB.out.trans (hb1.mono HB.out.size))
    clear hb1
    go_wp2_with fail
    refine (HTL.out _).mono ?_
    rintro r w2 ⟨rfl, hb2⟩
    have q2 := (hb2.cell (p := ⟨w.heap.size, 2, none⟩) hws1).trans p2
    have HB2 := Lib.hid (HB1.out.trans (hb2.mono HB1.out.size))
    clear hb2 p0 p1 p2
    have HV2 := Lib.hid (HV.out.below HB2.out)
    have HT2 := Lib.hid (HTB.out.below HB2.out)
    go_wp2_with fail
    go_loopw [8, 29] (fun v i wr => ∃ j : Nat, j ≤ m ∧ i = .int .i64 j ∧ wr.ownsRow w2.heap.size 9 1 v j ((textsTo es 2 e zs j).map Value.string) ∧ Below w2.heap.size w2 wr) (fun _ i _ => m - (intOf i).toNat)
    case atStart => exact ⟨0, Nat.zero_le _, rfl, World.ownsRow_nil _ _ _ _, Below.refl _ _⟩
    case round =>
      obtain ⟨j, hj, rfl, hown, hnx⟩ := hrel
      have HO := Lib.hid hown
      have HNX := Lib.hid hnx
      have hwz := hnx.size
      clear hown
      by_cases hlt : j < m
      · obtain ⟨b, off, rfl, hb, hc⟩ := rd_cell HV2.out hlt
        have hck := (hnx.cell (p := ⟨b, off + j, none⟩) hb).trans hc
        clear hc hnx
        have HS := Lib.hid (textsTo_succ es 2 e zs (j := j) (by omega))
        have HX2 := Lib.hid (show oneB es 2 e l (zs[j]?.getD 0) = true from HON.out j (by omega))
        have HXW := Lib.hid (HW.out (zs[j]?.getD 0) (by rw [List.getElem?_eq_getElem (by omega)]; exact List.getElem_mem _))
        generalize zs[j]?.getD 0 = x at hck HXW HS HX2
        go_wp2_with fail
        refine (tell2 es e x _).mono ?_
        rintro r W3 ⟨rfl, hw3⟩
        have HBC : Hid (Below wr.heap.size wr W3) := Lib.hid (hw3 ▸ Below.refl _ _)
        clear hw3
        have HO3 := Lib.hid (ownsRow_below HO.out HBC.out)
        have HNX3 := Lib.hid (HNX.out.trans (HBC.out.mono HNX.out.size))
        have hw3 := HNX3.out.size
        generalize cellT es 2 e x = y at HS ⊢
        go_wp2_with (at_builtin; refine wpList_append_own_at _ rfl _ _ 38 rfl w2.heap.size 9 i0 (.string ByteArray.empty) 1 16 Tryd.underlying38 hi hz0 hz1 hz2 rfl (by decide) _ _ _ rfl (HO3.out.alloc _) ⟨W3.heap.size, 0, none⟩ 1 1 [.string y] rfl rfl (cell_one_new _ _ _) (string_cells [y]) (by unfold maxLen; omega) (by omega) (by simp; omega) ?_; intro v' w4 hown' hgrow hnil hloc; have hB4 := (HNX3.out.alloc HNX3.out.size (.cells #[.string y] 9)).grown hgrow (by simp; omega) (fun j hj => (HO3.out.lt j hj).1); have HO4 := Lib.hid hown'; have HB4 := Lib.hid hB4; clear hgrow hown' hnil hloc hB4)
        go_wp2_with fail
        go_roundw
        case rel =>
          refine ⟨j + 1, by omega, by go_num, ?_, HB4.out⟩
          rw [HS.out]
          have := HO4.out
          simpa using this
        case measure => simp [intOf]; omega
      · obtain rfl : j = m := by omega
        obtain ⟨A4, c4, rfl, hR4, hnc⟩ := texts_own HO.out hmx
        have HJ := Lib.hid (texts_join (es := es) (k := 2) (e := e) (zs := zs) (j := j) (by omega))
        have HJN := Lib.hid fun (W : World) (h : RdT W A4 j (textsTo es 2 e zs j)) => libJoin A4 j c4 (textsTo es 2 e zs j) ⟨#[44]⟩ W h hnc (by omega) (by show (Lib.join _ [44]).length ≤ _; rw [HJ.out]; omega)
        have HR4 := Lib.hid hR4
        rw [show (⟨#[44]⟩ : ByteArray).data.toList = [44] from rfl, HJ.out] at HJN
        clear hR4 hnc HJ
        have hzz : (⟨(listT es 2 e zs).toArray⟩ : ByteArray).size ≤ 808 := by show ((listT es 2 e zs).toArray).size ≤ 808; simpa using hLL
        generalize (⟨(listT es 2 e zs).toArray⟩ : ByteArray) = x at HJN HT hzz
        have z1 : (9223372036854775807 < 1 + x.size) = False := by rw [eq_iff_iff, iff_false]; omega
        have z2 : (9223372036854775807 < 1 + x.size + 1) = False := by rw [eq_iff_iff, iff_false]; omega
        go_wp2_with fail
        refine (HJN.out _ HR4.out).mono ?_
        rintro r w5 ⟨rfl, hb5⟩
        have HB5 := Lib.hid (HB2.out.trans ((HNX.out.trans (hb5.mono HNX.out.size)).mono HB2.out.size))
        clear hb5
        go_wp2_with fail
        go_ret
        exact ⟨ret_str HT.out.symm, HB5.out⟩

set_option maxRecDepth 100000 in
set_option maxHeartbeats 4000000 in
theorem valText_3 (A : Option Addr) (n c : Nat) (es : List En) (B : Option Addr) (m d : Nat) (zs : List Int) (q : Nat) (l : Int) (w : World) (hE : RdE w A n es) (hV : Rd .i64 w B m d zs) (hr : rightVB es 3 (q : Int) l zs = true) (hcs : CtShort es) (hTab : Tab w) (hq : q < n) :
    Calls Tryd.prog 18 #[.slice A n c, tyV 3 (q : Int) l, .slice B m d] w fun r w' => r = .returned (.string (valT es 3 (q : Int) l zs)) ∧ Below w.heap.size w w' := by
  have HB := Lib.hid ((Below.refl w.heap.size w).alloc (Nat.le_refl _) (.cells #[.int .i64 3, .int .i64 (q : Int), .int .i64 l] 24))
  have HC3 := Lib.hid (cell3 w 24 (.int .i64 3) (.int .i64 (q : Int)) (.int .i64 l))
  have HE := Lib.hid hE
  have HV := Lib.hid hV
  have HTB := Lib.hid hTab
  have hlen := hV.len
  have hmx := hV.max
  obtain ⟨hcl, hones⟩ := rightV_at hr
  have hp := cellsN_pos l
  have hm0 : 0 < m := by omega
  have hm8 : m ≤ 8 := by omega
  have HON := Lib.hid hones
  have HRT := Lib.hid fun (W : World) (h1 : RdE W A n es) (h2 : Rd .i64 W B m d zs) => valRight A n c es B m d zs 3 (q : Int) l W h1 h2
  rw [hr] at HRT
  have HW := Lib.hid fun z hz => wf_range (k := .i64) hV (z := z) hz
  have HTL := Lib.hid fun (W : World) (h : RdE W A n es) => teller3 A n c es q l W h hq
  have hLL := listT_le hcs hr HW.out
  have HR := Lib.hid hr
  obtain ⟨i0, hi, hz0, hz1, hz2⟩ := info_parts infoString
  unfold tyV at HRT HTL ⊢
  clear hE hV hTab hones hr hcl hp
  by_cases hl0 : l = 0
  · subst hl0
    have HT := Lib.hid (valT_one HR.out)
    obtain ⟨b, off, rfl, hb, hc⟩ := HV.out.at_ hm0
    have hv0 := hc 0 hm0
    rw [Nat.add_zero] at hv0
    clear hc
    have HX := Lib.hid (HON.out 0 (by omega))
    have HXW := Lib.hid (HW.out (zs[0]?.getD 0) (by rw [List.getElem?_eq_getElem (by omega)]; exact List.getElem_mem _))
    have HX2 := Lib.hid (show oneB es 3 (q : Int) 0 (zs[0]?.getD 0) = true from HX.out)
    generalize zs[0]?.getD 0 = x at hv0 HXW HT HX2
    clear HX
    go_enter Tryd.func18, Tryd.ntmps18
    go_wp2_with fail
    refine (HRT.out _ (HE.out.below HB.out) (HV.out.below HB.out)).mono ?_
    rintro r w1 ⟨rfl, hb1⟩
    have hws1 : w.heap.size < w1.heap.size := by have := hb1.size; simp at this; omega
    have p0 := (hb1.cell (p := ⟨w.heap.size, 0, none⟩) (by simp)).trans HC3.out.1
    have p1 := (hb1.cell (p := ⟨w.heap.size, 1, none⟩) (by simp)).trans HC3.out.2.1
    have p2 := (hb1.cell (p := ⟨w.heap.size, 2, none⟩) (by simp)).trans HC3.out.2.2
    have HB1 := Lib.hid (HB.out.trans (hb1.mono HB.out.size))
    clear hb1
    go_wp2_with fail
    refine (HTL.out _ (HE.out.below HB1.out)).mono ?_
    rintro r w2 ⟨Bk, A', n', c', rfl, hbk0, hbk1, hbc, hR, hb2⟩
    have HRC := Lib.hid hR
    have hcn := hR.len
    clear hR
    have q0 := (hb2.cell (p := ⟨w.heap.size, 0, none⟩) hws1).trans p0
    have q1 := (hb2.cell (p := ⟨w.heap.size, 1, none⟩) hws1).trans p1
    have q2 := (hb2.cell (p := ⟨w.heap.size, 2, none⟩) hws1).trans p2
    have HB2 := Lib.hid (HB1.out.trans (hb2.mono HB1.out.size))
    have hv2 := (HB2.out.cell (p := ⟨b, off, none⟩) hb).trans hv0
    clear hb2 p0 p1 p2
    obtain ⟨p, rfl, hpn⟩ : ∃ p : Nat, x = p ∧ p < (csE es q).length := by
      rcases one_cases HX2.out with h | ⟨h, _⟩ | ⟨_, m', q', h1, _, h2, h3⟩
      · cases h
      · cases h
      · obtain rfl : q = m' := by omega
        exact ⟨q', h2, h3⟩
    rw [cellT_ctor] at HT
    go_wp2_with fail
    refine (tell3 Bk A' n' c' (csE es q) p _ hbc HRC.out (by omega)).mono ?_
    rintro r w3 ⟨rfl, rfl⟩
    have HB3 := HB2
    go_wp2_with fail
    go_ret
    exact ⟨ret_str HT.out.symm, HB3.out⟩
  · have HT := Lib.hid (valT_many HR.out hl0)
    have hlb : (l == 0) = false := by simpa using hl0
    clear hl0
    go_enter Tryd.func18, Tryd.ntmps18
    go_wp2_with fail
    refine (HRT.out _ (HE.out.below HB.out) (HV.out.below HB.out)).mono ?_
    rintro r w1 ⟨rfl, hb1⟩
    have hws1 : w.heap.size < w1.heap.size := by have := hb1.size; simp at this; omega
    have p0 := (hb1.cell (p := ⟨w.heap.size, 0, none⟩) (by simp)).trans HC3.out.1
    have p1 := (hb1.cell (p := ⟨w.heap.size, 1, none⟩) (by simp)).trans HC3.out.2.1
    have p2 := (hb1.cell (p := ⟨w.heap.size, 2, none⟩) (by simp)).trans HC3.out.2.2
    have HB1 := Lib.hid (HB.out.trans (hb1.mono HB.out.size))
    clear hb1
    go_wp2_with fail
    refine (HTL.out _ (HE.out.below HB1.out)).mono ?_
    rintro r w2 ⟨Bk, A', n', c', rfl, hbk0, hbk1, hbc, hR, hb2⟩
    have HRC := Lib.hid hR
    have hcn := hR.len
    clear hR
    have q2 := (hb2.cell (p := ⟨w.heap.size, 2, none⟩) hws1).trans p2
    have HB2 := Lib.hid (HB1.out.trans (hb2.mono HB1.out.size))
    clear hb2 p0 p1 p2
    have HV2 := Lib.hid (HV.out.below HB2.out)
    have HT2 := Lib.hid (HTB.out.below HB2.out)
    go_wp2_with fail
    go_loopw [8, 29] (fun v i wr => ∃ j : Nat, j ≤ m ∧ i = .int .i64 j ∧ wr.ownsRow w2.heap.size 9 1 v j ((textsTo es 3 (q : Int) zs j).map Value.string) ∧ Below w2.heap.size w2 wr) (fun _ i _ => m - (intOf i).toNat)
    case atStart => exact ⟨0, Nat.zero_le _, rfl, World.ownsRow_nil _ _ _ _, Below.refl _ _⟩
    case round =>
      obtain ⟨j, hj, rfl, hown, hnx⟩ := hrel
      have HO := Lib.hid hown
      have HNX := Lib.hid hnx
      have hwz := hnx.size
      clear hown
      by_cases hlt : j < m
      · obtain ⟨b, off, rfl, hb, hc⟩ := rd_cell HV2.out hlt
        have hck := (hnx.cell (p := ⟨b, off + j, none⟩) hb).trans hc
        clear hc hnx
        have HS := Lib.hid (textsTo_succ es 3 (q : Int) zs (j := j) (by omega))
        have HX2 := Lib.hid (show oneB es 3 (q : Int) l (zs[j]?.getD 0) = true from HON.out j (by omega))
        have HXW := Lib.hid (HW.out (zs[j]?.getD 0) (by rw [List.getElem?_eq_getElem (by omega)]; exact List.getElem_mem _))
        generalize zs[j]?.getD 0 = x at hck HXW HS HX2
        obtain ⟨p, rfl, hpn⟩ : ∃ p : Nat, x = p ∧ p < (csE es q).length := by
          rcases one_cases HX2.out with h | ⟨h, _⟩ | ⟨_, m', q', h1, _, h2, h3⟩
          · cases h
          · cases h
          · obtain rfl : q = m' := by omega
            exact ⟨q', h2, h3⟩
        rw [cellT_ctor] at HS
        have hbw := (HNX.out.cell (p := ⟨Bk, 0, none⟩) hbk1).trans hbc
        go_wp2_with fail
        refine (tell3 Bk A' n' c' (csE es q) p _ hbw (HRC.out.below HNX.out) (by omega)).mono ?_
        rintro r W3 ⟨rfl, hw3⟩
        have HBC : Hid (Below wr.heap.size wr W3) := Lib.hid (hw3 ▸ Below.refl _ _)
        clear hw3
        rw [show (csE es q)[p]?.getD ByteArray.empty = ctAt es q p from rfl]
        have HO3 := Lib.hid (ownsRow_below HO.out HBC.out)
        have HNX3 := Lib.hid (HNX.out.trans (HBC.out.mono HNX.out.size))
        have hw3 := HNX3.out.size
        generalize ctAt es q p = y at HS ⊢
        go_wp2_with (at_builtin; refine wpList_append_own_at _ rfl _ _ 38 rfl w2.heap.size 9 i0 (.string ByteArray.empty) 1 16 Tryd.underlying38 hi hz0 hz1 hz2 rfl (by decide) _ _ _ rfl (HO3.out.alloc _) ⟨W3.heap.size, 0, none⟩ 1 1 [.string y] rfl rfl (cell_one_new _ _ _) (string_cells [y]) (by unfold maxLen; omega) (by omega) (by simp; omega) ?_; intro v' w4 hown' hgrow hnil hloc; have hB4 := (HNX3.out.alloc HNX3.out.size (.cells #[.string y] 9)).grown hgrow (by simp; omega) (fun j hj => (HO3.out.lt j hj).1); have HO4 := Lib.hid hown'; have HB4 := Lib.hid hB4; clear hgrow hown' hnil hloc hB4)
        go_wp2_with fail
        go_roundw
        case rel =>
          refine ⟨j + 1, by omega, by go_num, ?_, HB4.out⟩
          rw [HS.out]
          have := HO4.out
          simpa using this
        case measure => simp [intOf]; omega
      · obtain rfl : j = m := by omega
        obtain ⟨A4, c4, rfl, hR4, hnc⟩ := texts_own HO.out hmx
        have HJ := Lib.hid (texts_join (es := es) (k := 3) (e := (q : Int)) (zs := zs) (j := j) (by omega))
        have HJN := Lib.hid fun (W : World) (h : RdT W A4 j (textsTo es 3 (q : Int) zs j)) => libJoin A4 j c4 (textsTo es 3 (q : Int) zs j) ⟨#[44]⟩ W h hnc (by omega) (by show (Lib.join _ [44]).length ≤ _; rw [HJ.out]; omega)
        have HR4 := Lib.hid hR4
        rw [show (⟨#[44]⟩ : ByteArray).data.toList = [44] from rfl, HJ.out] at HJN
        clear hR4 hnc HJ
        have hzz : (⟨(listT es 3 (q : Int) zs).toArray⟩ : ByteArray).size ≤ 808 := by show ((listT es 3 (q : Int) zs).toArray).size ≤ 808; simpa using hLL
        generalize (⟨(listT es 3 (q : Int) zs).toArray⟩ : ByteArray) = x at HJN HT hzz
        have z1 : (9223372036854775807 < 1 + x.size) = False := by rw [eq_iff_iff, iff_false]; omega
        have z2 : (9223372036854775807 < 1 + x.size + 1) = False := by rw [eq_iff_iff, iff_false]; omega
        go_wp2_with fail
        refine (HJN.out _ HR4.out).mono ?_
        rintro r w5 ⟨rfl, hb5⟩
        have HB5 := Lib.hid (HB2.out.trans ((HNX.out.trans (hb5.mono HNX.out.size)).mono HB2.out.size))
        clear hb5
        go_wp2_with fail
        go_ret
        exact ⟨ret_str HT.out.symm, HB5.out⟩

theorem valText (A : Option Addr) (n c : Nat) (es : List En) (B : Option Addr) (m d : Nat) (zs : List Int) (k e l : Int) (w : World) (hE : RdE w A n es) (hV : Rd .i64 w B m d zs) (hcs : CtShort es) (hTab : Tab w) :
    Calls Tryd.prog 18 #[.slice A n c, tyV k e l, .slice B m d] w fun r w' => r = .returned (.string (valT es k e l zs)) ∧ Below w.heap.size w w' := by
  cases hr : rightVB es k e l zs with
  | false => exact valText_no A n c es B m d zs k e l w hE hV hr
  | true =>
    obtain ⟨_, hk⟩ := right_cases (rightV_right hr)
    rcases hk with rfl | rfl | ⟨rfl, q, rfl, hq⟩
    · exact valText_1 A n c es B m d zs e l w hE hV hr hcs hTab
    · exact valText_2 A n c es B m d zs e l w hE hV hr hcs hTab
    · exact valText_3 A n c es B m d zs q l w hE hV hr hcs hTab (by have := hE.len; omega)
end Go.Proofs.YtdnmnfpcgbbplaaDoor
