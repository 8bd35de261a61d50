/- The texts of types: of both texts. Conditions: none. -/
import Derived.Test.YtccpihpfpobjpaaDoorTyR
import Derived.Test.YtccpihpfpobjpaaDoorApp
import Derived.Lib.Walk
import Derived.Deep.RegionHeld3
namespace Go.Proofs.YtccpihpfpobjpaaDoor
open Go.RowKit
set_option linter.unusedVariables false

def intT : ByteArray := ⟨#[105, 110, 116]⟩
def boolT : ByteArray := ⟨#[98, 111, 111, 108]⟩
/-- A number below ten, as a digit. -/
def digS (l : Int) : ByteArray := ⟨#[(48 + l).toNat.toUInt8]⟩
def baseE (es : List En) (k e : Int) : ByteArray := if k = 1 then intT else if k = 2 then boolT else nmE es e.toNat
def textE (es : List En) (k e l : Int) : ByteArray :=
  if rightB es.length k e l = true then (if l = 0 then baseE es k e else baseE es k e ++ (⟨#[91]⟩ : ByteArray) ++ digS l ++ (⟨#[93]⟩ : ByteArray)) else ⟨#[]⟩

theorem ret_str {a b : ByteArray} (h : a = b) : Ending.returned (.string a) = .returned (.string b) := by rw [h]

set_option maxRecDepth 100000 in
set_option maxHeartbeats 2000000 in
theorem itoaSmall (l : Int) (w : World) (h0 : 0 ≤ l) (h9 : l < 10) :
    Calls Tryd.prog 51 #[.int .i64 l] w fun r w' => r = .returned (.string (digS l)) ∧ w = w' := by
  have h1 : IntKind.i64.wrap (l + 1) = l + 1 := IntWalk.i64_in _ (by omega)
  go_enter Tryd.func51, Tryd.ntmps51
  go_wp2_with fail
  go_ret
  refine ⟨ret_str ?_, rfl⟩
  rcases (show l = 0 ∨ l = 1 ∨ l = 2 ∨ l = 3 ∨ l = 4 ∨ l = 5 ∨ l = 6 ∨ l = 7 ∨ l = 8 ∨ l = 9 by omega) with h | h | h | h | h | h | h | h | h | h <;> subst h <;> first | rfl | decide

set_option maxRecDepth 100000 in
set_option maxHeartbeats 2000000 in
theorem itoaAny (l : Int) (w : World) (h0 : 0 ≤ l) (h9 : l < 10) :
    Calls Tryd.prog 32 #[.int .i64 l] w fun r w' => r = .returned (.string (digS l)) ∧ w = w' := by
  have h99 : l < 100 := by omega
  have c1 : Calls Tryd.prog 49 #[.int .i64 l, .int .i64 10] w fun r w' => r = .returned (.string (digS l)) ∧ w = w' := by
    go_enter Tryd.func49, Tryd.ntmps49
    go_wp2_with fail
    refine (itoaSmall l _ h0 h9).mono ?_
    rintro e w1 ⟨rfl, rfl⟩
    go_wp2_with fail
    go_ret
    exact ⟨rfl, rfl⟩
  have c2 : Calls Tryd.prog 41 #[.int .i64 l] w fun r w' => r = .returned (.string (digS l)) ∧ w = w' := by
    go_enter Tryd.func41, Tryd.ntmps41
    go_wp2_with fail
    refine c1.mono ?_
    rintro e w1 ⟨rfl, rfl⟩
    go_wp2_with fail
    go_ret
    exact ⟨rfl, rfl⟩
  go_enter Tryd.func32, Tryd.ntmps32
  go_wp2_with fail
  refine c2.mono ?_
  rintro e w1 ⟨rfl, rfl⟩
  go_wp2_with fail
  go_ret
  exact ⟨rfl, rfl⟩

/-- What a right type's kind is, and, of an enum, its place. -/
theorem right_cases {n : Nat} {k e l : Int} (h : rightB n k e l = true) : (0 ≤ l ∧ l ≤ 8) ∧ (k = 1 ∨ k = 2 ∨ (k = 3 ∧ ∃ m : Nat, e = m ∧ m < n)) := by
  simp only [rightB, Bool.and_eq_true, decide_eq_true_eq] at h
  obtain ⟨h1, h2⟩ := h
  refine ⟨h1, ?_⟩
  split at h2
  · rename_i hk
    rcases hk with h | h
    · exact .inl h
    · exact .inr (.inl h)
  · simp at h2
    exact .inr (.inr ⟨h2.1, e.toNat, by omega, by omega⟩)

set_option maxHeartbeats 2000000 in
theorem tySingle (A : Option Addr) (n c : Nat) (es : List En) (k e l : Int) (w : World) (hE : RdE w A n es) (hr : rightB es.length k e l = true) :
    Calls Tryd.prog 31 #[.slice A n c, tyV k e l] w fun r w' => r = .returned (.string (baseE es k e)) ∧ Below w.heap.size w w' := by
  unfold tyV
  have HB := Lib.hid ((Below.refl w.heap.size w).alloc (Nat.le_refl _) (.cells #[.int .i64 k, .int .i64 e, .int .i64 l] 30))
  obtain ⟨_, hk⟩ := right_cases hr
  have hlen := hE.len
  have hmx := hE.max
  rcases hk with rfl | rfl | ⟨rfl, m, rfl, hm⟩
  · go_enter Tryd.func31, Tryd.ntmps31
    go_wp2_with fail
    go_ret
    exact ⟨rfl, HB.out⟩
  · go_enter Tryd.func31, Tryd.ntmps31
    go_wp2_with fail
    go_ret
    exact ⟨rfl, HB.out⟩
  · have hmn : m < n := by omega
    obtain ⟨b, off, rfl, hb, hc⟩ := (hE.alloc (.cells #[.int .i64 3, .int .i64 (m : Int), .int .i64 l] 30)).at_ hmn
    obtain ⟨hn0, _⟩ := hc m hmn
    clear hc
    have HX := Lib.hid (show nmE es m = baseE es 3 (m : Int) by simp [baseE])
    generalize nmE es m = x at hn0 HX
    go_enter Tryd.func31, Tryd.ntmps31
    go_wp2_with fail
    go_ret
    exact ⟨ret_str HX.out, HB.out⟩

/-- No enum's name is long. -/
def EsShort (es : List En) : Prop := ∀ i, i < es.length → (nmE es i).size ≤ 100
theorem base_size {es : List En} {k e l : Int} (h : EsShort es) (hr : rightB es.length k e l = true) : (baseE es k e).size ≤ 100 := by
  obtain ⟨_, hk⟩ := right_cases hr
  rcases hk with rfl | rfl | ⟨rfl, m, rfl, hm⟩
  · show intT.size ≤ 100
    decide
  · show boolT.size ≤ 100
    decide
  · have := h m hm
    simpa [baseE] using this
theorem dig_size (l : Int) : (digS l).size = 1 := rfl

section
variable {es : List En} {k e l : Int}
theorem text_no (h : rightB es.length k e l = false) : textE es k e l = ⟨#[]⟩ := by simp [textE, h]
theorem text_zero (h : rightB es.length k e 0 = true) : textE es k e 0 = baseE es k e := by simp [textE, h]
theorem text_len (h : rightB es.length k e l = true) (hl : ¬ l = 0) : textE es k e l = baseE es k e ++ (⟨#[91]⟩ : ByteArray) ++ digS l ++ (⟨#[93]⟩ : ByteArray) := by simp [textE, h, hl]
end

set_option maxRecDepth 100000 in
set_option maxHeartbeats 2000000 in
theorem tyText (A : Option Addr) (n c : Nat) (es : List En) (k e l : Int) (w : World) (hE : RdE w A n es) (hsm : EsShort es) :
    Calls Tryd.prog 20 #[.slice A n c, tyV k e l] w fun r w' => r = .returned (.string (textE es k e l)) ∧ Below w.heap.size w w' := by
  have HB := Lib.hid ((Below.refl w.heap.size w).alloc (Nat.le_refl _) (.cells #[.int .i64 k, .int .i64 e, .int .i64 l] 30))
  have HEB := Lib.hid (hE.alloc (.cells #[.int .i64 k, .int .i64 e, .int .i64 l] 30))
  have hlen := hE.len
  have hmx := hE.max
  have HRT := Lib.hid fun (W : World) => tyRight A n c k e l W hmx
  rw [← hlen] at HRT
  cases hr : rightB es.length k e l with
  | false =>
    have HT := Lib.hid (text_no hr)
    rw [hr] at HRT
    unfold tyV at HRT ⊢
    clear hE
    go_enter Tryd.func20, Tryd.ntmps20
    go_wp2_with fail
    rw [← hlen]
    refine (HRT.out _).mono ?_
    rintro r w1 ⟨rfl, hb1⟩
    have HB1 := Lib.hid (HB.out.trans (hb1.mono HB.out.size))
    clear hb1
    go_wp2_with fail
    go_ret
    exact ⟨ret_str HT.out.symm, HB1.out⟩
  | true =>
    rw [hr] at HRT
    obtain ⟨hl, _⟩ := right_cases hr
    have HSG := Lib.hid fun (W : World) (h : RdE W A n es) => tySingle A n c es k e l W h hr
    by_cases hl0 : l = 0
    · subst hl0
      have HT := Lib.hid (text_zero hr)
      unfold tyV at HRT HSG ⊢
      clear hE
      go_enter Tryd.func20, Tryd.ntmps20
      go_wp2_with fail
      rw [← hlen]
      refine (HRT.out _).mono ?_
      rintro r w1 ⟨rfl, hb1⟩
      have q0 := (hb1.cell (p := ⟨w.heap.size, 0, none⟩) (by simp)).trans (by simp [go_sem] : (w.alloc (.cells #[.int .i64 k, .int .i64 e, .int .i64 0] 30)).cell? ⟨w.heap.size, 0, none⟩ = some (.int .i64 k))
      have q1 := (hb1.cell (p := ⟨w.heap.size, 1, none⟩) (by simp)).trans (by simp [go_sem] : (w.alloc (.cells #[.int .i64 k, .int .i64 e, .int .i64 0] 30)).cell? ⟨w.heap.size, 1, none⟩ = some (.int .i64 e))
      have q2 := (hb1.cell (p := ⟨w.heap.size, 2, none⟩) (by simp)).trans (by simp [go_sem] : (w.alloc (.cells #[.int .i64 k, .int .i64 e, .int .i64 0] 30)).cell? ⟨w.heap.size, 2, none⟩ = some (.int .i64 0))
      have HB1 := Lib.hid (HB.out.trans (hb1.mono HB.out.size))
      have HE1 := Lib.hid (HEB.out.below hb1)
      clear hb1
      go_wp2_with fail
      refine (HSG.out _ HE1.out).mono ?_
      rintro r w2 ⟨rfl, hb2⟩
      have HB2 := Lib.hid (HB1.out.trans (hb2.mono HB1.out.size))
      clear hb2
      go_wp2_with fail
      go_ret
      exact ⟨ret_str HT.out.symm, HB2.out⟩
    · have hT := text_len hr hl0
      have hxz := base_size hsm hr
      have hdz := dig_size l
      generalize hbx : baseE es k e = x at HSG hT hxz
      have hlb : (l == 0) = false := by simpa using hl0
      have HIT := Lib.hid fun (W : World) => itoaAny l W hl.1 (by omega)
      generalize hdx : digS l = d at HIT hT hdz
      have HT := Lib.hid hT
      clear hT hbx hdx
      have z1 : (9223372036854775807 < x.size + 1) = False := by rw [eq_iff_iff, iff_false]; omega
      have z2 : (9223372036854775807 < x.size + 1 + 1) = False := by rw [eq_iff_iff, iff_false]; omega
      have z3 : (9223372036854775807 < x.size + 1 + 1 + 1) = False := by rw [eq_iff_iff, iff_false]; omega
      unfold tyV at HRT HSG ⊢
      clear hE
      go_enter Tryd.func20, Tryd.ntmps20
      go_wp2_with fail
      rw [← hlen]
      refine (HRT.out _).mono ?_
      rintro r w1 ⟨rfl, hb1⟩
      have q0 := (hb1.cell (p := ⟨w.heap.size, 0, none⟩) (by simp)).trans (by simp [go_sem] : (w.alloc (.cells #[.int .i64 k, .int .i64 e, .int .i64 l] 30)).cell? ⟨w.heap.size, 0, none⟩ = some (.int .i64 k))
      have q1 := (hb1.cell (p := ⟨w.heap.size, 1, none⟩) (by simp)).trans (by simp [go_sem] : (w.alloc (.cells #[.int .i64 k, .int .i64 e, .int .i64 l] 30)).cell? ⟨w.heap.size, 1, none⟩ = some (.int .i64 e))
      have q2 := (hb1.cell (p := ⟨w.heap.size, 2, none⟩) (by simp)).trans (by simp [go_sem] : (w.alloc (.cells #[.int .i64 k, .int .i64 e, .int .i64 l] 30)).cell? ⟨w.heap.size, 2, none⟩ = some (.int .i64 l))
      have hws : w.heap.size < w1.heap.size := by have := hb1.size; simp at this; omega
      have HB1 := Lib.hid (HB.out.trans (hb1.mono HB.out.size))
      have HE1 := Lib.hid (HEB.out.below hb1)
      clear hb1
      go_wp2_with fail
      go_region_held3 (fun W => W.cell? ⟨w.heap.size, 0, none⟩ = some (.int .i64 k) ∧ W.cell? ⟨w.heap.size, 1, none⟩ = some (.int .i64 e) ∧ W.cell? ⟨w.heap.size, 2, none⟩ = some (.int .i64 l)) (first | exact ⟨q0, q1, q2⟩ | exact ⟨p0, p1, p2⟩)
        ((first
          | (go_at_call 31; refine (HSG.out _ (HE1.out.drewN _)).mono ?_; rintro r w2 ⟨rfl, hb2⟩; have p0 := (hb2.cell (p := ⟨w.heap.size, 0, none⟩) hws).trans q0; have p1 := (hb2.cell (p := ⟨w.heap.size, 1, none⟩) hws).trans q1; have p2 := (hb2.cell (p := ⟨w.heap.size, 2, none⟩) hws).trans q2; have HB2 := Lib.hid hb2)
          | (go_at_call 32; refine (HIT.out _).mono ?_; rintro r w3 ⟨rfl, rfl⟩)))
      have HB3 := Lib.hid ((below_drewN HB1.out 1).trans (HB2.out.mono HB1.out.size))
      go_wp2_with fail
      go_ret
      exact ⟨ret_str HT.out.symm, HB3.out⟩

/-- 'string(b)' of a slice that reads, of one byte. -/
theorem run_digit {w : World} {A : Option Addr} {c : Nat} {l : Int} (h : Rd .u8 w A 1 c [48 + l]) (h0 : 0 ≤ l) (h9 : l < 10) :
    (convert 52 9 (.slice A 1 c)).run Tryd.prog w = .ok (.string (digS l)) w := by
  obtain ⟨b, off, rfl, hb, hc⟩ := h.at_ (i := 0) (by omega)
  have := run_convert_bytes_arg w _ _ Tryd.underlying52 Tryd.underlying5 b off 1 c [48 + l] h.len (fun i hi => by rw [hc i hi, List.getD_eq_getElem?_getD]) _ Tryd.underlying9
  rw [this]
  rfl

set_option maxRecDepth 100000 in
set_option maxHeartbeats 2000000 in
theorem refText (A : Option Addr) (n c : Nat) (es : List En) (k e l : Int) (w : World) (hE : RdE w A n es) (hsm : EsShort es) :
    Calls Tryd.prog 21 #[.slice A n c, tyV k e l] w fun r w' => r = .returned (.string (textE es k e l)) ∧ Below w.heap.size w w' := by
  have HB := Lib.hid ((Below.refl w.heap.size w).alloc (Nat.le_refl _) (.cells #[.int .i64 k, .int .i64 e, .int .i64 l] 30))
  have HEB := Lib.hid (hE.alloc (.cells #[.int .i64 k, .int .i64 e, .int .i64 l] 30))
  have hlen := hE.len
  have hmx := hE.max
  have HRT := Lib.hid fun (W : World) => refRight A n c k e l W hmx
  rw [← hlen] at HRT
  cases hr : rightB es.length k e l with
  | false =>
    have HT := Lib.hid (text_no hr)
    rw [hr] at HRT
    unfold tyV at HRT ⊢
    clear hE
    go_enter Tryd.func21, Tryd.ntmps21
    go_wp2_with fail
    rw [← hlen]
    refine (HRT.out _).mono ?_
    rintro r w1 ⟨rfl, hb1⟩
    have HB1 := Lib.hid (HB.out.trans (hb1.mono HB.out.size))
    clear hb1
    go_wp2_with fail
    go_ret
    exact ⟨ret_str HT.out.symm, HB1.out⟩
  | true =>
    rw [hr] at HRT
    obtain ⟨hl, hk⟩ := right_cases hr
    have hxz := base_size hsm hr
    have hT : textE es k e l = if l = 0 then baseE es k e else baseE es k e ++ (⟨#[91]⟩ : ByteArray) ++ digS l ++ (⟨#[93]⟩ : ByteArray) := by simp only [textE, hr, if_true]
    have hdz := dig_size l
    have HCELL := Lib.hid fun (m : Nat) (he : e = m) (hm : m < n) => (HEB.out.at_ hm)
    have HRUN := Lib.hid fun (W : World) (A : Option Addr) (c : Nat) (h : Rd .u8 W A 1 c [48 + l]) => run_digit h hl.1 (by omega)
    have HLIT := Lib.hid fun (W : World) (T : TypeId) => Rd.lit .u8 W T [48 + l] 1 rfl (by omega) (by intro z hz; simp at hz; subst hz; simp [Lit.wf, IntKind.min, IntKind.max, IntKind.signed, IntKind.bits]; omega) #[.int .u8 (48 + l)] rfl
    have hw1 : IntKind.i64.wrap (48 + l) = 48 + l := IntWalk.i64_in _ (by omega)
    have hw2 : IntKind.u8.wrap (48 + l) = 48 + l := by rw [IntKind.wrap_u8]; omega
    generalize digS l = d at hT hdz HRUN
    unfold tyV at HRT ⊢
    clear hE
    rcases hk with rfl | rfl | ⟨rfl, m, rfl, hm⟩
    · go_enter Tryd.func21, Tryd.ntmps21
      go_wp2_with fail
      rw [← hlen]
      refine (HRT.out _).mono ?_
      rintro r w1 ⟨rfl, hb1⟩
      have q0 := (hb1.cell (p := ⟨w.heap.size, 0, none⟩) (by simp)).trans (by simp [go_sem] : (w.alloc (.cells #[.int .i64 1, .int .i64 e, .int .i64 l] 30)).cell? ⟨w.heap.size, 0, none⟩ = some (.int .i64 1))
      have q1 := (hb1.cell (p := ⟨w.heap.size, 1, none⟩) (by simp)).trans (by simp [go_sem] : (w.alloc (.cells #[.int .i64 1, .int .i64 e, .int .i64 l] 30)).cell? ⟨w.heap.size, 1, none⟩ = some (.int .i64 e))
      have q2 := (hb1.cell (p := ⟨w.heap.size, 2, none⟩) (by simp)).trans (by simp [go_sem] : (w.alloc (.cells #[.int .i64 1, .int .i64 e, .int .i64 l] 30)).cell? ⟨w.heap.size, 2, none⟩ = some (.int .i64 l))
      have hcv := HRUN.out (w1.alloc (.cells #[.int .u8 (48 + l)] 5)) _ _ (HLIT.out w1 _)
      have HB1 := Lib.hid (HB.out.trans (hb1.mono HB.out.size))
      clear hb1
      by_cases hl0 : 0 < l
      · go_wp2_with fail
        go_ret
        exact ⟨ret_str (by rw [hT, if_neg (by omega)]; rfl), HB1.out.alloc HB1.out.size _⟩
      · obtain rfl : l = 0 := by omega
        go_wp2_with fail
        go_ret
        exact ⟨ret_str (by rw [hT, if_pos trivial]; rfl), HB1.out⟩
    · go_enter Tryd.func21, Tryd.ntmps21
      go_wp2_with fail
      rw [← hlen]
      refine (HRT.out _).mono ?_
      rintro r w1 ⟨rfl, hb1⟩
      have q0 := (hb1.cell (p := ⟨w.heap.size, 0, none⟩) (by simp)).trans (by simp [go_sem] : (w.alloc (.cells #[.int .i64 2, .int .i64 e, .int .i64 l] 30)).cell? ⟨w.heap.size, 0, none⟩ = some (.int .i64 2))
      have q1 := (hb1.cell (p := ⟨w.heap.size, 1, none⟩) (by simp)).trans (by simp [go_sem] : (w.alloc (.cells #[.int .i64 2, .int .i64 e, .int .i64 l] 30)).cell? ⟨w.heap.size, 1, none⟩ = some (.int .i64 e))
      have q2 := (hb1.cell (p := ⟨w.heap.size, 2, none⟩) (by simp)).trans (by simp [go_sem] : (w.alloc (.cells #[.int .i64 2, .int .i64 e, .int .i64 l] 30)).cell? ⟨w.heap.size, 2, none⟩ = some (.int .i64 l))
      have hcv := HRUN.out (w1.alloc (.cells #[.int .u8 (48 + l)] 5)) _ _ (HLIT.out w1 _)
      have HB1 := Lib.hid (HB.out.trans (hb1.mono HB.out.size))
      clear hb1
      by_cases hl0 : 0 < l
      · go_wp2_with fail
        go_ret
        exact ⟨ret_str (by rw [hT, if_neg (by omega)]; rfl), HB1.out.alloc HB1.out.size _⟩
      · obtain rfl : l = 0 := by omega
        go_wp2_with fail
        go_ret
        exact ⟨ret_str (by rw [hT, if_pos trivial]; rfl), HB1.out⟩
    · have hmn : m < n := by omega
      obtain ⟨b, off, rfl, hb, hc⟩ := HCELL.out m rfl hmn
      obtain ⟨hn0, _⟩ := hc m hmn
      have hbx : baseE es 3 (m : Int) = nmE es m := by simp [baseE]
      rw [hbx] at hT hxz
      clear hc hbx
      generalize nmE es m = x at hn0 hT hxz
      have z1 : (9223372036854775807 < x.size + 1) = False := by rw [eq_iff_iff, iff_false]; omega
      have z2 : (9223372036854775807 < x.size + 1 + 1) = False := by rw [eq_iff_iff, iff_false]; omega
      have z3 : (9223372036854775807 < x.size + 1 + 1 + 1) = False := by rw [eq_iff_iff, iff_false]; omega
      go_enter Tryd.func21, Tryd.ntmps21
      go_wp2_with fail
      rw [← hlen]
      refine (HRT.out _).mono ?_
      rintro r w1 ⟨rfl, hb1⟩
      have q0 := (hb1.cell (p := ⟨w.heap.size, 0, none⟩) (by simp)).trans (by simp [go_sem] : (w.alloc (.cells #[.int .i64 3, .int .i64 (m : Int), .int .i64 l] 30)).cell? ⟨w.heap.size, 0, none⟩ = some (.int .i64 3))
      have q1 := (hb1.cell (p := ⟨w.heap.size, 1, none⟩) (by simp)).trans (by simp [go_sem] : (w.alloc (.cells #[.int .i64 3, .int .i64 (m : Int), .int .i64 l] 30)).cell? ⟨w.heap.size, 1, none⟩ = some (.int .i64 (m : Int)))
      have q2 := (hb1.cell (p := ⟨w.heap.size, 2, none⟩) (by simp)).trans (by simp [go_sem] : (w.alloc (.cells #[.int .i64 3, .int .i64 (m : Int), .int .i64 l] 30)).cell? ⟨w.heap.size, 2, none⟩ = some (.int .i64 l))
      have hn1 := (hb1.cell (p := ⟨b, off + m * 2, none⟩) hb).trans hn0
      have hcv := HRUN.out (w1.alloc (.cells #[.int .u8 (48 + l)] 5)) _ _ (HLIT.out w1 _)
      have HB1 := Lib.hid (HB.out.trans (hb1.mono HB.out.size))
      clear hb1
      by_cases hl0 : 0 < l
      · go_wp2_with fail
        go_ret
        exact ⟨ret_str (by rw [hT, if_neg (by omega)]), HB1.out.alloc HB1.out.size _⟩
      · obtain rfl : l = 0 := by omega
        go_wp2_with fail
        go_ret
        exact ⟨ret_str (by rw [hT, if_pos trivial]), HB1.out⟩
end Go.Proofs.YtccpihpfpobjpaaDoor
