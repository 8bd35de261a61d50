/- Seal and Open, by crc and by its reference. Conditions: the bytes are fewer than memory holds. -/
import Derived.Test.YtoaaailgfdcflaaCrcE
import Derived.Test.YtoaaailgfdcflaaSame
import Derived.Deep.RegionHeld3
namespace Go.Proofs.Ytoaaailgfdcflaa
open Go.RowKit
set_option linter.unusedVariables false

theorem below_grown {B : Nat} {a w w' : World} {v : Value} {base : Nat} {e : TypeId} {size n : Nat} {xs : List Value} (h : Below B a w) (hg : w.grownBy w' v.ownBlock) (hB : B ≤ w.heap.size) (ho : w.ownsRow base e size v n xs) (hb : B ≤ base) : Below B a w' :=
  h.grown hg hB fun g e => Nat.le_trans hb (ho.lt g e).1

theorem Rd.take {k : IntKind} {w : World} {A : Option Addr} {n c : Nat} {l : List Int} (h : Rd k w A n c l) {m : Nat} (hm : m ≤ n) : Rd k w A m c (l.take m) := by
  refine ⟨by rw [List.length_take, h.len]; omega, Nat.le_trans hm h.le, h.2.2.1, fun z hz => h.2.2.2.1 z (List.mem_of_mem_take hz), fun h0 => ?_⟩
  obtain ⟨b, off, e, hb, hc⟩ := h.at_ (i := 0) (by omega)
  exact ⟨b, off, e, hb, fun i hi => by rw [hc i (by omega), List.getElem?_take, if_pos hi]⟩
theorem Rd.drop {k : IntKind} {w : World} {b off n c : Nat} {l : List Int} (h : Rd k w (some ⟨b, off, none⟩) n c l) {m : Nat} (hm : m ≤ n) : Rd k w (some ⟨b, off + m, none⟩) (n - m) (c - m) (l.drop m) := by
  have h1 := h.le
  have h2 := h.2.2.1
  refine ⟨by rw [List.length_drop, h.len], by omega, by omega, fun z hz => h.2.2.2.1 z (List.mem_of_mem_drop hz), fun h0 => ?_⟩
  obtain ⟨b', off', e, hb, hc⟩ := h.at_ (i := 0) (by omega)
  injection e with e
  injection e with e1 e2
  subst e1 e2
  exact ⟨_, _, rfl, hb, fun i hi => by rw [Nat.add_assoc, hc _ (by omega), List.getElem?_drop]⟩

theorem own_below {w w' : World} {base : Nat} {e : TypeId} {size n : Nat} {v : Value} {xs : List Value} (h : w.ownsRow base e size v n xs) (hb : Below w.heap.size w w') : w'.ownsRow base e size v n xs :=
  h.kept (row := none) ⟨hb.os, hb.tape, hb.output, hb.size, fun k hk _ => hb.block k hk⟩ (by cases v.ownBlock <;> simp)
theorem Byt.app {l t : List Int} (h : Byt l) (h' : Byt t) : Byt (l ++ t) := fun z hz => (List.mem_append.1 hz).elim (h z) (h' z)

set_option maxHeartbeats 400000 in
theorem refSeal (A : Option Addr) (n c : Nat) (l : List Int) (w : World) (h : Rd .u8 w A n c l) (hn : n + 4 ≤ 140737488355328) :
    Calls Try.prog 16 #[.slice A n c] w fun e w' => Gives .u8 w (sealL l) e w' := by
  obtain ⟨i0, hi, hz0, hz1, hz2⟩ := info_parts Try.info5
  have HN := Lib.hid hn
  have HR := Lib.hid h
  have HB := Lib.hid h.byt
  clear h hn
  have HO0 := Lib.hid (World.ownsRow_lit (base := w.heap.size) (e := 5) (size := 1) w #[] 0 (Nat.le_refl _) (by decide) rfl)
  have HR0 := Lib.hid (HR.out.alloc (.cells #[] 5))
  have HB0 := Lib.hid ((Below.refl w.heap.size w).alloc (Nat.le_refl _) (.cells #[] 5))
  go_enter Try.func16, Try.ntmps16
  go_wp2_with (at_builtin; go_must (refine wpList_append_rd rfl _ _ _ rfl w.heap.size 5 i0 (.int .u8 0) 1 Try.underlying24 hi hz0 hz1 hz2 rfl _ 0 [] rfl HO0.out _ _ _ l rfl HR0.out ?c1 ?c2 ?c3 ?_))
  case c1 => have := HN.out; unfold maxLen; omega
  case c2 => have := HN.out; omega
  intro v1 w1 hown1 hgrow1
  have HB1 := Lib.hid (below_grown HB0.out hgrow1 (by simp) HO0.out (Nat.le_refl _))
  have HR1 := Lib.hid (HR.out.below HB1.out)
  have HO1 := Lib.hid hown1
  clear hown1 hgrow1
  go_wp2_with fail
  refine (refOf A n c l _ HR1.out).mono ?_
  rintro e w2 ⟨rfl, rfl⟩
  go_wp2_with fail
  refine (refTail (crcN l) _ (crcN_lt l)).mono ?_
  rintro e w2 ⟨A2, n2, c2, rfl, hrd2, hb2⟩
  obtain rfl : n2 = 4 := by rw [← hrd2.len]; rfl
  have HR2 := Lib.hid hrd2
  have HO2 := Lib.hid (own_below HO1.out hb2)
  have HB2 := Lib.hid (HB1.out.trans (hb2.mono HB1.out.size))
  clear hrd2 hb2
  go_wp2_with (at_builtin; go_must (refine wpList_append_rd rfl _ _ _ rfl w.heap.size 5 i0 (.int .u8 0) 1 Try.underlying24 hi hz0 hz1 hz2 rfl v1 n l rfl HO2.out _ 4 _ (le4 (crcN l)) rfl HR2.out ?c4 ?c5 ?c6 ?_))
  case c4 => have := HN.out; unfold maxLen; omega
  case c5 => have := HN.out; omega
  case c6 => exact HB2.out.size
  intro v3 w3 hown3 hgrow3
  have HB3 := Lib.hid (below_grown HB2.out hgrow3 HB2.out.size HO2.out (Nat.le_refl _))
  obtain ⟨A3, c3, rfl, hrd3, _⟩ := Rd.of_own (l := l ++ le4 (crcN l)) hown3 (by rw [List.map_append]) (byt_wf (HB.out.app (le4_byt _)))
  have HR3 := Lib.hid hrd3
  clear hown3 hgrow3 hrd3
  go_wp2_with fail
  go_ret
  exact ⟨_, _, _, rfl, HR3.out, HB3.out⟩

set_option maxHeartbeats 400000 in
theorem crcSeal (A : Option Addr) (n c : Nat) (l : List Int) (w : World) (h : Rd .u8 w A n c l) (hn : n + 4 ≤ 140737488355328) :
    Calls Try.prog 15 #[.slice A n c] w fun e w' => Gives .u8 w (sealL l) e w' := by
  obtain ⟨i0, hi, hz0, hz1, hz2⟩ := info_parts Try.info5
  have hmk : ∀ W : World, (Instr.makeSlice 24 (.int .i64 0) (.int .i64 ((n : Int) + 4))).run Try.prog W = .ok (.slice (some ⟨W.heap.size, 0, none⟩) 0 (n + 4)) (W.alloc (.cells (madeCells #[.int .u8 0] (n + 4)) 5)) := by
    intro W
    have := run_make (P := Try.prog) W 24 5 i0 (.int .u8 0) Try.underlying24 hi hz0 .i64 .i64 0 (n + 4) (by omega) (by omega) (by rw [hz2]; omega) (by omega)
    rw [hz1, show ((n : Int) + 4).toNat = n + 4 from by omega] at this
    simpa [Value.cells] using this
  have HN := Lib.hid hn
  have HR := Lib.hid h
  have HB := Lib.hid h.byt
  have hn' : n ≤ 140737488355324 := by omega
  clear h hn
  have HO0 := Lib.hid (World.ownsRow_made (base := w.heap.size) (e := 5) (size := 1) w (madeCells #[.int .u8 0] (n + 4)) (n + 4) (Nat.le_refl _) (by have := HN.out; unfold maxLen; omega) (by rw [size_madeCells]; simp))
  have HR0 := Lib.hid (HR.out.alloc (.cells (madeCells #[.int .u8 0] (n + 4)) 5))
  have HB0 := Lib.hid ((Below.refl w.heap.size w).alloc (Nat.le_refl _) (.cells (madeCells #[.int .u8 0] (n + 4)) 5))
  go_enter Try.func15, Try.ntmps15
  go_wp2_with (at_builtin; go_must (refine wpList_append_rd rfl _ _ _ rfl w.heap.size 5 i0 (.int .u8 0) 1 Try.underlying24 hi hz0 hz1 hz2 rfl _ 0 [] rfl HO0.out _ _ _ l rfl HR0.out ?c1 ?c2 ?c3 ?_))
  case c1 => have := HN.out; unfold maxLen; omega
  case c2 => have := HN.out; omega
  case c3 => simp
  intro v1 w1 hown1 hgrow1
  have HB1 := Lib.hid (below_grown HB0.out hgrow1 (by simp) HO0.out (Nat.le_refl _))
  have HR1 := Lib.hid (HR.out.below HB1.out)
  have HO1 := Lib.hid hown1
  clear hown1 hgrow1
  go_wp2_with fail
  refine (crcTail A n c l _ HR1.out).mono ?_
  rintro e w2 ⟨A2, n2, c2, rfl, hrd2, hb2⟩
  obtain rfl : n2 = 4 := by rw [← hrd2.len]; rfl
  have HR2 := Lib.hid hrd2
  have HO2 := Lib.hid (own_below HO1.out hb2)
  have HB2 := Lib.hid (HB1.out.trans (hb2.mono HB1.out.size))
  clear hrd2 hb2
  go_wp2_with (at_builtin; go_must (refine wpList_append_rd rfl _ _ _ rfl w.heap.size 5 i0 (.int .u8 0) 1 Try.underlying24 hi hz0 hz1 hz2 rfl v1 n l rfl HO2.out _ 4 _ (le4 (crcN l)) rfl HR2.out ?c4 ?c5 ?c6 ?_))
  case c4 => have := HN.out; unfold maxLen; omega
  case c5 => have := HN.out; omega
  case c6 => exact HB2.out.size
  intro v3 w3 hown3 hgrow3
  have HB3 := Lib.hid (below_grown HB2.out hgrow3 HB2.out.size HO2.out (Nat.le_refl _))
  obtain ⟨A3, c3, rfl, hrd3, _⟩ := Rd.of_own (l := l ++ le4 (crcN l)) hown3 (by rw [List.map_append]) (byt_wf (HB.out.app (le4_byt _)))
  have HR3 := Lib.hid hrd3
  clear hown3 hgrow3 hrd3
  go_wp2_with fail
  go_ret
  exact ⟨_, _, _, rfl, HR3.out, HB3.out⟩

def openL (d : List Int) : List Int := if openB d then d.take (d.length - 4) else []
/-- What Open leaves. -/
def Opens (w : World) (l : List Int) (e : Ending) (w' : World) : Prop :=
  ∃ A n c, e = .returned (.tuple #[.slice A n c, .bool (openB l)]) ∧ Rd .u8 w' A n c (openL l) ∧ Below w.heap.size w w'

theorem open_short {l : List Int} (h : l.length < 4) : openB l = false ∧ openL l = [] := by
  have e : openB l = false := by
    unfold openB
    exact decide_eq_false fun x => by omega
  exact ⟨e, by rw [openL, e]; rfl⟩

theorem open_long {l : List Int} {m : Nat} (h : l.length = m + 4) : openB l = decide (le4 (crcN (l.take m)) = l.drop m) ∧ (openB l = true → openL l = l.take m) := by
  have e : l.length - 4 = m := by omega
  refine ⟨?_, fun hb => by rw [openL, if_pos hb, e]⟩
  unfold openB
  rw [e]
  simp [show 4 ≤ l.length from by omega]

set_option maxHeartbeats 400000 in
theorem crcOpen_short (A : Option Addr) (n c : Nat) (l : List Int) (w : World) (h : Rd .u8 w A n c l) (hn : n < 4) :
    Calls Try.prog 12 #[.slice A n c] w fun e w' => Opens w l e w' := by
  have HE := Lib.hid (open_short (l := l) (by rw [h.len]; exact hn))
  have hn' : (n : Int) < 4 := by omega
  clear h
  go_enter Try.func12, Try.ntmps12
  go_wp2_with fail
  go_ret2
  exact ⟨none, 0, 0, by rw [HE.out.1]; rfl, by rw [HE.out.2]; exact Rd.nil_ _ _, Below.refl _ _⟩

set_option maxHeartbeats 800000 in
theorem crcOpen_long (b off m c : Nat) (l : List Int) (w : World) (h : Rd .u8 w (some ⟨b, off, none⟩) (m + 4) c l) (hm : m ≤ 140737488355324) :
    Calls Try.prog 12 #[.slice (some ⟨b, off, none⟩) (m + 4 : Nat) c] w fun e w' => Opens w l e w' := by
  obtain ⟨i0, hi, hz0, hz1, hz2⟩ := info_parts Try.info5
  have hle := h.le
  have hc := h.2.2.1
  unfold maxLen at hc
  have hn4 : ¬ ((m + 4 : Nat) : Int) < 4 := by omega
  have hsub : IntKind.i64.wrap (((m + 4 : Nat) : Int) - 4) = (m : Int) := by rw [IntKind.wrap_i64]; omega
  have HR := Lib.hid h
  clear h
  go_enter Try.func12, Try.ntmps12
  go_wp2_with fail
  go_quiet (fail)
  clear hsub hn4
  have H1 := Lib.hid (show Rd .u8 (w.drewN nq) (some ⟨b, off, none⟩) m c (l.take m) from HR.out.take (by omega))
  have H2 := Lib.hid (show Rd .u8 (w.drewN nq) (some ⟨b, off + m, none⟩) 4 (c - m) (l.drop m) from by
    have := HR.out.drop (m := m) (by omega)
    rw [show m + 4 - m = 4 from by omega] at this
    exact this)
  have HO := Lib.hid (open_long (l := l) (m := m) HR.out.len)
  go_wp2_with fail
  refine (crcTail _ m c _ _ H1.out).mono ?_
  rintro e w2 ⟨A2, n2, c2, rfl, hrd2, hb2⟩
  have H1' := Lib.hid (H1.out.below hb2)
  have H2' := Lib.hid (H2.out.below hb2)
  have HR2 := Lib.hid hrd2
  have HB2 := Lib.hid ((below_drewN (Below.refl w.heap.size w) nq).trans (hb2.mono (Nat.le_refl _)))
  clear hrd2 hb2
  go_wp2_with fail
  refine (octSame _ _ _ _ _ _ _ _ _ HR2.out H2'.out).mono ?_
  rintro e w3 ⟨rfl, k, rfl⟩
  rw [← HO.out.1]
  cases hb : openB l with
  | false =>
    have HE := Lib.hid hb
    clear hb
    go_wp2_with fail
    go_ret2
    exact ⟨none, 0, 0, by rw [HE.out]; rfl, by rw [openL, HE.out]; exact Rd.nil_ _ _, below_drewN HB2.out k⟩
  | true =>
    have HE := Lib.hid hb
    clear hb
    have HO0 := Lib.hid (World.ownsRow_lit (base := w.heap.size) (e := 5) (size := 1) (w2.drewN k) #[] 0 HB2.out.size (by decide) rfl)
    have HR0 := Lib.hid ((H1'.out.drewN k).alloc (.cells #[] 5))
    have HB0 := Lib.hid ((below_drewN HB2.out k).alloc HB2.out.size (.cells #[] 5))
    go_wp2_with (at_builtin; go_must (refine wpList_append_rd rfl _ _ _ rfl w.heap.size 5 i0 (.int .u8 0) 1 Try.underlying24 hi hz0 hz1 hz2 rfl _ 0 [] rfl HO0.out _ m _ (l.take m) rfl HR0.out ?c1 ?c2 ?c3 ?_))
    case c1 => unfold maxLen; omega
    case c2 => omega
    case c3 => have := HB2.out.size; simp; omega
    intro v1 w4 hown hgrow
    have HB4 := Lib.hid (below_grown HB0.out hgrow (by have := HB2.out.size; simp; omega) HO0.out (Nat.le_refl _))
    obtain ⟨A4, c4, rfl, hrd4, _⟩ := Rd.of_own (l := l.take m) hown (by rw [List.map_take]) (byt_wf H1.out.byt)
    have HR4 := Lib.hid hrd4
    clear hown hgrow hrd4
    go_wp2_with fail
    go_ret2
    exact ⟨_, _, _, by rw [HE.out]; rfl, by rw [HO.out.2 HE.out]; exact HR4.out, HB4.out⟩
end Go.Proofs.Ytoaaailgfdcflaa
