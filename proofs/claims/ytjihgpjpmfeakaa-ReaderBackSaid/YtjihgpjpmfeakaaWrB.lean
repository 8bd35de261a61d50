/- What a Writer's New, Ok, Bytes, put and Num do. Conditions: what is written is less than memory holds. -/
import Derived.Test.YtjihgpjpmfeakaaWrA
namespace Go.Proofs.Ytjihgpjpmfeakaa
open Go.RowKit
set_option linter.unusedVariables false

theorem own_row_ne {w : World} {base b n m size : Nat} {T e : TypeId} {f : Nat → Value} {v : Value} {xs : List Value} (h : w.ownsRow base e size v n xs) (hr : w.rowIs b T m f) (hne : T ≠ e) : some b ≠ v.ownBlock := by
  intro he
  obtain ⟨cs, hc, _⟩ := hr
  rcases h.2 with ⟨rfl, _⟩ | ⟨g, cap, cur, rfl, _, hg, _⟩
  · simp [Value.ownBlock] at he
  · obtain rfl : b = g := by simpa [Value.ownBlock] using he
    rw [hc] at hg
    injection hg with hg
    injection hg with _ ht
    exact hne ht

section
variable {w w' : World} {base b : Nat} {g : Option Nat} {l : List Int} {st : Option (List Int)}
theorem WrAt.open_ (h : WrAt w base b (some l) g) : ∃ A n c, w.rowIs b 55 2 (wrCell true (.slice A n c)) ∧ w.ownsRow base 5 1 (.slice A n c) n (l.map (Value.int .u8)) ∧ (Value.slice A n c).ownBlock = g ∧ (∀ z ∈ l, 0 ≤ z ∧ z ≤ 255) ∧ l.length = n := by
  obtain ⟨v, n, hr, h⟩ := h
  obtain ⟨ho, hg, hb⟩ := h l rfl
  obtain ⟨A, c, rfl, hrd, _⟩ := own_rd ho hb
  exact ⟨A, n, c, hr, ho, hg, hb, hrd.len⟩
theorem WrAt.ok (h : WrAt w base b st g) : w.cell? ⟨b, 0, none⟩ = some (.bool st.isSome) := by
  obtain ⟨v, n, hr, _⟩ := h
  exact hr.cell (by omega)
theorem WrAt.fz (h : WrAt w base b st g) (i : Nat) : w.frozen? ⟨b, i, none⟩ = false := by
  obtain ⟨v, n, hr, _⟩ := h
  exact hr.frozen i
theorem WrAt.lt (h : WrAt w base b st g) : b < w.heap.size := by
  obtain ⟨v, n, hr, _⟩ := h
  exact hr.lt
theorem WrAt.drewN (h : WrAt w base b st g) (m : Nat) : WrAt (w.drewN m) base b st g := h
theorem WrAt.drew (h : WrAt w base b st g) : WrAt w.drew base b st g := h
theorem WrAt.fails (h : WrAt w base b st g) : WrAt (w.setCell ⟨b, 0, none⟩ (.bool false)) base b none g := by
  obtain ⟨v, n, hr, _⟩ := h
  refine ⟨v, n, (World.rowIs.set hr 0 _).congr fun i hi => ?_, fun _ e => by cases e⟩
  obtain rfl | rfl : i = 0 ∨ i = 1 := by omega
  all_goals rfl
theorem WrAt.g_lt (h : WrAt w base b (some l) g) : ∀ k, g = some k → base ≤ k ∧ k < w.heap.size := by
  obtain ⟨A, n, c, _, ho, hg, _⟩ := h.open_
  rw [← hg]
  exact ho.lt
/-- Kept where neither its block nor its row is touched. -/
theorem WrAt.kept {row : Option Nat} (h : WrAt w base b st g) (hg : w.grownBy w' row) (hb : some b ≠ row) (hr : g = none ∨ g ≠ row) : WrAt w' base b st g := by
  obtain ⟨v, n, hrow, h⟩ := h
  refine ⟨v, n, hrow.of_block (hg.block b hrow.lt hb), fun l e => ?_⟩
  obtain ⟨ho, he, hz⟩ := h l e
  exact ⟨ho.kept hg (by rw [he]; exact hr), he, hz⟩
theorem WrAt.below (h : WrAt w base b st g) (hb : Below w.heap.size w w') : WrAt w' base b st g :=
  h.kept (row := none) ⟨hb.os, hb.tape, hb.output, hb.size, fun k hk _ => hb.block k hk⟩ (by simp) (by cases g <;> simp)
theorem WrAt.beside {b' : Nat} {g' : Option Nat} (h : WrAt w base b st g) (hm : Mine w w' b' g') (hb : b ≠ b') (hb' : some b ≠ g') (h1 : ∀ l, st = some l → g ≠ some b' ∧ (g = none ∨ g ≠ g')) : WrAt w' base b st g := by
  obtain ⟨v, n, hrow, h⟩ := h
  refine ⟨v, n, hrow.of_block (hm.block b hrow.lt hb hb'), fun l e => ?_⟩
  obtain ⟨ho, he, hz⟩ := h l e
  obtain ⟨h2, h3⟩ := h1 l e
  refine ⟨?_, he, hz⟩
  rcases ho.2 with ⟨rfl, rfl⟩ | ⟨k, cap, cur, rfl, hk, hh, hrest⟩
  · exact ⟨ho.1, .inl ⟨rfl, rfl⟩⟩
  · have hgk : g = some k := by rw [← he]; rfl
    refine ⟨ho.1, .inr ⟨k, cap, cur, rfl, hk, ?_, hrest⟩⟩
    rw [hm.block k (Array.getElem?_eq_some_iff.1 hh).1 (fun e => h2 (by rw [hgk, e])) (fun e => by
      rcases h3 with h3 | h3
      · rw [h3] at hgk; cases hgk
      · exact h3 (by rw [hgk, e]))]
    exact hh
end

/-- What a writing leaves. -/
def Wrote (w : World) (base b : Nat) (st : Option (List Int)) (g : Option Nat) (e : Ending) (w' : World) : Prop :=
  e = .returned (.tuple #[]) ∧ ∃ g', WrAt w' base b st g' ∧ Mine w w' b g ∧ Goes w g g'

set_option maxHeartbeats 400000 in
theorem wrOk (base b : Nat) (st : Option (List Int)) (g : Option Nat) (w : World) (h : WrAt w base b st g) :
    Calls Try.prog 31 #[.pointer (some ⟨b, 0, none⟩)] w fun e w' => e = .returned (.bool st.isSome) ∧ w = w' := by
  have h0 := h.ok
  go_enter Try.func31, Try.ntmps31
  go_wp2_with fail
  go_ret
  exact ⟨rfl, rfl⟩
theorem wrOk_no (base b : Nat) (g : Option Nat) (w : World) (h : WrAt w base b none g) :
    Calls Try.prog 31 #[.pointer (some ⟨b, 0, none⟩)] w fun e w' => e = .returned (.bool false) ∧ w = w' := wrOk base b none g w h
theorem wrOk_yes (base b : Nat) (l : List Int) (g : Option Nat) (w : World) (h : WrAt w base b (some l) g) :
    Calls Try.prog 31 #[.pointer (some ⟨b, 0, none⟩)] w fun e w' => e = .returned (.bool true) ∧ w = w' := wrOk base b (some l) g w h

set_option maxHeartbeats 400000 in
theorem wrOk_nil (w : World) : Calls Try.prog 31 #[.pointer none] w fun e w' => e = .returned (.bool false) ∧ w = w' := by
  go_enter Try.func31, Try.ntmps31
  go_wp2_with fail
  go_ret
  exact ⟨rfl, rfl⟩

set_option maxHeartbeats 400000 in
theorem wrNew (w : World) :
    Calls Try.prog 22 #[] w fun e w' => e = .returned (.pointer (some ⟨w.heap.size, 0, none⟩)) ∧ WrAt w' w.heap.size w.heap.size (some []) none ∧ Below w.heap.size w w' := by
  go_enter Try.func22, Try.ntmps22
  go_wp2_with fail
  go_ret
  refine ⟨rfl, ⟨.slice none 0 0, 0, World.rowIs_alloc w _ _ _ fun i hi => ?_, fun l e => ?_⟩, (Below.refl _ _).alloc (Nat.le_refl _) _⟩
  · obtain rfl | rfl : i = 0 ∨ i = 1 := by have : i < 2 := hi; omega
    all_goals rfl
  · injection e with e
    subst e
    exact ⟨World.ownsRow_nil _ _ _ _, rfl, by simp⟩

set_option maxHeartbeats 800000 in
theorem wrPut_no (base b : Nat) (g : Option Nat) (A : Option Addr) (m c : Nat) (w : World) (h : WrAt w base b none g) :
    Calls Try.prog 42 #[.pointer (some ⟨b, 0, none⟩), .slice A m c] w fun e w' => Wrote w base b none g e w' := by
  have H := Lib.hid h
  clear h
  go_enter Try.func42, Try.ntmps42
  go_wp2_with fail
  refine (wrOk_no base b g _ H.out).mono ?_
  rintro e w' ⟨rfl, rfl⟩
  go_wp2_with fail
  go_end0
  exact ⟨rfl, g, H.out, Mine.refl _ _ _, Goes.refl _ _⟩

set_option maxHeartbeats 800000 in
theorem wrPut_yes (base b : Nat) (l : List Int) (g : Option Nat) (A : Option Addr) (m c : Nat) (t : List Int) (w : World) (h : WrAt w base b (some l) g) (hr : Rd .u8 w A m c t) (hn : l.length + m ≤ 140737488355328) (hB : base ≤ w.heap.size) :
    Calls Try.prog 42 #[.pointer (some ⟨b, 0, none⟩), .slice A m c] w fun e w' => Wrote w base b (some (l ++ t)) g e w' := by
  obtain ⟨i0, hi, hz0, hz1, hz2⟩ := info_parts Try.info5
  have H := Lib.hid h
  have HR := Lib.hid hr
  obtain ⟨A', n, c', hrow, hown, hg, hbt, hlen⟩ := h.open_
  have h1 : w.cell? ⟨b, 1, none⟩ = some (.slice A' n c') := hrow.cell (by omega)
  have f1 := hrow.frozen 1
  have HRow := Lib.hid hrow
  have HO := Lib.hid hown
  have HBt := Lib.hid hbt
  have HTt := Lib.hid (rd_bytes hr)
  have hne := Lib.hid (own_row_ne hown hrow (by decide))
  have HG := Lib.hid hg
  have hn' : n + m ≤ 140737488355328 := by omega
  clear h hr hrow hown hbt hg hlen hn
  go_enter Try.func42, Try.ntmps42
  go_wp2_with fail
  refine (wrOk_yes base b l g _ H.out).mono ?_
  rintro e w' ⟨rfl, rfl⟩
  go_wp2_with (at_builtin; go_must (refine wpList_append_at rfl _ _ _ rfl base 5 i0 (.int .u8 0) 1 Try.underlying22 hi hz0 hz1 hz2 rfl _ n l rfl HO.out _ _ _ t rfl HR.out ?c1 ?c2 ?c3 ?_))
  case c1 => unfold maxLen; omega
  case c2 => omega
  case c3 => exact hB
  intro v1 w1 hown1 hgrow1 hlies
  rw [← List.map_append] at hown1
  have HRow1 := Lib.hid (HRow.out.of_block (hgrow1.block b HRow.out.lt hne.out))
  have g1 : w1.cell? ⟨b, 1, none⟩ = some (.slice A' n c') := HRow1.out.cell (by omega)
  have gf1 := HRow1.out.frozen 1
  have HO1 := Lib.hid hown1
  have HL := Lib.hid hlies
  have HM := Lib.hid (Mine.row (b := b) hgrow1)
  obtain ⟨A1, c1, rfl, _, _⟩ := own_rd hown1 (fun z hz => (List.mem_append.1 hz).elim (HBt.out z) (HTt.out z))
  have hne1 := Lib.hid (own_row_ne hown1 HRow1.out (by decide))
  clear hown1 hgrow1 hlies h1 f1
  go_wp2_with fail
  go_end0
  have HM2 : Mine w w1 b g := by rw [← HG.out]; exact HM.out
  refine ⟨rfl, (Value.slice A1 (n + m) c1).ownBlock, ⟨.slice A1 (n + m) c1, n + m, (World.rowIs.set HRow1.out 1 _).congr fun i hi => ?_, fun l' e => ?_⟩, HM2.set 1 _, ?_⟩
  · obtain rfl | rfl : i = 0 ∨ i = 1 := by omega
    all_goals rfl
  · injection e with e
    subst e
    refine ⟨HO1.out.kept (set_grown _ _ _ _) (.inr (Ne.symm hne1.out)), rfl, fun z hz => (List.mem_append.1 hz).elim (HBt.out z) (HTt.out z)⟩
  · rcases HL.out with h | h
    · exact .inl (by rw [h, HG.out])
    · exact .inr ⟨_, h, Nat.le_refl _⟩

theorem wrPut (base b : Nat) (st : Option (List Int)) (g : Option Nat) (A : Option Addr) (m c : Nat) (t : List Int) (w : World) (k : Nat) (h : WrAt w base b st g) (hr : Rd .u8 w A m c t) (hs : Short st k) (hn : k + m ≤ 140737488355328) (hB : base ≤ w.heap.size) :
    Calls Try.prog 42 #[.pointer (some ⟨b, 0, none⟩), .slice A m c] w fun e w' => Wrote w base b (wPut st t) g e w' := by
  cases st with
  | none => exact wrPut_no base b g A m c w h
  | some l => exact wrPut_yes base b l g A m c t w h hr (by have := hs l rfl; omega) hB
end Go.Proofs.Ytjihgpjpmfeakaa
