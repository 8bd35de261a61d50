/- What the reference's writer does: bytes, Num. Conditions: what is written is less than memory holds. -/
import Derived.Test.YtjihgpjpmfeakaaWrE
import Derived.Deep.AppendLies
import Derived.RegionTactic
namespace Go.Proofs.Ytjihgpjpmfeakaa
open Go.RowKit
set_option linter.unusedVariables false

section
variable {w w' : World} {base b : Nat} {g : Option Nat} {l : List Int} {st : Option (List Int)}
theorem RwAt.open_ (h : RwAt w base b (some l) g) : ∃ A n c, w.rowIs b 44 2 (rwCell (.slice A n c) false) ∧ w.ownsRow base 5 1 (.slice A n c) n (l.map (Value.int .u8)) ∧ (Value.slice A n c).ownBlock = g ∧ (∀ z ∈ l, 0 ≤ z ∧ z ≤ 255) ∧ l.length = n := by
  obtain ⟨v, n, hr, _, h⟩ := h
  obtain ⟨ho, hg, hb⟩ := h l rfl
  obtain ⟨A, c, rfl, hrd, _⟩ := own_rd ho hb
  exact ⟨A, n, c, hr, ho, hg, hb, hrd.len⟩
theorem RwAt.shape (h : RwAt w base b st g) : ∃ A n c, w.cell? ⟨b, 0, none⟩ = some (.slice A n c) := by
  cases st with
  | none =>
    obtain ⟨v, n, hr, hv, _⟩ := h
    obtain rfl := hv rfl
    exact ⟨_, _, _, hr.cell (by omega)⟩
  | some l =>
    obtain ⟨A, n, c, hr, _⟩ := h.open_
    exact ⟨_, _, _, hr.cell (by omega)⟩
theorem RwAt.bad (h : RwAt w base b st g) : w.cell? ⟨b, 1, none⟩ = some (.bool st.isNone) := by
  obtain ⟨v, n, hr, _⟩ := h
  exact hr.cell (by omega)
theorem RwAt.fz (h : RwAt w base b st g) (i : Nat) : w.frozen? ⟨b, i, none⟩ = false := by
  obtain ⟨v, n, hr, _⟩ := h
  exact hr.frozen i
theorem RwAt.lt (h : RwAt w base b st g) : b < w.heap.size := by
  obtain ⟨v, n, hr, _⟩ := h
  exact hr.lt
theorem RwAt.drewN (h : RwAt w base b st g) (m : Nat) : RwAt (w.drewN m) base b st g := h
theorem RwAt.drew (h : RwAt w base b st g) : RwAt w.drew base b st g := h
theorem RwAt.fails (h : RwAt w base b st g) : RwAt ((w.setCell ⟨b, 1, none⟩ (.bool true)).setCell ⟨b, 0, none⟩ (.slice none 0 0)) base b none g := by
  obtain ⟨v, n, hr, _⟩ := h
  refine ⟨.slice none 0 0, 0, (World.rowIs.set (World.rowIs.set hr 1 _) 0 _).congr fun i hi => ?_, fun _ => rfl, fun _ e => by cases e⟩
  obtain rfl | rfl : i = 0 ∨ i = 1 := by omega
  all_goals rfl
theorem RwAt.g_lt (h : RwAt w base b (some l) g) : ∀ k, g = some k → base ≤ k ∧ k < w.heap.size := by
  obtain ⟨A, n, c, _, ho, hg, _⟩ := h.open_
  rw [← hg]
  exact ho.lt
theorem RwAt.fresh (h : RwAt w base b st g) {k : Nat} (hk : w.heap.size ≤ k) : st.isSome = true → some k ≠ g := by
  intro hst e
  cases st with
  | none => cases hst
  | some l => have := (h.g_lt k e.symm).2; omega
theorem RwAt.beside {b' : Nat} {g' : Option Nat} (h : RwAt w base b st g) (hm : Mine w w' b' g') (hb : b ≠ b') (hb' : some b ≠ g') (h1 : ∀ l, st = some l → g ≠ some b' ∧ (g = none ∨ g ≠ g')) : RwAt w' base b st g := by
  obtain ⟨v, n, hrow, hv, h⟩ := h
  refine ⟨v, n, hrow.of_block (hm.block b hrow.lt hb hb'), hv, fun l e => ?_⟩
  obtain ⟨ho, he, hz⟩ := h l e
  obtain ⟨h2, h3⟩ := h1 l e
  refine ⟨?_, he, hz⟩
  rcases ho.2 with ⟨rfl, rfl⟩ | ⟨k, cap, cur, rfl, hk, hh, hrest⟩
  · exact ⟨ho.1, .inl ⟨rfl, rfl⟩⟩
  · have hgk : g = some k := by rw [← he]; rfl
    refine ⟨ho.1, .inr ⟨k, cap, cur, rfl, hk, ?_, hrest⟩⟩
    rw [hm.block k (Array.getElem?_eq_some_iff.1 hh).1 (fun e => h2 (by rw [hgk, e])) (fun e => by
      rcases h3 with h3 | h3
      · rw [h3] at hgk; cases hgk
      · exact h3 (by rw [hgk, e]))]
    exact hh
theorem RwAt.below (h : RwAt w base b st g) (hb : Below w.heap.size w w') : RwAt w' base b st g := by
  obtain ⟨v, n, hrow, hv, h⟩ := h
  refine ⟨v, n, hrow.of_block (hb.block b hrow.lt), hv, fun l e => ?_⟩
  obtain ⟨ho, he, hz⟩ := h l e
  exact ⟨ho.kept (row := none) ⟨hb.os, hb.tape, hb.output, hb.size, fun k hk _ => hb.block k hk⟩ (by rw [he]; cases g <;> simp), he, hz⟩
theorem RwAt.off (h : RwAt w base b st g) {A' : Option Addr} {m c' : Nat} {l' : List Int} (hr : Rd .u8 w A' m c' l') : 0 < m → ∀ a, A' = some a → some a.block ≠ some b := by
  have hrow : ∃ A n c bad, w.rowIs b 44 2 (rwCell (.slice A n c) bad) := by
    cases st with
    | none =>
      obtain ⟨v, n, hr, hv, _⟩ := h
      obtain rfl := hv rfl
      exact ⟨_, _, _, _, hr⟩
    | some l =>
      obtain ⟨A, n, c, hr, _⟩ := h.open_
      exact ⟨_, _, _, _, hr⟩
  obtain ⟨A, n, c, bad, hrow⟩ := hrow
  exact rd_off hrow (fun i hi z => by
    obtain rfl | rfl : i = 0 ∨ i = 1 := by omega
    all_goals (simp [rwCell])) hr
end

/-- What a writing leaves. -/
def WroteR (w : World) (base b : Nat) (st : Option (List Int)) (g : Option Nat) (e : Ending) (w' : World) : Prop :=
  e = .returned (.tuple #[]) ∧ ∃ g', RwAt w' base b st g' ∧ Mine w w' b g ∧ Goes w g g'
theorem WroteR.below {w w1 w' : World} {base b : Nat} {st : Option (List Int)} {g : Option Nat} {e : Ending} (hb : Below w.heap.size w w1) (h : WroteR w1 base b st g e w') : WroteR w base b st g e w' := by
  obtain ⟨he, g', h1, h2, h3⟩ := h
  refine ⟨he, g', h1, Mine.into hb h2, ?_⟩
  rcases h3 with h3 | ⟨k, h3, hk⟩
  · exact .inl h3
  · exact .inr ⟨k, h3, Nat.le_trans hb.size hk⟩
theorem WroteR.then_ {w w1 w' : World} {base b : Nat} {st : Option (List Int)} {g g1 : Option Nat} {e : Ending} (hm : Mine w w1 b g) (hg : Goes w g g1) (h : WroteR w1 base b st g1 e w') : WroteR w base b st g e w' := by
  obtain ⟨he, g', h1, h2, h3⟩ := h
  exact ⟨he, g', h1, hm.trans h2 hg, hg.trans h3 hm.size⟩

/-- The row stored: what behind an append and its store stands. -/
theorem rw_stored {w1 : World} {base b n m : Nat} {v v1 : Value} {l t : List Int} (hrow : w1.rowIs b 44 2 (rwCell v false)) (hown : w1.ownsRow base 5 1 v1 (n + m) ((l ++ t).map (Value.int .u8)))
    (hb : ∀ z ∈ l ++ t, 0 ≤ z ∧ z ≤ 255) : RwAt (w1.setCell ⟨b, 0, none⟩ v1) base b (some (l ++ t)) v1.ownBlock := by
  refine ⟨v1, n + m, (World.rowIs.set hrow 0 _).congr fun i hi => ?_, (fun e => by cases e), fun l' e => ?_⟩
  · obtain rfl | rfl : i = 0 ∨ i = 1 := by omega
    all_goals rfl
  · injection e with e
    subst e
    exact ⟨hown.kept (set_grown _ _ _ _) (.inr (Ne.symm (own_row_ne hown hrow (by decide)))), rfl, hb⟩

set_option maxHeartbeats 800000 in
theorem rwBytes_no (base b : Nat) (g : Option Nat) (A : Option Addr) (m c : Nat) (w : World) (h : RwAt w base b none g) :
    Calls Try.prog 48 #[.pointer (some ⟨b, 0, none⟩), .slice A m c] w fun e w' => WroteR w base b none g e w' := by
  have h1 : w.cell? ⟨b, 1, none⟩ = some (.bool true) := h.bad
  have H := Lib.hid h
  clear h
  go_enter Try.func48, Try.ntmps48
  go_wp2_with fail
  go_end0
  exact ⟨rfl, g, H.out, Mine.refl _ _ _, Goes.refl _ _⟩

set_option maxHeartbeats 800000 in
theorem rwBytes_yes (base b : Nat) (l : List Int) (g : Option Nat) (A : Option Addr) (m c : Nat) (t : List Int) (w : World) (h : RwAt w base b (some l) g) (hr : Rd .u8 w A m c t) (hn : l.length + m ≤ 140737488355328) (hB : base ≤ w.heap.size) :
    Calls Try.prog 48 #[.pointer (some ⟨b, 0, none⟩), .slice A m c] w fun e w' => WroteR w base b (some (l ++ t)) g e w' := by
  obtain ⟨i0, hi, hz0, hz1, hz2⟩ := info_parts Try.info5
  have hbad : w.cell? ⟨b, 1, none⟩ = some (.bool false) := h.bad
  have HR := Lib.hid hr
  obtain ⟨A', n, c', hrow, hown, hg, hbt, hlen⟩ := h.open_
  have h1 : w.cell? ⟨b, 0, none⟩ = some (.slice A' n c') := hrow.cell (by omega)
  have f1 := hrow.frozen 0
  have HRow := Lib.hid hrow
  have HO := Lib.hid hown
  have HBt := Lib.hid hbt
  have HTt := Lib.hid (rd_bytes hr)
  have hne := Lib.hid (own_row_ne hown hrow (by decide))
  have HG := Lib.hid hg
  have hn' : n + m ≤ 140737488355328 := by omega
  clear h hr hrow hown hbt hg hlen hn
  go_enter Try.func48, Try.ntmps48
  go_wp2_with (at_builtin; go_must (refine wpList_append_at rfl _ _ _ rfl base 5 i0 (.int .u8 0) 1 Try.underlying22 hi hz0 hz1 hz2 rfl _ n l rfl HO.out _ _ _ t rfl HR.out ?c1 ?c2 ?c3 ?_))
  case c1 => unfold maxLen; omega
  case c2 => omega
  case c3 => exact hB
  intro v1 w1 hown1 hgrow1 hlies
  rw [← List.map_append] at hown1
  have HRow1 := Lib.hid (HRow.out.of_block (hgrow1.block b HRow.out.lt hne.out))
  have g1 : w1.cell? ⟨b, 0, none⟩ = some (.slice A' n c') := HRow1.out.cell (by omega)
  have gf1 := HRow1.out.frozen 0
  have HO1 := Lib.hid hown1
  have HL := Lib.hid hlies
  have HM := Lib.hid (Mine.row (b := b) hgrow1)
  obtain ⟨A1, c1, rfl, _, _⟩ := own_rd hown1 (fun z hz => (List.mem_append.1 hz).elim (HBt.out z) (HTt.out z))
  clear hown1 hgrow1 hlies h1 f1
  go_wp2_with fail
  go_end0
  have HM2 : Mine w w1 b g := by rw [← HG.out]; exact HM.out
  refine ⟨rfl, (Value.slice A1 (n + m) c1).ownBlock, rw_stored HRow1.out HO1.out (fun z hz => (List.mem_append.1 hz).elim (HBt.out z) (HTt.out z)), HM2.set 0 _, ?_⟩
  rcases HL.out with h | h
  · exact .inl (by rw [h, HG.out])
  · exact .inr ⟨_, h, Nat.le_refl _⟩

theorem rwBytes (base b : Nat) (st : Option (List Int)) (g : Option Nat) (A : Option Addr) (m c : Nat) (t : List Int) (w : World) (k : Nat) (h : RwAt w base b st g) (hr : st.isSome = true → Rd .u8 w A m c t) (hs : Short st k) (hn : k + m ≤ 140737488355328) (hB : base ≤ w.heap.size) :
    Calls Try.prog 48 #[.pointer (some ⟨b, 0, none⟩), .slice A m c] w fun e w' => WroteR w base b (wPut st t) g e w' := by
  cases st with
  | none => exact rwBytes_no base b g A m c w h
  | some l => exact rwBytes_yes base b l g A m c t w h (hr rfl) (by have := hs l rfl; omega) hB

theorem pow_8s (k : Nat) (hk : k ≤ 4) : (256 : Int) ^ k = 1 ∨ (256 : Int) ^ k = 256 ∨ (256 : Int) ^ k = 65536 ∨ (256 : Int) ^ k = 16777216 ∨ (256 : Int) ^ k = 4294967296 := by
  obtain rfl | rfl | rfl | rfl | rfl : k = 0 ∨ k = 1 ∨ k = 2 ∨ k = 3 ∨ k = 4 := by omega
  all_goals simp

set_option maxHeartbeats 1600000 in
theorem rwNum_no (base b : Nat) (g : Option Nat) (n z : Int) (w : World) (h : RwAt w base b none g) :
    Calls Try.prog 24 #[.pointer (some ⟨b, 0, none⟩), .int .i64 n, .int .i64 z] w fun e w' => WroteR w base b none g e w' := by
  have hbad : w.cell? ⟨b, 1, none⟩ = some (.bool true) := h.bad
  obtain ⟨A, m, c, h0⟩ := h.shape
  have f0 := h.fz 0
  have f1 := h.fz 1
  have H := Lib.hid h.fails
  clear h
  go_enter Try.func24, Try.ntmps24
  go_wp2_with fail
  go_loop [6, 7] (fun tp i => ∃ k : Nat, k ≤ 4 ∧ i = .int .i64 k ∧ tp = .int .i64 (256 ^ k)) (fun _ i => 4 - (intOf i).toNat)
  case atStart => exact ⟨0, by omega, rfl, rfl⟩
  case round =>
    obtain ⟨k, hk, rfl, rfl⟩ := hrel
    by_cases hlt : (k : Int) < z ∧ k < 4
    · obtain rfl | rfl | rfl | rfl : k = 0 ∨ k = 1 ∨ k = 2 ∨ k = 3 := by omega
      · have d1 : decide ((0 : Int) < z) = true := by simp; omega
        clear hlt
        go_wp2_with fail
        go_round
        case rel => exact ⟨1, by omega, rfl, rfl⟩
        case measure => simp [intOf]
      · have d1 : decide ((1 : Int) < z) = true := by simp; omega
        clear hlt
        go_wp2_with fail
        go_round
        case rel => exact ⟨2, by omega, rfl, rfl⟩
        case measure => simp [intOf]
      · have d1 : decide ((2 : Int) < z) = true := by simp; omega
        clear hlt
        go_wp2_with fail
        go_round
        case rel => exact ⟨3, by omega, rfl, rfl⟩
        case measure => simp [intOf]
      · have d1 : decide ((3 : Int) < z) = true := by simp; omega
        clear hlt
        go_wp2_with fail
        go_round
        case rel => exact ⟨4, by omega, rfl, rfl⟩
        case measure => simp [intOf]
    · have hd : decide ((k : Int) < z) = false ∨ (decide ((k : Int) < z) = true ∧ decide ((k : Int) < 4) = false) := by
        simp
        omega
      clear hlt
      rcases hd with d1 | ⟨d1, d2⟩
      all_goals
        go_wp2_with fail
        first | (refine bodyPost_ret (results_none rfl _ _ _) rfl ?_) | go_end0
        exact ⟨rfl, g, H.out, ((Mine.refl _ _ _).set _ _).set _ _, Goes.refl _ _⟩
end Go.Proofs.Ytjihgpjpmfeakaa
