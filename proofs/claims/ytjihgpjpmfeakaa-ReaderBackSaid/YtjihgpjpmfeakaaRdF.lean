/- What bytes.Clone gives, and what From makes, of reader and of its reference. Conditions: the bytes are fewer than memory holds. -/
import Derived.Test.YtjihgpjpmfeakaaRdE
import Derived.Test.YtjihgpjpmfeakaaApp
namespace Go.Proofs.Ytjihgpjpmfeakaa
open Go.RowKit
set_option linter.unusedVariables false

theorem below_grown {B : Nat} {a w w' : World} {v : Value} {base : Nat} {e : TypeId} {size n : Nat} {xs : List Value} (h : Below B a w) (hg : w.grownBy w' v.ownBlock) (hB : B ≤ w.heap.size) (ho : w.ownsRow base e size v n xs) (hb : B ≤ base) : Below B a w' :=
  h.grown hg hB fun g e => Nat.le_trans hb (ho.lt g e).1

/-- A slice of the call's own, that reads as l. -/
def Own (w : World) (l : List Int) (e : Ending) (w' : World) : Prop :=
  ∃ A n c, e = .returned (.slice A n c) ∧ Rd .u8 w' A n c l ∧ Below w.heap.size w w' ∧ ∀ a, A = some a → w.heap.size ≤ a.block ∧ a.block < w'.heap.size

theorem byt_wf {l : List Int} (h : ∀ z ∈ l, 0 ≤ z ∧ z ≤ 255) : ∀ z ∈ l, (Lit.int .u8 z).wf = true := by
  intro z hz
  have := h z hz
  simp [Lit.wf, IntKind.min, IntKind.max, IntKind.signed, IntKind.bits]
  omega

/-- A row of the call's own, read, with its block. -/
theorem own_rd {w : World} {base : Nat} {e : TypeId} {v : Value} {n : Nat} {l : List Int} (h : w.ownsRow base e 1 v n (l.map (Value.int .u8))) (hb : ∀ z ∈ l, 0 ≤ z ∧ z ≤ 255) :
    ∃ A c, v = .slice A n c ∧ Rd .u8 w A n c l ∧ ∀ a, A = some a → base ≤ a.block ∧ a.block < w.heap.size := by
  have hl : l.length = n := by have := h.1; simpa using this
  rcases h.2 with ⟨rfl, rfl⟩ | ⟨g, cap, cur, rfl, hg, hh, hnc, hcm, hcs, ht⟩
  · obtain rfl : l = [] := List.eq_nil_of_length_eq_zero hl
    exact ⟨none, 0, rfl, Rd.nil_ _ _, fun _ h => by cases h⟩
  · obtain ⟨A, c, e, hr, _⟩ := Rd.of_own h rfl (byt_wf hb)
    injection e with e1 _ e3
    subst e1 e3
    exact ⟨_, _, rfl, hr, fun a ha => by injection ha with ha; subst ha; exact ⟨hg, (Array.getElem?_eq_some_iff.1 hh).1⟩⟩

set_option maxHeartbeats 800000 in
theorem clone (A : Option Addr) (n c : Nat) (l : List Int) (w : World) (h : Rd .u8 w A n c l) (hn : n ≤ 140737488355328) :
    Calls Try.prog 33 #[.slice A n c] w fun e w' => Own w l e w' := by
  rcases A with _ | ad
  · obtain rfl : n = 0 := by
      rcases Nat.eq_zero_or_pos n with h0 | h0
      · exact h0
      · obtain ⟨b, off, e, _⟩ := h.at_ h0; cases e
    obtain rfl : l = [] := List.eq_nil_of_length_eq_zero h.len
    clear h
    have hnil : ∀ W : World, (binOp .eql 22 (.slice none 0 c) (.slice none 0 0)).run Try.prog W = .ok (.bool true) W := fun W => Lib.run_eql_slice_nil W _ _ none 0 c 0 0 Try.underlying22
    go_enter Try.func33, Try.ntmps33
    go_wp2_with fail
    go_ret
    exact ⟨none, 0, 0, rfl, Rd.nil_ _ _, Below.refl _ _, fun _ h => by cases h⟩
  · obtain ⟨i0, hi, hz0, hz1, hz2⟩ := info_parts Try.info5
    have HB := Lib.hid (rd_bytes h)
    have HO0 := Lib.hid (World.ownsRow_lit (base := w.heap.size) (e := 5) (size := 1) w #[] 0 (Nat.le_refl _) (by decide) rfl)
    have HR0 := Lib.hid (h.alloc (.cells #[] 5))
    have HB0 := Lib.hid ((Below.refl w.heap.size w).alloc (Nat.le_refl _) (.cells #[] 5))
    clear h
    have hnil : ∀ W : World, (binOp .eql 22 (.slice (some ad) n c) (.slice none 0 0)).run Try.prog W = .ok (.bool false) W := fun W => Lib.run_eql_slice_nil W _ _ (some ad) n c 0 0 Try.underlying22
    go_enter Try.func33, Try.ntmps33
    go_wp2_with (at_builtin; go_must (refine wpList_append_rd rfl _ _ _ rfl w.heap.size 5 i0 (.int .u8 0) 1 Try.underlying22 hi hz0 hz1 hz2 rfl _ 0 [] rfl HO0.out _ _ _ l rfl HR0.out ?c1 ?c2 ?c3 ?_))
    case c1 => unfold maxLen; omega
    intro v1 w1 hown1 hgrow1
    have HB1 := Lib.hid (below_grown HB0.out hgrow1 (by simp) HO0.out (Nat.le_refl _))
    obtain ⟨A1, c1, rfl, hr, hA⟩ := own_rd hown1 HB.out
    have HR := Lib.hid hr
    have HA := Lib.hid hA
    clear hown1 hgrow1 hr hA
    go_wp2_with fail
    go_ret
    exact ⟨_, _, _, rfl, HR.out, HB1.out, HA.out⟩

theorem rdr_made (w : World) (A : Option Addr) (n c : Nat) (l : List Int) (h : Rd .u8 w A n c l) (hA : 0 < n → ∀ a, A = some a → a.block < w.heap.size) : RdrAt (w.alloc (.cells #[.bool true, .slice A n c, .int .i64 0] 53)) w.heap.size A n c l (some 0) := by
  refine ⟨⟨0, World.rowIs_alloc w _ _ _ fun i hi => ?_, fun q e => by injection e with e; exact ⟨e, by omega⟩⟩, h.alloc _, fun h0 a e => by have := hA h0 a e; omega⟩
  obtain rfl | rfl | rfl : i = 0 ∨ i = 1 ∨ i = 2 := by have : i < 3 := hi; omega
  all_goals rfl
theorem ref_made (w : World) (A : Option Addr) (n c : Nat) (l : List Int) (h : Rd .u8 w A n c l) (hA : 0 < n → ∀ a, A = some a → a.block < w.heap.size) : RefAt (w.alloc (.cells #[.slice A n c, .int .i64 0, .bool false] 37)) w.heap.size A n c l (some 0) := by
  refine ⟨⟨World.rowIs_alloc w _ _ _ fun i hi => ?_, fun q e => by injection e with e; omega⟩, h.alloc _, fun h0 a e => by have := hA h0 a e; omega⟩
  obtain rfl | rfl | rfl : i = 0 ∨ i = 1 ∨ i = 2 := by have : i < 3 := hi; omega
  all_goals rfl

/-- What From leaves: a Reader of its own. -/
def Reads1 (w : World) (l : List Int) (e : Ending) (w' : World) : Prop :=
  ∃ b A n c, e = .returned (.pointer (some ⟨b, 0, none⟩)) ∧ w.heap.size ≤ b ∧ (∀ a, A = some a → w.heap.size ≤ a.block ∧ a.block < w'.heap.size) ∧ RdrAt w' b A n c l (some 0) ∧ Below w.heap.size w w'

theorem rd_lt {k : IntKind} {w : World} {b off n c : Nat} {l : List Int} (h : Rd k w (some ⟨b, off, none⟩) n c l) (hn : 0 < n) : b < w.heap.size := by
  obtain ⟨b', off', e, hb, _⟩ := h.at_ hn
  injection e with e
  injection e with e1 e2
  subst e1
  exact hb

theorem own_lt {w : World} {base : Nat} {e : TypeId} {A : Option Addr} {n m c : Nat} {xs : List Value} (h : w.ownsRow base e 1 (.slice A n c) m xs) : ∀ a, A = some a → a.block < w.heap.size := fun a ha => by
  subst ha
  exact (h.lt a.block rfl).2

set_option maxHeartbeats 800000 in
theorem rdFrom (A : Option Addr) (n c : Nat) (l : List Int) (w : World) (h : Rd .u8 w A n c l) (hn : n ≤ 140737488355328) :
    Calls Try.prog 7 #[.slice A n c] w fun e w' => Reads1 w l e w' := by
  have H := Lib.hid h
  clear h
  go_enter Try.func7, Try.ntmps7
  go_wp2_with fail
  refine (clone A n c l _ H.out hn).mono ?_
  rintro e w' ⟨A', n', c', rfl, hrd, hb, hA⟩
  have HR := Lib.hid hrd
  have HB := Lib.hid hb
  have HA := Lib.hid hA
  clear hrd hb hA
  go_wp2_with fail
  go_ret
  exact ⟨_, _, _, _, rfl, HB.out.size, fun a e => ⟨(HA.out a e).1, Nat.lt_of_lt_of_le (HA.out a e).2 (by simp)⟩, rdr_made _ _ _ _ _ HR.out (fun _ a e => (HA.out a e).2), HB.out.alloc HB.out.size _⟩

set_option maxHeartbeats 800000 in
theorem refFrom (A : Option Addr) (n c : Nat) (l : List Int) (w : World) (h : Rd .u8 w A n c l) (hA : 0 < n → ∀ a, A = some a → a.block < w.heap.size) :
    Calls Try.prog 8 #[.slice A n c] w fun e w' => e = .returned (.pointer (some ⟨w.heap.size, 0, none⟩)) ∧ RefAt w' w.heap.size A n c l (some 0) ∧ Below w.heap.size w w' := by
  have H := Lib.hid h
  clear h
  go_enter Try.func8, Try.ntmps8
  go_wp2_with fail
  go_ret
  exact ⟨rfl, ref_made _ _ _ _ _ H.out hA, (Below.refl _ _).alloc (Nat.le_refl _) _⟩
end Go.Proofs.Ytjihgpjpmfeakaa
