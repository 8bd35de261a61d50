/- A Writer and the reference's, side by side. Conditions: none. -/
import Derived.Test.YtjihgpjpmfeakaaWrI
import Derived.Test.YtjihgpjpmfeakaaSameR
namespace Go.Proofs.Ytjihgpjpmfeakaa
open Go.RowKit
set_option linter.unusedVariables false

theorem WrAt.row_ne {w : World} {base b b' m : Nat} {l : List Int} {g : Option Nat} {T : TypeId} {f : Nat → Value} (h : WrAt w base b (some l) g) (hr : w.rowIs b' T m f) (hne : T ≠ 5) : some b' ≠ g := by
  obtain ⟨A, n, c, _, ho, hg, _⟩ := h.open_
  rw [← hg]
  exact own_row_ne ho hr hne
theorem RwAt.row_ne {w : World} {base b b' m : Nat} {l : List Int} {g : Option Nat} {T : TypeId} {f : Nat → Value} (h : RwAt w base b (some l) g) (hr : w.rowIs b' T m f) (hne : T ≠ 5) : some b' ≠ g := by
  obtain ⟨A, n, c, _, ho, hg, _⟩ := h.open_
  rw [← hg]
  exact own_row_ne ho hr hne

/-- A Writer at b1 and the reference's at b2, both behind the same pieces; what they wrote lies apart. -/
structure Pair (W : World) (B b1 b2 : Nat) (st : Option (List Int)) (g1 g2 : Option Nat) : Prop where
  wr : WrAt W B b1 st g1
  rw_ : RwAt W B b2 st g2
  no : st = none → g1 = none ∧ g2 = none
  sep : g1 = none ∨ g1 ≠ g2

section
variable {W W1 W2 : World} {B b1 b2 : Nat} {st st' : Option (List Int)} {g1 g2 : Option Nat} {e e' : Ending}
theorem Pair.b1g2 (h : Pair W B b1 b2 st g1 g2) : some b1 ≠ g2 := by
  obtain ⟨v, n, hr, _⟩ := h.wr
  cases st with
  | none => rw [(h.no rfl).2]; simp
  | some l => exact h.rw_.row_ne hr (by decide)
theorem Pair.b2g1 (h : Pair W B b1 b2 st g1 g2) : some b2 ≠ g1 := by
  obtain ⟨v, n, hr, _⟩ := h.rw_
  cases st with
  | none => rw [(h.no rfl).1]; simp
  | some l => exact h.wr.row_ne hr (by decide)
theorem Pair.g1lt (h : Pair W B b1 b2 st g1 g2) : ∀ k, g1 = some k → B ≤ k ∧ k < W.heap.size := by
  cases st with
  | none => intro k e; rw [(h.no rfl).1] at e; cases e
  | some l => exact h.wr.g_lt
theorem Pair.g2lt (h : Pair W B b1 b2 st g1 g2) : ∀ k, g2 = some k → B ≤ k ∧ k < W.heap.size := by
  cases st with
  | none => intro k e; rw [(h.no rfl).2] at e; cases e
  | some l => exact h.rw_.g_lt
theorem Pair.drewN (h : Pair W B b1 b2 st g1 g2) (m : Nat) : Pair (W.drewN m) B b1 b2 st g1 g2 := ⟨h.wr.drewN m, h.rw_.drewN m, h.no, h.sep⟩
theorem Pair.below (h : Pair W B b1 b2 st g1 g2) (hb : Below W.heap.size W W1) : Pair W1 B b1 b2 st g1 g2 := ⟨h.wr.below hb, h.rw_.below hb, h.no, h.sep⟩
theorem Pair.first (h : Pair W B b1 b2 st g1 g2) (hne : b1 ≠ b2) (hw : Mine W W1 b1 g1) : RwAt W1 B b2 st g2 :=
  h.rw_.beside hw (Ne.symm hne) h.b2g1 fun l e => ⟨Ne.symm h.b1g2, by
    rcases h.sep with hs | hs
    · by_cases h2 : g2 = none
      · exact .inl h2
      · exact .inr (by rw [hs]; exact h2)
    · exact .inr (Ne.symm hs)⟩
theorem Pair.second (h : Pair W B b1 b2 st g1 g2) (hne : b1 ≠ b2) (hw : Wrote W B b1 st' g1 e W1) (hr : WroteR W1 B b2 st' g2 e' W2) : ∃ g1' g2', Pair W2 B b1 b2 st' g1' g2' := by
  have hb2 := h.rw_.lt
  have hx := h.b2g1
  have hy := h.b1g2
  have hg2 := h.g2lt
  obtain ⟨_, g1', h1, m1, go1⟩ := hw
  obtain ⟨_, g2', h2, m2, go2⟩ := hr
  have k1 : g1' ≠ some b2 := by
    rcases go1 with rfl | ⟨k, rfl, hk⟩
    · exact Ne.symm hx
    · intro e; injection e with e; omega
  have k2 : g1' = none ∨ g1' ≠ g2 := by
    rcases go1 with rfl | ⟨k, rfl, hk⟩
    · exact h.sep
    · refine .inr fun e => ?_
      have := (hg2 k e.symm).2
      omega
  have hat : WrAt W2 B b1 st' g1' := h1.beside m2 hne hy fun l e => ⟨k1, k2⟩
  cases st' with
  | none =>
    obtain ⟨v, n, hrow, _⟩ := hat
    obtain ⟨v2, n2, hrow2, hv, _⟩ := h2
    exact ⟨none, none, ⟨v, n, hrow, fun _ e => by cases e⟩, ⟨v2, n2, hrow2, hv, fun _ e => by cases e⟩, fun _ => ⟨rfl, rfl⟩, .inl rfl⟩
  | some l =>
    refine ⟨g1', g2', hat, h2, (fun e => by cases e), ?_⟩
    rcases go2 with rfl | ⟨k, rfl, hk⟩
    · exact k2
    · refine .inr fun e => ?_
      have := (h1.g_lt k e).2
      omega
/-- Old memory stands. -/
theorem Pair.under {w : World} (h : Pair W B b1 b2 st g1 g2) (hB : Below B w W) (h1 : B ≤ b1) (h2 : B ≤ b2) (hs : B ≤ W.heap.size) (hw : Wrote W B b1 st' g1 e W1) (hr : WroteR W1 B b2 st' g2 e' W2) : Below B w W2 := by
  obtain ⟨_, _, _, m1, _⟩ := hw
  obtain ⟨_, _, _, m2, _⟩ := hr
  exact m2.under (m1.under hB hs h1 fun k e => (h.g1lt k e).1) (Nat.le_trans hs m1.size) h2 fun k e => (h.g2lt k e).1
end

/-- An Int's bytes. -/
def intL (n : Int) : List Int := putL (u64 n) (wid n)
theorem wrIntL (base b : Nat) (st : Option (List Int)) (g : Option Nat) (n : Int) (k : Nat) (w : World) (h : WrAt w base b st g) (hs : Short st k) (hk : k + 12 ≤ 140737488355328) (hB : base ≤ w.heap.size) (HI : Hid (I64 n)) :
    Calls Try.prog 25 #[.pointer (some ⟨b, 0, none⟩), .int .i64 n] w fun e w' => Wrote w base b (wCount st (intL n) 1) g e w' := wrInt base b st g n k w h hs hk hB HI
theorem rwIntL (base b : Nat) (st : Option (List Int)) (g : Option Nat) (n : Int) (k : Nat) (w : World) (h : RwAt w base b st g) (hs : Short st k) (hk : k + 12 ≤ 140737488355328) (hB : base ≤ w.heap.size) (HI : Hid (I64 n)) :
    Calls Try.prog 26 #[.pointer (some ⟨b, 0, none⟩), .int .i64 n] w fun e w' => WroteR w base b (wCount st (intL n) 1) g e w' := rwInt base b st g n k w h hs hk hB HI

/-- What one piece writes. -/
def wPc (st : Option (List Int)) (p : Pc) : Option (List Int) :=
  if p.d = 0 then wNum st p.n p.z else if p.d = 1 then wCount st (intL p.i) 1 else if p.d = 2 then wCount st (sL p.s) 2 else wCount st (sL p.s) 4
theorem Short.pc {st : Option (List Int)} {k : Nat} (h : Short st k) (p : Pc) (hp : p.s.size ≤ 70000) : Short (wPc st p) (k + 70004) := by
  unfold wPc
  have hw := wid_bd p.i
  have hs : (sL p.s).length = p.s.size := sL_len _
  have hi : (intL p.i).length = wid p.i := putL_length _ _
  split
  · exact (h.num _ _).more (by omega)
  · split
    · exact (h.count _ _).more (by omega)
    · split
      · exact (h.count _ _).more (by omega)
      · exact (h.count _ _).more (by omega)

/-- The piece as it lies in a block of its own. -/
def XAt (W : World) (x : Nat) (p : Pc) : Prop :=
  x < W.heap.size ∧ W.cell? ⟨x, 0, none⟩ = some (.int .i64 p.d) ∧ W.cell? ⟨x, 1, none⟩ = some (.int .i64 p.n) ∧ W.cell? ⟨x, 2, none⟩ = some (.int .i64 p.z) ∧
  W.cell? ⟨x, 3, none⟩ = some (.int .i64 p.i) ∧ W.cell? ⟨x, 4, none⟩ = some (.string p.s)
def pcRow (p : Pc) : Obj := .cells #[.int .i64 p.d, .int .i64 p.n, .int .i64 p.z, .int .i64 p.i, .string p.s] 30
theorem XAt.new (W : World) (p : Pc) : XAt (W.alloc (pcRow p)) W.heap.size p := by
  refine ⟨?_, ?_, ?_, ?_, ?_, ?_⟩
  · show W.heap.size < (W.heap.push _).size
    simp
  all_goals
    unfold pcRow
    rw [World.cell?_alloc_new]
    rfl
theorem XAt.mine {W W1 : World} {x b : Nat} {g : Option Nat} {p : Pc} (h : XAt W x p) (hm : Mine W W1 b g) (h1 : x ≠ b) (h2 : some x ≠ g) : XAt W1 x p := by
  obtain ⟨hl, c0, c1, c2, c3, c4⟩ := h
  have e := hm.block x hl h1 h2
  exact ⟨Nat.lt_of_lt_of_le hl hm.size, (World.cell?_of_block (a := ⟨x, 0, none⟩) e).trans c0, (World.cell?_of_block (a := ⟨x, 1, none⟩) e).trans c1, (World.cell?_of_block (a := ⟨x, 2, none⟩) e).trans c2,
    (World.cell?_of_block (a := ⟨x, 3, none⟩) e).trans c3, (World.cell?_of_block (a := ⟨x, 4, none⟩) e).trans c4⟩

set_option maxHeartbeats 400000 in
theorem same_nil (w : World) : Calls Try.prog 15 #[.slice none 0 0, .slice none 0 0] w fun e w' => e = .returned (.bool true) ∧ ∃ m, w' = w.drewN m := by
  have := refSame none none 0 0 0 0 [] [] w (Rd.nil_ _ _) (Rd.nil_ _ _)
  rwa [decide_eq_true rfl] at this
end Go.Proofs.Ytjihgpjpmfeakaa
