/- What a Reader and a Writer of nobody do; what a Writer alone leaves. Conditions: none. -/
import Derived.Test.YtjihgpjpmfeakaaBkM
namespace Go.Proofs.Ytjihgpjpmfeakaa
open Go.RowKit
set_option linter.unusedVariables false

set_option maxHeartbeats 800000 in
theorem rdMore_nil (w : World) : Calls Try.prog 20 #[.pointer none] w fun e w' => e = .returned (.bool false) ∧ ∃ m, w' = w.drewN m := by
  go_enter Try.func20, Try.ntmps20
  go_wp2_with fail
  go_quiet (first | (go_at_call 18; refine Calls.quiet_of_same ((rdOk_nil _).mono fun e w' h => ⟨h.1, h.2.symm⟩)))
  go_wp2_with fail
  go_ret
  exact ⟨rfl, _, rfl⟩

set_option maxHeartbeats 800000 in
theorem rdTake_nil (k : Int) (w : World) : Calls Try.prog 36 #[.pointer none, .int .i64 k] w fun e w' => e = .returned (.slice none 0 0) ∧ w = w' := by
  go_enter Try.func36, Try.ntmps36
  go_wp2_with fail
  refine (rdOk_nil _).mono ?_
  rintro e w' ⟨rfl, rfl⟩
  go_wp2_with fail
  go_ret
  exact ⟨rfl, rfl⟩

set_option maxHeartbeats 800000 in
theorem rdCounted_nil (k : Int) (w : World) : Calls Try.prog 39 #[.pointer none, .int .i64 k] w fun e w' => e = .returned (.slice none 0 0) ∧ w = w' := by
  go_enter Try.func39, Try.ntmps39
  go_wp2_with fail
  refine (rdNum_nil k _).mono ?_
  rintro e w' ⟨rfl, rfl⟩
  go_wp2_with fail
  refine (rdTake_nil _ _).mono ?_
  rintro e w' ⟨rfl, rfl⟩
  go_wp2_with fail
  go_ret
  exact ⟨rfl, rfl⟩

set_option maxHeartbeats 800000 in
theorem rdText_nil (w : World) : Calls Try.prog 13 #[.pointer none] w fun e w' => e = .returned (.string ⟨#[]⟩) ∧ w = w' := by
  have hcv : ∀ W : World, (convert 22 9 (.slice none 0 0)).run Try.prog W = .ok (.string ⟨#[]⟩) W := fun W => run_convert_bytes_nil W _ _ Try.underlying22 Try.underlying5 0 0 _ Try.underlying9
  go_enter Try.func13, Try.ntmps13
  go_wp2_with fail
  refine (rdCounted_nil 2 _).mono ?_
  rintro e w' ⟨rfl, rfl⟩
  go_wp2_with fail
  go_ret
  exact ⟨rfl, rfl⟩

set_option maxHeartbeats 400000 in
theorem rdOk_raw (b : Nat) (w : World) (h0 : w.cell? ⟨b, 0, none⟩ = some (.bool false)) :
    Calls Try.prog 18 #[.pointer (some ⟨b, 0, none⟩)] w fun e w' => e = .returned (.bool false) ∧ w = w' := by
  go_enter Try.func18, Try.ntmps18
  go_wp2_with fail
  go_ret
  exact ⟨rfl, rfl⟩
set_option maxHeartbeats 400000 in
theorem wrOk_raw (b : Nat) (w : World) (h0 : w.cell? ⟨b, 0, none⟩ = some (.bool false)) :
    Calls Try.prog 31 #[.pointer (some ⟨b, 0, none⟩)] w fun e w' => e = .returned (.bool false) ∧ w = w' := by
  go_enter Try.func31, Try.ntmps31
  go_wp2_with fail
  go_ret
  exact ⟨rfl, rfl⟩

theorem RdrAt.below {w w' : World} {b n c : Nat} {A : Option Addr} {l : List Int} {s : Option Nat} (h : RdrAt w b A n c l s) (hb : Below w.heap.size w w') : RdrAt w' b A n c l s :=
  h.kept (row := none) ⟨hb.os, hb.tape, hb.output, hb.size, fun k hk _ => hb.block k hk⟩ (by simp) (fun _ _ _ => by simp)
theorem XAt.grown {W W1 : World} {x b : Nat} {p : Pc} (h : XAt W x p) (hg : W.grownBy W1 (some b)) (hne : x ≠ b) : XAt W1 x p := h.mine (g := none) (Mine.obj hg) hne (by simp)

/-- A Writer at b. -/
structure Solo (W : World) (B b : Nat) (st : Option (List Int)) (g : Option Nat) : Prop where
  wr : WrAt W B b st g
  no : st = none → g = none

section
variable {W W1 : World} {B b : Nat} {st st' : Option (List Int)} {g : Option Nat} {e : Ending}
theorem Solo.glt (h : Solo W B b st g) : ∀ k, g = some k → B ≤ k ∧ k < W.heap.size := by
  cases st with
  | none => intro k e; rw [h.no rfl] at e; cases e
  | some l => exact h.wr.g_lt
theorem Solo.below (h : Solo W B b st g) (hb : Below W.heap.size W W1) : Solo W1 B b st g := ⟨h.wr.below hb, h.no⟩
theorem Solo.drewN (h : Solo W B b st g) (m : Nat) : Solo (W.drewN m) B b st g := ⟨h.wr.drewN m, h.no⟩
theorem Solo.next (hw : Wrote W B b st' g e W1) : ∃ g', Solo W1 B b st' g' := by
  obtain ⟨_, g', h1, _, _⟩ := hw
  cases st' with
  | none =>
    obtain ⟨v, n, hrow, _⟩ := h1
    exact ⟨none, ⟨v, n, hrow, fun _ e => by cases e⟩, fun _ => rfl⟩
  | some l => exact ⟨g', h1, fun e => by cases e⟩
theorem Solo.under {w : World} (h : Solo W B b st g) (hB : Below B w W) (hb : B ≤ b) (hs : B ≤ W.heap.size) (hw : Wrote W B b st' g e W1) : Below B w W1 := by
  obtain ⟨_, _, _, m1, _⟩ := hw
  exact m1.under hB hs hb fun k e => (h.glt k e).1
end
end Go.Proofs.Ytjihgpjpmfeakaa
