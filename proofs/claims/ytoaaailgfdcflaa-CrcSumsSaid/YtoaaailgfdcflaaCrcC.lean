/- A Sum goes on: its table is made once; bytes are added; its value is told. Conditions: none. -/
import Derived.Test.YtoaaailgfdcflaaCrcB
import Derived.Test.YtoaaailgfdcflaaOnce
namespace Go.Proofs.Ytoaaailgfdcflaa
open Go.RowKit
set_option linter.unusedVariables false

theorem load_0 (a : Addr) (w : World) (hc : w.cell? a = some (.int .u32 0)) :
    Calls Try.prog 22 #[.pointer (some a)] w fun e w' => e = .returned (.bool false) ∧ w = w' := by
  have hl := run_call_load (P := Try.prog) Try.func26 (by kernel_rfl) (by kernel_rfl) (by kernel_rfl) .u32 (by kernel_rfl) hc
  go_enter Try.func22, Try.ntmps22
  go_wp2
  go_ret
  exact ⟨rfl, rfl⟩
theorem load_1 (a : Addr) (w : World) (hc : w.cell? a = some (.int .u32 1)) :
    Calls Try.prog 22 #[.pointer (some a)] w fun e w' => e = .returned (.bool true) ∧ w = w' := by
  have hl := run_call_load (P := Try.prog) Try.func26 (by kernel_rfl) (by kernel_rfl) (by kernel_rfl) .u32 (by kernel_rfl) hc
  go_enter Try.func22, Try.ntmps22
  go_wp2
  go_ret
  exact ⟨rfl, rfl⟩

set_option maxRecDepth 100000 in
set_option maxHeartbeats 1600000 in
theorem slow_first (b : Nat) (m : Bool) (r : Int) (t : Nat → Int) (w : World) (h : SumAt w b m r 0 0 t) :
    Calls Try.prog 23 #[.pointer (some ⟨b, 2, none⟩), .func (.func 18) #[.pointer (some ⟨b, 0, none⟩)] #[]] w fun e w' => e = .returned (.tuple #[]) ∧ SumAt w' b m r 1 0 full ∧ w.grownBy w' (some b) := by
  have H1 := Lib.hid (h.setS 1)
  have G1 := Lib.hid (grown_set (World.grownBy.refl w (some b)) 3 (.int .i32 1))
  have hnot : ∀ (x : Bool) (w : World), (Op.unary .not (.bool x)).run Try.prog w = .ok (.bool (!x)) w := fun _ _ => rfl
  have hc3 := h.c3
  have hf3 := h.fz 3
  clear h
  go_enter_defers Try.func23, Try.ntmps23
  go_wp2_with fail
  refine (lock_free ⟨b, 3, none⟩ _ hc3 hf3).mono ?_
  rintro e w' ⟨rfl, rfl⟩
  clear hc3 hf3
  generalize w.setCell ⟨b, 3, none⟩ (.int .i32 1) = w1 at *
  go_wp2_with fail
  refine (load_0 ⟨b, 2, none⟩ _ H1.out.c2).mono ?_
  rintro e w' ⟨rfl, rfl⟩
  go_wp2_with fail
  refine (fill_any b m r 0 1 t _ H1.out).mono ?_
  rintro e w2 ⟨rfl, hs, hg⟩
  have H2 := Lib.hid hs
  have G2 := Lib.hid (grown_trans G1.out hg)
  clear hs hg
  go_wp2_with fail
  refine leaves_cons (f := 29) (args := #[.pointer (some ⟨b, 2, none⟩), .bool true]) (by simp) (by simp [go_sem]) ?_
  refine (store_deferred ⟨b, 2, none⟩ (.int .u32 0) .returning _ H2.out.c2 (H2.out.fz 2)).mono ?_
  rintro e u' w'' ⟨rfl, rfl, rfl⟩
  have H3 := Lib.hid (H2.out.drew.setD 1)
  refine leaves_cons (f := 28) (args := #[.pointer (some ⟨b, 3, none⟩)]) (by simp [settle]) (by simp [go_sem]) ?_
  refine (unlock_deferred ⟨b, 3, none⟩ _ _ H3.out.c3 (H3.out.fz 3)).mono ?_
  rintro e u' w'' ⟨rfl, rfl, rfl⟩
  have H4 := Lib.hid (H3.out.setS 0)
  have G4 := Lib.hid (grown_set (grown_set (grown_drew G2.out) 2 (.int .u32 1)) 3 (.int .i32 0))
  simp [Leaves, settle, results, Try.results23]
  exact ⟨H4.out, G4.out⟩

set_option maxRecDepth 100000 in
theorem do_first (b : Nat) (m : Bool) (r : Int) (t : Nat → Int) (w : World) (h : SumAt w b m r 0 0 t) :
    Calls Try.prog 17 #[.pointer (some ⟨b, 2, none⟩), .func (.func 18) #[.pointer (some ⟨b, 0, none⟩)] #[]] w fun e w' => e = .returned (.tuple #[]) ∧ SumAt w' b m r 1 0 full ∧ w.grownBy w' (some b) := by
  have hnot : ∀ (x : Bool) (w : World), (Op.unary .not (.bool x)).run Try.prog w = .ok (.bool (!x)) w := fun _ _ => rfl
  have H := Lib.hid h
  clear h
  go_enter Try.func17, Try.ntmps17
  go_wp2_with fail
  refine (load_0 ⟨b, 2, none⟩ _ H.out.c2).mono ?_
  rintro e w' ⟨rfl, rfl⟩
  go_wp2_with fail
  refine (slow_first b m r t _ H.out).mono ?_
  rintro e w2 ⟨rfl, hs, hg⟩
  go_wp2_with fail
  go_end0
  exact ⟨rfl, hs, hg⟩

set_option maxRecDepth 100000 in
theorem do_done (b : Nat) (m : Bool) (r : Int) (t : Nat → Int) (v : Value) (w : World) (h : SumAt w b m r 1 0 t) :
    Calls Try.prog 17 #[.pointer (some ⟨b, 2, none⟩), v] w fun e w' => e = .returned (.tuple #[]) ∧ w = w' := by
  have hnot : ∀ (x : Bool) (w : World), (Op.unary .not (.bool x)).run Try.prog w = .ok (.bool (!x)) w := fun _ _ => rfl
  have H := Lib.hid h
  clear h
  go_enter Try.func17, Try.ntmps17
  go_wp2_with fail
  refine (load_1 ⟨b, 2, none⟩ _ H.out.c2).mono ?_
  rintro e w' ⟨rfl, rfl⟩
  go_wp2_with fail
  go_end0
  exact ⟨rfl, rfl⟩
end Go.Proofs.Ytoaaailgfdcflaa
