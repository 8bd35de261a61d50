/- What lex's mark returns. Conditions: that the variables lie as laid. -/
import Derived.Test.YtkgeigckekccgaaDoorLxB
namespace Go.Proofs.YtkgeigckekccgaaDoor
open Go.RowKit Go.Sort
set_option linter.unusedVariables false

theorem marks_info : (Tryd.prog.info? 59).map (·.size) = some marksA.size := by kernel_rfl

theorem mark_at (k : Nat) (h : k < 21) : ∃ m : List UInt8, marksA[k]? = some (.string (ofL m)) ∧ marksL.drop k = m :: marksL.drop (k + 1) ∧ m.length ≤ 2 := by
  have h2 : k < marksL.length := h
  have h3 : ∀ m ∈ marksL, m.length ≤ 2 := by decide
  refine ⟨marksL[k]'h2, ?_, List.drop_eq_getElem_cons h2, h3 _ (List.getElem_mem _)⟩
  simp [marksA, List.getElem?_eq_getElem h2]

theorem idx_marks (ms : Array Value) (k : Nat) (h : k < 21) (x : ByteArray) (hx : ms[k]? = some (.string x)) (W : World) :
    (Instr.index 59 (.agg ms) (.int .i64 (k : Int))).run Tryd.prog W = .ok (.string x) W := by
  simp [Instr.index, run_underlying Tryd.underlying59, asIntOf, h, hx, go_sem]

set_option maxHeartbeats 2000000 in
set_option maxRecDepth 100000 in
theorem lxMark (s : ByteArray) (w : World) (hs : s.size ≤ 281474976710656) (hv : Vars w) :
    Calls Tryd.prog 27 #[.string s] w fun e w' => e = .returned (tkR (markT s.data.toList)) ∧ Below w.heap.size w w' := by
  have HG0 : Hid (Row4 35 (w.alloc (.cells #[.int .i64 0, .string ⟨#[]⟩, .int .i64 0, .int .i64 0] 35)) w.heap.size tk0) := Lib.hid (Row4.new _ w tk0)
  have HB0 : Hid (Below w.heap.size w (w.alloc (.cells #[.int .i64 0, .string ⟨#[]⟩, .int .i64 0, .int .i64 0] 35))) := Lib.hid ((Below.refl _ _).alloc (Nat.le_refl _) _)
  obtain ⟨T, fr, hm⟩ := (hv.below HB0.out).marks
  have HM := Lib.hid hm
  clear hm hv
  go_enter Tryd.func27, Tryd.ntmps27
  go_upto_region 1 with (fail)
  generalize (w.alloc (.cells #[.int .i64 0, .string ⟨#[]⟩, .int .i64 0, .int .i64 0] 35)) = w1 at *
  go_wp2_with (refine wpList_load_row rfl _ _ rfl (0 : Nat) rfl T _ fr _ HM.out Tryd.underlying59 rfl marks_info ?_)
  clear HM
  have hsz : marksA.size = 21 := rfl
  have HMA := Lib.hid mark_at
  generalize marksA = ms at *
  go_loop [7] (fun i => ∃ k : Nat, k ≤ 21 ∧ i = .int .i64 k ∧ markL s.data.toList = (marksL.drop k).find? fun m => m.isPrefixOf s.data.toList) (fun i => 21 - (intOf i).toNat)
  case atStart => exact ⟨0, by omega, rfl, rfl⟩
  case round =>
    obtain ⟨k, hk, rfl, hrel⟩ := hrel
    have HR := Lib.hid hrel
    clear hrel
    by_cases hlt : k < 21
    · obtain ⟨m, hm, hml, hms⟩ := HMA.out k hlt
      have HML := Lib.hid hml
      clear hml
      have hix := idx_marks ms k hlt (ofL m) hm
      clear hm
      have hm2 : (ofL m).size = m.length := ofL_size m
      by_cases hp : m.isPrefixOf s.data.toList = true
      · have HE : Hid (tkR (markT s.data.toList) = .tuple #[tkV ⟨5, m, 0, 0⟩, .int .i64 (m.length : Nat)]) := Lib.hid (by
          rw [markT, HR.out, HML.out, List.find?_cons_of_pos (by exact hp)]; rfl)
        have HC := Lib.hid (libPrefix s (ofL m) w1)
        rw [ofL_list, hp] at HC
        clear hp
        go_wp2_with fail
        refine HC.out.mono ?_
        rintro e w' ⟨rfl, rfl⟩
        go_wp2_with (refine wpList_store_row rfl _ _ _ rfl w.heap.size _ rfl rfl _ _ HG0.out tk_info rfl (by simp [Value.oneCell']) ?_)
        rw [HE.out]
        exact bodyPost_ret (res_tk2 (p := 2) (u := 3) rfl _ _ w.heap.size ⟨5, m, 0, 0⟩ rfl (HG0.out.set ⟨5, m, 0, 0⟩)) rfl ⟨rfl, below_setRow HB0.out (Nat.le_refl _) _⟩
      · have hp : m.isPrefixOf s.data.toList = false := Bool.eq_false_iff.2 hp
        have HE := Lib.hid (show markL s.data.toList = (marksL.drop (k + 1)).find? fun m => m.isPrefixOf s.data.toList by
          rw [HR.out, HML.out, List.find?_cons_of_neg (by show ¬ m.isPrefixOf s.data.toList = true; rw [hp]; simp)])
        have HC := Lib.hid (libPrefix s (ofL m) w1)
        rw [ofL_list, hp] at HC
        clear hp
        go_wp2_with fail
        refine HC.out.mono ?_
        rintro e w' ⟨rfl, rfl⟩
        go_wp2_with fail
        go_round
        case rel => exact ⟨k + 1, by omega, by go_num, HE.out⟩
        case measure => simp [intOf]; omega
    · obtain rfl : k = 21 := by omega
      have HE : Hid (tkR (markT s.data.toList) = .tuple #[tkV tk0, .int .i64 0]) := Lib.hid (by rw [markT, HR.out]; rfl)
      go_wp2_with (refine wpList_store_row rfl _ _ _ rfl w.heap.size _ rfl rfl _ _ HG0.out tk_info rfl (by simp [Value.oneCell']) ?_)
      rw [HE.out]
      exact bodyPost_ret (res_tk2 (p := 2) (u := 3) rfl _ _ w.heap.size tk0 rfl (HG0.out.set tk0)) rfl ⟨rfl, below_setRow HB0.out (Nat.le_refl _) _⟩
end Go.Proofs.YtkgeigckekccgaaDoor
