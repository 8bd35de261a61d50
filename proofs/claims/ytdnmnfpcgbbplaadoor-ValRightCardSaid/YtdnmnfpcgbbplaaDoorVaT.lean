/- Numbers that came in, opened; the powers of ten, out of a row's list. Conditions: none. -/
import Derived.Test.YtdnmnfpcgbbplaaDoorVaS
import Derived.Test.YtdnmnfpcgbbplaaDoorTyZ
import Derived.Test.YtdnmnfpcgbbplaaDoorApp
import Derived.LaidSub
namespace Go.Proofs.YtdnmnfpcgbbplaaDoor
open Go.RowKit Go.ChangeShapes Go.WideShapes Go.Deep
set_option linter.unusedVariables false

/-- The powers of ten lie as laid, where a row's list is met. -/
theorem tab_of_laid {W : World} (h : laidMetH Tryd.prog Rows.valTextsRow.laid W) : Tab W := by
  have h1 := h.filter (fun x => x.1 == powN)
  have e : Rows.valTextsRow.laid.filter (fun x => x.1 == powN) = [(powN, Lib.tabData .u64 Lib.pow10Tab)] := by kernel_rfl
  rw [e] at h1
  have h2 : laidMet Tryd.prog [(powN, Lib.tabData .u64 Lib.pow10Tab)] W := (laidMetH_iff.1 h1).1
  exact Lib.tabIs_of_head (t := 75) (e := 61) (n := 20) pow_named (by kernel_rfl) Tryd.underlying75 Tryd.underlying61 (by kernel_rfl) (by kernel_rfl) h2

theorem cells_i64 : Tryd.prog.cellsOf 2 = 1 := by kernel_rfl
theorem cells_i64s : Tryd.prog.cellsOf 25 = 1 := by kernel_rfl

section
variable {H : Type} {enc : TypeId × Value → H} {w : World} {base : Nat} {spare : Nat → Bool} {held : Bool}

theorem rd_of_cells {x : Addr} {n c : Nat} {zs : List Int} (hle : n ≤ c) (hm : c ≤ maxLen) (hz : n ≤ zs.length) (hc : ∀ i, i < zs.length → w.cell? (x.add i) = some (.int .i64 (zs.getD i 0))) (hwf : ∀ n ∈ zs, (Lit.int .i64 n).wf = true) : Rd .i64 w (some x) n c (zs.take n) := by
  refine ⟨by rw [List.length_take]; omega, hle, hm, fun z hz => hwf z (List.mem_of_mem_take hz), fun hn => ?_⟩
  obtain ⟨b, off, spot⟩ := x
  have h0 := hc 0 (by omega)
  have hspot : spot = none := by simpa [Addr.add] using World.cell?_spot h0
  subst hspot
  have hadd : ∀ i, (⟨b, off, none⟩ : Addr).add i = ⟨b, off + i, none⟩ := fun i => by unfold Addr.add; split <;> simp_all
  refine ⟨b, off, rfl, World.block_lt_of_cell? w _ h0, fun i hi => ?_⟩
  rw [← hadd, hc i (by omega), List.getElem?_take_of_lt hi, List.getD_eq_getElem?_getD]

/-- A list of numbers. -/
theorem ints_cells {fuel : Nat} {cs : List Value} {x : DataW H × List MemPlace} (h : DataW.trod enc Tryd.prog w base spare held fuel 25 cs = some x) : ∃ A n c zs, cs = [.slice A n c] ∧ Rd .i64 w A n c zs := by
  rcases Go.ChangeShapes.open_ints Tryd.underlying25 Tryd.underlying2 cells_i64 h with ⟨hcs, _⟩ | ⟨a, len, cap, zs, hcs, _, hl, hm, hz, _, hcell, hwf⟩
  · exact ⟨none, 0, 0, [], hcs, Rd.nil_ _ _⟩
  · exact ⟨some a, len, cap, zs.take len, hcs, rd_of_cells hl hm (by rw [hz]; split <;> omega) hcell hwf⟩
theorem ints_open {fuel : Nat} {A : Option Addr} {n c : Nat} {x : DataW H × List MemPlace} (h : DataW.trod enc Tryd.prog w base spare held fuel 25 [.slice A n c] = some x) : ∃ zs, Rd .i64 w A n c zs := by
  obtain ⟨A', n', c', zs, e, hR⟩ := ints_cells h
  simp at e
  obtain ⟨rfl, rfl, rfl⟩ := e
  exact ⟨zs, hR⟩

theorem cells_pair : Tryd.prog.cellsOf 34 = 2 := by kernel_rfl
theorem pair_cells {fuel : Nat} {cs : List Value} {x : DataW H × List MemPlace} (h : DataW.trod enc Tryd.prog w base spare held fuel 34 cs = some x) (hl : cs.length = 2) :
    ∃ A n c zs B m d ys, cs = [.slice A n c, .slice B m d] ∧ Rd .i64 w A n c zs ∧ Rd .i64 w B m d ys := by
  obtain ⟨xs, m, _, _, _, hn, hel⟩ := DataW.trod_array Tryd.underlying34 h
  match cs, hl with
  | [v0, v1], _ =>
    match xs, hn with
    | [x0, x1], _ =>
      have t0 := hel 0 (by omega)
      have t1 := hel 1 (by omega)
      simp [cells_i64s] at t0 t1
      obtain ⟨A, n, c, zs, e0, h0⟩ := ints_cells t0
      obtain ⟨B, m, d, ys, e1, h1⟩ := ints_cells t1
      simp at e0 e1
      subst e0 e1
      exact ⟨A, n, c, zs, B, m, d, ys, rfl, h0, h1⟩
theorem okWide_pair {v : Value} {r : Reach} {b0 : Nat} (h : Value.okWide Tryd.prog w r b0 34 v) : ∃ cs, v = .agg cs ∧ cs.size = Tryd.prog.cellsOf 34 := by
  simp only [Value.okWide, Tryd.underlying34] at h
  obtain ⟨cs, h1, h2, _⟩ := h
  exact ⟨cs, h1, h2⟩
theorem pair_open {v : Value} {d : DataW H} {ps : List MemPlace} {r : Reach} {b0 : Nat} (hv : Value.okWide Tryd.prog w r b0 34 v) (h : DataW.Trod enc Tryd.prog w base spare held 34 v d ps) :
    ∃ A n c zs B m d' ys, v = .agg #[.slice A n c, .slice B m d'] ∧ Rd .i64 w A n c zs ∧ Rd .i64 w B m d' ys := by
  obtain ⟨cs, rfl, hs⟩ := okWide_pair hv
  obtain ⟨fuel, hf⟩ := h
  rw [cells_pair] at hs
  obtain ⟨A, n, c, zs, B, m, d', ys, e1, h0, h1⟩ := pair_cells hf (by simpa [Value.cells] using hs)
  refine ⟨A, n, c, zs, B, m, d', ys, ?_, h0, h1⟩
  congr 1
  apply Array.toList_inj.1
  simpa [Value.cells] using e1
end
end Go.Proofs.YtdnmnfpcgbbplaaDoor
