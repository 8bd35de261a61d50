/- A slice of pieces that came in, opened. Conditions: none. -/
import Derived.Test.YtjihgpjpmfeakaaRdN
import Derived.Deep.Slices
import Derived.Deep.Fields
import Derived.ChangeSame
namespace Go.Proofs.Ytjihgpjpmfeakaa
open Go.RowKit Go.ChangeShapes Go.WideShapes Go.Deep
set_option linter.unusedVariables false

theorem cells_pc : Try.prog.cellsOf 30 = 5 := by kernel_rfl
theorem cells_i : Try.prog.cellsOf 3 = 1 := by kernel_rfl
theorem cells_l : Try.prog.cellsOf 2 = 1 := by kernel_rfl
theorem cells_s : Try.prog.cellsOf 9 = 1 := by kernel_rfl

section
variable {H : Type} {enc : TypeId × Value → H} {w : World} {base : Nat} {spare : Nat → Bool} {held : Bool}
/-- One piece's cells. -/
theorem pc_open {fuel : Nat} {cs : List Value} {x : DataW H × List MemPlace} (h : DataW.trod enc Try.prog w base spare held fuel 30 cs = some x) (hl : cs.length = 5) :
    ∃ p : Pc, cs = [.int .i64 p.d, .int .i64 p.n, .int .i64 p.z, .int .i64 p.i, .string p.s] ∧ I64 p.n ∧ I64 p.i ∧ p.s.size ≤ 9223372036854775807 := by
  obtain ⟨ys, m, _, _, _, hy, hf⟩ := DataW.trod_struct Try.underlying30 h
  match cs, hl with
  | [v0, v1, v2, v3, v4], _ =>
    match ys, hy with
    | [y0, y1, y2, y3, y4], _ =>
      have t0 := hf 0 _ rfl
      have t1 := hf 1 _ rfl
      have t2 := hf 2 _ rfl
      have t3 := hf 3 _ rfl
      have t4 := hf 4 _ rfl
      simp [cells_i, cells_l, cells_s] at t0 t1 t2 t3 t4
      obtain ⟨d, e0, _, _⟩ := DataW.trod_int Try.underlying3 t0
      obtain ⟨n, e1, _, w1⟩ := DataW.trod_int Try.underlying3 t1
      obtain ⟨z, e2, _, _⟩ := DataW.trod_int Try.underlying3 t2
      obtain ⟨i, e3, _, w3⟩ := DataW.trod_int Try.underlying2 t3
      obtain ⟨s, e4, _, w4⟩ := DataW.trod_string Try.underlying9 t4
      injection e0 with e0
      injection e1 with e1
      injection e2 with e2
      injection e3 with e3
      injection e4 with e4
      subst e0 e1 e2 e3 e4
      exact ⟨⟨d, n, z, i, s⟩, rfl, wf_i64 w1, wf_i64 w3, w4⟩

theorem pcs_open {fuel : Nat} {A : Option Addr} {n c : Nat} {x : DataW H × List MemPlace} (h : DataW.trod enc Try.prog w base spare held fuel 23 [.slice A n c] = some x) : ∃ f, Pcs w A n c f := by
  rcases open_slice Try.underlying23 h with ⟨hcs, _⟩ | ⟨a, len, cap, m, nn, D, Pl, hcs, _, hl, hm, hmm, _, hi⟩
  · simp at hcs
    obtain ⟨rfl, rfl, rfl⟩ := hcs
    exact ⟨fun _ => ⟨0, 0, 0, 0, .empty⟩, Nat.le_refl _, by decide, fun h => absurd h (by omega)⟩
  · simp at hcs
    obtain ⟨rfl, rfl, rfl⟩ := hcs
    have hnm : n ≤ m := by rw [hmm]; split <;> omega
    have hone : ∀ i, i < n → ∃ p : Pc, (∀ j v, [Value.int .i64 p.d, .int .i64 p.n, .int .i64 p.z, .int .i64 p.i, .string p.s][j]? = some v → w.cell? (a.add (i * 5 + j)) = some v) ∧ I64 p.n ∧ I64 p.i ∧ p.s.size ≤ 9223372036854775807 := by
      intro i him
      obtain ⟨cs', hc, ht⟩ := hi i (by omega)
      rw [cells_pc] at hc
      obtain ⟨_, hcl, hat⟩ := World.cells?_some hc
      obtain ⟨p, e, hp⟩ := pc_open ht hcl
      refine ⟨p, fun j v hj => ?_, hp⟩
      have hj5 : j < 5 := by
        rcases Nat.lt_or_ge j 5 with h | h
        · exact h
        · rw [List.getElem?_eq_none (by simpa using h)] at hj; cases hj
      rw [← Go.Deep.add_add, hat j hj5, e, hj]
    obtain ⟨f, hf⟩ := choose_lt (α := Pc) hone
    refine ⟨f, hl, hm, fun hn => ?_⟩
    obtain ⟨b, off, spot⟩ := a
    have h0 := (hf 0 hn).1 0 _ rfl
    have hspot : spot = none := by simpa [Addr.add] using World.cell?_spot h0
    subst hspot
    have hadd : ∀ i, (⟨b, off, none⟩ : Addr).add i = ⟨b, off + i, none⟩ := fun i => by unfold Addr.add; split <;> simp_all
    refine ⟨b, off, rfl, World.block_lt_of_cell? w _ ((hadd 0) ▸ h0), fun i hi => ?_⟩
    obtain ⟨hc, hp⟩ := hf i hi
    refine ⟨⟨?_, ?_, ?_, ?_, ?_⟩, hp⟩
    · have := hc 0 _ rfl; rwa [hadd] at this
    · have := hc 1 _ rfl; rwa [hadd] at this
    · have := hc 2 _ rfl; rwa [hadd] at this
    · have := hc 3 _ rfl; rwa [hadd] at this
    · have := hc 4 _ rfl; rwa [hadd] at this
end
end Go.Proofs.Ytjihgpjpmfeakaa
