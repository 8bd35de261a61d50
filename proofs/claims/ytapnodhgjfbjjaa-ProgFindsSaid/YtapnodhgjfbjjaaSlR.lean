/- slices.Reverse of variables at this program: the layings as the kit's commands print them, and contracts over them. Conditions: each theorem's own. -/
import Derived.Shelf.SlicesQ.Reverse
import Derived.Ground.SlgnProg
import Derived.Test.YtapnodhgjfbjjaaPgH
namespace Go.Proofs.Ytapnodhgjfbjjaa
open Go.Shelf Go.RowKit Go.Lib Go.Sort
set_option linter.unusedVariables false
set_option linter.unusedSimpArgs false

def revD_ren : Go.Shelf.Ren := ⟨fun | 35 => 22 | n => n, fun | 22 => 35 | 23 => 32 | 3 => 3 | 4 => 4 | 0 => 0 | n => n, fun | n => n⟩
theorem revD : Go.Proofs.SlLaysE0.n35 Try.prog revD_ren := {
  mixed := by kernel_rfl
  f35 := ⟨Try.f22.name, by decide, Try.func22.trans (congrArg some (by kernel_rfl))⟩
  t0 := Try.underlying0
  a0 := Try.isAgg0
  z0 := Try.sizeOf0
  v0 := Try.zeroValue0
  t3 := Try.underlying3
  a3 := Try.isAgg3
  z3 := Try.sizeOf3
  v3 := Try.zeroValue3
  t4 := Try.underlying4
  a4 := Try.isAgg4
  z4 := Try.sizeOf4
  v4 := Try.zeroValue4
  t22 := Try.underlying35
  a22 := Try.isAgg35
  z22 := Try.sizeOf35
  v22 := Try.zeroValue35 }
theorem dcL_len (d : Dc) : (dcL d).length = 6 := rfl
theorem dcL_ones (d : Dc) : ∀ v ∈ dcL d, v.oneCell' = true := by
  intro v hv
  simp only [dcL, List.mem_cons, List.not_mem_nil, or_false] at hv
  rcases hv with rfl | rfl | rfl | rfl | rfl | rfl <;> rfl
/-- A row of the call's own holds its variables. -/
theorem holds_own {w : World} {g cap n : Nat} {cur : Array Value} {l : List Dc} (hh : w.heap[g]? = some (.cells cur 32 (0, 0))) (hln : l.length = n) (hnc : n ≤ cap) (hcs : cur.size = cap * 6) (ht : cur.toList.take (n * 6) = flD l) :
    HoldsK dcL 6 w g 0 l.toArray := by
  intro j hj
  rw [size_flatK] at hj
  have hj' : j < n * 6 := by rw [← hln]; simpa using hj
  refine ⟨?_, ?_⟩
  · rw [get_flatK _ _ _ _ hj]
    unfold World.cell?
    simp only [Nat.zero_add]
    rw [hh]
    have h1 : cur.toList[j]? = (flD l)[j]? := by rw [← ht, List.getElem?_take_of_lt hj']
    have h2 := flD_at l (j / 6) (j % 6) (by omega) (Nat.mod_lt _ (by omega))
    rw [show j / 6 * 6 + j % 6 = j by omega] at h2
    have h3 : j / 6 < l.length := by omega
    show cur[j]? = _
    rw [← Array.getElem?_toList, h1, h2, List.getElem?_eq_getElem h3]
    rw [getElem!_pos l.toArray (j / 6) (by simpa using h3)]
    simp only [Option.getD_some, List.getElem_toArray]
    rw [List.getElem?_eq_getElem (by rw [dcL_len]; omega)]
    show some _ = some (id _)
    rw [getElem!_pos (dcL l[j / 6]) (j % 6) (by rw [dcL_len]; omega)]
    rfl
  · unfold World.frozen?
    simp only [Nat.zero_add]
    rw [hh]
    simp

set_option maxRecDepth 100000 in
theorem slRevD (base n : Nat) (v : Value) (l : List Dc) (w : World) (h : w.ownsRow base 32 6 v n (flD l)) (hn : n ≤ 9223372036854775807) :
    Calls Try.prog 22 #[v] w fun e w' => e = .returned (.tuple #[]) ∧ Below base w w' ∧ ∃ A c, v = .slice A n c ∧ RdD w' A n l.reverse := by
  have hln : l.length = n := by
    have := h.1
    rw [flD_len] at this
    omega
  rcases h.2 with ⟨rfl, rfl⟩ | ⟨g, cap, cur, rfl, hg, hh, hnc, hcm, hcs, ht⟩
  · refine (AnyQ.slices_Reverse_empty revD none 0 w).mono ?_
    rintro e w' ⟨rfl, rfl⟩
    obtain rfl : l = [] := List.eq_nil_of_length_eq_zero hln
    exact ⟨rfl, Below.refl _ _, none, 0, rfl, RdS.nil_ _ _ _⟩
  · have hH := holds_own hh hln hnc hcs ht
    have hsz : l.toArray.size = n := by simpa using hln
    have hC := AnyQ.slices_Reverse revD 6 Try.isAgg32 Try.sizeOf32 dcL dcL_len dcL_ones g 0 cap l.toArray w hH (by rw [hsz]; exact hn)
    rw [hsz] at hC
    refine hC.mono ?_
    rintro e w' ⟨rfl, m, rfl⟩
    have hH2 := holdsK_putRowK dcL 6 (Sort.ahead w m) g 0 l.toArray l.toArray.reverse (holdsK_ahead dcL 6 w m g 0 l.toArray hH) (by simp)
    have hgs : g < w.heap.size := (Array.getElem?_eq_some_iff.1 hh).1
    refine ⟨rfl, ⟨rfl, rfl, rfl, by simp [putRowK], fun k hk => ?_⟩, some ⟨g, 0, none⟩, cap, rfl, by simpa using hln, hn, fun hp => ⟨g, 0, rfl, by simpa [putRowK] using hgs, fun i hi => ?_⟩⟩
    · show (putRow id (Sort.ahead w m) g 0 _).heap[k]? = _
      unfold putRow mapBlock
      show (w.heap.modify g _)[k]? = _
      rw [Array.getElem?_modify, if_neg (by omega)]
    · intro j u hu
      have hr : l.reverse[i]?.getD default = l.toArray.reverse[i]! := by
        rw [getElem!_pos l.toArray.reverse i (by simp; omega), List.getElem?_eq_getElem (by simp; omega)]
        simp
      rw [hr] at hu
      have := HoldsK.cells hH2 dcL_len (i := i) (by simp; omega) j u hu
      simpa [Addr.add_lit] using this
end Go.Proofs.Ytapnodhgjfbjjaa
