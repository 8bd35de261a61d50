/- slices.Reverse of variables, slices.Grow of them at this program: the layings as the kit's commands print them, and contracts over them. Conditions: each theorem's own. -/
import Derived.Shelf.SlicesQ.Reverse
import Derived.Ground.SlgnProg
import Derived.Shelf.Spec.SlicesGrow
import Derived.Ground.Names8Prog
import Derived.Test.YtapnodhgjfbjjaaGreatPgU1
namespace Go.Proofs.YtapnodhgjfbjjaaGreat
open Go.Shelf Go.RowKit Go.Lib Go.Sort
set_option linter.unusedVariables false
set_option linter.unusedSimpArgs false

def revD_ren : Go.Shelf.Ren := ⟨fun | 35 => 29 | n => n, fun | 22 => 33 | 23 => 48 | 3 => 3 | 4 => 4 | 0 => 0 | n => n, fun | n => n⟩
theorem revD : Go.Proofs.SlLaysE0.n35 Tryz.prog revD_ren := {
  mixed := by kernel_rfl
  f35 := ⟨Tryz.f29.name, by decide, Tryz.func29.trans (congrArg some (by kernel_rfl))⟩
  t0 := Tryz.underlying0
  a0 := Tryz.isAgg0
  z0 := Tryz.sizeOf0
  v0 := Tryz.zeroValue0
  t3 := Tryz.underlying3
  a3 := Tryz.isAgg3
  z3 := Tryz.sizeOf3
  v3 := Tryz.zeroValue3
  t4 := Tryz.underlying4
  a4 := Tryz.isAgg4
  z4 := Tryz.sizeOf4
  v4 := Tryz.zeroValue4
  t22 := Tryz.underlying33
  a22 := Tryz.isAgg33
  z22 := Tryz.sizeOf33
  v22 := Tryz.zeroValue33 }
def growD_ren : Go.Shelf.Ren := ⟨fun | 4 => 63 | n => n, fun | 22 => 33 | 25 => 48 | 3 => 3 | 4 => 4 | 9 => 9 | 20 => 20 | 0 => 0 | n => n, fun | n => n⟩
theorem growD : Go.Proofs.Lays8.n4 Tryz.prog growD_ren := {
  mixed := by kernel_rfl
  f4 := ⟨Tryz.f63.name, by decide, Tryz.func63.trans (congrArg some (by kernel_rfl))⟩
  t0 := Tryz.underlying0
  a0 := Tryz.isAgg0
  z0 := Tryz.sizeOf0
  v0 := Tryz.zeroValue0
  t3 := Tryz.underlying3
  a3 := Tryz.isAgg3
  z3 := Tryz.sizeOf3
  v3 := Tryz.zeroValue3
  t4 := Tryz.underlying4
  a4 := Tryz.isAgg4
  z4 := Tryz.sizeOf4
  v4 := Tryz.zeroValue4
  t9 := Tryz.underlying9
  a9 := Tryz.isAgg9
  z9 := Tryz.sizeOf9
  v9 := Tryz.zeroValue9
  t20 := Tryz.underlying20
  a20 := Tryz.isAgg20
  z20 := Tryz.sizeOf20
  v20 := Tryz.zeroValue20
  t22 := Tryz.underlying33
  a22 := Tryz.isAgg33
  z22 := Tryz.sizeOf33
  v22 := Tryz.zeroValue33 }
theorem dcL_len (d : Dc) : (dcL d).length = 6 := rfl
theorem dcL_ones (d : Dc) : ∀ v ∈ dcL d, v.oneCell' = true := by
  intro v hv
  simp only [dcL, List.mem_cons, List.not_mem_nil, or_false] at hv
  rcases hv with rfl | rfl | rfl | rfl | rfl | rfl <;> rfl
/-- A row of the call's own holds its variables. -/
theorem holds_own {w : World} {g cap n : Nat} {cur : Array Value} {l : List Dc} (hh : w.heap[g]? = some (.cells cur 48 (0, 0))) (hln : l.length = n) (hnc : n ≤ cap) (hcs : cur.size = cap * 6) (ht : cur.toList.take (n * 6) = flD l) :
    HoldsK dcL 6 w g 0 l.toArray := by
  intro j hj
  rw [size_flatK] at hj
  have hj' : j < n * 6 := by rw [← hln]; simpa using hj
  refine ⟨?_, ?_⟩
  · rw [get_flatK _ _ _ _ hj]
    unfold World.cell?
    simp only [Nat.zero_add]
    rw [hh]
    have h1 : cur.toList[j]? = (flD l)[j]? := by rw [← ht, List.getElem?_take_of_lt hj']
    have h2 := flD_at l (j / 6) (j % 6) (by omega) (Nat.mod_lt _ (by omega))
    rw [show j / 6 * 6 + j % 6 = j by omega] at h2
    have h3 : j / 6 < l.length := by omega
    show cur[j]? = _
    rw [← Array.getElem?_toList, h1, h2, List.getElem?_eq_getElem h3]
    rw [getElem!_pos l.toArray (j / 6) (by simpa using h3)]
    simp only [Option.getD_some, List.getElem_toArray]
    rw [List.getElem?_eq_getElem (by rw [dcL_len]; omega)]
    show some _ = some (id _)
    rw [getElem!_pos (dcL l[j / 6]) (j % 6) (by rw [dcL_len]; omega)]
    rfl
  · unfold World.frozen?
    simp only [Nat.zero_add]
    rw [hh]
    simp

set_option maxRecDepth 100000 in
theorem slRevD (base n : Nat) (v : Value) (l : List Dc) (w : World) (h : w.ownsRow base 48 6 v n (flD l)) (hn : n ≤ 9223372036854775807) :
    Calls Tryz.prog 29 #[v] w fun e w' => e = .returned (.tuple #[]) ∧ Below base w w' ∧ ∃ A c, v = .slice A n c ∧ RdD w' A n l.reverse := by
  have hln : l.length = n := by
    have := h.1
    rw [flD_len] at this
    omega
  rcases h.2 with ⟨rfl, rfl⟩ | ⟨g, cap, cur, rfl, hg, hh, hnc, hcm, hcs, ht⟩
  · refine (AnyQ.slices_Reverse_empty revD none 0 w).mono ?_
    rintro e w' ⟨rfl, rfl⟩
    obtain rfl : l = [] := List.eq_nil_of_length_eq_zero hln
    exact ⟨rfl, Below.refl _ _, none, 0, rfl, RdS.nil_ _ _ _⟩
  · have hH := holds_own hh hln hnc hcs ht
    have hsz : l.toArray.size = n := by simpa using hln
    have hC := AnyQ.slices_Reverse revD 6 Tryz.isAgg48 Tryz.sizeOf48 dcL dcL_len dcL_ones g 0 cap l.toArray w hH (by rw [hsz]; exact hn)
    rw [hsz] at hC
    refine hC.mono ?_
    rintro e w' ⟨rfl, m, rfl⟩
    have hH2 := holdsK_putRowK dcL 6 (Sort.ahead w m) g 0 l.toArray l.toArray.reverse (holdsK_ahead dcL 6 w m g 0 l.toArray hH) (by simp)
    have hgs : g < w.heap.size := (Array.getElem?_eq_some_iff.1 hh).1
    refine ⟨rfl, ⟨rfl, rfl, rfl, by simp [putRowK], fun k hk => ?_⟩, some ⟨g, 0, none⟩, cap, rfl, by simpa using hln, hn, fun hp => ⟨g, 0, rfl, by simpa [putRowK] using hgs, fun i hi => ?_⟩⟩
    · show (putRow id (Sort.ahead w m) g 0 _).heap[k]? = _
      unfold putRow mapBlock
      show (w.heap.modify g _)[k]? = _
      rw [Array.getElem?_modify, if_neg (by omega)]
    · intro j u hu
      have hr : l.reverse[i]?.getD default = l.toArray.reverse[i]! := by
        rw [getElem!_pos l.toArray.reverse i (by simp; omega), List.getElem?_eq_getElem (by simp; omega)]
        simp
      rw [hr] at hu
      have := HoldsK.cells hH2 dcL_len (i := i) (by simp; omega) j u hu
      simpa [Addr.add_lit] using this

set_option maxRecDepth 100000 in
theorem slGrowD (n : Nat) (w : World) (hn : n ≤ 1000000) :
    Calls Tryz.prog 63 #[.slice none 0 0, .int .i64 n] w fun e w' => ∃ v, e = .returned v ∧ w'.ownsRow w.heap.size 48 6 v 0 (flD []) ∧ Below w.heap.size w w' := by
  obtain ⟨i0, z0, hi, hz1, hz0, hz2, hz3⟩ := info_three infoDecl
  rcases Nat.eq_zero_or_pos n with rfl | hp
  · refine (Any8.slices_Grow_room growD none 0 0 0 w (Nat.le_refl _) (by omega) (by omega) (by omega)).mono ?_
    rintro e w' ⟨rfl, rfl⟩
    exact ⟨_, rfl, ⟨rfl, .inl ⟨rfl, rfl⟩⟩, Below.refl _ _⟩
  · refine (Any8.slices_Grow_grow growD i0 z0 hi hz1 (by omega) none 0 0 n [] w (Nat.le_refl _) (by omega) (by rw [hz2]; omega) (by omega) (by simp) (fun _ => rfl) (fun a h => by cases h)).mono ?_
    rintro e w' ⟨rfl, rfl⟩
    refine ⟨_, rfl, ⟨rfl, .inr ⟨w.heap.size, _, _, rfl, Nat.le_refl _, heap_alloc_new _ _, Nat.zero_le _, ?_, ?_, ?_⟩⟩, ?_⟩
    · exact grownCap_le_maxLen _ _ _ _ (by unfold maxLen; omega)
    · have := grownCap_ge w (0 + n) 0 48
      show (_ : Array Value).size = grownCap w (0 + n) 0 48 * 6
      simp only [Array.size_append, size_zeroCells, hz3, List.size_toArray, List.length_nil]
      rw [show growD_ren.t 25 = 48 from rfl]
      omega
    · rfl
    · exact (Below.refl _ _).drew.alloc (Nat.le_refl _) _
end Go.Proofs.YtapnodhgjfbjjaaGreat
