/- Whether no name of enums, and no constructor, is there twice: of the program's text. Conditions: at most 100 enums, and 12 constructors of each. -/
import Derived.Test.YtccpihpfpobjpaaDoorTyN
import Derived.RangeFuncBox
import Derived.Maps.AppendAt
namespace Go.Proofs.YtccpihpfpobjpaaDoor
open Go.RowKit Go.Shelf
set_option linter.unusedVariables false
attribute [local go_sem] Oper.semAt_some

/-- The enums' names. -/
def nmsE (es : List En) : List ByteArray := es.map (·.1)
def apartB (es : List En) : Bool := onceS (nmsE es) && onceS (allE es)
/-- How great enums may be, here. -/
def EsFew (es : List En) : Prop := es.length ≤ 8 ∧ ∀ j, j < es.length → (csE es j).length ≤ 12

section
variable {es : List En}
theorem EsFew.flat (h : EsFew es) : (flatE es).length ≤ 96 := by
  have h1 := namesTo_len (es := es) (i := es.length) h.2
  have h2 : (namesTo es es.length).length = (flatE es).length := by simp [namesTo, flatE]
  have := h.1
  omega
theorem EsOk.nms (h : EsOk es) : ∀ s ∈ nmsE es, s.size ≤ maxLen := by
  intro s hs
  obtain ⟨e, he, rfl⟩ := List.mem_map.1 hs
  obtain ⟨j, hj, rfl⟩ := List.getElem_of_mem he
  have := (h j hj).1
  unfold nmE at this
  rwa [List.getElem?_eq_getElem hj] at this
theorem EsOk.all (h : EsOk es) : ∀ s ∈ allE es, s.size ≤ maxLen := by
  intro s hs
  obtain ⟨p, hp, rfl⟩ := List.mem_map.1 hs
  exact h.flat p hp
theorem nmsE_len : (nmsE es).length = es.length := by simp [nmsE]
theorem nmsE_succ {k : Nat} (h : k < es.length) : (nmsE es).take (k + 1) = (nmsE es).take k ++ [nmE es k] := by
  rw [take_snocT (by rw [nmsE_len]; exact h)]
  unfold nmsE
  rw [nm_map]
end

theorem infoString : (Tryd.prog.info? 9).map (fun i => (i.zero, i.size, i.bytes)) = some (some (.string ByteArray.empty), 1, 16) := by kernel_rfl

theorem string_cells (l : List ByteArray) : ∀ u ∈ l.map Value.string, u.oneCell' = true := by
  intro u hu
  simp only [List.mem_map] at hu
  obtain ⟨z, _, rfl⟩ := hu
  rfl

theorem cell_one_new2 (w : World) (o : Obj) (v : Value) (T : TypeId) (h : o.isCells = true ∨ True) : ∀ j u, [v][j]? = some u → ((w.alloc o).alloc (.cells #[v] T)).cell? ((⟨w.heap.size + 1, 0, none⟩ : Addr).add j) = some u := by
  have := cell_one_new (w.alloc o) v T
  simpa using this

/-- A row of its own abides the turn of a block that is no cells. -/
theorem row_own {β : Type} (base : Nat) (e : TypeId) (size : Nat) (v : Value) (k : Nat) (xs : List Value) : Own (fun (_ : β) W => W.ownsRow base e size v k xs) := fun s X Y row hs hg hrow => by
  refine hs.kept hg ?_
  rcases hs.2 with ⟨rfl, _⟩ | ⟨g, cap, cur, rfl, _, hgb, _⟩
  · exact .inl rfl
  · refine .inr fun e' => ?_
    obtain ⟨o, ho, hc⟩ := hrow g (by simpa [Value.ownBlock] using e'.symm)
    rw [hgb] at ho; cases ho; cases hc

/-- Behind an append to a row that a box holds, and the store of it: as Boxed.appended, with another bound for the world; another row stays. -/
theorem boxed_appended {W w1 : World} {n₀ m₀ B : Nat} {t e : TypeId} {size : Nat} {v v' : Value} {k m : Nat} {xs ys : List Value} {tmp : Obj}
    (hv : Boxed W B t v) (hte : t ≠ e) (hrow : W.ownsRow n₀ e size v k xs) (hn₀ : n₀ ≤ W.heap.size) (hm : m₀ ≤ n₀) (hB : m₀ ≤ B)
    (hown' : w1.ownsRow n₀ e size v' m ys) (hgrow : (W.alloc tmp).grownBy w1 v.ownBlock) :
    Boxed w1 B t v ∧ Boxed (w1.setCell ⟨B, 0, none⟩ v') B t v' ∧ (w1.setCell ⟨B, 0, none⟩ v').ownsRow n₀ e size v' m ys ∧ KeepsOthers W (w1.setCell ⟨B, 0, none⟩ v') ∧ Below m₀ W (w1.setCell ⟨B, 0, none⟩ v') ∧
      ∀ {base sz : Nat} {u : Value} {ku : Nat} {us : List Value}, W.ownsRow base e sz u ku us → (∀ g, u.ownBlock = some g → g < n₀) → (w1.setCell ⟨B, 0, none⟩ v').ownsRow base e sz u ku us := by
  have hv1 : Boxed w1 B t v := (hv.alloc tmp).kept hgrow (hv.not_row hte hrow)
  refine ⟨hv1, hv1.set v', hown'.kept (grownBy_setCell' w1 B v') (.inr (hv1.not_row hte hown').symm), ?_, ?_, ?_⟩
  · refine ((KeepsOthers.alloc W tmp).trans (KeepsOthers.of_grownBy hgrow fun j o ej hj => ?_)).trans (KeepsOthers.setCell _ _ _)
    rcases (hrow.alloc tmp).2 with ⟨rfl, _⟩ | ⟨g, cap, cur, rfl, _, hgb, _⟩
    · simp [Value.ownBlock] at ej
    · obtain rfl : g = j := by simpa [Value.ownBlock] using ej
      rw [hgb] at hj; cases hj; rfl
  · refine (((Below.refl m₀ W).alloc (by omega) tmp).grown hgrow (by simp; omega) fun j ej => ?_).setCell (p := ⟨B, 0, none⟩) hB v'
    have := (hrow.lt j ej).1
    omega
  · intro base sz u ku us hu hlt
    have h2 : w1.ownsRow base e sz u ku us := (hu.alloc tmp).kept hgrow (by
      rcases hub : u.ownBlock with _ | g
      · exact .inl rfl
      · refine .inr fun e' => ?_
        have h3 := hlt g hub
        have h4 := (hrow.lt g e'.symm).1
        omega)
    exact h2.kept (grownBy_setCell' w1 B v') (.inr (hv1.not_row hte h2).symm)

set_option maxRecDepth 100000 in
set_option maxHeartbeats 4000000 in
theorem tyApart_in (n : Nat) (hn : 6 ≤ n) (A : Option Addr) (len cap : Nat) (es : List En) (w : World) (hE : RdE w A len es) (hok : EsOk es) (hfew : EsFew es) :
    CallsIn Fence.wide n Tryd.prog 26 #[.slice A len cap] w fun e w' => e = .returned (.bool (apartB es)) ∧ Below w.heap.size w w' := by
  have h1 : 1 ≤ n := by omega
  have hlen := hE.len
  have hmx := hE.max
  have hl8 := hfew.1
  obtain ⟨i0, hi, hz0, hz1, hz2⟩ := info_parts infoString
  refine callsIn_of_wp_marks Tryd.func26 rfl trivial ?_ rfl
  simp only [Tryd.ntmps26, List.size_toArray, List.length_cons, List.length_nil, Nat.reduceAdd, Nat.reduceSub, Array.replicate_succ, Array.replicate_zero, List.push_toArray, List.append_toArray, List.nil_append, List.cons_append]
  gi_wp2_with fail
  gi_loopw [3, 11] (fun v i wr => ∃ k : Nat, k ≤ len ∧ i = .int .i64 k ∧ wr.ownsRow (w.heap.size + 1) 9 1 v k (((nmsE es).take k).map Value.string) ∧ Boxed wr w.heap.size 41 (.slice none 0 0) ∧ Below w.heap.size w wr)
    (fun _ i _ => len - (intOf i).toNat)
  case atStart => exact ⟨0, Nat.zero_le _, rfl, World.ownsRow_nil _ _ _ _, Boxed.new _ _ _, (Below.refl _ _).alloc (Nat.le_refl _) _⟩
  case round =>
    obtain ⟨k, hk, rfl, hrow, hbx, hnx⟩ := hrel
    have hblt := hbx.lt
    by_cases hlt : k < len
    · obtain ⟨b, off, rfl, hb, hc⟩ := hE.at_ hlt
      obtain ⟨hn0, A', n', c', hs0, hR0⟩ := hc k hlt
      have hn1 : wr.cell? ⟨b, off + k * 2, none⟩ = some (.string (nmE es k)) := (hnx.cell (p := ⟨b, off + k * 2, none⟩) hb).trans hn0
      have hs1 : wr.cell? ⟨b, off + k * 2 + 1, none⟩ = some (.slice A' n' c') := (hnx.cell (p := ⟨b, off + k * 2 + 1, none⟩) hb).trans hs0
      have hkl : k < es.length := by omega
      have hNM := Lib.hid (nmsE_succ hkl)
      generalize hxn : nmE es k = x at hn1 hNM
      gi_wp2_with (gi_at_builtin; refine wpListIn_append_own _ rfl _ _ 41 rfl (w.heap.size + 1) 9 i0 (.string ByteArray.empty) 1 16 Tryd.underlying41 hi hz0 hz1 hz2 rfl (by decide) _ _ _ rfl ((hrow.alloc _).alloc _) ⟨wr.heap.size + 1, 0, none⟩ 1 1 [.string x] rfl rfl (cell_one_new2 _ _ _ _ (.inr trivial)) (string_cells [x]) (by unfold maxLen; omega) (by omega) (by simp; omega) ?_; intro v' w1 hown' hgrow _)
      have HO := Lib.hid hown'
      have hbx1 := (hbx.alloc (.cells #[.string x, .slice A' n' c'] 43)).alloc (.cells #[.string x] 9)
      have HB1 := Lib.hid (hbx1.kept hgrow (hbx1.not_row (by decide) ((hrow.alloc _).alloc _)))
      have HG := Lib.hid ((((hnx.alloc hnx.size (.cells #[.string x, .slice A' n' c'] 43))).alloc (by have := hnx.size; simp; omega) (.cells #[.string x] 9)).grown hgrow (by have := hnx.size; simp; omega) (fun j hj => by have := (hrow.lt j hj).1; omega))
      clear hown' hgrow hbx1 hrow
      go_roundw
      case rel => exact ⟨k + 1, by omega, by go_num, by rw [hNM.out, List.map_append]; exact HO.out, HB1.out, HG.out⟩
      case measure => simp [intOf]; omega
    · obtain rfl : k = len := by omega
      gi_wp2_with fail
      refine ⟨trivial, (callsIn_wide.2 (tyCtors _ _ _ _)).mono ?_⟩
      rintro e w' ⟨rfl, rfl⟩
      gi_wp2_with fail
      have b4 := Boxed.new wr 22 (.slice A k cap)
      have hbx4 := hbx.alloc (.cells #[.slice A k cap] 22)
      have hrow4 := hrow.alloc (.cells #[.slice A k cap] 22)
      have hB0 := hnx.alloc hnx.size (.cells #[.slice A k cap] 22)
      have hsz : (wr.alloc (.cells #[.slice A k cap] 22)).heap.size = wr.heap.size + 1 := by simp
      have hlb := hbx.lt
      have hws := hnx.size
      have hu3 : ∀ g, u3.ownBlock = some g → g < wr.heap.size + 1 := fun g hg => by have := (hrow.lt g hg).2; omega
      have hk12 := hfew.flat
      obtain ⟨W0, hW0⟩ : ∃ W0, wr.alloc (.cells #[.slice A k cap] 22) = W0 := ⟨_, rfl⟩
      rw [hW0] at b4 hbx4 hrow4 hB0 hsz ⊢
      clear hW0 hrow hbx hnx
      refine wpIn_rangeFunc_ownG rfl h1 (gf := 40) (lb := #[.pointer (some ⟨wr.heap.size, 0, none⟩)]) rfl trivial (enters_of Tryd.func40 (by kernel_rfl) rfl)
        (tyIter_stops (n - 1) (by omega) wr.heap.size w A k cap es hE W0 hB0 (by omega) b4.cell) belowK_t (belowK_b (by omega)) (Below.refl _ _) (fun _ => rfl)
        (fun pre W => ((∃ v, Boxed W w.heap.size 41 v ∧ W.ownsRow (wr.heap.size + 1) 9 1 v pre.length (pre.map fun p => Value.string p.2.2) ∧ True) ∧ W.ownsRow (w.heap.size + 1) 9 1 u3 k (((nmsE es).take k).map Value.string) ∧ wr.heap.size + 1 ≤ W.heap.size) ∧ Below w.heap.size w W)
        (fun _ _ _ => False)
        (OwnFrom.and (OwnFrom.and (Own.from (holdsRow_own (wr.heap.size + 1) w.heap.size 41 9 1 (fun (pre : List Pl) => pre.length) (fun (pre : List Pl) => pre.map fun p => Value.string p.2.2) (fun _ _ => True)) _) (OwnFrom.and (Own.from (row_own _ _ _ _ _ _) _) (fun s X Y row hs hg hr => Nat.le_trans hs hg.size))) (ownFrom_below (Nat.le_refl _) (by omega)))
        (fun _ _ _ _ _ hs _ _ => hs)
        ⟨⟨⟨_, hbx4, World.ownsRow_nil _ _ _ _, trivial⟩, hrow4, by omega⟩, hB0⟩
        (fun x => { tmps := #[.slice A k cap, undef, .bool false, u3, .pointer (some ⟨w.heap.size, 0, none⟩), undef, u6, undef, .string x.2.2, .slice A k cap, .int .i64 k, .int .i64 k, .bool false, u13, u14, u15, u16, u17, u18, u19, u20, .slice A k cap, .func (.func 40) #[] #[.pointer (some ⟨wr.heap.size, 0, none⟩)], .agg #[.int .i64 (x.1 : Int), .int .i64 (x.2.1 : Int)], .string x.2.2, undef, undef, undef, undef, undef, undef, undef, undef, undef, undef], defers := [] }) ?assign ?body ?done ?stop
      case assign =>
        intro l x W K hK
        simp only [encPl]
        gi_wp2
        exact hK
      case body =>
        rintro l pre x W ⟨⟨⟨v, hv, hrw, _⟩, hrow, hWs⟩, hB⟩ hlt2
        have hc := hv.cell
        generalize hx : x.2.2 = xc
        gi_wp2_with (gi_at_builtin; refine wpListIn_append_own _ rfl _ _ 41 rfl (wr.heap.size + 1) 9 i0 (.string ByteArray.empty) 1 16 Tryd.underlying41 hi hz0 hz1 hz2 rfl (by decide) _ _ _ rfl (hrw.alloc _) ⟨W.heap.size, 0, none⟩ 1 1 [.string xc] rfl rfl (cell_one_new _ _ _) (string_cells [xc]) (by unfold maxLen; omega) (by omega) (by simp; omega) ?_; intro v' w1 hown' hgrow _; obtain ⟨g', cap', rfl⟩ := ownsRow_succ hown'; obtain ⟨hv1, hv2, hr2, hk2, hb2, ho2⟩ := boxed_appended hv (by decide) hrw hWs (by omega) (Nat.le_refl _) hown' hgrow; have hc1 := hv1.cell; have hf1 := hv1.frozen)
        exact ⟨hk2.from _, hb2, ⟨⟨_, hv2, by rw [List.map_append, List.length_append]; simpa [hx] using hr2, trivial⟩, ho2 hrow hu3, Nat.le_trans hWs hk2.size⟩, hB.trans hb2⟩
      case done =>
        rintro D ys W hD rfl ⟨⟨⟨v, hv, hrw, _⟩, hrow, hWs⟩, hB⟩ hK
        have hc := hv.cell
        have hDl := (Array.getElem?_eq_some_iff.1 hK).1
        obtain ⟨A1, c1, rfl, hR1, _⟩ := RdT.of_own hrow (by omega)
        have hnm : (nmsE es).take k = nmsE es := List.take_of_length_le (by rw [nmsE_len]; omega)
        rw [hnm] at hR1
        rw [show (flatE es).map (fun p => Value.string p.2.2) = (allE es).map Value.string by simp [allE]] at hrw
        obtain ⟨A2, c2, rfl, hR2, _⟩ := RdT.of_own hrw (by omega)
        by_cases ho : onceS (nmsE es) = true
        · have HE := Lib.hid (show onceS (allE es) = apartB es by simp [apartB, ho])
          gi_wp2_with fail
          refine ⟨trivial, (callsIn_wide.2 (idOnce A1 k c1 (nmsE es) _ hR1 hok.nms (by omega))).mono ?_⟩
          rw [ho]
          rintro e w3 ⟨rfl, hb3⟩
          have hc3 := (hb3.cell (p := ⟨w.heap.size, 0, none⟩) hv.lt).trans hc
          have hK3 := (hb3.block D hDl).trans hK
          have hR3 := hR2.below hb3
          have HB3 := Lib.hid (hB.trans (hb3.mono hB.size))
          have hs3 := hb3.size
          clear hb3
          gi_wp2_with fail
          refine ⟨trivial, (callsIn_wide.2 (idOnce A2 _ c2 (allE es) _ hR3 hok.all (by omega))).mono ?_⟩
          rw [HE.out]
          rintro e w4 ⟨rfl, hb4⟩
          have hK4 := (hb4.block D (by omega)).trans hK3
          have HB4 := Lib.hid (HB3.out.trans (hb4.mono HB3.out.size))
          clear hb4
          gi_wp2_with fail
          refine ⟨by simp, .inl ⟨_, _, rfl, run_takeDeferred hK4, ?_⟩⟩
          exact ⟨_, results_tmp rfl _ _ _, rfl, HB4.out.trans (belowK_b (w := w) (Nat.le_refl _) _ D _ _ (by omega) hK4 rfl rfl)⟩
        · have ho : onceS (nmsE es) = false := by simpa using ho
          have HE := Lib.hid (show false = apartB es by simp [apartB, ho])
          gi_wp2_with fail
          refine ⟨trivial, (callsIn_wide.2 (idOnce A1 k c1 (nmsE es) _ hR1 hok.nms (by omega))).mono ?_⟩
          rw [ho]
          rintro e w3 ⟨rfl, hb3⟩
          have hK3 := (hb3.block D hDl).trans hK
          have HB3 := Lib.hid (hB.trans (hb3.mono hB.size))
          clear hb3
          gi_wp2_with fail
          refine ⟨trivial, ?_⟩
          gi_wp2_with fail
          refine ⟨by simp, .inl ⟨_, _, rfl, run_takeDeferred hK3, ?_⟩⟩
          rw [← HE.out]
          exact ⟨_, results_tmp rfl _ _ _, rfl, HB3.out.trans (belowK_b (w := w) (Nat.le_refl _) _ D _ _ (by omega) hK3 rfl rfl)⟩
      case stop =>
        rintro D c pre W _ _ h _
        exact h.elim

theorem tyApart (A : Option Addr) (len cap : Nat) (es : List En) (w : World) (hE : RdE w A len es) (hok : EsOk es) (hfew : EsFew es) :
    Calls Tryd.prog 26 #[.slice A len cap] w fun e w' => e = .returned (.bool (apartB es)) ∧ Below w.heap.size w w' :=
  callsIn_wide.1 (tyApart_in 6 (Nat.le_refl _) A len cap es w hE hok hfew)
end Go.Proofs.YtccpihpfpobjpaaDoor
