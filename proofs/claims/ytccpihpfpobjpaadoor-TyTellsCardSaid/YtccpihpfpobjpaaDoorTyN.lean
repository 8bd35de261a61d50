/- Whether all names of enums are as they must be: of the program's text. Conditions: none. -/
import Derived.Test.YtccpihpfpobjpaaDoorTyI
import Derived.Test.YtccpihpfpobjpaaDoorNmH
namespace Go.Proofs.YtccpihpfpobjpaaDoor
open Go.RowKit Go.Shelf
set_option linter.unusedVariables false
attribute [local go_sem] Oper.semAt_some

/-- Whether an enum's name is low, and whether it has a constructor. -/
def enB (e : En) : Bool := lowB e.1.data.toList && !e.2.isEmpty
def hiB (s : ByteArray) : Bool := highB s.data.toList
def namedB (es : List En) : Bool := es.all enB && (allE es).all hiB

def namedTo (es : List En) (k : Nat) : Prop := ∀ j, j < k → lowB (nmE es j).data.toList = true ∧ 0 < (csE es j).length

section
variable {es : List En} {k : Nat}
theorem en_at (h : k < es.length) : es[k]'h = (nmE es k, csE es k) := by
  simp [nmE, csE, List.getElem?_eq_getElem h]
theorem enB_at (h : k < es.length) : enB (es[k]'h) = (lowB (nmE es k).data.toList && decide (0 < (csE es k).length)) := by
  rw [en_at h]
  unfold enB
  cases csE es k <;> simp
theorem named_bad (h : k < es.length) (hb : lowB (nmE es k).data.toList = false ∨ (csE es k).length = 0) : namedB es = false := by
  have : es.all enB = false := by
    rw [List.all_eq_false]
    refine ⟨es[k]'h, List.getElem_mem h, ?_⟩
    rw [enB_at h]
    rcases hb with h | h <;> simp [h]
  unfold namedB
  rw [this, Bool.false_and]
theorem namedTo_all (H : namedTo es k) (h : es.length ≤ k) : es.all enB = true := by
  rw [List.all_eq_true]
  intro e he
  obtain ⟨j, hj, rfl⟩ := List.getElem_of_mem he
  have := H j (by omega)
  rw [enB_at hj, this.1, decide_eq_true this.2]
  rfl
theorem namedTo_succ (H : namedTo es k) (h1 : lowB (nmE es k).data.toList = true) (h2 : 0 < (csE es k).length) : namedTo es (k + 1) := fun j hj => by
  rcases Nat.lt_or_ge j k with h | h
  · exact H j h
  · obtain rfl : j = k := by omega
    exact ⟨h1, h2⟩
theorem named_yes (h : es.all enB = true) (hp : ∀ p ∈ flatE es, hiB p.2.2 = true) : namedB es = true := by
  unfold namedB
  rw [h, Bool.true_and, List.all_eq_true]
  intro s hs
  obtain ⟨p, hp', rfl⟩ := List.mem_map.1 hs
  exact hp p hp'
theorem named_no {ini : List Pl} {x : Pl} (hp : ini ++ [x] <+: flatE es) (hx : hiB x.2.2 = false) : namedB es = false := by
  unfold namedB
  have hm : x ∈ flatE es := hp.subset (by simp)
  have : (allE es).all hiB = false := by
    rw [List.all_eq_false]
    exact ⟨x.2.2, List.mem_map.2 ⟨x, hm, rfl⟩, by simp [hx]⟩
  rw [this, Bool.and_false]
theorem EsOk.flat (h : EsOk es) : ∀ p ∈ flatE es, p.2.2.size ≤ maxLen := by
  intro p hp
  have h1 : p.2.2 ∈ namesTo es es.length := List.mem_map.2 ⟨p, hp, rfl⟩
  obtain ⟨j, hj, hm⟩ := namesTo_mem h1
  exact (h j hj).2 _ hm
end

theorem cell_l1 (w : World) (u v : Value) (T : TypeId) : (w.alloc (.cells #[u, v] T)).cell? ⟨w.heap.size, 1, none⟩ = some v := (Box2.new w T u v).c1
theorem cell_l0 (w : World) (u v : Value) (T : TypeId) : (w.alloc (.cells #[u, v] T)).cell? ⟨w.heap.size, 0, none⟩ = some u := (Box2.new w T u v).c0

set_option maxRecDepth 100000 in
set_option maxHeartbeats 4000000 in
theorem tyNamed_in (n : Nat) (hn : 6 ≤ n) (A : Option Addr) (len cap : Nat) (es : List En) (w : World) (hE : RdE w A len es) (hok : EsOk es) :
    CallsIn Fence.wide n Tryd.prog 25 #[.slice A len cap] w fun e w' => e = .returned (.bool (namedB es)) ∧ Below w.heap.size w w' := by
  have h1 : 1 ≤ n := by omega
  have hlen := hE.len
  have hmx := hE.max
  refine callsIn_of_wp_marks Tryd.func25 rfl trivial ?_ rfl
  simp only [Tryd.ntmps25, List.size_toArray, List.length_cons, List.length_nil, Nat.reduceAdd, Nat.reduceSub, Array.replicate_succ, Array.replicate_zero, List.push_toArray, List.append_toArray, List.nil_append, List.cons_append]
  gi_wp2_with fail
  gi_loopw [9] (fun i wr => ∃ k : Nat, k ≤ len ∧ i = .int .i64 k ∧ namedTo es k ∧ Boxed wr w.heap.size 4 (.bool false) ∧ Below w.heap.size w wr)
    (fun i _ => len - (intOf i).toNat)
  case atStart => exact ⟨0, Nat.zero_le _, rfl, fun j hj => absurd hj (by omega), Boxed.new _ _ _, (Below.refl _ _).alloc (Nat.le_refl _) _⟩
  case round =>
    obtain ⟨k, hk, rfl, hto, hbx, hnx⟩ := hrel
    have HT := Lib.hid hto
    clear hto
    by_cases hlt : k < len
    · obtain ⟨b, off, rfl, hb, hc⟩ := hE.at_ hlt
      obtain ⟨hn0, A', n', c', hs0, hR0⟩ := hc k hlt
      have hn1 : wr.cell? ⟨b, off + k * 2, none⟩ = some (.string (nmE es k)) := (hnx.cell (p := ⟨b, off + k * 2, none⟩) hb).trans hn0
      have hs1 : wr.cell? ⟨b, off + k * 2 + 1, none⟩ = some (.slice A' n' c') := (hnx.cell (p := ⟨b, off + k * 2 + 1, none⟩) hb).trans hs0
      have hkl : k < es.length := by omega
      have hcl := hR0.len
      have hcm := hR0.max
      have HBAD := Lib.hid fun h => named_bad hkl h
      have HNX := Lib.hid fun h1 h2 => namedTo_succ HT.out h1 h2
      have hzl := (hok k hkl).1
      unfold maxLen at hzl
      generalize hxn : nmE es k = x at hn1 hzl HBAD HNX
      by_cases hlow : lowB x.data.toList = true
      · rcases Nat.eq_zero_or_pos n' with hz | hz
        · have HE := Lib.hid (HBAD.out (.inr (by omega)))
          subst hz
          gi_wp2_with fail
          refine ⟨trivial, (callsIn_wide.2 (idLow x _ (by omega))).mono ?_⟩
          rw [hlow]
          rintro e w3 ⟨rfl, hb3⟩
          have d1 := (hb3.cell (p := ⟨wr.heap.size, 1, none⟩) (by simp)).trans (cell_l1 wr _ _ _)
          have hbx3 := boxed_below (hbx.alloc (.cells #[.string x, .slice A' 0 c'] 43)) hb3 (by have := hbx.lt; simp; omega)
          have HX := Lib.hid hbx3
          have e2 := hbx3.cell
          have f2 := hbx3.frozen
          have HB3 := Lib.hid ((hnx.alloc hnx.size (.cells #[.string x, .slice A' 0 c'] 43)).trans (hb3.mono (by have := hnx.size; simp; omega)))
          clear hb3 hbx3
          gi_wp2_with fail
          refine ⟨_, ?_, ret_bool HE.out.symm, HB3.out.setCell (p := ⟨w.heap.size, 0, none⟩) (Nat.le_refl _) _⟩
          have k1 := (HX.out.set (.bool false)).cell
          simp [results, Tryd.f25, go_sem, k1]
        · have HN := Lib.hid (HNX.out hlow (by omega))
          have hnz : ((n' : Int) == 0) = false := by rw [beq_eq_false_iff_ne]; omega
          gi_wp2_with fail
          refine ⟨trivial, (callsIn_wide.2 (idLow x _ (by omega))).mono ?_⟩
          rw [hlow]
          rintro e w3 ⟨rfl, hb3⟩
          have d1 := (hb3.cell (p := ⟨wr.heap.size, 1, none⟩) (by simp)).trans (cell_l1 wr _ _ _)
          have hbx3 := boxed_below (hbx.alloc (.cells #[.string x, .slice A' n' c'] 43)) hb3 (by have := hbx.lt; simp; omega)
          have HX := Lib.hid hbx3
          have HB3 := Lib.hid ((hnx.alloc hnx.size (.cells #[.string x, .slice A' n' c'] 43)).trans (hb3.mono (by have := hnx.size; simp; omega)))
          clear hb3 hbx3
          gi_wp2_with fail
          go_roundw
          case rel => exact ⟨k + 1, by omega, by go_num, HN.out, HX.out, HB3.out⟩
          case measure => simp [intOf]; omega
      · have hlow : lowB x.data.toList = false := by simpa using hlow
        have HE := Lib.hid (HBAD.out (.inl hlow))
        gi_wp2_with fail
        refine ⟨trivial, (callsIn_wide.2 (idLow x _ (by omega))).mono ?_⟩
        rw [hlow]
        rintro e w3 ⟨rfl, hb3⟩
        have hbx3 := boxed_below (hbx.alloc (.cells #[.string x, .slice A' n' c'] 43)) hb3 (by have := hbx.lt; simp; omega)
        have HX := Lib.hid hbx3
        have e2 := hbx3.cell
        have f2 := hbx3.frozen
        have HB3 := Lib.hid ((hnx.alloc hnx.size (.cells #[.string x, .slice A' n' c'] 43)).trans (hb3.mono (by have := hnx.size; simp; omega)))
        clear hb3 hbx3
        gi_wp2_with fail
        refine ⟨_, ?_, ret_bool HE.out.symm, HB3.out.setCell (p := ⟨w.heap.size, 0, none⟩) (Nat.le_refl _) _⟩
        have k1 := (HX.out.set (.bool false)).cell
        simp [results, Tryd.f25, go_sem, k1]
    · obtain rfl : k = len := by omega
      have HALL := Lib.hid (namedTo_all HT.out (by omega))
      have hbel := hnx
      clear HT
      gi_wp2_with fail
      refine ⟨trivial, (callsIn_wide.2 (tyCtors _ _ _ _)).mono ?_⟩
      rintro e w' ⟨rfl, rfl⟩
      gi_wp2_with fail
      have b4 := Boxed.new wr 22 (.slice A k cap)
      have hbx4 := hbx.alloc (.cells #[.slice A k cap] 22)
      have hB0 := hnx.alloc hnx.size (.cells #[.slice A k cap] 22)
      have hsz : (wr.alloc (.cells #[.slice A k cap] 22)).heap.size = wr.heap.size + 1 := by simp
      have hlb := hbx.lt
      have hws := hnx.size
      obtain ⟨W0, hW0⟩ : ∃ W0, wr.alloc (.cells #[.slice A k cap] 22) = W0 := ⟨_, rfl⟩
      rw [hW0] at b4 hbx4 hB0 hsz ⊢
      clear hW0
      refine wpIn_rangeFunc_ownG rfl h1 (gf := 40) (lb := #[.pointer (some ⟨wr.heap.size, 0, none⟩)]) rfl trivial (enters_of Tryd.func40 (by kernel_rfl) rfl)
        (tyIter_stopsIn (n - 1) (by omega) wr.heap.size w A k cap es hE W0 hB0 (by omega) b4.cell) belowK_t (belowK_b (by omega)) (Below.refl _ _) (fun _ => rfl)
        (fun pre W => (Boxed W w.heap.size 4 (.bool false) ∧ ∀ p ∈ pre, hiB p.1.2.2 = true) ∧ Below w.heap.size w W)
        (fun c pre W => ((c = .ret ∧ ∃ ini last, pre = ini ++ [last] ∧ hiB last.1.2.2 = false) ∧ Boxed W w.heap.size 4 (.bool false)) ∧ Below w.heap.size w W)
        (OwnFrom.and (OwnFrom.and (Own.from (boxed_own _ _ (fun _ => _)) _) (ownFrom_pure _ _)) (ownFrom_below (Nat.le_refl _) (by omega)))
        (fun c => OwnFrom.and (OwnFrom.and (ownFrom_pure _ _) (Own.from (boxed_own _ _ (fun _ => _)) _)) (ownFrom_below (Nat.le_refl _) (by omega)))
        ⟨⟨hbx4, by simp⟩, hB0⟩
        (fun x => { tmps := #[.slice A k cap, undef, .pointer (some ⟨w.heap.size, 0, none⟩), undef, u4, undef, .string x.1.2.2, .slice A k cap, .int .i64 k, .int .i64 k, .bool false, u11, u12, u13, u14, u15, u16, u17, u18, u19, u20, u21, u22, u23, .slice A k cap, .func (.func 40) #[] #[.pointer (some ⟨wr.heap.size, 0, none⟩)], .agg #[.int .i64 (x.1.1 : Int), .int .i64 (x.1.2.1 : Int)], .string x.1.2.2, undef, undef, undef], defers := [] }) ?assign ?body ?done ?stop
      case assign =>
        intro l x W K hK
        simp only [encPl]
        gi_wp2
        exact hK
      case body =>
        rintro l pre ⟨⟨xi, xk, xc⟩, hx⟩ W ⟨⟨hb, hp⟩, hB⟩ hlt
        have hxz := hok.flat _ hx
        dsimp only at hxz
        unfold maxLen at hxz
        have e1 := hb.cell
        have f1 := hb.frozen
        have hd : 1 ≤ n - 1 - 1 := by omega
        have HHI := Lib.hid (show hiB xc = highB xc.data.toList from rfl)
        by_cases hhi : highB xc.data.toList = true
        · gi_wp2_with fail
          refine ⟨trivial, (CallsIn.inRound l (callsIn_wide.2 (idHigh xc _ (by omega)))).mono ?_⟩
          rw [hhi]
          rintro e w3 ⟨rfl, hb3⟩
          have HB3 := Lib.hid hb3
          clear hb3
          gi_wp2_with fail
          exact ⟨keepsFrom_below HB3.out, HB3.out.mono hB.size, ⟨boxed_below hb HB3.out hb.lt, fun p hp' => (List.mem_append.1 hp').elim (hp p) (fun e => by simp at e; subst e; exact HHI.out.trans hhi)⟩, hB.trans (HB3.out.mono hB.size)⟩
        · have hhi : highB xc.data.toList = false := by simpa using hhi
          gi_wp2_with fail
          refine ⟨trivial, (CallsIn.inRound l (callsIn_wide.2 (idHigh xc _ (by omega)))).mono ?_⟩
          rw [hhi]
          rintro e w3 ⟨rfl, hb3⟩
          have HB3 := Lib.hid hb3
          clear hb3
          have hb' := boxed_below hb HB3.out hb.lt
          have e2 := hb'.cell
          have f2 := hb'.frozen
          gi_wp2_with fail
          exact ⟨((keepsFrom_below HB3.out).trans ((KeepsOthers.setCell _ _ _).from _)), ⟨⟨rfl, pre, _, rfl, HHI.out.trans hhi⟩, hb'.set (.bool false)⟩, (hB.trans (HB3.out.mono hB.size)).setCell (p := ⟨w.heap.size, 0, none⟩) (Nat.le_refl _) _⟩
      case done =>
        rintro D ys W hD hys ⟨⟨hb, hp⟩, hB⟩ hK
        have e1 := hb.cell
        have f1 := hb.frozen
        gi_wp2
        have hK' := (KeepsOthers.setCell W ⟨w.heap.size, 0, none⟩ (.bool true)).same D _ hK rfl
        have k1 := ((hb.set (.bool true)).kept (grownBy_putObj' _ D (.deferred none)) (fun e => by cases e; omega)).cell
        refine ⟨by simp, .inl ⟨_, _, rfl, run_takeDeferred hK', ?_⟩⟩
        refine ⟨.bool true, ?_, by rw [named_yes HALL.out fun p hp' => by rw [← hys] at hp'; obtain ⟨q, hq, rfl⟩ := List.mem_map.1 hp'; exact hp q hq], (hB.setCell (p := ⟨w.heap.size, 0, none⟩) (Nat.le_refl _) _).trans (belowK_b (w := w) (Nat.le_refl _) _ D _ _ (by omega) hK' rfl rfl)⟩
        simp [results, Tryd.f25, go_sem, k1]
      case stop =>
        rintro D c pre W hD hpre ⟨⟨⟨rfl, ini, last, rfl, hl⟩, hb⟩, hB⟩ hK
        gi_wp2
        have k1 := (hb.kept (grownBy_putObj' _ D (.deferred none)) (fun e => by cases e; omega)).cell
        refine ⟨by simp, .inl ⟨_, _, rfl, run_takeDeferred hK, ?_⟩⟩
        refine ⟨.bool false, ?_, by rw [named_no (ini := ini.map (·.1)) (x := last.1) (by simpa using hpre) hl], hB.trans (belowK_b (w := w) (Nat.le_refl _) _ D _ _ (by omega) hK rfl rfl)⟩
        simp [results, Tryd.f25, go_sem, k1]

theorem tyNamed (A : Option Addr) (len cap : Nat) (es : List En) (w : World) (hE : RdE w A len es) (hok : EsOk es) :
    Calls Tryd.prog 25 #[.slice A len cap] w fun e w' => e = .returned (.bool (namedB es)) ∧ Below w.heap.size w w' :=
  callsIn_wide.1 (tyNamed_in 6 (Nat.le_refl _) A len cap es w hE hok)
end Go.Proofs.YtccpihpfpobjpaaDoor
