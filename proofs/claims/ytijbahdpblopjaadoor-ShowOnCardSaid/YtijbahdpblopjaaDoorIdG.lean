/- Which lists have no text twice, of the program's and of the document's text. Conditions: none. -/
import Derived.Test.YtijbahdpblopjaaDoorIdF
import Derived.Maps.OwnSet
import Derived.Maps.OwnOps
namespace Go.Proofs.YtijbahdpblopjaaDoor
open Go.RowKit Go.Maps Go.WideMaps
set_option linter.unusedVariables false

theorem keyLaw : Keyed Tryd.prog 9 := string_keyed Tryd.underlying9
theorem zeroUnit (w : World) : (zeroValue 99).run Tryd.prog w = .ok (.agg #[]) w := by kernel_rfl

/-- The set of the first k texts. -/
def keysTo (ss : List ByteArray) (k : Nat) : DataW Unit := setOf (.agg []) ((ss.take k).map fun s => Lit.string s.data.toList)
def onceTo (ss : List ByteArray) (k : Nat) : Prop := ((ss.take k).map fun s => s.data.toList).Nodup
def seenAt (ss : List ByteArray) (k : Nat) : Bool := decide ((ss[k]?.getD ByteArray.empty).data.toList ∈ (ss.take k).map fun s => s.data.toList)
def onceS (ss : List ByteArray) : Bool := onceB (ss.map fun s => s.data.toList)

theorem keysTo_zero (ss : List ByteArray) : keysTo ss 0 = .map [] := by simp [keysTo, setOf]
theorem take_snocT {ss : List ByteArray} {k : Nat} (h : k < ss.length) : ss.take (k + 1) = ss.take k ++ [ss[k]?.getD ByteArray.empty] := by
  rw [List.take_succ_eq_append_getElem h, List.getElem?_eq_getElem h]
  rfl
theorem keysTo_succ (ss : List ByteArray) (k : Nat) (h : k < ss.length) : keysTo ss (k + 1) = (keysTo ss k).put (.string (ss[k]?.getD ByteArray.empty).data.toList) (.agg []) := by
  unfold keysTo
  rw [take_snocT h, List.map_append]
  exact setOf_snoc _ _ _

theorem any_string (x : List UInt8) : ∀ l : List ByteArray, (l.map fun s => Lit.string s.data.toList).any (fun y => y.sameKey (.string x)) = decide (x ∈ l.map fun s => s.data.toList)
  | [] => rfl
  | a :: r => by
    have e : (Lit.string a.data.toList).sameKey (.string x) = (a.data.toList == x) := rfl
    rw [List.map_cons, List.any_cons, any_string x r, List.map_cons, e, Bool.eq_iff_iff]
    simp only [Bool.or_eq_true, beq_iff_eq, decide_eq_true_eq, List.mem_cons]
    exact ⟨fun h => h.imp Eq.symm id, fun h => h.imp Eq.symm id⟩

theorem has_keysTo (ss : List ByteArray) (k : Nat) : Maps.has (keysTo ss k) (.string (ss[k]?.getD ByteArray.empty).data.toList) = seenAt ss k := by
  unfold keysTo seenAt
  rw [has_setOf _ _ _ (fun y hy => by obtain ⟨_, _, rfl⟩ := List.mem_map.1 hy; trivial), any_string]

theorem onceTo_zero (ss : List ByteArray) : onceTo ss 0 := by simp [onceTo]
theorem onceTo_succ {ss : List ByteArray} {k : Nat} (H : onceTo ss k) (h : k < ss.length) (hn : seenAt ss k = false) : onceTo ss (k + 1) := by
  unfold onceTo at H ⊢
  rw [take_snocT h, List.map_append, List.nodup_append]
  refine ⟨H, by simp, fun a ha b hb => ?_⟩
  simp at hb
  subst hb
  intro e
  subst e
  simp only [seenAt, decide_eq_false_iff_not] at hn
  exact hn ha
theorem onceTo_end {ss : List ByteArray} {k : Nat} (H : onceTo ss k) (h : ss.length ≤ k) : onceS ss = true := by
  unfold onceTo at H
  rw [List.take_of_length_le h] at H
  exact decide_eq_true H
theorem seen_twice {ss : List ByteArray} {k : Nat} (h : k < ss.length) (hn : seenAt ss k = true) : onceS ss = false := by
  simp only [seenAt, decide_eq_true_eq] at hn
  unfold onceS onceB
  refine decide_eq_false fun hd => ?_
  have e : ss = ss.take k ++ ss.drop k := (List.take_append_drop k ss).symm
  rw [e, List.map_append, List.nodup_append] at hd
  have hm : (ss[k]?.getD ByteArray.empty) ∈ ss.drop k := by
    rw [List.getElem?_eq_getElem h, Option.getD_some, List.drop_eq_getElem_cons h]
    exact List.mem_cons_self
  exact hd.2.2 _ hn _ (List.mem_map.2 ⟨_, hm, rfl⟩) rfl

set_option maxRecDepth 100000 in
set_option maxHeartbeats 2000000 in
theorem idOnce (A : Option Addr) (n c : Nat) (ss : List ByteArray) (w : World) (h : RdT w A n ss) (hz : ∀ s ∈ ss, s.size ≤ maxLen) (hn : n ≤ 100) :
    Calls Tryd.prog 82 #[.slice A n c] w fun e w' => e = .returned (.bool (onceS ss)) ∧ Below w.heap.size w w' := by
  have hmm := @run_makeMap Tryd.prog
  have HL := Lib.hid h.len
  go_enter Tryd.func82, Tryd.ntmps82
  go_wp2_with fail
  go_loopw [11] (fun i wr => ∃ k : Nat, k ≤ n ∧ i = .int .i64 k ∧ wr.ownsMap Tryd.prog 9 unitElem w.heap.size k (keysTo ss k) ∧ Below w.heap.size w wr ∧ w.heap.size + 1 ≤ wr.heap.size ∧ onceTo ss k)
    (fun i _ => n - (intOf i).toNat)
  case atStart => exact ⟨0, Nat.zero_le _, rfl, by rw [keysTo_zero]; exact World.ownsMap_made _ _ _ _, (Below.refl _ _).alloc (Nat.le_refl _) _, by simp, onceTo_zero _⟩
  case round =>
    obtain ⟨k, hk, rfl, hown, hnx, hws, honce⟩ := hrel
    have HO := Lib.hid honce
    clear honce
    by_cases hlt : k < n
    · obtain ⟨b, off, rfl, hb, hc⟩ := h.at_ hlt
      have hck : wr.cell? ⟨b, off + k, none⟩ = some (.string (ss[k]?.getD ByteArray.empty)) := (hnx.cell hb).trans (hc k hlt)
      have hkk : k < ss.length := by rw [HL.out]; exact hlt
      have HS := Lib.hid (keysTo_succ ss k hkk)
      have hhas := has_keysTo ss k
      have hxm : (ss[k]?.getD ByteArray.empty).size ≤ maxLen := hz _ (by rw [List.getElem?_eq_getElem hkk]; exact List.getElem_mem _)
      clear hc hz
      generalize hx : ss[k]?.getD ByteArray.empty = x at hck hxm hhas HS
      have hkey : keyOf Tryd.prog 9 (.string x) = some (.string x.data.toList) := keyOf_string_mk Tryd.underlying9 hxm
      have HX := Lib.hid hx
      have HKK := Lib.hid hkk
      clear hx hkk
      have hkk : k < maxLen := by unfold maxLen; omega
      by_cases hsn : seenAt ss k = true
      · have HSN := Lib.hid hsn
        rw [hsn] at hhas
        clear hsn
        go_wp2_with (at_lookup; refine wpList_lookup_own_unit _ rfl _ _ 98 rfl 9 99 keyLaw Tryd.underlying98 (zeroUnit _) w.heap.size k _ rfl hown _ _ rfl hkey ?_)
        go_ret
        exact ⟨ret_bool (seen_twice HKK.out HSN.out).symm, hnx.alloc hnx.size _⟩
      · have hsn : seenAt ss k = false := by simpa using hsn
        have HSN := Lib.hid hsn
        rw [hsn] at hhas
        clear hsn
        go_wp2_with (first
          | (at_lookup; refine wpList_lookup_own_unit _ rfl _ _ 98 rfl 9 99 keyLaw Tryd.underlying98 (zeroUnit _) w.heap.size k _ rfl hown _ _ rfl hkey ?_)
          | (at_mapUpdate; refine wpList_mapUpdate_own _ rfl _ _ _ 98 rfl 9 99 keyLaw Tryd.underlying98 (unitElem (H := Unit)) w.heap.size k _ rfl (hown.alloc _) hkk _ _ _ rfl rfl hkey _ [] unitElem_mk ?_; intro w1 hown1 hgrow1))
        have HW := Lib.hid hown1
        have HG := Lib.hid hgrow1
        have s1 := hgrow1.size
        simp at s1
        clear hown1 hgrow1
        go_roundw
        case rel =>
          refine ⟨k + 1, by omega, by go_num, ?_, ?_, by omega, onceTo_succ HO.out HKK.out HSN.out⟩
          · rw [HS.out]
            exact HW.out
          · exact (hnx.alloc hnx.size _).grown HG.out (by simp; omega) (fun j hj => by cases hj; exact Nat.le_refl _)
        case measure => simp [intOf]; omega
    · go_wp2_with fail
      go_ret
      exact ⟨ret_bool (onceTo_end HO.out (by rw [HL.out]; omega)).symm, hnx⟩
end Go.Proofs.YtijbahdpblopjaaDoor
