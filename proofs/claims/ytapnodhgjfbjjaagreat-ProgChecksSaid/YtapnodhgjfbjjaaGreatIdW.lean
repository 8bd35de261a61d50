/- Which texts are parts, and paths, of the program's text. Conditions: none. Which lists have no text twice, of the program's and of the document's text. Conditions: none. What the document's Once, cut and Path return. Conditions: none. -/
import Derived.Test.YtapnodhgjfbjjaaGreatIdV
import Derived.Maps.OwnSet
import Derived.Maps.OwnOps
import Derived.Maps.AppendAt
namespace Go.Proofs.YtapnodhgjfbjjaaGreat
open Go.RowKit
set_option linter.unusedVariables false

theorem cut_sizes {c : UInt8} {s a b : ByteArray} {f : Bool} (hf : f = false → s.data.toList = a.data.toList) (ht : f = true → s.data.toList = a.data.toList ++ c :: b.data.toList) :
    a.size ≤ s.size ∧ (f = true → b.size < s.size) := by
  have h1 := Lib.size_eq s
  have h2 := Lib.size_eq a
  have h3 := Lib.size_eq b
  cases f with
  | false => have := hf rfl; rw [← this] at h2; exact ⟨by omega, fun h => by cases h⟩
  | true =>
    have := congrArg List.length (ht rfl)
    simp only [List.length_append, List.length_cons] at this
    exact ⟨by omega, fun _ => by omega⟩

set_option maxHeartbeats 1000000 in
theorem idPart (s : ByteArray) (w : World) (hs : s.size ≤ 9223372036854775806) :
    Calls Tryz.prog 100 #[.string s] w fun e w' => e = .returned (.bool (partB s.data.toList)) ∧ Below w.heap.size w w' := by
  go_enter Tryz.func100, Tryz.ntmps100
  go_wp2_with fail
  refine (strCut s 46 _ hs).mono ?_
  rintro e w1 ⟨a, b, f, rfl, hb, hc, hf, ht⟩
  have hsz := cut_sizes hf ht
  have HB := Lib.hid hb
  clear hb
  by_cases hl : lowB a.data.toList = true
  · cases f with
    | false =>
      have HE := Lib.hid (show true = partB s.data.toList by rw [hf rfl, partB_none hc, hl])
      clear hf ht hc
      have ha := hsz.1
      clear hsz
      go_wp2_with fail
      refine (idLow a _ (by omega)).mono ?_
      rintro e w2 ⟨rfl, hb⟩
      have HB2 := Lib.hid (below_trans2 HB.out hb)
      clear hb
      go_wp2_with fail
      go_ret
      exact ⟨ret_bool HE.out, HB2.out⟩
    | true =>
      have HE := Lib.hid (show numB b.data.toList = partB s.data.toList by rw [ht rfl, partB_at hc, hl]; rfl)
      clear hf ht hc
      have ha := hsz.1
      have hbz := hsz.2 rfl
      clear hsz
      go_wp2_with fail
      refine (idLow a _ (by omega)).mono ?_
      rintro e w2 ⟨rfl, hb⟩
      have HB2 := Lib.hid (below_trans2 HB.out hb)
      clear hb
      go_wp2_with fail
      refine (idNumber b _ (by omega)).mono ?_
      rintro e w3 ⟨rfl, hb⟩
      have HB3 := Lib.hid (below_trans2 HB2.out hb)
      clear hb
      go_wp2_with fail
      go_ret
      exact ⟨ret_bool HE.out, HB3.out⟩
  · have hl : lowB a.data.toList = false := by simpa using hl
    have HE : Hid (false = partB s.data.toList) := by
      refine Lib.hid ?_
      cases f with
      | false => rw [hf rfl, partB_none hc, hl]
      | true => rw [ht rfl, partB_at hc, hl]; rfl
    clear hf ht hc
    have ha := hsz.1
    clear hsz
    go_wp2_with fail
    refine (idLow a _ (by omega)).mono ?_
    rintro e w2 ⟨rfl, hb⟩
    have HB2 := Lib.hid (below_trans2 HB.out hb)
    clear hb
    go_wp2_with fail
    go_ret
    exact ⟨ret_bool HE.out, HB2.out⟩

/-- How long a text is. -/
def szOf : Value → Nat
  | .string s => s.size
  | _ => 0

set_option maxHeartbeats 1000000 in
theorem idPath (s : ByteArray) (w : World) (hs : s.size ≤ 9223372036854775806) :
    Calls Tryz.prog 92 #[.string s] w fun e w' => e = .returned (.bool (pathB s.data.toList)) ∧ Below w.heap.size w w' := by
  go_enter Tryz.func92, Tryz.ntmps92
  go_wp2_with fail
  go_loopw [0] (fun v wr => ∃ t : ByteArray, v = .string t ∧ t.size ≤ s.size ∧ pathB s.data.toList = pathB t.data.toList ∧ Below w.heap.size w wr) (fun v _ => szOf v)
  case atStart => exact ⟨s, rfl, Nat.le_refl _, rfl, Below.refl _ _⟩
  case round =>
    obtain ⟨t, rfl, hts, hpt, hb0⟩ := hrel
    have HP := Lib.hid hpt
    have HB0 := Lib.hid hb0
    clear hpt hb0
    go_wp2_with fail
    refine (strCut t 47 _ (by omega)).mono ?_
    rintro e w1 ⟨a, b, f, rfl, hb, hc, hf, ht⟩
    have hsz := cut_sizes hf ht
    have HB := Lib.hid (HB0.out.trans (hb.mono HB0.out.size))
    clear hb
    have ha := hsz.1
    by_cases hl : partB a.data.toList = true
    · cases f with
      | false =>
        have HE := Lib.hid (show true = pathB s.data.toList by rw [HP.out, hf rfl, path_none hc, hl])
        clear hf ht hc hsz
        go_wp2_with fail
        refine (idPart a _ (by omega)).mono ?_
        rintro e w2 ⟨rfl, hb⟩
        have HB2 := Lib.hid (HB.out.trans (hb.mono HB.out.size))
        clear hb
        go_wp2_with fail
        go_ret
        exact ⟨ret_bool HE.out, HB2.out⟩
      | true =>
        have HE := Lib.hid (show pathB s.data.toList = pathB b.data.toList by rw [HP.out, ht rfl, path_at hc, hl]; rfl)
        have hbz := hsz.2 rfl
        clear hf ht hc hsz
        go_wp2_with fail
        refine (idPart a _ (by omega)).mono ?_
        rintro e w2 ⟨rfl, hb⟩
        have HB2 := Lib.hid (HB.out.trans (hb.mono HB.out.size))
        clear hb
        go_wp2_with fail
        go_roundw
        case rel => exact ⟨b, rfl, by omega, HE.out, HB2.out⟩
        case measure => simp [szOf]; omega
    · have hl : partB a.data.toList = false := by simpa using hl
      have HE : Hid (false = pathB s.data.toList) := by
        refine Lib.hid ?_
        rw [HP.out]
        cases f with
        | false => rw [hf rfl, path_none hc, hl]
        | true => rw [ht rfl, path_at hc, hl]; rfl
      clear hf ht hc hsz
      go_wp2_with fail
      refine (idPart a _ (by omega)).mono ?_
      rintro e w2 ⟨rfl, hb⟩
      have HB2 := Lib.hid (HB.out.trans (hb.mono HB.out.size))
      clear hb
      go_wp2_with fail
      go_ret
      exact ⟨ret_bool HE.out, HB2.out⟩
end Go.Proofs.YtapnodhgjfbjjaaGreat

namespace Go.Proofs.YtapnodhgjfbjjaaGreat
open Go.RowKit Go.Maps Go.WideMaps
set_option linter.unusedVariables false

theorem keyLaw : Keyed Tryz.prog 9 := string_keyed Tryz.underlying9
theorem zeroUnit (w : World) : (zeroValue 94).run Tryz.prog w = .ok (.agg #[]) w := by kernel_rfl

/-- The set of the first k texts. -/
def keysTo (ss : List ByteArray) (k : Nat) : DataW Unit := setOf (.agg []) ((ss.take k).map fun s => Lit.string s.data.toList)
def onceTo (ss : List ByteArray) (k : Nat) : Prop := ((ss.take k).map fun s => s.data.toList).Nodup
def seenAt (ss : List ByteArray) (k : Nat) : Bool := decide ((ss[k]?.getD ByteArray.empty).data.toList ∈ (ss.take k).map fun s => s.data.toList)
def onceS (ss : List ByteArray) : Bool := onceB (ss.map fun s => s.data.toList)

theorem keysTo_zero (ss : List ByteArray) : keysTo ss 0 = .map [] := by simp [keysTo, setOf]
theorem take_snocT {ss : List ByteArray} {k : Nat} (h : k < ss.length) : ss.take (k + 1) = ss.take k ++ [ss[k]?.getD ByteArray.empty] := by
  rw [List.take_succ_eq_append_getElem h, List.getElem?_eq_getElem h]
  rfl
theorem keysTo_succ (ss : List ByteArray) (k : Nat) (h : k < ss.length) : keysTo ss (k + 1) = (keysTo ss k).put (.string (ss[k]?.getD ByteArray.empty).data.toList) (.agg []) := by
  unfold keysTo
  rw [take_snocT h, List.map_append]
  exact setOf_snoc _ _ _

theorem any_string (x : List UInt8) : ∀ l : List ByteArray, (l.map fun s => Lit.string s.data.toList).any (fun y => y.sameKey (.string x)) = decide (x ∈ l.map fun s => s.data.toList)
  | [] => rfl
  | a :: r => by
    have e : (Lit.string a.data.toList).sameKey (.string x) = (a.data.toList == x) := rfl
    rw [List.map_cons, List.any_cons, any_string x r, List.map_cons, e, Bool.eq_iff_iff]
    simp only [Bool.or_eq_true, beq_iff_eq, decide_eq_true_eq, List.mem_cons]
    exact ⟨fun h => h.imp Eq.symm id, fun h => h.imp Eq.symm id⟩

theorem has_keysTo (ss : List ByteArray) (k : Nat) : Maps.has (keysTo ss k) (.string (ss[k]?.getD ByteArray.empty).data.toList) = seenAt ss k := by
  unfold keysTo seenAt
  rw [has_setOf _ _ _ (fun y hy => by obtain ⟨_, _, rfl⟩ := List.mem_map.1 hy; trivial), any_string]

theorem onceTo_zero (ss : List ByteArray) : onceTo ss 0 := by simp [onceTo]
theorem onceTo_succ {ss : List ByteArray} {k : Nat} (H : onceTo ss k) (h : k < ss.length) (hn : seenAt ss k = false) : onceTo ss (k + 1) := by
  unfold onceTo at H ⊢
  rw [take_snocT h, List.map_append, List.nodup_append]
  refine ⟨H, by simp, fun a ha b hb => ?_⟩
  simp at hb
  subst hb
  intro e
  subst e
  simp only [seenAt, decide_eq_false_iff_not] at hn
  exact hn ha
theorem onceTo_end {ss : List ByteArray} {k : Nat} (H : onceTo ss k) (h : ss.length ≤ k) : onceS ss = true := by
  unfold onceTo at H
  rw [List.take_of_length_le h] at H
  exact decide_eq_true H
theorem seen_twice {ss : List ByteArray} {k : Nat} (h : k < ss.length) (hn : seenAt ss k = true) : onceS ss = false := by
  simp only [seenAt, decide_eq_true_eq] at hn
  unfold onceS onceB
  refine decide_eq_false fun hd => ?_
  have e : ss = ss.take k ++ ss.drop k := (List.take_append_drop k ss).symm
  rw [e, List.map_append, List.nodup_append] at hd
  have hm : (ss[k]?.getD ByteArray.empty) ∈ ss.drop k := by
    rw [List.getElem?_eq_getElem h, Option.getD_some, List.drop_eq_getElem_cons h]
    exact List.mem_cons_self
  exact hd.2.2 _ hn _ (List.mem_map.2 ⟨_, hm, rfl⟩) rfl

set_option maxRecDepth 100000 in
set_option maxHeartbeats 2000000 in
theorem idOnce (A : Option Addr) (n c : Nat) (ss : List ByteArray) (w : World) (h : RdT w A n ss) (hz : ∀ s ∈ ss, s.size ≤ maxLen) (hn : n ≤ 100) :
    Calls Tryz.prog 43 #[.slice A n c] w fun e w' => e = .returned (.bool (onceS ss)) ∧ Below w.heap.size w w' := by
  have hmm := @run_makeMap Tryz.prog
  have HL := Lib.hid h.len
  go_enter Tryz.func43, Tryz.ntmps43
  go_wp2_with fail
  go_loopw [11] (fun i wr => ∃ k : Nat, k ≤ n ∧ i = .int .i64 k ∧ wr.ownsMap Tryz.prog 9 unitElem w.heap.size k (keysTo ss k) ∧ Below w.heap.size w wr ∧ w.heap.size + 1 ≤ wr.heap.size ∧ onceTo ss k)
    (fun i _ => n - (intOf i).toNat)
  case atStart => exact ⟨0, Nat.zero_le _, rfl, by rw [keysTo_zero]; exact World.ownsMap_made _ _ _ _, (Below.refl _ _).alloc (Nat.le_refl _) _, by simp, onceTo_zero _⟩
  case round =>
    obtain ⟨k, hk, rfl, hown, hnx, hws, honce⟩ := hrel
    have HO := Lib.hid honce
    clear honce
    by_cases hlt : k < n
    · obtain ⟨b, off, rfl, hb, hc⟩ := h.at_ hlt
      have hck : wr.cell? ⟨b, off + k, none⟩ = some (.string (ss[k]?.getD ByteArray.empty)) := (hnx.cell hb).trans (hc k hlt)
      have hkk : k < ss.length := by rw [HL.out]; exact hlt
      have HS := Lib.hid (keysTo_succ ss k hkk)
      have hhas := has_keysTo ss k
      have hxm : (ss[k]?.getD ByteArray.empty).size ≤ maxLen := hz _ (by rw [List.getElem?_eq_getElem hkk]; exact List.getElem_mem _)
      clear hc hz
      generalize hx : ss[k]?.getD ByteArray.empty = x at hck hxm hhas HS
      have hkey : keyOf Tryz.prog 9 (.string x) = some (.string x.data.toList) := keyOf_string_mk Tryz.underlying9 hxm
      have HX := Lib.hid hx
      have HKK := Lib.hid hkk
      clear hx hkk
      have hkk : k < maxLen := by unfold maxLen; omega
      by_cases hsn : seenAt ss k = true
      · have HSN := Lib.hid hsn
        rw [hsn] at hhas
        clear hsn
        go_wp2_with (at_lookup; refine wpList_lookup_own_unit _ rfl _ _ 93 rfl 9 94 keyLaw Tryz.underlying93 (zeroUnit _) w.heap.size k _ rfl hown _ _ rfl hkey ?_)
        go_ret
        exact ⟨ret_bool (seen_twice HKK.out HSN.out).symm, hnx.alloc hnx.size _⟩
      · have hsn : seenAt ss k = false := by simpa using hsn
        have HSN := Lib.hid hsn
        rw [hsn] at hhas
        clear hsn
        go_wp2_with (first
          | (at_lookup; refine wpList_lookup_own_unit _ rfl _ _ 93 rfl 9 94 keyLaw Tryz.underlying93 (zeroUnit _) w.heap.size k _ rfl hown _ _ rfl hkey ?_)
          | (at_mapUpdate; refine wpList_mapUpdate_own _ rfl _ _ _ 93 rfl 9 94 keyLaw Tryz.underlying93 (unitElem (H := Unit)) w.heap.size k _ rfl (hown.alloc _) hkk _ _ _ rfl rfl hkey _ [] unitElem_mk ?_; intro w1 hown1 hgrow1))
        have HW := Lib.hid hown1
        have HG := Lib.hid hgrow1
        have s1 := hgrow1.size
        simp at s1
        clear hown1 hgrow1
        go_roundw
        case rel =>
          refine ⟨k + 1, by omega, by go_num, ?_, ?_, by omega, onceTo_succ HO.out HKK.out HSN.out⟩
          · rw [HS.out]
            exact HW.out
          · exact (hnx.alloc hnx.size _).grown HG.out (by simp; omega) (fun j hj => by cases hj; exact Nat.le_refl _)
        case measure => simp [intOf]; omega
    · go_wp2_with fail
      go_ret
      exact ⟨ret_bool (onceTo_end HO.out (by rw [HL.out]; omega)).symm, hnx⟩
end Go.Proofs.YtapnodhgjfbjjaaGreat

namespace Go.Proofs.YtapnodhgjfbjjaaGreat
open Go.RowKit
set_option linter.unusedVariables false

/-- That none of the texts ahead of j is the one at k. -/
def apartTo (ss : List ByteArray) (x : ByteArray) (j : Nat) : Prop := ∀ i, i < j → ((ss[i]?.getD ByteArray.empty).toList == x.toList) = false

theorem apart_seen {ss : List ByteArray} {k : Nat} (h : k < ss.length) (H : apartTo ss (ss[k]?.getD ByteArray.empty) k) : seenAt ss k = false := by
  refine decide_eq_false fun hm => ?_
  obtain ⟨y, hy, e⟩ := List.mem_map.1 hm
  obtain ⟨i, hi, ey⟩ := List.getElem_of_mem hy
  rw [List.length_take] at hi
  have h1 := H i (by omega)
  rw [List.getElem_take] at ey
  rw [List.getElem?_eq_getElem (show i < ss.length by omega), Option.getD_some, ey, Lib.toList_data, Lib.toList_data, e] at h1
  simp at h1

theorem meets_seen {ss : List ByteArray} {i k : Nat} (h : k < ss.length) (hi : i < k) (he : ((ss[i]?.getD ByteArray.empty).toList == (ss[k]?.getD ByteArray.empty).toList) = true) : seenAt ss k = true := by
  refine decide_eq_true (List.mem_map.2 ⟨ss[i]?.getD ByteArray.empty, ?_, ?_⟩)
  · rw [List.getElem?_eq_getElem (show i < ss.length by omega), Option.getD_some]
    exact List.mem_take_iff_getElem.2 ⟨i, by omega, rfl⟩
  · rw [Lib.toList_data, Lib.toList_data] at he
    exact beq_iff_eq.1 he

set_option maxRecDepth 100000 in
set_option maxHeartbeats 2000000 in
theorem refOnce (A : Option Addr) (n c : Nat) (ss : List ByteArray) (w : World) (h : RdT w A n ss) (hn : n ≤ 100) :
    Calls Tryz.prog 23 #[.slice A n c] w fun e w' => e = .returned (.bool (onceS ss)) ∧ ∃ m, w' = w.drewN m := by
  have HL := Lib.hid h.len
  go_enter Tryz.func23, Tryz.ntmps23
  go_wp2_with fail
  go_loopw [3] (fun i wr => ∃ k : Nat, k ≤ n ∧ i = .int .i64 k ∧ (∃ m, wr = w.drewN m) ∧ onceTo ss k) (fun i _ => n - (intOf i).toNat)
  case atStart => exact ⟨0, Nat.zero_le _, rfl, ⟨0, rfl⟩, onceTo_zero _⟩
  case round =>
    obtain ⟨k, hk, rfl, ⟨m, rfl⟩, honce⟩ := hrel
    have HO := Lib.hid honce
    clear honce
    by_cases hlt : k < n
    · obtain ⟨b, off, rfl, hb, hc⟩ := h.at_ hlt
      have hkk : k < ss.length := by rw [HL.out]; exact hlt
      have hck := hc k hlt
      generalize hx : ss[k]?.getD ByteArray.empty = x at hck
      have HX := Lib.hid hx
      have HKK := Lib.hid hkk
      have HC := Lib.hid hc
      clear hx hkk hc
      go_wp2_with fail
      go_loopw [4] (fun j wr => ∃ i : Nat, i ≤ k ∧ j = .int .i64 i ∧ (∃ m, wr = w.drewN m) ∧ apartTo ss x i) (fun j _ => k - (intOf j).toNat)
      case atStart => exact ⟨0, Nat.zero_le _, rfl, ⟨_, rfl⟩, fun i hi => absurd hi (by omega)⟩
      case round =>
        obtain ⟨i, hi, rfl, ⟨m2, rfl⟩, hap⟩ := hrel
        have HAP := Lib.hid hap
        clear hap
        by_cases hik : i < k
        · have hci := HC.out i (by omega)
          generalize hy : ss[i]?.getD ByteArray.empty = y at hci
          have HY := Lib.hid hy
          clear hy
          by_cases he : (y.toList == x.toList) = true
          · have HE := Lib.hid he
            go_wp2_with fail
            go_quiet (fail)
            go_wp2_with fail
            go_ret
            refine ⟨ret_bool ?_, _, World.drewN_drewN _ _ _⟩
            exact (seen_twice HKK.out (meets_seen HKK.out hik (by rw [HX.out, HY.out]; exact HE.out))).symm
          · have he : (y.toList == x.toList) = false := by simpa using he
            have HE := Lib.hid he
            go_wp2_with fail
            go_quiet (fail)
            go_wp2_with fail
            go_roundw
            case rel =>
              refine ⟨i + 1, by omega, by go_num, ⟨_, rfl⟩, fun j hj => ?_⟩
              rcases Nat.lt_or_ge j i with h1 | h1
              · exact HAP.out j h1
              · obtain rfl : j = i := by omega
                rw [HY.out]
                exact HE.out
            case measure => simp [intOf]; omega
        · go_wp2_with fail
          go_roundw
          case rel =>
            refine ⟨k + 1, by omega, by go_num, ⟨_, rfl⟩, onceTo_succ HO.out HKK.out (apart_seen HKK.out ?_)⟩
            rw [HX.out]
            exact fun j hj => HAP.out j (by omega)
          case measure => simp [intOf]; omega
    · go_wp2_with fail
      go_ret
      exact ⟨ret_bool (onceTo_end HO.out (by rw [HL.out]; omega)).symm, _, rfl⟩
end Go.Proofs.YtapnodhgjfbjjaaGreat
