/- What ident's inner functions of runes return, and strings.Cut at a text of one byte. Conditions: none. What ident's Word, and the document's, return. Conditions: none. What the document's Words and Word return. Conditions: none. What a name is, of the program's and of the document's text. Conditions: none. Which texts are low and high names, of the program and of the document; and the numbers of parts. Conditions: none. Which texts are parts, and paths, of the program's text. Conditions: none. Which lists have no text twice, of the program's and of the document's text. Conditions: none. What the document's Once, cut and Path return. Conditions: none. What the document's cut returns: the parts of a text between a byte. Conditions: none. What the document's Path returns; the walk of IdentPaths. Conditions: none. -/
import Derived.Test.YtapnodhgjfbjjaaBase
import Derived.Test.YtapnodhgjfbjjaaIdM
import Derived.Test.YtapnodhgjfbjjaaRows
import Derived.Lib.Strings
import Derived.Lib.Bytealg
import Derived.Lib.Walk
import Derived.Test.YtapnodhgjfbjjaaStr
import Derived.Laws.RangeAny
import Derived.Maps.OwnSet
import Derived.Maps.OwnOps
import Derived.Maps.AppendAt
namespace Go.Proofs.Ytapnodhgjfbjjaa
open Go.RowKit
set_option linter.unusedVariables false

/-- What is told of a text at a byte: what is ahead of it, and behind it, if it is there. -/
def Cuts (c : UInt8) (s : ByteArray) (w : World) (e : Ending) (w' : World) : Prop :=
  ∃ (a b : ByteArray) (f : Bool), e = .returned (.tuple #[.string a, .string b, .bool f]) ∧ Below w.heap.size w w' ∧ c ∉ a.data.toList ∧
    (f = false → s.data.toList = a.data.toList) ∧ (f = true → s.data.toList = a.data.toList ++ c :: b.data.toList)

theorem cuts_no {c : UInt8} {s : ByteArray} {w : World} (h : Lib.indexByte s.data.toList c < 0) :
    Cuts c s w (.returned (.tuple #[.string s, .string ⟨#[]⟩, .bool false])) w :=
  ⟨s, _, false, rfl, Below.refl _ _, index_none h, fun _ => rfl, fun h => by cases h⟩

theorem cuts_yes {c : UInt8} {s : ByteArray} {w : World} {k m : Nat} {n : Nat} (hn : n = s.size) (h2 : k < s.data.toList.length) (h3 : c ∉ s.data.toList.take k) (h4 : s.data.toList = s.data.toList.take k ++ c :: s.data.toList.drop (k + 1)) :
    Cuts c s w (.returned (.tuple #[.string (s.extract 0 k), .string (s.extract (k + 1) n), .bool true])) (w.drewN m) := by
  subst hn
  have e1 : (s.extract 0 k).data.toList = s.data.toList.take k := by rw [Lib.extract_data]; simp
  have e2 : (s.extract (k + 1) s.size).data.toList = s.data.toList.drop (k + 1) := by
    rw [Lib.extract_data, List.take_of_length_le (by rw [Lib.size_eq]; simp)]
  refine ⟨_, _, true, rfl, below_drewN (Below.refl _ _) m, ?_, fun h => by (cases h), fun _ => ?_⟩
  · rw [e1]; exact h3
  · rw [e1, e2]; exact h4

end Go.Proofs.Ytapnodhgjfbjjaa

namespace Go.Proofs.Ytapnodhgjfbjjaa
open Go.RowKit
set_option linter.unusedVariables false

theorem word_yes {s : ByteArray} {l : List UInt8} (h : (s.toList == l) = true) (hl : l ∈ wordsL) : wordB s.data.toList = true := by
  rw [Lib.toList_data] at h
  rw [beq_iff_eq.1 h]
  simp [wordB, hl]

theorem both_ways {s : ByteArray} {l : List UInt8} (h : (s.toList == l) = true) (h2 : (s.toList == l) = false) : False := by
  rw [h] at h2
  cases h2

theorem word_no {s : ByteArray} (h : ∀ l ∈ wordsL, (s.toList == l) = false) : wordB s.data.toList = false := by
  simp only [wordB, decide_eq_false_iff_not]
  intro hm
  have := h _ hm
  rw [Lib.toList_data] at this
  simp at this

end Go.Proofs.Ytapnodhgjfbjjaa

namespace Go.Proofs.Ytapnodhgjfbjjaa
open Go.RowKit
set_option linter.unusedVariables false

def wordsS : List ByteArray := wordsL.map fun l => ⟨l.toArray⟩

theorem wordsS_at (k : Nat) (h : k < 24) : ∃ (l : List UInt8) (x : ByteArray), wordsS[k]? = some x ∧ x.toList = l ∧ l ∈ wordsL := by
  have hl : k < wordsL.length := h
  refine ⟨wordsL[k], ⟨wordsL[k].toArray⟩, ?_, ?_, List.getElem_mem hl⟩
  · simp [wordsS, List.getElem?_eq_getElem hl]
  · rw [Lib.toList_data]

theorem wordsS_all {s : ByteArray} (h : ∀ j, j < 24 → ((wordsS[j]?.getD ByteArray.empty).toList == s.toList) = false) : wordB s.data.toList = false := by
  apply word_no
  intro l hl
  obtain ⟨k, hk, e⟩ := List.getElem_of_mem hl
  have h1 := h k hk
  have h2 : wordsS[k]? = some ⟨l.toArray⟩ := by
    simp [wordsS, List.getElem?_eq_getElem hk, e]
  rw [h2] at h1
  simp only [Option.getD_some, Lib.toList_data] at h1
  rw [Lib.toList_data]
  rw [beq_eq_false_iff_ne] at h1 ⊢
  exact fun e => h1 e.symm

end Go.Proofs.Ytapnodhgjfbjjaa

namespace Go.Proofs.Ytapnodhgjfbjjaa
open Go.RowKit
set_option linter.unusedVariables false

section
variable {P : Int → Bool} {s : ByteArray}

theorem at_list (s : ByteArray) (k : Nat) (h : k < s.size) : s.data.toList[k]'(by rw [← Lib.size_eq]; exact h) = s[k]'h := rfl

theorem name_len (h : s.size < 1 ∨ 12 < s.size) : nameB P s.data.toList = false := by
  have : ¬ (1 ≤ s.data.toList.length ∧ s.data.toList.length ≤ 12) := by rw [← Lib.size_eq]; omega
  simp only [nameB, decide_eq_false this, Bool.false_and]

theorem at_opt (s : ByteArray) (k : Nat) (h : k < s.size) : s.data.toList[k]? = some (s[k]'h) := by
  rw [← at_list s k h, List.getElem?_eq_getElem]

theorem head_at (h : 0 < s.size) : ∃ F, s.data.toList = s[0]'h :: F := by
  have hl := at_opt s 0 h
  generalize s[0]'h = c at hl ⊢
  cases e : s.data.toList with
  | nil => rw [e] at hl; simp at hl
  | cons d F => rw [e] at hl; simp at hl; exact ⟨F, by rw [hl]⟩

theorem name_first (h : 0 < s.size) (hp : P ((s[0]'h).toNat : Int) = false) : nameB P s.data.toList = false := by
  obtain ⟨F, e⟩ := head_at h
  rw [e]
  simp only [nameB, hp, Bool.and_false, Bool.false_and]

theorem name_at {k : Nat} (h : k < s.size) (hp : nameC ((s[k]'h).toNat : Int) = false) : nameB P s.data.toList = false := by
  have hm : s[k]'h ∈ s.data.toList := by rw [← at_list s k h]; exact List.getElem_mem _
  cases hn : nameB P s.data.toList with
  | false => rfl
  | true => rw [nameB_all hn _ hm] at hp; cases hp

theorem name_yes (h1 : 0 < s.size) (h2 : s.size ≤ 12) (hp : P ((s[0]'h1).toNat : Int) = true) (ha : ∀ k (h : k < s.size), nameC ((s[k]'h).toNat : Int) = true) : nameB P s.data.toList = true := by
  have hz := Lib.size_eq s
  have hall : s.data.toList.all (fun c => nameC (c.toNat : Int)) = true := by
    rw [List.all_eq_true]
    intro c hc
    obtain ⟨k, hk, e⟩ := List.getElem_of_mem hc
    rw [← e, at_list s k (by omega)]
    exact ha k (by omega)
  have hlen : decide (1 ≤ s.data.toList.length ∧ s.data.toList.length ≤ 12) = true := decide_eq_true (by omega)
  obtain ⟨F, e⟩ := head_at h1
  unfold nameB
  rw [hall, hlen, e]
  simp only [hp, Bool.and_true]
end

theorem nameC_high {x : Int} (h : 128 ≤ x) : nameC x = false := by
  cases hn : nameC x with
  | false => rfl
  | true => have := nameC_bd hn; omega

/-- What a range over a text tells at a place. -/
theorem next_at {P : Program} (w : World) (s : ByteArray) (pos : Nat) (h : pos < s.size) :
    ∃ (x : Int) (q : Nat), (∀ ty, (Instr.next (.pointer (some ⟨w.heap.size, 0, none⟩)) true ty).run P (w.iter s pos) = .ok (.tuple #[.bool true, .int .i64 pos, .int .i32 x]) (w.iter s q)) ∧
      ((x = ((s[pos]'h).toNat : Int) ∧ q = pos + 1) ∨ (128 ≤ x ∧ 128 ≤ (s[pos]'h).toNat ∧ pos < q)) := by
  by_cases ha : (s[pos]'h).toNat < 128
  · exact ⟨_, _, fun ty => run_next_ascii (P := P) w s pos ty h ha, .inl ⟨rfl, rfl⟩⟩
  · have := decode_high s pos h (by omega)
    exact ⟨_, _, fun ty => run_next_any (P := P) w s pos ty h, .inr ⟨by omega, by omega, by omega⟩⟩

theorem below_iter (w : World) (s : ByteArray) (q : Nat) : Below w.heap.size w (w.iter s q) := (Below.refl _ _).alloc (Nat.le_refl _) _

/-- All that stands ahead of a place may stand in a name, and what stands first is as asked. -/
def NameTo (P : Int → Bool) (s : ByteArray) (pos : Nat) : Prop :=
  (∀ k (h : k < s.size), k < pos → nameC ((s[k]'h).toNat : Int) = true) ∧ (0 < pos → ∀ h : 0 < s.size, P ((s[0]'h).toNat : Int) = true)

section
variable {P : Int → Bool} {s : ByteArray} {pos q : Nat} {x : Int}

theorem nameTo_zero : NameTo P s 0 := ⟨fun k h hk => absurd hk (by omega), fun h => absurd h (by omega)⟩

theorem nameTo_lt (hp : pos < s.size) (hx : (x = ((s[pos]'hp).toNat : Int) ∧ q = pos + 1) ∨ (128 ≤ x ∧ 128 ≤ (s[pos]'hp).toNat ∧ pos < q)) : pos < q := by
  rcases hx with ⟨_, h⟩ | ⟨_, _, h⟩ <;> omega

theorem nameTo_step (H : NameTo P s pos) (hp : pos < s.size) (hx : (x = ((s[pos]'hp).toNat : Int) ∧ q = pos + 1) ∨ (128 ≤ x ∧ 128 ≤ (s[pos]'hp).toNat ∧ pos < q))
    (h1 : pos = 0 → P x = true) (h2 : nameC x = true) : q ≤ s.size ∧ NameTo P s q := by
  rcases hx with ⟨rfl, rfl⟩ | ⟨h, _, _⟩
  · refine ⟨by omega, fun k hk hlt => ?_, fun _ h0 => ?_⟩
    · rcases Nat.lt_or_ge k pos with h | h
      · exact H.1 k hk h
      · obtain rfl : k = pos := by omega
        exact h2
    · rcases Nat.eq_zero_or_pos pos with h | h
      · subst h
        exact h1 rfl
      · exact H.2 h h0
  · rw [nameC_high h] at h2
    cases h2

theorem nameTo_bad (hp : pos < s.size) (hx : (x = ((s[pos]'hp).toNat : Int) ∧ q = pos + 1) ∨ (128 ≤ x ∧ 128 ≤ (s[pos]'hp).toNat ∧ pos < q)) (h2 : nameC x = false) : nameB P s.data.toList = false := by
  rcases hx with ⟨rfl, rfl⟩ | ⟨_, h, _⟩
  · exact name_at hp h2
  · exact name_at hp (nameC_high (by omega))

theorem nameTo_first (hz : pos = 0) (hp : pos < s.size) (hx : (x = ((s[pos]'hp).toNat : Int) ∧ q = pos + 1) ∨ (128 ≤ x ∧ 128 ≤ (s[pos]'hp).toNat ∧ pos < q)) (h2 : P x = false) : nameB P s.data.toList = false := by
  subst hz
  rcases hx with ⟨rfl, rfl⟩ | ⟨_, h, _⟩
  · exact name_first hp h2
  · exact name_at hp (nameC_high (by omega))

theorem nameTo_end (H : NameTo P s pos) (h0 : 0 < s.size) (h12 : s.size ≤ 12) (he : s.size ≤ pos) : nameB P s.data.toList = true :=
  name_yes h0 h12 (H.2 (by omega) h0) fun k h => H.1 k h (by omega)
end

end Go.Proofs.Ytapnodhgjfbjjaa

namespace Go.Proofs.Ytapnodhgjfbjjaa
open Go.RowKit
set_option linter.unusedVariables false

/-! ### The document's -/

/-- Whether a number lies between two. -/
def inR (a b x : Int) : Bool := decide (a ≤ x ∧ x ≤ b)
theorem inR_small (x : Int) : inR 97 122 x = smallB x := rfl
theorem inR_great (x : Int) : inR 65 90 x = greatB x := rfl
theorem inR_digit (x : Int) : inR 48 57 x = digitB x := rfl

theorem nameC_snoc {s : ByteArray} {k : Nat} (H : ∀ j (h : j < s.size), j < k → nameC ((s[j]'h).toNat : Int) = true) (hlt : k < s.size) (hx : nameC ((s[k]'hlt).toNat : Int) = true) :
    ∀ j (h : j < s.size), j < k + 1 → nameC ((s[j]'h).toNat : Int) = true := fun j h hj => by
  rcases Nat.lt_or_ge j k with h1 | h1
  · exact H j h h1
  · obtain rfl : j = k := by omega
    exact hx

/-! ### Numbers of parts -/

section
variable {s : ByteArray}
theorem num_len (h : s.size < 1 ∨ 3 < s.size) : numB s.data.toList = false := by
  have : ¬ (1 ≤ s.data.toList.length ∧ s.data.toList.length ≤ 3) := by rw [← Lib.size_eq]; omega
  simp only [numB, decide_eq_false this, Bool.false_and]

theorem num_first (h : 0 < s.size) (hp : ((s[0]'h).toNat : Int) = 48) : numB s.data.toList = false := by
  obtain ⟨F, e⟩ := head_at h
  have h48 : s[0]'h = 48 := UInt8.toNat_inj.1 (by simpa using (by omega : (s[0]'h).toNat = 48))
  rw [e]
  simp [numB, h48]

theorem num_at {k : Nat} (h : k < s.size) (hp : digitB ((s[k]'h).toNat : Int) = false) : numB s.data.toList = false := by
  have hm : s[k]'h ∈ s.data.toList := by rw [← at_list s k h]; exact List.getElem_mem _
  cases hn : numB s.data.toList with
  | false => rfl
  | true =>
    simp only [numB, Bool.and_eq_true, List.all_eq_true] at hn
    rw [hn.2 _ hm] at hp
    cases hp

theorem num_yes (h1 : 0 < s.size) (h2 : s.size ≤ 3) (hp : ¬ ((s[0]'h1).toNat : Int) = 48) (ha : ∀ k (h : k < s.size), digitB ((s[k]'h).toNat : Int) = true) : numB s.data.toList = true := by
  have hz := Lib.size_eq s
  have hall : s.data.toList.all (fun c => digitB (c.toNat : Int)) = true := by
    rw [List.all_eq_true]
    intro c hc
    obtain ⟨k, hk, e⟩ := List.getElem_of_mem hc
    rw [← e, at_list s k (by omega)]
    exact ha k (by omega)
  have hlen : decide (1 ≤ s.data.toList.length ∧ s.data.toList.length ≤ 3) = true := decide_eq_true (by omega)
  obtain ⟨F, e⟩ := head_at h1
  have h48 : ¬ s[0]'h1 = 48 := fun e => hp (by rw [e]; rfl)
  unfold numB
  rw [hall, hlen, e]
  simp [h48]
end

theorem digitB_high {x : Int} (h : 128 ≤ x) : digitB x = false := by
  simp [digitB]; omega

def Digits (s : ByteArray) (pos : Nat) : Prop := ∀ k (h : k < s.size), k < pos → digitB ((s[k]'h).toNat : Int) = true

theorem digits_zero {s : ByteArray} : Digits s 0 := fun k h hk => absurd hk (by omega)
theorem digits_snoc {s : ByteArray} {k : Nat} (H : Digits s k) (hlt : k < s.size) (hx : digitB ((s[k]'hlt).toNat : Int) = true) : Digits s (k + 1) := fun j h hj => by
  rcases Nat.lt_or_ge j k with h1 | h1
  · exact H j h h1
  · obtain rfl : j = k := by omega
    exact hx

theorem digits_step {s : ByteArray} {pos q : Nat} {x : Int} (H : Digits s pos) (hp : pos < s.size) (hx : (x = ((s[pos]'hp).toNat : Int) ∧ q = pos + 1) ∨ (128 ≤ x ∧ 128 ≤ (s[pos]'hp).toNat ∧ pos < q))
    (h2 : digitB x = true) : q ≤ s.size ∧ Digits s q := by
  rcases hx with ⟨rfl, rfl⟩ | ⟨h, _, _⟩
  · exact ⟨by omega, digits_snoc H hp h2⟩
  · rw [digitB_high h] at h2
    cases h2

theorem digits_bad {s : ByteArray} {pos q : Nat} {x : Int} (hp : pos < s.size) (hx : (x = ((s[pos]'hp).toNat : Int) ∧ q = pos + 1) ∨ (128 ≤ x ∧ 128 ≤ (s[pos]'hp).toNat ∧ pos < q)) (h2 : digitB x = false) : numB s.data.toList = false := by
  rcases hx with ⟨rfl, rfl⟩ | ⟨_, h, _⟩
  · exact num_at hp h2
  · exact num_at hp (digitB_high (by omega))

end Go.Proofs.Ytapnodhgjfbjjaa

namespace Go.Proofs.Ytapnodhgjfbjjaa
open Go.RowKit
set_option linter.unusedVariables false

theorem cut_sizes {c : UInt8} {s a b : ByteArray} {f : Bool} (hf : f = false → s.data.toList = a.data.toList) (ht : f = true → s.data.toList = a.data.toList ++ c :: b.data.toList) :
    a.size ≤ s.size ∧ (f = true → b.size < s.size) := by
  have h1 := Lib.size_eq s
  have h2 := Lib.size_eq a
  have h3 := Lib.size_eq b
  cases f with
  | false => have := hf rfl; rw [← this] at h2; exact ⟨by omega, fun h => by cases h⟩
  | true =>
    have := congrArg List.length (ht rfl)
    simp only [List.length_append, List.length_cons] at this
    exact ⟨by omega, fun _ => by omega⟩

/-- How long a text is. -/
def szOf : Value → Nat
  | .string s => s.size
  | _ => 0

end Go.Proofs.Ytapnodhgjfbjjaa

namespace Go.Proofs.Ytapnodhgjfbjjaa
open Go.RowKit Go.Maps Go.WideMaps
set_option linter.unusedVariables false

theorem keyLaw : Keyed Try.prog 9 := string_keyed Try.underlying9
/-- The set of the first k texts. -/
def keysTo (ss : List ByteArray) (k : Nat) : DataW Unit := setOf (.agg []) ((ss.take k).map fun s => Lit.string s.data.toList)
def onceTo (ss : List ByteArray) (k : Nat) : Prop := ((ss.take k).map fun s => s.data.toList).Nodup
def seenAt (ss : List ByteArray) (k : Nat) : Bool := decide ((ss[k]?.getD ByteArray.empty).data.toList ∈ (ss.take k).map fun s => s.data.toList)
def onceS (ss : List ByteArray) : Bool := onceB (ss.map fun s => s.data.toList)

theorem keysTo_zero (ss : List ByteArray) : keysTo ss 0 = .map [] := by simp [keysTo, setOf]
theorem take_snocT {ss : List ByteArray} {k : Nat} (h : k < ss.length) : ss.take (k + 1) = ss.take k ++ [ss[k]?.getD ByteArray.empty] := by
  rw [List.take_succ_eq_append_getElem h, List.getElem?_eq_getElem h]
  rfl
theorem keysTo_succ (ss : List ByteArray) (k : Nat) (h : k < ss.length) : keysTo ss (k + 1) = (keysTo ss k).put (.string (ss[k]?.getD ByteArray.empty).data.toList) (.agg []) := by
  unfold keysTo
  rw [take_snocT h, List.map_append]
  exact setOf_snoc _ _ _

theorem any_string (x : List UInt8) : ∀ l : List ByteArray, (l.map fun s => Lit.string s.data.toList).any (fun y => y.sameKey (.string x)) = decide (x ∈ l.map fun s => s.data.toList)
  | [] => rfl
  | a :: r => by
    have e : (Lit.string a.data.toList).sameKey (.string x) = (a.data.toList == x) := rfl
    rw [List.map_cons, List.any_cons, any_string x r, List.map_cons, e, Bool.eq_iff_iff]
    simp only [Bool.or_eq_true, beq_iff_eq, decide_eq_true_eq, List.mem_cons]
    exact ⟨fun h => h.imp Eq.symm id, fun h => h.imp Eq.symm id⟩

theorem has_keysTo (ss : List ByteArray) (k : Nat) : Maps.has (keysTo ss k) (.string (ss[k]?.getD ByteArray.empty).data.toList) = seenAt ss k := by
  unfold keysTo seenAt
  rw [has_setOf _ _ _ (fun y hy => by obtain ⟨_, _, rfl⟩ := List.mem_map.1 hy; trivial), any_string]

theorem onceTo_zero (ss : List ByteArray) : onceTo ss 0 := by simp [onceTo]
theorem onceTo_succ {ss : List ByteArray} {k : Nat} (H : onceTo ss k) (h : k < ss.length) (hn : seenAt ss k = false) : onceTo ss (k + 1) := by
  unfold onceTo at H ⊢
  rw [take_snocT h, List.map_append, List.nodup_append]
  refine ⟨H, by simp, fun a ha b hb => ?_⟩
  simp at hb
  subst hb
  intro e
  subst e
  simp only [seenAt, decide_eq_false_iff_not] at hn
  exact hn ha
theorem onceTo_end {ss : List ByteArray} {k : Nat} (H : onceTo ss k) (h : ss.length ≤ k) : onceS ss = true := by
  unfold onceTo at H
  rw [List.take_of_length_le h] at H
  exact decide_eq_true H
theorem seen_twice {ss : List ByteArray} {k : Nat} (h : k < ss.length) (hn : seenAt ss k = true) : onceS ss = false := by
  simp only [seenAt, decide_eq_true_eq] at hn
  unfold onceS onceB
  refine decide_eq_false fun hd => ?_
  have e : ss = ss.take k ++ ss.drop k := (List.take_append_drop k ss).symm
  rw [e, List.map_append, List.nodup_append] at hd
  have hm : (ss[k]?.getD ByteArray.empty) ∈ ss.drop k := by
    rw [List.getElem?_eq_getElem h, Option.getD_some, List.drop_eq_getElem_cons h]
    exact List.mem_cons_self
  exact hd.2.2 _ hn _ (List.mem_map.2 ⟨_, hm, rfl⟩) rfl

end Go.Proofs.Ytapnodhgjfbjjaa

namespace Go.Proofs.Ytapnodhgjfbjjaa
open Go.RowKit
set_option linter.unusedVariables false

/-- That none of the texts ahead of j is the one at k. -/
def apartTo (ss : List ByteArray) (x : ByteArray) (j : Nat) : Prop := ∀ i, i < j → ((ss[i]?.getD ByteArray.empty).toList == x.toList) = false

theorem apart_seen {ss : List ByteArray} {k : Nat} (h : k < ss.length) (H : apartTo ss (ss[k]?.getD ByteArray.empty) k) : seenAt ss k = false := by
  refine decide_eq_false fun hm => ?_
  obtain ⟨y, hy, e⟩ := List.mem_map.1 hm
  obtain ⟨i, hi, ey⟩ := List.getElem_of_mem hy
  rw [List.length_take] at hi
  have h1 := H i (by omega)
  rw [List.getElem_take] at ey
  rw [List.getElem?_eq_getElem (show i < ss.length by omega), Option.getD_some, ey, Lib.toList_data, Lib.toList_data, e] at h1
  simp at h1

theorem meets_seen {ss : List ByteArray} {i k : Nat} (h : k < ss.length) (hi : i < k) (he : ((ss[i]?.getD ByteArray.empty).toList == (ss[k]?.getD ByteArray.empty).toList) = true) : seenAt ss k = true := by
  refine decide_eq_true (List.mem_map.2 ⟨ss[i]?.getD ByteArray.empty, ?_, ?_⟩)
  · rw [List.getElem?_eq_getElem (show i < ss.length by omega), Option.getD_some]
    exact List.mem_take_iff_getElem.2 ⟨i, by omega, rfl⟩
  · rw [Lib.toList_data, Lib.toList_data] at he
    exact beq_iff_eq.1 he

end Go.Proofs.Ytapnodhgjfbjjaa

namespace Go.Proofs.Ytapnodhgjfbjjaa
open Go.RowKit
set_option linter.unusedVariables false

def partsOf (ss : List ByteArray) : List (List UInt8) := ss.map fun s => s.data.toList

/-- Of the text what is cut so far, and from where on it is to be cut, at place i. -/
def CutTo (c : UInt8) (s : ByteArray) (ss : List ByteArray) (f i : Nat) : Prop :=
  ss.length ≤ i ∧ ((i ≤ s.size ∧ f ≤ i ∧ cutL c s.data.toList = partsOf ss ++ cutL c (s.data.toList.drop f) ∧ c ∉ (s.data.toList.drop f).take (i - f)) ∨
  (i = s.size + 1 ∧ f = i ∧ cutL c s.data.toList = partsOf ss))

section
variable {c : UInt8} {s : ByteArray} {ss : List ByteArray} {f i : Nat}

theorem cutTo_zero : CutTo c s [] 0 0 := ⟨by simp, .inl ⟨by omega, by omega, by simp [partsOf], by simp⟩⟩

theorem cutTo_bd (H : CutTo c s ss f i) (hi : i ≤ s.size) : f ≤ i := by
  obtain ⟨_, h | h⟩ := H <;> omega

theorem extract_at (hi : i ≤ s.size) : (s.extract f i).data.toList = (s.data.toList.drop f).take (i - f) := Lib.extract_data s f i

/-- At the end the rest is the last part. -/
theorem cutTo_last (H : CutTo c s ss f i) (hi : i = s.size) : CutTo c s (ss ++ [s.extract f i]) (i + 1) (i + 1) := by
  subst hi
  obtain ⟨hl, h | h⟩ := H
  · obtain ⟨_, hf, he, hn⟩ := h
    refine ⟨by simp; omega, .inr ⟨rfl, rfl, ?_⟩⟩
    have h1 : (s.data.toList.drop f).take (s.size - f) = s.data.toList.drop f := List.take_of_length_le (by rw [Lib.size_eq]; simp)
    rw [h1] at hn
    rw [he, cutL_none hn]
    simp only [partsOf, List.map_append, List.map_cons, List.map_nil]
    rw [extract_at (Nat.le_refl _), h1]
  · omega

/-- At the byte a part ends. -/
theorem cutTo_cut (H : CutTo c s ss f i) (hi : i < s.size) (hc : s[i]'hi = c) : CutTo c s (ss ++ [s.extract f i]) (i + 1) (i + 1) := by
  obtain ⟨hl, h | h⟩ := H
  · obtain ⟨_, hf, he, hn⟩ := h
    have hlen : i < s.data.toList.length := by rw [← Lib.size_eq]; exact hi
    refine ⟨by simp; omega, .inl ⟨by omega, by omega, ?_, by simp⟩⟩
    have e1 : s.data.toList.drop f = (s.data.toList.drop f).take (i - f) ++ c :: s.data.toList.drop (i + 1) := by
      have h1 := (List.take_append_drop (i - f) (s.data.toList.drop f)).symm
      have h2 : (s.data.toList.drop f).drop (i - f) = c :: s.data.toList.drop (i + 1) := by
        rw [List.drop_drop, show f + (i - f) = i by omega, List.drop_eq_getElem_cons hlen, at_list s i hi, hc]
      rw [h2] at h1
      exact h1
    rw [he, e1, cutL_at hn]
    simp only [partsOf, List.map_append, List.map_cons, List.map_nil, List.append_assoc, List.singleton_append]
    rw [extract_at (by omega)]
  · omega

/-- At another byte the part goes on. -/
theorem cutTo_on (H : CutTo c s ss f i) (hi : i < s.size) (hc : ¬ s[i]'hi = c) : CutTo c s ss f (i + 1) := by
  obtain ⟨hl, h | h⟩ := H
  · obtain ⟨_, hf, he, hn⟩ := h
    have hlen : i < s.data.toList.length := by rw [← Lib.size_eq]; exact hi
    refine ⟨by omega, .inl ⟨by omega, by omega, he, ?_⟩⟩
    have e1 : i + 1 - f = (i - f) + 1 := by omega
    have hd : i - f < (s.data.toList.drop f).length := by rw [List.length_drop]; omega
    rw [e1, List.take_succ_eq_append_getElem hd, List.mem_append]
    rintro (h | h)
    · exact hn h
    · simp only [List.mem_singleton, List.getElem_drop] at h
      apply hc
      rw [← at_list s i hi, h]
      congr 1
      omega
  · omega

theorem cutTo_end (H : CutTo c s ss f i) (hi : ¬ i ≤ s.size) : cutL c s.data.toList = partsOf ss := by
  obtain ⟨_, h | h⟩ := H
  · omega
  · exact h.2.2
end

/-- What cut leaves: a slice of the call's own that reads as the parts. -/
def CutsTo (c : UInt8) (s : ByteArray) (w : World) (e : Ending) (w' : World) : Prop :=
  ∃ (A : Option Addr) (n k : Nat) (ss : List ByteArray), e = .returned (.slice A n k) ∧ RdT w' A n ss ∧ cutL c s.data.toList = partsOf ss ∧ n ≤ s.size + 1 ∧ Below w.heap.size w w'

theorem cutsTo_mk {c : UInt8} {s : ByteArray} {w w' : World} {base : Nat} {T : TypeId} {v : Value} {ss : List ByteArray} {f i n : Nat}
    (H : CutTo c s ss f i) (hi : ¬ i ≤ s.size) (hi2 : i ≤ s.size + 1) (hs : s.size ≤ 1000) (hn : n = ss.length) (hrow : w'.ownsRow base T 1 v n (ss.map Value.string)) (hb : Below w.heap.size w w') :
    CutsTo c s w (.returned v) w' := by
  have h1 := cutTo_end H hi
  have h2 := H.1
  obtain ⟨A, k, rfl, hrd, _⟩ := RdT.of_own hrow (by omega)
  exact ⟨A, n, k, ss, rfl, hrd, h1, by omega, hb⟩

theorem infoString : (Try.prog.info? 9).map (fun i => (i.zero, i.size, i.bytes)) = some (some (.string ByteArray.empty), 1, 16) := by kernel_rfl

theorem string_cells (l : List ByteArray) : ∀ u ∈ l.map Value.string, u.oneCell' = true := by
  intro u hu
  simp only [List.mem_map] at hu
  obtain ⟨z, _, rfl⟩ := hu
  rfl

end Go.Proofs.Ytapnodhgjfbjjaa

namespace Go.Proofs.Ytapnodhgjfbjjaa
open Go.RowKit
set_option linter.unusedVariables false

theorem cutL_len {c : UInt8} : ∀ {l p : List UInt8}, p ∈ cutL c l → p.length ≤ l.length
  | [], p, h => by simp [cutL] at h; simp [h]
  | b :: l, p, h => by
    unfold cutL at h
    split at h
    · rcases List.mem_cons.1 h with h | h
      · simp [h]
      · have := cutL_len h; simp; omega
    · cases hc : cutL c l with
      | nil => rw [hc] at h; simp at h; simp [h]
      | cons q qs =>
        rw [hc] at h
        rcases List.mem_cons.1 h with h | h
        · have := cutL_len (l := l) (c := c) (p := q) (by rw [hc]; simp)
          rw [h]
          simp
          omega
        · have := cutL_len (l := l) (c := c) (p := p) (by rw [hc]; simp [h])
          simp
          omega

theorem parts_len {c : UInt8} {s : ByteArray} {ss : List ByteArray} {k : Nat} (h : cutL c s.data.toList = partsOf ss) (hk : k < ss.length) : (ss[k]?.getD ByteArray.empty).size ≤ s.size := by
  rw [List.getElem?_eq_getElem hk, Option.getD_some, Lib.size_eq, Lib.size_eq]
  apply cutL_len (c := c)
  rw [h]
  exact List.mem_map.2 ⟨_, List.getElem_mem hk, rfl⟩

/-- The first k parts are right. -/
def partsTo (ss : List ByteArray) (k : Nat) : Prop := ∀ j, j < k → partB (ss[j]?.getD ByteArray.empty).data.toList = true

section
variable {s : ByteArray} {ss : List ByteArray} {k : Nat}
theorem partsTo_succ (H : partsTo ss k) (h : partB (ss[k]?.getD ByteArray.empty).data.toList = true) : partsTo ss (k + 1) := fun j hj => by
  rcases Nat.lt_or_ge j k with h1 | h1
  · exact H j h1
  · obtain rfl : j = k := by omega
    exact h
theorem path_end (hc : cutL 47 s.data.toList = partsOf ss) (H : partsTo ss k) (h : ss.length ≤ k) : pathB s.data.toList = true := by
  unfold pathB
  rw [hc, List.all_eq_true]
  intro p hp
  obtain ⟨x, hx, rfl⟩ := List.mem_map.1 hp
  obtain ⟨j, hj, rfl⟩ := List.getElem_of_mem hx
  have := H j (by omega)
  rwa [List.getElem?_eq_getElem hj] at this
theorem path_bad (hc : cutL 47 s.data.toList = partsOf ss) (hk : k < ss.length) (h : partB (ss[k]?.getD ByteArray.empty).data.toList = false) : pathB s.data.toList = false := by
  unfold pathB
  rw [hc]
  cases ha : (partsOf ss).all partB with
  | false => rfl
  | true =>
    rw [List.all_eq_true] at ha
    have := ha _ (List.mem_map.2 ⟨ss[k], List.getElem_mem hk, rfl⟩)
    rw [List.getElem?_eq_getElem hk, Option.getD_some, this] at h
    cases h
end

section
variable {x : ByteArray} {ps : List ByteArray} {m : Nat}
theorem part_many (hc : cutL 46 x.data.toList = partsOf ps) (h : 2 < ps.length) : partB x.data.toList = false := by
  unfold partB
  rw [hc]
  match ps, h with
  | a :: b :: c :: r, _ => rfl
theorem part_low (hc : cutL 46 x.data.toList = partsOf ps) (h : lowB (ps[0]?.getD ByteArray.empty).data.toList = false) (h0 : 0 < ps.length) : partB x.data.toList = false := by
  unfold partB
  rw [hc]
  match ps, h0 with
  | [a], _ => exact h
  | [a, b], _ => show (lowB a.data.toList && _) = false; rw [show lowB a.data.toList = false from h]; rfl
  | a :: b :: c :: r, _ => rfl
theorem part_one (hc : cutL 46 x.data.toList = partsOf ps) (h : lowB (ps[0]?.getD ByteArray.empty).data.toList = true) (h1 : ps.length = 1) : partB x.data.toList = true := by
  unfold partB
  rw [hc]
  match ps, h1 with
  | [a], _ => exact h
theorem part_two (hc : cutL 46 x.data.toList = partsOf ps) (h : lowB (ps[0]?.getD ByteArray.empty).data.toList = true) (h2 : ps.length = 2) : partB x.data.toList = numB (ps[1]?.getD ByteArray.empty).data.toList := by
  unfold partB
  rw [hc]
  match ps, h2 with
  | [a, b], _ => show (lowB a.data.toList && numB b.data.toList) = _; rw [show lowB a.data.toList = true from h]; rfl
theorem parts_pos {c : UInt8} (hc : cutL c x.data.toList = partsOf ps) : 0 < ps.length := by
  cases ps with
  | nil => exact absurd hc (cutL_ne _ _)
  | cons a r => simp
end

end Go.Proofs.Ytapnodhgjfbjjaa
