/- What writing piece by piece leaves, as plain functions on lists: no program is named here. Conditions: none. -/
import Derived.Test.YtjihgpjpmfeakaaRdM
import Derived.Laws.BytesArg
namespace Go.Proofs.Ytjihgpjpmfeakaa
open Go.RowKit

/-- A text's bytes as numbers. -/
def sL (s : ByteArray) : List Int := s.data.toList.map fun b => (b.toNat : Int)
theorem sL_len (s : ByteArray) : (sL s).length = s.size := by
  rw [sL, List.length_map, Array.length_toList]
  rfl
theorem sL_byt (s : ByteArray) : ∀ z ∈ sL s, 0 ≤ z ∧ z ≤ 255 := by
  intro z hz
  simp only [sL, List.mem_map] at hz
  obtain ⟨b, _, rfl⟩ := hz
  have := b.toNat_lt
  omega
theorem sL_back (s : ByteArray) : strOfNums (sL s) = s := by
  apply ByteArray.ext
  apply Array.toList_inj.1
  rw [strOfNums_data, sL, List.map_map]
  conv => rhs; rw [← List.map_id s.data.toList]
  apply List.map_congr_left
  intro b _
  simp

theorem putL_byt (a : Int) (s : Nat) : ∀ z ∈ putL a s, 0 ≤ z ∧ z ≤ 255 := by
  intro z hz
  simp only [putL, List.mem_map] at hz
  obtain ⟨j, _, rfl⟩ := hz
  exact byteAt_bd _ _

/-- What was written so far; 'none' is one that failed. -/
def wNum (st : Option (List Int)) (n z : Int) : Option (List Int) :=
  match st with
  | none => none
  | some l => if 1 ≤ z ∧ z ≤ 4 ∧ 0 ≤ n ∧ n < 256 ^ z.toNat then some (l ++ putL n z.toNat) else none
def wPut (st : Option (List Int)) (t : List Int) : Option (List Int) := st.map (· ++ t)
def wCount (st : Option (List Int)) (t : List Int) (z : Int) : Option (List Int) := wPut (wNum st t.length z) t

theorem wNum_none (n z : Int) : wNum none n z = none := rfl
theorem wNum_yes (l : List Int) {n : Int} {z : Nat} (h1 : 1 ≤ z) (h4 : z ≤ 4) (h0 : 0 ≤ n) (hn : n < 256 ^ z) : wNum (some l) n z = some (l ++ putL n z) := by
  unfold wNum
  exact if_pos ⟨by omega, by omega, h0, hn⟩
theorem wNum_no (l : List Int) {n z : Int} (h : ¬ (1 ≤ z ∧ z ≤ 4 ∧ 0 ≤ n ∧ n < 256 ^ z.toNat)) : wNum (some l) n z = none := if_neg h
theorem wNum_len {l : List Int} {n z : Int} {t : List Int} (h : wNum (some l) n z = some t) : t.length ≤ l.length + 4 := by
  unfold wNum at h
  simp only at h
  split at h
  · injection h with h
    subst h
    rw [List.length_append, putL_length]
    omega
  · cases h
/-- So long at most. -/
def Short (st : Option (List Int)) (k : Nat) : Prop := ∀ l, st = some l → l.length ≤ k
theorem Short.none (k : Nat) : Short none k := fun _ h => by cases h
theorem Short.num {st : Option (List Int)} {k : Nat} (h : Short st k) (n z : Int) : Short (wNum st n z) (k + 4) := by
  intro t ht
  cases st with
  | none => cases ht
  | some l => have := wNum_len ht; have := h l rfl; omega
theorem Short.put {st : Option (List Int)} {k : Nat} (h : Short st k) (t : List Int) : Short (wPut st t) (k + t.length) := by
  intro t' ht
  cases st with
  | none => cases ht
  | some l =>
    have := h l rfl
    have e : l ++ t = t' := by simpa [wPut] using ht
    subst e
    rw [List.length_append]
    omega
theorem Short.count {st : Option (List Int)} {k : Nat} (h : Short st k) (t : List Int) (z : Int) : Short (wCount st t z) (k + 4 + t.length) := (h.num _ _).put t
theorem Short.more {st : Option (List Int)} {k k' : Nat} (h : Short st k) (hk : k ≤ k') : Short st k' := fun l e => Nat.le_trans (h l e) hk
end Go.Proofs.Ytjihgpjpmfeakaa
