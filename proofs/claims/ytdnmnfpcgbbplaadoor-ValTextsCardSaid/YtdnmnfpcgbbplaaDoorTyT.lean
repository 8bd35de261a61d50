/- The texts of types: of both texts. Conditions: none. -/
import Derived.Test.YtdnmnfpcgbbplaaDoorTyR
import Derived.Test.YtdnmnfpcgbbplaaDoorApp
import Derived.Lib.Walk
import Derived.Deep.RegionHeld3
namespace Go.Proofs.YtdnmnfpcgbbplaaDoor
open Go.RowKit
set_option linter.unusedVariables false

def intT : ByteArray := ⟨#[105, 110, 116]⟩
def boolT : ByteArray := ⟨#[98, 111, 111, 108]⟩
/-- A number below ten, as a digit. -/
def digS (l : Int) : ByteArray := ⟨#[(48 + l).toNat.toUInt8]⟩
def baseE (es : List En) (k e : Int) : ByteArray := if k = 1 then intT else if k = 2 then boolT else nmE es e.toNat
def textE (es : List En) (k e l : Int) : ByteArray :=
  if rightB es.length k e l = true then (if l = 0 then baseE es k e else baseE es k e ++ (⟨#[91]⟩ : ByteArray) ++ digS l ++ (⟨#[93]⟩ : ByteArray)) else ⟨#[]⟩

theorem ret_str {a b : ByteArray} (h : a = b) : Ending.returned (.string a) = .returned (.string b) := by rw [h]

set_option maxRecDepth 100000 in
set_option maxHeartbeats 2000000 in
theorem itoaSmall (l : Int) (w : World) (h0 : 0 ≤ l) (h9 : l < 10) :
    Calls Tryd.prog 49 #[.int .i64 l] w fun r w' => r = .returned (.string (digS l)) ∧ w = w' := by
  have h1 : IntKind.i64.wrap (l + 1) = l + 1 := IntWalk.i64_in _ (by omega)
  go_enter Tryd.func49, Tryd.ntmps49
  go_wp2_with fail
  go_ret
  refine ⟨ret_str ?_, rfl⟩
  rcases (show l = 0 ∨ l = 1 ∨ l = 2 ∨ l = 3 ∨ l = 4 ∨ l = 5 ∨ l = 6 ∨ l = 7 ∨ l = 8 ∨ l = 9 by omega) with h | h | h | h | h | h | h | h | h | h <;> subst h <;> first | rfl | decide

/-- What a right type's kind is, and, of an enum, its place. -/
theorem right_cases {n : Nat} {k e l : Int} (h : rightB n k e l = true) : (0 ≤ l ∧ l ≤ 8) ∧ (k = 1 ∨ k = 2 ∨ (k = 3 ∧ ∃ m : Nat, e = m ∧ m < n)) := by
  simp only [rightB, Bool.and_eq_true, decide_eq_true_eq] at h
  obtain ⟨h1, h2⟩ := h
  refine ⟨h1, ?_⟩
  split at h2
  · rename_i hk
    rcases hk with h | h
    · exact .inl h
    · exact .inr (.inl h)
  · simp at h2
    exact .inr (.inr ⟨h2.1, e.toNat, by omega, by omega⟩)

/-- No enum's name is long. -/
def EsShort (es : List En) : Prop := ∀ i, i < es.length → (nmE es i).size ≤ 100
theorem base_size {es : List En} {k e l : Int} (h : EsShort es) (hr : rightB es.length k e l = true) : (baseE es k e).size ≤ 100 := by
  obtain ⟨_, hk⟩ := right_cases hr
  rcases hk with rfl | rfl | ⟨rfl, m, rfl, hm⟩
  · show intT.size ≤ 100
    decide
  · show boolT.size ≤ 100
    decide
  · have := h m hm
    simpa [baseE] using this
theorem dig_size (l : Int) : (digS l).size = 1 := rfl

section
variable {es : List En} {k e l : Int}
theorem text_no (h : rightB es.length k e l = false) : textE es k e l = ⟨#[]⟩ := by simp [textE, h]
theorem text_zero (h : rightB es.length k e 0 = true) : textE es k e 0 = baseE es k e := by simp [textE, h]
theorem text_len (h : rightB es.length k e l = true) (hl : ¬ l = 0) : textE es k e l = baseE es k e ++ (⟨#[91]⟩ : ByteArray) ++ digS l ++ (⟨#[93]⟩ : ByteArray) := by simp [textE, h, hl]
end

/-- 'string(b)' of a slice that reads, of one byte. -/
theorem run_digit {w : World} {A : Option Addr} {c : Nat} {l : Int} (h : Rd .u8 w A 1 c [48 + l]) (h0 : 0 ≤ l) (h9 : l < 10) :
    (convert 50 9 (.slice A 1 c)).run Tryd.prog w = .ok (.string (digS l)) w := by
  obtain ⟨b, off, rfl, hb, hc⟩ := h.at_ (i := 0) (by omega)
  have := run_convert_bytes_arg w _ _ Tryd.underlying50 Tryd.underlying5 b off 1 c [48 + l] h.len (fun i hi => by rw [hc i hi, List.getD_eq_getElem?_getD]) _ Tryd.underlying9
  rw [this]
  rfl

end Go.Proofs.YtdnmnfpcgbbplaaDoor
