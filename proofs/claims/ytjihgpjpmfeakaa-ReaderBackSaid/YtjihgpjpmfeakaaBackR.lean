/- What the reference's Back of octet returns, for all slices; Put for all sizes. Conditions: none. -/
import Derived.Test.YtjihgpjpmfeakaaIntD
namespace Go.Proofs.Ytjihgpjpmfeakaa
open Go.RowKit
set_option linter.unusedVariables false

theorem rd_bytes {w : World} {A : Option Addr} {n c : Nat} {l : List Int} (h : Rd .u8 w A n c l) : ∀ z ∈ l, 0 ≤ z ∧ z ≤ 255 := by
  intro z hz
  simpa [Lit.wf, IntKind.min, IntKind.max, IntKind.signed, IntKind.bits] using h.2.2.2.1 z hz

theorem refBack (A : Option Addr) (n c : Nat) (l : List Int) (w : World) (h : Rd .u8 w A n c l) :
    Calls Try.prog 41 #[.slice A n c] w fun e w' => e = .returned (.tuple #[.int .i64 (backN l), .bool (backB l)]) ∧ w = w' := by
  by_cases hn : 1 ≤ n ∧ n ≤ 8
  · obtain ⟨a, h0, ha, e⟩ := putL_ex l (rd_bytes h)
    have hl := h.len
    rw [hl] at e ha
    subst e
    by_cases hi : 2 ≤ n ∧ Idle (byteAt a (n - 1)) (byteAt a (n - 2))
    · rw [(back_idle hi.1 hn.2 h0 ha hi.2).1, (back_idle hi.1 hn.2 h0 ha hi.2).2]
      exact refBack_idle A n c a w h hi.1 hn.2 (Lib.hid hi.2)
    · have hi' : n = 1 ∨ ¬ Idle (byteAt a (n - 1)) (byteAt a (n - 2)) := by
        by_cases h2 : 2 ≤ n
        · exact .inr fun x => hi ⟨h2, x⟩
        · exact .inl (by omega)
      rw [(back_busy hn.1 hn.2 h0 ha hi').1, (back_busy hn.1 hn.2 h0 ha hi').2]
      exact refBack_yes A n c a w h hn.1 hn.2 (Lib.hid h0) (Lib.hid ha) (Lib.hid hi')
  · have hb := back_no h.len (fun x => hn ⟨x.1, x.2.1⟩)
    rw [hb.1, hb.2]
    exact refBack_no A n c w (by omega)

end Go.Proofs.Ytjihgpjpmfeakaa
