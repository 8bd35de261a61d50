/- What a Writer's Int, Text, Part and Bytes do. Conditions: what is written is less than memory holds. -/
import Derived.Test.YtjihgpjpmfeakaaWrD
import Derived.Laws.IdiomStrings
namespace Go.Proofs.Ytjihgpjpmfeakaa
open Go.RowKit
set_option linter.unusedVariables false

theorem sL_get (s : ByteArray) (i : Nat) (hi : i < s.size) : (sL s)[i]?.getD 0 = (s.data[i].toNat : Int) := by
  have hi' : i < s.data.size := hi
  simp [sL]
  rw [Array.getElem?_eq_getElem hi']
  rfl

/-- What '[]byte(s)' lays. -/
def textRow (w : World) (s : ByteArray) : World := w.drew.alloc (.cells (bytesRow s (grownCap w s.size 0 5)) 5 ((bytesRow s (grownCap w s.size 0 5)).size, (bytesRow s (grownCap w s.size 0 5)).size + 1))
theorem run_text (s : ByteArray) (w : World) : (convert 9 22 (.string s)).run Try.prog w = .ok (.slice (some ⟨w.heap.size, 0, none⟩) s.size (grownCap w s.size 0 5)) (textRow w s) :=
  run_bytes_of_string w _ _ _ s Try.underlying9 Try.underlying22 Try.underlying5
theorem textRow_below (w : World) (s : ByteArray) : Below w.heap.size w (textRow w s) := ((Below.refl w.heap.size w).drew).alloc (Nat.le_refl _) _
theorem textRow_size (w : World) (s : ByteArray) : (textRow w s).heap.size = w.heap.size + 1 := by
  show (w.heap.push _).size = _
  simp
theorem textRow_rd (w : World) (s : ByteArray) (hs : s.size ≤ maxLen) : Rd .u8 (textRow w s) (some ⟨w.heap.size, 0, none⟩) s.size (grownCap w s.size 0 5) (sL s) := by
  refine ⟨sL_len s, grownCap_ge _ _ _ _, grownCap_le_maxLen _ _ _ _ hs, byt_wf (sL_byt s), fun hn => ⟨_, _, rfl, by rw [textRow_size]; omega, fun i hi => ?_⟩⟩
  rw [Nat.zero_add, textRow]
  refine (World.cell?_alloc_mark w.drew _ _ _ i).trans ?_
  rw [bytesRow_at s _ i hi, sL_get s i hi]

set_option maxHeartbeats 800000 in
theorem wrPart (base b : Nat) (st : Option (List Int)) (g : Option Nat) (A : Option Addr) (m c : Nat) (t : List Int) (k : Nat) (w : World) (h : WrAt w base b st g) (hr : Rd .u8 w A m c t)
    (hA : st.isSome = true → 0 < m → ∀ a, A = some a → some a.block ≠ g) (hs : Short st k) (hk : k + 4 + m ≤ 140737488355328) (hB : base ≤ w.heap.size) :
    Calls Try.prog 29 #[.pointer (some ⟨b, 0, none⟩), .slice A m c] w fun e w' => Wrote w base b (wCount st t 4) g e w' := by
  have HC := Lib.hid (wrCounted base b st g A m c t 4 k w h hr hA hs hk hB)
  clear h hr hs hA
  go_enter Try.func29, Try.ntmps29
  go_wp2_with fail
  refine HC.out.mono ?_
  intro e w1 hw1
  have HW := Lib.hid hw1
  obtain rfl := hw1.1
  clear hw1
  go_wp2_with fail
  go_end0
  exact HW.out

theorem WrAt.fresh {w : World} {base b : Nat} {st : Option (List Int)} {g : Option Nat} (h : WrAt w base b st g) {k : Nat} (hk : w.heap.size ≤ k) : st.isSome = true → some k ≠ g := by
  intro hst e
  cases st with
  | none => cases hst
  | some l => have := (h.g_lt k e.symm).2; omega

set_option maxHeartbeats 800000 in
theorem wrText (base b : Nat) (st : Option (List Int)) (g : Option Nat) (s : ByteArray) (k : Nat) (w : World) (h : WrAt w base b st g) (hs : Short st k) (hk : k + 4 + s.size ≤ 140737488355328) (hB : base ≤ w.heap.size) :
    Calls Try.prog 27 #[.pointer (some ⟨b, 0, none⟩), .string s] w fun e w' => Wrote w base b (wCount st (sL s) 2) g e w' := by
  have hcv := run_text s
  have HB := Lib.hid (textRow_below w s)
  have HC := Lib.hid (wrCounted base b st g _ _ _ (sL s) 2 k (textRow w s) (h.below (textRow_below w s)) (textRow_rd w s (by unfold maxLen; omega))
    (fun h1 _ a e => by injection e with e; subst e; exact h.fresh (Nat.le_refl _) h1) hs hk (Nat.le_trans hB (textRow_below w s).size))
  clear h hs
  go_enter Try.func27, Try.ntmps27
  go_wp2_with fail
  refine HC.out.mono ?_
  intro e w1 hw1
  have HW := Lib.hid (hw1.below HB.out)
  obtain rfl := hw1.1
  clear hw1
  go_wp2_with fail
  go_end0
  exact HW.out

set_option maxHeartbeats 800000 in
theorem wrInt (base b : Nat) (st : Option (List Int)) (g : Option Nat) (n : Int) (k : Nat) (w : World) (h : WrAt w base b st g) (hs : Short st k) (hk : k + 12 ≤ 140737488355328) (hB : base ≤ w.heap.size) (HI : Hid (I64 n)) :
    Calls Try.prog 25 #[.pointer (some ⟨b, 0, none⟩), .int .i64 n] w fun e w' => Wrote w base b (wCount st (putL (u64 n) (wid n)) 1) g e w' := by
  have H := Lib.hid h
  have HS := Lib.hid hs
  have HWd := Lib.hid (wid_bd n)
  clear h hs
  go_enter Try.func25, Try.ntmps25
  go_wp2_with fail
  refine (octInt n _ HI).mono ?_
  rintro e w1 ⟨A1, n1, c1, rfl, hrd, hb, hloc⟩
  have HLo := Lib.hid hloc
  clear hloc
  have HR := Lib.hid hrd
  have HB := Lib.hid hb
  have HN := Lib.hid hrd.len
  clear hrd hb
  go_wp2_with fail
  refine (wrCounted base b st g A1 n1 c1 _ 1 k w1 (H.out.below HB.out) HR.out ?_ HS.out (by have := HN.out; rw [putL_length] at this; have := HWd.out; omega) (Nat.le_trans hB HB.out.size)).mono ?_
  · intro h1 _ a e
    exact H.out.fresh (HLo.out a e) h1
  intro e w2 hw2
  have HW := Lib.hid (hw2.below HB.out)
  obtain rfl := hw2.1
  clear hw2
  go_wp2_with fail
  go_end0
  exact HW.out

theorem Rd.cap {k : IntKind} {w : World} {A : Option Addr} {n c c' : Nat} {l : List Int} (h : Rd k w A n c l) (h1 : n ≤ c') (h2 : c' ≤ c) : Rd k w A n c' l :=
  ⟨h.1, h1, Nat.le_trans h2 h.2.2.1, h.2.2.2⟩

set_option maxHeartbeats 800000 in
theorem wrBytes_no (base b : Nat) (g : Option Nat) (w : World) (h : WrAt w base b none g) :
    Calls Try.prog 32 #[.pointer (some ⟨b, 0, none⟩)] w fun e w' => e = .returned (.slice none 0 0) ∧ w = w' := by
  have H := Lib.hid h
  clear h
  go_enter Try.func32, Try.ntmps32
  go_wp2_with fail
  refine (wrOk_no base b g _ H.out).mono ?_
  rintro e w' ⟨rfl, rfl⟩
  go_wp2_with fail
  go_ret
  exact ⟨rfl, rfl⟩

set_option maxHeartbeats 800000 in
theorem wrBytes_nil (w : World) :
    Calls Try.prog 32 #[.pointer none] w fun e w' => e = .returned (.slice none 0 0) ∧ w = w' := by
  go_enter Try.func32, Try.ntmps32
  go_wp2_with fail
  refine (wrOk_nil _).mono ?_
  rintro e w' ⟨rfl, rfl⟩
  go_wp2_with fail
  go_ret
  exact ⟨rfl, rfl⟩

set_option maxHeartbeats 800000 in
theorem wrBytes_yes (base b : Nat) (l : List Int) (g : Option Nat) (w : World) (h : WrAt w base b (some l) g) (hl : l.length ≤ 140737488355328) :
    Calls Try.prog 32 #[.pointer (some ⟨b, 0, none⟩)] w fun e w' => Own w l e w' := by
  obtain ⟨A, n, c, hrow, hown, hg, hb, hlen⟩ := h.open_
  have h1 : w.cell? ⟨b, 1, none⟩ = some (.slice A n c) := hrow.cell (by omega)
  have H := Lib.hid h
  have HC := Lib.hid (clone A n c l w (by obtain ⟨A', c', e, hr, _⟩ := own_rd hown hb; injection e with e1 e2 e3; subst e1 e3; exact hr) (by omega))
  clear h hrow hown hg hb
  go_enter Try.func32, Try.ntmps32
  go_wp2_with fail
  refine (wrOk_yes base b l g _ H.out).mono ?_
  rintro e w' ⟨rfl, rfl⟩
  go_wp2_with fail
  refine HC.out.mono ?_
  rintro e w1 ⟨A1, n1, c1, rfl, hrd, hb1, hA1⟩
  have HR := Lib.hid hrd
  have HB := Lib.hid hb1
  have HA := Lib.hid hA1
  have hle := hrd.le
  have hmx := hrd.max
  clear hrd hb1 hA1
  go_wp2_with fail
  go_ret
  exact ⟨A1, n1, n1, rfl, HR.out.cap (Nat.le_refl _) hle, HB.out, HA.out⟩
end Go.Proofs.Ytjihgpjpmfeakaa
