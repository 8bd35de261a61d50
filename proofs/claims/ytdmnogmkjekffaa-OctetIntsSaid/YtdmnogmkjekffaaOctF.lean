/- The walks of layer 1's three laws: whatever the arguments, each returns true and writes nothing that was there. Conditions: none. -/
import Derived.Test.YtdmnogmkjekffaaOctE
namespace Go.Proofs.Ytdmnogmkjekffaa
open Go.RowKit
set_option linter.unusedVariables false

def putI (a s : Int) : List Int := if 1 ≤ s ∧ s ≤ 8 then putL a s.toNat else []

theorem gives_nil {w w' : World} {e : Ending} (h : e = .returned (.slice none 0 0) ∧ w = w') : Gives .u8 w [] e w' := by
  obtain ⟨rfl, rfl⟩ := h
  exact ⟨_, _, _, rfl, Rd.nil_ _ _, Below.refl _ _⟩

theorem octPut_any (a s : Int) (w : World) (H : Hid (U64 a)) : Calls Try.prog 8 #[.int .u64 a, .int .i64 s] w fun e w' => Gives .u8 w (putI a s) e w' := by
  by_cases h : 1 ≤ s ∧ s ≤ 8
  · obtain ⟨k, rfl⟩ := Int.eq_ofNat_of_zero_le (show 0 ≤ s by omega)
    rw [putI, if_pos h]
    exact octPut a k w (by omega) (by omega) H.out.1
  · rw [putI, if_neg h]
    exact (octPut_none a s w (by omega)).mono fun e w' h => gives_nil h

theorem refPut_any (a s : Int) (w : World) (H : Hid (U64 a)) : Calls Try.prog 9 #[.int .u64 a, .int .i64 s] w fun e w' => Gives .u8 w (putI a s) e w' := by
  by_cases h : 1 ≤ s ∧ s ≤ 8
  · obtain ⟨k, rfl⟩ := Int.eq_ofNat_of_zero_le (show 0 ≤ s by omega)
    rw [putI, if_pos h]
    exact refPut a k w (by omega) (by omega) H.out.1 (Lib.hid H.out.2)
  · rw [putI, if_neg h]
    exact (refPut_none a s w (by omega)).mono fun e w' h => gives_nil h

theorem rd_bytes {w : World} {A : Option Addr} {n c : Nat} {l : List Int} (h : Rd .u8 w A n c l) : ∀ z ∈ l, 0 ≤ z ∧ z ≤ 255 := by
  intro z hz
  simpa [Lit.wf, IntKind.min, IntKind.max, IntKind.signed, IntKind.bits] using h.2.2.2.1 z hz

theorem refBack (A : Option Addr) (n c : Nat) (l : List Int) (w : World) (h : Rd .u8 w A n c l) :
    Calls Try.prog 14 #[.slice A n c] w fun e w' => e = .returned (.tuple #[.int .i64 (backN l), .bool (backB l)]) ∧ w = w' := by
  by_cases hn : 1 ≤ n ∧ n ≤ 8
  · obtain ⟨a, h0, ha, e⟩ := putL_ex l (rd_bytes h)
    have hl := h.len
    rw [hl] at e ha
    subst e
    by_cases hi : 2 ≤ n ∧ Idle (byteAt a (n - 1)) (byteAt a (n - 2))
    · rw [(back_idle hi.1 hn.2 h0 ha hi.2).1, (back_idle hi.1 hn.2 h0 ha hi.2).2]
      exact refBack_idle A n c a w h hi.1 hn.2 (Lib.hid hi.2)
    · have hi' : n = 1 ∨ ¬ Idle (byteAt a (n - 1)) (byteAt a (n - 2)) := by
        by_cases h2 : 2 ≤ n
        · exact .inr fun x => hi ⟨h2, x⟩
        · exact .inl (by omega)
      rw [(back_busy hn.1 hn.2 h0 ha hi').1, (back_busy hn.1 hn.2 h0 ha hi').2]
      exact refBack_yes A n c a w h hn.1 hn.2 (Lib.hid h0) (Lib.hid ha) (Lib.hid hi')
  · have hb := back_no h.len (fun x => hn ⟨x.1, x.2.1⟩)
    rw [hb.1, hb.2]
    exact refBack_no A n c w (by omega)

/-- A slice that came in, as the shell of a proof tells of it. -/
theorem rd_of_row {k : IntKind} {w : World} {a : Option Addr} {len cap : Nat} {zs : List Int}
    (h : (a = none ∧ len = 0 ∧ cap = 0 ∧ zs = []) ∨
      ∃ x, a = some x ∧ len ≤ cap ∧ cap ≤ maxLen ∧ zs.length = cap ∧ (∀ i, i < zs.length → w.cell? (x.add i) = some (.int k (zs.getD i 0))) ∧ ∀ n ∈ zs, (Lit.int k n).wf = true) :
    Rd k w a len cap (zs.take len) := by
  rcases h with ⟨rfl, rfl, rfl, rfl⟩ | ⟨x, rfl, hl, hm, hz, hc, hwf⟩
  · exact Rd.nil_ _ _
  · refine ⟨by rw [List.length_take]; omega, hl, hm, fun z hz => hwf z (List.mem_of_mem_take hz), fun hn => ?_⟩
    obtain ⟨b, off, spot⟩ := x
    have h0 := hc 0 (by omega)
    have hspot : spot = none := by simpa [Addr.add] using World.cell?_spot h0
    subst hspot
    refine ⟨b, off, rfl, ?_, fun i hi => ?_⟩
    · have h1 : w.cell? ⟨b, off, none⟩ = some (.int k (zs.getD 0 0)) := by simpa [Addr.add] using h0
      rcases Nat.lt_or_ge b w.heap.size with h | h
      · exact h
      · simp [World.cell?, Array.getElem?_eq_none h] at h1
    · have h1 := hc i (by omega)
      have e2 : (⟨b, off, none⟩ : Addr).add i = ⟨b, off + i, none⟩ := by unfold Addr.add; split <;> simp_all
      rw [e2] at h1
      rw [h1, List.getElem?_take, if_pos hi, List.getD_eq_getElem?_getD]

theorem size_le {w0 w w' : World} (h : Below w0.heap.size w0 w) (h' : Below w.heap.size w w') : Below w0.heap.size w0 w' := h.trans (h'.mono h.size)
theorem rd_go {k : IntKind} {w w' : World} {A : Option Addr} {n c : Nat} {l : List Int} (h : Rd k w A n c l) (h' : Below w.heap.size w w') : Rd k w' A n c l := h.below h'

set_option maxHeartbeats 800000 in
theorem walkPuts (a0 a1 : Int) (A : Option Addr) (n c : Nat) (l : List Int) (w : World) (H : Hid (U64 a0)) (h : Rd .u8 w A n c l) :
    Calls Try.prog 3 #[.int .u64 a0, .int .i64 a1, .slice A n c] w fun e w' => e = .returned (.bool true) ∧ Below w.heap.size w w' := by
  by_cases hn : 1000 < n
  · go_enter Try.func3, Try.ntmps3
    go_wp2_with fail
    refine (live_any _).mono ?_
    rintro e w' ⟨rfl, hb⟩
    go_wp2_with fail
    go_ret
    exact ⟨rfl, hb⟩
  · have hn' : ¬ (1000 : Int) < n := by omega
    clear hn
    go_enter Try.func3, Try.ntmps3
    go_wp2_with fail
    refine (octPut_any _ _ _ H).mono ?_
    rintro e w1 ⟨A1, n1, c1, rfl, hrd1, hb1⟩
    go_wp2_with fail
    refine (refPut_any _ _ _ H).mono ?_
    rintro e w2 ⟨A2, n2, c2, rfl, hrd2, hb2⟩
    go_wp2_with fail
    refine (refSame _ _ _ _ _ _ _ _ _ (hrd1.below hb2) hrd2).mono ?_
    rintro e w3 ⟨rfl, m1, rfl⟩
    have hB2 := Lib.hid (size_le hb1 hb2)
    rw [decide_eq_true rfl]
    have h2 := ((h.below hb1).below hb2).drewN m1
    clear hrd1 hrd2 hb1 hb2
    go_wp2_with fail
    refine (octGet _ _ _ _ _ h2).mono ?_
    rintro e w3 ⟨rfl, rfl⟩
    go_wp2_with fail
    refine (refGet _ _ _ _ _ h2).mono ?_
    rintro e w3 ⟨rfl, rfl⟩
    have hx : (getL l == getL l) = true := by simp
    go_wp2_with fail
    clear hx
    refine (octPut_any _ _ _ H).mono ?_
    rintro e w3 ⟨A3, n3, c3, rfl, hrd3, hb3⟩
    go_wp2_with fail
    have h3 := h2.below hb3
    refine (octSame _ _ _ _ _ _ _ _ _ h3 hrd3).mono ?_
    rintro e w4 ⟨rfl, m2, rfl⟩
    go_wp2_with fail
    refine (refPut_any _ _ _ H).mono ?_
    rintro e w4 ⟨A4, n4, c4, rfl, hrd4, hb4⟩
    have h4 := (h3.drewN m2).below hb4
    go_wp2_with fail
    refine (refSame _ _ _ _ _ _ _ _ _ h4 hrd4).mono ?_
    rintro e w5 ⟨rfl, m3, rfl⟩
    have hB4 := Lib.hid (below_drewN (size_le (below_drewN (size_le (below_drewN hB2.out m1) hb3) m2) hb4) m3)
    clear hb3 hb4 hrd3 hrd4 h2 h3 h4 h
    have hx : ∀ b : Bool, (b == b) = true := by decide
    go_wp2_with fail
    refine (live_any _).mono ?_
    rintro e w6 ⟨rfl, hb6⟩
    have hB6 := Lib.hid (size_le hB4.out hb6)
    clear hb6
    go_wp2_with fail
    go_ret
    exact ⟨rfl, hB6.out⟩
end Go.Proofs.Ytdmnogmkjekffaa
