/- The walk of CrcSums: at once and piece by piece the sums are the reference's; what is no Sum has none. Conditions: none. -/
import Derived.Test.YtoaaailgfdcflaaCrcL
namespace Go.Proofs.Ytoaaailgfdcflaa
open Go.RowKit
set_option linter.unusedVariables false
set_option maxRecDepth 100000

/-- A slice of slices that reads as lists of bytes. -/
def RdRows (w : World) (A : Option Addr) (n c : Nat) (ls : List (List Int)) : Prop :=
  ls.length = n ∧ n ≤ c ∧ c ≤ maxLen ∧
  (0 < n → ∃ b off, A = some ⟨b, off, none⟩ ∧ b < w.heap.size ∧ ∀ i, i < n → ∃ A' n' c', w.cell? ⟨b, off + i, none⟩ = some (.slice A' n' c') ∧ Rd .u8 w A' n' c' (ls[i]?.getD []))

theorem own_sum_ne {w : World} {base b r n size : Nat} {v : Value} {xs : List Value} (h : w.ownsRow base 5 size v n xs) (hs : Sum w b r) : some b ≠ v.ownBlock := by
  intro e
  have hh : ∃ c, w.heap[b]? = some (.cells c 44 (0, 0)) := hs.elim (fun h => ⟨_, h.choose_spec.1⟩) (fun h => ⟨_, h.choose_spec.1⟩)
  obtain ⟨cs, hc⟩ := hh
  rcases h.2 with ⟨rfl, _⟩ | ⟨g, cap, cur, rfl, _, hg, _⟩
  · simp [Value.ownBlock] at e
  · obtain rfl : b = g := by simpa [Value.ownBlock] using e
    rw [hc] at hg
    injection hg with hg
    injection hg with _ ht
    exact absurd ht (by decide)

theorem own_rd {w : World} {base n c : Nat} {A : Option Addr} {e : TypeId} {xs : List Int} (h : w.ownsRow base e 1 (.slice A n c) n (xs.map (Value.int .u8))) (hb : Byt xs) : Rd .u8 w A n c xs := by
  obtain ⟨A', c', e, hrd, _⟩ := Rd.of_own (l := xs) h rfl (byt_wf hb)
  injection e with e1 e2 e3
  subst e1 e3
  exact hrd

theorem flat_take {ls : List (List Int)} {k : Nat} (h : k < ls.length) : (ls.take (k + 1)).flatten = (ls.take k).flatten ++ ls[k]?.getD [] := by
  rw [List.take_succ_eq_append_getElem h, List.flatten_append, List.getElem?_eq_getElem h]
  simp

set_option maxHeartbeats 3200000 in
theorem walkSums (A : Option Addr) (n c : Nat) (ls : List (List Int)) (w : World) (h : RdRows w A n c ls) :
    Calls Try.prog 3 #[.slice A n c] w fun e w' => e = .returned (.bool true) ∧ Below w.heap.size w w' := by
  by_cases hn : 20 < n
  · clear h
    go_enter Try.func3, Try.ntmps3
    go_wp2_with fail
    refine (live_any _).mono ?_
    rintro e w' ⟨rfl, hb⟩
    go_wp2_with fail
    go_ret
    exact ⟨rfl, hb⟩
  · have hn' : ¬ (20 : Int) < n := by omega
    have hn2 : n ≤ 20 := by omega
    have HR := Lib.hid h
    have HL := Lib.hid h.1
    clear hn h
    have HO0 := Lib.hid (World.ownsRow_lit (base := w.heap.size) (e := 5) (size := 1) w #[] 0 (Nat.le_refl _) (by decide) rfl)
    have HB0 := Lib.hid ((Below.refl w.heap.size w).alloc (Nat.le_refl _) (.cells #[] 5))
    obtain ⟨i0, hi, hz0, hz1, hz2⟩ := info_parts Try.info5
    go_enter Try.func3, Try.ntmps3
    go_wp2_with fail
    refine (newSum _).mono ?_
    rintro e w1 ⟨rfl, hs1, hg1⟩
    have HS1 := Lib.hid (show Sum w1 (w.alloc (.cells #[] 5)).heap.size 4294967295 from .inl hs1)
    have HB1 := Lib.hid (HB0.out.grown hg1 (by simp) (fun _ e => by cases e))
    have HO1 := Lib.hid (HO0.out.kept hg1 (.inr (by simp [Value.ownBlock])))
    have HBb := Lib.hid (show w.heap.size ≤ (w.alloc (.cells #[] 5)).heap.size from by simp)
    generalize (w.alloc (.cells #[] 5)).heap.size = b at *
    clear hs1 hg1
    go_wp2_with fail
    go_loopw [3, 5] (fun v i wr => ∃ k m : Nat, k ≤ n ∧ m ≤ 100 * k ∧ i = .int .i64 k ∧ wr.ownsRow w.heap.size 5 1 v m ((ls.take k).flatten.map (Value.int .u8)) ∧ Byt (ls.take k).flatten ∧ Sum wr b (reg (ls.take k).flatten) ∧ Below w.heap.size w wr) (fun _ i _ => n - (intOf i).toNat)
    case atStart => exact ⟨0, 0, by omega, by omega, rfl, HO1.out, by intro z hz; simp at hz, HS1.out, HB1.out⟩
    case round =>
      obtain ⟨k, m, hk, hm, rfl, hown, hbyt, hsum, hbel⟩ := hrel
      have HO := Lib.hid hown
      have HY := Lib.hid hbyt
      have HS := Lib.hid hsum
      have HB := Lib.hid hbel
      clear hown hbyt hsum hbel
      have HF := Lib.hid (fun h : k < ls.length => flat_take (ls := ls) h)
      generalize hX : (ls.take k).flatten = X at *
      have HX := Lib.hid hX
      clear hX
      by_cases hlt : k < n
      · obtain ⟨b1, off, rfl, hb1, hc⟩ := HR.out.2.2.2 (by omega)
        obtain ⟨A', n', c', hcell, hrd⟩ := hc k hlt
        have hcellr := (HB.out.cell (p := ⟨b1, off + k, none⟩) hb1).trans hcell
        have HRd := Lib.hid hrd
        have HC := Lib.hid hcell
        clear hc hcell hrd
        by_cases h100 : (100 : Int) < n'
        · go_wp2_with fail
          refine (live_any _).mono ?_
          rintro e w6 ⟨rfl, hb6⟩
          have HB6 := Lib.hid (size_le HB.out hb6)
          clear hb6
          go_wp2_with fail
          go_ret
          exact ⟨rfl, HB6.out⟩
        · generalize hY : ls[k]?.getD [] = Y at *
          have HYY := Lib.hid hY
          clear hY
          have hn100 : n' ≤ 100 := by omega
          go_wp2_with (at_builtin; go_must (refine wpList_append_rd rfl _ _ _ rfl w.heap.size 5 i0 (.int .u8 0) 1 Try.underlying24 hi hz0 hz1 hz2 rfl _ m X rfl HO.out _ n' _ Y rfl (HRd.out.below HB.out) ?c1 ?c2 ?c3 ?_))
          case c1 => unfold maxLen; omega
          case c2 => omega
          case c3 => exact HB.out.size
          intro v3 w3 hown3 hgrow3
          have hown3 : w3.ownsRow w.heap.size 5 1 v3 (m + n') ((X ++ Y).map (Value.int .u8)) := by rw [List.map_append]; exact hown3
          have HY3 := Lib.hid (HY.out.app HRd.out.byt)
          obtain ⟨A3, c3, rfl, _, _⟩ := Rd.of_own (l := X ++ Y) hown3 rfl (byt_wf HY3.out)
          have HS3 := Lib.hid (HS.out.kept hgrow3 (own_sum_ne HO.out HS.out))
          have HB3 := Lib.hid (below_grown HB.out hgrow3 HB.out.size HO.out (Nat.le_refl _))
          have HO3 := Lib.hid hown3
          have hcell3 := (HB3.out.cell (p := ⟨b1, off + k, none⟩) hb1).trans HC.out
          clear hown3 hgrow3
          go_wp2_with fail
          refine (add_any b (reg X) A' n' c' Y _ HS3 (HRd.out.below HB3.out) (Lib.hid (HRd.out.off HBb.out)) (reg_lt HY.out)).mono ?_
          rintro e w4 ⟨rfl, hs4, hg4⟩
          have HS4 := Lib.hid (show Sum w4 b (reg (X ++ Y)) from by rw [reg_append]; exact hs4)
          have HO4 := Lib.hid (HO3.out.kept hg4 (.inr (own_sum_ne HO3.out HS3.out).symm))
          have HR4 := Lib.hid (own_rd HO4.out HY3.out)
          have HB4 := Lib.hid (HB3.out.grown hg4 HB3.out.size (fun g e => by have := HBb.out; injection e with e; omega))
          clear hs4 hg4
          go_wp2_with fail
          refine (value_any b (reg (X ++ Y)) _ HS4 (reg_lt HY3.out)).mono ?_
          rintro e w5 ⟨rfl, rfl⟩
          rw [show 4294967295 - reg (X ++ Y) = crcN (X ++ Y) from rfl]
          go_wp2_with fail
          refine (refOf _ _ _ (X ++ Y) _ HR4.out).mono ?_
          rintro e w5 ⟨rfl, rfl⟩
          have hx : ((crcN (X ++ Y) : Int) != (crcN (X ++ Y) : Int)) = false := by simp
          go_wp2_with fail
          go_roundw
          case rel =>
            have e : (ls.take (k + 1)).flatten = X ++ Y := by rw [HF.out (by rw [HL.out]; exact hlt)]
            refine ⟨k + 1, m + n', by omega, by omega, by go_num, ?_, ?_, ?_, HB4.out⟩
            · rw [e]; exact HO4.out
            · rw [e]; exact HY3.out
            · rw [e]; exact HS4.out
          case measure => simp [intOf]; omega
      · obtain ⟨A3, c3, rfl, hrd3, _⟩ := Rd.of_own (l := X) HO.out rfl (byt_wf HY.out)
        have HR3 := Lib.hid hrd3
        clear hrd3
        go_wp2_with fail
        refine (add_nil _ _ _ _).mono ?_
        rintro e w2 ⟨rfl, rfl⟩
        have hz := zero_sum
        have hne := zSum_ne
        have hsz := zSum_size
        go_wp2_with fail
        have HBl := Lib.hid HB.out.size
        refine (add_not (wr.heap.size + 1) 0 0 0 (fun _ => 0) _ 1 1 _ (SumAt.alloc (show SumAt ((wr.alloc (.cells #[.int .u8 1] 5)).alloc (.cells zSum 44)) (wr.heap.size + 1) false 0 0 0 (fun _ => 0) from by have := SumAt.zero (wr.alloc (.cells #[.int .u8 1] 5)); simpa using this) _)).mono ?_
        rintro e w2 ⟨rfl, rfl⟩
        have HZ := Lib.hid (SumAt.alloc (show SumAt ((wr.alloc (.cells #[.int .u8 1] 5)).alloc (.cells zSum 44)) (wr.heap.size + 1) false 0 0 0 (fun _ => 0) from by have := SumAt.zero (wr.alloc (.cells #[.int .u8 1] 5)); simpa using this) (.cells #[.int .u8 1] 5))
        have HB2 := Lib.hid (((HB.out.alloc HB.out.size (.cells #[.int .u8 1] 5)).alloc (by have := HB.out.size; simp; omega) (.cells zSum 44)).alloc (by have := HB.out.size; simp; omega) (.cells #[.int .u8 1] 5))
        have HR2 := Lib.hid (((HR3.out.alloc (.cells #[.int .u8 1] 5)).alloc (.cells zSum 44)).alloc (.cells #[.int .u8 1] 5))
        go_wp2_with fail
        generalize ((wr.alloc (.cells #[.int .u8 1] 5)).alloc (.cells zSum 44)).alloc (.cells #[.int .u8 1] 5) = w2 at *
        clear hz hne hsz
        refine (crcOf _ _ _ X _ HR2.out).mono ?_
        rintro e w4 ⟨rfl, hb4⟩
        have HR4 := Lib.hid (HR2.out.below hb4)
        have HZ4 := Lib.hid (HZ.out.below hb4 HZ.out.lt)
        have HB4 := Lib.hid (size_le HB2.out hb4)
        clear hb4
        go_wp2_with fail
        refine (refOf _ _ _ X _ HR4.out).mono ?_
        rintro e w5 ⟨rfl, rfl⟩
        have hx : ((crcN X : Int) == (crcN X : Int)) = true := by simp
        go_wp2_with fail
        refine (value_nil _).mono ?_
        rintro e w5 ⟨rfl, rfl⟩
        go_wp2_with fail
        refine (value_not _ _ _ _ _ _ HZ4.out).mono ?_
        rintro e w5 ⟨rfl, rfl⟩
        go_wp2_with fail
        refine (newSum _).mono ?_
        rintro e w6 ⟨rfl, hs6, hg6⟩
        have HS6 := Lib.hid (show Sum w6 w4.heap.size 4294967295 from .inl hs6)
        have HB6 := Lib.hid (HB4.out.grown hg6 HB4.out.size (fun _ e => by cases e))
        clear hs6 hg6
        go_wp2_with fail
        refine (value_any _ 4294967295 _ HS6 (by decide)).mono ?_
        rintro e w7 ⟨rfl, rfl⟩
        go_wp2_with fail
        refine (live_any _).mono ?_
        rintro e w8 ⟨rfl, hb8⟩
        have HB8 := Lib.hid (size_le HB6.out hb8)
        clear hb8
        go_wp2_with fail
        go_ret
        exact ⟨rfl, HB8.out⟩
end Go.Proofs.Ytoaaailgfdcflaa
