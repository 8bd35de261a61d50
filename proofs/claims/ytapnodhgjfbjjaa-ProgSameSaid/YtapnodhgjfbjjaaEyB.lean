/- Which expressions are the same, of the program's text. Conditions: none. -/
import Derived.Test.YtapnodhgjfbjjaaExS
namespace Go.Proofs.Ytapnodhgjfbjjaa
open Go.RowKit Go.Sort
set_option linter.unusedVariables false
set_option linter.unusedSimpArgs false

set_option maxRecDepth 100000 in
set_option maxHeartbeats 2000000 in
theorem slEqual (A B : Option Addr) (n m c d : Nat) (ss tt : List ByteArray) (w : World) (hs : RdT w A n ss) (ht : RdT w B m tt) :
    Calls Try.prog 31 #[.slice A n c, .slice B m d] w fun r w' => r = .returned (.bool (sameT ss tt)) ∧ Below w.heap.size w w' := by
  have h1 := hs.len
  have h2 := ht.len
  have h3 := hs.max
  have h4 := ht.max
  by_cases hnm : n = m
  · subst hnm
    go_enter Try.func31, Try.ntmps31
    go_wp2_with fail
    go_loopw [13] (fun i wr => ∃ k : Nat, k ≤ n ∧ i = .int .i64 k ∧ sameTo ss tt k ∧ ∃ p, wr = w.drewN p) (fun i _ => n - (intOf i).toNat)
    case atStart => exact ⟨0, Nat.zero_le _, rfl, fun j hj => absurd hj (by omega), 0, rfl⟩
    case round =>
      obtain ⟨k, hk, rfl, hto, p, rfl⟩ := hrel
      have HT := Lib.hid hto
      clear hto
      by_cases hlt : k < n
      · obtain ⟨b, off, rfl, hb, hc⟩ := hs.at_ hlt
        obtain ⟨b', off', rfl, hb', hc'⟩ := ht.at_ hlt
        have e1 := hc k hlt
        have e2 := hc' k hlt
        have HN := Lib.hid fun h => sameTo_succ HT.out h
        have HF := Lib.hid fun h => sameT_at (a := ss) (b := tt) (k := k) (by omega) (by omega) h
        clear hc hc'
        generalize ss[k]?.getD ByteArray.empty = x at e1 HN HF
        generalize tt[k]?.getD ByteArray.empty = y at e2 HN HF
        by_cases he : (x.toList == y.toList) = true
        · have HN := Lib.hid (HN.out he)
          have hne : (x.toList != y.toList) = false := by simp only [bne, he]; rfl
          go_wp2_with fail
          go_quiet (fail)
          go_wp2_with fail
          go_roundw
          case rel => exact ⟨k + 1, by omega, by go_num, HN.out, _, rfl⟩
          case measure => simp [intOf]; omega
        · have he : (x.toList == y.toList) = false := by simpa using he
          have HF := Lib.hid (HF.out he)
          have hne : (x.toList != y.toList) = true := by simp only [bne, he]; rfl
          go_wp2_with fail
          go_quiet (fail)
          go_wp2_with fail
          go_ret
          exact ⟨ret_bool HF.out.symm, below_drewN (below_drewN (Below.refl _ _) _) _⟩
      · have HY := Lib.hid (sameT_yes (by omega) HT.out (by omega))
        go_wp2_with fail
        go_ret
        exact ⟨ret_bool HY.out.symm, below_drewN (Below.refl _ _) _⟩
  · have hF := Lib.hid (sameT_len (a := ss) (b := tt) (by omega))
    have hne : ((n : Int) != (m : Int)) = true := by rw [bne_iff_ne]; omega
    go_enter Try.func31, Try.ntmps31
    go_wp2_with fail
    go_ret
    exact ⟨ret_bool hF.out.symm, Below.refl _ _⟩

/-- Whether two expressions have the same fields, whatever their subs are. -/
def fieldsB (x y : Ex) : Bool := (x.k == y.k) && (x.n == y.n) && (x.s.toList == y.s.toList) && (x.op == y.op) && sameT x.arms y.arms
theorem sameX_fields (x y : Ex) : sameX x y = (fieldsB x y && sameXs x.subs y.subs) := sameX_eq x y

set_option maxRecDepth 100000 in
set_option maxHeartbeats 2000000 in
theorem exFields (x : Ex) (A : Option Addr) (ca : Nat) (B : Option Addr) (cb : Nat) (y : Ex) (A' : Option Addr) (ca' : Nat) (B' : Option Addr) (cb' : Nat) (w : World) (hr : rdX w x A B) (hr' : rdX w y A' B') :
    Calls Try.prog 40 #[.agg (exA x A ca B cb), .agg (exA y A' ca' B' cb')] w fun e w' => e = .returned (.bool (fieldsB x y)) ∧ Below w.heap.size w w' := by
  have HF := Lib.hid fun w1 h => box2_facts w x y A A' ca ca' B B' cb cb' w1 h hr hr'
  have HNM := Lib.hid fun w1 (h : Below w.heap.size w w1) => slEqual A A' x.arms.length y.arms.length ca ca' x.arms y.arms w1 (hr.below h).arms (hr'.below h).arms
  have HS := Lib.hid (show fieldsB x y = ((x.k == y.k) && (x.n == y.n) && (x.s.toList == y.s.toList) && (x.op == y.op) && sameT x.arms y.arms) from rfl)
  clear hr hr'
  unfold exA at HF ⊢
  generalize fieldsB x y = res at *
  generalize x.k = k1 at *
  generalize y.k = k2 at *
  generalize x.n = m1 at *
  generalize y.n = m2 at *
  generalize x.s = s1 at *
  generalize y.s = s2 at *
  generalize x.op = o1 at *
  generalize y.op = o2 at *
  generalize sameT x.arms y.arms = nb at *
  generalize x.arms.length = a1 at *
  generalize y.arms.length = a2 at *
  generalize x.subs.length = n1 at *
  generalize y.subs.length = n2 at *
  generalize hk : (k1 == k2) = bk at *
  generalize hm : (m1 == m2) = bm at *
  generalize hs : (s1.toList == s2.toList) = bs at *
  generalize ho : (o1 == o2) = bo at *
  cases bk with
  | false =>
    have HN := Lib.hid (show res = false by rw [HS.out]; simp)
    go_enter Try.func40, Try.ntmps40
    go_upto_region 1 with (fail)
    generalize hw1 : (w.alloc _).alloc _ = w1
    obtain ⟨hb1, hg, hr1, hr2, hcell, hcell2⟩ := HF.out w1 hw1
    have HB1 := Lib.hid hb1
    have q0 := hcell w1 (Below.refl _ _) 0
    have p0 := hcell2 w1 (Below.refl _ _) 0
    have q1 := hcell w1 (Below.refl _ _) 1
    have p1 := hcell2 w1 (Below.refl _ _) 1
    have q2 := hcell w1 (Below.refl _ _) 2
    have p2 := hcell2 w1 (Below.refl _ _) 2
    have q3 := hcell w1 (Below.refl _ _) 3
    have p3 := hcell2 w1 (Below.refl _ _) 3
    have q4 := hcell w1 (Below.refl _ _) 4
    have p4 := hcell2 w1 (Below.refl _ _) 4
    have q5 := hcell w1 (Below.refl _ _) 5
    have p5 := hcell2 w1 (Below.refl _ _) 5
    clear hcell hcell2 hb1 hr1 hr2 hw1 HF
    go_wp2_with fail
    go_ret
    exact ⟨ret_bool HN.out.symm, HB1.out⟩
  | true =>
    cases bm with
    | false =>
      have HN := Lib.hid (show res = false by rw [HS.out]; simp)
      go_enter Try.func40, Try.ntmps40
      go_upto_region 1 with (fail)
      generalize hw1 : (w.alloc _).alloc _ = w1
      obtain ⟨hb1, hg, hr1, hr2, hcell, hcell2⟩ := HF.out w1 hw1
      have HB1 := Lib.hid hb1
      have q0 := hcell w1 (Below.refl _ _) 0
      have p0 := hcell2 w1 (Below.refl _ _) 0
      have q1 := hcell w1 (Below.refl _ _) 1
      have p1 := hcell2 w1 (Below.refl _ _) 1
      have q2 := hcell w1 (Below.refl _ _) 2
      have p2 := hcell2 w1 (Below.refl _ _) 2
      have q3 := hcell w1 (Below.refl _ _) 3
      have p3 := hcell2 w1 (Below.refl _ _) 3
      have q4 := hcell w1 (Below.refl _ _) 4
      have p4 := hcell2 w1 (Below.refl _ _) 4
      have q5 := hcell w1 (Below.refl _ _) 5
      have p5 := hcell2 w1 (Below.refl _ _) 5
      clear hcell hcell2 hb1 hr1 hr2 hw1 HF
      go_wp2_with fail
      go_ret
      exact ⟨ret_bool HN.out.symm, HB1.out⟩
    | true =>
      cases bs with
      | false =>
        have HN := Lib.hid (show res = false by rw [HS.out]; simp)
        go_enter Try.func40, Try.ntmps40
        go_upto_region 1 with (fail)
        generalize hw1 : (w.alloc _).alloc _ = w1
        obtain ⟨hb1, hg, hr1, hr2, hcell, hcell2⟩ := HF.out w1 hw1
        have HB1 := Lib.hid hb1
        have q0 := hcell w1 (Below.refl _ _) 0
        have p0 := hcell2 w1 (Below.refl _ _) 0
        have q1 := hcell w1 (Below.refl _ _) 1
        have p1 := hcell2 w1 (Below.refl _ _) 1
        have q2 := hcell w1 (Below.refl _ _) 2
        have p2 := hcell2 w1 (Below.refl _ _) 2
        have q3 := hcell w1 (Below.refl _ _) 3
        have p3 := hcell2 w1 (Below.refl _ _) 3
        have q4 := hcell w1 (Below.refl _ _) 4
        have p4 := hcell2 w1 (Below.refl _ _) 4
        have q5 := hcell w1 (Below.refl _ _) 5
        have p5 := hcell2 w1 (Below.refl _ _) 5
        clear hcell hcell2 hb1 hr1 hr2 hw1 HF
        go_wp2_with fail
        go_ret
        exact ⟨ret_bool HN.out.symm, HB1.out⟩
      | true =>
        cases bo with
        | false =>
          have HN := Lib.hid (show res = false by rw [HS.out]; simp)
          go_enter Try.func40, Try.ntmps40
          go_upto_region 1 with (fail)
          generalize hw1 : (w.alloc _).alloc _ = w1
          obtain ⟨hb1, hg, hr1, hr2, hcell, hcell2⟩ := HF.out w1 hw1
          have HB1 := Lib.hid hb1
          have q0 := hcell w1 (Below.refl _ _) 0
          have p0 := hcell2 w1 (Below.refl _ _) 0
          have q1 := hcell w1 (Below.refl _ _) 1
          have p1 := hcell2 w1 (Below.refl _ _) 1
          have q2 := hcell w1 (Below.refl _ _) 2
          have p2 := hcell2 w1 (Below.refl _ _) 2
          have q3 := hcell w1 (Below.refl _ _) 3
          have p3 := hcell2 w1 (Below.refl _ _) 3
          have q4 := hcell w1 (Below.refl _ _) 4
          have p4 := hcell2 w1 (Below.refl _ _) 4
          have q5 := hcell w1 (Below.refl _ _) 5
          have p5 := hcell2 w1 (Below.refl _ _) 5
          clear hcell hcell2 hb1 hr1 hr2 hw1 HF
          go_wp2_with fail
          go_ret
          exact ⟨ret_bool HN.out.symm, HB1.out⟩
        | true =>
          have HN := Lib.hid (show res = nb by rw [HS.out]; simp)
          go_enter Try.func40, Try.ntmps40
          go_upto_region 1 with (fail)
          generalize hw1 : (w.alloc _).alloc _ = w1
          obtain ⟨hb1, hg, hr1, hr2, hcell, hcell2⟩ := HF.out w1 hw1
          have HB1 := Lib.hid hb1
          have q0 := hcell w1 (Below.refl _ _) 0
          have p0 := hcell2 w1 (Below.refl _ _) 0
          have q1 := hcell w1 (Below.refl _ _) 1
          have p1 := hcell2 w1 (Below.refl _ _) 1
          have q2 := hcell w1 (Below.refl _ _) 2
          have p2 := hcell2 w1 (Below.refl _ _) 2
          have q3 := hcell w1 (Below.refl _ _) 3
          have p3 := hcell2 w1 (Below.refl _ _) 3
          have q4 := hcell w1 (Below.refl _ _) 4
          have p4 := hcell2 w1 (Below.refl _ _) 4
          have q5 := hcell w1 (Below.refl _ _) 5
          have p5 := hcell2 w1 (Below.refl _ _) 5
          have HN1 := Lib.hid (HNM.out w1 hb1)
          clear hcell hcell2 hb1 hr1 hr2 hw1 HF
          go_wp2_with fail
          refine HN1.out.mono ?_
          rintro r w2 ⟨rfl, hb2⟩
          have HB2 := Lib.hid (HB1.out.trans (hb2.mono HB1.out.size))
          clear hb2
          go_wp2_with fail
          go_ret
          exact ⟨ret_bool HN.out.symm, HB2.out⟩

end Go.Proofs.Ytapnodhgjfbjjaa
