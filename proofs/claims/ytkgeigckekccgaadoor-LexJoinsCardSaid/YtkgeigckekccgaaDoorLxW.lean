/- What All tells, of both, whatever the text; live, same; the walk of LexAll. Conditions: that the variables lie as laid. -/
import Derived.Test.YtkgeigckekccgaaDoorLxO
namespace Go.Proofs.YtkgeigckekccgaaDoor
open Go.RowKit Go.Sort
set_option linter.unusedVariables false

def ansT (s : ByteArray) (most : Int) : List Tk := if most < (s.size : Int) then [] else match (lexL 0 s.data.toList).2 with
  | some _ => []
  | none => (lexL 0 s.data.toList).1 ++ [⟨6, [], 0, s.size⟩]
def ansQ (s : ByteArray) (most : Int) : Int := if most < (s.size : Int) then most else match (lexL 0 s.data.toList).2 with
  | some p => (p : Int)
  | none => (s.size : Int)
def ansE (s : ByteArray) (most : Int) : Int := if most < (s.size : Int) then 3 else match (lexL 0 s.data.toList).2 with
  | some _ => 2
  | none => 0

/-- What All tells of a text, of at most so many bytes. -/
def AllTells (s : ByteArray) (most : Int) (e : Ending) (w' : World) : Prop :=
  ∃ A n c, e = .returned (.tuple #[.slice A n c, .int .i64 (ansQ s most), .int .i64 (ansE s most)]) ∧ RdK w' A n (ansT s most)

theorem tells_of {s : ByteArray} {most : Int} {e : Ending} {w' : World} (hm : (s.size : Int) ≤ most) (h : AllAns s e w') : AllTells s most e w' := by
  have hn : ¬ most < (s.size : Int) := by omega
  rcases h with ⟨p, h1, rfl⟩ | ⟨h1, A, c, rfl, hR⟩
  · have e1 : ansT s most = [] := by unfold ansT; rw [if_neg hn, h1]
    have e2 : ansQ s most = p := by unfold ansQ; rw [if_neg hn, h1]
    have e3 : ansE s most = 2 := by unfold ansE; rw [if_neg hn, h1]
    unfold AllTells
    rw [e1, e2, e3]
    exact ⟨none, 0, 0, rfl, RdK.nil_ _⟩
  · have e1 : ansT s most = (lexL 0 s.data.toList).1 ++ [⟨6, [], 0, s.size⟩] := by unfold ansT; rw [if_neg hn, h1]
    have e2 : ansQ s most = s.size := by unfold ansQ; rw [if_neg hn, h1]
    have e3 : ansE s most = 0 := by unfold ansE; rw [if_neg hn, h1]
    unfold AllTells
    rw [e1, e2, e3]
    exact ⟨A, _, c, rfl, hR⟩
theorem tells_long {s : ByteArray} {most : Int} {w' : World} (hm : most < (s.size : Int)) : AllTells s most (.returned (.tuple #[.slice none 0 0, .int .i64 most, .int .i64 3])) w' := by
  have e1 : ansT s most = [] := if_pos hm
  have e2 : ansQ s most = most := if_pos hm
  have e3 : ansE s most = 3 := if_pos hm
  unfold AllTells
  rw [e1, e2, e3]
  exact ⟨none, 0, 0, rfl, RdK.nil_ _⟩

theorem lxAllT (s : ByteArray) (most : Int) (w : World) (hs : s.size ≤ 1099511627776) (hv : Vars w) :
    Calls Tryd.prog 7 #[.string s, .int .i64 most] w fun e w' => AllTells s most e w' ∧ Below w.heap.size w w' := by
  by_cases hm : most < (s.size : Int)
  · exact (lxAll_long s most w (by omega) hm).mono fun e w' ⟨he, hw⟩ => ⟨by rw [he]; exact tells_long hm, hw ▸ Below.refl _ _⟩
  · exact (lxAll s most w hs (by omega) hv).mono fun e w' ⟨he, hw⟩ => ⟨tells_of (by omega) he, hw⟩
theorem rxAllT (s : ByteArray) (most : Int) (w : World) (hs : s.size ≤ 1000) :
    Calls Tryd.prog 8 #[.string s, .int .i64 most] w fun e w' => AllTells s most e w' ∧ Below w.heap.size w w' := by
  by_cases hm : most < (s.size : Int)
  · exact (rxAll_long s most w (by omega) hm).mono fun e w' ⟨he, hw⟩ => ⟨by rw [he]; exact tells_long hm, hw ▸ Below.refl _ _⟩
  · exact (rxAll s most w hs (by omega)).mono fun e w' ⟨he, hw⟩ => ⟨tells_of (by omega) he, hw⟩

theorem lxNum (x : Int) (w : World) : Calls Tryd.prog 10 #[.int .i64 x] w fun e w' => e = .returned (.int .i64 x) ∧ w = w' := by
  go_enter Tryd.func10, Tryd.ntmps10
  go_wp2
  go_ret
  exact ⟨rfl, rfl⟩

/-! ### same, of lists that are -/

theorem RdK.at_ {w : World} {A : Option Addr} {n : Nat} {ts : List Tk} (h : RdK w A n ts) {i : Nat} (hi : i < n) : ∃ b off, A = some ⟨b, off, none⟩ ∧ b < w.heap.size ∧ ∀ i, i < n →
    w.cell? ⟨b, off + i * 4, none⟩ = some (.int .i64 (ts[i]?.getD default).k) ∧ w.cell? ⟨b, off + i * 4 + 1, none⟩ = some (.string (ofL (ts[i]?.getD default).s)) ∧
    w.cell? ⟨b, off + i * 4 + 2, none⟩ = some (.int .i64 (ts[i]?.getD default).n) ∧ w.cell? ⟨b, off + i * 4 + 3, none⟩ = some (.int .i64 ((ts[i]?.getD default).a : Int)) := h.2.2 (by omega)

set_option maxRecDepth 100000 in
set_option maxHeartbeats 4000000 in
theorem lxSame (A B : Option Addr) (n m c d : Nat) (ts : List Tk) (w : World) (hA : RdK w A n ts) (hB : RdK w B m ts) :
    Calls Tryd.prog 9 #[.slice A n c, .slice B m d] w fun e w' => e = .returned (.bool true) ∧ ∃ k, w' = w.drewN k := by
  obtain rfl : n = m := hA.1.symm.trans hB.1
  have hmx := hA.2.1
  go_enter Tryd.func9, Tryd.ntmps9
  go_wp2_with fail
  go_loopw [5] (fun i wr => ∃ k : Nat, k ≤ n ∧ i = .int .i64 k ∧ ∃ j, wr = w.drewN j) (fun i _ => n - (intOf i).toNat)
  case atStart => exact ⟨0, Nat.zero_le _, rfl, 0, rfl⟩
  case round =>
    obtain ⟨k, hk, rfl, j, rfl⟩ := hrel
    by_cases hlt : k < n
    · obtain ⟨b, off, rfl, hb, hc⟩ := hA.at_ hlt
      obtain ⟨b2, off2, rfl, hb2, hc2⟩ := hB.at_ hlt
      obtain ⟨a0, a1, a2, a3⟩ := hc k hlt
      obtain ⟨b0, b1, b2', b3⟩ := hc2 k hlt
      clear hc hc2
      generalize ts[k]?.getD default = t at *
      go_wp2_with fail
      go_quiet (fail)
      go_wp2_with fail
      go_roundw
      case rel => exact ⟨k + 1, by omega, by go_num, _, rfl⟩
      case measure => simp [intOf]; omega
    · obtain rfl : k = n := by omega
      go_wp2_with fail
      go_ret
      exact ⟨rfl, _, rfl⟩

/-! ### live -/

def exL : List UInt8 := [120, 32, 58, 61, 32, 45, 49, 59, 32, 45, 45, 32, 121]
theorem ex_lex : lexL 0 exL = ([⟨1, [120], 0, 0⟩, ⟨5, [58, 61], 0, 2⟩, ⟨5, [45], 0, 5⟩, ⟨3, [49], 1, 6⟩, ⟨5, [59], 0, 7⟩], none) := by
  unfold exL
  rw [lex_tok (z := 1) (t := ⟨1, [120], 0, 0⟩) (by decide) (by rfl)]
  simp only [List.drop_succ_cons, List.drop_zero]
  rw [lex_blank (by decide), show blankN [32, 58, 61, 32, 45, 49, 59, 32, 45, 45, 32, 121] = 1 from rfl]
  simp only [List.drop_succ_cons, List.drop_zero]
  rw [lex_tok (z := 2) (t := ⟨5, [58, 61], 0, 0⟩) (by decide) (by rfl)]
  simp only [List.drop_succ_cons, List.drop_zero]
  rw [lex_blank (by decide), show blankN [32, 45, 49, 59, 32, 45, 45, 32, 121] = 1 from rfl]
  simp only [List.drop_succ_cons, List.drop_zero]
  rw [lex_tok (z := 1) (t := ⟨5, [45], 0, 0⟩) (by decide) (by rfl)]
  simp only [List.drop_succ_cons, List.drop_zero]
  rw [lex_tok (z := 1) (t := ⟨3, [49], 1, 0⟩) (by decide) (by rfl)]
  simp only [List.drop_succ_cons, List.drop_zero]
  rw [lex_tok (z := 1) (t := ⟨5, [59], 0, 0⟩) (by decide) (by rfl)]
  simp only [List.drop_succ_cons, List.drop_zero]
  rw [lex_blank (by decide), show blankN [32, 45, 45, 32, 121] = 1 from rfl]
  simp only [List.drop_succ_cons, List.drop_zero]
  rw [lex_blank (by decide), show blankN [45, 45, 32, 121] = 4 from rfl]
  simp only [List.drop_succ_cons, List.drop_zero, lex_nil]

def exS : ByteArray := ⟨#[120, 32, 58, 61, 32, 45, 49, 59, 32, 45, 45, 32, 121]⟩
theorem ex_t : ansT exS 50 = [⟨1, [120], 0, 0⟩, ⟨5, [58, 61], 0, 2⟩, ⟨5, [45], 0, 5⟩, ⟨3, [49], 1, 6⟩, ⟨5, [59], 0, 7⟩, ⟨6, [], 0, 13⟩] := by
  have h : lexL 0 exS.data.toList = lexL 0 exL := rfl
  unfold ansT
  rw [if_neg (by decide), h, ex_lex]
  rfl
theorem ex_q : ansQ exS 50 = 13 := by
  have h : lexL 0 exS.data.toList = lexL 0 exL := rfl
  unfold ansQ
  rw [if_neg (by decide), h, ex_lex]
  rfl
theorem ex_e : ansE exS 50 = 0 := by
  have h : lexL 0 exS.data.toList = lexL 0 exL := rfl
  unfold ansE
  rw [if_neg (by decide), h, ex_lex]

set_option maxRecDepth 100000 in
set_option maxHeartbeats 2000000 in
theorem live_any (w : World) (hv : Vars w) : Calls Tryd.prog 6 #[] w fun e w' => e = .returned (.bool true) ∧ Below w.heap.size w w' := by
  go_enter Tryd.func6, Tryd.ntmps6
  go_wp2_with fail
  refine (lxAllT exS 50 _ (by decide) hv).mono ?_
  rintro e w1 ⟨⟨A, n, c, rfl, hR⟩, hb⟩
  rw [ex_q, ex_e]
  rw [ex_t] at hR
  have HB := Lib.hid hb
  obtain rfl : n = 6 := hR.1.symm
  obtain ⟨b, off, rfl, hlt, hc⟩ := hR.2.2 (by decide)
  have a1 := (hc 1 (by decide)).2.1
  have a3 := (hc 3 (by decide)).2.2.1
  have a5 := (hc 5 (by decide)).1
  have a6 := (hc 5 (by decide)).2.2.2
  simp at a1 a3 a5 a6
  clear hR hc hb hv
  have hst : (ofL [58, 61]).toList = [58, 61] := by rw [Lib.toList_data]; rfl
  go_wp2_with (go_at_call 10; refine (lxNum _ _).mono ?_; rintro e w' ⟨rfl, rfl⟩)
  go_ret
  exact ⟨rfl, HB.out⟩

set_option maxRecDepth 100000 in
set_option maxHeartbeats 2000000 in
theorem walkAll (s : ByteArray) (most : Int) (w : World) (hs : s.size ≤ maxLen) (hv : Vars w) :
    Calls Tryd.prog 3 #[.string s, .int .i64 most] w fun e w' => e = .returned (.bool true) ∧ Below w.heap.size w w' := by
  unfold maxLen at hs
  have HV0 := Lib.hid hv
  have HB0 := Lib.hid (Below.refl w.heap.size w)
  clear hv
  by_cases h1 : 600 < s.size
  · go_enter Tryd.func3, Tryd.ntmps3
    go_wp2_with fail
    refine (live_any _ HV0.out).mono ?_
    rintro e w1 ⟨rfl, hb⟩
    have HB1 := Lib.hid (HB0.out.trans (hb.mono HB0.out.size))
    clear hb
    go_wp2_with fail
    go_ret
    exact ⟨rfl, HB1.out⟩
  · go_enter Tryd.func3, Tryd.ntmps3
    go_wp2_with fail
    refine (lxAllT s most _ (by omega) HV0.out).mono ?_
    rintro e w1 ⟨⟨A, n, c, rfl, hR⟩, hb⟩
    have HB1 := Lib.hid hb
    have HR1 := Lib.hid hR
    clear hb hR
    go_wp2_with fail
    refine (rxAllT s most _ (by omega)).mono ?_
    rintro e w2 ⟨⟨B, m, d, rfl, hR⟩, hb⟩
    have HR1' := Lib.hid (HR1.out.below hb)
    have HB2 := Lib.hid (HB1.out.trans (hb.mono HB1.out.size))
    have HR2 := Lib.hid hR
    clear hb hR HR1 HB1
    generalize ansQ s most = q
    generalize ansE s most = x
    go_wp2_with fail
    refine (lxSame A B n m c d _ _ HR1'.out HR2.out).mono ?_
    rintro e w3 ⟨rfl, nd, rfl⟩
    have HB3 := Lib.hid (below_drewN HB2.out nd)
    generalize w2.drewN nd = w3 at *
    clear HR1' HR2 HB2
    go_wp2_with fail
    refine (lxNum _ _).mono ?_
    rintro e w' ⟨rfl, rfl⟩
    go_wp2_with fail
    refine (lxQuote s _ (by omega)).mono ?_
    rintro e w4 ⟨rfl, hb⟩
    have HB4 := Lib.hid (HB3.out.trans (hb.mono HB3.out.size))
    clear hb
    go_wp2_with fail
    refine (rxQuote s _ (by omega)).mono ?_
    rintro e w5 ⟨rfl, hb⟩
    have HB5 := Lib.hid (HB4.out.trans (hb.mono HB4.out.size))
    have HV5 := Lib.hid (HV0.out.below HB5.out)
    clear hb
    generalize quoteS s = qs
    go_wp2_with fail
    refine (live_any _ HV5.out).mono ?_
    rintro e w6 ⟨rfl, hb⟩
    have HB6 := Lib.hid (HB5.out.trans (hb.mono HB5.out.size))
    clear hb
    go_wp2_with fail
    go_ret
    exact ⟨rfl, HB6.out⟩
end Go.Proofs.YtkgeigckekccgaaDoor
