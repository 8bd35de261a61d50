/- The program's show: the texts of a list of expressions; what all kinds share. Conditions: none but bounds on lengths; the powers of ten lie as laid. The program's show: the text of every right expression. Conditions: names of at most 1000 bytes, numbers of 64 bits, at most 1000 parts; the powers of ten lie as laid. The program's Expr; the page's example. Conditions: the powers of ten lie as laid; of Expr: names of at most 1000 bytes, numbers of 64 bits, at most 1000000 parts. -/
import Derived.Test.YtijbahdpblopjaaDoorSpG
import Derived.Test.YtijbahdpblopjaaDoorExP
import Derived.Test.YtijbahdpblopjaaDoorShD
import Derived.Test.YtijbahdpblopjaaDoorEyK
import Derived.Laws.Tables
namespace Go.Proofs.YtijbahdpblopjaaDoor
open Go.RowKit Go.Sort
set_option linter.unusedVariables false
set_option linter.unusedSimpArgs false

/-- The program's text function tells y's text. -/
def TxP (y : Ex) : Prop := ∀ (A : Option Addr) (ca : Nat) (B : Option Addr) (cb : Nat) (w : World), rdX w y A B → Tab w →
  Calls Tryd.prog 20 #[.agg (exA y A ca B cb)] w fun e w' => e = .returned (.string (ofB (textL y))) ∧ Below w.heap.size w w'

theorem own_nil (w : World) (base : Nat) (e : TypeId) : w.ownsRow base e 1 (.slice none 0 0) 0 ([] : List Value) := ⟨rfl, .inl ⟨rfl, rfl⟩⟩

set_option maxRecDepth 100000 in
set_option maxHeartbeats 4000000 in
theorem shTexts (l : List Ex) (A : Option Addr) (n c : Nat) (w : World) (hl : RdX w A n l) (ht : Tab w) (hn : n ≤ 1000) (IH : ∀ i, i < n → TxP (l[i]?.getD default)) :
    Calls Tryd.prog 31 #[.slice A n c] w fun e w' => ∃ A' c', e = .returned (.slice A' n c') ∧ RdT w' A' n (txS l) ∧ n ≤ c' ∧ Below w.heap.size w w' := by
  obtain ⟨i0, hi, hz0, hz1, hz2⟩ := info_parts infoString
  have hlen := hl.len
  have HRX := Lib.hid hl
  have HTB := Lib.hid ht
  have HIH := Lib.hid IH
  have HBX := Lib.hid fun (x : Ex) (A : Option Addr) (ca : Nat) (B : Option Addr) (cb : Nat) (w w1 : World) (h : _) (hr : rdX w x A B) => box_facts w x A ca B cb w1 h hr
  have HTS := Lib.hid fun k (hk : k < n) => (show (txS l).take (k + 1) = (txS l).take k ++ [ofB (textL (l[k]?.getD default))] from txS_snoc (by omega))
  have HTE := Lib.hid (show (txS l).take n = txS l from List.take_of_length_le (by rw [txS_len]; omega))
  have HO0 := Lib.hid (own_nil w w.heap.size 9)
  clear hl ht IH hlen
  unfold exA at HBX
  go_enter Tryd.func31, Tryd.ntmps31
  go_wp2_with fail
  go_loopw [3, 8] (fun v i wr => ∃ k : Nat, k ≤ n ∧ i = .int .i64 k ∧ wr.ownsRow w.heap.size 9 1 v k (((txS l).take k).map Value.string) ∧ Below w.heap.size w wr) (fun _ i _ => n - (intOf i).toNat)
  case atStart => exact ⟨0, Nat.zero_le _, rfl, HO0.out, Below.refl _ _⟩
  case round =>
    obtain ⟨k, hk, rfl, hrow, hbw⟩ := hrel
    have HRW := Lib.hid hrow
    have HBW := Lib.hid hbw
    have hbs := hbw.size
    by_cases hlt : k < n
    · obtain ⟨b, off, rfl, hb, hat⟩ := (HRX.out.below hbw).at_ hlt
      obtain ⟨A', ca', B', cb', hrg, hrd⟩ := hat k hlt
      obtain ⟨c0, c1, c2, c3, c4, c5⟩ := rangeAt_six hrg
      have HF3 := Lib.hid fun w3 h => HBX.out (l[k]?.getD default) A' ca' B' cb' wr w3 h hrd
      have HTW := Lib.hid (HTB.out.below hbw)
      have HCX := Lib.hid (HIH.out k hlt)
      have HTK := Lib.hid (HTS.out k hlt)
      clear hat hrg hrow hbw HIH HTS HBX
      generalize l[k]?.getD default = y at *
      go_upto_region 5 with (fail)
      generalize hw3 : wr.alloc _ = w3
      obtain ⟨hb3, hg3, hr3, hcell3⟩ := HF3.out w3 hw3
      have d0 := hcell3 w3 (Below.refl _ _) 0
      have d1 := hcell3 w3 (Below.refl _ _) 1
      have d2 := hcell3 w3 (Below.refl _ _) 2
      have d3 := hcell3 w3 (Below.refl _ _) 3
      have d4 := hcell3 w3 (Below.refl _ _) 4
      have d5 := hcell3 w3 (Below.refl _ _) 5
      have HCL := Lib.hid (HCX.out A' ca' B' cb' w3 hr3 (HTW.out.below hb3))
      unfold exA at HCL
      have HB3 := Lib.hid (HBW.out.trans (hb3.mono HBW.out.size))
      have HRW3 := Lib.hid (own_belowX HRW.out hb3)
      clear hcell3 hb3 hr3 hw3 HF3 HCX
      generalize ofB (textL y) = sy at *
      go_wp2_with fail
      refine HCL.out.mono ?_
      rintro r w4 ⟨rfl, hb4⟩
      have hrow4 := own_belowX HRW3.out hb4
      have HB4 := Lib.hid (HB3.out.trans (hb4.mono HB3.out.size))
      have hbs4 := HB4.out.size
      clear hb4 d0 d1 d2 d3 d4 d5
      go_wp2_with (at_builtin; go_must (refine wpList_append_own_at _ rfl _ _ 25 rfl w.heap.size 9 i0 (.string ByteArray.empty) 1 16 Tryd.underlying25 hi hz0 hz1 hz2 rfl (by decide) _ _ _ rfl (hrow4.alloc _) ⟨w4.heap.size, 0, none⟩ 1 1 [.string sy] rfl rfl (cell_one_new _ _ _) (string_cells [sy]) (by unfold maxLen; omega) (by omega) (by simp; omega) ?_; intro v' w5 hown' hgrow hnil hloc))
      have HB5 := Lib.hid ((HB4.out.alloc hbs4 (.cells #[.string sy] 9)).grown hgrow (by simp; omega) (fun j hj => (hrow4.lt j hj).1))
      have HOW := Lib.hid hown'
      clear hgrow hnil hown' hloc
      go_roundw
      case rel =>
        refine ⟨k + 1, by omega, by go_num, ?_, HB5.out⟩
        rw [HTK.out, List.map_append]
        exact HOW.out
      case measure => simp [intOf]; omega
    · have hkn : k = n := by omega
      subst hkn
      rw [HTE.out] at HRW
      obtain ⟨A1, c1, rfl, hR1, hcc⟩ := texts_ownS HRW.out (by omega)
      have HR1 := Lib.hid hR1
      clear hR1 hrow hbw
      go_wp2_with fail
      go_ret
      exact ⟨A1, c1, rfl, HR1.out, hcc, HBW.out⟩

/-- What all kinds know. -/
structure ShH (x : Ex) (A : Option Addr) (ca : Nat) (B : Option Addr) (cb : Nat) (w : World) : Prop where
  rd : rdX w x A B
  part : PartF x
  num : NumP x
  tab : Tab w
  len : x.subs.length ≤ 1000
  each : ∀ y ∈ x.subs, (textL y).length ≤ 1300000
  all : lensT (x.subs.map textL) ≤ 1300000
  texts : ∀ w1, Below w.heap.size w w1 → Calls Tryd.prog 31 #[.slice B x.subs.length cb] w1 fun e w' => ∃ A' c', e = .returned (.slice A' x.subs.length c') ∧ RdT w' A' x.subs.length (txS x.subs) ∧ x.subs.length ≤ c' ∧ Below w1.heap.size w1 w'

theorem phraseLit (ss : List ByteArray) (n : Nat) (tx : ByteArray) (hE : winS ⟨#[40]⟩ ⟨#[32]⟩ ⟨#[41]⟩ ss = tx) (cs : Array Value) (hn : ss.length = n) (hcs : cs = (ss.map Value.string).toArray) (hm : n ≤ 1000) (hj : (jnT ss ⟨#[32]⟩).length ≤ 100000000) (w : World) :
    Calls Tryd.prog 36 #[.slice (some ⟨w.heap.size, 0, none⟩) n n] (w.alloc (.cells cs 9)) fun e w' => e = .returned (.string tx) ∧ Below w.heap.size w w' :=
  (shPhrase _ n n ss _ (litT w _ ss n cs hn hm hcs) (Nat.le_refl _) (by omega) hj).mono fun e w' ⟨he, hb⟩ => ⟨by rw [he, hE], ((Below.refl w.heap.size w).alloc (Nat.le_refl _) _).trans (hb.mono (by simp))⟩
theorem listLit (a b : ByteArray) (ss : List ByteArray) (n : Nat) (tx : ByteArray) (hE : winS a ⟨#[44, 32]⟩ b ss = tx) (cs : Array Value) (hn : ss.length = n) (hcs : cs = (ss.map Value.string).toArray) (hm : n ≤ 1000) (ha : a.size ≤ 10000000) (hb : b.size ≤ 10000000) (hj : (jnT ss ⟨#[44, 32]⟩).length ≤ 100000000) (w : World) :
    Calls Tryd.prog 12 #[.string a, .string b, .slice (some ⟨w.heap.size, 0, none⟩) n n] (w.alloc (.cells cs 9)) fun e w' => e = .returned (.string tx) ∧ Below w.heap.size w w' :=
  (shList a b _ n n ss _ (litT w _ ss n cs hn hm hcs) (Nat.le_refl _) (by omega) ha hb hj).mono fun e w' ⟨he, hb⟩ => ⟨by rw [he, hE], ((Below.refl w.heap.size w).alloc (Nat.le_refl _) _).trans (hb.mono (by simp))⟩
theorem fb_true : (⟨(Lib.formatBool true).toArray⟩ : ByteArray) = ofB trueL := by decide
theorem fb_false : (⟨(Lib.formatBool false).toArray⟩ : ByteArray) = ofB falseL := by decide
theorem dL_txS (l : List Ex) : dL (txS l) = l.map textL := by simp [dL, txS, ofB_data]
end Go.Proofs.YtijbahdpblopjaaDoor

namespace Go.Proofs.YtijbahdpblopjaaDoor
open Go.RowKit Go.Sort
set_option linter.unusedVariables false
set_option linter.unusedSimpArgs false

section
variable {x : Ex} {A : Option Addr} {ca : Nat} {B : Option Addr} {cb : Nat} {w : World}
set_option maxRecDepth 100000 in
set_option maxHeartbeats 4000000 in
theorem text_1 (H : ShH x A ca B cb w) (hkd : x.k = 1) :
    Calls Tryd.prog 20 #[.agg (exA x A ca B cb)] w fun e w' => e = .returned (.string (ofB (textL x))) ∧ Below w.heap.size w w' := by
  have HF := Lib.hid fun w1 h => box_facts w x A ca B cb w1 h H.rd
  have HTS := Lib.hid H.texts
  have HTX := Lib.hid (textL_eq x)
  have HAR := Lib.hid fun w1 (h : Below w.heap.size w w1) => (H.rd.below h).arms
  have HTB := Lib.hid fun w1 (h : Below w.heap.size w w1) => H.tab.below h
  have HLS := Lib.hid H.each
  have HLA := Lib.hid H.all
  have hf := H.part
  have hnum := H.num
  have hln := H.len
  clear H
  unfold exA at HF ⊢
  rw [hkd] at HF ⊢
  generalize textL x = tx at *
  generalize hlen : x.subs.length = n at *
  have HLEN := Lib.hid hlen
  clear hlen
  go_enter Tryd.func20, Tryd.ntmps20
  go_upto_region 1 with (fail)
  generalize hw1 : w.alloc _ = w1
  obtain ⟨hb1, hg, hr1, hcell⟩ := HF.out w1 hw1
  have HB1 := Lib.hid hb1
  have HC := Lib.hid hcell
  have q5 := hcell w1 (Below.refl _ _) 5
  clear hcell hb1 hr1 hw1 HF
  go_wp2_with fail
  refine (HTS.out w1 HB1.out).mono ?_
  rintro r w2 ⟨A1, c1, rfl, hR1, hnc, hb2⟩
  have HR1 := Lib.hid hR1
  have HB2 := Lib.hid (HB1.out.trans (hb2.mono HB1.out.size))
  have q0 := HC.out w2 hb2 0
  have q1 := HC.out w2 hb2 1
  have q2 := HC.out w2 hb2 2
  have q3 := HC.out w2 hb2 3
  have q4 := HC.out w2 hb2 4
  have hgl : w.heap.size < w2.heap.size := Nat.lt_of_lt_of_le hg hb2.size
  clear hb2 hR1 q5 HTS HC
  have HD := Lib.hid fun w h => libInt x.n hnum.2.1 hnum.2.2 w h
  have HE := Lib.hid (show (⟨(Lib.itoa x.n).toArray⟩ : ByteArray) = ofB tx by
    rw [HTX.out, hkd]
    simp [textK, leafT, ofB])
  have HTW := Lib.hid (HTB.out w2 HB2.out)
  clear HTX
  go_wp2_with fail
  refine (HD.out w2 HTW.out).mono ?_
  rintro r w3 ⟨rfl, hb3⟩
  have HB3 := Lib.hid (HB2.out.trans (hb3.mono HB2.out.size))
  clear hb3
  go_wp2_with fail
  go_ret
  exact ⟨ret_str HE.out, HB3.out⟩

set_option maxRecDepth 100000 in
set_option maxHeartbeats 4000000 in
theorem text_2 (H : ShH x A ca B cb w) (hkd : x.k = 2) :
    Calls Tryd.prog 20 #[.agg (exA x A ca B cb)] w fun e w' => e = .returned (.string (ofB (textL x))) ∧ Below w.heap.size w w' := by
  have HF := Lib.hid fun w1 h => box_facts w x A ca B cb w1 h H.rd
  have HTS := Lib.hid H.texts
  have HTX := Lib.hid (textL_eq x)
  have HAR := Lib.hid fun w1 (h : Below w.heap.size w w1) => (H.rd.below h).arms
  have HTB := Lib.hid fun w1 (h : Below w.heap.size w w1) => H.tab.below h
  have HLS := Lib.hid H.each
  have HLA := Lib.hid H.all
  have hf := H.part
  have hnum := H.num
  have hln := H.len
  clear H
  unfold exA at HF ⊢
  rw [hkd] at HF ⊢
  generalize textL x = tx at *
  generalize hlen : x.subs.length = n at *
  have HLEN := Lib.hid hlen
  clear hlen
  go_enter Tryd.func20, Tryd.ntmps20
  go_upto_region 1 with (fail)
  generalize hw1 : w.alloc _ = w1
  obtain ⟨hb1, hg, hr1, hcell⟩ := HF.out w1 hw1
  have HB1 := Lib.hid hb1
  have HC := Lib.hid hcell
  have q5 := hcell w1 (Below.refl _ _) 5
  clear hcell hb1 hr1 hw1 HF
  go_wp2_with fail
  refine (HTS.out w1 HB1.out).mono ?_
  rintro r w2 ⟨A1, c1, rfl, hR1, hnc, hb2⟩
  have HR1 := Lib.hid hR1
  have HB2 := Lib.hid (HB1.out.trans (hb2.mono HB1.out.size))
  have q0 := HC.out w2 hb2 0
  have q1 := HC.out w2 hb2 1
  have q2 := HC.out w2 hb2 2
  have q3 := HC.out w2 hb2 3
  have q4 := HC.out w2 hb2 4
  have hgl : w.heap.size < w2.heap.size := Nat.lt_of_lt_of_le hg hb2.size
  clear hb2 hR1 q5 HTS HC
  rcases hf.n2 (.inl hkd) with hn0 | hn1
  · have HD := Lib.hid fun w => libBool false w
    have HE := Lib.hid (show (⟨(Lib.formatBool false).toArray⟩ : ByteArray) = ofB tx by
      rw [HTX.out, hkd, hn0, fb_false]
      simp [textK, leafT])
    rw [hn0] at q1
    go_wp2_with fail
    refine (HD.out w2).mono ?_
    rintro r w3 ⟨rfl, rfl⟩
    go_wp2_with fail
    go_ret
    exact ⟨ret_str HE.out, HB2.out⟩
  · have HD := Lib.hid fun w => libBool true w
    have HE := Lib.hid (show (⟨(Lib.formatBool true).toArray⟩ : ByteArray) = ofB tx by
      rw [HTX.out, hkd, hn1, fb_true]
      simp [textK, leafT])
    rw [hn1] at q1
    go_wp2_with fail
    refine (HD.out w2).mono ?_
    rintro r w3 ⟨rfl, rfl⟩
    go_wp2_with fail
    go_ret
    exact ⟨ret_str HE.out, HB2.out⟩

set_option maxRecDepth 100000 in
set_option maxHeartbeats 4000000 in
theorem text_3 (H : ShH x A ca B cb w) (hkd : x.k = 3) :
    Calls Tryd.prog 20 #[.agg (exA x A ca B cb)] w fun e w' => e = .returned (.string (ofB (textL x))) ∧ Below w.heap.size w w' := by
  have HF := Lib.hid fun w1 h => box_facts w x A ca B cb w1 h H.rd
  have HTS := Lib.hid H.texts
  have HTX := Lib.hid (textL_eq x)
  have HAR := Lib.hid fun w1 (h : Below w.heap.size w w1) => (H.rd.below h).arms
  have HTB := Lib.hid fun w1 (h : Below w.heap.size w w1) => H.tab.below h
  have HLS := Lib.hid H.each
  have HLA := Lib.hid H.all
  have hf := H.part
  have hnum := H.num
  have hln := H.len
  clear H
  unfold exA at HF ⊢
  rw [hkd] at HF ⊢
  generalize textL x = tx at *
  generalize hlen : x.subs.length = n at *
  have HLEN := Lib.hid hlen
  clear hlen
  go_enter Tryd.func20, Tryd.ntmps20
  go_upto_region 1 with (fail)
  generalize hw1 : w.alloc _ = w1
  obtain ⟨hb1, hg, hr1, hcell⟩ := HF.out w1 hw1
  have HB1 := Lib.hid hb1
  have HC := Lib.hid hcell
  have q5 := hcell w1 (Below.refl _ _) 5
  clear hcell hb1 hr1 hw1 HF
  go_wp2_with fail
  refine (HTS.out w1 HB1.out).mono ?_
  rintro r w2 ⟨A1, c1, rfl, hR1, hnc, hb2⟩
  have HR1 := Lib.hid hR1
  have HB2 := Lib.hid (HB1.out.trans (hb2.mono HB1.out.size))
  have q0 := HC.out w2 hb2 0
  have q1 := HC.out w2 hb2 1
  have q2 := HC.out w2 hb2 2
  have q3 := HC.out w2 hb2 3
  have q4 := HC.out w2 hb2 4
  have hgl : w.heap.size < w2.heap.size := Nat.lt_of_lt_of_le hg hb2.size
  clear hb2 hR1 q5 HTS HC
  have HE := Lib.hid (show x.s = ofB tx by
    rw [HTX.out, hkd]
    simp [textK, leafT, ofB_self])
  clear HTX
  go_wp2_with fail
  go_ret
  exact ⟨ret_str HE.out, HB2.out⟩

set_option maxRecDepth 100000 in
set_option maxHeartbeats 4000000 in
theorem text_4 (H : ShH x A ca B cb w) (hkd : x.k = 4) :
    Calls Tryd.prog 20 #[.agg (exA x A ca B cb)] w fun e w' => e = .returned (.string (ofB (textL x))) ∧ Below w.heap.size w w' := by
  have HF := Lib.hid fun w1 h => box_facts w x A ca B cb w1 h H.rd
  have HTS := Lib.hid H.texts
  have HTX := Lib.hid (textL_eq x)
  have HAR := Lib.hid fun w1 (h : Below w.heap.size w w1) => (H.rd.below h).arms
  have HTB := Lib.hid fun w1 (h : Below w.heap.size w w1) => H.tab.below h
  have HLS := Lib.hid H.each
  have HLA := Lib.hid H.all
  have hf := H.part
  have hnum := H.num
  have hln := H.len
  clear H
  unfold exA at HF ⊢
  rw [hkd] at HF ⊢
  generalize textL x = tx at *
  generalize hlen : x.subs.length = n at *
  have HLEN := Lib.hid hlen
  clear hlen
  go_enter Tryd.func20, Tryd.ntmps20
  go_upto_region 1 with (fail)
  generalize hw1 : w.alloc _ = w1
  obtain ⟨hb1, hg, hr1, hcell⟩ := HF.out w1 hw1
  have HB1 := Lib.hid hb1
  have HC := Lib.hid hcell
  have q5 := hcell w1 (Below.refl _ _) 5
  clear hcell hb1 hr1 hw1 HF
  go_wp2_with fail
  refine (HTS.out w1 HB1.out).mono ?_
  rintro r w2 ⟨A1, c1, rfl, hR1, hnc, hb2⟩
  have HR1 := Lib.hid hR1
  have HB2 := Lib.hid (HB1.out.trans (hb2.mono HB1.out.size))
  have q0 := HC.out w2 hb2 0
  have q1 := HC.out w2 hb2 1
  have q2 := HC.out w2 hb2 2
  have q3 := HC.out w2 hb2 3
  have q4 := HC.out w2 hb2 4
  have hgl : w.heap.size < w2.heap.size := Nat.lt_of_lt_of_le hg hb2.size
  clear hb2 hR1 q5 HTS HC
  have HE := Lib.hid (show x.s = ofB tx by
    rw [HTX.out, hkd]
    simp [textK, leafT, ofB_self])
  clear HTX
  go_wp2_with fail
  go_ret
  exact ⟨ret_str HE.out, HB2.out⟩

set_option maxRecDepth 100000 in
set_option maxHeartbeats 4000000 in
theorem text_5 (H : ShH x A ca B cb w) (hkd : x.k = 5) :
    Calls Tryd.prog 20 #[.agg (exA x A ca B cb)] w fun e w' => e = .returned (.string (ofB (textL x))) ∧ Below w.heap.size w w' := by
  have HF := Lib.hid fun w1 h => box_facts w x A ca B cb w1 h H.rd
  have HTS := Lib.hid H.texts
  have HTX := Lib.hid (textL_eq x)
  have HAR := Lib.hid fun w1 (h : Below w.heap.size w w1) => (H.rd.below h).arms
  have HTB := Lib.hid fun w1 (h : Below w.heap.size w w1) => H.tab.below h
  have HLS := Lib.hid H.each
  have HLA := Lib.hid H.all
  have hf := H.part
  have hnum := H.num
  have hln := H.len
  clear H
  unfold exA at HF ⊢
  rw [hkd] at HF ⊢
  generalize textL x = tx at *
  generalize hlen : x.subs.length = n at *
  have HLEN := Lib.hid hlen
  clear hlen
  go_enter Tryd.func20, Tryd.ntmps20
  go_upto_region 1 with (fail)
  generalize hw1 : w.alloc _ = w1
  obtain ⟨hb1, hg, hr1, hcell⟩ := HF.out w1 hw1
  have HB1 := Lib.hid hb1
  have HC := Lib.hid hcell
  have q5 := hcell w1 (Below.refl _ _) 5
  clear hcell hb1 hr1 hw1 HF
  go_wp2_with fail
  refine (HTS.out w1 HB1.out).mono ?_
  rintro r w2 ⟨A1, c1, rfl, hR1, hnc, hb2⟩
  have HR1 := Lib.hid hR1
  have HB2 := Lib.hid (HB1.out.trans (hb2.mono HB1.out.size))
  have q0 := HC.out w2 hb2 0
  have q1 := HC.out w2 hb2 1
  have q2 := HC.out w2 hb2 2
  have q3 := HC.out w2 hb2 3
  have q4 := HC.out w2 hb2 4
  have hgl : w.heap.size < w2.heap.size := Nat.lt_of_lt_of_le hg hb2.size
  clear hb2 hR1 q5 HTS HC
  obtain ⟨ya, hab⟩ := len1 (subs_len hf (m := 1) (by simp [subsX, hkd]))
  have hk1 : n = 1 := by rw [← HLEN.out, hab]; rfl
  subst hk1
  obtain ⟨b1, off1, rfl, hb1l, hat1⟩ := HR1.out.at_ (i := 0) (by omega)
  have HBL := Lib.hid hb1l
  have t0 := hat1 0 (by omega)
  rw [txS_at (by rw [HLEN.out]; omega), hab] at t0
  simp only [List.getElem?_cons_succ, List.getElem?_cons_zero, Option.getD_some] at t0
  have hz0 : (ofB (textL ya)).size ≤ 1300000 := by rw [ofB_sizeP]; exact HLS.out ya (by rw [hab]; simp)
  simp only [Nat.add_zero] at t0
  have HUN := Lib.hid fun w => shUnary x.op (ofB (textL ya)) w (hf.op5 hkd) (by omega)
  have HE := Lib.hid (show ofB (unL x.op (ofB (textL ya)).data.toList) = ofB tx by
    rw [HTX.out, hkd, hab, ofB_data]
    simp [textK, gT, unL])
  rw [HE.out] at HUN
  clear hat1 HR1 HLS HLA HAR HTX hab HE
  generalize ofB (textL ya) = sa at *
  generalize x.op = op at *
  have HBQ := Lib.hid fun d os => HB2.out.trans ((below_regrown w2 d os).mono HB2.out.size)
  have cA := fun d os => Calls.regrown_of (HUN.out (grow (redrawn w2 d) os))
  have lt0 := fun d os => cell_regrown t0 d os
  have lq3 := fun d os => cell_regrown q3 d os
  go_wp2_with fail
  refine wp_region_quiet_below (by kernel_rfl) (by kernel_rfl) ?_
  repeat (quiet_step (exact cA _ _))
  refine wpQuiet_nil ?_
  intro _ hw'
  obtain ⟨⟨dq, osq⟩, hw''⟩ := hw'
  subst hw''
  have HBR := Lib.hid (HBQ.out dq osq)
  clear cA lt0 lq3
  generalize grow (redrawn w2 dq) osq = wq at *
  go_wp2_with fail
  go_ret
  exact ⟨rfl, HBR.out⟩

set_option maxRecDepth 100000 in
set_option maxHeartbeats 4000000 in
theorem text_6 (H : ShH x A ca B cb w) (hkd : x.k = 6) :
    Calls Tryd.prog 20 #[.agg (exA x A ca B cb)] w fun e w' => e = .returned (.string (ofB (textL x))) ∧ Below w.heap.size w w' := by
  have HF := Lib.hid fun w1 h => box_facts w x A ca B cb w1 h H.rd
  have HTS := Lib.hid H.texts
  have HTX := Lib.hid (textL_eq x)
  have HAR := Lib.hid fun w1 (h : Below w.heap.size w w1) => (H.rd.below h).arms
  have HTB := Lib.hid fun w1 (h : Below w.heap.size w w1) => H.tab.below h
  have HLS := Lib.hid H.each
  have HLA := Lib.hid H.all
  have hf := H.part
  have hnum := H.num
  have hln := H.len
  clear H
  unfold exA at HF ⊢
  rw [hkd] at HF ⊢
  generalize textL x = tx at *
  generalize hlen : x.subs.length = n at *
  have HLEN := Lib.hid hlen
  clear hlen
  go_enter Tryd.func20, Tryd.ntmps20
  go_upto_region 1 with (fail)
  generalize hw1 : w.alloc _ = w1
  obtain ⟨hb1, hg, hr1, hcell⟩ := HF.out w1 hw1
  have HB1 := Lib.hid hb1
  have HC := Lib.hid hcell
  have q5 := hcell w1 (Below.refl _ _) 5
  clear hcell hb1 hr1 hw1 HF
  go_wp2_with fail
  refine (HTS.out w1 HB1.out).mono ?_
  rintro r w2 ⟨A1, c1, rfl, hR1, hnc, hb2⟩
  have HR1 := Lib.hid hR1
  have HB2 := Lib.hid (HB1.out.trans (hb2.mono HB1.out.size))
  have q0 := HC.out w2 hb2 0
  have q1 := HC.out w2 hb2 1
  have q2 := HC.out w2 hb2 2
  have q3 := HC.out w2 hb2 3
  have q4 := HC.out w2 hb2 4
  have hgl : w.heap.size < w2.heap.size := Nat.lt_of_lt_of_le hg hb2.size
  clear hb2 hR1 q5 HTS HC
  obtain ⟨ya, yb, hab⟩ := len2 (subs_len hf (m := 2) (by simp [subsX, hkd]))
  have hk2 : n = 2 := by rw [← HLEN.out, hab]; rfl
  subst hk2
  obtain ⟨b1, off1, rfl, hb1l, hat1⟩ := HR1.out.at_ (i := 0) (by omega)
  have HBL := Lib.hid hb1l
  have t0 := hat1 0 (by omega)
  rw [txS_at (by rw [HLEN.out]; omega), hab] at t0
  simp only [List.getElem?_cons_succ, List.getElem?_cons_zero, Option.getD_some] at t0
  have t1 := hat1 1 (by omega)
  rw [txS_at (by rw [HLEN.out]; omega), hab] at t1
  simp only [List.getElem?_cons_succ, List.getElem?_cons_zero, Option.getD_some] at t1
  have hz0 : (ofB (textL ya)).size ≤ 1300000 := by rw [ofB_sizeP]; exact HLS.out ya (by rw [hab]; simp)
  have hz1 : (ofB (textL yb)).size ≤ 1300000 := by rw [ofB_sizeP]; exact HLS.out yb (by rw [hab]; simp)
  simp only [Nat.add_zero] at t0
  obtain ⟨ho1, ho2⟩ := hf.op6 hkd
  have hsg := sign_data x.op ho1 ho2
  have hsz := sign_size x.op ho1 ho2
  have HSG := Lib.hid fun w => arSign x.op w
  generalize signS x.op = sg at *
  have HE := Lib.hid (show winS ⟨#[40]⟩ ⟨#[32]⟩ ⟨#[41]⟩ [ofB (textL ya), sg, ofB (textL yb)] = ofB tx from ba_ext (by
    rw [HTX.out, hkd, hab, ofB_data]
    simp [winS, jn_cons, Lib.joinTail, ofB_data, textK, gT, notL, ifL, thenL, elseL, preL, fbyL, arrL, withL, whenL, unL, hsg]))
  clear hat1 HR1 HLS HLA HAR HTX hab
  generalize ofB (textL ya) = sa at *
  generalize ofB (textL yb) = sb at *
  generalize x.op = op at *
  have hdsa : sa.data.toList.length = sa.size := by simp
  have hdsg : sg.data.toList.length = sg.size := by simp
  have hdsb : sb.data.toList.length = sb.size := by simp
  have HPH := Lib.hid (phraseLit [sa, sg, sb] 3 (ofB tx) HE.out #[.string sa, .string sg, .string sb] rfl rfl (by decide) (by simp [jn_cons, Lib.joinTail]; omega))
  go_wp2_with fail
  go_region_held3 (fun W => W.cell? ⟨b1, off1, none⟩ = some (.string sa) ∧ W.cell? ⟨b1, off1 + 1, none⟩ = some (.string sb) ∧ W.cell? ⟨w.heap.size, 3, none⟩ = some (.int .i64 op)) (first | exact ⟨t0, t1, q3⟩ | exact ⟨(World.cell?_alloc_lt _ _ _ HBL.out).trans t0, (World.cell?_alloc_lt _ _ _ HBL.out).trans t1, (World.cell?_alloc_lt _ _ _ hgl).trans q3⟩ | exact ⟨d0, d1, d2⟩)
    ((first
      | (go_at_call 37; refine (HSG.out (w2.drewN 1)).mono ?_; rintro r Wg ⟨rfl, rfl⟩)
      | (go_at_call 36; refine (HPH.out (w2.drewN 1)).mono ?_; rintro r Wd ⟨rfl, hbd⟩; have HBd := Lib.hid ((below_drewN HB2.out 1).trans (hbd.mono (below_drewN HB2.out 1).size)); have HKd := Lib.hid ((below_drewN (Below.refl w2.heap.size w2) 1).trans (hbd.mono (below_drewN (Below.refl w2.heap.size w2) 1).size)); clear hbd; have d0 := (HKd.out.cell HBL.out).trans t0; have d1 := (HKd.out.cell HBL.out).trans t1; have d2 := (HKd.out.cell hgl).trans q3)))
  go_wp2_with fail
  go_ret
  exact ⟨rfl, HBd.out⟩

set_option maxRecDepth 100000 in
set_option maxHeartbeats 4000000 in
theorem text_7 (H : ShH x A ca B cb w) (hkd : x.k = 7) :
    Calls Tryd.prog 20 #[.agg (exA x A ca B cb)] w fun e w' => e = .returned (.string (ofB (textL x))) ∧ Below w.heap.size w w' := by
  have HF := Lib.hid fun w1 h => box_facts w x A ca B cb w1 h H.rd
  have HTS := Lib.hid H.texts
  have HTX := Lib.hid (textL_eq x)
  have HAR := Lib.hid fun w1 (h : Below w.heap.size w w1) => (H.rd.below h).arms
  have HTB := Lib.hid fun w1 (h : Below w.heap.size w w1) => H.tab.below h
  have HLS := Lib.hid H.each
  have HLA := Lib.hid H.all
  have hf := H.part
  have hnum := H.num
  have hln := H.len
  clear H
  unfold exA at HF ⊢
  rw [hkd] at HF ⊢
  generalize textL x = tx at *
  generalize hlen : x.subs.length = n at *
  have HLEN := Lib.hid hlen
  clear hlen
  go_enter Tryd.func20, Tryd.ntmps20
  go_upto_region 1 with (fail)
  generalize hw1 : w.alloc _ = w1
  obtain ⟨hb1, hg, hr1, hcell⟩ := HF.out w1 hw1
  have HB1 := Lib.hid hb1
  have HC := Lib.hid hcell
  have q5 := hcell w1 (Below.refl _ _) 5
  clear hcell hb1 hr1 hw1 HF
  go_wp2_with fail
  refine (HTS.out w1 HB1.out).mono ?_
  rintro r w2 ⟨A1, c1, rfl, hR1, hnc, hb2⟩
  have HR1 := Lib.hid hR1
  have HB2 := Lib.hid (HB1.out.trans (hb2.mono HB1.out.size))
  have q0 := HC.out w2 hb2 0
  have q1 := HC.out w2 hb2 1
  have q2 := HC.out w2 hb2 2
  have q3 := HC.out w2 hb2 3
  have q4 := HC.out w2 hb2 4
  have hgl : w.heap.size < w2.heap.size := Nat.lt_of_lt_of_le hg hb2.size
  clear hb2 hR1 q5 HTS HC
  obtain ⟨ya, yb, yc, hab⟩ := len3 (subs_len hf (m := 3) (by simp [subsX, hkd]))
  have hk3 : n = 3 := by rw [← HLEN.out, hab]; rfl
  subst hk3
  obtain ⟨b1, off1, rfl, hb1l, hat1⟩ := HR1.out.at_ (i := 0) (by omega)
  have HBL := Lib.hid hb1l
  have t0 := hat1 0 (by omega)
  rw [txS_at (by rw [HLEN.out]; omega), hab] at t0
  simp only [List.getElem?_cons_succ, List.getElem?_cons_zero, Option.getD_some] at t0
  have t1 := hat1 1 (by omega)
  rw [txS_at (by rw [HLEN.out]; omega), hab] at t1
  simp only [List.getElem?_cons_succ, List.getElem?_cons_zero, Option.getD_some] at t1
  have t2 := hat1 2 (by omega)
  rw [txS_at (by rw [HLEN.out]; omega), hab] at t2
  simp only [List.getElem?_cons_succ, List.getElem?_cons_zero, Option.getD_some] at t2
  have hz0 : (ofB (textL ya)).size ≤ 1300000 := by rw [ofB_sizeP]; exact HLS.out ya (by rw [hab]; simp)
  have hz1 : (ofB (textL yb)).size ≤ 1300000 := by rw [ofB_sizeP]; exact HLS.out yb (by rw [hab]; simp)
  have hz2 : (ofB (textL yc)).size ≤ 1300000 := by rw [ofB_sizeP]; exact HLS.out yc (by rw [hab]; simp)
  simp only [Nat.add_zero] at t0
  have HE := Lib.hid (show winS ⟨#[40]⟩ ⟨#[32]⟩ ⟨#[41]⟩ [⟨#[105, 102]⟩, ofB (textL ya), ⟨#[116, 104, 101, 110]⟩, ofB (textL yb), ⟨#[101, 108, 115, 101]⟩, ofB (textL yc)] = ofB tx from ba_ext (by
    rw [HTX.out, hkd, hab, ofB_data]
    simp [winS, jn_cons, Lib.joinTail, ofB_data, textK, gT, notL, ifL, thenL, elseL, preL, fbyL, arrL, withL, whenL, unL]))
  clear hat1 HR1 HLS HLA HAR HTX hab
  generalize ofB (textL ya) = sa at *
  generalize ofB (textL yb) = sb at *
  generalize ofB (textL yc) = sc at *
  have hdsa : sa.data.toList.length = sa.size := by simp
  have hdsb : sb.data.toList.length = sb.size := by simp
  have hdsc : sc.data.toList.length = sc.size := by simp
  have HPH := Lib.hid (phraseLit [⟨#[105, 102]⟩, sa, ⟨#[116, 104, 101, 110]⟩, sb, ⟨#[101, 108, 115, 101]⟩, sc] 6 (ofB tx) HE.out #[.string ⟨#[105, 102]⟩, .string sa, .string ⟨#[116, 104, 101, 110]⟩, .string sb, .string ⟨#[101, 108, 115, 101]⟩, .string sc] rfl rfl (by decide) (by simp [jn_cons, Lib.joinTail]; omega))
  go_wp2_with fail
  go_region_held3 (fun W => W.cell? ⟨b1, off1, none⟩ = some (.string sa) ∧ W.cell? ⟨b1, off1 + 1, none⟩ = some (.string sb) ∧ W.cell? ⟨b1, off1 + 2, none⟩ = some (.string sc)) (first | exact ⟨t0, t1, t2⟩ | exact ⟨(World.cell?_alloc_lt _ _ _ HBL.out).trans t0, (World.cell?_alloc_lt _ _ _ HBL.out).trans t1, (World.cell?_alloc_lt _ _ _ HBL.out).trans t2⟩ | exact ⟨d0, d1, d2⟩)
    ((first
      | (go_at_call 36; refine (HPH.out (w2.drewN 1)).mono ?_; rintro r Wd ⟨rfl, hbd⟩; have HBd := Lib.hid ((below_drewN HB2.out 1).trans (hbd.mono (below_drewN HB2.out 1).size)); have HKd := Lib.hid ((below_drewN (Below.refl w2.heap.size w2) 1).trans (hbd.mono (below_drewN (Below.refl w2.heap.size w2) 1).size)); clear hbd; have d0 := (HKd.out.cell HBL.out).trans t0; have d1 := (HKd.out.cell HBL.out).trans t1; have d2 := (HKd.out.cell HBL.out).trans t2)))
  go_wp2_with fail
  go_ret
  exact ⟨rfl, HBd.out⟩

set_option maxRecDepth 100000 in
set_option maxHeartbeats 4000000 in
theorem text_8 (H : ShH x A ca B cb w) (hkd : x.k = 8) :
    Calls Tryd.prog 20 #[.agg (exA x A ca B cb)] w fun e w' => e = .returned (.string (ofB (textL x))) ∧ Below w.heap.size w w' := by
  have HF := Lib.hid fun w1 h => box_facts w x A ca B cb w1 h H.rd
  have HTS := Lib.hid H.texts
  have HTX := Lib.hid (textL_eq x)
  have HAR := Lib.hid fun w1 (h : Below w.heap.size w w1) => (H.rd.below h).arms
  have HTB := Lib.hid fun w1 (h : Below w.heap.size w w1) => H.tab.below h
  have HLS := Lib.hid H.each
  have HLA := Lib.hid H.all
  have hf := H.part
  have hnum := H.num
  have hln := H.len
  clear H
  unfold exA at HF ⊢
  rw [hkd] at HF ⊢
  generalize textL x = tx at *
  generalize hlen : x.subs.length = n at *
  have HLEN := Lib.hid hlen
  clear hlen
  go_enter Tryd.func20, Tryd.ntmps20
  go_upto_region 1 with (fail)
  generalize hw1 : w.alloc _ = w1
  obtain ⟨hb1, hg, hr1, hcell⟩ := HF.out w1 hw1
  have HB1 := Lib.hid hb1
  have HC := Lib.hid hcell
  have q5 := hcell w1 (Below.refl _ _) 5
  clear hcell hb1 hr1 hw1 HF
  go_wp2_with fail
  refine (HTS.out w1 HB1.out).mono ?_
  rintro r w2 ⟨A1, c1, rfl, hR1, hnc, hb2⟩
  have HR1 := Lib.hid hR1
  have HB2 := Lib.hid (HB1.out.trans (hb2.mono HB1.out.size))
  have q0 := HC.out w2 hb2 0
  have q1 := HC.out w2 hb2 1
  have q2 := HC.out w2 hb2 2
  have q3 := HC.out w2 hb2 3
  have q4 := HC.out w2 hb2 4
  have hgl : w.heap.size < w2.heap.size := Nat.lt_of_lt_of_le hg hb2.size
  clear hb2 hR1 q5 HTS HC
  obtain ⟨ya, yb, hab⟩ := len2 (subs_len hf (m := 2) (by simp [subsX, hkd]))
  have hk2 : n = 2 := by rw [← HLEN.out, hab]; rfl
  subst hk2
  obtain ⟨b1, off1, rfl, hb1l, hat1⟩ := HR1.out.at_ (i := 0) (by omega)
  have HBL := Lib.hid hb1l
  have t0 := hat1 0 (by omega)
  rw [txS_at (by rw [HLEN.out]; omega), hab] at t0
  simp only [List.getElem?_cons_succ, List.getElem?_cons_zero, Option.getD_some] at t0
  have t1 := hat1 1 (by omega)
  rw [txS_at (by rw [HLEN.out]; omega), hab] at t1
  simp only [List.getElem?_cons_succ, List.getElem?_cons_zero, Option.getD_some] at t1
  have hz0 : (ofB (textL ya)).size ≤ 1300000 := by rw [ofB_sizeP]; exact HLS.out ya (by rw [hab]; simp)
  have hz1 : (ofB (textL yb)).size ≤ 1300000 := by rw [ofB_sizeP]; exact HLS.out yb (by rw [hab]; simp)
  simp only [Nat.add_zero] at t0
  have HE := Lib.hid (show winS ⟨#[40]⟩ ⟨#[32]⟩ ⟨#[41]⟩ [ofB (textL ya), ⟨#[102, 98, 121]⟩, ofB (textL yb)] = ofB tx from ba_ext (by
    rw [HTX.out, hkd, hab, ofB_data]
    simp [winS, jn_cons, Lib.joinTail, ofB_data, textK, gT, notL, ifL, thenL, elseL, preL, fbyL, arrL, withL, whenL, unL]))
  clear hat1 HR1 HLS HLA HAR HTX hab
  generalize ofB (textL ya) = sa at *
  generalize ofB (textL yb) = sb at *
  have hdsa : sa.data.toList.length = sa.size := by simp
  have hdsb : sb.data.toList.length = sb.size := by simp
  have HPH := Lib.hid (phraseLit [sa, ⟨#[102, 98, 121]⟩, sb] 3 (ofB tx) HE.out #[.string sa, .string ⟨#[102, 98, 121]⟩, .string sb] rfl rfl (by decide) (by simp [jn_cons, Lib.joinTail]; omega))
  go_wp2_with fail
  go_region_held3 (fun W => W.cell? ⟨b1, off1, none⟩ = some (.string sa) ∧ W.cell? ⟨b1, off1 + 1, none⟩ = some (.string sb)) (first | exact ⟨t0, t1⟩ | exact ⟨(World.cell?_alloc_lt _ _ _ HBL.out).trans t0, (World.cell?_alloc_lt _ _ _ HBL.out).trans t1⟩ | exact ⟨d0, d1⟩)
    ((first
      | (go_at_call 36; refine (HPH.out (w2.drewN 1)).mono ?_; rintro r Wd ⟨rfl, hbd⟩; have HBd := Lib.hid ((below_drewN HB2.out 1).trans (hbd.mono (below_drewN HB2.out 1).size)); have HKd := Lib.hid ((below_drewN (Below.refl w2.heap.size w2) 1).trans (hbd.mono (below_drewN (Below.refl w2.heap.size w2) 1).size)); clear hbd; have d0 := (HKd.out.cell HBL.out).trans t0; have d1 := (HKd.out.cell HBL.out).trans t1)))
  go_wp2_with fail
  go_ret
  exact ⟨rfl, HBd.out⟩

set_option maxRecDepth 100000 in
set_option maxHeartbeats 4000000 in
theorem text_9 (H : ShH x A ca B cb w) (hkd : x.k = 9) :
    Calls Tryd.prog 20 #[.agg (exA x A ca B cb)] w fun e w' => e = .returned (.string (ofB (textL x))) ∧ Below w.heap.size w w' := by
  have HF := Lib.hid fun w1 h => box_facts w x A ca B cb w1 h H.rd
  have HTS := Lib.hid H.texts
  have HTX := Lib.hid (textL_eq x)
  have HAR := Lib.hid fun w1 (h : Below w.heap.size w w1) => (H.rd.below h).arms
  have HTB := Lib.hid fun w1 (h : Below w.heap.size w w1) => H.tab.below h
  have HLS := Lib.hid H.each
  have HLA := Lib.hid H.all
  have hf := H.part
  have hnum := H.num
  have hln := H.len
  clear H
  unfold exA at HF ⊢
  rw [hkd] at HF ⊢
  generalize textL x = tx at *
  generalize hlen : x.subs.length = n at *
  have HLEN := Lib.hid hlen
  clear hlen
  go_enter Tryd.func20, Tryd.ntmps20
  go_upto_region 1 with (fail)
  generalize hw1 : w.alloc _ = w1
  obtain ⟨hb1, hg, hr1, hcell⟩ := HF.out w1 hw1
  have HB1 := Lib.hid hb1
  have HC := Lib.hid hcell
  have q5 := hcell w1 (Below.refl _ _) 5
  clear hcell hb1 hr1 hw1 HF
  go_wp2_with fail
  refine (HTS.out w1 HB1.out).mono ?_
  rintro r w2 ⟨A1, c1, rfl, hR1, hnc, hb2⟩
  have HR1 := Lib.hid hR1
  have HB2 := Lib.hid (HB1.out.trans (hb2.mono HB1.out.size))
  have q0 := HC.out w2 hb2 0
  have q1 := HC.out w2 hb2 1
  have q2 := HC.out w2 hb2 2
  have q3 := HC.out w2 hb2 3
  have q4 := HC.out w2 hb2 4
  have hgl : w.heap.size < w2.heap.size := Nat.lt_of_lt_of_le hg hb2.size
  clear hb2 hR1 q5 HTS HC
  obtain ⟨ya, yb, hab⟩ := len2 (subs_len hf (m := 2) (by simp [subsX, hkd]))
  have hk2 : n = 2 := by rw [← HLEN.out, hab]; rfl
  subst hk2
  obtain ⟨b1, off1, rfl, hb1l, hat1⟩ := HR1.out.at_ (i := 0) (by omega)
  have HBL := Lib.hid hb1l
  have t0 := hat1 0 (by omega)
  rw [txS_at (by rw [HLEN.out]; omega), hab] at t0
  simp only [List.getElem?_cons_succ, List.getElem?_cons_zero, Option.getD_some] at t0
  have t1 := hat1 1 (by omega)
  rw [txS_at (by rw [HLEN.out]; omega), hab] at t1
  simp only [List.getElem?_cons_succ, List.getElem?_cons_zero, Option.getD_some] at t1
  have hz0 : (ofB (textL ya)).size ≤ 1300000 := by rw [ofB_sizeP]; exact HLS.out ya (by rw [hab]; simp)
  have hz1 : (ofB (textL yb)).size ≤ 1300000 := by rw [ofB_sizeP]; exact HLS.out yb (by rw [hab]; simp)
  simp only [Nat.add_zero] at t0
  have HE := Lib.hid (show winS ⟨#[40]⟩ ⟨#[32]⟩ ⟨#[41]⟩ [ofB (textL ya), ⟨#[45, 62]⟩, ofB (textL yb)] = ofB tx from ba_ext (by
    rw [HTX.out, hkd, hab, ofB_data]
    simp [winS, jn_cons, Lib.joinTail, ofB_data, textK, gT, notL, ifL, thenL, elseL, preL, fbyL, arrL, withL, whenL, unL]))
  clear hat1 HR1 HLS HLA HAR HTX hab
  generalize ofB (textL ya) = sa at *
  generalize ofB (textL yb) = sb at *
  have hdsa : sa.data.toList.length = sa.size := by simp
  have hdsb : sb.data.toList.length = sb.size := by simp
  have HPH := Lib.hid (phraseLit [sa, ⟨#[45, 62]⟩, sb] 3 (ofB tx) HE.out #[.string sa, .string ⟨#[45, 62]⟩, .string sb] rfl rfl (by decide) (by simp [jn_cons, Lib.joinTail]; omega))
  go_wp2_with fail
  go_region_held3 (fun W => W.cell? ⟨b1, off1, none⟩ = some (.string sa) ∧ W.cell? ⟨b1, off1 + 1, none⟩ = some (.string sb)) (first | exact ⟨t0, t1⟩ | exact ⟨(World.cell?_alloc_lt _ _ _ HBL.out).trans t0, (World.cell?_alloc_lt _ _ _ HBL.out).trans t1⟩ | exact ⟨d0, d1⟩)
    ((first
      | (go_at_call 36; refine (HPH.out (w2.drewN 1)).mono ?_; rintro r Wd ⟨rfl, hbd⟩; have HBd := Lib.hid ((below_drewN HB2.out 1).trans (hbd.mono (below_drewN HB2.out 1).size)); have HKd := Lib.hid ((below_drewN (Below.refl w2.heap.size w2) 1).trans (hbd.mono (below_drewN (Below.refl w2.heap.size w2) 1).size)); clear hbd; have d0 := (HKd.out.cell HBL.out).trans t0; have d1 := (HKd.out.cell HBL.out).trans t1)))
  go_wp2_with fail
  go_ret
  exact ⟨rfl, HBd.out⟩

set_option maxRecDepth 100000 in
set_option maxHeartbeats 4000000 in
theorem text_10 (H : ShH x A ca B cb w) (hkd : x.k = 10) :
    Calls Tryd.prog 20 #[.agg (exA x A ca B cb)] w fun e w' => e = .returned (.string (ofB (textL x))) ∧ Below w.heap.size w w' := by
  have HF := Lib.hid fun w1 h => box_facts w x A ca B cb w1 h H.rd
  have HTS := Lib.hid H.texts
  have HTX := Lib.hid (textL_eq x)
  have HAR := Lib.hid fun w1 (h : Below w.heap.size w w1) => (H.rd.below h).arms
  have HTB := Lib.hid fun w1 (h : Below w.heap.size w w1) => H.tab.below h
  have HLS := Lib.hid H.each
  have HLA := Lib.hid H.all
  have hf := H.part
  have hnum := H.num
  have hln := H.len
  clear H
  unfold exA at HF ⊢
  rw [hkd] at HF ⊢
  generalize textL x = tx at *
  generalize hlen : x.subs.length = n at *
  have HLEN := Lib.hid hlen
  clear hlen
  go_enter Tryd.func20, Tryd.ntmps20
  go_upto_region 1 with (fail)
  generalize hw1 : w.alloc _ = w1
  obtain ⟨hb1, hg, hr1, hcell⟩ := HF.out w1 hw1
  have HB1 := Lib.hid hb1
  have HC := Lib.hid hcell
  have q5 := hcell w1 (Below.refl _ _) 5
  clear hcell hb1 hr1 hw1 HF
  go_wp2_with fail
  refine (HTS.out w1 HB1.out).mono ?_
  rintro r w2 ⟨A1, c1, rfl, hR1, hnc, hb2⟩
  have HR1 := Lib.hid hR1
  have HB2 := Lib.hid (HB1.out.trans (hb2.mono HB1.out.size))
  have q0 := HC.out w2 hb2 0
  have q1 := HC.out w2 hb2 1
  have q2 := HC.out w2 hb2 2
  have q3 := HC.out w2 hb2 3
  have q4 := HC.out w2 hb2 4
  have hgl : w.heap.size < w2.heap.size := Nat.lt_of_lt_of_le hg hb2.size
  clear hb2 hR1 q5 HTS HC
  obtain ⟨ya, hab⟩ := len1 (subs_len hf (m := 1) (by simp [subsX, hkd]))
  have hk1 : n = 1 := by rw [← HLEN.out, hab]; rfl
  subst hk1
  obtain ⟨b1, off1, rfl, hb1l, hat1⟩ := HR1.out.at_ (i := 0) (by omega)
  have HBL := Lib.hid hb1l
  have t0 := hat1 0 (by omega)
  rw [txS_at (by rw [HLEN.out]; omega), hab] at t0
  simp only [List.getElem?_cons_succ, List.getElem?_cons_zero, Option.getD_some] at t0
  have hz0 : (ofB (textL ya)).size ≤ 1300000 := by rw [ofB_sizeP]; exact HLS.out ya (by rw [hab]; simp)
  simp only [Nat.add_zero] at t0
  have HE := Lib.hid (show winS ⟨#[40]⟩ ⟨#[32]⟩ ⟨#[41]⟩ [⟨#[112, 114, 101]⟩, ofB (textL ya)] = ofB tx from ba_ext (by
    rw [HTX.out, hkd, hab, ofB_data]
    simp [winS, jn_cons, Lib.joinTail, ofB_data, textK, gT, notL, ifL, thenL, elseL, preL, fbyL, arrL, withL, whenL, unL]))
  clear hat1 HR1 HLS HLA HAR HTX hab
  generalize ofB (textL ya) = sa at *
  have hdsa : sa.data.toList.length = sa.size := by simp
  have HPH := Lib.hid (phraseLit [⟨#[112, 114, 101]⟩, sa] 2 (ofB tx) HE.out #[.string ⟨#[112, 114, 101]⟩, .string sa] rfl rfl (by decide) (by simp [jn_cons, Lib.joinTail]; omega))
  go_wp2_with fail
  refine (HPH.out w2).mono ?_
  rintro r w3 ⟨rfl, hb3⟩
  have HB3 := Lib.hid (HB2.out.trans (hb3.mono HB2.out.size))
  clear hb3
  go_wp2_with fail
  go_ret
  exact ⟨rfl, HB3.out⟩

set_option maxRecDepth 100000 in
set_option maxHeartbeats 4000000 in
theorem text_11 (H : ShH x A ca B cb w) (hkd : x.k = 11) :
    Calls Tryd.prog 20 #[.agg (exA x A ca B cb)] w fun e w' => e = .returned (.string (ofB (textL x))) ∧ Below w.heap.size w w' := by
  have HF := Lib.hid fun w1 h => box_facts w x A ca B cb w1 h H.rd
  have HTS := Lib.hid H.texts
  have HTX := Lib.hid (textL_eq x)
  have HAR := Lib.hid fun w1 (h : Below w.heap.size w w1) => (H.rd.below h).arms
  have HTB := Lib.hid fun w1 (h : Below w.heap.size w w1) => H.tab.below h
  have HLS := Lib.hid H.each
  have HLA := Lib.hid H.all
  have hf := H.part
  have hnum := H.num
  have hln := H.len
  clear H
  unfold exA at HF ⊢
  rw [hkd] at HF ⊢
  generalize textL x = tx at *
  generalize hlen : x.subs.length = n at *
  have HLEN := Lib.hid hlen
  clear hlen
  go_enter Tryd.func20, Tryd.ntmps20
  go_upto_region 1 with (fail)
  generalize hw1 : w.alloc _ = w1
  obtain ⟨hb1, hg, hr1, hcell⟩ := HF.out w1 hw1
  have HB1 := Lib.hid hb1
  have HC := Lib.hid hcell
  have q5 := hcell w1 (Below.refl _ _) 5
  clear hcell hb1 hr1 hw1 HF
  go_wp2_with fail
  refine (HTS.out w1 HB1.out).mono ?_
  rintro r w2 ⟨A1, c1, rfl, hR1, hnc, hb2⟩
  have HR1 := Lib.hid hR1
  have HB2 := Lib.hid (HB1.out.trans (hb2.mono HB1.out.size))
  have q0 := HC.out w2 hb2 0
  have q1 := HC.out w2 hb2 1
  have q2 := HC.out w2 hb2 2
  have q3 := HC.out w2 hb2 3
  have q4 := HC.out w2 hb2 4
  have hgl : w.heap.size < w2.heap.size := Nat.lt_of_lt_of_le hg hb2.size
  clear hb2 hR1 q5 HTS HC
  obtain ⟨ya, hab⟩ := len1 (subs_len hf (m := 1) (by simp [subsX, hkd]))
  have hk1 : n = 1 := by rw [← HLEN.out, hab]; rfl
  subst hk1
  obtain ⟨b1, off1, rfl, hb1l, hat1⟩ := HR1.out.at_ (i := 0) (by omega)
  have HBL := Lib.hid hb1l
  have t0 := hat1 0 (by omega)
  rw [txS_at (by rw [HLEN.out]; omega), hab] at t0
  simp only [List.getElem?_cons_succ, List.getElem?_cons_zero, Option.getD_some] at t0
  have hz0 : (ofB (textL ya)).size ≤ 1300000 := by rw [ofB_sizeP]; exact HLS.out ya (by rw [hab]; simp)
  simp only [Nat.add_zero] at t0
  obtain ⟨m, hm⟩ : ∃ m, x.arms = [m] := by
    have h := hf.a11 hkd
    match hl : x.arms, h with
    | [m], _ => exact ⟨m, rfl⟩
  have hma := arm_len (hf.arms m (by rw [hm]; simp))
  have hms : m.size ≤ 12 := by simpa using hma
  have har := HAR.out w2 HB2.out
  rw [hm] at har q4
  simp only [List.length_cons, List.length_nil, Nat.zero_add] at har q4
  obtain ⟨b2, off2, hA2, hb2l, hat2⟩ := har.at_ (i := 0) (by omega)
  subst hA2
  have HBM := Lib.hid hb2l
  have m0 := hat2 0 (by omega)
  simp only [List.getElem?_cons_zero, Option.getD_some, Nat.add_zero] at m0
  have hns : x.s.size ≤ 1000 := hnum.1
  have hso : (ofB (onL x.s.data.toList m.data.toList)).size ≤ 1018 := by
    rw [ofB_sizeP]
    have h1 := on_len (s := x.s.data.toList) (m := m.data.toList)
    have h2 : x.s.data.toList.length = x.s.size := by simp
    omega
  have HON := Lib.hid fun w => shOn x.s m w (by omega) (by omega)
  have HE := Lib.hid (show winS ⟨#[40]⟩ ⟨#[32]⟩ ⟨#[41]⟩ [ofB (textL ya), ⟨#[119, 104, 101, 110]⟩, ofB (onL x.s.data.toList m.data.toList)] = ofB tx from ba_ext (by
    rw [HTX.out, hkd, hab, hm, ofB_data]
    simp [winS, jn_cons, Lib.joinTail, ofB_data, textK, gT, notL, ifL, thenL, elseL, preL, fbyL, arrL, withL, whenL, unL]))
  clear hat1 HR1 HLS HLA HAR HTX hab
  generalize ofB (textL ya) = sa at *
  clear hat2 har hma
  generalize ofB (onL x.s.data.toList m.data.toList) = so at *
  generalize x.s = nm at *
  have hdsa : sa.data.toList.length = sa.size := by simp
  have hdso : so.data.toList.length = so.size := by simp
  have HPH := Lib.hid (phraseLit [sa, ⟨#[119, 104, 101, 110]⟩, so] 3 (ofB tx) HE.out #[.string sa, .string ⟨#[119, 104, 101, 110]⟩, .string so] rfl rfl (by decide) (by simp [jn_cons, Lib.joinTail]; omega))
  go_wp2_with fail
  go_region_held3 (fun W => W.cell? ⟨b1, off1, none⟩ = some (.string sa) ∧ W.cell? ⟨w.heap.size, 2, none⟩ = some (.string nm) ∧ W.cell? ⟨w.heap.size, 4, none⟩ = some (.slice (some ⟨b2, off2, none⟩) 1 ca) ∧ W.cell? ⟨b2, off2, none⟩ = some (.string m)) (first | exact ⟨t0, q2, q4, m0⟩ | exact ⟨g0, g1, g2, g3⟩ | exact ⟨(World.cell?_alloc_lt _ _ _ lg0).trans g0, (World.cell?_alloc_lt _ _ _ lg1).trans g1, (World.cell?_alloc_lt _ _ _ lg2).trans g2, (World.cell?_alloc_lt _ _ _ lg3).trans g3⟩ | exact ⟨d0, d1, d2, d3⟩)
    ((first
      | (go_at_call 6; refine (HON.out (w2.drewN 1)).mono ?_; rintro r Wg ⟨rfl, hbg⟩; have HBg := Lib.hid ((below_drewN HB2.out 1).trans (hbg.mono (below_drewN HB2.out 1).size)); have HKg := Lib.hid ((below_drewN (Below.refl w2.heap.size w2) 1).trans (hbg.mono (below_drewN (Below.refl w2.heap.size w2) 1).size)); clear hbg; have g0 := (HKg.out.cell HBL.out).trans t0; have lg0 : b1 < Wg.heap.size := Nat.lt_of_lt_of_le HBL.out HKg.out.size; have g1 := (HKg.out.cell hgl).trans q2; have lg1 : w.heap.size < Wg.heap.size := Nat.lt_of_lt_of_le hgl HKg.out.size; have g2 := (HKg.out.cell hgl).trans q4; have lg2 : w.heap.size < Wg.heap.size := Nat.lt_of_lt_of_le hgl HKg.out.size; have g3 := (HKg.out.cell HBM.out).trans m0; have lg3 : b2 < Wg.heap.size := Nat.lt_of_lt_of_le HBM.out HKg.out.size)
      | (go_at_call 36; refine (HPH.out Wg).mono ?_; rintro r Wd ⟨rfl, hbd⟩; have HBd := Lib.hid (HBg.out.trans (hbd.mono HBg.out.size)); have HKd := Lib.hid (HKg.out.trans (hbd.mono HKg.out.size)); clear hbd; have d0 := (HKd.out.cell HBL.out).trans t0; have d1 := (HKd.out.cell hgl).trans q2; have d2 := (HKd.out.cell hgl).trans q4; have d3 := (HKd.out.cell HBM.out).trans m0)))
  go_wp2_with fail
  go_ret
  exact ⟨rfl, HBd.out⟩

set_option maxRecDepth 100000 in
set_option maxHeartbeats 4000000 in
theorem text_12 (H : ShH x A ca B cb w) (hkd : x.k = 12) :
    Calls Tryd.prog 20 #[.agg (exA x A ca B cb)] w fun e w' => e = .returned (.string (ofB (textL x))) ∧ Below w.heap.size w w' := by
  have HF := Lib.hid fun w1 h => box_facts w x A ca B cb w1 h H.rd
  have HTS := Lib.hid H.texts
  have HTX := Lib.hid (textL_eq x)
  have HAR := Lib.hid fun w1 (h : Below w.heap.size w w1) => (H.rd.below h).arms
  have HTB := Lib.hid fun w1 (h : Below w.heap.size w w1) => H.tab.below h
  have HLS := Lib.hid H.each
  have HLA := Lib.hid H.all
  have hf := H.part
  have hnum := H.num
  have hln := H.len
  clear H
  unfold exA at HF ⊢
  rw [hkd] at HF ⊢
  generalize textL x = tx at *
  generalize hlen : x.subs.length = n at *
  have HLEN := Lib.hid hlen
  clear hlen
  go_enter Tryd.func20, Tryd.ntmps20
  go_upto_region 1 with (fail)
  generalize hw1 : w.alloc _ = w1
  obtain ⟨hb1, hg, hr1, hcell⟩ := HF.out w1 hw1
  have HB1 := Lib.hid hb1
  have HC := Lib.hid hcell
  have q5 := hcell w1 (Below.refl _ _) 5
  clear hcell hb1 hr1 hw1 HF
  go_wp2_with fail
  refine (HTS.out w1 HB1.out).mono ?_
  rintro r w2 ⟨A1, c1, rfl, hR1, hnc, hb2⟩
  have HR1 := Lib.hid hR1
  have HB2 := Lib.hid (HB1.out.trans (hb2.mono HB1.out.size))
  have q0 := HC.out w2 hb2 0
  have q1 := HC.out w2 hb2 1
  have q2 := HC.out w2 hb2 2
  have q3 := HC.out w2 hb2 3
  have q4 := HC.out w2 hb2 4
  have hgl : w.heap.size < w2.heap.size := Nat.lt_of_lt_of_le hg hb2.size
  clear hb2 hR1 q5 HTS HC
  have hla : x.arms.length = n := by
    have h1 := hf.hi
    have h2 := hf.lo
    rw [show subsX x = ((x.arms.length : Int), (x.arms.length : Int)) by simp [subsX, hkd], HLEN.out] at h1 h2
    simp only at h1 h2
    omega
  have har := HAR.out w2 HB2.out
  have HCL := Lib.hid (shMerge x.s A n ca x.arms A1 c1 (txS x.subs) w2 (by rw [← hla]; exact har) HR1.out hln hnum.1 (fun a ha => by have := arm_len (hf.arms a ha); simpa using this) (fun t ht => by
    obtain ⟨y, hy, rfl⟩ := List.mem_map.1 ht
    rw [ofB_sizeP]
    have := HLS.out y hy
    omega) (by rw [dL_txS]; have := HLA.out; omega))
  have HE := Lib.hid (show ofB (40 :: (mergeL ++ 32 :: (x.s.data.toList ++ (armsT (dL x.arms) (dL (txS x.subs)) ++ [41])))) = ofB tx by
    rw [HTX.out, hkd, dL_txS]
    simp [textK, dL])
  rw [HE.out] at HCL
  rw [hla] at q4
  clear HTX har HE hla HAR
  go_wp2_with fail
  refine HCL.out.mono ?_
  rintro r w3 ⟨rfl, hb3⟩
  have HB3 := Lib.hid (HB2.out.trans (hb3.mono HB2.out.size))
  clear hb3
  go_wp2_with fail
  go_ret
  exact ⟨rfl, HB3.out⟩

set_option maxRecDepth 100000 in
set_option maxHeartbeats 4000000 in
theorem text_13 (H : ShH x A ca B cb w) (hkd : x.k = 13) :
    Calls Tryd.prog 20 #[.agg (exA x A ca B cb)] w fun e w' => e = .returned (.string (ofB (textL x))) ∧ Below w.heap.size w w' := by
  have HF := Lib.hid fun w1 h => box_facts w x A ca B cb w1 h H.rd
  have HTS := Lib.hid H.texts
  have HTX := Lib.hid (textL_eq x)
  have HAR := Lib.hid fun w1 (h : Below w.heap.size w w1) => (H.rd.below h).arms
  have HTB := Lib.hid fun w1 (h : Below w.heap.size w w1) => H.tab.below h
  have HLS := Lib.hid H.each
  have HLA := Lib.hid H.all
  have hf := H.part
  have hnum := H.num
  have hln := H.len
  clear H
  unfold exA at HF ⊢
  rw [hkd] at HF ⊢
  generalize textL x = tx at *
  generalize hlen : x.subs.length = n at *
  have HLEN := Lib.hid hlen
  clear hlen
  go_enter Tryd.func20, Tryd.ntmps20
  go_upto_region 1 with (fail)
  generalize hw1 : w.alloc _ = w1
  obtain ⟨hb1, hg, hr1, hcell⟩ := HF.out w1 hw1
  have HB1 := Lib.hid hb1
  have HC := Lib.hid hcell
  have q5 := hcell w1 (Below.refl _ _) 5
  clear hcell hb1 hr1 hw1 HF
  go_wp2_with fail
  refine (HTS.out w1 HB1.out).mono ?_
  rintro r w2 ⟨A1, c1, rfl, hR1, hnc, hb2⟩
  have HR1 := Lib.hid hR1
  have HB2 := Lib.hid (HB1.out.trans (hb2.mono HB1.out.size))
  have q0 := HC.out w2 hb2 0
  have q1 := HC.out w2 hb2 1
  have q2 := HC.out w2 hb2 2
  have q3 := HC.out w2 hb2 3
  have q4 := HC.out w2 hb2 4
  have hgl : w.heap.size < w2.heap.size := Nat.lt_of_lt_of_le hg hb2.size
  clear hb2 hR1 q5 HTS HC
  rcases hf.n2 (.inr hkd) with hn0 | hn1
  · have HCL := Lib.hid (shCall0 x.s A1 n c1 (txS x.subs) w2 HR1.out hln hnc hnum.1 (by rw [dL_txS]; have := HLA.out; omega))
    have HE := Lib.hid (show ofB (callT 0 x.s.data.toList (dL (txS x.subs))) = ofB tx by
      rw [HTX.out, hkd, hn0, dL_txS]
      simp [textK])
    rw [HE.out] at HCL
    rw [hn0] at q1
    clear HTX HE
    go_wp2_with fail
    refine HCL.out.mono ?_
    rintro r w3 ⟨rfl, hb3⟩
    have HB3 := Lib.hid (HB2.out.trans (hb3.mono HB2.out.size))
    clear hb3
    go_wp2_with fail
    go_ret
    exact ⟨rfl, HB3.out⟩
  · obtain ⟨m, rfl⟩ : ∃ m, n = m + 1 := by
      have h := hf.lo
      rw [show subsX x = (x.n, 6 + x.n) by simp [subsX, hkd], hn1, HLEN.out] at h
      simp at h
      exact ⟨n - 1, by omega⟩
    have HCL := Lib.hid (shCall1 x.s A1 m c1 (txS x.subs) w2 HR1.out hln hnc hnum.1 (by rw [dL_txS]; have := HLA.out; omega))
    have HE := Lib.hid (show ofB (callT 1 x.s.data.toList (dL (txS x.subs))) = ofB tx by
      rw [HTX.out, hkd, hn1, dL_txS]
      simp [textK])
    rw [HE.out] at HCL
    rw [hn1] at q1
    clear HTX HE
    go_wp2_with fail
    refine HCL.out.mono ?_
    rintro r w3 ⟨rfl, hb3⟩
    have HB3 := Lib.hid (HB2.out.trans (hb3.mono HB2.out.size))
    clear hb3
    go_wp2_with fail
    go_ret
    exact ⟨rfl, HB3.out⟩

set_option maxRecDepth 100000 in
set_option maxHeartbeats 4000000 in
theorem text_14 (H : ShH x A ca B cb w) (hkd : x.k = 14) :
    Calls Tryd.prog 20 #[.agg (exA x A ca B cb)] w fun e w' => e = .returned (.string (ofB (textL x))) ∧ Below w.heap.size w w' := by
  have HF := Lib.hid fun w1 h => box_facts w x A ca B cb w1 h H.rd
  have HTS := Lib.hid H.texts
  have HTX := Lib.hid (textL_eq x)
  have HAR := Lib.hid fun w1 (h : Below w.heap.size w w1) => (H.rd.below h).arms
  have HTB := Lib.hid fun w1 (h : Below w.heap.size w w1) => H.tab.below h
  have HLS := Lib.hid H.each
  have HLA := Lib.hid H.all
  have hf := H.part
  have hnum := H.num
  have hln := H.len
  clear H
  unfold exA at HF ⊢
  rw [hkd] at HF ⊢
  generalize textL x = tx at *
  generalize hlen : x.subs.length = n at *
  have HLEN := Lib.hid hlen
  clear hlen
  go_enter Tryd.func20, Tryd.ntmps20
  go_upto_region 1 with (fail)
  generalize hw1 : w.alloc _ = w1
  obtain ⟨hb1, hg, hr1, hcell⟩ := HF.out w1 hw1
  have HB1 := Lib.hid hb1
  have HC := Lib.hid hcell
  have q5 := hcell w1 (Below.refl _ _) 5
  clear hcell hb1 hr1 hw1 HF
  go_wp2_with fail
  refine (HTS.out w1 HB1.out).mono ?_
  rintro r w2 ⟨A1, c1, rfl, hR1, hnc, hb2⟩
  have HR1 := Lib.hid hR1
  have HB2 := Lib.hid (HB1.out.trans (hb2.mono HB1.out.size))
  have q0 := HC.out w2 hb2 0
  have q1 := HC.out w2 hb2 1
  have q2 := HC.out w2 hb2 2
  have q3 := HC.out w2 hb2 3
  have q4 := HC.out w2 hb2 4
  have hgl : w.heap.size < w2.heap.size := Nat.lt_of_lt_of_le hg hb2.size
  clear hb2 hR1 q5 HTS HC
  have hjn := jn_len (txS x.subs)
  rw [dL_txS, txS_len, HLEN.out] at hjn
  have HCL := Lib.hid (shList ⟨#[91]⟩ ⟨#[93]⟩ A1 n c1 (txS x.subs) w2 HR1.out hnc (by omega) (by decide) (by decide) (by have := HLA.out; omega))
  have HE := Lib.hid (show winS ⟨#[91]⟩ ⟨#[44, 32]⟩ ⟨#[93]⟩ (txS x.subs) = ofB tx from ba_ext (by
    have h : jnT (txS x.subs) ⟨#[44, 32]⟩ = joinC (x.subs.map textL) := by
      rw [← dL_txS]
      exact jn_join _
    rw [HTX.out, hkd, ofB_data]
    simp [winS, h, ofB_data, textK]))
  rw [HE.out] at HCL
  clear HTX HE hjn
  go_wp2_with fail
  refine HCL.out.mono ?_
  rintro r w3 ⟨rfl, hb3⟩
  have HB3 := Lib.hid (HB2.out.trans (hb3.mono HB2.out.size))
  clear hb3
  go_wp2_with fail
  go_ret
  exact ⟨rfl, HB3.out⟩

set_option maxRecDepth 100000 in
set_option maxHeartbeats 4000000 in
theorem text_15 (H : ShH x A ca B cb w) (hkd : x.k = 15) :
    Calls Tryd.prog 20 #[.agg (exA x A ca B cb)] w fun e w' => e = .returned (.string (ofB (textL x))) ∧ Below w.heap.size w w' := by
  have HF := Lib.hid fun w1 h => box_facts w x A ca B cb w1 h H.rd
  have HTS := Lib.hid H.texts
  have HTX := Lib.hid (textL_eq x)
  have HAR := Lib.hid fun w1 (h : Below w.heap.size w w1) => (H.rd.below h).arms
  have HTB := Lib.hid fun w1 (h : Below w.heap.size w w1) => H.tab.below h
  have HLS := Lib.hid H.each
  have HLA := Lib.hid H.all
  have hf := H.part
  have hnum := H.num
  have hln := H.len
  clear H
  unfold exA at HF ⊢
  rw [hkd] at HF ⊢
  generalize textL x = tx at *
  generalize hlen : x.subs.length = n at *
  have HLEN := Lib.hid hlen
  clear hlen
  go_enter Tryd.func20, Tryd.ntmps20
  go_upto_region 1 with (fail)
  generalize hw1 : w.alloc _ = w1
  obtain ⟨hb1, hg, hr1, hcell⟩ := HF.out w1 hw1
  have HB1 := Lib.hid hb1
  have HC := Lib.hid hcell
  have q5 := hcell w1 (Below.refl _ _) 5
  clear hcell hb1 hr1 hw1 HF
  go_wp2_with fail
  refine (HTS.out w1 HB1.out).mono ?_
  rintro r w2 ⟨A1, c1, rfl, hR1, hnc, hb2⟩
  have HR1 := Lib.hid hR1
  have HB2 := Lib.hid (HB1.out.trans (hb2.mono HB1.out.size))
  have q0 := HC.out w2 hb2 0
  have q1 := HC.out w2 hb2 1
  have q2 := HC.out w2 hb2 2
  have q3 := HC.out w2 hb2 3
  have q4 := HC.out w2 hb2 4
  have hgl : w.heap.size < w2.heap.size := Nat.lt_of_lt_of_le hg hb2.size
  clear hb2 hR1 q5 HTS HC
  obtain ⟨ya, yb, hab⟩ := len2 (subs_len hf (m := 2) (by simp [subsX, hkd]))
  have hk2 : n = 2 := by rw [← HLEN.out, hab]; rfl
  subst hk2
  obtain ⟨b1, off1, rfl, hb1l, hat1⟩ := HR1.out.at_ (i := 0) (by omega)
  have HBL := Lib.hid hb1l
  have t0 := hat1 0 (by omega)
  rw [txS_at (by rw [HLEN.out]; omega), hab] at t0
  simp only [List.getElem?_cons_succ, List.getElem?_cons_zero, Option.getD_some] at t0
  have t1 := hat1 1 (by omega)
  rw [txS_at (by rw [HLEN.out]; omega), hab] at t1
  simp only [List.getElem?_cons_succ, List.getElem?_cons_zero, Option.getD_some] at t1
  have hz0 : (ofB (textL ya)).size ≤ 1300000 := by rw [ofB_sizeP]; exact HLS.out ya (by rw [hab]; simp)
  have hz1 : (ofB (textL yb)).size ≤ 1300000 := by rw [ofB_sizeP]; exact HLS.out yb (by rw [hab]; simp)
  simp only [Nat.add_zero] at t0
  have HE := Lib.hid (show winS (ofB (textL ya) ++ (⟨#[91]⟩ : ByteArray)) ⟨#[44, 32]⟩ ⟨#[93]⟩ [ofB (textL yb)] = ofB tx from ba_ext (by
    rw [HTX.out, hkd, hab, ofB_data]
    simp [winS, jn_cons, Lib.joinTail, ofB_data, textK, gT]))
  clear hat1 HR1 HLS HLA HAR HTX hab
  generalize ofB (textL ya) = sa at *
  generalize ofB (textL yb) = sb at *
  have hdsa : sa.data.toList.length = sa.size := by simp
  have hdsb : sb.data.toList.length = sb.size := by simp
  have HPH := Lib.hid (listLit (sa ++ (⟨#[91]⟩ : ByteArray)) ⟨#[93]⟩ [sb] 1 (ofB tx) HE.out #[.string sb] rfl rfl (by decide) (by simp only [ByteArray.size_append]; show sa.size + 1 ≤ _; omega) (by decide) (by simp [jn_cons, Lib.joinTail]; omega))
  have z1 : (9223372036854775807 < sa.size + 1) = False := by rw [eq_iff_iff, iff_false]; omega
  go_wp2_with fail
  go_region_held3 (fun W => W.cell? ⟨b1, off1, none⟩ = some (.string sa) ∧ W.cell? ⟨b1, off1 + 1, none⟩ = some (.string sb)) (first | exact ⟨t0, t1⟩ | exact ⟨(World.cell?_alloc_lt _ _ _ HBL.out).trans t0, (World.cell?_alloc_lt _ _ _ HBL.out).trans t1⟩ | exact ⟨d0, d1⟩)
    ((first
      | (go_at_call 12; refine (HPH.out (w2.drewN 1)).mono ?_; rintro r Wd ⟨rfl, hbd⟩; have HBd := Lib.hid ((below_drewN HB2.out 1).trans (hbd.mono (below_drewN HB2.out 1).size)); have HKd := Lib.hid ((below_drewN (Below.refl w2.heap.size w2) 1).trans (hbd.mono (below_drewN (Below.refl w2.heap.size w2) 1).size)); clear hbd; have d0 := (HKd.out.cell HBL.out).trans t0; have d1 := (HKd.out.cell HBL.out).trans t1)))
  go_wp2_with fail
  go_ret
  exact ⟨rfl, HBd.out⟩

set_option maxRecDepth 100000 in
set_option maxHeartbeats 4000000 in
theorem text_16 (H : ShH x A ca B cb w) (hkd : x.k = 16) :
    Calls Tryd.prog 20 #[.agg (exA x A ca B cb)] w fun e w' => e = .returned (.string (ofB (textL x))) ∧ Below w.heap.size w w' := by
  have HF := Lib.hid fun w1 h => box_facts w x A ca B cb w1 h H.rd
  have HTS := Lib.hid H.texts
  have HTX := Lib.hid (textL_eq x)
  have HAR := Lib.hid fun w1 (h : Below w.heap.size w w1) => (H.rd.below h).arms
  have HTB := Lib.hid fun w1 (h : Below w.heap.size w w1) => H.tab.below h
  have HLS := Lib.hid H.each
  have HLA := Lib.hid H.all
  have hf := H.part
  have hnum := H.num
  have hln := H.len
  clear H
  unfold exA at HF ⊢
  rw [hkd] at HF ⊢
  generalize textL x = tx at *
  generalize hlen : x.subs.length = n at *
  have HLEN := Lib.hid hlen
  clear hlen
  go_enter Tryd.func20, Tryd.ntmps20
  go_upto_region 1 with (fail)
  generalize hw1 : w.alloc _ = w1
  obtain ⟨hb1, hg, hr1, hcell⟩ := HF.out w1 hw1
  have HB1 := Lib.hid hb1
  have HC := Lib.hid hcell
  have q5 := hcell w1 (Below.refl _ _) 5
  clear hcell hb1 hr1 hw1 HF
  go_wp2_with fail
  refine (HTS.out w1 HB1.out).mono ?_
  rintro r w2 ⟨A1, c1, rfl, hR1, hnc, hb2⟩
  have HR1 := Lib.hid hR1
  have HB2 := Lib.hid (HB1.out.trans (hb2.mono HB1.out.size))
  have q0 := HC.out w2 hb2 0
  have q1 := HC.out w2 hb2 1
  have q2 := HC.out w2 hb2 2
  have q3 := HC.out w2 hb2 3
  have q4 := HC.out w2 hb2 4
  have hgl : w.heap.size < w2.heap.size := Nat.lt_of_lt_of_le hg hb2.size
  clear hb2 hR1 q5 HTS HC
  obtain ⟨ya, yb, yc, hab⟩ := len3 (subs_len hf (m := 3) (by simp [subsX, hkd]))
  have hk3 : n = 3 := by rw [← HLEN.out, hab]; rfl
  subst hk3
  obtain ⟨b1, off1, rfl, hb1l, hat1⟩ := HR1.out.at_ (i := 0) (by omega)
  have HBL := Lib.hid hb1l
  have t0 := hat1 0 (by omega)
  rw [txS_at (by rw [HLEN.out]; omega), hab] at t0
  simp only [List.getElem?_cons_succ, List.getElem?_cons_zero, Option.getD_some] at t0
  have t1 := hat1 1 (by omega)
  rw [txS_at (by rw [HLEN.out]; omega), hab] at t1
  simp only [List.getElem?_cons_succ, List.getElem?_cons_zero, Option.getD_some] at t1
  have t2 := hat1 2 (by omega)
  rw [txS_at (by rw [HLEN.out]; omega), hab] at t2
  simp only [List.getElem?_cons_succ, List.getElem?_cons_zero, Option.getD_some] at t2
  have hz0 : (ofB (textL ya)).size ≤ 1300000 := by rw [ofB_sizeP]; exact HLS.out ya (by rw [hab]; simp)
  have hz1 : (ofB (textL yb)).size ≤ 1300000 := by rw [ofB_sizeP]; exact HLS.out yb (by rw [hab]; simp)
  have hz2 : (ofB (textL yc)).size ≤ 1300000 := by rw [ofB_sizeP]; exact HLS.out yc (by rw [hab]; simp)
  simp only [Nat.add_zero] at t0
  have HE := Lib.hid (show winS ⟨#[40]⟩ ⟨#[32]⟩ ⟨#[41]⟩ [ofB (textL ya), ⟨#[119, 105, 116, 104]⟩, winS ⟨#[91]⟩ ⟨#[44, 32]⟩ ⟨#[93]⟩ [ofB (textL yb)], ⟨#[61]⟩, ofB (textL yc)] = ofB tx from ba_ext (by
    rw [HTX.out, hkd, hab, ofB_data]
    simp [winS, jn_cons, Lib.joinTail, ofB_data, textK, gT, withL]))
  have hz3 : (winS ⟨#[91]⟩ ⟨#[44, 32]⟩ ⟨#[93]⟩ [ofB (textL yb)]).size ≤ 1300002 := by
    have h := hz1
    rw [ofB_sizeP] at h
    show (winS _ _ _ _).data.size ≤ _
    rw [← Array.length_toList]
    simp [winS, jn_cons, Lib.joinTail, ofB_data]
    omega
  have HIN := Lib.hid (show winS ⟨#[91]⟩ ⟨#[44, 32]⟩ ⟨#[93]⟩ [ofB (textL yb)] = winS ⟨#[91]⟩ ⟨#[44, 32]⟩ ⟨#[93]⟩ [ofB (textL yb)] from rfl)
  clear hat1 HR1 HLS HLA HAR HTX hab
  generalize hwi : winS ⟨#[91]⟩ ⟨#[44, 32]⟩ ⟨#[93]⟩ [ofB (textL yb)] = wi at *
  have HWI := Lib.hid hwi
  clear hwi HIN
  generalize ofB (textL ya) = sa at *
  generalize ofB (textL yb) = sb at *
  generalize ofB (textL yc) = sc at *
  have hdsa : sa.data.toList.length = sa.size := by simp
  have hdsb : sb.data.toList.length = sb.size := by simp
  have hdsc : sc.data.toList.length = sc.size := by simp
  have hdwi : wi.data.toList.length = wi.size := by simp
  have HLI := Lib.hid (listLit ⟨#[91]⟩ ⟨#[93]⟩ [sb] 1 wi HWI.out #[.string sb] rfl rfl (by decide) (by decide) (by decide) (by simp [jn_cons, Lib.joinTail]; omega))
  have HPH := Lib.hid (phraseLit [sa, ⟨#[119, 105, 116, 104]⟩, wi, ⟨#[61]⟩, sc] 5 (ofB tx) HE.out #[.string sa, .string ⟨#[119, 105, 116, 104]⟩, .string wi, .string ⟨#[61]⟩, .string sc] rfl rfl (by decide) (by simp [jn_cons, Lib.joinTail]; omega))
  go_wp2_with fail
  go_region_held3 (fun W => W.cell? ⟨b1, off1, none⟩ = some (.string sa) ∧ W.cell? ⟨b1, off1 + 1, none⟩ = some (.string sb) ∧ W.cell? ⟨b1, off1 + 2, none⟩ = some (.string sc)) (first | exact ⟨t0, t1, t2⟩ | exact ⟨g0, g1, g2⟩ | exact ⟨d0, d1, d2⟩ | exact ⟨(World.cell?_alloc_lt _ _ _ HBL.out).trans t0, (World.cell?_alloc_lt _ _ _ HBL.out).trans t1, (World.cell?_alloc_lt _ _ _ HBL.out).trans t2⟩ | exact ⟨(World.cell?_alloc_lt _ _ _ lg0).trans g0, (World.cell?_alloc_lt _ _ _ lg0).trans g1, (World.cell?_alloc_lt _ _ _ lg0).trans g2⟩)
    ((first
      | (go_at_call 12; refine (HLI.out (w2.drewN 1)).mono ?_; rintro r Wg ⟨rfl, hbg⟩; have HBg := Lib.hid ((below_drewN HB2.out 1).trans (hbg.mono (below_drewN HB2.out 1).size)); have HKg := Lib.hid ((below_drewN (Below.refl w2.heap.size w2) 1).trans (hbg.mono (below_drewN (Below.refl w2.heap.size w2) 1).size)); clear hbg; have g0 := (HKg.out.cell HBL.out).trans t0; have g1 := (HKg.out.cell HBL.out).trans t1; have g2 := (HKg.out.cell HBL.out).trans t2; have lg0 : b1 < Wg.heap.size := Nat.lt_of_lt_of_le HBL.out HKg.out.size)
      | (go_at_call 36; refine (HPH.out Wg).mono ?_; rintro r Wd ⟨rfl, hbd⟩; have HBd := Lib.hid (HBg.out.trans (hbd.mono HBg.out.size)); have HKd := Lib.hid (HKg.out.trans (hbd.mono HKg.out.size)); clear hbd; have d0 := (HKd.out.cell HBL.out).trans t0; have d1 := (HKd.out.cell HBL.out).trans t1; have d2 := (HKd.out.cell HBL.out).trans t2)))
  go_wp2_with fail
  go_ret
  exact ⟨rfl, HBd.out⟩

set_option maxRecDepth 100000 in
set_option maxHeartbeats 4000000 in
theorem text_17 (H : ShH x A ca B cb w) (hkd : x.k = 17) :
    Calls Tryd.prog 20 #[.agg (exA x A ca B cb)] w fun e w' => e = .returned (.string (ofB (textL x))) ∧ Below w.heap.size w w' := by
  have HF := Lib.hid fun w1 h => box_facts w x A ca B cb w1 h H.rd
  have HTS := Lib.hid H.texts
  have HTX := Lib.hid (textL_eq x)
  have HAR := Lib.hid fun w1 (h : Below w.heap.size w w1) => (H.rd.below h).arms
  have HTB := Lib.hid fun w1 (h : Below w.heap.size w w1) => H.tab.below h
  have HLS := Lib.hid H.each
  have HLA := Lib.hid H.all
  have hf := H.part
  have hnum := H.num
  have hln := H.len
  clear H
  unfold exA at HF ⊢
  rw [hkd] at HF ⊢
  generalize textL x = tx at *
  generalize hlen : x.subs.length = n at *
  have HLEN := Lib.hid hlen
  clear hlen
  go_enter Tryd.func20, Tryd.ntmps20
  go_upto_region 1 with (fail)
  generalize hw1 : w.alloc _ = w1
  obtain ⟨hb1, hg, hr1, hcell⟩ := HF.out w1 hw1
  have HB1 := Lib.hid hb1
  have HC := Lib.hid hcell
  have q5 := hcell w1 (Below.refl _ _) 5
  clear hcell hb1 hr1 hw1 HF
  go_wp2_with fail
  refine (HTS.out w1 HB1.out).mono ?_
  rintro r w2 ⟨A1, c1, rfl, hR1, hnc, hb2⟩
  have HR1 := Lib.hid hR1
  have HB2 := Lib.hid (HB1.out.trans (hb2.mono HB1.out.size))
  have q0 := HC.out w2 hb2 0
  have q1 := HC.out w2 hb2 1
  have q2 := HC.out w2 hb2 2
  have q3 := HC.out w2 hb2 3
  have q4 := HC.out w2 hb2 4
  have hgl : w.heap.size < w2.heap.size := Nat.lt_of_lt_of_le hg hb2.size
  clear hb2 hR1 q5 HTS HC
  have hpt := hf.path hkd
  have HQ := Lib.hid fun w => lxQuote x.s w (by have := hnum.1; omega)
  have HE := Lib.hid (show quoteS x.s = ofB tx by
    rw [HTX.out, hkd, quoteS, if_pos hpt]
    exact ba_ext (by simp [textK, leafT, ofB]))
  rw [HE.out] at HQ
  clear HTX hpt HE
  go_wp2_with fail
  refine (HQ.out w2).mono ?_
  rintro r w3 ⟨rfl, hb3⟩
  have HB3 := Lib.hid (HB2.out.trans (hb3.mono HB2.out.size))
  clear hb3
  go_wp2_with fail
  go_ret
  exact ⟨rfl, HB3.out⟩

end
set_option maxRecDepth 100000 in
set_option maxHeartbeats 4000000 in
theorem shText : ∀ x : Ex, okX x → (∀ p ∈ partsX x, NumP p) → sizeX x ≤ 1000 → TxP x := by
  refine size_ind fun x ih hx hp hs A ca B cb w hr ht => ?_
  have hf := hx.part
  have hsx := sizeX_eq x
  have hmem : ∀ i, i < x.subs.length → subX x i ∈ x.subs := fun i hi => subX_mem hi
  have hpsub : ∀ y ∈ x.subs, ∀ p ∈ partsX y, NumP p := fun y hy p hp' => hp p (by rw [partsX_eq]; exact List.mem_cons_of_mem _ (parts_of_mem hy hp'))
  have hlen : ∀ y ∈ x.subs, (textL y).length ≤ 1300 * sizeX y := fun y hy => text_len y (hx.sub hy) (hpsub y hy)
  have hlen2 : ∀ y ∈ x.subs, (textL y).length ≤ 1300000 := fun y hy => by have h1 := hlen y hy; have h2 := sizes_mem hy; omega
  have hih : ∀ i, i < x.subs.length → TxP (x.subs[i]?.getD default) := fun i hi => ih i hi (hx.sub (hmem i hi)) (hpsub _ (hmem i hi)) (by have := sizes_mem (hmem i hi); omega)
  have hsl := sizes_len x.subs
  have H : ShH x A ca B cb w := ⟨hr, hf, hp x (by rw [partsX_eq]; exact List.mem_cons_self), ht, by omega, hlen2, by have := lens_subs x.subs hlen; omega, fun w1 h => shTexts x.subs B x.subs.length cb w1 (hr.subs.below h) (ht.below h) (by omega) hih⟩
  have h1 := hf.k1
  have h17 := hf.k17
  obtain h | h | h | h | h | h | h | h | h | h | h | h | h | h | h | h | h : x.k = 1 ∨ x.k = 2 ∨ x.k = 3 ∨ x.k = 4 ∨ x.k = 5 ∨ x.k = 6 ∨ x.k = 7 ∨ x.k = 8 ∨ x.k = 9 ∨ x.k = 10 ∨ x.k = 11 ∨ x.k = 12 ∨ x.k = 13 ∨ x.k = 14 ∨ x.k = 15 ∨ x.k = 16 ∨ x.k = 17 := by omega
  · exact text_1 H h
  · exact text_2 H h
  · exact text_3 H h
  · exact text_4 H h
  · exact text_5 H h
  · exact text_6 H h
  · exact text_7 H h
  · exact text_8 H h
  · exact text_9 H h
  · exact text_10 H h
  · exact text_11 H h
  · exact text_12 H h
  · exact text_13 H h
  · exact text_14 H h
  · exact text_15 H h
  · exact text_16 H h
  · exact text_17 H h
end Go.Proofs.YtijbahdpblopjaaDoor

namespace Go.Proofs.YtijbahdpblopjaaDoor
open Go.RowKit Go.Sort
set_option linter.unusedVariables false
set_option linter.unusedSimpArgs false

set_option maxRecDepth 100000 in
set_option maxHeartbeats 2000000 in
theorem shExpr (x : Ex) (A : Option Addr) (ca : Nat) (B : Option Addr) (cb : Nat) (w : World) (hr : rdX w x A B) (hs : sizeX x ≤ 1000000) (hsh : ∀ p ∈ partsX x, ShortP p) (hn : ∀ p ∈ partsX x, NumP p) (ht : Tab w) :
    Calls Tryd.prog 10 #[.agg (exA x A ca B cb)] w fun e w' => e = .returned (.string (textS x)) ∧ Below w.heap.size w w' := by
  have HF := Lib.hid fun w1 h => box_facts w x A ca B cb w1 h hr
  have HRT := Lib.hid fun w1 (h : Below w.heap.size w w1) => exRight x A ca B cb w1 (hr.below h) hs hsh
  have HTX := Lib.hid fun (hx : rightX x = true) w1 (h : Below w.heap.size w w1) => shText x (right_ok hx) hn (by have := right_size hx; omega) A ca B cb w1 (hr.below h) (ht.below h)
  have HS := Lib.hid (show textS x = if rightX x = true then ofB (textL x) else ⟨#[]⟩ from rfl)
  clear hr hsh hn ht
  unfold exA at HF HRT HTX ⊢
  generalize textS x = ts at *
  generalize rightX x = rx at *
  cases rx with
  | false =>
    have HE := Lib.hid (show (⟨#[]⟩ : ByteArray) = ts by rw [HS.out]; rfl)
    go_enter Tryd.func10, Tryd.ntmps10
    go_upto_region 1 with (fail)
    generalize hw1 : w.alloc _ = w1
    obtain ⟨hb1, hg, hr1, hcell⟩ := HF.out w1 hw1
    have HB1 := Lib.hid hb1
    have HC := Lib.hid hcell
    have q0 := hcell w1 (Below.refl _ _) 0
    have q1 := hcell w1 (Below.refl _ _) 1
    have q2 := hcell w1 (Below.refl _ _) 2
    have q3 := hcell w1 (Below.refl _ _) 3
    have q4 := hcell w1 (Below.refl _ _) 4
    have q5 := hcell w1 (Below.refl _ _) 5
    clear hcell hb1 hr1 hw1 HF
    go_wp2_with fail
    refine (HRT.out w1 HB1.out).mono ?_
    rintro r w2 ⟨rfl, hb⟩
    have HB2 := Lib.hid (HB1.out.trans (hb.mono HB1.out.size))
    clear hb
    go_wp2_with fail
    go_ret
    exact ⟨ret_str HE.out, HB2.out⟩
  | true =>
    have HE := Lib.hid (show ofB (textL x) = ts by rw [HS.out]; rfl)
    go_enter Tryd.func10, Tryd.ntmps10
    go_upto_region 1 with (fail)
    generalize hw1 : w.alloc _ = w1
    obtain ⟨hb1, hg, hr1, hcell⟩ := HF.out w1 hw1
    have HB1 := Lib.hid hb1
    have HC := Lib.hid hcell
    have q0 := hcell w1 (Below.refl _ _) 0
    have q1 := hcell w1 (Below.refl _ _) 1
    have q2 := hcell w1 (Below.refl _ _) 2
    have q3 := hcell w1 (Below.refl _ _) 3
    have q4 := hcell w1 (Below.refl _ _) 4
    have q5 := hcell w1 (Below.refl _ _) 5
    clear hcell hb1 hr1 hw1 HF
    go_wp2_with fail
    refine (HRT.out w1 HB1.out).mono ?_
    rintro r w2 ⟨rfl, hb⟩
    have HB2 := Lib.hid (HB1.out.trans (hb.mono HB1.out.size))
    have HW2 := Lib.hid hb
    clear hb q0 q1 q2 q3 q4 q5
    have q0 := HC.out w2 HW2.out 0
    have q1 := HC.out w2 HW2.out 1
    have q2 := HC.out w2 HW2.out 2
    have q3 := HC.out w2 HW2.out 3
    have q4 := HC.out w2 HW2.out 4
    have q5 := HC.out w2 HW2.out 5
    go_wp2_with fail
    refine (HTX.out (by first | trivial | rfl) w2 HB2.out).mono ?_
    rintro r w3 ⟨rfl, hb⟩
    have HB3 := Lib.hid (HB2.out.trans (hb.mono HB2.out.size))
    clear hb
    go_wp2_with fail
    go_ret
    exact ⟨ret_str HE.out, HB3.out⟩

def livA : Ex := .mk 3 0 ⟨#[97]⟩ 0 [] []
def livN : Ex := .mk 1 1 ⟨#[]⟩ 0 [] []
def livM : Ex := .mk 5 0 ⟨#[]⟩ 1 [] [livN]
def livX : Ex := .mk 6 0 ⟨#[]⟩ 3 [] [livA, livM]
theorem livX_right : rightX livX = true := by decide +kernel
theorem livX_parts : partsX livX = [livX, livA, livM, livN] := rfl
theorem livX_short : ∀ p ∈ partsX livX, ShortP p := by
  intro p hp
  rw [livX_parts] at hp
  simp only [List.mem_cons, List.not_mem_nil, or_false] at hp
  rcases hp with hp | hp | hp | hp <;> rw [hp] <;> unfold ShortP <;> refine ⟨by decide, ?_, by decide⟩ <;> intro t ht <;> simp [livX, livA, livM, livN, Ex.arms] at ht
theorem livX_num : ∀ p ∈ partsX livX, NumP p := by
  intro p hp
  rw [livX_parts] at hp
  simp only [List.mem_cons, List.not_mem_nil, or_false] at hp
  rcases hp with hp | hp | hp | hp <;> rw [hp] <;> exact ⟨by decide, by decide, by decide⟩
theorem livX_text : textS livX = ⟨#[40, 97, 32, 43, 32, 40, 45, 49, 41, 41]⟩ := by
  unfold textS
  rw [if_pos livX_right]
  exact ba_ext (by rw [ofB_data]; simp [livX, livM, livA, livN, textL, textsL, textK, gT, signL, signsL, leafT, Lib.itoa, Lib.decDigits_one])

abbrev livC (B : Option Addr) : Array Value := #[.int .i64 6, .int .i64 0, .string ⟨#[]⟩, .int .i64 3, .slice none 0 0, .slice B 2 2]
theorem livC_eq (B : Option Addr) : exA livX none 0 B 2 = livC B := rfl
abbrev livS1 : Array Value := #[.int .i64 1, .int .i64 1, .string ⟨#[]⟩, .int .i64 0, .slice none 0 0, .slice none 0 0]
abbrev livS2 (g : Nat) : Array Value := #[.int .i64 5, .int .i64 0, .string ⟨#[]⟩, .int .i64 1, .slice none 0 0, .slice (some ⟨g, 0, none⟩) 1 1]
abbrev livS3 (g : Nat) : Array Value := #[.int .i64 3, .int .i64 0, .string ⟨#[97]⟩, .int .i64 0, .slice none 0 0, .slice none 0 0, .int .i64 5, .int .i64 0, .string ⟨#[]⟩, .int .i64 1, .slice none 0 0, .slice (some ⟨g, 0, none⟩) 1 1]

theorem liv_facts (w w1 : World) (h : (w.alloc (.cells livS1 28)).alloc (.cells (livS2 w.heap.size) 28) = w1) :
    Below w.heap.size w w1 ∧ w1.heap.size = w.heap.size + 2 ∧ (∀ j, w1.cell? ⟨w.heap.size + 1, j, none⟩ = (livS2 w.heap.size)[j]?) ∧
      ∀ w2, w1.alloc (.cells (livS3 w.heap.size) 28) = w2 → Below w.heap.size w w2 ∧ rdX w2 livX none (some ⟨w1.heap.size, 0, none⟩) := by
  subst h
  have hb1 : Below w.heap.size w ((w.alloc (.cells livS1 28)).alloc (.cells (livS2 w.heap.size) 28)) := ((Below.refl _ _).alloc (Nat.le_refl _) _).alloc (by simp) _
  refine ⟨hb1, by simp, fun j => ?_, fun w2 h2 => ?_⟩
  · have := World.cell?_alloc_new (w.alloc (.cells livS1 28)) (livS2 w.heap.size) 28 j
    rwa [World.size_alloc] at this
  subst h2
  generalize hg : w.heap.size = g at *
  have hc1 : ∀ j, (w.alloc (.cells livS1 28)).cell? ⟨g, j, none⟩ = livS1[j]? := fun j => by rw [← hg]; exact World.cell?_alloc_new w _ _ j
  have hc2 : ∀ j, ((w.alloc (.cells livS1 28)).alloc (.cells (livS2 g) 28)).cell? ⟨g, j, none⟩ = livS1[j]? := fun j => by
    rw [World.cell?_alloc_lt _ _ _ (by simp; omega)]
    exact hc1 j
  generalize hw1 : (w.alloc (.cells livS1 28)).alloc (.cells (livS2 g) 28) = w1 at *
  have hg1 : g < w1.heap.size := by rw [← hw1]; simp; omega
  have hc3 : ∀ j, (w1.alloc (.cells (livS3 g) 28)).cell? ⟨g, j, none⟩ = livS1[j]? := fun j => by
    rw [World.cell?_alloc_lt _ _ _ hg1]
    exact hc2 j
  have hc4 : ∀ j, (w1.alloc (.cells (livS3 g) 28)).cell? ⟨w1.heap.size, j, none⟩ = (livS3 g)[j]? := fun j => World.cell?_alloc_new w1 _ _ j
  have hbs := hb1.size
  refine ⟨hb1.alloc (by omega) _, ?_⟩
  · generalize w1.alloc (.cells (livS3 g) 28) = w2 at *
    have hgl : g < w2.heap.size := World.block_lt_of_cell? w2 ⟨g, 0, none⟩ ((hc3 0).trans rfl)
    have hgl2 : w1.heap.size < w2.heap.size := World.block_lt_of_cell? w2 ⟨w1.heap.size, 0, none⟩ ((hc4 0).trans rfl)
    have hnil : ∀ k n s op, rdX w2 (.mk k n s op [] []) none none := fun k n s op => by
      rw [rdX_eq]
      exact ⟨RdT.nil_ _, RdX.nil_ _⟩
    have hm : rdX w2 livM none (some ⟨g, 0, none⟩) := by
      rw [rdX_eq]
      refine ⟨RdT.nil_ _, rfl, by show (1 : Nat) ≤ _; omega, fun _ => ⟨_, _, rfl, hgl, ?_⟩⟩
      simp only [Ex.subs, livM, rdXs]
      refine ⟨⟨none, 0, none, 0, fun j v hj => ?_, hnil _ _ _ _⟩, trivial⟩
      rw [Nat.zero_add, hc3]
      match j, hj with
      | 0, hj | 1, hj | 2, hj | 3, hj | 4, hj | 5, hj => exact hj
    rw [rdX_eq]
    refine ⟨RdT.nil_ _, rfl, by show (2 : Nat) ≤ _; omega, fun _ => ⟨_, _, rfl, hgl2, ?_⟩⟩
    simp only [Ex.subs, livX, rdXs]
    refine ⟨⟨none, 0, none, 0, fun j v hj => ?_, hnil _ _ _ _⟩, ⟨none, 0, some ⟨g, 0, none⟩, 1, fun j v hj => ?_, hm⟩, trivial⟩
    · rw [hc4]
      match j, hj with
      | 0, hj | 1, hj | 2, hj | 3, hj | 4, hj | 5, hj => exact hj
    · rw [hc4]
      match j, hj with
      | 0, hj | 1, hj | 2, hj | 3, hj | 4, hj | 5, hj => exact hj

set_option maxRecDepth 100000 in
set_option maxHeartbeats 2000000 in
theorem live_any (w : World) (hTab : Tab w) : Calls Tryd.prog 5 #[] w fun e w' => e = .returned (.bool true) ∧ Below w.heap.size w w' := by
  have HF := Lib.hid (liv_facts w)
  have HTB := Lib.hid hTab
  clear hTab
  have HX := Lib.hid fun B W h1 h3 => shExpr livX none 0 B 2 W h1 (by decide) livX_short livX_num h3
  simp only [livC_eq, livX_text] at HX
  go_enter Tryd.func5, Tryd.ntmps5
  go_upto_region 2 with (fail)
  generalize hw1 : (w.alloc _).alloc _ = w1
  obtain ⟨hb1, hs1, hcell, hnx⟩ := HF.out w1 hw1
  have q0 := hcell 0
  have q1 := hcell 1
  have q2 := hcell 2
  have q3 := hcell 3
  have q4 := hcell 4
  have q5 := hcell 5
  have HNX := Lib.hid (hnx _ rfl)
  have HXX := Lib.hid (HX.out (some ⟨w1.heap.size, 0, none⟩) _ (hnx _ rfl).2 (HTB.out.below (hnx _ rfl).1))
  have HB2 := Lib.hid (hnx _ rfl).1
  clear hw1 hb1 hcell hnx HF HX HNX hs1
  go_wp2_with fail
  refine HXX.out.mono ?_
  rintro r w3 ⟨rfl, hb⟩
  have HB3 := Lib.hid (HB2.out.trans (hb.mono HB2.out.size))
  clear hb
  go_wp2_with fail
  go_ret
  exact ⟨rfl, HB3.out⟩
end Go.Proofs.YtijbahdpblopjaaDoor
