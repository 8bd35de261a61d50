/- What the reference's Int, Text and Part of a writer do. Conditions: what is written is less than memory holds. -/
import Derived.Test.YtjihgpjpmfeakaaWrH
namespace Go.Proofs.Ytjihgpjpmfeakaa
open Go.RowKit
set_option linter.unusedVariables false

theorem wNum_some {st : Option (List Int)} {n z : Int} (h : (wNum st n z).isSome = true) : st.isSome = true := by
  cases st with
  | none => cases h
  | some l => rfl

set_option maxHeartbeats 800000 in
theorem rwPart (base b : Nat) (st : Option (List Int)) (g : Option Nat) (A : Option Addr) (m c : Nat) (t : List Int) (k : Nat) (w : World) (h : RwAt w base b st g) (hr : Rd .u8 w A m c t)
    (hA : st.isSome = true → 0 < m → ∀ a, A = some a → some a.block ≠ g) (hs : Short st k) (hk : k + 4 + m ≤ 140737488355328) (hB : base ≤ w.heap.size) :
    Calls Try.prog 30 #[.pointer (some ⟨b, 0, none⟩), .slice A m c] w fun e w' => WroteR w base b (wCount st t 4) g e w' := by
  have HS := Lib.hid (hs.num (m : Int) 4)
  have HN := Lib.hid (rwNum base b st g (m : Int) 4 k w h hs (by omega) hB)
  have HR := Lib.hid (fun (w' : World) (hm : Mine w w' b g) (h1 : (wNum st (m : Int) 4).isSome = true) => hr.mine hm fun h0 a e => ⟨h.off hr h0 a e, hA (wNum_some h1) h0 a e⟩)
  have HE : Hid (wCount st t 4 = wPut (wNum st (m : Int) 4) t) := Lib.hid (by unfold wCount; rw [hr.len])
  clear h hr hs hA
  rw [HE.out]
  go_enter Try.func30, Try.ntmps30
  go_wp2_with fail
  refine HN.out.mono ?_
  rintro e w1 ⟨rfl, g1, hat, hm, hg⟩
  have HM := Lib.hid hm
  have HG := Lib.hid hg
  have HT := Lib.hid hat
  clear hat hm hg
  go_wp2_with fail
  refine (rwBytes base b _ g1 A m c t _ (k + 4) HT.out (HR.out w1 HM.out) HS.out (by omega) (Nat.le_trans hB HM.out.size)).mono ?_
  intro e w2 hw2
  have HW := Lib.hid (hw2.then_ HM.out HG.out)
  obtain rfl := hw2.1
  clear hw2
  go_wp2_with fail
  go_end0
  exact HW.out

theorem Mine.under_size {w w' : World} {b : Nat} {g : Option Nat} (h : Mine w w' b g) : w.heap.size ≤ w'.heap.size := h.size

set_option maxHeartbeats 800000 in
theorem rwText (base b : Nat) (st : Option (List Int)) (g : Option Nat) (s : ByteArray) (k : Nat) (w : World) (h : RwAt w base b st g) (hs : Short st k) (hk : k + 4 + s.size ≤ 140737488355328) (hB : base ≤ w.heap.size) :
    Calls Try.prog 28 #[.pointer (some ⟨b, 0, none⟩), .string s] w fun e w' => WroteR w base b (wCount st (sL s) 2) g e w' := by
  have hcv := run_text s
  have HS := Lib.hid (hs.num (s.size : Int) 2)
  have HN := Lib.hid (rwNum base b st g (s.size : Int) 2 k w h hs (by omega) hB)
  have HE : Hid (wCount st (sL s) 2 = wPut (wNum st (s.size : Int) 2) (sL s)) := Lib.hid (by unfold wCount; rw [sL_len])
  have hsz : s.size ≤ maxLen := by unfold maxLen; omega
  clear h hs
  rw [HE.out]
  go_enter Try.func28, Try.ntmps28
  go_wp2_with fail
  refine HN.out.mono ?_
  rintro e w1 ⟨rfl, g1, hat, hm, hg⟩
  have HM := Lib.hid hm
  have HG := Lib.hid hg
  have HT := Lib.hid hat
  have HB1 := Lib.hid (textRow_below w1 s)
  have HC := Lib.hid (rwBytes base b _ g1 _ _ _ (sL s) (textRow w1 s) (k + 4) (hat.below (textRow_below w1 s)) (fun _ => textRow_rd w1 s hsz) HS.out (by omega) (Nat.le_trans (Nat.le_trans hB hm.size) (textRow_below w1 s).size))
  clear hat hm hg
  go_wp2_with fail
  refine HC.out.mono ?_
  intro e w2 hw2
  have HW := Lib.hid ((hw2.below HB1.out).then_ HM.out HG.out)
  obtain rfl := hw2.1
  clear hw2
  go_wp2_with fail
  go_end0
  exact HW.out

set_option maxHeartbeats 800000 in
theorem rwInt (base b : Nat) (st : Option (List Int)) (g : Option Nat) (n : Int) (k : Nat) (w : World) (h : RwAt w base b st g) (hs : Short st k) (hk : k + 12 ≤ 140737488355328) (hB : base ≤ w.heap.size) (HI : Hid (I64 n)) :
    Calls Try.prog 26 #[.pointer (some ⟨b, 0, none⟩), .int .i64 n] w fun e w' => WroteR w base b (wCount st (putL (u64 n) (wid n)) 1) g e w' := by
  have H := Lib.hid h
  have HS := Lib.hid hs
  have HWd := Lib.hid (wid_bd n)
  clear h hs
  go_enter Try.func26, Try.ntmps26
  go_wp2_with fail
  refine (refInt n _ HI).mono ?_
  rintro e w1 ⟨A1, n1, c1, rfl, hrd, hb, hloc⟩
  have HR := Lib.hid hrd
  have HB := Lib.hid hb
  have hn8 : n1 ≤ 8 := by have h1 := hrd.len; rw [putL_length] at h1; have := HWd.out; omega
  have H1 := Lib.hid (H.out.below hb)
  have hB1 : base ≤ w1.heap.size := Nat.le_trans hB hb.size
  have HN := Lib.hid (rwNum base b st g (n1 : Int) 1 k w1 H1.out HS.out (by omega) hB1)
  have HR2 := Lib.hid (fun (w' : World) (hm : Mine w1 w' b g) (h1 : (wNum st (n1 : Int) 1).isSome = true) => hrd.mine hm fun h0 a e => ⟨H1.out.off hrd h0 a e, H.out.fresh (hloc a e) (wNum_some h1)⟩)
  have HE : Hid (wCount st (putL (u64 n) (wid n)) 1 = wPut (wNum st (n1 : Int) 1) (putL (u64 n) (wid n))) := Lib.hid (by unfold wCount; rw [hrd.len])
  clear hrd hb hloc
  go_wp2_with fail
  refine HN.out.mono ?_
  rintro e w2 ⟨rfl, g1, hat, hm, hg⟩
  have HM := Lib.hid hm
  have HG := Lib.hid hg
  have HT := Lib.hid hat
  clear hat hm hg
  go_wp2_with fail
  refine (rwBytes base b _ g1 A1 n1 c1 _ _ (k + 4) HT.out (HR2.out w2 HM.out) (HS.out.num _ _) (by omega) (Nat.le_trans hB1 HM.out.size)).mono ?_
  intro e w3 hw3
  have HW := Lib.hid ((hw3.then_ HM.out HG.out).below HB.out)
  obtain rfl := hw3.1
  clear hw3
  go_wp2_with fail
  go_end0
  rw [HE.out]
  exact HW.out
end Go.Proofs.Ytjihgpjpmfeakaa
