/- What the document's mark and path return. Conditions: of path, that the text has at most 1000 bytes. -/
import Derived.Test.YtkgeigckekccgaaDoorLxJ
import Derived.Test.YtkgeigckekccgaaDoorIdJ
import Derived.StillTailTactics
namespace Go.Proofs.YtkgeigckekccgaaDoor
open Go.RowKit Go.Sort
set_option linter.unusedVariables false

/-! ### mark -/
def oneS : ByteArray := ⟨#[40, 41, 123, 125, 91, 93, 44, 59, 58, 61, 60, 62, 43, 45, 42, 47]⟩
theorem one_at (k : Nat) (h : k < oneS.size) : marksL.drop (5 + k) = [oneS[k]'h] :: marksL.drop (5 + (k + 1)) := by
  have h16 : k < 16 := h
  have hk : k = 0 ∨ k = 1 ∨ k = 2 ∨ k = 3 ∨ k = 4 ∨ k = 5 ∨ k = 6 ∨ k = 7 ∨ k = 8 ∨ k = 9 ∨ k = 10 ∨ k = 11 ∨ k = 12 ∨ k = 13 ∨ k = 14 ∨ k = 15 := by omega
  rcases hk with rfl | rfl | rfl | rfl | rfl | rfl | rfl | rfl | rfl | rfl | rfl | rfl | rfl | rfl | rfl | rfl
  all_goals rfl
theorem ext_single {s : ByteArray} {k : Nat} (h : k < s.size) : s.extract k (k + 1) = ofL [s[k]'h] := by
  refine eq_ofL ?_
  rw [Lib.extract_data, drop_at h, show k + 1 - k = 1 by omega]
  rfl
theorem two_at (k : Nat) (h : k < 5) : ∃ m : List UInt8, m.length = 2 ∧ marksL.drop k = m :: marksL.drop (k + 1) ∧
    (#[Value.string ⟨#[58, 61]⟩, .string ⟨#[45, 62]⟩, .string ⟨#[60, 61]⟩, .string ⟨#[62, 61]⟩, .string ⟨#[60, 62]⟩] : Array Value)[k]? = some (.string (ofL m)) := by
  match k, h with
  | 0, _ => exact ⟨_, rfl, rfl, rfl⟩
  | 1, _ => exact ⟨_, rfl, rfl, rfl⟩
  | 2, _ => exact ⟨_, rfl, rfl, rfl⟩
  | 3, _ => exact ⟨_, rfl, rfl, rfl⟩
  | 4, _ => exact ⟨_, rfl, rfl, rfl⟩
theorem pre_short {m l : List UInt8} (h : l.length < m.length) : m.isPrefixOf l = false := by
  cases hp : m.isPrefixOf l with
  | false => rfl
  | true =>
    rw [List.isPrefixOf_iff_prefix] at hp
    have := hp.length_le
    omega
theorem pre_take {m l : List UInt8} (h : m.length ≤ l.length) : m.isPrefixOf l = (l.take m.length == m) := by
  rw [Bool.eq_iff_iff, List.isPrefixOf_iff_prefix, List.prefix_iff_eq_take, beq_iff_eq]
  exact eq_comm
theorem ret_str {a b : ByteArray} (h : a = b) : Ending.returned (.string a) = .returned (.string b) := by rw [h]
/-- What mark tells. -/
def markAns (s : ByteArray) : ByteArray := ofL ((markL s.data.toList).getD [])

set_option maxRecDepth 100000 in
set_option maxHeartbeats 4000000 in
theorem rxMark (s : ByteArray) (w : World) (hs : s.size ≤ 9223372036854775806) (h0 : 0 < s.size) :
    Calls Tryd.prog 35 #[.string s] w fun e w' => e = .returned (.string (markAns s)) ∧ Below w.heap.size w w' := by
  have HB0 : Hid (Below w.heap.size w (w.alloc (.cells #[.string ⟨#[58, 61]⟩, .string ⟨#[45, 62]⟩, .string ⟨#[60, 61]⟩, .string ⟨#[62, 61]⟩, .string ⟨#[60, 62]⟩] 9))) := Lib.hid ((Below.refl _ _).alloc (Nat.le_refl _) _)
  have HC0 : Hid (∀ k, (w.alloc (.cells #[.string ⟨#[58, 61]⟩, .string ⟨#[45, 62]⟩, .string ⟨#[60, 61]⟩, .string ⟨#[62, 61]⟩, .string ⟨#[60, 62]⟩] 9)).cell? ⟨w.heap.size, k, none⟩ = (#[Value.string ⟨#[58, 61]⟩, .string ⟨#[45, 62]⟩, .string ⟨#[60, 61]⟩, .string ⟨#[62, 61]⟩, .string ⟨#[60, 62]⟩] : Array Value)[k]?) := Lib.hid (fun k => World.cell?_alloc_new (w := w) _ _ k)
  go_enter Tryd.func35, Tryd.ntmps35
  go_upto_region 2 with (fail)
  generalize (w.alloc (.cells #[.string ⟨#[58, 61]⟩, .string ⟨#[45, 62]⟩, .string ⟨#[60, 61]⟩, .string ⟨#[62, 61]⟩, .string ⟨#[60, 62]⟩] 9)) = w1 at *
  go_wp2_with fail
  go_loopw [4] (fun i wr => ∃ k : Nat, k ≤ 5 ∧ i = .int .i64 k ∧ markL s.data.toList = (marksL.drop k).find? (fun m => m.isPrefixOf s.data.toList) ∧ ∃ m, wr = w1.drewN m) (fun i _ => 5 - (intOf i).toNat)
  case atStart => exact ⟨0, by omega, rfl, rfl, 0, rfl⟩
  case round =>
    obtain ⟨k, hk, rfl, hrel, nd, rfl⟩ := hrel
    have HR := Lib.hid hrel
    clear hrel
    by_cases hlt : k < 5
    · obtain ⟨m, hm2, hml, hmc⟩ := two_at k hlt
      have hcell : w1.cell? ⟨w.heap.size, k, none⟩ = some (.string (ofL m)) := (HC0.out k).trans hmc
      have hcd : (w1.drewN nd).cell? ⟨w.heap.size, k, none⟩ = some (.string (ofL m)) := hcell
      have HML := Lib.hid hml
      have hmz : (ofL m).size = 2 := hm2
      clear hml hmc
      by_cases h2 : 2 ≤ s.size
      · have hd2 : decide (2 ≤ (s.size : Int)) = true := decide_eq_true (by omega)
        have hpx : m.isPrefixOf s.data.toList = ((s.extract 0 2).toList == (ofL m).toList) := by
          rw [pre_take (by rw [hm2, ← Lib.size_eq]; exact h2), hm2, Lib.toList_data, Lib.toList_data, ext_list]
          rfl
        cases hb : ((s.extract 0 2).toList == (ofL m).toList) with
        | true =>
          rw [hb] at hpx
          have HE := Lib.hid (show ofL m = markAns s by unfold markAns; rw [HR.out, HML.out, List.find?_cons_of_pos (by exact hpx)]; rfl)
          clear hpx
          go_wp2_with fail
          go_quiet (fail)
          go_wp2_with fail
          go_ret
          exact ⟨ret_str HE.out, below_drewN HB0.out _⟩
        | false =>
          rw [hb] at hpx
          have HE := Lib.hid (show markL s.data.toList = (marksL.drop (k + 1)).find? (fun m => m.isPrefixOf s.data.toList) by
            rw [HR.out, HML.out, List.find?_cons_of_neg (by show ¬ m.isPrefixOf s.data.toList = true; rw [hpx]; simp)])
          clear hpx
          go_wp2_with fail
          go_quiet (fail)
          go_wp2_with fail
          go_roundw
          case rel => exact ⟨k + 1, by omega, by go_num, HE.out, _, rfl⟩
          case measure => simp [intOf]; omega
      · have hd2 : decide (2 ≤ (s.size : Int)) = false := decide_eq_false (by omega)
        have hpx : m.isPrefixOf s.data.toList = false := pre_short (by rw [hm2, ← Lib.size_eq]; omega)
        have HE := Lib.hid (show markL s.data.toList = (marksL.drop (k + 1)).find? (fun m => m.isPrefixOf s.data.toList) by
            rw [HR.out, HML.out, List.find?_cons_of_neg (by show ¬ m.isPrefixOf s.data.toList = true; rw [hpx]; simp)])
        clear hpx
        go_wp2_with fail
        go_quiet (fail)
        go_wp2_with fail
        go_roundw
        case rel => exact ⟨k + 1, by omega, by go_num, HE.out, _, rfl⟩
        case measure => simp [intOf]; omega
    · obtain rfl : k = 5 := by omega
      have HON := Lib.hid one_at
      have hon : oneS.size = 16 := rfl
      go_wp2_with fail
      rw [show (⟨#[40, 41, 123, 125, 91, 93, 44, 59, 58, 61, 60, 62, 43, 45, 42, 47]⟩ : ByteArray) = oneS from rfl]
      generalize oneS = on at *
      go_loopw [6] (fun i wr => ∃ k : Nat, k ≤ 16 ∧ i = .int .i64 k ∧ markL s.data.toList = (marksL.drop (5 + k)).find? (fun m => m.isPrefixOf s.data.toList) ∧ ∃ m, wr = w1.drewN m) (fun i _ => 16 - (intOf i).toNat)
      case atStart => exact ⟨0, by omega, rfl, HR.out, _, rfl⟩
      case round =>
        obtain ⟨k, hk, rfl, hrel, nd, rfl⟩ := hrel
        have HR2 := Lib.hid hrel
        clear hrel
        by_cases hlt : k < on.size
        · have HML := Lib.hid (HON.out k hlt)
          obtain ⟨F, hl⟩ := head_at h0
          have hpx : [on[k]'hlt].isPrefixOf s.data.toList = (((s[0]'h0).toNat : Int) == ((on[k]'hlt).toNat : Int)) := by
            rw [hl, Bool.eq_iff_iff]
            simp only [List.isPrefixOf_cons_cons, List.isPrefixOf_nil_left, Bool.and_true, beq_iff_eq]
            constructor
            · intro e; rw [e]
            · intro e; exact UInt8.toNat_inj.1 (by omega)
          have hsx := ext_single hlt
          clear hl
          cases hb : (((s[0]'h0).toNat : Int) == ((on[k]'hlt).toNat : Int)) with
          | true =>
            rw [hb] at hpx
            have HE := Lib.hid (show ofL [on[k]'hlt] = markAns s by unfold markAns; rw [HR2.out, HML.out, List.find?_cons_of_pos (by exact hpx)]; rfl)
            clear hpx
            go_wp2_with fail
            go_quiet (fail)
            go_wp2_with fail
            go_ret
            exact ⟨ret_str HE.out, below_drewN HB0.out _⟩
          | false =>
            rw [hb] at hpx
            have HE := Lib.hid (show markL s.data.toList = (marksL.drop (5 + (k + 1))).find? (fun m => m.isPrefixOf s.data.toList) by
              rw [HR2.out, HML.out, List.find?_cons_of_neg (by show ¬ [on[k]'hlt].isPrefixOf s.data.toList = true; rw [hpx]; simp)])
            clear hpx
            go_wp2_with fail
            go_quiet (fail)
            go_wp2_with fail
            go_roundw
            case rel => exact ⟨k + 1, by omega, by go_num, HE.out, _, rfl⟩
            case measure => simp [intOf]; omega
        · obtain rfl : k = 16 := by omega
          have HE := Lib.hid (show (⟨#[]⟩ : ByteArray) = markAns s by unfold markAns; rw [HR2.out]; rfl)
          go_wp2_with fail
          go_ret
          exact ⟨ret_str HE.out, below_drewN HB0.out _⟩

/-! ### path: s has a quote at place p -/

/-- What path tells: the token that is one, or not, the place behind it, and whether it is. -/
def PathAns (s : ByteArray) (p : Nat) (e : Ending) : Prop := ∃ (t : Tk) (q : Int) (b : Bool), e = .returned (.tuple #[tkV t, .int .i64 q, .bool b]) ∧
  match pathT (s.data.toList.drop (p + 1)) with
  | none => b = false
  | some (u, z) => b = true ∧ t = { u with a := p } ∧ q = ((p + z : Nat) : Int)

theorem quot_none {s : ByteArray} {p : Nat} (H : PieceAll (fun c => c != 39) s (p + 1) s.size) : pathT (s.data.toList.drop (p + 1)) = none := by
  have h1 : quotL (s.data.toList.drop (p + 1)) = pieceL s (p + 1) s.size := H.stop (.inl rfl)
  have h2 := piece_len H.1 H.2.1
  unfold pathT
  rw [h1, if_neg]
  rintro ⟨h3, _⟩
  rw [h2, List.length_drop, ← Lib.size_eq] at h3
  omega
theorem quot_some {s : ByteArray} {p j : Nat} (H : PieceAll (fun c => c != 39) s (p + 1) j) (h : j < s.size) (hc : s[j]'h = 39) :
    pathT (s.data.toList.drop (p + 1)) = if pathB (pieceL s (p + 1) j) = true then some (⟨4, pieceL s (p + 1) j, 0, 0⟩, j - (p + 1) + 2) else none := by
  have h1 : quotL (s.data.toList.drop (p + 1)) = pieceL s (p + 1) j := H.stop (.inr ⟨h, by rw [hc]; decide⟩)
  have h2 := piece_len H.1 H.2.1
  unfold pathT
  rw [h1, h2]
  have h3 : j - (p + 1) < (s.data.toList.drop (p + 1)).length := by rw [List.length_drop, ← Lib.size_eq]; have := H.1; omega
  simp only [h3, true_and]

set_option maxRecDepth 100000 in
set_option maxHeartbeats 4000000 in
theorem rxPath (s : ByteArray) (p : Nat) (w : World) (hs : s.size ≤ 1000) (hp : p < s.size) :
    Calls Tryd.prog 28 #[.string s, .int .i64 (p : Int)] w fun e w' => PathAns s p e ∧ Below w.heap.size w w' := by
  have HG0 : Hid (Row4 42 (w.alloc (.cells #[.int .i64 0, .string ⟨#[]⟩, .int .i64 0, .int .i64 0] 42)) w.heap.size tk0) := Lib.hid (Row4.new _ w tk0)
  have HB0 : Hid (Below w.heap.size w (w.alloc (.cells #[.int .i64 0, .string ⟨#[]⟩, .int .i64 0, .int .i64 0] 42))) := Lib.hid ((Below.refl _ _).alloc (Nat.le_refl _) _)
  go_enter Tryd.func28, Tryd.ntmps28
  go_upto_region 1 with (fail)
  generalize (w.alloc (.cells #[.int .i64 0, .string ⟨#[]⟩, .int .i64 0, .int .i64 0] 42)) = w1 at *
  go_wp2_with fail
  go_loop [7] (fun i => ∃ j : Nat, i = .int .i64 j ∧ PieceAll (fun c => c != 39) s (p + 1) j) (fun i => s.size - (intOf i).toNat)
  case atStart => exact ⟨p + 1, by go_num, PieceAll.start (by omega)⟩
  case round =>
    obtain ⟨j, rfl, hrel⟩ := hrel
    have HR := Lib.hid hrel
    have hpj := hrel.1
    have hj := hrel.2.1
    clear hrel
    by_cases hlt : j < s.size
    · by_cases hq : s[j]'hlt = 39
      · have hx : (((s[j]'hlt).toNat : Int) == 39) = true := by rw [hq]; rfl
        have HP := Lib.hid (quot_some HR.out hlt hq)
        have hpx := piece_ext hpj hj
        have HC := Lib.hid (refPath (ofL (pieceL s (p + 1) j)))
        rw [ofL_list] at HC
        have hpl := piece_len hpj hj
        have hz : (ofL (pieceL s (p + 1) j)).size ≤ 1000 := by rw [ofL_size, hpl]; omega
        generalize pieceL s (p + 1) j = l at *
        clear hq
        cases hb : pathB l with
        | true =>
          rw [hb] at HP HC
          go_wp2_with fail
          refine (HC.out _ hz).mono ?_
          rintro e w2 ⟨rfl, hb2⟩
          have HG2 := Lib.hid (HG0.out.below hb2)
          have HB2 := Lib.hid (HB0.out.trans (hb2.mono HB0.out.size))
          clear hb2 hb
          go_wp2_with (refine wpList_store_row rfl _ _ _ rfl w.heap.size _ rfl rfl _ _ HG2.out tr_info rfl (by simp [Value.oneCell']) ?_)
          exact bodyPost_ret (res_tr3 (p := 4) (u := 5) (v := 6) rfl _ _ w.heap.size ⟨4, l, 0, p⟩ rfl (HG2.out.set ⟨4, l, 0, p⟩)) rfl ⟨⟨_, _, _, rfl, by rw [HP.out]; exact ⟨rfl, rfl, by omega⟩⟩, below_setRow HB2.out (Nat.le_refl _) _⟩
        | false =>
          rw [hb] at HP HC
          go_wp2_with fail
          refine (HC.out _ hz).mono ?_
          rintro e w2 ⟨rfl, hb2⟩
          have HG2 := Lib.hid (HG0.out.below hb2)
          have HB2 := Lib.hid (HB0.out.trans (hb2.mono HB0.out.size))
          clear hb2 hb
          go_wp2_with (refine wpList_store_row rfl _ _ _ rfl w.heap.size _ rfl rfl _ _ HG2.out tr_info rfl (by simp [Value.oneCell']) ?_)
          exact bodyPost_ret (res_tr3 (p := 4) (u := 5) (v := 6) rfl _ _ w.heap.size ⟨4, l, 0, p⟩ rfl (HG2.out.set ⟨4, l, 0, p⟩)) rfl ⟨⟨_, _, _, rfl, by rw [HP.out]; rfl⟩, below_setRow HB2.out (Nat.le_refl _) _⟩
      · have hx : (((s[j]'hlt).toNat : Int) == 39) = false := byte_no 39 39 rfl (by simpa using hq)
        have HN := Lib.hid (HR.out.on hlt (by simpa using hq))
        clear hq
        go_wp2_with fail
        go_round
        case rel => exact ⟨j + 1, by go_num, HN.out⟩
        case measure => simp [intOf]; omega
    · obtain rfl : j = s.size := by omega
      have HP := Lib.hid (quot_none HR.out)
      go_wp2_with (refine wpList_store_row rfl _ _ _ rfl w.heap.size _ rfl rfl _ _ HG0.out tr_info rfl (by simp [Value.oneCell']) ?_)
      exact bodyPost_ret (res_tr3 (p := 4) (u := 5) (v := 6) rfl _ _ w.heap.size tk0 rfl (HG0.out.set tk0)) rfl ⟨⟨_, _, _, rfl, by rw [HP.out]⟩, below_setRow HB0.out (Nat.le_refl _) _⟩
end Go.Proofs.YtkgeigckekccgaaDoor
