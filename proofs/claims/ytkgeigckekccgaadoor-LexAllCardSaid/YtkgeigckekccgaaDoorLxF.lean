/- What lex's first returns. Conditions: that the variables lie as laid. -/
import Derived.Test.YtkgeigckekccgaaDoorLxC
namespace Go.Proofs.YtkgeigckekccgaaDoor
open Go.RowKit Go.Sort
set_option linter.unusedVariables false

theorem ext_one {s : ByteArray} (h0 : 0 < s.size) : (s.extract 0 1).toList = [s[0]'h0] := by
  obtain ⟨F, hl⟩ := head_at h0
  rw [Lib.toList_data, ext_list, hl]
  rfl

set_option maxRecDepth 100000 in
set_option maxHeartbeats 2000000 in
theorem lxFirst_name (s : ByteArray) (w : World) (hs : s.size ≤ 281474976710656) (hv : Vars w) (h0 : 0 < s.size) (h1 : letB ((s[0]'h0).toNat : Int) = true) :
    Calls Tryd.prog 14 #[.string s] w fun e w' => e = .returned (tkR (tokL s.data.toList)) ∧ Below w.heap.size w w' := by
  obtain ⟨F, hl⟩ := head_at h0
  have HT : Hid (tokL s.data.toList = nameT s.data.toList) := Lib.hid (by rw [hl, tok_cons, if_pos h1])
  have h01 : 1 ≤ s.size := h0
  have HV := Lib.hid hv
  clear hv hl
  rw [HT.out]
  have HC : Hid (∀ w, Vars w → Calls Tryd.prog 23 #[.string s] w fun e w' => e = .returned (tkR (nameT s.data.toList)) ∧ Below w.heap.size w w') := Lib.hid (fun w hv => lxName s w (by omega))
  generalize nameT s.data.toList = o at HC ⊢
  clear HT
  cases o with
  | none =>
    simp only [tkR, tkV, tkA, tk0] at HC ⊢
    have HG0 : Hid (Row4 35 (w.alloc (.cells #[.int .i64 0, .string ⟨#[]⟩, .int .i64 0, .int .i64 0] 35)) w.heap.size tk0) := Lib.hid (Row4.new _ w tk0)
    have HB0 : Hid (Below w.heap.size w (w.alloc (.cells #[.int .i64 0, .string ⟨#[]⟩, .int .i64 0, .int .i64 0] 35))) := Lib.hid ((Below.refl _ _).alloc (Nat.le_refl _) _)
    go_enter Tryd.func14, Tryd.ntmps14
    go_upto_region 1 with (fail)
    have HV1 := Lib.hid (HV.out.below HB0.out)
    generalize (w.alloc (.cells #[.int .i64 0, .string ⟨#[]⟩, .int .i64 0, .int .i64 0] 35)) = w1 at *
    clear HV
    go_wp2_with fail
    refine (lxLetter _ _).mono ?_
    rw [h1]
    rintro e w' ⟨rfl, rfl⟩
    go_wp2_with fail
    refine (HC.out _ HV1.out).mono ?_
    rintro e w2 ⟨rfl, hb⟩
    have HG2 := Lib.hid (HG0.out.below hb)
    have HB2 := Lib.hid (HB0.out.trans (hb.mono HB0.out.size))
    clear hb HV1 HC
    go_wp2_with (refine wpList_store_row rfl _ _ _ rfl w.heap.size _ rfl rfl _ _ HG2.out tk_info rfl (by simp [Value.oneCell']) ?_)
    exact bodyPost_ret (res_tk2 (p := 2) (u := 3) rfl _ _ w.heap.size tk0 rfl (HG2.out.set tk0)) rfl ⟨rfl, below_setRow HB2.out (Nat.le_refl _) _⟩
  | some x =>
    obtain ⟨t, z⟩ := x
    simp only [tkR, tkV, tkA] at HC ⊢
    have HG0 : Hid (Row4 35 (w.alloc (.cells #[.int .i64 0, .string ⟨#[]⟩, .int .i64 0, .int .i64 0] 35)) w.heap.size tk0) := Lib.hid (Row4.new _ w tk0)
    have HB0 : Hid (Below w.heap.size w (w.alloc (.cells #[.int .i64 0, .string ⟨#[]⟩, .int .i64 0, .int .i64 0] 35))) := Lib.hid ((Below.refl _ _).alloc (Nat.le_refl _) _)
    go_enter Tryd.func14, Tryd.ntmps14
    go_upto_region 1 with (fail)
    have HV1 := Lib.hid (HV.out.below HB0.out)
    generalize (w.alloc (.cells #[.int .i64 0, .string ⟨#[]⟩, .int .i64 0, .int .i64 0] 35)) = w1 at *
    clear HV
    go_wp2_with fail
    refine (lxLetter _ _).mono ?_
    rw [h1]
    rintro e w' ⟨rfl, rfl⟩
    go_wp2_with fail
    refine (HC.out _ HV1.out).mono ?_
    rintro e w2 ⟨rfl, hb⟩
    have HG2 := Lib.hid (HG0.out.below hb)
    have HB2 := Lib.hid (HB0.out.trans (hb.mono HB0.out.size))
    clear hb HV1 HC
    go_wp2_with (refine wpList_store_row rfl _ _ _ rfl w.heap.size _ rfl rfl _ _ HG2.out tk_info rfl (by simp [Value.oneCell']) ?_)
    exact bodyPost_ret (res_tk2 (p := 2) (u := 3) rfl _ _ w.heap.size t rfl (HG2.out.set t)) rfl ⟨rfl, below_setRow HB2.out (Nat.le_refl _) _⟩

set_option maxRecDepth 100000 in
set_option maxHeartbeats 2000000 in
theorem lxFirst_number (s : ByteArray) (w : World) (hs : s.size ≤ 281474976710656) (hv : Vars w) (h0 : 0 < s.size) (h1 : letB ((s[0]'h0).toNat : Int) = false) (h2 : digitB ((s[0]'h0).toNat : Int) = true) :
    Calls Tryd.prog 14 #[.string s] w fun e w' => e = .returned (tkR (tokL s.data.toList)) ∧ Below w.heap.size w w' := by
  obtain ⟨F, hl⟩ := head_at h0
  have HT : Hid (tokL s.data.toList = numT s.data.toList) := Lib.hid (by rw [hl, tok_cons, if_neg (by rw [h1]; simp), if_pos h2])
  have h01 : 1 ≤ s.size := h0
  have HD : Hid (digL s.data.toList ≠ []) := Lib.hid (fun e => by have := tw_pos (p := fun c => digitB (c.toNat : Int)) (l := F) h2; rw [← hl] at this; unfold digL at e; rw [e] at this; exact absurd this (by simp))
  have HV := Lib.hid hv
  clear hv hl
  rw [HT.out]
  have HC : Hid (∀ w, Vars w → Calls Tryd.prog 25 #[.string s] w fun e w' => e = .returned (tkR (numT s.data.toList)) ∧ Below w.heap.size w w') := Lib.hid (fun w hv => lxNumber s w hs hv HD.out)
  generalize numT s.data.toList = o at HC ⊢
  clear HT HD
  cases o with
  | none =>
    simp only [tkR, tkV, tkA, tk0] at HC ⊢
    have HG0 : Hid (Row4 35 (w.alloc (.cells #[.int .i64 0, .string ⟨#[]⟩, .int .i64 0, .int .i64 0] 35)) w.heap.size tk0) := Lib.hid (Row4.new _ w tk0)
    have HB0 : Hid (Below w.heap.size w (w.alloc (.cells #[.int .i64 0, .string ⟨#[]⟩, .int .i64 0, .int .i64 0] 35))) := Lib.hid ((Below.refl _ _).alloc (Nat.le_refl _) _)
    go_enter Tryd.func14, Tryd.ntmps14
    go_upto_region 1 with (fail)
    have HV1 := Lib.hid (HV.out.below HB0.out)
    generalize (w.alloc (.cells #[.int .i64 0, .string ⟨#[]⟩, .int .i64 0, .int .i64 0] 35)) = w1 at *
    clear HV
    go_wp2_with fail
    refine (lxLetter _ _).mono ?_
    rw [h1]
    rintro e w' ⟨rfl, rfl⟩
    go_wp2_with fail
    refine (lxDigit _ _).mono ?_
    rw [h2]
    rintro e w' ⟨rfl, rfl⟩
    go_wp2_with fail
    refine (HC.out _ HV1.out).mono ?_
    rintro e w2 ⟨rfl, hb⟩
    have HG2 := Lib.hid (HG0.out.below hb)
    have HB2 := Lib.hid (HB0.out.trans (hb.mono HB0.out.size))
    clear hb HV1 HC
    go_wp2_with (refine wpList_store_row rfl _ _ _ rfl w.heap.size _ rfl rfl _ _ HG2.out tk_info rfl (by simp [Value.oneCell']) ?_)
    exact bodyPost_ret (res_tk2 (p := 2) (u := 3) rfl _ _ w.heap.size tk0 rfl (HG2.out.set tk0)) rfl ⟨rfl, below_setRow HB2.out (Nat.le_refl _) _⟩
  | some x =>
    obtain ⟨t, z⟩ := x
    simp only [tkR, tkV, tkA] at HC ⊢
    have HG0 : Hid (Row4 35 (w.alloc (.cells #[.int .i64 0, .string ⟨#[]⟩, .int .i64 0, .int .i64 0] 35)) w.heap.size tk0) := Lib.hid (Row4.new _ w tk0)
    have HB0 : Hid (Below w.heap.size w (w.alloc (.cells #[.int .i64 0, .string ⟨#[]⟩, .int .i64 0, .int .i64 0] 35))) := Lib.hid ((Below.refl _ _).alloc (Nat.le_refl _) _)
    go_enter Tryd.func14, Tryd.ntmps14
    go_upto_region 1 with (fail)
    have HV1 := Lib.hid (HV.out.below HB0.out)
    generalize (w.alloc (.cells #[.int .i64 0, .string ⟨#[]⟩, .int .i64 0, .int .i64 0] 35)) = w1 at *
    clear HV
    go_wp2_with fail
    refine (lxLetter _ _).mono ?_
    rw [h1]
    rintro e w' ⟨rfl, rfl⟩
    go_wp2_with fail
    refine (lxDigit _ _).mono ?_
    rw [h2]
    rintro e w' ⟨rfl, rfl⟩
    go_wp2_with fail
    refine (HC.out _ HV1.out).mono ?_
    rintro e w2 ⟨rfl, hb⟩
    have HG2 := Lib.hid (HG0.out.below hb)
    have HB2 := Lib.hid (HB0.out.trans (hb.mono HB0.out.size))
    clear hb HV1 HC
    go_wp2_with (refine wpList_store_row rfl _ _ _ rfl w.heap.size _ rfl rfl _ _ HG2.out tk_info rfl (by simp [Value.oneCell']) ?_)
    exact bodyPost_ret (res_tk2 (p := 2) (u := 3) rfl _ _ w.heap.size t rfl (HG2.out.set t)) rfl ⟨rfl, below_setRow HB2.out (Nat.le_refl _) _⟩

set_option maxRecDepth 100000 in
set_option maxHeartbeats 2000000 in
theorem lxFirst_path (s : ByteArray) (w : World) (hs : s.size ≤ 281474976710656) (hv : Vars w) (h0 : 0 < s.size) (h1 : letB ((s[0]'h0).toNat : Int) = false) (h2 : digitB ((s[0]'h0).toNat : Int) = false) (h3 : s[0]'h0 = 39) :
    Calls Tryd.prog 14 #[.string s] w fun e w' => e = .returned (tkR (tokL s.data.toList)) ∧ Below w.heap.size w w' := by
  obtain ⟨F, hl⟩ := head_at h0
  have HT : Hid (tokL s.data.toList = pathT (s.data.toList.drop 1)) := Lib.hid (by rw [hl, tok_cons, if_neg (by rw [h1]; simp), if_neg (by rw [h2]; simp), if_pos h3]; rfl)
  have h01 : 1 ≤ s.size := h0
  have hq : ((s.extract 0 1).toList == [39]) = true := by rw [ext_one h0]; simpa using h3
  clear h3
  have HV := Lib.hid hv
  clear hv hl
  rw [HT.out]
  have HC : Hid (∀ w, Vars w → Calls Tryd.prog 26 #[.string s] w fun e w' => e = .returned (tkR (pathT (s.data.toList.drop 1))) ∧ Below w.heap.size w w') := Lib.hid (fun w hv => lxPath s w hs h0)
  generalize pathT (s.data.toList.drop 1) = o at HC ⊢
  clear HT
  cases o with
  | none =>
    simp only [tkR, tkV, tkA, tk0] at HC ⊢
    have HG0 : Hid (Row4 35 (w.alloc (.cells #[.int .i64 0, .string ⟨#[]⟩, .int .i64 0, .int .i64 0] 35)) w.heap.size tk0) := Lib.hid (Row4.new _ w tk0)
    have HB0 : Hid (Below w.heap.size w (w.alloc (.cells #[.int .i64 0, .string ⟨#[]⟩, .int .i64 0, .int .i64 0] 35))) := Lib.hid ((Below.refl _ _).alloc (Nat.le_refl _) _)
    go_enter Tryd.func14, Tryd.ntmps14
    go_upto_region 1 with (fail)
    have HV1 := Lib.hid (HV.out.below HB0.out)
    generalize (w.alloc (.cells #[.int .i64 0, .string ⟨#[]⟩, .int .i64 0, .int .i64 0] 35)) = w1 at *
    clear HV
    go_wp2_with fail
    refine (lxLetter _ _).mono ?_
    rw [h1]
    rintro e w' ⟨rfl, rfl⟩
    go_wp2_with fail
    refine (lxDigit _ _).mono ?_
    rw [h2]
    rintro e w' ⟨rfl, rfl⟩
    go_wp2_with fail
    refine (HC.out _ HV1.out).mono ?_
    rintro e w2 ⟨rfl, hb⟩
    have HG2 := Lib.hid (HG0.out.below hb)
    have HB2 := Lib.hid (HB0.out.trans (hb.mono HB0.out.size))
    clear hb HV1 HC
    go_wp2_with (refine wpList_store_row rfl _ _ _ rfl w.heap.size _ rfl rfl _ _ HG2.out tk_info rfl (by simp [Value.oneCell']) ?_)
    exact bodyPost_ret (res_tk2 (p := 2) (u := 3) rfl _ _ w.heap.size tk0 rfl (HG2.out.set tk0)) rfl ⟨rfl, below_setRow HB2.out (Nat.le_refl _) _⟩
  | some x =>
    obtain ⟨t, z⟩ := x
    simp only [tkR, tkV, tkA] at HC ⊢
    have HG0 : Hid (Row4 35 (w.alloc (.cells #[.int .i64 0, .string ⟨#[]⟩, .int .i64 0, .int .i64 0] 35)) w.heap.size tk0) := Lib.hid (Row4.new _ w tk0)
    have HB0 : Hid (Below w.heap.size w (w.alloc (.cells #[.int .i64 0, .string ⟨#[]⟩, .int .i64 0, .int .i64 0] 35))) := Lib.hid ((Below.refl _ _).alloc (Nat.le_refl _) _)
    go_enter Tryd.func14, Tryd.ntmps14
    go_upto_region 1 with (fail)
    have HV1 := Lib.hid (HV.out.below HB0.out)
    generalize (w.alloc (.cells #[.int .i64 0, .string ⟨#[]⟩, .int .i64 0, .int .i64 0] 35)) = w1 at *
    clear HV
    go_wp2_with fail
    refine (lxLetter _ _).mono ?_
    rw [h1]
    rintro e w' ⟨rfl, rfl⟩
    go_wp2_with fail
    refine (lxDigit _ _).mono ?_
    rw [h2]
    rintro e w' ⟨rfl, rfl⟩
    go_wp2_with fail
    refine (HC.out _ HV1.out).mono ?_
    rintro e w2 ⟨rfl, hb⟩
    have HG2 := Lib.hid (HG0.out.below hb)
    have HB2 := Lib.hid (HB0.out.trans (hb.mono HB0.out.size))
    clear hb HV1 HC
    go_wp2_with (refine wpList_store_row rfl _ _ _ rfl w.heap.size _ rfl rfl _ _ HG2.out tk_info rfl (by simp [Value.oneCell']) ?_)
    exact bodyPost_ret (res_tk2 (p := 2) (u := 3) rfl _ _ w.heap.size t rfl (HG2.out.set t)) rfl ⟨rfl, below_setRow HB2.out (Nat.le_refl _) _⟩

set_option maxRecDepth 100000 in
set_option maxHeartbeats 2000000 in
theorem lxFirst_mark (s : ByteArray) (w : World) (hs : s.size ≤ 281474976710656) (hv : Vars w) (h0 : 0 < s.size) (h1 : letB ((s[0]'h0).toNat : Int) = false) (h2 : digitB ((s[0]'h0).toNat : Int) = false) (h3 : ¬ s[0]'h0 = 39) :
    Calls Tryd.prog 14 #[.string s] w fun e w' => e = .returned (tkR (tokL s.data.toList)) ∧ Below w.heap.size w w' := by
  obtain ⟨F, hl⟩ := head_at h0
  have HT : Hid (tokL s.data.toList = markT s.data.toList) := Lib.hid (by rw [hl, tok_cons, if_neg (by rw [h1]; simp), if_neg (by rw [h2]; simp), if_neg h3])
  have h01 : 1 ≤ s.size := h0
  have hq : ((s.extract 0 1).toList == [39]) = false := by rw [ext_one h0]; simpa using h3
  clear h3
  have HV := Lib.hid hv
  clear hv hl
  rw [HT.out]
  have HC : Hid (∀ w, Vars w → Calls Tryd.prog 27 #[.string s] w fun e w' => e = .returned (tkR (markT s.data.toList)) ∧ Below w.heap.size w w') := Lib.hid (fun w hv => lxMark s w hs hv)
  generalize markT s.data.toList = o at HC ⊢
  clear HT
  cases o with
  | none =>
    simp only [tkR, tkV, tkA, tk0] at HC ⊢
    have HG0 : Hid (Row4 35 (w.alloc (.cells #[.int .i64 0, .string ⟨#[]⟩, .int .i64 0, .int .i64 0] 35)) w.heap.size tk0) := Lib.hid (Row4.new _ w tk0)
    have HB0 : Hid (Below w.heap.size w (w.alloc (.cells #[.int .i64 0, .string ⟨#[]⟩, .int .i64 0, .int .i64 0] 35))) := Lib.hid ((Below.refl _ _).alloc (Nat.le_refl _) _)
    go_enter Tryd.func14, Tryd.ntmps14
    go_upto_region 1 with (fail)
    have HV1 := Lib.hid (HV.out.below HB0.out)
    generalize (w.alloc (.cells #[.int .i64 0, .string ⟨#[]⟩, .int .i64 0, .int .i64 0] 35)) = w1 at *
    clear HV
    go_wp2_with fail
    refine (lxLetter _ _).mono ?_
    rw [h1]
    rintro e w' ⟨rfl, rfl⟩
    go_wp2_with fail
    refine (lxDigit _ _).mono ?_
    rw [h2]
    rintro e w' ⟨rfl, rfl⟩
    go_wp2_with fail
    refine (HC.out _ HV1.out).mono ?_
    rintro e w2 ⟨rfl, hb⟩
    have HG2 := Lib.hid (HG0.out.below hb)
    have HB2 := Lib.hid (HB0.out.trans (hb.mono HB0.out.size))
    clear hb HV1 HC
    go_wp2_with (refine wpList_store_row rfl _ _ _ rfl w.heap.size _ rfl rfl _ _ HG2.out tk_info rfl (by simp [Value.oneCell']) ?_)
    exact bodyPost_ret (res_tk2 (p := 2) (u := 3) rfl _ _ w.heap.size tk0 rfl (HG2.out.set tk0)) rfl ⟨rfl, below_setRow HB2.out (Nat.le_refl _) _⟩
  | some x =>
    obtain ⟨t, z⟩ := x
    simp only [tkR, tkV, tkA] at HC ⊢
    have HG0 : Hid (Row4 35 (w.alloc (.cells #[.int .i64 0, .string ⟨#[]⟩, .int .i64 0, .int .i64 0] 35)) w.heap.size tk0) := Lib.hid (Row4.new _ w tk0)
    have HB0 : Hid (Below w.heap.size w (w.alloc (.cells #[.int .i64 0, .string ⟨#[]⟩, .int .i64 0, .int .i64 0] 35))) := Lib.hid ((Below.refl _ _).alloc (Nat.le_refl _) _)
    go_enter Tryd.func14, Tryd.ntmps14
    go_upto_region 1 with (fail)
    have HV1 := Lib.hid (HV.out.below HB0.out)
    generalize (w.alloc (.cells #[.int .i64 0, .string ⟨#[]⟩, .int .i64 0, .int .i64 0] 35)) = w1 at *
    clear HV
    go_wp2_with fail
    refine (lxLetter _ _).mono ?_
    rw [h1]
    rintro e w' ⟨rfl, rfl⟩
    go_wp2_with fail
    refine (lxDigit _ _).mono ?_
    rw [h2]
    rintro e w' ⟨rfl, rfl⟩
    go_wp2_with fail
    refine (HC.out _ HV1.out).mono ?_
    rintro e w2 ⟨rfl, hb⟩
    have HG2 := Lib.hid (HG0.out.below hb)
    have HB2 := Lib.hid (HB0.out.trans (hb.mono HB0.out.size))
    clear hb HV1 HC
    go_wp2_with (refine wpList_store_row rfl _ _ _ rfl w.heap.size _ rfl rfl _ _ HG2.out tk_info rfl (by simp [Value.oneCell']) ?_)
    exact bodyPost_ret (res_tk2 (p := 2) (u := 3) rfl _ _ w.heap.size t rfl (HG2.out.set t)) rfl ⟨rfl, below_setRow HB2.out (Nat.le_refl _) _⟩

theorem lxFirst (s : ByteArray) (w : World) (hs : s.size ≤ 281474976710656) (hv : Vars w) (h0 : 0 < s.size) :
    Calls Tryd.prog 14 #[.string s] w fun e w' => e = .returned (tkR (tokL s.data.toList)) ∧ Below w.heap.size w w' := by
  cases h1 : letB ((s[0]'h0).toNat : Int) with
  | true => exact lxFirst_name s w hs hv h0 h1
  | false =>
    cases h2 : digitB ((s[0]'h0).toNat : Int) with
    | true => exact lxFirst_number s w hs hv h0 h1 h2
    | false =>
      by_cases h3 : s[0]'h0 = 39
      · exact lxFirst_path s w hs hv h0 h1 h2 h3
      · exact lxFirst_mark s w hs hv h0 h1 h2 h3

end Go.Proofs.YtkgeigckekccgaaDoor
