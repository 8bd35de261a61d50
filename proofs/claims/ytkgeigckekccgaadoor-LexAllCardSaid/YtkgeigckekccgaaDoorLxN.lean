/- What the document's one returns. Conditions: that the text has at most 1000 bytes. -/
import Derived.Test.YtkgeigckekccgaaDoorLxK
namespace Go.Proofs.YtkgeigckekccgaaDoor
open Go.RowKit Go.Sort
set_option linter.unusedVariables false

/-- What one tells. -/
def OneAns (s : ByteArray) (p : Nat) (e : Ending) : Prop := ∃ (t : Tk) (q : Int) (b : Bool), e = .returned (.tuple #[tkV t, .int .i64 q, .bool b]) ∧
  match tokL (s.data.toList.drop p) with
  | none => b = false
  | some (u, z) => b = true ∧ t = { u with a := p } ∧ q = ((p + z : Nat) : Int)

section
variable {s : ByteArray} {p : Nat}
theorem tok_name (h : p < s.size) (hc : letB ((s[p]'h).toNat : Int) = true) : tokL (s.data.toList.drop p) = nameT (s.data.toList.drop p) := by
  rw [drop_at h, tok_cons, if_pos hc]
theorem tok_num (h : p < s.size) (hc : letB ((s[p]'h).toNat : Int) = false) (hd : digitB ((s[p]'h).toNat : Int) = true) : tokL (s.data.toList.drop p) = numT (s.data.toList.drop p) := by
  rw [drop_at h, tok_cons, if_neg (by rw [hc]; simp), if_pos hd]
theorem tok_path (h : p < s.size) (hc : s[p]'h = 39) : tokL (s.data.toList.drop p) = pathT (s.data.toList.drop (p + 1)) := by
  rw [drop_at h, tok_cons, hc]
  rfl
theorem tok_mark (h : p < s.size) (hc : letB ((s[p]'h).toNat : Int) = false) (hd : digitB ((s[p]'h).toNat : Int) = false) (hq : ¬ s[p]'h = 39) : tokL (s.data.toList.drop p) = markT (s.data.toList.drop p) := by
  rw [drop_at h, tok_cons, if_neg (by rw [hc]; simp), if_neg (by rw [hd]; simp), if_neg hq]
theorem let_39 {x : Int} (h : letB x = true) : (x == 39) = false := by
  simp [letB, smallB, greatB] at h
  simp; omega
theorem dig_39 {x : Int} (h : digitB x = true) : (x == 39) = false := by
  simp [digitB] at h
  simp; omega
theorem let_dig {x : Int} (h : letB x = true) : digitB x = false := by
  simp [letB, smallB, greatB] at h
  simp [digitB]; omega
/-- Words and low names begin with a small letter, high names with a great one. -/
theorem word_small {c : UInt8} {l : List UInt8} (h : wordB (c :: l) = true) : smallB (c.toNat : Int) = true := by
  have h2 : ∀ m ∈ wordsL, ∀ d r, m = d :: r → smallB ((d : UInt8).toNat : Int) = true := by
    intro m hm d r e
    simp only [wordsL, List.mem_cons, List.not_mem_nil, or_false] at hm
    rcases hm with h | h | h | h | h | h | h | h | h | h | h | h | h | h | h | h | h | h | h | h | h | h | h | h <;> rw [h] at e <;> injection e with e1 _ <;> subst e1 <;> rfl
  exact h2 _ (by simpa [wordB] using h) c l rfl
theorem low_small {c : UInt8} {l : List UInt8} (h : lowB (c :: l) = true) : smallB (c.toNat : Int) = true := by
  simp [lowB, nameB] at h
  exact h.1.1.2
theorem high_great {c : UInt8} {l : List UInt8} (h : highB (c :: l) = true) : greatB (c.toNat : Int) = true := by
  simp [highB, nameB] at h
  exact h.1.2
theorem small_great {x : Int} (h : smallB x = true) : greatB x = false := by
  simp [smallB] at h
  simp [greatB]; omega
theorem name_cons {c : UInt8} {l : List UInt8} (h : nameC (c.toNat : Int) = true) : ∃ r, nameL (c :: l) = c :: r := ⟨nameL l, by simp only [nameL, List.takeWhile_cons, h, if_true]⟩
theorem let_name {x : Int} (h : letB x = true) : nameC x = true := by
  simp only [letB, Bool.or_eq_true] at h
  rcases h with h | h <;> simp [nameC, h]
theorem nameT_small (h : p < s.size) (hc : smallB ((s[p]'h).toNat : Int) = true) :
    nameT (s.data.toList.drop p) = if (lowB (nameL (s.data.toList.drop p)) || wordB (nameL (s.data.toList.drop p))) = true then some (⟨1, nameL (s.data.toList.drop p), 0, 0⟩, (nameL (s.data.toList.drop p)).length) else none := by
  obtain ⟨r, hr⟩ := name_cons (c := s[p]'h) (l := s.data.toList.drop (p + 1)) (let_name (by simp [letB, hc]))
  have hh : highB (nameL (s.data.toList.drop p)) = false := by
    rw [drop_at h, hr]
    cases e : highB (s[p]'h :: r) with
    | false => rfl
    | true => have := high_great e; rw [small_great hc] at this; cases this
  unfold nameT
  rw [hh]
  simp
theorem nameT_great (h : p < s.size) (hc : greatB ((s[p]'h).toNat : Int) = true) :
    nameT (s.data.toList.drop p) = if highB (nameL (s.data.toList.drop p)) = true then some (⟨2, nameL (s.data.toList.drop p), 0, 0⟩, (nameL (s.data.toList.drop p)).length) else none := by
  obtain ⟨r, hr⟩ := name_cons (c := s[p]'h) (l := s.data.toList.drop (p + 1)) (let_name (by simp [letB, hc]))
  have hs : smallB ((s[p]'h).toNat : Int) = false := by
    cases e : smallB ((s[p]'h).toNat : Int) with
    | false => rfl
    | true => have := small_great e; rw [hc] at this; cases this
  have hl : lowB (nameL (s.data.toList.drop p)) = false := by
    rw [drop_at h, hr]
    cases e : lowB (s[p]'h :: r) with
    | false => rfl
    | true => have := low_small e; rw [hs] at this; cases this
  have hw : wordB (nameL (s.data.toList.drop p)) = false := by
    rw [drop_at h, hr]
    cases e : wordB (s[p]'h :: r) with
    | false => rfl
    | true => have := word_small e; rw [hs] at this; cases this
  unfold nameT
  rw [hl, hw]
  simp
end

theorem Row4.thaw {T : TypeId} {W : World} {g : Nat} {t : Tk} (h : Row4 T W g t) (j : Nat) : W.frozen? ⟨g, j, none⟩ = false := by
  unfold Row4 at h
  simp [World.frozen?, h]

theorem four_set {T : TypeId} {W : World} {g : Nat} {t : Tk} (h : Row4 T W g t) (u : Tk) :
    (((W.setCell ⟨g, 0, none⟩ (.int .i64 u.k)).setCell ⟨g, 1, none⟩ (.string (ofL u.s))).setCell ⟨g, 2, none⟩ (.int .i64 u.n)).setCell ⟨g, 3, none⟩ (.int .i64 (u.a : Int)) = W.setRow g (tkA u) := by
  unfold Row4 at h
  rw [setCell_eq_setRow _ _ _ _ _ _ _ h]
  have h1 := setRow_heap _ _ _ ((tkA t).setIfInBounds 0 (.int .i64 u.k)) _ _ h
  rw [setCell_eq_setRow _ _ _ _ _ _ _ h1, setRow_setRow]
  have h2 := setRow_heap _ _ _ (((tkA t).setIfInBounds 0 (.int .i64 u.k)).setIfInBounds 1 (.string (ofL u.s))) _ _ h
  rw [setCell_eq_setRow _ _ _ _ _ _ _ h2, setRow_setRow]
  have h3 := setRow_heap _ _ _ ((((tkA t).setIfInBounds 0 (.int .i64 u.k)).setIfInBounds 1 (.string (ofL u.s))).setIfInBounds 2 (.int .i64 u.n)) _ _ h
  rw [setCell_eq_setRow _ _ _ _ _ _ _ h3, setRow_setRow]
  rfl

/-! ### one, by what stands first -/

set_option maxRecDepth 100000 in
set_option maxHeartbeats 4000000 in
theorem rxOne_path (s : ByteArray) (p : Nat) (w : World) (hs : s.size ≤ 1000) (hp : p < s.size) (hc : s[p]'hp = 39) :
    Calls Tryd.prog 16 #[.string s, .int .i64 (p : Int)] w fun e w' => OneAns s p e ∧ Below w.heap.size w w' := by
  have HT := Lib.hid (tok_path hp hc)
  have hx : (((s[p]'hp).toNat : Int) == 39) = true := by rw [hc]; rfl
  clear hc
  have HG0 : Hid (Row4 42 (w.alloc (.cells #[.int .i64 0, .string ⟨#[]⟩, .int .i64 0, .int .i64 0] 42)) w.heap.size tk0) := Lib.hid (Row4.new _ w tk0)
  have HB0 : Hid (Below w.heap.size w (w.alloc (.cells #[.int .i64 0, .string ⟨#[]⟩, .int .i64 0, .int .i64 0] 42))) := Lib.hid ((Below.refl _ _).alloc (Nat.le_refl _) _)
  go_enter Tryd.func16, Tryd.ntmps16
  go_upto_region 1 with (fail)
  generalize (w.alloc (.cells #[.int .i64 0, .string ⟨#[]⟩, .int .i64 0, .int .i64 0] 42)) = w1 at *
  go_wp2_with fail
  refine (rxPath s p _ hs hp).mono ?_
  rintro e w2 ⟨⟨t, q, b, rfl, hm⟩, hb2⟩
  have HM := Lib.hid hm
  have HG2 := Lib.hid (HG0.out.below hb2)
  have HB2 := Lib.hid (HB0.out.trans (hb2.mono HB0.out.size))
  clear hb2 hm
  simp only [tkV, tkA]
  go_wp2_with (refine wpList_store_row rfl _ _ _ rfl w.heap.size _ rfl rfl _ _ HG2.out tr_info rfl (by simp [Value.oneCell']) ?_)
  exact bodyPost_ret (res_tr3 (p := 4) (u := 5) (v := 6) rfl _ _ w.heap.size t rfl (HG2.out.set t)) rfl ⟨⟨_, _, _, rfl, by rw [HT.out]; exact HM.out⟩, below_setRow HB2.out (Nat.le_refl _) _⟩

set_option maxRecDepth 100000 in
set_option maxHeartbeats 4000000 in
theorem rxOne_mark (s : ByteArray) (p : Nat) (w : World) (hs : s.size ≤ 1000) (hp : p < s.size) (hc : letB ((s[p]'hp).toNat : Int) = false) (hd : digitB ((s[p]'hp).toNat : Int) = false) (hq : ¬ s[p]'hp = 39) :
    Calls Tryd.prog 16 #[.string s, .int .i64 (p : Int)] w fun e w' => OneAns s p e ∧ Below w.heap.size w w' := by
  have HT := Lib.hid (tok_mark hp hc hd hq)
  have hx : (((s[p]'hp).toNat : Int) == 39) = false := byte_no 39 39 rfl (by simpa using hq)
  simp only [letB, Bool.or_eq_false_iff] at hc
  obtain ⟨hc1, hc2⟩ := hc
  clear hq
  have hzr : 0 < (s.extract p s.size).size := by rw [Lib.size_eq, ext_rest, List.length_drop, ← Lib.size_eq]; omega
  have hzl : (s.extract p s.size).size ≤ 9223372036854775806 := by rw [Lib.size_eq, ext_rest, List.length_drop, ← Lib.size_eq]; omega
  have HK := Lib.hid (fun w => rxMark (s.extract p s.size) w hzl hzr)
  have hme : markAns (s.extract p s.size) = ofL ((markL (s.data.toList.drop p)).getD []) := by unfold markAns; rw [ext_rest]
  rw [hme] at HK
  have HG0 : Hid (Row4 42 (w.alloc (.cells #[.int .i64 0, .string ⟨#[]⟩, .int .i64 0, .int .i64 0] 42)) w.heap.size tk0) := Lib.hid (Row4.new _ w tk0)
  have HB0 : Hid (Below w.heap.size w (w.alloc (.cells #[.int .i64 0, .string ⟨#[]⟩, .int .i64 0, .int .i64 0] 42))) := Lib.hid ((Below.refl _ _).alloc (Nat.le_refl _) _)
  clear hme
  have HA : Hid (match tokL (s.data.toList.drop p) with | none => (!((markL (s.data.toList.drop p)).getD []).isEmpty) = false | some (u, z) => (!((markL (s.data.toList.drop p)).getD []).isEmpty) = true ∧ (⟨5, (markL (s.data.toList.drop p)).getD [], 0, p⟩ : Tk) = { u with a := p } ∧ ((p : Int) + (((markL (s.data.toList.drop p)).getD []).length : Int)) = ((p + z : Nat) : Int)) := Lib.hid (by
    rw [HT.out]
    unfold markT
    cases hm : markL (s.data.toList.drop p) with
    | none => rfl
    | some m =>
      have h3 := (mark_pos hm).1
      refine ⟨?_, rfl, by simp⟩
      cases m with
      | nil => simp at h3
      | cons a r => rfl)
  have hm2 : ((markL (s.data.toList.drop p)).getD []).length ≤ 1000 := by
    cases hm : markL (s.data.toList.drop p) with
    | none => simp
    | some m =>
      have h3 := (mark_pos hm).2.1
      rw [List.length_drop, ← Lib.size_eq] at h3
      show m.length ≤ 1000
      omega
  clear HT
  generalize (markL (s.data.toList.drop p)).getD [] = m at *
  go_enter Tryd.func16, Tryd.ntmps16
  go_upto_region 1 with (fail)
  generalize (w.alloc (.cells #[.int .i64 0, .string ⟨#[]⟩, .int .i64 0, .int .i64 0] 42)) = w1 at *
  go_wp2_with fail
  refine (rxInD _ _).mono ?_
  rw [hd]
  rintro e w' ⟨rfl, rfl⟩
  go_wp2_with fail
  refine (rxInS _ _).mono ?_
  rw [hc1]
  rintro e w' ⟨rfl, rfl⟩
  go_wp2_with fail
  refine (rxInG _ _).mono ?_
  rw [hc2]
  rintro e w' ⟨rfl, rfl⟩
  go_wp2_with fail
  refine (HK.out _).mono ?_
  rintro e w2 ⟨rfl, hb2⟩
  have HG2 := Lib.hid (HG0.out.below hb2)
  have HB2 := Lib.hid (HB0.out.trans (hb2.mono HB0.out.size))
  clear hb2
  have hml : (ofL m).size = m.length := ofL_size m
  have hme : ((ofL m).toList == []) = m.isEmpty := by
    rw [Lib.toList_data, ofL_list]
    cases m <;> rfl
  go_wp2_with (refine wpList_store_row rfl _ _ _ rfl w.heap.size _ rfl rfl _ _ HG2.out tr_info rfl (by simp [Value.oneCell']) ?_)
  exact bodyPost_ret (res_tr3 (p := 4) (u := 5) (v := 6) rfl _ _ w.heap.size ⟨5, m, 0, p⟩ rfl (HG2.out.set ⟨5, m, 0, p⟩)) rfl ⟨⟨_, _, _, rfl, HA.out⟩, below_setRow HB2.out (Nat.le_refl _) _⟩

theorem num_form (s : ByteArray) (p : Nat) (hs : s.size ≤ 1000) (hp : p < s.size) (hc : letB ((s[p]'hp).toNat : Int) = false) (hd : digitB ((s[p]'hp).toNat : Int) = true) :
    ∃ (u : Tk) (b : Bool), numAns s p = .tuple #[tkV u, .bool b] ∧ u.s.length ≤ 1000 ∧
      match tokL (s.data.toList.drop p) with
      | none => b = false
      | some (t, z) => b = true ∧ u = { t with a := p } ∧ ((p : Int) + (u.s.length : Int)) = ((p + z : Nat) : Int) := by
  have ht := tok_num hp hc hd
  rw [ht]
  cases hn : numT (s.data.toList.drop p) with
  | none => exact ⟨tk0, false, by unfold numAns; rw [hn], by simp [tk0], rfl⟩
  | some x =>
    obtain ⟨t, z⟩ := x
    have h1 := tok_ok (ht.trans hn)
    have hk : t.k = 3 := by
      unfold numT at hn
      split at hn
      · cases hn
      · cases hn; rfl
    have hz : t.s.length = z := by
      have := h1.2.2.1
      unfold Tk.w at this
      rw [hk] at this
      simpa using this
    refine ⟨{ t with a := p }, true, by unfold numAns; rw [hn], ?_, rfl, rfl, ?_⟩
    · have := h1.2.1
      rw [List.length_drop, ← Lib.size_eq] at this
      show t.s.length ≤ 1000
      omega
    · show (p : Int) + (t.s.length : Int) = _
      rw [hz]; simp

set_option maxRecDepth 100000 in
set_option maxHeartbeats 4000000 in
theorem rxOne_num (s : ByteArray) (p : Nat) (w : World) (hs : s.size ≤ 1000) (hp : p < s.size) (hc : letB ((s[p]'hp).toNat : Int) = false) (hd : digitB ((s[p]'hp).toNat : Int) = true) :
    Calls Tryd.prog 16 #[.string s, .int .i64 (p : Int)] w fun e w' => OneAns s p e ∧ Below w.heap.size w w' := by
  obtain ⟨u, b, hf, hu, hm⟩ := num_form s p hs hp hc hd
  have HM := Lib.hid hm
  have HN := Lib.hid (fun w => rxNumber s p w (by omega) hp hd)
  rw [hf] at HN
  have hx := dig_39 hd
  clear hm hf hc
  have HG0 : Hid (Row4 42 (w.alloc (.cells #[.int .i64 0, .string ⟨#[]⟩, .int .i64 0, .int .i64 0] 42)) w.heap.size tk0) := Lib.hid (Row4.new _ w tk0)
  have HB0 : Hid (Below w.heap.size w (w.alloc (.cells #[.int .i64 0, .string ⟨#[]⟩, .int .i64 0, .int .i64 0] 42))) := Lib.hid ((Below.refl _ _).alloc (Nat.le_refl _) _)
  have hul : (ofL u.s).size = u.s.length := ofL_size _
  simp only [tkV, tkA] at HN
  go_enter Tryd.func16, Tryd.ntmps16
  go_upto_region 1 with (fail)
  generalize (w.alloc (.cells #[.int .i64 0, .string ⟨#[]⟩, .int .i64 0, .int .i64 0] 42)) = w1 at *
  go_wp2_with fail
  refine (rxInD _ _).mono ?_
  rw [hd]
  rintro e w' ⟨rfl, rfl⟩
  go_wp2_with fail
  refine (HN.out _).mono ?_
  rintro e w2 ⟨rfl, hb2⟩
  have HG2 := Lib.hid (HG0.out.below hb2)
  have HB2 := Lib.hid (HB0.out.trans (hb2.mono HB0.out.size))
  clear hb2
  go_upto_region 6 with (fail)
  have HG3 : Hid (Row4 42 (w2.alloc (.cells #[.int .i64 u.k, .string (ofL u.s), .int .i64 u.n, .int .i64 (u.a : Int)] 42)) w.heap.size tk0) := Lib.hid (HG2.out.alloc _)
  have HX3 : Hid (Row4 42 (w2.alloc (.cells #[.int .i64 u.k, .string (ofL u.s), .int .i64 u.n, .int .i64 (u.a : Int)] 42)) w2.heap.size u) := Lib.hid (Row4.new _ w2 u)
  have HB3 : Hid (Below w.heap.size w (w2.alloc (.cells #[.int .i64 u.k, .string (ofL u.s), .int .i64 u.n, .int .i64 (u.a : Int)] 42))) := Lib.hid (HB2.out.alloc HB2.out.size _)
  generalize (w2.alloc (.cells #[.int .i64 u.k, .string (ofL u.s), .int .i64 u.n, .int .i64 (u.a : Int)] 42)) = w3 at *
  have hne1 : w2.heap.size ≠ w.heap.size := by
    have h1 := HG2.out.lt
    omega
  have hne2 : w.heap.size ≠ w2.heap.size := fun e => hne1 e.symm
  have c0 := HX3.out.c0
  have c1 := HX3.out.c1
  have c2 := HX3.out.c2
  have c3 := HX3.out.c3
  have hu2 : decide ((1000 : Int) < (u.s.length : Int)) = false := decide_eq_false (by omega)
  have r0 := HG3.out.c0
  have r1 := HG3.out.c1
  have r2 := HG3.out.c2
  have r3 := HG3.out.c3
  have fz : ∀ j, w3.frozen? ⟨w.heap.size, j, none⟩ = false := HG3.out.thaw
  have f0 := fz 0
  have f1 := fz 1
  have f2 := fz 2
  have f3 := fz 3
  clear fz
  go_region
  rw [four_set HG3.out u]
  have HG4 : Hid (Row4 42 (w3.setRow w.heap.size (tkA u)).drew w.heap.size u) := Lib.hid (HG3.out.set u)
  have HB4 : Hid (Below w.heap.size w (w3.setRow w.heap.size (tkA u)).drew) := Lib.hid (Below.drew (below_setRow HB3.out (Nat.le_refl _) _))
  generalize (w3.setRow w.heap.size (tkA u)).drew = w4 at *
  go_wp2_with fail
  exact bodyPost_ret (res_tr3 (p := 4) (u := 5) (v := 6) rfl _ _ w.heap.size u rfl HG4.out) rfl ⟨⟨_, _, _, rfl, HM.out⟩, HB4.out⟩
set_option maxRecDepth 100000 in
set_option maxHeartbeats 4000000 in
theorem rxOne_small (s : ByteArray) (p : Nat) (w : World) (hs : s.size ≤ 1000) (hp : p < s.size) (hc : smallB ((s[p]'hp).toNat : Int) = true) :
    Calls Tryd.prog 16 #[.string s, .int .i64 (p : Int)] w fun e w' => OneAns s p e ∧ Below w.heap.size w w' := by
  have hlet : letB ((s[p]'hp).toNat : Int) = true := by simp [letB, hc]
  have HT := Lib.hid ((tok_name hp hlet).trans (nameT_small hp hc))
  have hx := let_39 hlet
  have hd := let_dig hlet
  have hg := small_great hc
  clear hlet
  have HG0 : Hid (Row4 42 (w.alloc (.cells #[.int .i64 0, .string ⟨#[]⟩, .int .i64 0, .int .i64 0] 42)) w.heap.size tk0) := Lib.hid (Row4.new _ w tk0)
  have HB0 : Hid (Below w.heap.size w (w.alloc (.cells #[.int .i64 0, .string ⟨#[]⟩, .int .i64 0, .int .i64 0] 42))) := Lib.hid ((Below.refl _ _).alloc (Nat.le_refl _) _)
  go_enter Tryd.func16, Tryd.ntmps16
  go_upto_region 1 with (fail)
  generalize (w.alloc (.cells #[.int .i64 0, .string ⟨#[]⟩, .int .i64 0, .int .i64 0] 42)) = w1 at *
  go_wp2_with fail
  refine (rxInD _ _).mono ?_
  rw [hd]
  rintro e w' ⟨rfl, rfl⟩
  go_wp2_with fail
  refine (rxInS _ _).mono ?_
  rw [hc]
  rintro e w' ⟨rfl, rfl⟩
  go_wp2_with fail
  go_loop [10] (fun i => ∃ k : Nat, i = .int .i64 k ∧ PieceAll (fun c => nameC (c.toNat : Int)) s p k) (fun i => s.size - (intOf i).toNat)
  case atStart => exact ⟨p, rfl, PieceAll.start (by omega)⟩
  case round =>
    obtain ⟨k, rfl, hrel⟩ := hrel
    have HR := Lib.hid hrel
    have hpk := hrel.1
    have hk := hrel.2.1
    clear hrel
    by_cases hlt : k < s.size
    · by_cases hn : nameC ((s[k]'hlt).toNat : Int) = true
      · have HN := Lib.hid (HR.out.on hlt hn)
        go_wp2_with (go_at_call 31; refine (rxInner _ _).mono ?_; rintro e w' ⟨rfl, rfl⟩)
        go_round
        case rel => exact ⟨k + 1, by go_num, HN.out⟩
        case measure => simp [intOf]; omega
      · have hn : nameC ((s[k]'hlt).toNat : Int) = false := Bool.eq_false_iff.2 hn
        have HL := Lib.hid (show nameL (s.data.toList.drop p) = pieceL s p k from HR.out.stop (.inr ⟨hlt, hn⟩))
        have HT2 := HT.out
        rw [HL.out, piece_len hpk hk] at HT2
        have hpx := piece_ext hpk hk
        have hpl := piece_len hpk hk
        have hz : (ofL (pieceL s p k)).size ≤ 9223372036854775807 := by rw [ofL_size, hpl]; omega
        have HLo := Lib.hid (refLow (ofL (pieceL s p k)))
        have HWo := Lib.hid (refWord (ofL (pieceL s p k)))
        have HHi := Lib.hid (refHigh (ofL (pieceL s p k)))
        rw [ofL_list] at HLo HWo HHi
        generalize pieceL s p k = l at *
        have HTT := Lib.hid HT2
        clear HT2
        cases hb : lowB l with
        | true =>
          rw [hb] at HTT HLo
          clear hb
          go_wp2_with (go_at_call 31; refine (rxInner _ _).mono ?_; rintro e w' ⟨rfl, rfl⟩)
          refine (rxInG _ _).mono ?_
          rw [hg]
          rintro e w' ⟨rfl, rfl⟩
          go_wp2_with fail
          refine (HLo.out _ hz).mono ?_
          rintro e w2 ⟨rfl, hb2⟩
          have HG2 := Lib.hid (HG0.out.below hb2)
          have HB2 := Lib.hid (HB0.out.trans (hb2.mono HB0.out.size))
          clear hb2
          go_wp2_with (refine wpList_store_row rfl _ _ _ rfl w.heap.size _ rfl rfl _ _ HG2.out tr_info rfl (by simp [Value.oneCell']) ?_)
          exact bodyPost_ret (res_tr3 (p := 4) (u := 5) (v := 6) rfl _ _ w.heap.size ⟨1, l, 0, p⟩ rfl (HG2.out.set ⟨1, l, 0, p⟩)) rfl ⟨⟨_, _, _, rfl, by rw [HTT.out]; exact ⟨rfl, rfl, by omega⟩⟩, below_setRow HB2.out (Nat.le_refl _) _⟩
        | false =>
          rw [hb] at HTT HLo
          clear hb
          cases hw : wordB l with
          | true =>
            rw [hw] at HTT HWo
            clear hw
            go_wp2_with (go_at_call 31; refine (rxInner _ _).mono ?_; rintro e w' ⟨rfl, rfl⟩)
            refine (rxInG _ _).mono ?_
            rw [hg]
            rintro e w' ⟨rfl, rfl⟩
            go_wp2_with fail
            refine (HLo.out _ hz).mono ?_
            rintro e w2 ⟨rfl, hb2⟩
            have HG2 := Lib.hid (HG0.out.below hb2)
            have HB2 := Lib.hid (HB0.out.trans (hb2.mono HB0.out.size))
            clear hb2
            go_wp2_with fail
            refine (HWo.out _).mono ?_
            rintro e w3 ⟨rfl, hb3⟩
            have HG3 := Lib.hid (HG2.out.below hb3)
            have HB3 := Lib.hid (HB2.out.trans (hb3.mono HB2.out.size))
            clear hb3
            go_wp2_with (refine wpList_store_row rfl _ _ _ rfl w.heap.size _ rfl rfl _ _ HG3.out tr_info rfl (by simp [Value.oneCell']) ?_)
            exact bodyPost_ret (res_tr3 (p := 4) (u := 5) (v := 6) rfl _ _ w.heap.size ⟨1, l, 0, p⟩ rfl (HG3.out.set ⟨1, l, 0, p⟩)) rfl ⟨⟨_, _, _, rfl, by rw [HTT.out]; exact ⟨rfl, rfl, by omega⟩⟩, below_setRow HB3.out (Nat.le_refl _) _⟩
          | false =>
            rw [hw] at HTT HWo
            clear hw
            go_wp2_with (go_at_call 31; refine (rxInner _ _).mono ?_; rintro e w' ⟨rfl, rfl⟩)
            refine (rxInG _ _).mono ?_
            rw [hg]
            rintro e w' ⟨rfl, rfl⟩
            go_wp2_with fail
            refine (HLo.out _ hz).mono ?_
            rintro e w2 ⟨rfl, hb2⟩
            have HG2 := Lib.hid (HG0.out.below hb2)
            have HB2 := Lib.hid (HB0.out.trans (hb2.mono HB0.out.size))
            clear hb2
            go_wp2_with fail
            refine (HWo.out _).mono ?_
            rintro e w3 ⟨rfl, hb3⟩
            have HG3 := Lib.hid (HG2.out.below hb3)
            have HB3 := Lib.hid (HB2.out.trans (hb3.mono HB2.out.size))
            clear hb3
            go_wp2_with (refine wpList_store_row rfl _ _ _ rfl w.heap.size _ rfl rfl _ _ HG3.out tr_info rfl (by simp [Value.oneCell']) ?_)
            exact bodyPost_ret (res_tr3 (p := 4) (u := 5) (v := 6) rfl _ _ w.heap.size ⟨1, l, 0, p⟩ rfl (HG3.out.set ⟨1, l, 0, p⟩)) rfl ⟨⟨_, _, _, rfl, by rw [HTT.out]; rfl⟩, below_setRow HB3.out (Nat.le_refl _) _⟩
    · have HL := Lib.hid (show nameL (s.data.toList.drop p) = pieceL s p k from HR.out.stop (.inl (by omega)))
      have HT2 := HT.out
      rw [HL.out, piece_len hpk hk] at HT2
      have hpx := piece_ext hpk hk
      have hpl := piece_len hpk hk
      have hz : (ofL (pieceL s p k)).size ≤ 9223372036854775807 := by rw [ofL_size, hpl]; omega
      have HLo := Lib.hid (refLow (ofL (pieceL s p k)))
      have HWo := Lib.hid (refWord (ofL (pieceL s p k)))
      have HHi := Lib.hid (refHigh (ofL (pieceL s p k)))
      rw [ofL_list] at HLo HWo HHi
      generalize pieceL s p k = l at *
      have HTT := Lib.hid HT2
      clear HT2
      cases hb : lowB l with
      | true =>
        rw [hb] at HTT HLo
        clear hb
        go_wp2_with fail
        refine (rxInG _ _).mono ?_
        rw [hg]
        rintro e w' ⟨rfl, rfl⟩
        go_wp2_with fail
        refine (HLo.out _ hz).mono ?_
        rintro e w2 ⟨rfl, hb2⟩
        have HG2 := Lib.hid (HG0.out.below hb2)
        have HB2 := Lib.hid (HB0.out.trans (hb2.mono HB0.out.size))
        clear hb2
        go_wp2_with (refine wpList_store_row rfl _ _ _ rfl w.heap.size _ rfl rfl _ _ HG2.out tr_info rfl (by simp [Value.oneCell']) ?_)
        exact bodyPost_ret (res_tr3 (p := 4) (u := 5) (v := 6) rfl _ _ w.heap.size ⟨1, l, 0, p⟩ rfl (HG2.out.set ⟨1, l, 0, p⟩)) rfl ⟨⟨_, _, _, rfl, by rw [HTT.out]; exact ⟨rfl, rfl, by omega⟩⟩, below_setRow HB2.out (Nat.le_refl _) _⟩
      | false =>
        rw [hb] at HTT HLo
        clear hb
        cases hw : wordB l with
        | true =>
          rw [hw] at HTT HWo
          clear hw
          go_wp2_with fail
          refine (rxInG _ _).mono ?_
          rw [hg]
          rintro e w' ⟨rfl, rfl⟩
          go_wp2_with fail
          refine (HLo.out _ hz).mono ?_
          rintro e w2 ⟨rfl, hb2⟩
          have HG2 := Lib.hid (HG0.out.below hb2)
          have HB2 := Lib.hid (HB0.out.trans (hb2.mono HB0.out.size))
          clear hb2
          go_wp2_with fail
          refine (HWo.out _).mono ?_
          rintro e w3 ⟨rfl, hb3⟩
          have HG3 := Lib.hid (HG2.out.below hb3)
          have HB3 := Lib.hid (HB2.out.trans (hb3.mono HB2.out.size))
          clear hb3
          go_wp2_with (refine wpList_store_row rfl _ _ _ rfl w.heap.size _ rfl rfl _ _ HG3.out tr_info rfl (by simp [Value.oneCell']) ?_)
          exact bodyPost_ret (res_tr3 (p := 4) (u := 5) (v := 6) rfl _ _ w.heap.size ⟨1, l, 0, p⟩ rfl (HG3.out.set ⟨1, l, 0, p⟩)) rfl ⟨⟨_, _, _, rfl, by rw [HTT.out]; exact ⟨rfl, rfl, by omega⟩⟩, below_setRow HB3.out (Nat.le_refl _) _⟩
        | false =>
          rw [hw] at HTT HWo
          clear hw
          go_wp2_with fail
          refine (rxInG _ _).mono ?_
          rw [hg]
          rintro e w' ⟨rfl, rfl⟩
          go_wp2_with fail
          refine (HLo.out _ hz).mono ?_
          rintro e w2 ⟨rfl, hb2⟩
          have HG2 := Lib.hid (HG0.out.below hb2)
          have HB2 := Lib.hid (HB0.out.trans (hb2.mono HB0.out.size))
          clear hb2
          go_wp2_with fail
          refine (HWo.out _).mono ?_
          rintro e w3 ⟨rfl, hb3⟩
          have HG3 := Lib.hid (HG2.out.below hb3)
          have HB3 := Lib.hid (HB2.out.trans (hb3.mono HB2.out.size))
          clear hb3
          go_wp2_with (refine wpList_store_row rfl _ _ _ rfl w.heap.size _ rfl rfl _ _ HG3.out tr_info rfl (by simp [Value.oneCell']) ?_)
          exact bodyPost_ret (res_tr3 (p := 4) (u := 5) (v := 6) rfl _ _ w.heap.size ⟨1, l, 0, p⟩ rfl (HG3.out.set ⟨1, l, 0, p⟩)) rfl ⟨⟨_, _, _, rfl, by rw [HTT.out]; rfl⟩, below_setRow HB3.out (Nat.le_refl _) _⟩

set_option maxRecDepth 100000 in
set_option maxHeartbeats 4000000 in
theorem rxOne_great (s : ByteArray) (p : Nat) (w : World) (hs : s.size ≤ 1000) (hp : p < s.size) (hc : greatB ((s[p]'hp).toNat : Int) = true) :
    Calls Tryd.prog 16 #[.string s, .int .i64 (p : Int)] w fun e w' => OneAns s p e ∧ Below w.heap.size w w' := by
  have hlet : letB ((s[p]'hp).toNat : Int) = true := by simp [letB, hc]
  have HT := Lib.hid ((tok_name hp hlet).trans (nameT_great hp hc))
  have hx := let_39 hlet
  have hd := let_dig hlet
  have hg : smallB ((s[p]'hp).toNat : Int) = false := by
    cases e : smallB ((s[p]'hp).toNat : Int) with
    | false => rfl
    | true => have := small_great e; rw [hc] at this; cases this
  clear hlet
  have HG0 : Hid (Row4 42 (w.alloc (.cells #[.int .i64 0, .string ⟨#[]⟩, .int .i64 0, .int .i64 0] 42)) w.heap.size tk0) := Lib.hid (Row4.new _ w tk0)
  have HB0 : Hid (Below w.heap.size w (w.alloc (.cells #[.int .i64 0, .string ⟨#[]⟩, .int .i64 0, .int .i64 0] 42))) := Lib.hid ((Below.refl _ _).alloc (Nat.le_refl _) _)
  go_enter Tryd.func16, Tryd.ntmps16
  go_upto_region 1 with (fail)
  generalize (w.alloc (.cells #[.int .i64 0, .string ⟨#[]⟩, .int .i64 0, .int .i64 0] 42)) = w1 at *
  go_wp2_with fail
  refine (rxInD _ _).mono ?_
  rw [hd]
  rintro e w' ⟨rfl, rfl⟩
  go_wp2_with fail
  refine (rxInS _ _).mono ?_
  rw [hg]
  rintro e w' ⟨rfl, rfl⟩
  go_wp2_with fail
  refine (rxInG _ _).mono ?_
  rw [hc]
  rintro e w' ⟨rfl, rfl⟩
  go_wp2_with fail
  go_loop [10] (fun i => ∃ k : Nat, i = .int .i64 k ∧ PieceAll (fun c => nameC (c.toNat : Int)) s p k) (fun i => s.size - (intOf i).toNat)
  case atStart => exact ⟨p, rfl, PieceAll.start (by omega)⟩
  case round =>
    obtain ⟨k, rfl, hrel⟩ := hrel
    have HR := Lib.hid hrel
    have hpk := hrel.1
    have hk := hrel.2.1
    clear hrel
    by_cases hlt : k < s.size
    · by_cases hn : nameC ((s[k]'hlt).toNat : Int) = true
      · have HN := Lib.hid (HR.out.on hlt hn)
        go_wp2_with (go_at_call 31; refine (rxInner _ _).mono ?_; rintro e w' ⟨rfl, rfl⟩)
        go_round
        case rel => exact ⟨k + 1, by go_num, HN.out⟩
        case measure => simp [intOf]; omega
      · have hn : nameC ((s[k]'hlt).toNat : Int) = false := Bool.eq_false_iff.2 hn
        have HL := Lib.hid (show nameL (s.data.toList.drop p) = pieceL s p k from HR.out.stop (.inr ⟨hlt, hn⟩))
        have HT2 := HT.out
        rw [HL.out, piece_len hpk hk] at HT2
        have hpx := piece_ext hpk hk
        have hpl := piece_len hpk hk
        have hz : (ofL (pieceL s p k)).size ≤ 9223372036854775807 := by rw [ofL_size, hpl]; omega
        have HLo := Lib.hid (refLow (ofL (pieceL s p k)))
        have HWo := Lib.hid (refWord (ofL (pieceL s p k)))
        have HHi := Lib.hid (refHigh (ofL (pieceL s p k)))
        rw [ofL_list] at HLo HWo HHi
        generalize pieceL s p k = l at *
        have HTT := Lib.hid HT2
        clear HT2
        cases hb : highB l with
        | true =>
          rw [hb] at HTT HHi
          clear hb
          go_wp2_with (go_at_call 31; refine (rxInner _ _).mono ?_; rintro e w' ⟨rfl, rfl⟩)
          refine (rxInG _ _).mono ?_
          rw [hc]
          rintro e w' ⟨rfl, rfl⟩
          go_wp2_with fail
          refine (HHi.out _ hz).mono ?_
          rintro e w2 ⟨rfl, rfl⟩
          go_wp2_with (refine wpList_store_row rfl _ _ _ rfl w.heap.size _ rfl rfl _ _ HG0.out tr_info rfl (by simp [Value.oneCell']) ?_)
          exact bodyPost_ret (res_tr3 (p := 4) (u := 5) (v := 6) rfl _ _ w.heap.size ⟨2, l, 0, p⟩ rfl (HG0.out.set ⟨2, l, 0, p⟩)) rfl ⟨⟨_, _, _, rfl, by rw [HTT.out]; exact ⟨rfl, rfl, by omega⟩⟩, below_setRow HB0.out (Nat.le_refl _) _⟩
        | false =>
          rw [hb] at HTT HHi
          clear hb
          go_wp2_with (go_at_call 31; refine (rxInner _ _).mono ?_; rintro e w' ⟨rfl, rfl⟩)
          refine (rxInG _ _).mono ?_
          rw [hc]
          rintro e w' ⟨rfl, rfl⟩
          go_wp2_with fail
          refine (HHi.out _ hz).mono ?_
          rintro e w2 ⟨rfl, rfl⟩
          go_wp2_with (refine wpList_store_row rfl _ _ _ rfl w.heap.size _ rfl rfl _ _ HG0.out tr_info rfl (by simp [Value.oneCell']) ?_)
          exact bodyPost_ret (res_tr3 (p := 4) (u := 5) (v := 6) rfl _ _ w.heap.size ⟨2, l, 0, p⟩ rfl (HG0.out.set ⟨2, l, 0, p⟩)) rfl ⟨⟨_, _, _, rfl, by rw [HTT.out]; rfl⟩, below_setRow HB0.out (Nat.le_refl _) _⟩
    · have HL := Lib.hid (show nameL (s.data.toList.drop p) = pieceL s p k from HR.out.stop (.inl (by omega)))
      have HT2 := HT.out
      rw [HL.out, piece_len hpk hk] at HT2
      have hpx := piece_ext hpk hk
      have hpl := piece_len hpk hk
      have hz : (ofL (pieceL s p k)).size ≤ 9223372036854775807 := by rw [ofL_size, hpl]; omega
      have HLo := Lib.hid (refLow (ofL (pieceL s p k)))
      have HWo := Lib.hid (refWord (ofL (pieceL s p k)))
      have HHi := Lib.hid (refHigh (ofL (pieceL s p k)))
      rw [ofL_list] at HLo HWo HHi
      generalize pieceL s p k = l at *
      have HTT := Lib.hid HT2
      clear HT2
      cases hb : highB l with
      | true =>
        rw [hb] at HTT HHi
        clear hb
        go_wp2_with fail
        refine (rxInG _ _).mono ?_
        rw [hc]
        rintro e w' ⟨rfl, rfl⟩
        go_wp2_with fail
        refine (HHi.out _ hz).mono ?_
        rintro e w2 ⟨rfl, rfl⟩
        go_wp2_with (refine wpList_store_row rfl _ _ _ rfl w.heap.size _ rfl rfl _ _ HG0.out tr_info rfl (by simp [Value.oneCell']) ?_)
        exact bodyPost_ret (res_tr3 (p := 4) (u := 5) (v := 6) rfl _ _ w.heap.size ⟨2, l, 0, p⟩ rfl (HG0.out.set ⟨2, l, 0, p⟩)) rfl ⟨⟨_, _, _, rfl, by rw [HTT.out]; exact ⟨rfl, rfl, by omega⟩⟩, below_setRow HB0.out (Nat.le_refl _) _⟩
      | false =>
        rw [hb] at HTT HHi
        clear hb
        go_wp2_with fail
        refine (rxInG _ _).mono ?_
        rw [hc]
        rintro e w' ⟨rfl, rfl⟩
        go_wp2_with fail
        refine (HHi.out _ hz).mono ?_
        rintro e w2 ⟨rfl, rfl⟩
        go_wp2_with (refine wpList_store_row rfl _ _ _ rfl w.heap.size _ rfl rfl _ _ HG0.out tr_info rfl (by simp [Value.oneCell']) ?_)
        exact bodyPost_ret (res_tr3 (p := 4) (u := 5) (v := 6) rfl _ _ w.heap.size ⟨2, l, 0, p⟩ rfl (HG0.out.set ⟨2, l, 0, p⟩)) rfl ⟨⟨_, _, _, rfl, by rw [HTT.out]; rfl⟩, below_setRow HB0.out (Nat.le_refl _) _⟩

theorem rxOne (s : ByteArray) (p : Nat) (w : World) (hs : s.size ≤ 1000) (hp : p < s.size) :
    Calls Tryd.prog 16 #[.string s, .int .i64 (p : Int)] w fun e w' => OneAns s p e ∧ Below w.heap.size w w' := by
  by_cases hq : s[p]'hp = 39
  · exact rxOne_path s p w hs hp hq
  · cases h1 : smallB ((s[p]'hp).toNat : Int) with
    | true => exact rxOne_small s p w hs hp h1
    | false =>
      cases h2 : greatB ((s[p]'hp).toNat : Int) with
      | true => exact rxOne_great s p w hs hp h2
      | false =>
        have hl : letB ((s[p]'hp).toNat : Int) = false := by simp [letB, h1, h2]
        cases h3 : digitB ((s[p]'hp).toNat : Int) with
        | true => exact rxOne_num s p w hs hp hl h3
        | false => exact rxOne_mark s p w hs hp hl h3 hq
end Go.Proofs.YtkgeigckekccgaaDoor
