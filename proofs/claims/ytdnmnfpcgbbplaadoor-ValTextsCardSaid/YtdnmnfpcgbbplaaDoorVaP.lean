/- Two values of a type have one text just if they are the same. Conditions: the enums may be (nothing is wrong with them). -/
import Derived.Test.YtdnmnfpcgbbplaaDoorVaF
namespace Go.Proofs.YtdnmnfpcgbbplaaDoor
open Go.RowKit
set_option linter.unusedVariables false

/-! ### Digits -/
def dval (l : List UInt8) : Nat := l.foldl (fun a d => a * 10 + (d.toNat - 48)) 0
theorem dig_nat {u : Nat} (h : u < 10) : (UInt8.ofNat (48 + u)).toNat = 48 + u := by
  rw [UInt8.toNat_ofNat']
  exact Nat.mod_eq_of_lt (by omega)
theorem dval_dec (u : Nat) : dval (Lib.decDigits u) = u := by
  induction u using Nat.strongRecOn with
  | ind u ih =>
    by_cases h : u < 10
    · rw [Lib.decDigits_one h]
      show 0 * 10 + ((UInt8.ofNat (48 + u)).toNat - 48) = u
      rw [dig_nat h]
      omega
    · rw [Lib.decDigits, dif_neg h]
      have h1 := ih (u / 10) (by omega)
      unfold dval at h1 ⊢
      rw [List.foldl_append, h1]
      simp only [List.foldl_cons, List.foldl_nil]
      rw [dig_nat (show u % 10 < 10 by omega)]
      omega
theorem dec_range (u : Nat) : ∀ c ∈ Lib.decDigits u, 48 ≤ c.toNat ∧ c.toNat ≤ 57 := by
  induction u using Nat.strongRecOn with
  | ind u ih =>
    intro c hc
    by_cases h : u < 10
    · rw [Lib.decDigits_one h, List.mem_singleton] at hc
      subst hc
      rw [dig_nat h]
      omega
    · rw [Lib.decDigits, dif_neg h, List.mem_append] at hc
      rcases hc with hc | hc
      · exact ih (u / 10) (by omega) c hc
      · rw [List.mem_singleton] at hc
        subst hc
        rw [dig_nat (show u % 10 < 10 by omega)]
        omega
theorem itoa_apart {z y : Int} (h : Lib.itoa z = Lib.itoa y) : z = y := by
  unfold Lib.itoa at h
  by_cases hz : z < 0
  · rw [if_pos hz] at h
    by_cases hy : y < 0
    · rw [if_pos hy] at h
      injection h with _ h
      have := congrArg dval h
      rw [dval_dec, dval_dec] at this
      omega
    · rw [if_neg hy] at h
      have := dec_range y.toNat 45 (h ▸ List.mem_cons_self)
      have : (45 : UInt8).toNat = 45 := rfl
      omega
  · rw [if_neg hz] at h
    by_cases hy : y < 0
    · rw [if_pos hy] at h
      have := dec_range z.toNat 45 (h.symm ▸ List.mem_cons_self)
      have : (45 : UInt8).toNat = 45 := rfl
      omega
    · rw [if_neg hy] at h
      have := congrArg dval h
      rw [dval_dec, dval_dec] at this
      omega

/-! ### Cells -/
theorem allE_high {es : List En} (h : enumsN es = 0) : ∀ j, j < es.length → 0 < (csE es j).length ∧ ∀ x ∈ csE es j, highB x.data.toList = true := by
  unfold enumsN at h
  split at h
  · cases h
  · split at h
    · rename_i hn
      unfold namedB at hn
      rw [Bool.and_eq_true, List.all_eq_true, List.all_eq_true] at hn
      intro j hj
      refine ⟨?_, fun x hx => hn.2 x ?_⟩
      · have := hn.1 _ (List.getElem_mem hj)
        rw [enB_at hj, Bool.and_eq_true, decide_eq_true_eq] at this
        exact this.2
      · rw [← namesTo_end]
        have h1 : namesTo es (j + 1) <+: namesTo es es.length := (flatTo_pre es (j + 1) es.length (by omega)).map _
        refine h1.subset ?_
        rw [namesTo_succ]
        exact List.mem_append_right _ hx
    · cases h
theorem allE_once {es : List En} (h : enumsN es = 0) (j : Nat) (hj : j < es.length) : ((csE es j).map fun s => s.data.toList).Nodup := by
  unfold enumsN at h
  split at h
  · cases h
  · split at h
    · split at h
      · rename_i hn
        unfold apartB onceS onceB at hn
        rw [Bool.and_eq_true] at hn
        have h2 := of_decide_eq_true hn.2
        rw [← namesTo_end] at h2
        have h1 : namesTo es (j + 1) <+: namesTo es es.length := (flatTo_pre es (j + 1) es.length (by omega)).map _
        have h3 : ((namesTo es (j + 1)).map fun s => s.data.toList).Nodup := h2.sublist (h1.sublist.map _)
        rw [namesTo_succ, List.map_append, List.nodup_append] at h3
        exact h3.2.1
      · cases h
    · cases h
theorem ctor_apart {es : List En} (h : enumsN es = 0) {m q p : Nat} (hm : m < es.length) (hq : q < (csE es m).length) (hp : p < (csE es m).length) (he : (ctAt es m q).data.toList = (ctAt es m p).data.toList) : q = p := by
  have hn := allE_once h m hm
  unfold List.Nodup at hn
  rw [List.pairwise_iff_getElem] at hn
  unfold ctAt at he
  rw [List.getElem?_eq_getElem hq, List.getElem?_eq_getElem hp, Option.getD_some, Option.getD_some] at he
  rcases Nat.lt_trichotomy q p with h1 | h1 | h1
  · exact absurd (by rw [List.getElem_map, List.getElem_map]; exact he) (hn q p (by simpa using hq) (by simpa using hp) h1)
  · exact h1
  · exact absurd (by rw [List.getElem_map, List.getElem_map]; exact he.symm) (hn p q (by simpa using hp) (by simpa using hq) h1)
theorem cell_apart {es : List En} (h : enumsN es = 0) {k e l z y : Int} (hz : oneB es k e l z = true) (hy : oneB es k e l y = true) (he : (cellT es k e z).data.toList = (cellT es k e y).data.toList) : z = y := by
  rcases one_cases hz with rfl | ⟨rfl, h1⟩ | ⟨rfl, m, q, rfl, hm, rfl, hq⟩
  · exact itoa_apart (by simpa [cellT_int] using he)
  · rcases one_cases hy with h2 | ⟨_, h2⟩ | ⟨h2, _⟩
    · cases h2
    · rcases h1 with rfl | rfl <;> rcases h2 with rfl | rfl
      · rfl
      · exact absurd he (by rw [cellT_true, cellT_false (by decide)]; decide)
      · exact absurd he (by rw [cellT_true, cellT_false (by decide)]; decide)
      · rfl
    · cases h2
  · rcases one_cases hy with h2 | ⟨h2, _⟩ | ⟨_, m', p, h1, _, rfl, hp⟩
    · cases h2
    · cases h2
    · obtain rfl : m = m' := by omega
      rw [cellT_ctor, cellT_ctor] at he
      rw [ctor_apart h hm hq hp he]
/-- No cell's text has a comma. -/
theorem cell_plain {es : List En} (h : enumsN es = 0) {k e l z : Int} (hz : oneB es k e l z = true) : (44 : UInt8) ∉ (cellT es k e z).data.toList := by
  have h44 : (44 : UInt8).toNat = 44 := rfl
  rcases one_cases hz with rfl | ⟨rfl, rfl | rfl⟩ | ⟨rfl, m, q, rfl, hm, rfl, hq⟩
  · intro hc
    have hc : (44 : UInt8) ∈ Lib.itoa z := by simpa [cellT_int] using hc
    unfold Lib.itoa at hc
    split at hc
    · rw [List.mem_cons] at hc
      rcases hc with hc | hc
      · cases hc
      · have := dec_range _ _ hc
        omega
    · have := dec_range _ _ hc
      omega
  · rw [cellT_false (by decide)]
    decide
  · rw [cellT_true]
    decide
  · rw [cellT_ctor]
    intro hc
    have hx : ctAt es m q ∈ csE es m := by
      unfold ctAt
      rw [List.getElem?_eq_getElem hq]
      exact List.getElem_mem hq
    have hh := (allE_high h m hm).2 _ hx
    unfold highB nameB at hh
    simp only [Bool.and_eq_true, List.all_eq_true] at hh
    have := hh.2 _ hc
    rw [h44] at this
    revert this
    decide

/-! ### Commas -/
theorem cut_comma : ∀ {x x' S S' : List UInt8}, (44 : UInt8) ∉ x → (44 : UInt8) ∉ x' → x ++ 44 :: S = x' ++ 44 :: S' → x = x' ∧ S = S'
  | [], [], S, S', _, _, h => by simpa using h
  | [], a :: x', S, S', _, h2, h => by
    injection h with h _
    exact absurd (h ▸ List.mem_cons_self) h2
  | a :: x, [], S, S', h1, _, h => by
    injection h with h _
    exact absurd (h.symm ▸ List.mem_cons_self) h1
  | a :: x, b :: x', S, S', h1, h2, h => by
    injection h with h h'
    subst h
    obtain ⟨e1, e2⟩ := cut_comma (fun hc => h1 (List.mem_cons_of_mem _ hc)) (fun hc => h2 (List.mem_cons_of_mem _ hc)) h'
    exact ⟨by rw [e1], e2⟩
theorem join_apart : ∀ {L M : List (List UInt8)}, L.length = M.length → (∀ x ∈ L, (44 : UInt8) ∉ x) → (∀ x ∈ M, (44 : UInt8) ∉ x) → Lib.join L [44] = Lib.join M [44] → L = M
  | [], [], _, _, _, _ => rfl
  | [], _ :: _, h, _, _, _ => by simp at h
  | _ :: _, [], h, _, _, _ => by simp at h
  | [x], [y], _, _, _, h => by simpa [Lib.join_one] using h
  | [_], _ :: _ :: _, h, _, _, _ => by simp at h
  | _ :: _ :: _, [_], h, _, _, _ => by simp at h
  | x :: x2 :: L, y :: y2 :: M, hl, h1, h2, h => by
    have e : ∀ (a b : List UInt8) (r : List (List UInt8)), Lib.join (a :: b :: r) [44] = a ++ 44 :: Lib.join (b :: r) [44] := fun a b r => by
      rw [Lib.join_cons, Lib.join_cons]
      simp [Lib.joinTail]
    rw [e, e] at h
    obtain ⟨e1, e2⟩ := cut_comma (h1 x List.mem_cons_self) (h2 y List.mem_cons_self) h
    rw [e1, join_apart (L := x2 :: L) (M := y2 :: M) (by simpa using hl) (fun a ha => h1 a (List.mem_cons_of_mem _ ha)) (fun a ha => h2 a (List.mem_cons_of_mem _ ha)) e2]

/-- Two values of a type have one text just if they are the same. -/
theorem text_apart {es : List En} (h : enumsN es = 0) {k e l : Int} {zs ys : List Int} (hz : rightVB es k e l zs = true) (hy : rightVB es k e l ys = true) : ((valT es k e l zs).toList == (valT es k e l ys).toList) = sameB zs ys := by
  obtain ⟨hzl, hz1⟩ := rightV_at hz
  obtain ⟨hyl, hy1⟩ := rightV_at hy
  have hlen : zs.length = ys.length := by omega
  have hzo : ∀ j, j < zs.length → oneB es k e l (zs[j]?.getD 0) = true := fun j hj => hz1 j hj
  have hyo : ∀ j, j < ys.length → oneB es k e l (ys[j]?.getD 0) = true := fun j hj => hy1 j hj
  rw [Bool.eq_iff_iff, beq_iff_eq, Lib.toList_data, Lib.toList_data]
  unfold sameB
  rw [decide_eq_true_eq]
  refine ⟨fun he => ?_, fun he => by rw [he]⟩
  have hall : ∀ j, j < zs.length → zs[j]?.getD 0 = ys[j]?.getD 0 := by
    by_cases hl : l = 0
    · subst hl
      have h1 : cellsN 0 = 1 := by decide
      rw [valT_one hz, valT_one hy] at he
      intro j hj
      obtain rfl : j = 0 := by omega
      exact cell_apart h (hzo 0 (by omega)) (hyo 0 (by omega)) he
    · rw [valT_many hz hl, valT_many hy hl] at he
      have he : listT es k e zs = listT es k e ys := by simpa using he
      unfold listT at he
      have hmem : ∀ (xs : List Int), (∀ j, j < xs.length → oneB es k e l (xs[j]?.getD 0) = true) → ∀ x ∈ xs.map (fun z => (cellT es k e z).data.toList), (44 : UInt8) ∉ x := fun xs hxs x hx => by
        obtain ⟨z, hz, rfl⟩ := List.mem_map.1 hx
        obtain ⟨j, hj, rfl⟩ := List.getElem_of_mem hz
        have := hxs j hj
        rw [List.getElem?_eq_getElem hj, Option.getD_some] at this
        exact cell_plain h this
      have hmm := join_apart (by simpa using hlen) (hmem zs hzo) (hmem ys hyo) he
      intro j hj
      have h3 := congrArg (·[j]?) hmm
      have hj' : j < ys.length := by omega
      simp only [List.getElem?_map, List.getElem?_eq_getElem hj, List.getElem?_eq_getElem hj', Option.map_some, Option.some.injEq] at h3
      have ha := hzo j hj
      have hb := hyo j hj'
      rw [List.getElem?_eq_getElem hj, Option.getD_some] at ha ⊢
      rw [List.getElem?_eq_getElem hj', Option.getD_some] at hb ⊢
      exact cell_apart h ha hb h3
  refine List.ext_getElem hlen fun j h1 h2 => ?_
  have := hall j h1
  rwa [List.getElem?_eq_getElem h1, List.getElem?_eq_getElem h2] at this

/-- Zeros are a value of each right type whose enum has a constructor. -/
theorem zeros_right {es : List En} (h : enumsN es = 0) {k e l : Int} (hr : rightB es.length k e l = true) : rightVB es k e l (zerosL l) = true := by
  have hp := cellsN_pos l
  have hl : ((zerosL l).length : Int) = cellsN l := by simp [zerosL]; omega
  refine rightV_yes hl (i := (zerosL l).length) (fun j hj => ?_) (Nat.le_refl _)
  have hz : (zerosL l)[j]?.getD 0 = 0 := by
    rw [List.getElem?_eq_getElem hj, Option.getD_some]
    simp [zerosL]
  unfold oneAt
  rw [hz]
  obtain ⟨_, hk⟩ := right_cases hr
  rcases hk with rfl | rfl | ⟨rfl, m, rfl, hm⟩
  · exact one_int hr
  · rw [one_bool hr]
    decide
  · rw [one_enum hr]
    have := (allE_high h m hm).1
    exact decide_eq_true (by omega)
end Go.Proofs.YtdnmnfpcgbbplaaDoor
