/- What take and Num do, of a Reader and of the reference's. Conditions: none. -/
import Derived.Test.YtjihgpjpmfeakaaRdA
namespace Go.Proofs.Ytjihgpjpmfeakaa
open Go.RowKit
set_option linter.unusedVariables false

/-- What a reading of bytes leaves: bytes are told, the Reader goes on. -/
def Tells (w : World) (b : Nat) (A : Option Addr) (n c : Nat) (l : List Int) (r : Option Nat × List Int) (e : Ending) (w' : World) : Prop :=
  ∃ A' n' c', e = .returned (.slice A' n' c') ∧ Rd .u8 w' A' n' c' r.2 ∧ RdrAt w' b A n c l r.1 ∧ w.grownBy w' (some b)
def TellsR (w : World) (b : Nat) (A : Option Addr) (n c : Nat) (l : List Int) (r : Option Nat × List Int) (e : Ending) (w' : World) : Prop :=
  ∃ A' n' c', e = .returned (.slice A' n' c') ∧ Rd .u8 w' A' n' c' r.2 ∧ RefAt w' b A n c l r.1 ∧ w.grownBy w' (some b)

/-- A piece of what reads. -/
theorem Rd.piece {k : IntKind} {w : World} {A : Option Addr} {n c : Nat} {l : List Int} (h : Rd k w A n c l) {p m c' : Nat} (hm : p + m ≤ n) (hc : m ≤ c') (hcm : c' ≤ maxLen) {A' : Option Addr}
    (hA : 0 < m → ∀ b off, A = some ⟨b, off, none⟩ → A' = some ⟨b, off + p, none⟩) : Rd k w A' m c' ((l.drop p).take m) := by
  have hl := h.len
  refine ⟨by rw [List.length_take, List.length_drop]; omega, hc, hcm, fun z hz => h.2.2.2.1 z (List.mem_of_mem_drop (List.mem_of_mem_take hz)), fun h0 => ?_⟩
  obtain ⟨b, off, e, hb, hcell⟩ := h.at_ (i := 0) (by omega)
  refine ⟨b, off + p, hA h0 b off e, hb, fun i hi => ?_⟩
  rw [Nat.add_assoc, hcell _ (by omega), List.getElem?_take, if_pos hi, List.getElem?_drop]

set_option maxHeartbeats 800000 in
theorem rdTake_no (b : Nat) (A : Option Addr) (n c : Nat) (l : List Int) (k : Int) (w : World) (h : RdrAt w b A n c l none) :
    Calls Try.prog 36 #[.pointer (some ⟨b, 0, none⟩), .int .i64 k] w fun e w' => Tells w b A n c l (none, []) e w' := by
  have H := Lib.hid h
  clear h
  go_enter Try.func36, Try.ntmps36
  go_wp2_with fail
  refine (rdOk_no b A n c l _ H.out).mono ?_
  rintro e w' ⟨rfl, rfl⟩
  go_wp2_with fail
  go_ret
  exact ⟨none, 0, 0, rfl, Rd.nil_ _ _, H.out, World.grownBy.refl _ _⟩

set_option maxHeartbeats 800000 in
theorem rdTake_over (b : Nat) (A : Option Addr) (n c : Nat) (l : List Int) (p k : Nat) (w : World) (h : RdrAt w b A n c l (some p)) (hk : ¬ p + k ≤ n) :
    Calls Try.prog 36 #[.pointer (some ⟨b, 0, none⟩), .int .i64 k] w fun e w' => Tells w b A n c l (none, []) e w' := by
  have h0 := h.c0
  have h1 := h.c1
  have h2 := h.c2
  have f0 := h.fz 0
  have hle := h.le
  have hm := h.rd.max
  have H := Lib.hid h
  clear h
  have hs : IntKind.i64.wrap ((n : Int) - p) = (n : Int) - p := by rw [IntKind.wrap_i64]; omega
  have hgt : decide ((n : Int) - p < k) = true := by simp; omega
  go_enter Try.func36, Try.ntmps36
  go_wp2_with fail
  refine (rdOk_yes b A n c l _ _ H.out).mono ?_
  rintro e w' ⟨rfl, rfl⟩
  go_wp2_with fail
  go_quiet (fail)
  go_wp2_with fail
  refine (stFail b (w.drewN nq) _ h0 f0).mono ?_
  rintro e w' ⟨rfl, rfl⟩
  go_wp2_with fail
  go_ret
  exact ⟨none, 0, 0, rfl, Rd.nil_ _ _, (H.out.drewN nq).fails, grown_set (grown_drewN (World.grownBy.refl _ _) nq) _ _⟩

theorem add_plain (b off p : Nat) : (⟨b, off, none⟩ : Addr).add p = ⟨b, off + p, none⟩ := by unfold Addr.add; split <;> simp_all

set_option maxHeartbeats 800000 in
theorem rdTake_yes (b : Nat) (A : Option Addr) (n c : Nat) (l : List Int) (p k : Nat) (w : World) (h : RdrAt w b A n c l (some p)) (hk : p + k ≤ n) :
    Calls Try.prog 36 #[.pointer (some ⟨b, 0, none⟩), .int .i64 k] w fun e w' => Tells w b A n c l (some (p + k), (l.drop p).take k) e w' := by
  have h0 := h.c0
  have h1 := h.c1
  have h2 := h.c2
  have f2 := h.fz 2
  have hle := h.le
  have hm := h.rd.max
  have hnc := h.rd.le
  have H := Lib.hid h
  clear h
  have hs : IntKind.i64.wrap ((n : Int) - p) = (n : Int) - p := by rw [IntKind.wrap_i64]; omega
  have hgt : decide ((n : Int) - p < k) = false := by simp; omega
  have hw : IntKind.i64.wrap ((p : Int) + k) = ((p + k : Nat) : Int) := by rw [IntKind.wrap_i64]; omega
  have HM := Lib.hid (fun m => (H.out.drewN m).moves (q := p + k) hk)
  have HP := Lib.hid (fun (w' : World) (A' : Option Addr) (hr : Rd .u8 w' A n c l) (hA : A' = A.map (·.add p) ∨ k = 0) => hr.piece (p := p) (m := k) (c' := k) hk (Nat.le_refl _) (by unfold maxLen; omega) (A' := A') fun h0 b off e => by
    rcases hA with rfl | h
    · subst e; simp [add_plain]
    · omega)
  rw [Int.natCast_add] at HM
  have H0 := Lib.hid (fun m => (H.out.drewN m).moves (q := p) hle)
  rcases Nat.eq_zero_or_pos k with rfl | hk0
  · go_enter Try.func36, Try.ntmps36
    go_wp2_with fail
    refine (rdOk_yes b A n c l _ _ H.out).mono ?_
    rintro e w' ⟨rfl, rfl⟩
    go_wp2_with fail
    go_quiet (fail)
    go_wp2_with fail
    go_quiet (fail)
    go_wp2_with fail
    go_ret
    exact ⟨A, 0, 0, rfl, HP.out _ _ (H0.out _).rd (.inr trivial), H0.out _, grown_set (grown_drewN (World.grownBy.refl _ _) _) _ _⟩
  · have hk1 : ¬ p + k = p := by omega
    have hk2 : ¬ k = 0 := by omega
    go_enter Try.func36, Try.ntmps36
    go_wp2_with fail
    refine (rdOk_yes b A n c l _ _ H.out).mono ?_
    rintro e w' ⟨rfl, rfl⟩
    go_wp2_with fail
    go_quiet (fail)
    go_wp2_with fail
    go_quiet (fail)
    go_wp2_with fail
    go_ret
    exact ⟨A.map (·.add p), k, k, (show Ending.returned (.slice _ (p + k - p) (p + k - p)) = _ by rw [show p + k - p = k from by omega]), HP.out _ _ (HM.out _).rd (.inl rfl), HM.out _, grown_set (grown_drewN (World.grownBy.refl _ _) _) _ _⟩

theorem rdTake (b : Nat) (A : Option Addr) (n c : Nat) (l : List Int) (s : Option Nat) (k : Nat) (w : World) (h : RdrAt w b A n c l s) :
    Calls Try.prog 36 #[.pointer (some ⟨b, 0, none⟩), .int .i64 k] w fun e w' => Tells w b A n c l (takeS l s k) e w' := by
  cases s with
  | none => exact rdTake_no b A n c l k w h
  | some p =>
    by_cases hk : p + k ≤ n
    · rw [takeS_yes (by rw [h.rd.len]; exact hk)]
      exact rdTake_yes b A n c l p k w h hk
    · rw [takeS_no (by rw [h.rd.len]; exact hk)]
      exact rdTake_over b A n c l p k w h hk

theorem rd_byt {w : World} {A : Option Addr} {n c : Nat} {l : List Int} (h : Rd .u8 w A n c l) : ∀ z ∈ l, 0 ≤ z ∧ z ≤ 255 := rd_bytes h

theorem num_wrap {w : World} {A : Option Addr} {n c : Nat} {l : List Int} (h : Rd .u8 w A n c l) (s : Option Nat) {k : Nat} (h1 : 1 ≤ k) (h4 : k ≤ 4) : IntKind.i64.wrap (getL (takeS l s k).2) = (numS l s k).2 := by
  have := numS_bd (rd_bytes h) s k
  rw [numS_yes l s h1 h4] at this ⊢
  rw [IntKind.wrap_i64]
  simp at this ⊢
  omega

/-- What a reading of a number leaves. -/
def Nums (k : IntKind) (w : World) (b : Nat) (A : Option Addr) (n c : Nat) (l : List Int) (r : Option Nat × Int) (e : Ending) (w' : World) : Prop :=
  e = .returned (.int k r.2) ∧ RdrAt w' b A n c l r.1 ∧ w.grownBy w' (some b)
def NumsR (k : IntKind) (w : World) (b : Nat) (A : Option Addr) (n c : Nat) (l : List Int) (r : Option Nat × Int) (e : Ending) (w' : World) : Prop :=
  e = .returned (.int k r.2) ∧ RefAt w' b A n c l r.1 ∧ w.grownBy w' (some b)

set_option maxHeartbeats 800000 in
theorem rdNum_none (b : Nat) (A : Option Addr) (n c : Nat) (l : List Int) (k : Int) (w : World) (h : RdrAt w b A n c l none) :
    Calls Try.prog 9 #[.pointer (some ⟨b, 0, none⟩), .int .i64 k] w fun e w' => Nums .i64 w b A n c l (none, 0) e w' := by
  have H := Lib.hid h
  clear h
  go_enter Try.func9, Try.ntmps9
  go_wp2_with fail
  refine (rdOk_no b A n c l _ H.out).mono ?_
  rintro e w' ⟨rfl, rfl⟩
  go_wp2_with fail
  go_ret
  exact ⟨rfl, H.out, World.grownBy.refl _ _⟩

set_option maxHeartbeats 800000 in
theorem rdNum_nil (k : Int) (w : World) :
    Calls Try.prog 9 #[.pointer none, .int .i64 k] w fun e w' => e = .returned (.int .i64 0) ∧ w = w' := by
  go_enter Try.func9, Try.ntmps9
  go_wp2_with fail
  refine (rdOk_nil _).mono ?_
  rintro e w' ⟨rfl, rfl⟩
  go_wp2_with fail
  go_ret
  exact ⟨rfl, rfl⟩

set_option maxHeartbeats 800000 in
theorem rdNum_out (b : Nat) (A : Option Addr) (n c : Nat) (l : List Int) (p : Nat) (k : Int) (w : World) (h : RdrAt w b A n c l (some p)) (hk : ¬ (1 ≤ k ∧ k ≤ 4)) :
    Calls Try.prog 9 #[.pointer (some ⟨b, 0, none⟩), .int .i64 k] w fun e w' => Nums .i64 w b A n c l (none, 0) e w' := by
  have h0 := h.c0
  have f0 := h.fz 0
  have H := Lib.hid h
  clear h
  have hk' : k < 1 ∨ ¬ k < 1 ∧ 4 < k := by omega
  clear hk
  rcases hk' with k1 | ⟨k1, k4⟩
  all_goals
    go_enter Try.func9, Try.ntmps9
    go_wp2_with fail
    refine (rdOk_yes b A n c l _ _ H.out).mono ?_
    rintro e w' ⟨rfl, rfl⟩
    go_wp2_with fail
    refine (stFail b w _ h0 f0).mono ?_
    rintro e w' ⟨rfl, rfl⟩
    go_wp2_with fail
    go_ret
    exact ⟨rfl, H.out.fails, set_grown _ _ _ _⟩

set_option maxHeartbeats 800000 in
theorem rdNum_in (b : Nat) (A : Option Addr) (n c : Nat) (l : List Int) (p k : Nat) (w : World) (h : RdrAt w b A n c l (some p)) (h1 : 1 ≤ k) (h4 : k ≤ 4) :
    Calls Try.prog 9 #[.pointer (some ⟨b, 0, none⟩), .int .i64 k] w fun e w' => Nums .i64 w b A n c l (numS l (some p) k) e w' := by
  have H := Lib.hid h
  have HW := Lib.hid (num_wrap h.rd (some p) h1 h4)
  have HE := Lib.hid (numS_yes l (some p) h1 h4)
  clear h
  have k1 : ¬ (k : Int) < 1 := by omega
  have k4 : ¬ 4 < (k : Int) := by omega
  go_enter Try.func9, Try.ntmps9
  go_wp2_with fail
  refine (rdOk_yes b A n c l _ _ H.out).mono ?_
  rintro e w' ⟨rfl, rfl⟩
  go_wp2_with fail
  refine (rdTake b A n c l _ k _ H.out).mono ?_
  rintro e w' ⟨A', n', c', rfl, hrd, hat, hg⟩
  have HT := Lib.hid hat
  have HG := Lib.hid hg
  clear hat hg
  go_wp2_with fail
  refine (octGet _ _ _ _ _ hrd).mono ?_
  rintro e w2 ⟨rfl, rfl⟩
  clear hrd
  go_wp2_with fail
  go_ret
  refine ⟨ret_int ?_, by rw [HE.out]; exact HT.out, HG.out⟩
  rw [← HW.out, IntKind.wrap_i64]
  unfold wrap64
  first | rfl | omega

theorem rdNum (b : Nat) (A : Option Addr) (n c : Nat) (l : List Int) (s : Option Nat) (k : Int) (w : World) (h : RdrAt w b A n c l s) :
    Calls Try.prog 9 #[.pointer (some ⟨b, 0, none⟩), .int .i64 k] w fun e w' => Nums .i64 w b A n c l (numS l s k) e w' := by
  cases s with
  | none => rw [numS_none]; exact rdNum_none b A n c l k w h
  | some p =>
    by_cases hk : 1 ≤ k ∧ k ≤ 4
    · obtain ⟨j, rfl⟩ := Int.eq_ofNat_of_zero_le (show 0 ≤ k by omega)
      exact rdNum_in b A n c l p j w h (by omega) (by omega)
    · rw [numS_no _ _ hk]
      exact rdNum_out b A n c l p k w h hk
end Go.Proofs.Ytjihgpjpmfeakaa
