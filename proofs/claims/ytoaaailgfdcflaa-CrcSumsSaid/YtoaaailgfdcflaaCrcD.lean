/- Add, Value and Of of crc. Conditions: none. -/
import Derived.Test.YtoaaailgfdcflaaCrcC
import Derived.StillTailTactics
namespace Go.Proofs.Ytoaaailgfdcflaa
open Go.RowKit
set_option linter.unusedVariables false
set_option maxRecDepth 100000

/-- Block b is a Sum that New made; its register holds r. -/
def Sum (w : World) (b r : Nat) : Prop := SumAt w b true r 0 0 (fun _ => 0) ∨ SumAt w b true r 1 0 full
/-- The slice, if it has items, does not lie in block b. -/
def Off (A : Option Addr) (n b : Nat) : Prop := 0 < n → ∀ a, A = some a → a.block ≠ b

theorem Sum.lt {w : World} {b r : Nat} (h : Sum w b r) : b < w.heap.size := h.elim SumAt.lt SumAt.lt
theorem Sum.drewN {w : World} {b r : Nat} (h : Sum w b r) (n : Nat) : Sum (w.drewN n) b r := h
theorem Sum.kept {w w' : World} {b r : Nat} {row : Option Nat} (h : Sum w b r) (hg : w.grownBy w' row) (hne : some b ≠ row) : Sum w' b r :=
  h.imp (fun h => h.kept hg hne) (fun h => h.kept hg hne)
theorem Sum.below {w w' : World} {b r : Nat} (h : Sum w b r) (hg : Below w.heap.size w w') : Sum w' b r :=
  h.imp (fun h' => h'.below hg h.lt) (fun h' => h'.below hg h.lt)
theorem Rd.grown {k : IntKind} {w w' : World} {A : Option Addr} {n c b : Nat} {l : List Int} (h : Rd k w A n c l) (hg : w.grownBy w' (some b)) (hne : Off A n b) : Rd k w' A n c l :=
  ⟨h.1, h.2.1, h.2.2.1, h.2.2.2.1, fun hn => by
    obtain ⟨b', off, e, hb, hc⟩ := h.2.2.2.2 hn
    have hnb : b' ≠ b := hne hn _ e
    exact ⟨b', off, e, Nat.lt_of_lt_of_le hb hg.size, fun i hi => (World.cell?_of_block (a := ⟨b', off + i, none⟩) (hg.block b' hb fun x => hnb (by simpa using x))).trans (hc i hi)⟩⟩

theorem not_reg {r : Nat} (hr : r < 4294967296) : bits .xor .u32 IntKind.u32.max (r : Int) = ((4294967295 - r : Nat) : Int) := by
  rw [show IntKind.u32.max = ((4294967295 : Nat) : Int) from rfl, u32_xor_nat _ _ (by decide) hr, not_sub hr]

theorem value_sum (b r : Nat) (d s : Int) (t : Nat → Int) (w : World) (h : SumAt w b true r d s t) (hr : r < 4294967296) :
    Calls Try.prog 9 #[.pointer (some ⟨b, 0, none⟩)] w fun e w' => e = .returned (.int .u32 (4294967295 - r : Nat)) ∧ w = w' := by
  have hc0 := h.c0
  have hc1 := h.c1
  clear h
  go_enter Try.func9, Try.ntmps9
  go_wp2_with fail
  go_ret
  exact ⟨ret_int (not_reg hr), rfl⟩

theorem value_nil (w : World) :
    Calls Try.prog 9 #[.pointer none] w fun e w' => e = .returned (.int .u32 0) ∧ w = w' := by
  go_enter Try.func9, Try.ntmps9
  go_wp2_with fail
  go_ret
  exact ⟨rfl, rfl⟩

theorem value_not (b : Nat) (r d s : Int) (t : Nat → Int) (w : World) (h : SumAt w b false r d s t) :
    Calls Try.prog 9 #[.pointer (some ⟨b, 0, none⟩)] w fun e w' => e = .returned (.int .u32 0) ∧ w = w' := by
  have hc0 := h.c0
  clear h
  go_enter Try.func9, Try.ntmps9
  go_wp2_with fail
  go_ret
  exact ⟨rfl, rfl⟩

theorem add_nil (A : Option Addr) (n c : Nat) (w : World) :
    Calls Try.prog 8 #[.pointer none, .slice A n c] w fun e w' => e = .returned (.tuple #[]) ∧ w = w' := by
  go_enter Try.func8, Try.ntmps8
  go_wp2_with fail
  first | go_end0 | refine bodyPost_ret (results_none rfl _ _ _) rfl ?_
  exact ⟨rfl, rfl⟩
theorem add_not (b : Nat) (r d s : Int) (t : Nat → Int) (A : Option Addr) (n c : Nat) (w : World) (h : SumAt w b false r d s t) :
    Calls Try.prog 8 #[.pointer (some ⟨b, 0, none⟩), .slice A n c] w fun e w' => e = .returned (.tuple #[]) ∧ w = w' := by
  have hc0 := h.c0
  clear h
  go_enter Try.func8, Try.ntmps8
  go_wp2_with fail
  first | go_end0 | refine bodyPost_ret (results_none rfl _ _ _) rfl ?_
  exact ⟨rfl, rfl⟩
theorem add_none (b : Nat) (r d s : Int) (t : Nat → Int) (A : Option Addr) (c : Nat) (w : World) (h : SumAt w b true r d s t) :
    Calls Try.prog 8 #[.pointer (some ⟨b, 0, none⟩), .slice A 0 c] w fun e w' => e = .returned (.tuple #[]) ∧ w = w' := by
  have hc0 := h.c0
  clear h
  go_enter Try.func8, Try.ntmps8
  go_wp2_with fail
  first | go_end0 | refine bodyPost_ret (results_none rfl _ _ _) rfl ?_
  exact ⟨rfl, rfl⟩

theorem do_any (b r : Nat) (w : World) (h : Sum w b r) :
    Calls Try.prog 17 #[.pointer (some ⟨b, 2, none⟩), .func (.func 18) #[.pointer (some ⟨b, 0, none⟩)] #[]] w fun e w' => e = .returned (.tuple #[]) ∧ SumAt w' b true r 1 0 full ∧ w.grownBy w' (some b) := by
  rcases h with h | h
  · exact do_first b true r _ w h
  · refine (do_done b true r _ _ w h).mono ?_
    rintro e w' ⟨rfl, rfl⟩
    exact ⟨rfl, h, World.grownBy.refl _ _⟩

theorem Sum.c0 {w : World} {b r : Nat} (h : Sum w b r) : w.cell? ⟨b, 0, none⟩ = some (.bool true) := h.elim SumAt.c0 SumAt.c0

theorem xor_byte {r : Nat} {x : Int} (hx : 0 ≤ x ∧ x ≤ 255) : bits .xor .u8 ((r : Int) % 256) x = ((r % 256 ^^^ x.toNat : Nat) : Int) := by
  obtain ⟨y, rfl⟩ := Int.eq_ofNat_of_zero_le hx.1
  rw [show ((r : Int) % 256) = ((r % 256 : Nat) : Int) from by omega, u8_xor_nat _ _ (by omega) (by omega)]
  rfl

theorem tab_int {q p : Nat} (hq : q < 4294967296) (hp : p < 256) : bits .xor .u32 ((q : Int) / 256) (full p) = ((q / 256 ^^^ stps 8 p : Nat) : Int) := by
  rw [show ((q : Int) / 256) = ((q / 256 : Nat) : Int) from by omega, full, u32_xor_nat _ _ (by omega) (stps_lt 8 (by omega))]

theorem Rd.off {k : IntKind} {w : World} {A : Option Addr} {n c b : Nat} {l : List Int} (h : Rd k w A n c l) (hb : w.heap.size ≤ b) : Off A n b := by
  intro hn a e
  obtain ⟨b', off, e', hlt, _⟩ := h.at_ hn
  rw [e'] at e
  injection e with e
  subst e
  show b' ≠ b
  omega

set_option maxHeartbeats 800000 in
theorem add_some (b r : Nat) (A : Option Addr) (n c : Nat) (l : List Int) (w : World) (H : Hid (Sum w b r)) (h : Rd .u8 w A n c l) (HO : Hid (Off A n b)) (hr : r < 4294967296) (hn : 0 < n) :
    Calls Try.prog 8 #[.pointer (some ⟨b, 0, none⟩), .slice A n c] w fun e w' => e = .returned (.tuple #[]) ∧ SumAt w' b true (regF r l : Nat) 1 0 full ∧ w.grownBy w' (some b) := by
  have hc0 := H.out.c0
  have hm := h.max
  have HL := Lib.hid h.len
  have hn0 : ((n : Int) == 0) = false := by simp; omega
  have hmf : ∀ (fn : Fn) (first cap : Array Value) (w : World), (Instr.makeFunc fn first cap).run Try.prog w = .ok (.func fn first cap) w := fun _ _ _ _ => rfl
  have HR := Lib.hid h
  have HB := Lib.hid (show Byt l from fun z hz => by simpa [Lit.wf, IntKind.min, IntKind.max, IntKind.signed, IntKind.bits] using h.2.2.2.1 z hz)
  clear h
  go_enter Try.func8, Try.ntmps8
  go_wp2_with fail
  refine (do_any b r _ H.out).mono ?_
  rintro e w1 ⟨rfl, hs1, hg1⟩
  have HR1 := Lib.hid (HR.out.grown hg1 HO.out)
  have HS1 := Lib.hid hs1
  have HG1 := Lib.hid hg1
  clear hs1 hg1 hc0 hn0 hmf
  go_wp2_with fail
  go_loopw [5, 28] (fun _ i wr => ∃ k : Nat, k ≤ n ∧ i = .int .i64 k ∧ SumAt wr b true (regF r (l.take k) : Nat) 1 0 full ∧ w.grownBy wr (some b)) (fun _ i _ => n - (intOf i).toNat)
  case atStart => exact ⟨0, by omega, rfl, HS1.out, HG1.out⟩
  case round =>
    obtain ⟨k, hk, rfl, hs, hg⟩ := hrel
    have HS := Lib.hid hs
    have HG := Lib.hid hg
    have HRr := Lib.hid (HR.out.grown hg HO.out)
    clear hs hg
    by_cases hlt : k < n
    · have hq := regF_lt (l := l.take k) (r := r) (fun z hz => HB.out z (List.mem_of_mem_take hz)) hr
      have HT := Lib.hid (show regF r (l.take (k + 1)) = stps 8 (regF r (l.take k) ^^^ (l[k]?.getD 0).toNat) from by rw [take_snoc (by rw [HL.out]; exact hlt), regF_snoc])
      generalize regF r (l.take k) = q at *
      obtain ⟨b', off, rfl, hb', hcx⟩ := HRr.out.at_ hlt
      have hx := HRr.out.u8 hlt
      have hcx := hcx k hlt
      have hlt2 : q % 256 ^^^ (l[k]?.getD 0).toNat < 256 := Nat.xor_lt_two_pow (n := 8) (by omega) (by omega)
      have hc1 := HS.out.c1
      have hf1 := HS.out.fz 1
      have hct := HS.out.c5 hlt2
      have hw8 : IntKind.u8.wrap (q : Int) = (q : Int) % 256 := IntKind.wrap_u8' _
      have hxr := xor_byte (r := q) hx
      have HTS := Lib.hid (tab_step q (l[k]?.getD 0).toNat)
      generalize q % 256 ^^^ (l[k]?.getD 0).toNat = p at *
      have hpi : (p : Int) < 256 := by omega
      go_wp2_with fail
      go_still_tail 21, (by kernel_rfl)
      change wpList _ _ _ _ _ wr.drew
      go_wp2_with fail
      go_roundw
      case rel => exact ⟨k + 1, by omega, by go_num, by rw [HT.out, HTS.out, ← tab_int hq hlt2]; exact (HS.out.setR _).drew, grown_drew (grown_set HG.out _ _)⟩
      case measure => simp [intOf]; omega
    · obtain rfl : k = n := by omega
      go_wp2_with fail
      first | go_end0 | refine bodyPost_ret (results_none rfl _ _ _) rfl ?_
      refine ⟨rfl, ?_, HG.out⟩
      have := HS.out
      rw [List.take_of_length_le (by rw [HL.out]; omega)] at this
      exact this

theorem add_any (b r : Nat) (A : Option Addr) (n c : Nat) (l : List Int) (w : World) (H : Hid (Sum w b r)) (h : Rd .u8 w A n c l) (HO : Hid (Off A n b)) (hr : r < 4294967296) :
    Calls Try.prog 8 #[.pointer (some ⟨b, 0, none⟩), .slice A n c] w fun e w' => e = .returned (.tuple #[]) ∧ Sum w' b (regF r l) ∧ w.grownBy w' (some b) := by
  rcases Nat.eq_zero_or_pos n with hn | hn
  · subst hn
    obtain rfl : l = [] := List.eq_nil_of_length_eq_zero h.len
    obtain ⟨d, s, t, hs⟩ : ∃ d s t, SumAt w b true r d s t := H.out.elim (fun h => ⟨_, _, _, h⟩) (fun h => ⟨_, _, _, h⟩)
    refine (add_none b r d s t A c w hs).mono ?_
    rintro e w' ⟨rfl, rfl⟩
    exact ⟨rfl, H.out, World.grownBy.refl _ _⟩
  · refine (add_some b r A n c l w H h HO hr hn).mono ?_
    rintro e w' ⟨rfl, hs, hg⟩
    exact ⟨rfl, .inr hs, hg⟩

theorem value_any (b r : Nat) (w : World) (H : Hid (Sum w b r)) (hr : r < 4294967296) :
    Calls Try.prog 9 #[.pointer (some ⟨b, 0, none⟩)] w fun e w' => e = .returned (.int .u32 (4294967295 - r : Nat)) ∧ w = w' := by
  rcases H.out with h | h
  · exact value_sum b r _ _ _ w h hr
  · exact value_sum b r _ _ _ w h hr

theorem grown_below {w w1 w2 : World} {b : Nat} (h : w.grownBy w1 none) (hb : w.heap.size ≤ b) (h' : w1.grownBy w2 (some b)) : Below w.heap.size w w2 :=
  ((Below.refl _ _).grown h (Nat.le_refl _) (fun _ e => by cases e)).grown h' h.size (fun k e => by injection e with e; omega)

set_option maxHeartbeats 400000 in
theorem crcOf (A : Option Addr) (n c : Nat) (l : List Int) (w : World) (h : Rd .u8 w A n c l) :
    Calls Try.prog 11 #[.slice A n c] w fun e w' => e = .returned (.int .u32 (crcN l : Nat)) ∧ Below w.heap.size w w' := by
  have HB := Lib.hid (show Byt l from fun z hz => by simpa [Lit.wf, IntKind.min, IntKind.max, IntKind.signed, IntKind.bits] using h.2.2.2.1 z hz)
  have HR := Lib.hid h
  clear h
  go_enter Try.func11, Try.ntmps11
  go_wp2_with fail
  refine (newSum _).mono ?_
  rintro e w1 ⟨rfl, hs, hg⟩
  have HS := Lib.hid (show Sum w1 w.heap.size 4294967295 from .inl hs)
  have HG := Lib.hid hg
  have HR1 := Lib.hid (show Rd .u8 w1 A n c l from HR.out.below ((Below.refl _ _).grown hg (Nat.le_refl _) (fun _ e => by cases e)))
  clear hs hg
  go_wp2_with fail
  refine (add_any w.heap.size 4294967295 A n c l _ HS HR1.out (Lib.hid (HR.out.off (Nat.le_refl _))) (by decide)).mono ?_
  rintro e w2 ⟨rfl, hs, hg⟩
  have HS2 := Lib.hid hs
  have HB2 := Lib.hid (grown_below HG.out (Nat.le_refl _) hg)
  clear hs hg
  go_wp2_with fail
  refine (value_any _ _ _ HS2 (regF_lt HB.out (by decide))).mono ?_
  rintro e w3 ⟨rfl, rfl⟩
  go_wp2_with fail
  go_ret
  exact ⟨rfl, HB2.out⟩
end Go.Proofs.Ytoaaailgfdcflaa
