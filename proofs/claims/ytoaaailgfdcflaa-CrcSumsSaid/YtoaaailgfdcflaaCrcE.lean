/- A sum as four bytes, by crc and by its reference. Conditions: none. -/
import Derived.Test.YtoaaailgfdcflaaCrcD
import Derived.Test.YtoaaailgfdcflaaPutRow
import Derived.BigRegion
import Derived.Test.YtoaaailgfdcflaaApp
namespace Go.Proofs.Ytoaaailgfdcflaa
open Go.RowKit
set_option linter.unusedVariables false

theorem byte_wf {z : Int} (h : 0 ≤ z ∧ z ≤ 255) : (Lit.int .u8 z).wf = true := by
  simp [Lit.wf, IntKind.min, IntKind.max, IntKind.signed, IntKind.bits]
  omega
theorem byt_wf {l : List Int} (h : Byt l) : ∀ z ∈ l, (Lit.int .u8 z).wf = true := fun z hz => byte_wf (h z hz)
theorem Rd.byt {w : World} {A : Option Addr} {n c : Nat} {l : List Int} (h : Rd .u8 w A n c l) : Byt l := by
  intro z hz
  simpa [Lit.wf, IntKind.min, IntKind.max, IntKind.signed, IntKind.bits] using h.2.2.2.1 z hz

theorem byteAt_succ (a : Int) (k : Nat) : byteAt (a / 256 ^ k) 0 = byteAt a k := by simp [byteAt]
def lows (a : Nat) (k : Nat) : List Int := (List.range k).map (byteAt a)
theorem lows_succ (a k : Nat) : lows a (k + 1) = lows a k ++ [byteAt a k] := by simp [lows, List.range_succ]
theorem lows_byt (a k : Nat) : Byt (lows a k) := by
  intro z hz
  simp only [lows, List.mem_map] at hz
  obtain ⟨j, _, rfl⟩ := hz
  exact byteAt_bd _ _

set_option maxHeartbeats 400000 in
theorem refTail (a : Nat) (w : World) (ha : a < 4294967296) :
    Calls Try.prog 21 #[.int .u32 a] w fun e w' => Gives .u8 w (le4 a) e w' := by
  go_enter Try.func21, Try.ntmps21
  go_wp2_with fail
  go_loopw [0, 3, 4] (fun av v i wr => ∃ k : Nat, k ≤ 4 ∧ i = .int .i64 k ∧ av = .int .u32 (a / 256 ^ k : Nat) ∧ wr.ownsRow w.heap.size 5 1 v k ((lows a k).map (Value.int .u8)) ∧ Below w.heap.size w wr) (fun _ _ i _ => 4 - (intOf i).toNat)
  case atStart =>
    exact ⟨0, by omega, rfl, by simp, World.ownsRow_lit w #[] 0 (Nat.le_refl _) (by decide) rfl, (Below.refl _ _).alloc (Nat.le_refl _) _⟩
  case round =>
    obtain ⟨k, hk, rfl, rfl, hown, hbel⟩ := hrel
    by_cases hlt : k < 4
    · obtain ⟨i0, hi, hz0, hz1, hz2⟩ := info_parts Try.info5
      have hq : a / 256 ^ k < 4294967296 := Nat.lt_of_le_of_lt (Nat.div_le_self _ _) ha
      have HO := Lib.hid hown
      have HB := Lib.hid hbel
      have HD := Lib.hid (show a / 256 ^ (k + 1) = a / 256 ^ k / 256 from by rw [Nat.pow_succ, Nat.div_div_eq_div_mul])
      have HX := Lib.hid (show byteAt a k = ((a / 256 ^ k % 256 : Nat) : Int) from by rw [byteAt]; simp)
      clear hown hbel
      generalize a / 256 ^ k = q at *
      have HL := Lib.hid (Rd.lit .u8 wr 5 [(q : Int) % 256] 1 rfl (by omega) (byt_wf (by intro z hz; simp at hz; omega)) #[.int .u8 ((q : Int) % 256)] rfl)
      go_wp2_with (at_builtin; go_must (refine wpList_append_rd rfl _ _ _ rfl w.heap.size 5 i0 (.int .u8 0) 1 Try.underlying24 hi hz0 hz1 hz2 rfl _ k (lows a k) rfl (HO.out.alloc _) _ 1 1 [(q : Int) % 256] rfl HL.out ?c1 ?c2 ?c3 ?_))
      case c1 => unfold maxLen; omega
      case c2 => omega
      case c3 => have := HB.out.size; simp; omega
      intro v' w1 hown' hgrow
      have hbel' := Lib.hid (Below.grown (HB.out.alloc HB.out.size _) hgrow (by have := HB.out.size; simp; omega) (fun g e => (HO.out.lt g e).1))
      have HO' := Lib.hid hown'
      clear hown' hgrow
      go_wp2_with fail
      go_roundw
      case rel => exact ⟨k + 1, by omega, by go_num, by rw [HD.out]; go_num, by rw [lows_succ, HX.out, List.map_append]; exact HO'.out, hbel'.out⟩
      case measure => simp [intOf]; omega
    · obtain rfl : k = 4 := by omega
      obtain ⟨A', c', rfl, hrd, _⟩ := Rd.of_own (l := lows a 4) hown rfl (byt_wf (lows_byt a 4))
      have HR := Lib.hid hrd
      have HB := Lib.hid hbel
      clear hrd hbel hown
      go_wp2_with fail
      go_ret
      exact ⟨_, _, _, rfl, HR.out, HB.out⟩

def sw (a k j : Nat) : Int := if j < k ∨ 3 - k < j then byteAt a j else byteAt a (3 - j)

set_option maxHeartbeats 800000 in
theorem crcTail (A : Option Addr) (n c : Nat) (l : List Int) (w : World) (h : Rd .u8 w A n c l) :
    Calls Try.prog 20 #[.slice A n c] w fun e w' => Gives .u8 w (le4 (crcN l)) e w' := by
  have hlt := crcN_lt l
  go_enter Try.func20, Try.ntmps20
  go_wp2_with fail
  refine (crcOf A n c l _ h).mono ?_
  rintro e w1 ⟨rfl, hb1⟩
  have HB1 := Lib.hid hb1
  clear hb1
  generalize hE : crcN l = a at *
  have HE := Lib.hid hE
  clear hE
  go_wp2_with fail
  refine (octPutRow a 4 _ (by omega) (by omega) (by omega)).mono ?_
  rintro e w2 ⟨rfl, hrow, hb2⟩
  have HR2 := Lib.hid (hrow.congr (g := fun j => .int .u8 (sw a 0 j)) fun j hj => by rw [putCell, if_pos (by omega), sw, if_neg (by omega)])
  have HB2 := Lib.hid (HB1.out.trans (hb2.mono HB1.out.size))
  clear hrow hb2
  have hg := Lib.hid HB1.out.size
  generalize w1.heap.size = g at *
  go_wp2_with fail
  go_loopw [4, 9] (fun _ i wr => ∃ k : Nat, k ≤ 2 ∧ i = .int .i64 k ∧ wr.rowIs g 5 4 (fun j => .int .u8 (sw a k j)) ∧ Below w.heap.size w wr) (fun _ i _ => 2 - (intOf i).toNat)
  case atStart => exact ⟨0, by omega, rfl, HR2.out, HB2.out⟩
  case round =>
    obtain ⟨k, hk, rfl, hrow, hbel⟩ := hrel
    have HR := Lib.hid hrow
    have HB := Lib.hid hbel
    clear hrow hbel
    have hgw := Lib.hid (show w.heap.size ≤ g from hg.out)
    obtain rfl | rfl | rfl : k = 0 ∨ k = 1 ∨ k = 2 := by omega
    · have h0 := HR.out.cell (i := 0) (by omega)
      have h3 := HR.out.cell (i := 3) (by omega)
      have f0 := HR.out.frozen 0
      have f3 := HR.out.frozen 3
      go_wp2_with fail
      go_region
      go_wp2_with fail
      go_roundw
      case rel =>
        refine ⟨1, by omega, by go_num, (((HR.out.set 0 _).set 3 _).congr fun j hj => ?_).drew, ((HB.out.setCell hgw.out _).setCell hgw.out _).drew⟩
        obtain rfl | rfl | rfl | rfl : j = 0 ∨ j = 1 ∨ j = 2 ∨ j = 3 := by omega
        all_goals rfl
      case measure => simp [intOf]
    · have h1 := HR.out.cell (i := 1) (by omega)
      have h2 := HR.out.cell (i := 2) (by omega)
      have f1 := HR.out.frozen 1
      have f2 := HR.out.frozen 2
      go_wp2_with fail
      go_region
      go_wp2_with fail
      go_roundw
      case rel =>
        refine ⟨2, by omega, by go_num, (((HR.out.set 1 _).set 2 _).congr fun j hj => ?_).drew, ((HB.out.setCell hgw.out _).setCell hgw.out _).drew⟩
        obtain rfl | rfl | rfl | rfl : j = 0 ∨ j = 1 ∨ j = 2 ∨ j = 3 := by omega
        all_goals rfl
      case measure => simp [intOf]
    · go_wp2_with fail
      go_ret
      refine ⟨_, _, _, rfl, ?_, HB.out⟩
      rw [HE.out]
      refine ⟨rfl, Nat.le_refl _, by decide, byt_wf (le4_byt a), fun _ => ⟨_, _, rfl, HR.out.lt, fun i hi => ?_⟩⟩
      rw [Nat.zero_add, HR.out.cell hi]
      obtain rfl | rfl | rfl | rfl : i = 0 ∨ i = 1 ∨ i = 2 ∨ i = 3 := by omega
      all_goals rfl
end Go.Proofs.Ytoaaailgfdcflaa
