/- Numbers that are 0 or 1; arms, of the program's text. Conditions: at most 100 arms. -/
import Derived.Test.YtijbahdpblopjaaDoorExV
import Derived.Test.YtijbahdpblopjaaDoorEyC
import Derived.Test.YtijbahdpblopjaaDoorEyA
namespace Go.Proofs.YtijbahdpblopjaaDoor
open Go.RowKit Go.Sort
set_option linter.unusedVariables false
set_option linter.unusedSimpArgs false

def bitB (n : Int) : Bool := (n == 0) || (n == 1)
set_option maxRecDepth 100000 in
set_option maxHeartbeats 2000000 in
theorem exBit (n : Int) (w : World) : Calls Tryd.prog 61 #[.int .i64 n] w fun e w' => e = .returned (.bool (bitB n)) ∧ w = w' := by
  have HS := Lib.hid (show bitB n = ((n == 0) || (n == 1)) from rfl)
  generalize bitB n = res at *
  cases h0 : (n == 0) <;> cases h1 : (n == 1)
  all_goals (
    rw [h0, h1] at HS
    go_enter Tryd.func61, Tryd.ntmps61
    go_wp2_with fail
    go_ret
    exact ⟨ret_bool HS.out.symm, rfl⟩)

set_option maxRecDepth 100000 in
set_option maxHeartbeats 2000000 in
theorem exArm (s : ByteArray) (w : World) (hs : s.size ≤ 9223372036854775807) : Calls Tryd.prog 81 #[.string s] w fun e w' => e = .returned (.bool (armB s)) ∧ Below w.heap.size w w' := by
  have HS := Lib.hid (show armB s = (highB s.data.toList || (s.toList == [116, 114, 117, 101]) || (s.toList == [102, 97, 108, 115, 101])) from rfl)
  have HH := Lib.hid (idHigh s w hs)
  generalize armB s = res at *
  generalize highB s.data.toList = bh at *
  cases bh <;> cases ht : (s.toList == [116, 114, 117, 101]) <;> cases hf : (s.toList == [102, 97, 108, 115, 101])
  all_goals (
    rw [ht, hf] at HS
    go_enter Tryd.func81, Tryd.ntmps81
    go_wp2_with fail
    refine HH.out.mono ?_
    rintro r w2 ⟨rfl, hb⟩
    go_wp2_with fail
    go_ret
    exact ⟨ret_bool HS.out.symm, hb⟩)

/-- Whether these are arms, from one to so many, each once. -/
def armsB (l : List ByteArray) (m : Int) : Bool := decide (1 ≤ l.length) && decide ((l.length : Int) ≤ m) && l.all armB && onceS l

set_option maxRecDepth 100000 in
set_option maxHeartbeats 2000000 in
theorem exArms (A : Option Addr) (n c : Nat) (m : Int) (l : List ByteArray) (w : World) (hr : RdT w A n l) (hz : ∀ t ∈ l, t.size ≤ 9223372036854775807) (hm : n ≤ 100) :
    Calls Tryd.prog 65 #[.slice A n c, .int .i64 m] w fun e w' => e = .returned (.bool (armsB l m)) ∧ Below w.heap.size w w' := by
  have HS := Lib.hid (show armsB l m = (decide (1 ≤ l.length) && decide ((l.length : Int) ≤ m) && l.all armB && onceS l) from rfl)
  have hlen := hr.len
  have HAR := Lib.hid hr
  have HAL := Lib.hid fun i (hi : i < l.length) (h : armB (l[i]?.getD ByteArray.empty) = false) => all_false (f := armB) hi h
  have HAS := Lib.hid fun k (hk : k < l.length) h (hx : armB (l[k]?.getD ByteArray.empty) = true) => all_take_succ (f := armB) hk h hx
  have HAE := Lib.hid fun k h (hk : l.length ≤ k) => all_take_end (l := l) (f := armB) (k := k) h hk
  have HZ := Lib.hid fun i (hi : i < l.length) => hz (l[i]?.getD ByteArray.empty) (by rw [List.getElem?_eq_getElem hi]; exact List.getElem_mem _)
  have HON := Lib.hid fun w1 (h : Below w.heap.size w w1) => idOnce A n c l w1 (hr.below h) hz hm
  clear hr hz
  rw [hlen] at HS HAL HAS HAE HZ
  clear hlen
  generalize armsB l m = res at *
  by_cases h1 : 1 ≤ n
  · by_cases h2 : (n : Int) ≤ m
    · have d1 : decide ((n : Int) < 1) = false := decide_eq_false (by omega)
      have d2 : decide (m < (n : Int)) = false := decide_eq_false (by omega)
      have HSS := Lib.hid (show res = (l.all armB && onceS l) by rw [HS.out]; simp [h1, h2])
      go_enter Tryd.func65, Tryd.ntmps65
      go_wp2_with fail
      go_loopw [18] (fun i wr => ∃ j : Nat, j ≤ n ∧ i = .int .i64 j ∧ (l.take j).all armB = true ∧ Below w.heap.size w wr) (fun i _ => n - (intOf i).toNat)
      case atStart => exact ⟨0, Nat.zero_le _, rfl, by simp, Below.refl _ _⟩
      case round =>
        obtain ⟨j, hj, rfl, hall, hbw⟩ := hrel
        have HA := Lib.hid hall
        have HBW := Lib.hid hbw
        clear hall
        by_cases hlt : j < n
        · obtain ⟨b, off, rfl, hb, hat⟩ := (HAR.out.below hbw).at_ hlt
          have c0 := hat j hlt
          have HAL' := Lib.hid (HAL.out j (by omega))
          have HAS' := Lib.hid (HAS.out j (by omega) HA.out)
          have hzz := HZ.out j (by omega)
          clear hat hbw
          generalize l[j]?.getD ByteArray.empty = t at *
          have HT := Lib.hid (exArm t wr hzz)
          clear hzz
          cases ht : armB t with
          | false =>
            rw [ht] at HT
            have HF' := Lib.hid (HAL'.out ht)
            have HN := Lib.hid (show res = false by rw [HSS.out, HF'.out]; rfl)
            go_wp2_with fail
            refine HT.out.mono ?_
            rintro r w2 ⟨rfl, hb2⟩
            have HB2 := Lib.hid (HBW.out.trans (hb2.mono HBW.out.size))
            clear hb2
            go_wp2_with fail
            go_ret
            exact ⟨ret_bool HN.out.symm, HB2.out⟩
          | true =>
            rw [ht] at HT
            have HF' := Lib.hid (HAS'.out ht)
            go_wp2_with fail
            refine HT.out.mono ?_
            rintro r w2 ⟨rfl, hb2⟩
            have HB2 := Lib.hid (HBW.out.trans (hb2.mono HBW.out.size))
            clear hb2
            go_wp2_with fail
            go_roundw
            case rel => exact ⟨j + 1, by omega, by go_num, HF'.out, HB2.out⟩
            case measure => simp [intOf]; omega
        · have HE := HAE.out j HA.out (by omega)
          have HN := Lib.hid (show res = onceS l by rw [HSS.out, HE]; rfl)
          have HO1 := Lib.hid (HON.out wr HBW.out)
          clear HE HAL HAS HAE HA hbw
          go_wp2_with fail
          refine HO1.out.mono ?_
          rintro r w2 ⟨rfl, hb2⟩
          have HB2 := Lib.hid (HBW.out.trans (hb2.mono HBW.out.size))
          clear hb2
          go_wp2_with fail
          go_ret
          exact ⟨ret_bool HN.out.symm, HB2.out⟩
    · have d1 : decide ((n : Int) < 1) = false := decide_eq_false (by omega)
      have d2 : decide (m < (n : Int)) = true := decide_eq_true (by omega)
      have HN := Lib.hid (show res = false by rw [HS.out]; simp [h2])
      go_enter Tryd.func65, Tryd.ntmps65
      go_wp2_with fail
      go_ret
      exact ⟨ret_bool HN.out.symm, Below.refl _ _⟩
  · have d1 : decide ((n : Int) < 1) = true := decide_eq_true (by omega)
    have HN := Lib.hid (show res = false by rw [HS.out]; simp [h1])
    go_enter Tryd.func65, Tryd.ntmps65
    go_wp2_with fail
    go_ret
    exact ⟨ret_bool HN.out.symm, Below.refl _ _⟩
end Go.Proofs.YtijbahdpblopjaaDoor
