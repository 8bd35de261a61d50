/- The text of every right expression: of the document's text. Conditions: names of at most 1000 bytes, numbers of 64 bits, at most 1000 parts. -/
import Derived.Test.YtijbahdpblopjaaDoorShB
namespace Go.Proofs.YtijbahdpblopjaaDoor
open Go.RowKit Go.Sort
set_option linter.unusedVariables false
set_option linter.unusedSimpArgs false

/-- The texts of an expression's subs, as texts. -/
def txS (l : List Ex) : List ByteArray := l.map fun y => ofB (textL y)
theorem txS_len (l : List Ex) : (txS l).length = l.length := by simp [txS]
theorem txS_snoc {l : List Ex} {k : Nat} (h : k < l.length) : (txS l).take (k + 1) = (txS l).take k ++ [ofB (textL (l[k]?.getD default))] := by
  unfold txS
  rw [List.take_succ_eq_append_getElem (by simpa using h)]
  simp [List.getElem?_eq_getElem h]
theorem txS_at {l : List Ex} {k : Nat} (h : k < l.length) : (txS l)[k]?.getD ByteArray.empty = ofB (textL (l[k]?.getD default)) := by
  simp [txS, List.getElem?_eq_getElem h]
theorem sign_data (op : Int) (h1 : 3 ≤ op) (h2 : op ≤ 16) : (signS op).data.toList = signL op := by
  obtain rfl | rfl | rfl | rfl | rfl | rfl | rfl | rfl | rfl | rfl | rfl | rfl | rfl | rfl : op = 3 ∨ op = 4 ∨ op = 5 ∨ op = 6 ∨ op = 7 ∨ op = 8 ∨ op = 9 ∨ op = 10 ∨ op = 11 ∨ op = 12 ∨ op = 13 ∨ op = 14 ∨ op = 15 ∨ op = 16 := by omega
  all_goals rfl
theorem sign_size (op : Int) (h1 : 3 ≤ op) (h2 : op ≤ 16) : (signS op).size ≤ 3 := by
  obtain rfl | rfl | rfl | rfl | rfl | rfl | rfl | rfl | rfl | rfl | rfl | rfl | rfl | rfl : op = 3 ∨ op = 4 ∨ op = 5 ∨ op = 6 ∨ op = 7 ∨ op = 8 ∨ op = 9 ∨ op = 10 ∨ op = 11 ∨ op = 12 ∨ op = 13 ∨ op = 14 ∨ op = 15 ∨ op = 16 := by omega
  all_goals decide

theorem armsT_snoc : ∀ (am ts : List (List UInt8)) (a t : List UInt8), am.length = ts.length → armsT (am ++ [a]) (ts ++ [t]) = armsT am ts ++ 32 :: 40 :: (a ++ 32 :: 45 :: 62 :: 32 :: (t ++ [41]))
  | [], [], a, t, _ => by simp [armsT]
  | [], _ :: _, _, _, h => by simp at h
  | _ :: _, [], _, _, h => by simp at h
  | b :: am, u :: ts, a, t, h => by
    have := armsT_snoc am ts a t (by simpa using h)
    simp [armsT, this]
/-- What of a merge's text is laid when so many arms are. -/
def mgL (x : Ex) (j : Nat) : List UInt8 := 40 :: (mergeL ++ 32 :: (x.s.data.toList ++ armsT ((x.arms.map fun a => a.data.toList).take j) ((x.subs.map textL).take j)))
theorem mg_snoc {x : Ex} {j : Nat} (ha : j < x.arms.length) (hs : j < x.subs.length) :
    mgL x (j + 1) = mgL x j ++ 32 :: 40 :: ((x.arms[j]?.getD ByteArray.empty).data.toList ++ 32 :: 45 :: 62 :: 32 :: (textL (subX x j) ++ [41])) := by
  have h1 : (x.arms.map fun a => a.data.toList).take (j + 1) = (x.arms.map fun a => a.data.toList).take j ++ [(x.arms[j]?.getD ByteArray.empty).data.toList] := by
    rw [List.take_succ_eq_append_getElem (by simpa using ha)]
    simp [List.getElem?_eq_getElem ha]
  have h2 : (x.subs.map textL).take (j + 1) = (x.subs.map textL).take j ++ [textL (subX x j)] := take_snocL hs
  unfold mgL
  rw [h1, h2, armsT_snoc _ _ _ _ (by simp; omega)]
  simp
theorem mg_len {x : Ex} {j : Nat} (ha : ∀ a ∈ x.arms, a.data.toList.length ≤ 12) (hs : x.s.size ≤ 1000) (hl : lensT (x.subs.map textL) ≤ 1300000) (hj : j ≤ 6) : (mgL x j).length ≤ 1302000 := by
  have h1 := armsT_len ((x.arms.map fun a => a.data.toList).take j) ((x.subs.map textL).take j) (fun a h => by
    obtain ⟨m, hm, rfl⟩ := List.mem_map.1 (List.mem_of_mem_take h)
    exact ha m hm)
  have h2 := lensT_take (x.subs.map textL) j
  have h3 : ((x.subs.map textL).take j).length ≤ j := by simp; omega
  have h4 : x.s.data.toList.length = x.s.size := by simp
  simp only [mgL, List.length_cons, List.length_append, mergeL, List.length_nil]
  omega

end Go.Proofs.YtijbahdpblopjaaDoor
