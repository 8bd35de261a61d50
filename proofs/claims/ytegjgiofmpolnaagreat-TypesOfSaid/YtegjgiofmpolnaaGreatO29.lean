/- Parts of the proof: ScU, ScO, ScH, ScJ. Conditions: each theorem's own. -/
import Derived.WalkMore
import Derived.Test.YtegjgiofmpolnaaGreatO27
import Derived.Test.YtegjgiofmpolnaaGreatO28
namespace Go.Proofs.YtegjgiofmpolnaaGreat
set_option linter.unusedVariables false
set_option linter.unusedSimpArgs false
set_option maxRecDepth 100000
set_option maxHeartbeats 40000000
section
open Go.RowKit Go.Sort Go.BigFrame
theorem SetAt.row{W:World}{b m g:Nat}{l:List ByteArray}(h:SetAt W b m l) (hne:b≠g) (cs:Array Value):SetAt (W.setRow g cs) b m l:=
 h.kept (row:=some g) ⟨rfl,rfl,rfl,by simp,fun k _ hk=>setRow_other W g k _ (fun e=>hk (by rw [e]))⟩ (fun e=>hne (by injection e))
end
section
open Go.RowKit Go.Shelf Go.Sort Go.BigFrame
attribute [local go_sem] Oper.semAt_some
def Fix(bd:Nat) (w:World) (rm:Array Value) (ms:List Nat) (W:World):Prop:=
 Gd bd w W∧W.heap[w.heap.size]?=some (.cells rm 93)∧Boxed W (w.heap.size+1) 28 (.int .i64 0)∧ms.Nodup∧∀ m,m∈ms→w.heap.size+1+1≤m∧W.heap[m]?=some (.deferred (some []))
section
variable {bd:Nat}{w W W':World}{rm:Array Value}{ms:List Nat}
theorem Fix.gd(h:Fix bd w rm ms W) (hd:bd<w.heap.size) (hg:Gd bd W W'):Fix bd w rm ms W' :=
 ⟨h.1.trans hg,hg.blk h.2.1 (by omega),hg.blk h.2.2.1 (by omega),h.2.2.2.1,fun m hm=>⟨(h.2.2.2.2 m hm).1,(hg.block (Array.getElem?_eq_some_iff.1 (h.2.2.2.2 m hm).2).1 (by have:=(h.2.2.2.2 m hm).1;omega)).trans (h.2.2.2.2 m hm).2⟩⟩
theorem Fix.below(h:Fix bd w rm ms W) (hd:bd<w.heap.size) (hb:Below W.heap.size W W'):Fix bd w rm ms W':=h.gd hd (Gd.of_below hb)
def Out(bd:Nat) (w:World) (ms:List Nat) (W:World):Prop:=Gd bd w W∧ms.Nodup∧∀ m,m∈ms→w.heap.size+1+1≤m∧W.heap[m]?=some (.deferred (some []))
theorem Fix.ok(h:Fix bd w rm ms W):Out bd w ms W:=⟨h.1,h.2.2.2⟩
theorem Out.below(h:Out bd w ms W) (hb:Below W.heap.size W W') (hs:w.heap.size≤W.heap.size):Out bd w ms W' :=
 ⟨h.1.new hb hs,h.2.1,fun m hm=>⟨(h.2.2 m hm).1,(hb.block m (Array.getElem?_eq_some_iff.1 (h.2.2 m hm).2).1).trans (h.2.2 m hm).2⟩⟩
end
end
section
open Go.RowKit Go.Sort Go.BigFrame
end
section
open Go.RowKit Go.Sort Go.BigFrame
end
end Go.Proofs.YtegjgiofmpolnaaGreat
