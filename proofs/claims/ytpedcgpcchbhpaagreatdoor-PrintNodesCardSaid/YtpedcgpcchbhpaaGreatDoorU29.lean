/- Parts of the proof: TyO. Conditions: each theorem's own. -/
import Derived.Test.YtpedcgpcchbhpaaGreatDoorU16
import Derived.Test.YtpedcgpcchbhpaaGreatDoorU22
namespace Go.Proofs.YtpedcgpcchbhpaaGreatDoor
set_option linter.unusedVariables false
set_option linter.unusedSimpArgs false
set_option maxRecDepth 100000
set_option maxHeartbeats 40000000
section
open Go.RowKit
theorem toList_inj{x y:ByteArray}(h:x.toList=y.toList):x=y:=by
 rw [Lib.toList_data,Lib.toList_data] at h;exact ByteArray.ext (Array.toList_inj.1 h)
section
variable {es fs:List En}{k e l k' e' l':Int}
theorem names_apart(h:onceS (nmsE es)=true){i j:Nat}(hi:i<es.length) (hj:j<es.length) (he:nmE es i=nmE es j):i=j:=by
 unfold onceS onceB at h;have h:=of_decide_eq_true h;have hli:i<((nmsE es).map fun s=>s.data.toList).length:=by simp [nmsE];exact hi
 have hlj:j<((nmsE es).map fun s=>s.data.toList).length:=by simp [nmsE];exact hj
 have hp:=List.pairwise_iff_getElem.1 h;have a1:(es[i]'hi).1=nmE es i:=by rw [en_at hi]
 have a2:(es[j]'hj).1=nmE es j:=by rw [en_at hj]
 have heq:((nmsE es).map fun s=>s.data.toList)[i]'hli=((nmsE es).map fun s=>s.data.toList)[j]'hlj:=by
  simp only [nmsE,List.getElem_map,a1,a2,he]
 rcases Nat.lt_trichotomy i j with hlt | hlt | hlt
 · exact absurd heq (hp i j hli hlj hlt)
 · exact hlt
 · exact absurd heq.symm (hp j i hlj hli hlt)
theorem enums_ok(h:enumsN es=0):manyB es=false∧namedB es=true∧apartB es=true:=by
 unfold enumsN at h
 split at h
 · omega
 · rename_i hm
   split at h
   · rename_i hn
     split at h
     · rename_i ha
       exact⟨by simpa using hm,hn,ha⟩
     · omega
   · omega
theorem ok_low(h:enumsN es=0){i:Nat}(hi:i<es.length):lowB (nmE es i).data.toList=true:=by
 have h1:=(enums_ok h).2.1;unfold namedB at h1;rw [Bool.and_eq_true,List.all_eq_true] at h1;have h2:=h1.1 _ (List.getElem_mem hi);rw [enB_at hi,Bool.and_eq_true] at h2;exact h2.1
theorem ok_once(h:enumsN es=0):onceS (nmsE es)=true:=by
 have h1:=(enums_ok h).2.2;unfold apartB at h1;rw [Bool.and_eq_true] at h1;exact h1.1
theorem base_not{c:UInt8}(h:enumsN es=0) (ht:rightB es.length k e l=true) (hc:nameC (c.toNat:Int)=false):c∉(baseE es k e).data.toList:=by
 apply not_mem_of_all (hc:=hc)
 obtain⟨_,h1⟩:=right_cases ht;rcases h1 with rfl | rfl | ⟨rfl,i,rfl,hi⟩
 · show ∀ c∈intT.data.toList,_
   decide
 · show ∀ c∈boolT.data.toList,_
   decide
 · have h2:baseE es 3 (i:Int)=nmE es i:=by simp [baseE]
   rw [h2];exact lowB_all (ok_low h hi)
def sufL(l:Int):List UInt8:=if l=0 then [] else [91,(48+l).toNat.toUInt8,93]
theorem text_list(ht:rightB es.length k e l=true):(textE es k e l).data.toList=(baseE es k e).data.toList++sufL l:=by
 unfold textE sufL;rw [if_pos ht]
 split
 · simp
 · simp [digS]
theorem split_at{a b s t:List UInt8}{c:UInt8}(ha:c∉a) (hb:c∉b) (hs:s=[]∨∃ r,s=c::r) (ht:t=[]∨∃ r,t=c::r) (h:a++s=b++t):a=b∧s=t:=by
 induction a generalizing b with
 | nil=>
  cases b with
  | nil=>exact⟨rfl,by simpa using h⟩
  | cons y b=>
   exfalso
   simp at h
   rcases hs with rfl | ⟨r,rfl⟩
   · cases h
   · injection h with h1 _;exact hb (by rw [h1];simp)
 | cons x a ih=>
  cases b with
  | nil=>
   exfalso
   simp at h
   rcases ht with rfl | ⟨r,rfl⟩
   · cases h
   · injection h with h1 _;exact ha (by rw [h1];simp)
  | cons y b=>
   simp at h
   obtain⟨h1,h2⟩:=ih (b:=b) (fun h=>ha (List.mem_cons_of_mem _ h)) (fun h=>hb (List.mem_cons_of_mem _ h)) h.2;exact⟨by rw [h.1,h1],h2⟩
theorem suf_form(l:Int):sufL l=[]∨∃ r,sufL l=91::r:=by
 unfold sufL
 split
 · exact .inl rfl
 · exact .inr ⟨_,rfl⟩
theorem suf_inj{l l':Int}(h1:0≤l∧l≤8) (h2:0≤l'∧l'≤8) (h:sufL l=sufL l'):l=l':=by
 rcases(show l=0∨l=1∨l=2∨l=3∨l=4∨l=5∨l=6∨l=7∨l=8 by omega) with rfl | rfl | rfl | rfl | rfl | rfl | rfl | rfl | rfl <;>
 rcases(show l'=0∨l'=1∨l'=2∨l'=3∨l'=4∨l'=5∨l'=6∨l'=7∨l'=8 by omega) with rfl | rfl | rfl | rfl | rfl | rfl | rfl | rfl | rfl <;>
 first | rfl | (exfalso;revert h;decide)
theorem base_inj(h:enumsN es=0) (ht:rightB es.length k e l=true) (hu:rightB es.length k' e' l'=true) (hb:(baseE es k e).data.toList=(baseE es k' e').data.toList):k=k'∧e=e':=by
 have hw1:wordB intT.data.toList=true:=by decide
 have hw2:wordB boolT.data.toList=true:=by decide
 have hd:¬ intT.data.toList=boolT.data.toList:=by decide
 have hlow:∀ i,i<es.length→wordB (nmE es i).data.toList=false:=fun i hi=>low_word (ok_low h hi);have b3:∀ i:Nat,baseE es 3 (i:Int)=nmE es i:=fun i=>by simp [baseE]
 obtain⟨l1,h1⟩:=right_cases ht;obtain⟨l2,h2⟩:=right_cases hu;rcases h1 with rfl | rfl | ⟨rfl,i,rfl,hi⟩ <;> rcases h2 with rfl | rfl | ⟨rfl,j,rfl,hj⟩
 · rw [right_base l1 (.inl rfl)] at ht;rw [right_base l2 (.inl rfl)] at hu
   simp at ht hu
   exact⟨rfl,by omega⟩
 · exact absurd hb hd
 · exfalso
   rw [b3] at hb;have:=hlow j hj;rw [← hb] at this;exact absurd (hw1.symm.trans this) (by decide)
 · exact absurd hb.symm hd
 · rw [right_base l1 (.inr rfl)] at ht;rw [right_base l2 (.inr rfl)] at hu
   simp at ht hu
   exact⟨rfl,by omega⟩
 · exfalso
   rw [b3] at hb;have:=hlow j hj;rw [← hb] at this;exact absurd (hw2.symm.trans this) (by decide)
 · exfalso
   rw [b3] at hb;have:=hlow i hi;rw [hb] at this;exact absurd (hw1.symm.trans this) (by decide)
 · exfalso
   rw [b3] at hb;have:=hlow i hi;rw [hb] at this;exact absurd (hw2.symm.trans this) (by decide)
 · rw [b3,b3] at hb;have:=names_apart (ok_once h) hi hj (ByteArray.ext (Array.toList_inj.1 hb));subst this;exact⟨rfl,rfl⟩
theorem text_same(h:enumsN es=0) (ht:rightB es.length k e l=true) (hu:rightB es.length k' e' l'=true):((textE es k e l).toList==(textE es k' e' l').toList)=decide (k=k'∧e=e'∧l=l'):=by
 rw [Bool.eq_iff_iff,beq_iff_eq,decide_eq_true_eq]
 constructor
 · intro he;rw [Lib.toList_data,Lib.toList_data,text_list ht,text_list hu] at he;obtain⟨h1,h2⟩:=split_at (c:=91) (base_not h ht (by decide)) (base_not h hu (by decide)) (suf_form l) (suf_form l') he;obtain⟨rfl,rfl⟩:=base_inj h ht hu h1;exact⟨rfl,rfl,suf_inj (right_cases ht).1 (right_cases hu).1 h2⟩
 · rintro ⟨rfl,rfl,rfl⟩;rfl
end
end
end Go.Proofs.YtpedcgpcchbhpaaGreatDoor
