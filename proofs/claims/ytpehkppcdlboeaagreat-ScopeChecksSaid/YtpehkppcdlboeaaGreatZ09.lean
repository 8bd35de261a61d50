/- Parts of the proof: Qt. Conditions: each theorem's own. -/
import Derived.StillTail
import Derived.Test.YtpehkppcdlboeaaGreatZ01
namespace Go.Proofs.YtpehkppcdlboeaaGreat
set_option linter.unusedVariables false
set_option linter.unusedSimpArgs false
set_option maxRecDepth 100000
set_option maxHeartbeats 40000000
section
open Go Go.Sort
section
variable {P:Program}{md:Region.Mode}{C:World→Prop}{Q:Exit→Act→World→Prop}{l1 l2:List Oper}
def headB(md:Region.Mode) (l1:List Oper):Bool:=
 (List.range l1.length).all fun i=>((l1[i]?).map fun o=>(o.after.all fun e=>!Region.binds md e || decide (e.on<i)) && ((o.guard.map fun g=>decide (g.1<l1.length)).getD true)).getD true
def tailB(md:Region.Mode) (n:Nat) (l2:List Oper):Bool:=
 l2.all fun o=>(List.range n).all fun i=>o.after.any fun e=>Region.binds md e && e.on==i
theorem head_after(h:headB md l1=true){i:Nat}{o:Oper}(ho:l1[i]?=some o):∀ e∈o.after,Region.binds md e=true→e.on<i:=by
 intro e he hb;have hi:i<l1.length:=(List.getElem?_eq_some_iff.1 ho).1;have h1:=List.all_eq_true.1 h i (List.mem_range.2 hi);simp only [ho,Option.map_some,Option.getD_some,Bool.and_eq_true] at h1;have h2:=Array.all_eq_true_iff_forall_mem.1 h1.1 e he
 simpa [hb] using h2
theorem head_guard(h:headB md l1=true){i:Nat}{o:Oper}(ho:l1[i]?=some o){g:Nat × Bool}(hg:o.guard=some g):g.1<l1.length:=by
 have hi:i<l1.length:=(List.getElem?_eq_some_iff.1 ho).1;have h1:=List.all_eq_true.1 h i (List.mem_range.2 hi);simp only [ho,hg,Option.map_some,Option.getD_some,Bool.and_eq_true,decide_eq_true_eq] at h1;exact h1.2
theorem tail_after{n:Nat}(h:tailB md n l2=true){o:Oper}(ho:o∈l2){i:Nat}(hi:i<n):∃ e∈o.after,Region.binds md e=true∧e.on=i:=by
 have h1:=List.all_eq_true.1 (List.all_eq_true.1 h o ho) i (List.mem_range.2 hi);obtain⟨e,he,h2⟩:=Array.any_eq_true'.1 h1;simp only [Bool.and_eq_true,beq_iff_eq] at h2;exact⟨e,he,h2.1,h2.2⟩
def both(L:Array Bool) (m:Nat):Array Bool:=L++Array.replicate m false
theorem both_head{L:Array Bool}{m i:Nat}(h:i<L.size) (d:Bool):(both L m).getD i d=L.getD i d:=by
 have h':i<L.size+m:=by omega
 simp [both,Array.getD,h,h']
theorem both_set{L:Array Bool}{m i:Nat}(h:i<L.size):(both L m).setIfInBounds i true=both (L.setIfInBounds i true) m:=by
 unfold both;rw [Array.setIfInBounds_append_left (by simpa using h)]
theorem ops_head{i:Nat}(h:i<l1.length):(l1++l2).toArray[i]?=l1[i]?:=by simp [List.getElem?_append_left h]
theorem ready_head(hH:headB md l1=true){L:Array Bool}(hL:L.size=l1.length){i m:Nat}(hi:i<l1.length):
 i∈Region.ready md (l1++l2).toArray (both L m)↔i∈Region.ready md l1.toArray L:=by
 rw [mem_ready,mem_ready,both_head (by omega),ops_head hi]
 constructor
 · rintro ⟨h1,o,ho,hall⟩;refine⟨h1,o,by simpa using ho,fun e he hb=>?_⟩;have hlt:=head_after hH ho e he hb;have:=hall e he hb;rwa [both_head (by omega)] at this
 · rintro ⟨h1,o,ho,hall⟩;have ho':l1[i]?=some o:=by simpa using ho
   refine⟨h1,o,ho',fun e he hb=>?_⟩;have hlt:=head_after hH ho' e he hb;rw [both_head (by omega)];exact hall e he hb
theorem ready_none(hH:headB md l1=true){L:Array Bool}(hL:L.size=l1.length) (h:Region.ready md l1.toArray L=[]):∀ i,i<l1.length→L.getD i false=true:=by
 intro i
 induction i using Nat.strongRecOn with
 | _ i ih=>
  intro hi
  cases hl:L.getD i false with
  | true=>rfl
  | false=>
   have hm:i∈Region.ready md l1.toArray L:=by
    refine mem_ready.2 ⟨getD_in (by omega) hl,l1[i],by simp [hi],fun e he hb=>?_⟩;have hlt:=head_after hH (List.getElem?_eq_getElem hi) e he hb;exact ih e.on hlt (by omega)
   rw [h] at hm
   cases hm
theorem all_set{L:Array Bool}{n:Nat}(hL:L.size=n) (h:∀ i,i<n→L.getD i false=true):L=Array.replicate n true:=by
 apply Array.ext
 · simp [hL]
 · intro i h1 h2;have:=h i (by omega)
   simp [Array.getD,h1] at this
   simp [this]
theorem ready_tail{n m:Nat}(hT:tailB md n l2=true) (hn:l1.length=n){L:Array Bool}(hL:L.size=n){t:Nat}(ht:n≤t) (hr:t∈Region.ready md (l1++l2).toArray (both L m)):∀ i,i<n→L.getD i false=true:=by
 intro i hi;obtain⟨_,o,ho,hall⟩:=mem_ready.1 hr
 have ho':o∈l2:=by
  have:l2[t-n]?=some o:=by
   rw [List.getElem?_toArray,List.getElem?_append_right (by omega),hn] at ho;exact ho
  exact List.mem_of_getElem? this
 obtain⟨e,he,hb,hon⟩:=tail_after hT ho' hi;have:=hall e he hb;rw [hon,both_head (by omega)] at this;exact this
theorem wpAny_more{ops:Array Oper}:∀ (f:Nat) (L:Array Bool) (a:Act) (w:World),wpAny P md ops Q f L a w→wpAny P md ops Q (f+1) L a w
 | 0,_,_,_,h=>⟨fun _=>h.2,fun i hi=>by rw [h.1] at hi;cases hi⟩
 | f+1,_,_,_,h=>⟨h.1,fun i hi=>wpOp_mono (fun a' w' h'=>wpAny_more f _ a' w' h') (h.2 i hi)⟩
theorem wpAny_fuel{ops:Array Oper}{L:Array Bool}{a:Act}{w:World}(f m:Nat) (h:wpAny P md ops Q m L a w):wpAny P md ops Q (f+m) L a w:=by
 induction f with
 | zero=>rwa [Nat.zero_add]
 | succ f ih=>rw [Nat.add_right_comm];exact wpAny_more _ _ _ _ ih
theorem op_head(hH:headB md l1=true){i:Nat}(hi:i<l1.length){K:Act→Prop}{K':Act→World→Prop}{a:Act}{w:World}(hC:C w) (hK:∀ a w',C w'→K a→K' a w')
 (h:qOp P l1.toArray C i K a):wpOp P (l1++l2).toArray Q i K' a w:=by
 have ho:l1[i]?=some l1[i]:=List.getElem?_eq_getElem hi;unfold qOp at h;unfold wpOp;rw [ops_head hi,ho];rw [List.getElem?_toArray,ho] at h;simp only at h ⊢
 have hw:Region.wanted l1[i] (yielded l1.toArray a.tmps)=Region.wanted l1[i] (yielded (l1++l2).toArray a.tmps):=by
  unfold Region.wanted
  cases hg:l1[i].guard with
  | none=>rfl
  | some g=>
   have:=head_guard hH ho hg;unfold yielded;simp only [ops_head this,List.getElem?_toArray]
 rw [← hw]
 split
 · rename_i hx
   rw [if_pos hx] at h;exact .inl (Oper.wp_of_quiet hC hK h)
 · rename_i hx
   rw [if_neg hx] at h;exact hK _ _ hC h
theorem wpAny_head(hH:headB md l1=true) (hT:tailB md l1.length l2=true)
 (hS:Region.seqB md (l1++l2).toArray l2.length l1.length (both (Array.replicate l1.length true) l2.length)=true):
 ∀ (f:Nat) (L:Array Bool) (a:Act) (w:World),L.size=l1.length→C w →
  wpAnyQ P md l1.toArray C (fun a'=>∀ w',C w'→wpList P (l1++l2).toArray Q l2 a' w') f L a →
  wpAny P md (l1++l2).toArray Q (f+l2.length) (both L l2.length) a w:=by
 have hend:∀ (L:Array Bool) (a:Act) (w:World),L.size=l1.length→C w→Region.ready md l1.toArray L=[]→(∀ w',C w'→wpList P (l1++l2).toArray Q l2 a w') →
  wpAny P md (l1++l2).toArray Q l2.length (both L l2.length) a w:=by
  intro L a w hL hC hr h;rw [all_set hL (ready_none hH hL hr)];exact wpAny_of_seq l2 l1.length _ a w (fun j=>by simp [List.getElem?_append_right (show l1.length≤l1.length+j by omega)]) hS (h w hC)
 intro f
 induction f with
 | zero=>
  intro L a w hL hC h;rw [Nat.zero_add];exact hend L a w hL hC h.1 h.2
 | succ f ih=>
  intro L a w hL hC h
  by_cases hr:Region.ready md l1.toArray L=[]
  · exact wpAny_fuel _ _ (hend L a w hL hC hr (h.1 hr))
  · rw [Nat.add_right_comm];obtain⟨i0,hi0⟩:=List.exists_mem_of_ne_nil _ hr
    have hlt:∀ i,i∈Region.ready md l1.toArray L→i<l1.length:=fun i hi=>by
     obtain⟨_,o,ho,_⟩:=mem_ready.1 hi
     simpa using (Array.getElem?_eq_some_iff.1 ho).1
    refine⟨fun h0=>?_,fun i hi=>?_⟩
    · have:=(ready_head (l2:=l2) hH hL (m:=l2.length) (hlt _ hi0)).2 hi0;rw [h0] at this
      cases this
    · have hin:i<l1.length:=by
       rcases Nat.lt_or_ge i l1.length with h1 | h1
       · exact h1
       · have:=ready_tail hT rfl hL h1 hi i0 (hlt _ hi0);rw [getD_both (mem_ready.1 hi0).1] at this
         cases this
      have hi':=(ready_head (l2:=l2) hH hL (m:=l2.length) hin).1 hi;rw [both_set (by omega)];exact op_head hH hin hC (fun a' w' hC' hK=>ih _ a' w' (by simp [hL]) hC' hK) (h.2 i hi')
theorem wp_region_quiet_tail{id:Nat}{a:Act}{w:World}(hm:P.follows .mixedOrders=true) (hB:Region.lexB .any l1.toArray=true) (hH:headB .any l1=true) (hT:tailB .any l1.length l2=true)
 (hS:Region.seqB .any (l1++l2).toArray l2.length l1.length (both (Array.replicate l1.length true) l2.length)=true)
 (h:wpQuiet P l1.toArray (fun w'=>∃ p:Regrown,w'=grow (redrawn w p.d) p.os) (fun a'=>∀ w',(∃ p:Regrown,w'=grow (redrawn w p.d) p.os)→wpList P (l1++l2).toArray Q l2 a' w') l1 a):
 (Code.region id (l1++l2).toArray true).wp P Q a w:=by
 simp only [Region.lexB,Bool.and_eq_true] at hB;have h1:=wpAnyQ_lex (C:=fun w'=>∃ p:Regrown,w'=grow (redrawn w p.d) p.os) (md:=.any) hB.1 l1 0 (Array.replicate l1.toArray.size false) a (by simp) (by simpa using hB.2) h;refine wp_region_any hm ?_;have h2:=wpAny_head (C:=fun w'=>∃ p:Regrown,w'=grow (redrawn w p.d) p.os) (Q:=Q) hH hT hS l1.length (Array.replicate l1.length false) a { w with drawn:=w.drawn+1 } (by simp) ⟨⟨w.drawn+1,#[]⟩,by rw [grow_empty];rfl⟩ (by rw [← List.size_toArray];exact h1);have e1:(l1++l2).toArray.size=l1.length+l2.length:=by simp
 have e2:Array.replicate (l1++l2).toArray.size false=both (Array.replicate l1.length false) l2.length:=by
  rw [e1];unfold both;rw [Array.replicate_append_replicate]
 rw [e2,e1];exact h2
end
end
end Go.Proofs.YtpehkppcdlboeaaGreat
