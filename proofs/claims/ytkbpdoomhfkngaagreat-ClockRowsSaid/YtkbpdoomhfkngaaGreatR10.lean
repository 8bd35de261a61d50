/- Parts of the proof: Qt, Al, Am, An, Ao, Ap, Ar, Aq. Conditions: each theorem's own. -/
import Derived.StillTail
import Derived.Laws.CopyOwn
import Derived.Laws.Rows
import Derived.Test.YtkbpdoomhfkngaaGreatR01
namespace Go.Proofs.YtkbpdoomhfkngaaGreat
set_option linter.unusedVariables false
set_option linter.unusedSimpArgs false
set_option maxRecDepth 100000
set_option maxHeartbeats 40000000
section
open Go Go.Sort
section
variable {P:Program}{md:Region.Mode}{C:World→Prop}{Q:Exit→Act→World→Prop}{l1 l2:List Oper}
def headB(md:Region.Mode) (l1:List Oper):Bool:=
 (List.range l1.length).all fun i=>((l1[i]?).map fun o=>(o.after.all fun e=>!Region.binds md e || decide (e.on<i)) && ((o.guard.map fun g=>decide (g.1<l1.length)).getD true)).getD true
def tailB(md:Region.Mode) (n:Nat) (l2:List Oper):Bool:=
 l2.all fun o=>(List.range n).all fun i=>o.after.any fun e=>Region.binds md e && e.on==i
theorem head_after(h:headB md l1=true){i:Nat}{o:Oper}(ho:l1[i]?=some o):∀ e∈o.after,Region.binds md e=true→e.on<i:=by
 intro e he hb;have hi:i<l1.length:=(List.getElem?_eq_some_iff.1 ho).1;have h1:=List.all_eq_true.1 h i (List.mem_range.2 hi);simp only [ho,Option.map_some,Option.getD_some,Bool.and_eq_true] at h1;have h2:=Array.all_eq_true_iff_forall_mem.1 h1.1 e he
 simpa [hb] using h2
theorem head_guard(h:headB md l1=true){i:Nat}{o:Oper}(ho:l1[i]?=some o){g:Nat × Bool}(hg:o.guard=some g):g.1<l1.length:=by
 have hi:i<l1.length:=(List.getElem?_eq_some_iff.1 ho).1;have h1:=List.all_eq_true.1 h i (List.mem_range.2 hi);simp only [ho,hg,Option.map_some,Option.getD_some,Bool.and_eq_true,decide_eq_true_eq] at h1;exact h1.2
theorem tail_after{n:Nat}(h:tailB md n l2=true){o:Oper}(ho:o∈l2){i:Nat}(hi:i<n):∃ e∈o.after,Region.binds md e=true∧e.on=i:=by
 have h1:=List.all_eq_true.1 (List.all_eq_true.1 h o ho) i (List.mem_range.2 hi);obtain⟨e,he,h2⟩:=Array.any_eq_true'.1 h1;simp only [Bool.and_eq_true,beq_iff_eq] at h2;exact⟨e,he,h2.1,h2.2⟩
def both(L:Array Bool) (m:Nat):Array Bool:=L++Array.replicate m false
theorem both_head{L:Array Bool}{m i:Nat}(h:i<L.size) (d:Bool):(both L m).getD i d=L.getD i d:=by
 have h':i<L.size+m:=by omega
 simp [both,Array.getD,h,h']
theorem both_set{L:Array Bool}{m i:Nat}(h:i<L.size):(both L m).setIfInBounds i true=both (L.setIfInBounds i true) m:=by
 unfold both;rw [Array.setIfInBounds_append_left (by simpa using h)]
theorem ops_head{i:Nat}(h:i<l1.length):(l1++l2).toArray[i]?=l1[i]?:=by simp [List.getElem?_append_left h]
theorem ready_head(hH:headB md l1=true){L:Array Bool}(hL:L.size=l1.length){i m:Nat}(hi:i<l1.length):
 i∈Region.ready md (l1++l2).toArray (both L m)↔i∈Region.ready md l1.toArray L:=by
 rw [mem_ready,mem_ready,both_head (by omega),ops_head hi]
 constructor
 · rintro ⟨h1,o,ho,hall⟩;refine⟨h1,o,by simpa using ho,fun e he hb=>?_⟩;have hlt:=head_after hH ho e he hb;have:=hall e he hb;rwa [both_head (by omega)] at this
 · rintro ⟨h1,o,ho,hall⟩;have ho':l1[i]?=some o:=by simpa using ho
   refine⟨h1,o,ho',fun e he hb=>?_⟩;have hlt:=head_after hH ho' e he hb;rw [both_head (by omega)];exact hall e he hb
theorem ready_none(hH:headB md l1=true){L:Array Bool}(hL:L.size=l1.length) (h:Region.ready md l1.toArray L=[]):∀ i,i<l1.length→L.getD i false=true:=by
 intro i
 induction i using Nat.strongRecOn with
 | _ i ih=>
  intro hi
  cases hl:L.getD i false with
  | true=>rfl
  | false=>
   have hm:i∈Region.ready md l1.toArray L:=by
    refine mem_ready.2 ⟨getD_in (by omega) hl,l1[i],by simp [hi],fun e he hb=>?_⟩;have hlt:=head_after hH (List.getElem?_eq_getElem hi) e he hb;exact ih e.on hlt (by omega)
   rw [h] at hm
   cases hm
theorem all_set{L:Array Bool}{n:Nat}(hL:L.size=n) (h:∀ i,i<n→L.getD i false=true):L=Array.replicate n true:=by
 apply Array.ext
 · simp [hL]
 · intro i h1 h2;have:=h i (by omega)
   simp [Array.getD,h1] at this
   simp [this]
theorem ready_tail{n m:Nat}(hT:tailB md n l2=true) (hn:l1.length=n){L:Array Bool}(hL:L.size=n){t:Nat}(ht:n≤t) (hr:t∈Region.ready md (l1++l2).toArray (both L m)):∀ i,i<n→L.getD i false=true:=by
 intro i hi;obtain⟨_,o,ho,hall⟩:=mem_ready.1 hr
 have ho':o∈l2:=by
  have:l2[t-n]?=some o:=by
   rw [List.getElem?_toArray,List.getElem?_append_right (by omega),hn] at ho;exact ho
  exact List.mem_of_getElem? this
 obtain⟨e,he,hb,hon⟩:=tail_after hT ho' hi;have:=hall e he hb;rw [hon,both_head (by omega)] at this;exact this
theorem wpAny_more{ops:Array Oper}:∀ (f:Nat) (L:Array Bool) (a:Act) (w:World),wpAny P md ops Q f L a w→wpAny P md ops Q (f+1) L a w
 | 0,_,_,_,h=>⟨fun _=>h.2,fun i hi=>by rw [h.1] at hi;cases hi⟩
 | f+1,_,_,_,h=>⟨h.1,fun i hi=>wpOp_mono (fun a' w' h'=>wpAny_more f _ a' w' h') (h.2 i hi)⟩
theorem wpAny_fuel{ops:Array Oper}{L:Array Bool}{a:Act}{w:World}(f m:Nat) (h:wpAny P md ops Q m L a w):wpAny P md ops Q (f+m) L a w:=by
 induction f with
 | zero=>rwa [Nat.zero_add]
 | succ f ih=>rw [Nat.add_right_comm];exact wpAny_more _ _ _ _ ih
theorem op_head(hH:headB md l1=true){i:Nat}(hi:i<l1.length){K:Act→Prop}{K':Act→World→Prop}{a:Act}{w:World}(hC:C w) (hK:∀ a w',C w'→K a→K' a w')
 (h:qOp P l1.toArray C i K a):wpOp P (l1++l2).toArray Q i K' a w:=by
 have ho:l1[i]?=some l1[i]:=List.getElem?_eq_getElem hi;unfold qOp at h;unfold wpOp;rw [ops_head hi,ho];rw [List.getElem?_toArray,ho] at h;simp only at h ⊢
 have hw:Region.wanted l1[i] (yielded l1.toArray a.tmps)=Region.wanted l1[i] (yielded (l1++l2).toArray a.tmps):=by
  unfold Region.wanted
  cases hg:l1[i].guard with
  | none=>rfl
  | some g=>
   have:=head_guard hH ho hg;unfold yielded;simp only [ops_head this,List.getElem?_toArray]
 rw [← hw]
 split
 · rename_i hx
   rw [if_pos hx] at h;exact .inl (Oper.wp_of_quiet hC hK h)
 · rename_i hx
   rw [if_neg hx] at h;exact hK _ _ hC h
theorem wpAny_head(hH:headB md l1=true) (hT:tailB md l1.length l2=true)
 (hS:Region.seqB md (l1++l2).toArray l2.length l1.length (both (Array.replicate l1.length true) l2.length)=true):
 ∀ (f:Nat) (L:Array Bool) (a:Act) (w:World),L.size=l1.length→C w →
  wpAnyQ P md l1.toArray C (fun a'=>∀ w',C w'→wpList P (l1++l2).toArray Q l2 a' w') f L a →
  wpAny P md (l1++l2).toArray Q (f+l2.length) (both L l2.length) a w:=by
 have hend:∀ (L:Array Bool) (a:Act) (w:World),L.size=l1.length→C w→Region.ready md l1.toArray L=[]→(∀ w',C w'→wpList P (l1++l2).toArray Q l2 a w') →
  wpAny P md (l1++l2).toArray Q l2.length (both L l2.length) a w:=by
  intro L a w hL hC hr h;rw [all_set hL (ready_none hH hL hr)];exact wpAny_of_seq l2 l1.length _ a w (fun j=>by simp [List.getElem?_append_right (show l1.length≤l1.length+j by omega)]) hS (h w hC)
 intro f
 induction f with
 | zero=>
  intro L a w hL hC h;rw [Nat.zero_add];exact hend L a w hL hC h.1 h.2
 | succ f ih=>
  intro L a w hL hC h
  by_cases hr:Region.ready md l1.toArray L=[]
  · exact wpAny_fuel _ _ (hend L a w hL hC hr (h.1 hr))
  · rw [Nat.add_right_comm];obtain⟨i0,hi0⟩:=List.exists_mem_of_ne_nil _ hr
    have hlt:∀ i,i∈Region.ready md l1.toArray L→i<l1.length:=fun i hi=>by
     obtain⟨_,o,ho,_⟩:=mem_ready.1 hi
     simpa using (Array.getElem?_eq_some_iff.1 ho).1
    refine⟨fun h0=>?_,fun i hi=>?_⟩
    · have:=(ready_head (l2:=l2) hH hL (m:=l2.length) (hlt _ hi0)).2 hi0;rw [h0] at this
      cases this
    · have hin:i<l1.length:=by
       rcases Nat.lt_or_ge i l1.length with h1 | h1
       · exact h1
       · have:=ready_tail hT rfl hL h1 hi i0 (hlt _ hi0);rw [getD_both (mem_ready.1 hi0).1] at this
         cases this
      have hi':=(ready_head (l2:=l2) hH hL (m:=l2.length) hin).1 hi;rw [both_set (by omega)];exact op_head hH hin hC (fun a' w' hC' hK=>ih _ a' w' (by simp [hL]) hC' hK) (h.2 i hi')
theorem wp_region_quiet_tail{id:Nat}{a:Act}{w:World}(hm:P.follows .mixedOrders=true) (hB:Region.lexB .any l1.toArray=true) (hH:headB .any l1=true) (hT:tailB .any l1.length l2=true)
 (hS:Region.seqB .any (l1++l2).toArray l2.length l1.length (both (Array.replicate l1.length true) l2.length)=true)
 (h:wpQuiet P l1.toArray (fun w'=>∃ p:Regrown,w'=grow (redrawn w p.d) p.os) (fun a'=>∀ w',(∃ p:Regrown,w'=grow (redrawn w p.d) p.os)→wpList P (l1++l2).toArray Q l2 a' w') l1 a):
 (Code.region id (l1++l2).toArray true).wp P Q a w:=by
 simp only [Region.lexB,Bool.and_eq_true] at hB;have h1:=wpAnyQ_lex (C:=fun w'=>∃ p:Regrown,w'=grow (redrawn w p.d) p.os) (md:=.any) hB.1 l1 0 (Array.replicate l1.toArray.size false) a (by simp) (by simpa using hB.2) h;refine wp_region_any hm ?_;have h2:=wpAny_head (C:=fun w'=>∃ p:Regrown,w'=grow (redrawn w p.d) p.os) (Q:=Q) hH hT hS l1.length (Array.replicate l1.length false) a { w with drawn:=w.drawn+1 } (by simp) ⟨⟨w.drawn+1,#[]⟩,by rw [grow_empty];rfl⟩ (by rw [← List.size_toArray];exact h1);have e1:(l1++l2).toArray.size=l1.length+l2.length:=by simp
 have e2:Array.replicate (l1++l2).toArray.size false=both (Array.replicate l1.length false) l2.length:=by
  rw [e1];unfold both;rw [Array.replicate_append_replicate]
 rw [e2,e1];exact h2
end
end
section
open Go Go.Sort Go.RowKit
abbrev Cls (w:World):World→Prop:=fun w'=>∃ p:Regrown,w'=grow (redrawn w p.d) p.os
theorem cls_below{w w':World}(h:Cls w w'):Below w.heap.size w w':=by
 obtain⟨p,rfl⟩:=h;exact below_regrown _ _ _
theorem cls_of{w w':World}(h:Below w.heap.size w w'):Cls w w':=regrown_of_below h
theorem cls_trans{w w' w2:World}(h:Cls w w') (h':Cls w' w2):Cls w w2:=cls_of ((cls_below h).trans ((cls_below h').mono (cls_below h).size))
theorem cls_refl(w:World):Cls w w:=cls_of (Below.refl _ _)
section
variable {P:Program}{md:Region.Mode}{Q:Exit→Act→World→Prop}{l1 l2:List Oper}{ops:Array Oper}{Bp:World→Prop}{K:Act→Prop}
def YieldsAll(P:Program) (ops:Array Oper) (Bp:World→Prop) (o:Oper) (v:Value) (a:Act):Prop:=∀ wb,Bp wb→YieldsIn P ops (Cls wb) o v a
def fOp(P:Program) (ops:Array Oper) (Bp:World→Prop) (i:Nat) (K:Act→Prop) (a:Act):Prop:=
 match ops[i]? with
 | none=>K a
 | some o=>∃ v,YieldsAll P ops Bp o v a∧K (a.put o.dst v)
def fixAny(P:Program) (md:Region.Mode) (ops:Array Oper) (Bp:World→Prop) (K:Act→Prop):Nat→Array Bool→Act→Prop
 | 0,L,a=>Region.ready md ops L=[]∧K a
 | f+1,L,a=>(Region.ready md ops L=[]→K a)∧∀ i∈Region.ready md ops L,fOp P ops Bp i (fixAny P md ops Bp K f (L.setIfInBounds i true)) a
def wpFix(P:Program) (ops:Array Oper) (Bp:World→Prop) (K:Act→Prop):List Oper→Act→Prop
 | [],a=>K a
 | o::rest,a=>∃ v,YieldsAll P ops Bp o v a∧wpFix P ops Bp K rest (a.put o.dst v)
theorem fOp_mono{i:Nat}{a:Act}{K K':Act→Prop}(h:∀ a,K a→K' a) (hh:fOp P ops Bp i K a):fOp P ops Bp i K' a:=by
 unfold fOp at *
 cases ho:ops[i]? with
 | none=>simp only [ho] at hh ⊢;exact h _ hh
 | some o=>
  simp only [ho] at hh ⊢;obtain⟨v,h1,h2⟩:=hh;exact⟨v,h1,h _ h2⟩
theorem fOp_put{j:Nat}{oi oj:Oper}{v:Value}(hj:ops[j]?=some oj) (hap:oi.apart ops oj=true) (hsi:∀ cs b,oi.op≠.select cs b) (hsj:∀ cs b,oj.op≠.select cs b){K:Act→Prop}{a:Act}
 (hy:YieldsAll P ops Bp oi v a) (h:fOp P ops Bp j K (a.put oi.dst v)):fOp P ops Bp j (fun a'=>YieldsAll P ops Bp oi v a'∧K (a'.put oi.dst v)) a:=by
 obtain⟨h1,h2,h3⟩:=Oper.apart_spec hap;unfold fOp at *;simp only [hj] at *;obtain⟨u,hu,hn⟩:=h;refine⟨u,fun wb hb=>(hu wb hb).of_same (execOp_put oj hsj a oi.dst v h1).symm (wanted_put oj a oi.dst v h1).symm,fun wb hb=>(hy wb hb).of_same (execOp_put oi hsi a oj.dst u h3) (wanted_put oi a oj.dst u h3),?_⟩;rw [← Act.put_comm a v u h2];exact hn
theorem fixAny_first{i:Nat}{oi:Oper}{v:Value}(hi:ops[i]?=some oi) (hsel:∀ (j:Nat) (o:Oper) cs b,ops[j]?=some o→o.op≠.select cs b):
 ∀ (fuel:Nat) (L:Array Bool) (a:Act),
  (∀ j oj,ops[j]?=some oj→j≠i→L.getD j true=false→(∀ e∈oj.after,Region.binds md e=true→e.on≠i)→oi.apart ops oj=true) →
  i∈Region.ready md ops L→YieldsAll P ops Bp oi v a→fixAny P md ops Bp K fuel (L.setIfInBounds i true) (a.put oi.dst v)→fixAny P md ops Bp K (fuel+1) L a:=by
 have hit:∀ {K:Act→Prop}{a:Act},YieldsAll P ops Bp oi v a→K (a.put oi.dst v)→fOp P ops Bp i K a:=fun hy h=>by
  unfold fOp;simp only [hi];exact⟨v,hy,h⟩
 intro fuel
 induction fuel with
 | zero=>
  intro L a _ hr hy H;refine⟨fun h=>(by rw [h] at hr;cases hr),fun j hj=>?_⟩
  by_cases hji:j=i
  · subst hji;exact hit hy H
  · have:=ready_mono hj hji;rw [H.1] at this
    cases this
 | succ fuel ih=>
  intro L a hfree hr hy H;refine⟨fun h=>(by rw [h] at hr;cases hr),fun j hj=>?_⟩
  by_cases hji:j=i
  · subst hji;exact hit hy H
  · have h1:=H.2 j (ready_mono hj hji);obtain⟨hjun,oj,hoj,hall⟩:=mem_ready.1 hj
    have hnot:∀ e∈oj.after,Region.binds md e=true→e.on≠i:=fun e he hb heq=>by
     have h1:=hall e he hb;have h0:=(mem_ready.1 hr).1;rw [heq] at h1;rcases Nat.lt_or_ge i L.size with h' | h'
     · simp [h'] at h0 h1
       rw [h0] at h1
       cases h1
     · simp [Array.getElem?_eq_none h'] at h1
    have h2:=fOp_put hoj (hfree j oj hoj hji hjun hnot) (fun cs b=>hsel i oi cs b hi) (fun cs b=>hsel j oj cs b hoj) hy h1
    have hfree':∀ k ok,ops[k]?=some ok→k≠i→(L.setIfInBounds j true).getD k true=false→(∀ e∈ok.after,Region.binds md e=true→e.on≠i)→oi.apart ops ok=true:=fun k ok hk hki hun hno=>by
     refine hfree k ok hk hki ?_ hno
     by_cases hjk:j=k
     · subst hjk;exact hjun
     · rw [getD_set_ne true hjk] at hun;exact hun
    refine fOp_mono (fun a' h3=>ih (L.setIfInBounds j true) a' hfree' (ready_mono hr (Ne.symm hji)) h3.1 ?_) h2;rw [Array.setIfInBounds_comm _ _ hji];exact h3.2
theorem fixAny_lex(hs:Region.noSelect ops=true):∀ (l:List Oper) (k:Nat) (L:Array Bool) (a:Act),(∀ j,l[j]?=ops[k+j]?) →
 Region.lexFrom md ops l.length k L=true→wpFix P ops Bp K l a→fixAny P md ops Bp K l.length L a
 | [],_,_,_,_,hB,h=>⟨by simpa [Region.lexFrom] using hB,h⟩
 | o::l,k,L,a,hl,hB,h=>by
  have h0:ops[k]?=some o:=by simpa using (hl 0).symm
  simp only [List.length_cons,Region.lexFrom,Bool.and_eq_true] at hB;obtain⟨⟨hr,hf⟩,hB'⟩:=hB;obtain⟨v,hy,hK⟩:=h
  exact fixAny_first h0 (Region.noSelect_spec hs) l.length L a (Region.free_spec h0 hf) (by simpa using hr) hy
   (fixAny_lex hs l (k+1) _ _ (fun j=>by have:=hl (j+1);simpa [Nat.add_assoc,Nat.add_comm 1 j] using this) hB' hK)
end
end
section
open Go Go.Sort Go.RowKit
def mkB(L:Array Bool) (b:Bool) (m:Nat):Array Bool:=L.push b++Array.replicate m false
section
variable {L:Array Bool}{b:Bool}{m i n t:Nat}
theorem mkB_head(h:i<L.size) (d:Bool):(mkB L b m).getD i d=L.getD i d:=by
 have h1:i<L.size+1+m:=by omega
 have h2:i<L.size+1:=by omega
 simp [mkB,Array.getD,h,h1,h2,Array.getElem_push]
theorem mkB_mid(d:Bool):(mkB L b m).getD L.size d=b:=by
 have h1:L.size<L.size+1+m:=by omega
 simp [mkB,Array.getD,h1]
theorem mkB_set(h:i<L.size):(mkB L b m).setIfInBounds i true=mkB (L.setIfInBounds i true) b m:=by
 unfold mkB;rw [Array.setIfInBounds_append_left (by simp;omega)]
 congr 1
 apply Array.ext'
 simp [h]
theorem mkB_on:(mkB L false m).setIfInBounds L.size true=mkB L true m:=by
 unfold mkB;rw [Array.setIfInBounds_append_left (by simp)]
 congr 1
 apply Array.ext'
 simp
theorem mkB_all(hL:L.size=n) (h:∀ i,i<n→L.getD i false=true):mkB L true m=both (Array.replicate (n+1) true) m:=by
 rw [all_set hL h];unfold mkB both;rw [Array.replicate_succ]
end
section
variable {P:Program}{md:Region.Mode}{Q:Exit→Act→World→Prop}{l1 l2:List Oper}{oa:Oper}{w:World}{K:Act→Prop}
theorem box_ops{i:Nat}(h:i<l1.length):(l1++oa::l2).toArray[i]?=l1[i]?:=by simp [List.getElem?_append_left h]
theorem box_mid:(l1++oa::l2).toArray[l1.length]?=some oa:=by simp
theorem box_ready(hH:headB md l1=true){L:Array Bool}(hL:L.size=l1.length){i m:Nat}{b:Bool}(hi:i<l1.length):
 i∈Region.ready md (l1++oa::l2).toArray (mkB L b m)↔i∈Region.ready md l1.toArray L:=by
 rw [mem_ready,mem_ready,mkB_head (by omega),box_ops hi]
 constructor
 · rintro ⟨h1,o,ho,hall⟩;refine⟨h1,o,by simpa using ho,fun e he hb=>?_⟩;have hlt:=head_after hH ho e he hb;have:=hall e he hb;rwa [mkB_head (by omega)] at this
 · rintro ⟨h1,o,ho,hall⟩;have ho':l1[i]?=some o:=by simpa using ho
   refine⟨h1,o,ho',fun e he hb=>?_⟩;have hlt:=head_after hH ho' e he hb;rw [mkB_head (by omega)];exact hall e he hb
theorem box_tail(hT:tailB md (l1.length+1) l2=true){L:Array Bool}(hL:L.size=l1.length){t m:Nat}{b:Bool}(ht:l1.length+1≤t) (hr:t∈Region.ready md (l1++oa::l2).toArray (mkB L b m)):
 b=true∧∀ i,i<l1.length→L.getD i true=true:=by
 obtain⟨_,o,ho,hall⟩:=mem_ready.1 hr
 have ho':o∈l2:=by
  have:l2[t-(l1.length+1)]?=some o:=by
   rw [List.getElem?_toArray,List.getElem?_append_right (by omega)] at ho;rw [show t-l1.length=(t-(l1.length+1))+1 by omega,List.getElem?_cons_succ] at ho;exact ho
  exact List.mem_of_getElem? this
 refine⟨?_,fun i hi=>?_⟩
 · obtain⟨e,he,hb,hon⟩:=tail_after hT ho' (i:=l1.length) (by omega);have:=hall e he hb;rw [hon,← hL,mkB_mid] at this;exact this
 · obtain⟨e,he,hb,hon⟩:=tail_after hT ho' (i:=i) (by omega);have:=hall e he hb;rw [hon,mkB_head (by omega)] at this
   simpa [Array.getD,hL,hi] using this
theorem yields_ops(hH:headB md l1=true){i:Nat}{o:Oper}(ho:l1[i]?=some o){C:World→Prop}{v:Value}{a:Act}(hy:YieldsIn P l1.toArray C o v a):YieldsIn P (l1++oa::l2).toArray C o v a:=by
 have hw:Region.wanted o (yielded l1.toArray a.tmps)=Region.wanted o (yielded (l1++oa::l2).toArray a.tmps):=by
  unfold Region.wanted
  cases hg:o.guard with
  | none=>rfl
  | some g=>
   have:=head_guard hH ho hg;unfold yielded;simp only [box_ops this,List.getElem?_toArray]
 unfold YieldsIn at *;rw [← hw];exact hy
theorem box_op{i:Nat}{o:Oper}(hi:i<l1.length) (ho:l1[i]?=some o){v:Value}{a:Act}{W:World}{K':Act→World→Prop}(hy:YieldsIn P (l1++oa::l2).toArray (Cls W) o v a) (h:∀ W',Cls W W'→K' (a.put o.dst v) W'):
 wpOp P (l1++oa::l2).toArray Q i K' a W:=
 wpOp_of_qOp (C:=Cls W) (K:=fun a'=>a'=a.put o.dst v) (cls_refl W) (fun a' w' hw' e=>by rw [e];exact h w' hw') (YieldsIn.qOp (by rw [box_ops hi,ho]) hy rfl)
variable {d:Tmp}{T:TypeId}{zc:Array Value}
def Behind(P:Program) (ops:Array Oper) (Q:Exit→Act→World→Prop) (l2:List Oper) (w:World) (d:Tmp) (T:TypeId) (zc:Array Value):Act→Prop:=fun a' =>
 ∀ W g,Cls w W→w.heap.size≤g→W.heap[g]?=some (.cells zc T)→wpList P ops Q l2 (a'.put (some d) (.pointer (some ⟨g,0,none⟩))) W
theorem box_end(hT:tailB md (l1.length+1) l2=true) (hH:headB md l1=true)
 (hS:Region.seqB md (l1++oa::l2).toArray l2.length (l1.length+1) (both (Array.replicate (l1.length+1) true) l2.length)=true)
 {L:Array Bool}{a:Act}{W:World}(hL:L.size=l1.length) (hr:Region.ready md l1.toArray L=[]) (h:wpList P (l1++oa::l2).toArray Q l2 a W):
 wpAny P md (l1++oa::l2).toArray Q l2.length (mkB L true l2.length) a W:=by
 rw [mkB_all hL (ready_none hH hL hr)];exact wpAny_of_seq l2 (l1.length+1) _ a W (fun j=>by rw [List.getElem?_toArray,List.getElem?_append_right (by omega),show l1.length+1+j-l1.length=j+1 by omega,List.getElem?_cons_succ]) hS h
end
end
section
open Go Go.Sort Go.RowKit
section
variable {P:Program}{Q:Exit→Act→World→Prop}{l1 l2:List Oper}{oa:Oper}{w:World}{K:Act→Prop}{d:Tmp}{T:TypeId}{zc:Array Value}
theorem put_at{a:Act}{t:Tmp}{v:Value}(ht:t<a.tmps.size):(a.put (some t) v).tmps[t]?=some v:=by
 simp [Act.put,ht]
theorem fix_step{Bp:World→Prop}{ops:Array Oper}{o:Oper}{rest:List Oper}{a:Act}{v:Value}{t:Tmp}(ho:o.dst=some t) (ht:t<a.tmps.size)
 (h1:∀ wb,Bp wb→wpQuiet P ops (fun w'=>∃ p:Regrown,w'=grow (redrawn wb p.d) p.os) (fun a'=>a'.tmps[t]?=some v) [o] a) (h2:wpFix P ops Bp K rest (a.put (some t) v)):wpFix P ops Bp K (o::rest) a:=by
 refine⟨v,fun wb hb=>?_,by rw [ho];exact h2⟩;have h:=h1 wb hb;unfold wpQuiet at h
 by_cases hw:Region.wanted o (yielded ops a.tmps)=true
 · rw [if_pos hw] at h;obtain⟨v',hq,he⟩:=h;rw [ho] at he;have he:(a.put (some t) v').tmps[t]?=some v:=he;rw [put_at ht] at he;rw [Option.some.inj he] at hq;exact .inl ⟨hw,hq⟩
 · rw [if_neg hw,ho] at h;have he:(a.put (some t) undef).tmps[t]?=some v:=h;rw [put_at ht] at he;exact .inr ⟨by simpa using hw,(Option.some.inj he).symm⟩
end
end
section
open Go Go.Sort Go.RowKit
section
variable {P:Program}{md:Region.Mode}{Q:Exit→Act→World→Prop}{l1 l2:List Oper}{oa os:Oper}{ops:Array Oper}{w:World}{K:Act→Prop}{d tx:Tmp}{T:TypeId}{zc:Array Value}
theorem eval_other{a:Act}{y:Option Tmp}{v:Value}{t:Tmp}(h:y≠some t):(a.put y v).eval (.tmp t)=a.eval (.tmp t):=Act.eval_put fun d hd e=>h (by injection e with e;rw [hd,e])
theorem fixAny_run{Bp:World→Prop}:∀ (f:Nat) (L:Array Bool) (a:Act),fixAny P md ops Bp K f L a→(∀ (i:Nat) o,ops[i]?=some o→L.getD i true=false→o.dst≠some tx)→∃ a',K a'∧a'.eval (.tmp tx)=a.eval (.tmp tx)
 | 0,L,a,h,_=>⟨a,h.2,rfl⟩
 | f+1,L,a,h,hm=>by
  by_cases hr:Region.ready md ops L=[]
  · exact⟨a,h.1 hr,rfl⟩
  · obtain⟨i,hi⟩:=List.exists_mem_of_ne_nil _ hr;obtain⟨hu,o,ho,_⟩:=mem_ready.1 hi;have hf:=h.2 i hi;unfold fOp at hf;rw [ho] at hf;obtain⟨v,_,hn⟩:=hf
    obtain⟨a',h1,h2⟩:=fixAny_run f _ _ hn fun j oj hj hl=>hm j oj hj (by
     by_cases hij:i=j
     · subst hij;exact hu
     · rwa [getD_set_ne true hij] at hl)
    exact⟨a',h1,h2.trans (eval_other (hm i o ho hu))⟩
section
variable {L:Array Bool}{b c:Bool}{m i n:Nat}
end
end
end
section
open Go Go.Sort Go.RowKit
section
variable {P:Program}{md:Region.Mode}{Q:Exit→Act→World→Prop}{l1 l2:List Oper}{oa os:Oper}{w:World}{d tx:Tmp}{T:TypeId}{zc:Array Value}
structure VarB (P:Program) (md:Region.Mode) (l1:List Oper) (oa os:Oper) (l2:List Oper) (d tx:Tmp) (T:TypeId) (zc:Array Value) (Q:Exit→Act→World→Prop):Prop where
 head:headB md l1=true
 tail:tailB md (l1.length+2) l2=true
 nos:Region.noSelect (l1++oa::os::l2).toArray=true
 da:oa.dst=some d
 ne:tx≠d
 ap:∀ o∈l1,oa.apart (l1++oa::os::l2).toArray o=true
 ga:oa.guard=none
 gs:os.guard=none
 ds:os.dst=none
 fa:∀ e∈oa.after,Region.binds md e=true→e.on<l1.length
 fs:∀ e∈os.after,Region.binds md e=true→e.on<l1.length+1
 sa:∃ e∈os.after,Region.binds md e=true∧e.on=l1.length
 sx:∀ (i:Nat) o,l1[i]?=some o→o.dst=some tx→∃ e∈os.after,Region.binds md e=true∧e.on=i
 seq:Region.seqB md (l1++oa::os::l2).toArray l2.length (l1.length+2) (both (Array.replicate (l1.length+2) true) l2.length)=true
 al:∀ (a:Act) (W:World),(execOp a.eval oa).run P W=.ok (.value (.pointer (some ⟨W.heap.size,0,none⟩))) (W.alloc (.cells zc T))
 st:∀ (a:Act) (W:World) (g:Nat) (cells:Array Value) (K:Act→World→Prop),a.eval (.tmp d)=.pointer (some ⟨g,0,none⟩)→a.eval (.tmp tx)=.agg cells→W.heap[g]?=some (.cells zc T)→cells.size=zc.size→cells.all (·.oneCell')=true →
  K a (W.setRow g cells)→os.wp P a W K Q
theorem put_size(a:Act) (y:Option Tmp) (v:Value):(a.put y v).tmps.size=a.tmps.size:=by cases y <;> simp [Act.put]
theorem eval_own{a:Act}{v:Value}{t:Tmp}(h:t<a.tmps.size):(a.put (some t) v).eval (.tmp t)=v:=by
 simp [Act.eval,Act.put,h]
theorem getD_keep{L:Array Bool}{i j:Nat}(h:L.getD j true=true):(L.setIfInBounds i true).getD j true=true:=by
 by_cases hij:i=j
 · subst hij;simp only [Array.getD,Array.size_setIfInBounds]
   split
   · simp
   · rfl
 · rw [getD_set_ne true hij];exact h
variable (B:VarB P md l1 oa os l2 d tx T zc Q)
theorem var_lt{L:Array Bool}{i:Nat}(hi:i∈Region.ready md l1.toArray L):i<l1.length:=by
 obtain⟨_,o,ho,_⟩:=mem_ready.1 hi
 simpa using (Array.getElem?_eq_some_iff.1 ho).1
include B in
end
end
section
open Go Go.Sort Go.RowKit
structure Bs (w:World) (r:Nat) (wb:World):Prop where
 os:wb.os=w.os
 tape:wb.tape=w.tape
 output:wb.output=w.output
 size:w.heap.size≤wb.heap.size
 block:∀ k,k<w.heap.size→k≠r→wb.heap[k]?=w.heap[k]?
theorem bs_of{w W:World}{r:Nat}(h:Cls w W):Bs w r W:=by
 have hb:=cls_below h;exact⟨hb.os,hb.tape,hb.output,hb.size,fun k hk _=>hb.block k hk⟩
theorem bs_cls{w W W':World}{r:Nat}(h:Bs w r W) (h':Cls W W'):Bs w r W':=by
 have hb:=cls_below h';exact⟨hb.os.trans h.os,hb.tape.trans h.tape,hb.output.trans h.output,Nat.le_trans h.size hb.size,fun k hk hn=>(hb.block k (Nat.lt_of_lt_of_le hk h.size)).trans (h.block k hk hn)⟩
theorem bs_set{w W:World}{r:Nat}(h:Bs w r W) (cs:Array Value):Bs w r (W.setRow r cs):=
 ⟨h.os,h.tape,h.output,by have:=h.size;simpa [World.setRow] using this,fun k hk hn=>(setRow_other _ _ _ _ hn).trans (h.block k hk hn)⟩
theorem bs_below{wS w W:World}{r m:Nat}(h:Bs w r W) (hb:Below m wS w) (hm:m≤wS.heap.size) (hr:m≤r):Below m wS W:=
 ⟨h.os.trans hb.os,h.tape.trans hb.tape,h.output.trans hb.output,Nat.le_trans hb.size h.size,fun k hk=>(h.block k (by have:=hb.size;omega) (by omega)).trans (hb.block k hk)⟩
theorem bs_cell{w W:World}{r b o:Nat}{v:Value}(h:Bs w r W) (hn:b≠r) (hc:w.cell? ⟨b,o,none⟩=some v):W.cell? ⟨b,o,none⟩=some v:=by
 have hl:b<w.heap.size:=World.block_lt_of_cell? _ _ hc;rw [← hc];unfold World.cell?;rw [show W.heap[(⟨b,o,none⟩:Addr).block]?=w.heap[(⟨b,o,none⟩:Addr).block]? from h.block b hl hn]
section
variable {P:Program}{md:Region.Mode}{Q:Exit→Act→World→Prop}{l1 l2:List Oper}{os:Oper}{w:World}{p tx:Tmp}{r:Nat}{T:TypeId}{zc:Array Value}
def Put(P:Program) (ops:Array Oper) (Q:Exit→Act→World→Prop) (l2:List Oper) (w:World) (r:Nat) (tx:Tmp) (T:TypeId) (zc:Array Value):Act→Prop:=fun a' =>
 ∃ cells:Array Value,a'.eval (.tmp tx)=.agg cells∧cells.size=zc.size∧cells.all (·.oneCell')=true ∧
  ∀ W,Bs w r W→W.heap[r]?=some (.cells cells T)→wpList P ops Q l2 a' W
structure OutB (P:Program) (md:Region.Mode) (l1:List Oper) (os:Oper) (l2:List Oper) (p tx:Tmp) (r:Nat) (T:TypeId) (zc:Array Value) (Q:Exit→Act→World→Prop):Prop where
 head:headB md l1=true
 tail:tailB md (l1.length+1) l2=true
 np:∀ o∈l1,o.dst≠some p
 gs:os.guard=none
 fs:∀ e∈os.after,Region.binds md e=true→e.on<l1.length
 sx:∀ (i:Nat) o,l1[i]?=some o→o.dst=some tx→∃ e∈os.after,Region.binds md e=true∧e.on=i
 seq:Region.seqB md (l1++os::l2).toArray l2.length (l1.length+1) (both (Array.replicate (l1.length+1) true) l2.length)=true
 st:∀ (a:Act) (W:World) (cells:Array Value) (K:Act→World→Prop),a.eval (.tmp p)=.pointer (some ⟨r,0,none⟩)→a.eval (.tmp tx)=.agg cells→W.heap[r]?=some (.cells zc T)→cells.size=zc.size→cells.all (·.oneCell')=true →
  K a (W.setRow r cells)→os.wp P a W K Q
variable (B:OutB P md l1 os l2 p tx r T zc Q)
include B in
theorem out_step{f i:Nat}{L:Array Bool}{a:Act}{W:World}{K':Act→World→Prop}{KK:Act→Prop}(hC:Bs w r W) (hi:i∈Region.ready md l1.toArray L)
 (h:fixAny P md l1.toArray (Bs w r) KK (f+1) L a)
 (hK:∀ (v:Value) (W':World) o,Cls W W'→l1[i]?=some o→fixAny P md l1.toArray (Bs w r) KK f (L.setIfInBounds i true) (a.put o.dst v)→K' (a.put o.dst v) W'):
 wpOp P (l1++os::l2).toArray Q i K' a W:=by
 have hin:=var_lt hi;have ho:l1[i]?=some l1[i]:=List.getElem?_eq_getElem hin;have hf:=h.2 i hi;unfold fOp at hf;rw [List.getElem?_toArray,ho] at hf;obtain⟨v,hy,hn⟩:=hf;exact box_op hin ho (yields_ops B.head ho (hy W hC)) fun W' hW'=>hK v W' _ hW' ho hn
include B in
theorem out_B:∀ (f:Nat) (L:Array Bool) (a:Act) (W:World) (cells:Array Value),L.size=l1.length→Bs w r W→W.heap[r]?=some (.cells cells T)→a.eval (.tmp tx)=.agg cells →
 (∀ (i:Nat) o,l1[i]?=some o→o.dst=some tx→L.getD i true=true)→fixAny P md l1.toArray (Bs w r) (Put P (l1++os::l2).toArray Q l2 w r tx T zc) f L a →
 wpAny P md (l1++os::l2).toArray Q (f+l2.length) (mkB L true l2.length) a W:=by
 have hfin:∀ (L:Array Bool) (a:Act) (W:World) (cells:Array Value),L.size=l1.length→Region.ready md l1.toArray L=[]→Bs w r W→W.heap[r]?=some (.cells cells T)→a.eval (.tmp tx)=.agg cells →
  Put P (l1++os::l2).toArray Q l2 w r tx T zc a→wpAny P md (l1++os::l2).toArray Q l2.length (mkB L true l2.length) a W:=fun L a W cells hL hr hC hz hx h=>by
  obtain⟨cs,e1,_,_,e4⟩:=h;rw [hx] at e1;injection e1 with e1;subst e1;exact box_end B.tail B.head B.seq hL hr (e4 W hC hz)
 intro f
 induction f with
 | zero=>
  intro L a W cells hL hC hz hx hm h;rw [Nat.zero_add];exact hfin L a W cells hL h.1 hC hz hx h.2
 | succ f ih=>
  intro L a W cells hL hC hz hx hm h
  by_cases hr:Region.ready md l1.toArray L=[]
  · exact wpAny_fuel _ _ (hfin L a W cells hL hr hC hz hx (h.1 hr))
  · rw [Nat.add_right_comm];obtain⟨i0,hi0⟩:=List.exists_mem_of_ne_nil _ hr;refine⟨fun h0=>?_,fun i hi=>?_⟩
    · have:=(box_ready (oa:=os) (l2:=l2) B.head hL (m:=l2.length) (b:=true) (var_lt hi0)).2 hi0;rw [h0] at this
      cases this
    · have hin:i<l1.length:=by
       rcases Nat.lt_or_ge i l1.length with h1 | h1
       · exact h1
       · rcases Nat.lt_or_ge i (l1.length+1) with h2 | h2
         · obtain rfl:i=l1.length:=by omega
           have:=(mem_ready.1 hi).1;rw [← hL,mkB_mid] at this
           cases this
         · have:=(box_tail B.tail hL h2 hi).2 i0 (var_lt hi0);rw [(mem_ready.1 hi0).1] at this
           cases this
      have hi':=(box_ready (oa:=os) (l2:=l2) B.head hL (m:=l2.length) (b:=true) hin).1 hi;rw [mkB_set (by omega)];refine out_step B hC hi' h fun v W' o hW' ho hn=>?_
      have hne:o.dst≠some tx:=fun e=>by
       have h1:=hm i o ho e;rw [(mem_ready.1 hi').1] at h1
       cases h1
      have hgl:r<W.heap.size:=(Array.getElem?_eq_some_iff.1 hz).1;exact ih _ _ W' cells (by simp [hL]) (bs_cls hC hW') (((cls_below hW').block r hgl).trans hz) ((eval_other hne).trans hx) (fun j oj hj e=>getD_keep (hm j oj hj e)) hn
include B in
theorem out_A:∀ (f:Nat) (L:Array Bool) (a:Act) (W:World),L.size=l1.length→Cls w W→W.heap[r]?=some (.cells zc T)→a.eval (.tmp p)=.pointer (some ⟨r,0,none⟩) →
 fixAny P md l1.toArray (Bs w r) (Put P (l1++os::l2).toArray Q l2 w r tx T zc) f L a →
 wpAny P md (l1++os::l2).toArray Q (f+1+l2.length) (mkB L false l2.length) a W:=by
 have hstore:∀ (f:Nat) (L:Array Bool) (a:Act) (W:World),L.size=l1.length→Cls w W→W.heap[r]?=some (.cells zc T)→a.eval (.tmp p)=.pointer (some ⟨r,0,none⟩) →
  fixAny P md l1.toArray (Bs w r) (Put P (l1++os::l2).toArray Q l2 w r tx T zc) f L a→l1.length∈Region.ready md (l1++os::l2).toArray (mkB L false l2.length) →
  wpOp P (l1++os::l2).toArray Q l1.length (wpAny P md (l1++os::l2).toArray Q (f+l2.length) ((mkB L false l2.length).setIfInBounds l1.length true)) a W:=fun f L a W hL hC hz hp h hi=>by
  obtain⟨_,o,ho,hall⟩:=mem_ready.1 hi;rw [box_mid] at ho;obtain rfl:=Option.some.inj ho
  have hm:∀ (i:Nat) o,l1[i]?=some o→o.dst=some tx→L.getD i true=true:=fun i o ho e=>by
   obtain⟨x,hx,hb,hon⟩:=B.sx i o ho e;have hl:i<l1.length:=(List.getElem?_eq_some_iff.1 ho).1;have:=hall x hx hb;rw [hon,mkB_head (by omega)] at this
   simpa [Array.getD,hL,hl] using this
  obtain⟨a',⟨cells,e1,e2,e3,_⟩,e5⟩:=fixAny_run (tx:=tx) f L a h fun i o ho hl e=>by
   rw [List.getElem?_toArray] at ho;rw [hm i o ho e] at hl
   cases hl
  have hx:a.eval (.tmp tx)=.agg cells:=e5.symm.trans e1;unfold wpOp;rw [box_mid];simp only;rw [if_pos (by simp [Region.wanted,B.gs])];refine .inl (B.st _ W cells _ hp hx hz e2 e3 ?_);rw [← hL,mkB_on];have hsz:W.heap[r]?=some (.cells zc T (0,0)):=hz;exact out_B B f L a _ cells hL (bs_set (bs_of hC) cells) (setRow_heap _ _ _ _ _ _ hsz) hx hm h
 have hempty:∀ (L:Array Bool),L.size=l1.length→Region.ready md l1.toArray L=[]→l1.length∈Region.ready md (l1++os::l2).toArray (mkB L false l2.length):=fun L hL hr=>by
  refine mem_ready.2 ⟨?_,os,box_mid,fun e he hb=>?_⟩
  · rw [← hL,mkB_mid]
  · have hl:=B.fs e he hb;have:=ready_none B.head hL hr e.on hl;rw [mkB_head (by omega)]
    simpa [Array.getD,hL,hl] using this
 have hno:∀ (L:Array Bool) i,L.size=l1.length→i∈Region.ready md (l1++os::l2).toArray (mkB L false l2.length)→i≤l1.length:=fun L i hL hi=>by
  rcases Nat.lt_or_ge i (l1.length+1) with h1 | h1
  · omega
  · have:=(box_tail B.tail hL h1 hi).1
    cases this
 intro f
 induction f with
 | zero=>
  intro L a W hL hC hz hp h;rw [show 0+1+l2.length=(0+l2.length)+1 by omega];have hm:=hempty L hL h.1;refine⟨fun h0=>(by rw [h0] at hm;cases hm),fun i hi=>?_⟩
  have hin:i=l1.length:=by
   rcases Nat.lt_or_ge i l1.length with h1 | h1
   · have:=(box_ready B.head hL h1).1 hi;rw [h.1] at this
     cases this
   · have:=hno L i hL hi;omega
  subst hin;exact hstore 0 L a W hL hC hz hp h hi
 | succ f ih=>
  intro L a W hL hC hz hp h;rw [show f+1+1+l2.length=(f+1+l2.length)+1 by omega];refine⟨fun h0=>?_,fun i hi=>?_⟩
  · by_cases hr:Region.ready md l1.toArray L=[]
    · have:=hempty L hL hr;rw [h0] at this
      cases this
    · obtain⟨i0,hi0⟩:=List.exists_mem_of_ne_nil _ hr;have:=(box_ready (oa:=os) (l2:=l2) B.head hL (m:=l2.length) (b:=false) (var_lt hi0)).2 hi0;rw [h0] at this
      cases this
  · rcases Nat.lt_or_ge i l1.length with hin | h1
    · have hi':=(box_ready (oa:=os) (l2:=l2) B.head hL (m:=l2.length) (b:=false) hin).1 hi;rw [mkB_set (by omega)];refine out_step B (bs_of hC) hi' h fun v W' o hW' ho hn=>?_;have hgl:r<W.heap.size:=(Array.getElem?_eq_some_iff.1 hz).1;exact ih _ _ W' (by simp [hL]) (cls_trans hC hW') (((cls_below hW').block r hgl).trans hz) ((eval_other (B.np o (List.mem_of_getElem? ho))).trans hp) hn
    · obtain rfl:i=l1.length:=by have:=hno L i hL hi;omega
      exact hstore (f+1) L a W hL hC hz hp h hi
end
section
variable {P:Program}{Q:Exit→Act→World→Prop}{l1 l2:List Oper}{os:Oper}{w:World}{p tx:Tmp}{r:Nat}{T:TypeId}{zc:Array Value}
def outB(l1:List Oper) (os:Oper) (l2:List Oper) (p tx:Tmp):Bool:=
 Region.lexB .any l1.toArray && headB .any l1 && tailB .any (l1.length+1) l2 && (os.guard.isNone && os.dst.isNone) && (l1.all fun o=>!(o.dst==some p)) &&
  (os.after.all fun e=>!Region.binds .any e || decide (e.on<l1.length)) &&
  ((List.range l1.length).all fun i=>!(((l1[i]?).bind (·.dst))==some tx) || os.after.any fun e=>Region.binds .any e && e.on==i) &&
  Region.seqB .any (l1++os::l2).toArray l2.length (l1.length+1) (both (Array.replicate (l1.length+1) true) l2.length)
theorem wp_region_out{id:Nat}{a:Act}(hm:P.follows .mixedOrders=true) (hB:outB l1 os l2 p tx=true) (hp:a.eval (.tmp p)=.pointer (some ⟨r,0,none⟩)) (hz:w.heap[r]?=some (.cells zc T))
 (hst:os.op=.store T (.tmp p) (.tmp tx)) (hi:(P.info? T).map (·.size)=some zc.size)
 (h:wpFix P l1.toArray (Bs w r) (Put P (l1++os::l2).toArray (fun e a w=>Q e a w) l2 w r tx T zc) l1 a):(Code.region id (l1++os::l2).toArray true).wp P Q a w:=by
 simp only [outB,Bool.and_eq_true] at hB;obtain⟨⟨⟨⟨⟨⟨⟨h1,h2⟩,h3⟩,h5,h6⟩,h7⟩,h8⟩,h9⟩,h10⟩:=hB;simp only [Region.lexB,Bool.and_eq_true] at h1;have h0:=fixAny_lex h1.1 l1 0 (Array.replicate l1.toArray.size false) a (by simp) (by simpa using h1.2) h;have gs:os.guard=none:=by simpa using h5
 have ds:os.dst=none:=by simpa using h6
 have B:OutB P .any l1 os l2 p tx r T zc Q:={
  head:=h2,tail:=h3,gs:=gs,seq:=h10
  np:=fun o ho e=>by
   have:=List.all_eq_true.1 h7 o ho
   simp [e] at this
  fs:=fun e he hb=>by
   have:=Array.all_eq_true_iff_forall_mem.1 h8 e he
   simpa [hb] using this
  sx:=fun i o ho e=>by
   have hl:i<l1.length:=(List.getElem?_eq_some_iff.1 ho).1;have:=List.all_eq_true.1 h9 i (List.mem_range.2 hl);rw [ho] at this;simp only [Option.bind_some,e,beq_self_eq_true,Bool.not_true,Bool.false_or] at this;obtain⟨x,hx,h⟩:=Array.any_eq_true'.1 this;simp only [Bool.and_eq_true,beq_iff_eq] at h;exact⟨x,hx,h.1,h.2⟩
  st:=fun a W cells K e1 e2 e3 e4 e5 hK=>wp_store_row T (.tmp p) (.tmp tx) hst r cells e1 e2 T zc e3 (by rw [hi,e4]) e4.symm e5 (by rw [ds];exact hK) }
 refine wp_region_any hm ?_;have hC:Cls w { w with drawn:=w.drawn+1 }:=⟨⟨w.drawn+1,#[]⟩,by rw [grow_empty];rfl⟩;have h11:=out_A B l1.length (Array.replicate l1.toArray.size false) a { w with drawn:=w.drawn+1 } (by simp) hC hz hp h0;have e1:(l1++os::l2).toArray.size=l1.length+1+l2.length:=by simp;omega
 have e2:Array.replicate (l1++os::l2).toArray.size false=mkB (Array.replicate l1.toArray.size false) false l2.length:=by
  rw [e1];unfold mkB;rw [← Array.replicate_succ,Array.replicate_append_replicate]
  simp
 rw [e2,e1];exact h11
end
end
section
open Go Go.Sort Go.RowKit
section
variable {P:Program}{md:Region.Mode}{Q:Exit→Act→World→Prop}{l1 l2:List Oper}{oa os:Oper}{w:World}{d tx:Tmp}{T:TypeId}{zc:Array Value}
section
variable (B:VarB P md l1 oa os l2 d tx T zc Q)
include B in
end
end
end
end Go.Proofs.YtkbpdoomhfkngaaGreat
