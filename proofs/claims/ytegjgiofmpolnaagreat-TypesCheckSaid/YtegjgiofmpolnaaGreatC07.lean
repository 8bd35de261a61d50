/- Parts of the proof: Qt, Al, Am, An, Ao, Ap, Aq. Conditions: each theorem's own. -/
import Derived.StillTail
import Derived.Laws.CopyOwn
import Derived.Laws.Rows
import Derived.Test.YtegjgiofmpolnaaGreatC01
namespace Go.Proofs.YtegjgiofmpolnaaGreat
set_option linter.unusedVariables false
set_option linter.unusedSimpArgs false
set_option maxRecDepth 100000
set_option maxHeartbeats 40000000
section
open Go.Sort Go.RowKit
theorem Zs:type_of% @below_regrown:=@below_regrown
theorem Zw:type_of% @heap_alloc_new:=@heap_alloc_new
theorem Xb:type_of% @below_setRow:=@below_setRow
theorem Xc:type_of% @setRow_heap:=@setRow_heap
end
section
open Go Go.Sort
section
variable {P:Program}{md:Region.Mode}{C:World->Prop}{Q:Exit->Act->World->Prop}{l1 l2:List Oper}
def iI(md:Region.Mode) (l1:List Oper):Bool:=
 (List.range l1.length).all fun i=>((l1[i]?).map fun o=>(o.after.all fun e=>!Region.binds md e || decide (e.on<i)) && ((o.guard.map fun g=>decide (g.1<l1.length)).getD true)).getD true
def lF(md:Region.Mode) (n:Nat) (l2:List Oper):Bool:=
 l2.all fun o=>(List.range n).all fun i=>o.after.any fun e=>Region.binds md e && e.on==i
theorem oV(h:iI md l1=true){i:Nat}{o:Oper}(ho:l1[i]?=some o):∀ e∈o.after,Region.binds md e=true->e.on<i:=by
 intro e he hb;have hi:i<l1.length:=(List.getElem?_eq_some_iff.1 ho).1;have h1:=List.all_eq_true.1 h i (List.mem_range.2 hi);simp only [ho,Option.map_some,Yt,Bool.and_eq_true] at h1;have h2:=Array.all_eq_true_iff_forall_mem.1 h1.1 e he
 simpa [hb] using h2
theorem aA5(h:iI md l1=true){i:Nat}{o:Oper}(ho:l1[i]?=some o){g:Nat × Bool}(hg:o.guard=some g):g.1<l1.length:=by
 have hi:i<l1.length:=(List.getElem?_eq_some_iff.1 ho).1;have h1:=List.all_eq_true.1 h i (List.mem_range.2 hi);simp only [ho,hg,Option.map_some,Yt,Bool.and_eq_true,decide_eq_true_eq] at h1;exact h1.2
theorem pX{n:Nat}(h:lF md n l2=true){o:Oper}(ho:o∈l2){i:Nat}(hi:i<n):∃ e∈o.after,Region.binds md e=true/\e.on=i:=by
 have h1:=List.all_eq_true.1 (List.all_eq_true.1 h o ho) i (List.mem_range.2 hi);obtain⟨e,he,h2⟩:=Array.any_eq_true'.1 h1;simp only [Bool.and_eq_true,beq_iff_eq] at h2;exact⟨e,he,h2.1,h2.2⟩
def fQ(L:Array Bool) (m:Nat):Array Bool:=L++Array.replicate m false
theorem tI{L:Array Bool}{m i:Nat}(h:i<L.size) (d:Bool):(fQ L m).getD i d=L.getD i d:=by
 have h':i<L.size+m:=by omega
 simp [fQ,Array.getD,h,h']
theorem aMk{L:Array Bool}{m i:Nat}(h:i<L.size):(fQ L m).setIfInBounds i true=fQ (L.setIfInBounds i true) m:=by
 unfold fQ;rw [Array.setIfInBounds_append_left (by simpa using h)]
theorem xA{i:Nat}(h:i<l1.length):(l1++l2).toArray[i]?=l1[i]?:=by simp [List.getElem?_append_left h]
theorem aA6(hH:iI md l1=true){L:Array Bool}(hL:L.size=l1.length){i m:Nat}(hi:i<l1.length):
 i∈Region.ready md (l1++l2).toArray (fQ L m)↔i∈Region.ready md l1.toArray L:=by
 rw [mem_ready,mem_ready,tI (by omega),xA hi]
 constructor
 . rintro ⟨h1,o,ho,Aa⟩;refine⟨h1,o,by simpa using ho,fun e he hb=>?_⟩;have Ac:=oV hH ho e he hb;have:=Aa e he hb;rwa [tI (by omega)] at this
 . rintro ⟨h1,o,ho,Aa⟩;have Ab:l1[i]?=some o:=by simpa using ho
   refine⟨h1,o,Ab,fun e he hb=>?_⟩;have Ac:=oV hH Ab e he hb;rw [tI (by omega)];exact Aa e he hb
theorem nM(hH:iI md l1=true){L:Array Bool}(hL:L.size=l1.length) (h:Region.ready md l1.toArray L=[]):∀ i,i<l1.length->L.getD i false=true:=by
 intro i
 induction i using Nat.strongRecOn with
 | _ i ih=>
  intro hi
  cases hl:L.getD i false with
  | true=>rfl
  | false=>
   have hm:i∈Region.ready md l1.toArray L:=by
    refine mem_ready.2 ⟨getD_in (by omega) hl,l1[i],by simp [hi],fun e he hb=>?_⟩;have Aa:=oV hH (Yk hi) e he hb;exact ih e.on Aa (by omega)
   rw [h] at hm
   cases hm
theorem xX{L:Array Bool}{n:Nat}(hL:L.size=n) (h:∀ i,i<n->L.getD i false=true):L=Array.replicate n true:=by
 apply Array.ext
 . simp [hL]
 . intro i h1 h2;have:=h i (by omega)
   simp [Array.getD,h1] at this
   simp [this]
theorem aHu{n m:Nat}(hT:lF md n l2=true) (hn:l1.length=n){L:Array Bool}(hL:L.size=n){t:Nat}(ht:n<=t) (hr:t∈Region.ready md (l1++l2).toArray (fQ L m)):∀ i,i<n->L.getD i false=true:=by
 intro i hi;obtain⟨_,o,ho,Aa⟩:=mem_ready.1 hr
 have Ac:o∈l2:=by
  have:l2[t-n]?=some o:=by
   rw [List.getElem?_toArray,List.getElem?_append_right (by omega),hn] at ho;exact ho
  exact List.mem_of_getElem? this
 obtain⟨e,he,hb,Ab⟩:=pX hT Ac hi;have:=Aa e he hb;rw [Ab,tI (by omega)] at this;exact this
theorem aA7{ops:Array Oper}:∀ (f:Nat) (L:Array Bool) (a:Act) (w:World),wpAny P md ops Q f L a w->wpAny P md ops Q (f+1) L a w
 | 0,_,_,_,h=>⟨fun _=>h.2,fun i hi=>by rw [h.1] at hi;cases hi⟩
 | f+1,_,_,_,h=>⟨h.1,fun i hi=>wpOp_mono (fun a' w' h'=>aA7 f _ a' w' h') (h.2 i hi)⟩
theorem vW{ops:Array Oper}{L:Array Bool}{a:Act}{w:World}(f m:Nat) (h:wpAny P md ops Q m L a w):wpAny P md ops Q (f+m) L a w:=by
 induction f with
 | zero=>rwa [Nat.zero_add]
 | succ f ih=>rw [Nat.add_right_comm];exact aA7 _ _ _ _ ih
theorem aO6(hH:iI md l1=true){i:Nat}(hi:i<l1.length){K:Act->Prop}{K':Act->World->Prop}{a:Act}{w:World}(hC:C w) (hK:∀ a w',C w'->K a->K' a w')
 (h:qOp P l1.toArray C i K a):wpOp P (l1++l2).toArray Q i K' a w:=by
 have ho:l1[i]?=some l1[i]:=Yk hi;unfold qOp at h;unfold wpOp;rw [xA hi,ho];rw [List.getElem?_toArray,ho] at h;simp only at h ⊢
 have hw:Region.wanted l1[i] (yielded l1.toArray a.tmps)=Region.wanted l1[i] (yielded (l1++l2).toArray a.tmps):=by
  unfold Region.wanted
  cases hg:l1[i].guard with
  | none=>rfl
  | some g=>
   have:=aA5 hH ho hg;unfold yielded;simp only [xA this,List.getElem?_toArray]
 rw [<- hw]
 split
 . rename_i hx
   rw [if_pos hx] at h;exact .inl (Oper.wp_of_quiet hC hK h)
 . rename_i hx
   rw [if_neg hx] at h;exact hK _ _ hC h
theorem aHv(hH:iI md l1=true) (hT:lF md l1.length l2=true)
 (hS:Region.seqB md (l1++l2).toArray l2.length l1.length (fQ (Array.replicate l1.length true) l2.length)=true):
 ∀ (f:Nat) (L:Array Bool) (a:Act) (w:World),L.size=l1.length->C w ->
  wpAnyQ P md l1.toArray C (fun a'=>∀ w',C w'->wpList P (l1++l2).toArray Q l2 a' w') f L a ->
  wpAny P md (l1++l2).toArray Q (f+l2.length) (fQ L l2.length) a w:=by
 have Aa:∀ (L:Array Bool) (a:Act) (w:World),L.size=l1.length->C w->Region.ready md l1.toArray L=[]->(∀ w',C w'->wpList P (l1++l2).toArray Q l2 a w') ->
  wpAny P md (l1++l2).toArray Q l2.length (fQ L l2.length) a w:=by
  intro L a w hL hC hr h;rw [xX hL (nM hH hL hr)];exact wpAny_of_seq l2 l1.length _ a w (fun j=>by simp [List.getElem?_append_right (show l1.length<=l1.length+j by omega)]) hS (h w hC)
 intro f
 induction f with
 | zero=>
  intro L a w hL hC h;rw [Nat.zero_add];exact Aa L a w hL hC h.1 h.2
 | succ f ih=>
  intro L a w hL hC h
  by_cases hr:Region.ready md l1.toArray L=[]
  . exact vW _ _ (Aa L a w hL hC hr (h.1 hr))
  . rw [Nat.add_right_comm];obtain⟨i0,Ab⟩:=List.exists_mem_of_ne_nil _ hr
    have Ac:∀ i,i∈Region.ready md l1.toArray L->i<l1.length:=fun i hi=>by
     obtain⟨_,o,ho,_⟩:=mem_ready.1 hi
     simpa using (Yl.1 ho).1
    refine⟨fun h0=>?_,fun i hi=>?_⟩
    . have:=(aA6 (l2:=l2) hH hL (m:=l2.length) (Ac _ Ab)).2 Ab;rw [h0] at this
      cases this
    . have Ad:i<l1.length:=by
       rcases Nat.lt_or_ge i l1.length with h1 | h1
       . exact h1
       . have:=aHu hT rfl hL h1 hi i0 (Ac _ Ab);rw [getD_both (mem_ready.1 Ab).1] at this
         cases this
      have Af:=(aA6 (l2:=l2) hH hL (m:=l2.length) Ad).1 hi;rw [aMk (by omega)];exact aO6 hH Ad hC (fun a' w' Ae hK=>ih _ a' w' (by simp [hL]) Ae hK) (h.2 i Af)
theorem iV{id:Nat}{a:Act}{w:World}(hm:P.follows .mixedOrders=true) (hB:Region.lexB .any l1.toArray=true) (hH:iI .any l1=true) (hT:lF .any l1.length l2=true)
 (hS:Region.seqB .any (l1++l2).toArray l2.length l1.length (fQ (Array.replicate l1.length true) l2.length)=true)
 (h:wpQuiet P l1.toArray (fun w'=>∃ p:Regrown,w'=grow (redrawn w p.d) p.os) (fun a'=>∀ w',(∃ p:Regrown,w'=grow (redrawn w p.d) p.os)->wpList P (l1++l2).toArray Q l2 a' w') l1 a):
 (Code.region id (l1++l2).toArray true).wp P Q a w:=by
 simp only [Region.lexB,Bool.and_eq_true] at hB;have h1:=wpAnyQ_lex (C:=fun w'=>∃ p:Regrown,w'=grow (redrawn w p.d) p.os) (md:=.any) hB.1 l1 0 (Array.replicate l1.toArray.size false) a (by simp) (by simpa using hB.2) h;refine wp_region_any hm ?_;have h2:=aHv (C:=fun w'=>∃ p:Regrown,w'=grow (redrawn w p.d) p.os) (Q:=Q) hH hT hS l1.length (Array.replicate l1.length false) a { w with drawn:=w.drawn+1 } (by simp) ⟨⟨w.drawn+1,#[]⟩,by rw [grow_empty];rfl⟩ (by rw [<- List.size_toArray];exact h1);have e1:(l1++l2).toArray.size=l1.length+l2.length:=by simp
 have e2:Array.replicate (l1++l2).toArray.size false=fQ (Array.replicate l1.length false) l2.length:=by
  rw [e1];unfold fQ;rw [Array.replicate_append_replicate]
 rw [e2,e1];exact h2
end
end
section
open Go Go.Sort Go.RowKit
abbrev bY (w:World):World->Prop:=fun w'=>∃ p:Regrown,w'=grow (redrawn w p.d) p.os
theorem cI{w w':World}(h:bY w w'):Below w.heap.size w w':=by
 obtain⟨p,rfl⟩:=h;exact Zs _ _ _
theorem qQ{w w':World}(h:Below w.heap.size w w'):bY w w':=regrown_of_below h
theorem oW{w w' w2:World}(h:bY w w') (h':bY w' w2):bY w w2:=qQ ((cI h).trans ((cI h').mono (cI h).size))
theorem aC8(w:World):bY w w:=qQ (Yg _ _)
section
variable {P:Program}{md:Region.Mode}{Q:Exit->Act->World->Prop}{l1 l2:List Oper}{ops:Array Oper}{Bp:World->Prop}{K:Act->Prop}
def lU(P:Program) (ops:Array Oper) (Bp:World->Prop) (o:Oper) (v:Value) (a:Act):Prop:=∀ wb,Bp wb->YieldsIn P ops (bY wb) o v a
def kC(P:Program) (ops:Array Oper) (Bp:World->Prop) (i:Nat) (K:Act->Prop) (a:Act):Prop:=
 match ops[i]? with
 | none=>K a
 | some o=>∃ v,lU P ops Bp o v a/\K (a.put o.dst v)
def iE(P:Program) (md:Region.Mode) (ops:Array Oper) (Bp:World->Prop) (K:Act->Prop):Nat->Array Bool->Act->Prop
 | 0,L,a=>Region.ready md ops L=[]/\K a
 | f+1,L,a=>(Region.ready md ops L=[]->K a)/\∀ i∈Region.ready md ops L,kC P ops Bp i (iE P md ops Bp K f (L.setIfInBounds i true)) a
def qU(P:Program) (ops:Array Oper) (Bp:World->Prop) (K:Act->Prop):List Oper->Act->Prop
 | [],a=>K a
 | o::rest,a=>∃ v,lU P ops Bp o v a/\qU P ops Bp K rest (a.put o.dst v)
theorem aMl{i:Nat}{a:Act}{K K':Act->Prop}(h:∀ a,K a->K' a) (hh:kC P ops Bp i K a):kC P ops Bp i K' a:=by
 unfold kC at *
 cases ho:ops[i]? with
 | none=>simp only [ho] at hh ⊢;exact h _ hh
 | some o=>
  simp only [ho] at hh ⊢;obtain⟨v,h1,h2⟩:=hh;exact⟨v,h1,h _ h2⟩
theorem aO7{j:Nat}{oi oj:Oper}{v:Value}(hj:ops[j]?=some oj) (Ab:oi.apart ops oj=true) (Aa:∀ cs b,oi.op≠.select cs b) (Ac:∀ cs b,oj.op≠.select cs b){K:Act->Prop}{a:Act}
 (hy:lU P ops Bp oi v a) (h:kC P ops Bp j K (a.put oi.dst v)):kC P ops Bp j (fun a'=>lU P ops Bp oi v a'/\K (a'.put oi.dst v)) a:=by
 obtain⟨h1,h2,h3⟩:=Oper.apart_spec Ab;unfold kC at *;simp only [hj] at *;obtain⟨u,hu,hn⟩:=h;refine⟨u,fun wb hb=>(hu wb hb).of_same (execOp_put oj Ac a oi.dst v h1).symm (wanted_put oj a oi.dst v h1).symm,fun wb hb=>(hy wb hb).of_same (execOp_put oi Aa a oj.dst u h3) (wanted_put oi a oj.dst u h3),?_⟩;rw [<- Act.put_comm a v u h2];exact hn
theorem aGs{i:Nat}{oi:Oper}{v:Value}(hi:ops[i]?=some oi) (Af:∀ (j:Nat) (o:Oper) cs b,ops[j]?=some o->o.op≠.select cs b):
 ∀ (Aa:Nat) (L:Array Bool) (a:Act),
  (∀ j oj,ops[j]?=some oj->j≠i->L.getD j true=false->(∀ e∈oj.after,Region.binds md e=true->e.on≠i)->oi.apart ops oj=true) ->
  i∈Region.ready md ops L->lU P ops Bp oi v a->iE P md ops Bp K Aa (L.setIfInBounds i true) (a.put oi.dst v)->iE P md ops Bp K (Aa+1) L a:=by
 have Ak:∀ {K:Act->Prop}{a:Act},lU P ops Bp oi v a->K (a.put oi.dst v)->kC P ops Bp i K a:=fun hy h=>by
  unfold kC;simp only [hi];exact⟨v,hy,h⟩
 intro Aa
 induction Aa with
 | zero=>
  intro L a _ hr hy H;refine⟨fun h=>(by rw [h] at hr;cases hr),fun j hj=>?_⟩
  by_cases Ac:j=i
  . subst Ac;exact Ak hy H
  . have:=ready_mono hj Ac;rw [H.1] at this
    cases this
 | succ Aa ih=>
  intro L a Ab hr hy H;refine⟨fun h=>(by rw [h] at hr;cases hr),fun j hj=>?_⟩
  by_cases Ac:j=i
  . subst Ac;exact Ak hy H
  . have h1:=H.2 j (ready_mono hj Ac);obtain⟨Ae,oj,Ag,Ai⟩:=mem_ready.1 hj
    have Ah:∀ e∈oj.after,Region.binds md e=true->e.on≠i:=fun e he hb Am=>by
     have h1:=Ai e he hb;have h0:=(mem_ready.1 hr).1;rw [Am] at h1;rcases Nat.lt_or_ge i L.size with h' | h'
     . simp [h'] at h0 h1
       rw [h0] at h1
       cases h1
     . simp [Array.getElem?_eq_none h'] at h1
    have h2:=aO7 Ag (Ab j oj Ag Ac Ae Ah) (fun cs b=>Af i oi cs b hi) (fun cs b=>Af j oj cs b Ag) hy h1
    have Ad:∀ k ok,ops[k]?=some ok->k≠i->(L.setIfInBounds j true).getD k true=false->(∀ e∈ok.after,Region.binds md e=true->e.on≠i)->oi.apart ops ok=true:=fun k ok hk Ao Aj An=>by
     refine Ab k ok hk Ao ?_ An
     by_cases Al:j=k
     . subst Al;exact Ae
     . rw [getD_set_ne true Al] at Aj;exact Aj
    refine aMl (fun a' h3=>ih (L.setIfInBounds j true) a' Ad (ready_mono hr (Ne.symm Ac)) h3.1 ?_) h2;rw [Array.setIfInBounds_comm _ _ Ac];exact h3.2
theorem vX(hs:Region.noSelect ops=true):∀ (l:List Oper) (k:Nat) (L:Array Bool) (a:Act),(∀ j,l[j]?=ops[k+j]?) ->
 Region.lexFrom md ops l.length k L=true->qU P ops Bp K l a->iE P md ops Bp K l.length L a
 | [],_,_,_,_,hB,h=>⟨by simpa [Region.lexFrom] using hB,h⟩
 | o::l,k,L,a,hl,hB,h=>by
  have h0:ops[k]?=some o:=by simpa using (hl 0).symm
  simp only [Yo,Region.lexFrom,Bool.and_eq_true] at hB;obtain⟨⟨hr,hf⟩,Aa⟩:=hB;obtain⟨v,hy,hK⟩:=h
  exact aGs h0 (Region.noSelect_spec hs) l.length L a (Region.free_spec h0 hf) (by simpa using hr) hy
   (vX hs l (k+1) _ _ (fun j=>by have:=hl (j+1);simpa [Nat.add_assoc,Nat.add_comm 1 j] using this) Aa hK)
end
end
section
open Go Go.Sort Go.RowKit
def eF(L:Array Bool) (b:Bool) (m:Nat):Array Bool:=L.push b++Array.replicate m false
section
variable {L:Array Bool}{b:Bool}{m i n t:Nat}
theorem nW(h:i<L.size) (d:Bool):(eF L b m).getD i d=L.getD i d:=by
 have h1:i<L.size+1+m:=by omega
 have h2:i<L.size+1:=by omega
 simp [eF,Array.getD,h,h1,h2,Array.getElem_push]
theorem uK(d:Bool):(eF L b m).getD L.size d=b:=by
 have h1:L.size<L.size+1+m:=by omega
 simp [eF,Array.getD,h1]
theorem uL(h:i<L.size):(eF L b m).setIfInBounds i true=eF (L.setIfInBounds i true) b m:=by
 unfold eF;rw [Array.setIfInBounds_append_left (by simp;omega)]
 congr 1
 apply Array.ext'
 simp [h]
theorem aE8:(eF L false m).setIfInBounds L.size true=eF L true m:=by
 unfold eF;rw [Array.setIfInBounds_append_left (by simp)]
 congr 1
 apply Array.ext'
 simp
theorem aO8(hL:L.size=n) (h:∀ i,i<n->L.getD i false=true):eF L true m=fQ (Array.replicate (n+1) true) m:=by
 rw [xX hL h];unfold eF fQ;rw [Array.replicate_succ]
end
section
variable {P:Program}{md:Region.Mode}{Q:Exit->Act->World->Prop}{l1 l2:List Oper}{oa:Oper}{w:World}{K:Act->Prop}
theorem uM{i:Nat}(h:i<l1.length):(l1++oa::l2).toArray[i]?=l1[i]?:=by simp [List.getElem?_append_left h]
theorem uN:(l1++oa::l2).toArray[l1.length]?=some oa:=by simp
theorem rL(hH:iI md l1=true){L:Array Bool}(hL:L.size=l1.length){i m:Nat}{b:Bool}(hi:i<l1.length):
 i∈Region.ready md (l1++oa::l2).toArray (eF L b m)↔i∈Region.ready md l1.toArray L:=by
 rw [mem_ready,mem_ready,nW (by omega),uM hi]
 constructor
 . rintro ⟨h1,o,ho,Aa⟩;refine⟨h1,o,by simpa using ho,fun e he hb=>?_⟩;have Ac:=oV hH ho e he hb;have:=Aa e he hb;rwa [nW (by omega)] at this
 . rintro ⟨h1,o,ho,Aa⟩;have Ab:l1[i]?=some o:=by simpa using ho
   refine⟨h1,o,Ab,fun e he hb=>?_⟩;have Ac:=oV hH Ab e he hb;rw [nW (by omega)];exact Aa e he hb
theorem aC9(hT:lF md (l1.length+1) l2=true){L:Array Bool}(hL:L.size=l1.length){t m:Nat}{b:Bool}(ht:l1.length+1<=t) (hr:t∈Region.ready md (l1++oa::l2).toArray (eF L b m)):
 b=true/\∀ i,i<l1.length->L.getD i true=true:=by
 obtain⟨_,o,ho,Aa⟩:=mem_ready.1 hr
 have Ac:o∈l2:=by
  have:l2[t-(l1.length+1)]?=some o:=by
   rw [List.getElem?_toArray,List.getElem?_append_right (by omega)] at ho;rw [show t-l1.length=(t-(l1.length+1))+1 by omega,Zb] at ho;exact ho
  exact List.mem_of_getElem? this
 refine⟨?_,fun i hi=>?_⟩
 . obtain⟨e,he,hb,Ab⟩:=pX hT Ac (i:=l1.length) (by omega);have:=Aa e he hb;rw [Ab,<- hL,uK] at this;exact this
 . obtain⟨e,he,hb,Ab⟩:=pX hT Ac (i:=i) (by omega);have:=Aa e he hb;rw [Ab,nW (by omega)] at this
   simpa [Array.getD,hL,hi] using this
theorem vY(hH:iI md l1=true){i:Nat}{o:Oper}(ho:l1[i]?=some o){C:World->Prop}{v:Value}{a:Act}(hy:YieldsIn P l1.toArray C o v a):YieldsIn P (l1++oa::l2).toArray C o v a:=by
 have hw:Region.wanted o (yielded l1.toArray a.tmps)=Region.wanted o (yielded (l1++oa::l2).toArray a.tmps):=by
  unfold Region.wanted
  cases hg:o.guard with
  | none=>rfl
  | some g=>
   have:=aA5 hH ho hg;unfold yielded;simp only [uM this,List.getElem?_toArray]
 unfold YieldsIn at *;rw [<- hw];exact hy
theorem yR{i:Nat}{o:Oper}(hi:i<l1.length) (ho:l1[i]?=some o){v:Value}{a:Act}{W:World}{K':Act->World->Prop}(hy:YieldsIn P (l1++oa::l2).toArray (bY W) o v a) (h:∀ W',bY W W'->K' (a.put o.dst v) W'):
 wpOp P (l1++oa::l2).toArray Q i K' a W:=
 wpOp_of_qOp (C:=bY W) (K:=fun a'=>a'=a.put o.dst v) (aC8 W) (fun a' w' Aa e=>by rw [e];exact h w' Aa) (YieldsIn.qOp (by rw [uM hi,ho]) hy rfl)
variable {d:Tmp}{T:TypeId}{zc:Array Value}
theorem aO9(hT:lF md (l1.length+1) l2=true) (hH:iI md l1=true)
 (hS:Region.seqB md (l1++oa::l2).toArray l2.length (l1.length+1) (fQ (Array.replicate (l1.length+1) true) l2.length)=true)
 {L:Array Bool}{a:Act}{W:World}(hL:L.size=l1.length) (hr:Region.ready md l1.toArray L=[]) (h:wpList P (l1++oa::l2).toArray Q l2 a W):
 wpAny P md (l1++oa::l2).toArray Q l2.length (eF L true l2.length) a W:=by
 rw [aO8 hL (nM hH hL hr)];exact wpAny_of_seq l2 (l1.length+1) _ a W (fun j=>by rw [List.getElem?_toArray,List.getElem?_append_right (by omega),show l1.length+1+j-l1.length=j+1 by omega,Zb]) hS h
end
end
section
open Go Go.Sort Go.RowKit
section
variable {P:Program}{Q:Exit->Act->World->Prop}{l1 l2:List Oper}{oa:Oper}{w:World}{K:Act->Prop}{d:Tmp}{T:TypeId}{zc:Array Value}
theorem uU{a:Act}{t:Tmp}{v:Value}(ht:t<a.tmps.size):(a.put (some t) v).tmps[t]?=some v:=by
 simp [Act.put,ht]
theorem bR{Bp:World->Prop}{ops:Array Oper}{o:Oper}{rest:List Oper}{a:Act}{v:Value}{t:Tmp}(ho:o.dst=some t) (ht:t<a.tmps.size)
 (h1:∀ wb,Bp wb->wpQuiet P ops (fun w'=>∃ p:Regrown,w'=grow (redrawn wb p.d) p.os) (fun a'=>a'.tmps[t]?=some v) [o] a) (h2:qU P ops Bp K rest (a.put (some t) v)):qU P ops Bp K (o::rest) a:=by
 refine⟨v,fun wb hb=>?_,by rw [ho];exact h2⟩;have h:=h1 wb hb;unfold wpQuiet at h
 by_cases hw:Region.wanted o (yielded ops a.tmps)=true
 . rw [if_pos hw] at h;obtain⟨v',hq,he⟩:=h;rw [ho] at he;have he:(a.put (some t) v').tmps[t]?=some v:=he;rw [uU ht] at he;rw [Option.some.inj he] at hq;exact .inl ⟨hw,hq⟩
 . rw [if_neg hw,ho] at h;have he:(a.put (some t) undef).tmps[t]?=some v:=h;rw [uU ht] at he;exact .inr ⟨by simpa using hw,(Option.some.inj he).symm⟩
end
end
section
open Go Go.Sort Go.RowKit
section
variable {P:Program}{md:Region.Mode}{Q:Exit->Act->World->Prop}{l1 l2:List Oper}{oa os:Oper}{ops:Array Oper}{w:World}{K:Act->Prop}{d tx:Tmp}{T:TypeId}{zc:Array Value}
theorem nN{a:Act}{y:Option Tmp}{v:Value}{t:Tmp}(h:y≠some t):(a.put y v).eval (.tmp t)=a.eval (.tmp t):=Act.eval_put fun d hd e=>h (by injection e with e;rw [hd,e])
theorem vZ{Bp:World->Prop}:∀ (f:Nat) (L:Array Bool) (a:Act),iE P md ops Bp K f L a->(∀ (i:Nat) o,ops[i]?=some o->L.getD i true=false->o.dst≠some tx)->∃ a',K a'/\a'.eval (.tmp tx)=a.eval (.tmp tx)
 | 0,L,a,h,_=>⟨a,h.2,rfl⟩
 | f+1,L,a,h,hm=>by
  by_cases hr:Region.ready md ops L=[]
  . exact⟨a,h.1 hr,rfl⟩
  . obtain⟨i,hi⟩:=List.exists_mem_of_ne_nil _ hr;obtain⟨hu,o,ho,_⟩:=mem_ready.1 hi;have hf:=h.2 i hi;unfold kC at hf;rw [ho] at hf;obtain⟨v,_,hn⟩:=hf
    obtain⟨a',h1,h2⟩:=vZ f _ _ hn fun j oj hj hl=>hm j oj hj (by
     by_cases Aa:i=j
     . subst Aa;exact hu
     . rwa [getD_set_ne true Aa] at hl)
    exact⟨a',h1,h2.trans (nN (hm i o ho hu))⟩
theorem aEe{i:Nat}(h:i<l1.length):(l1++oa::os::l2).toArray[i]?=l1[i]?:=uM h
theorem aEf:(l1++oa::os::l2).toArray[l1.length]?=some oa:=uN
theorem rO:(l1++oa::os::l2).toArray[l1.length+1]?=some os:=by
 rw [List.getElem?_toArray,List.getElem?_append_right (by omega)]
 simp
def dI(L:Array Bool) (b c:Bool) (m:Nat):Array Bool:=eF (L.push b) c m
section
variable {L:Array Bool}{b c:Bool}{m i n:Nat}
theorem nX(h:i<L.size) (z:Bool):(dI L b c m).getD i z=L.getD i z:=by
 unfold dI;rw [nW (by simp;omega)];have h2:i<L.size+1:=by omega
 simp [Array.getD,h,h2,Array.getElem_push]
theorem oC(z:Bool):(dI L b c m).getD L.size z=b:=by
 unfold dI;rw [nW (by simp)]
 simp [Array.getD]
theorem tT(z:Bool):(dI L b c m).getD (L.size+1) z=c:=by
 unfold dI;have:=uK (L:=L.push b) (b:=c) (m:=m) z;rwa [show(L.push b).size=L.size+1 by simp] at this
theorem xY(h:i<L.size):(dI L b c m).setIfInBounds i true=dI (L.setIfInBounds i true) b c m:=by
 unfold dI;rw [uL (by simp;omega)]
 congr 1
 apply Array.ext'
 simp [h]
theorem aSu:(dI L false c m).setIfInBounds L.size true=dI L true c m:=by
 unfold dI;rw [uL (by simp)]
 congr 1
 apply Array.ext'
 simp
theorem aSv:(dI L b false m).setIfInBounds (L.size+1) true=dI L b true m:=by
 unfold dI;have:=aE8 (L:=L.push b) (m:=m);rwa [show(L.push b).size=L.size+1 by simp] at this
theorem aPa(hL:L.size=n) (h:∀ i,i<n->L.getD i false=true):dI L true true m=fQ (Array.replicate (n+2) true) m:=by
 unfold dI;rw [xX hL h,<- Array.replicate_succ];unfold eF fQ;rw [<- Array.replicate_succ]
end
theorem nQ(hH:iI md l1=true){L:Array Bool}(hL:L.size=l1.length){i m:Nat}{b c:Bool}(hi:i<l1.length):
 i∈Region.ready md (l1++oa::os::l2).toArray (dI L b c m)↔i∈Region.ready md l1.toArray L:=by
 rw [mem_ready,mem_ready,nX (by omega),aEe hi]
 constructor
 . rintro ⟨h1,o,ho,Aa⟩;refine⟨h1,o,by simpa using ho,fun e he hb=>?_⟩;have Ac:=oV hH ho e he hb;have:=Aa e he hb;rwa [nX (by omega)] at this
 . rintro ⟨h1,o,ho,Aa⟩;have Ab:l1[i]?=some o:=by simpa using ho
   refine⟨h1,o,Ab,fun e he hb=>?_⟩;have Ac:=oV hH Ab e he hb;rw [nX (by omega)];exact Aa e he hb
theorem tU(hT:lF md (l1.length+2) l2=true){L:Array Bool}(hL:L.size=l1.length){t m:Nat}{b c:Bool}(ht:l1.length+2<=t) (hr:t∈Region.ready md (l1++oa::os::l2).toArray (dI L b c m)):
 b=true/\c=true/\∀ i,i<l1.length->L.getD i true=true:=by
 obtain⟨_,o,ho,Aa⟩:=mem_ready.1 hr
 have Ac:o∈l2:=by
  have:l2[t-(l1.length+2)]?=some o:=by
   rw [List.getElem?_toArray,List.getElem?_append_right (by omega)] at ho;rw [show t-l1.length=(t-(l1.length+2))+1+1 by omega,Zb,Zb] at ho;exact ho
  exact List.mem_of_getElem? this
 refine⟨?_,?_,fun i hi=>?_⟩
 . obtain⟨e,he,hb,Ab⟩:=pX hT Ac (i:=l1.length) (by omega);have:=Aa e he hb;rw [Ab,<- hL,oC] at this;exact this
 . obtain⟨e,he,hb,Ab⟩:=pX hT Ac (i:=l1.length+1) (by omega);have:=Aa e he hb;rw [Ab,<- hL,tT] at this;exact this
 . obtain⟨e,he,hb,Ab⟩:=pX hT Ac (i:=i) (by omega);have:=Aa e he hb;rw [Ab,nX (by omega)] at this
   simpa [Array.getD,hL,hi] using this
def pM(P:Program) (ops:Array Oper) (Q:Exit->Act->World->Prop) (l2:List Oper) (w:World) (d tx:Tmp) (T:TypeId) (zc:Array Value):Act->Prop:=fun a' =>
 ∃ Aa:Array Value,a'.eval (.tmp tx)=.agg Aa/\Aa.size=zc.size/\Aa.all (·.oneCell')=true /\
  ∀ W g,bY w W->w.heap.size<=g->W.heap[g]?=some (.cells Aa T)->wpList P ops Q l2 (a'.put (some d) (.pointer (some ⟨g,0,none⟩))) W
end
end
section
open Go Go.Sort Go.RowKit
section
variable {P:Program}{md:Region.Mode}{Q:Exit->Act->World->Prop}{l1 l2:List Oper}{oa os:Oper}{w:World}{d tx:Tmp}{T:TypeId}{zc:Array Value}
structure VarB (P:Program) (md:Region.Mode) (l1:List Oper) (oa os:Oper) (l2:List Oper) (d tx:Tmp) (T:TypeId) (zc:Array Value) (Q:Exit->Act->World->Prop):Prop where
 head:iI md l1=true
 tail:lF md (l1.length+2) l2=true
 nos:Region.noSelect (l1++oa::os::l2).toArray=true
 da:oa.dst=some d
 ne:tx≠d
 ap:∀ o∈l1,oa.apart (l1++oa::os::l2).toArray o=true
 ga:oa.guard=none
 gs:os.guard=none
 ds:os.dst=none
 fa:∀ e∈oa.after,Region.binds md e=true->e.on<l1.length
 fs:∀ e∈os.after,Region.binds md e=true->e.on<l1.length+1
 sa:∃ e∈os.after,Region.binds md e=true/\e.on=l1.length
 sx:∀ (i:Nat) o,l1[i]?=some o->o.dst=some tx->∃ e∈os.after,Region.binds md e=true/\e.on=i
 seq:Region.seqB md (l1++oa::os::l2).toArray l2.length (l1.length+2) (fQ (Array.replicate (l1.length+2) true) l2.length)=true
 al:∀ (a:Act) (W:World),(execOp a.eval oa).run P W=.ok (.value (.pointer (some ⟨W.heap.size,0,none⟩))) (W.alloc (.cells zc T))
 st:∀ (a:Act) (W:World) (g:Nat) (cells:Array Value) (K:Act->World->Prop),a.eval (.tmp d)=.pointer (some ⟨g,0,none⟩)->a.eval (.tmp tx)=.agg cells->W.heap[g]?=some (.cells zc T)->cells.size=zc.size->cells.all (·.oneCell')=true ->
  K a (W.setRow g cells)->os.wp P a W K Q
theorem rP(a:Act) (y:Option Tmp) (v:Value):(a.put y v).tmps.size=a.tmps.size:=by cases y <;> simp [Act.put]
theorem aDa{a:Act}{v:Value}{t:Tmp}(h:t<a.tmps.size):(a.put (some t) v).eval (.tmp t)=v:=by
 simp [Act.eval,Act.put,h]
theorem rM{L:Array Bool}{i j:Nat}(h:L.getD j true=true):(L.setIfInBounds i true).getD j true=true:=by
 by_cases Aa:i=j
 . subst Aa;simp only [Array.getD,Array.size_setIfInBounds]
   split
   . simp
   . rfl
 . rw [getD_set_ne true Aa];exact h
variable (B:VarB P md l1 oa os l2 d tx T zc Q)
theorem nB{L:Array Bool}{i:Nat}(hi:i∈Region.ready md l1.toArray L):i<l1.length:=by
 obtain⟨_,o,ho,_⟩:=mem_ready.1 hi
 simpa using (Yl.1 ho).1
include B in
theorem aPb{L:Array Bool}{a:Act}{W:World}(hL:L.size=l1.length) (hr:Region.ready md l1.toArray L=[]) (h:wpList P (l1++oa::os::l2).toArray Q l2 a W):
 wpAny P md (l1++oa::os::l2).toArray Q l2.length (dI L true true l2.length) a W:=by
 rw [aPa hL (nM B.head hL hr)];exact wpAny_of_seq l2 (l1.length+2) _ a W (fun j=>by rw [List.getElem?_toArray,List.getElem?_append_right (by omega),show l1.length+2+j-l1.length=j+1+1 by omega,Zb,Zb]) B.seq h
include B in
theorem aDb{f i:Nat}{L:Array Bool}{a:Act}{W:World}{g:Nat}{K':Act->World->Prop}{KK:Act->Prop}(hL:L.size=l1.length) (hC:bY w W) (hi:i∈Region.ready md l1.toArray L)
 (h:iE P md l1.toArray (bY w) KK (f+1) L a)
 (hK:∀ (v:Value) (W':World),bY W W'->l1[i]?≠none->(∀ o,l1[i]?=some o->iE P md l1.toArray (bY w) KK f (L.setIfInBounds i true) (a.put o.dst v)->K' ((a.put o.dst v).put (some d) (.pointer (some ⟨g,0,none⟩))) W')):
 wpOp P (l1++oa::os::l2).toArray Q i K' (a.put (some d) (.pointer (some ⟨g,0,none⟩))) W:=by
 have Aa:=nB hi;have ho:l1[i]?=some l1[i]:=Yk Aa;have hf:=h.2 i hi;unfold kC at hf;rw [List.getElem?_toArray,ho] at hf;obtain⟨v,hy,hn⟩:=hf;obtain⟨p1,p2,p3⟩:=Oper.apart_spec (B.ap _ (Zg Aa));have Ab:∀ cs b,l1[i].op≠.select cs b:=fun cs b=>Region.noSelect_spec B.nos i _ cs b (by rw [aEe Aa,ho]);have Ad:=(vY (oa:=oa) (l2:=os::l2) B.head ho (hy W hC)).of_same (a':=a.put (some d) (.pointer (some ⟨g,0,none⟩))) (execOp_put _ Ab a (some d) _ (B.da ▸ p1)) (wanted_put _ a (some d) _ (B.da ▸ p1));refine yR Aa ho Ad fun W' Ac=>?_;rw [Act.put_comm a (x:=some d) (y:=l1[i].dst) _ _ (B.da ▸ p2)];exact hK v W' Ac (by rw [ho];simp) _ ho hn
include B in
theorem aSw:∀ (f:Nat) (L:Array Bool) (a:Act) (W:World) (g:Nat) (Aa:Array Value),L.size=l1.length->bY w W->w.heap.size<=g->W.heap[g]?=some (.cells Aa T)->a.eval (.tmp tx)=.agg Aa ->
 (∀ (i:Nat) o,l1[i]?=some o->o.dst=some tx->L.getD i true=true)->iE P md l1.toArray (bY w) (pM P (l1++oa::os::l2).toArray Q l2 w d tx T zc) f L a ->
 wpAny P md (l1++oa::os::l2).toArray Q (f+l2.length) (dI L true true l2.length) (a.put (some d) (.pointer (some ⟨g,0,none⟩))) W:=by
 have Ab:∀ (L:Array Bool) (a:Act) (W:World) (g:Nat) (Aa:Array Value),L.size=l1.length->Region.ready md l1.toArray L=[]->bY w W->w.heap.size<=g->W.heap[g]?=some (.cells Aa T)->a.eval (.tmp tx)=.agg Aa ->
  pM P (l1++oa::os::l2).toArray Q l2 w d tx T zc a->wpAny P md (l1++oa::os::l2).toArray Q l2.length (dI L true true l2.length) (a.put (some d) (.pointer (some ⟨g,0,none⟩))) W:=fun L a W g Aa hL hr hC hg hz hx h=>by
  obtain⟨cs,e1,_,_,e4⟩:=h;rw [hx] at e1;injection e1 with e1;subst e1;exact aPb B hL hr (e4 W g hC hg hz)
 intro f
 induction f with
 | zero=>
  intro L a W g Aa hL hC hg hz hx hm h;rw [Nat.zero_add];exact Ab L a W g Aa hL h.1 hC hg hz hx h.2
 | succ f ih=>
  intro L a W g Aa hL hC hg hz hx hm h
  by_cases hr:Region.ready md l1.toArray L=[]
  . exact vW _ _ (Ab L a W g Aa hL hr hC hg hz hx (h.1 hr))
  . rw [Nat.add_right_comm];obtain⟨i0,Ac⟩:=List.exists_mem_of_ne_nil _ hr;refine⟨fun h0=>?_,fun i hi=>?_⟩
    . have:=(nQ (oa:=oa) (os:=os) (l2:=l2) B.head hL (m:=l2.length) (b:=true) (c:=true) (nB Ac)).2 Ac;rw [h0] at this
      cases this
    . have Ah:i<l1.length:=by
       rcases Nat.lt_or_ge i l1.length with h1 | h1
       . exact h1
       . rcases Nat.lt_or_ge i (l1.length+2) with h2 | h2
         . have hu:=(mem_ready.1 hi).1;rcases Nat.lt_or_ge i (l1.length+1) with h3 | h3
           . obtain rfl:i=l1.length:=by omega
             rw [<- hL,oC] at hu
             cases hu
           . obtain rfl:i=l1.length+1:=by omega
             rw [<- hL,tT] at hu
             cases hu
         . have:=(tU B.tail hL h2 hi).2.2 i0 (nB Ac);rw [(mem_ready.1 Ac).1] at this
           cases this
      have Ae:=(nQ (oa:=oa) (os:=os) (l2:=l2) B.head hL (m:=l2.length) (b:=true) (c:=true) Ah).1 hi;rw [xY (by omega)];refine aDb B hL hC Ae h fun v W' Ad _ o ho hn=>?_
      have Ag:o.dst≠some tx:=fun e=>by
       have h1:=hm i o ho e;rw [(mem_ready.1 Ae).1] at h1
       cases h1
      have Af:g<W.heap.size:=(Yl.1 hz).1;exact ih _ _ W' g Aa (by simp [hL]) (oW hC Ad) hg (((cI Ad).block g Af).trans hz) ((nN Ag).trans hx) (fun j oj hj e=>rM (hm j oj hj e)) hn
include B in
theorem aSx:∀ (f:Nat) (L:Array Bool) (a:Act) (W:World) (g:Nat),L.size=l1.length->bY w W->w.heap.size<=g->W.heap[g]?=some (.cells zc T)->d<a.tmps.size ->
 iE P md l1.toArray (bY w) (pM P (l1++oa::os::l2).toArray Q l2 w d tx T zc) f L a ->
 wpAny P md (l1++oa::os::l2).toArray Q (f+1+l2.length) (dI L true false l2.length) (a.put (some d) (.pointer (some ⟨g,0,none⟩))) W:=by
 have Ab:∀ (f:Nat) (L:Array Bool) (a:Act) (W:World) (g:Nat),L.size=l1.length->bY w W->w.heap.size<=g->W.heap[g]?=some (.cells zc T)->d<a.tmps.size ->
  iE P md l1.toArray (bY w) (pM P (l1++oa::os::l2).toArray Q l2 w d tx T zc) f L a->l1.length+1∈Region.ready md (l1++oa::os::l2).toArray (dI L true false l2.length) ->
  wpOp P (l1++oa::os::l2).toArray Q (l1.length+1) (wpAny P md (l1++oa::os::l2).toArray Q (f+l2.length) ((dI L true false l2.length).setIfInBounds (l1.length+1) true)) (a.put (some d) (.pointer (some ⟨g,0,none⟩))) W:=fun f L a W g hL hC hg hz Ac h hi=>by
  obtain⟨_,o,ho,Ae⟩:=mem_ready.1 hi;rw [rO] at ho;obtain rfl:=Option.some.inj ho
  have hm:∀ (i:Nat) o,l1[i]?=some o->o.dst=some tx->L.getD i true=true:=fun i o ho e=>by
   obtain⟨x,hx,hb,Aj⟩:=B.sx i o ho e;have hl:i<l1.length:=(List.getElem?_eq_some_iff.1 ho).1;have:=Ae x hx hb;rw [Aj,nX (by omega)] at this
   simpa [Array.getD,hL,hl] using this
  obtain⟨a',⟨Aa,e1,e2,e3,_⟩,e5⟩:=vZ (tx:=tx) f L a h fun i o ho hl e=>by
   rw [List.getElem?_toArray] at ho;rw [hm i o ho e] at hl
   cases hl
  have hx:a.eval (.tmp tx)=.agg Aa:=e5.symm.trans e1;unfold wpOp;rw [rO];simp only;rw [if_pos (by simp [Region.wanted,B.gs])];refine .inl (B.st _ W g Aa _ (aDa Ac) ((nN (fun e=>B.ne (by injection e with e;exact e.symm))).trans hx) hz e2 e3 ?_);rw [<- hL,aSv];have Ak:W.heap[g]?=some (.cells zc T (0,0)):=hz;exact aSw B f L a _ g Aa hL (qQ (Xb (cI hC) hg Aa)) hg (Xc _ _ _ _ _ _ Ak) hx hm h
 intro f
 induction f with
 | zero=>
  intro L a W g hL hC hg hz Ac h;rw [show 0+1+l2.length=(0+l2.length)+1 by omega]
  have hm:l1.length+1∈Region.ready md (l1++oa::os::l2).toArray (dI L true false l2.length):=by
   refine mem_ready.2 ⟨by rw [<- hL,tT],os,rO,fun e he hb=>?_⟩;have hl:=B.fs e he hb;rcases Nat.lt_or_ge e.on l1.length with h1 | h1
   . have:=nM B.head hL h.1 e.on h1;rw [nX (by omega)]
     simpa [Array.getD,hL,h1] using this
   . rw [show e.on=L.size by omega,oC]
  refine⟨fun h0=>(by rw [h0] at hm;cases hm),fun i hi=>?_⟩
  have Ad:i=l1.length+1:=by
   rcases Nat.lt_or_ge i l1.length with h1 | h1
   . have:=(nQ B.head hL h1).1 hi;rw [h.1] at this
     cases this
   . rcases Nat.lt_or_ge i (l1.length+1) with h2 | h2
     . obtain rfl:i=l1.length:=by omega
       have hu:=(mem_ready.1 hi).1;rw [<- hL,oC] at hu
       cases hu
     . rcases Nat.lt_or_ge i (l1.length+2) with h3 | h3
       . omega
       . have:=(tU B.tail hL h3 hi).2.1
         cases this
  subst Ad;exact Ab 0 L a W g hL hC hg hz Ac h hi
 | succ f ih=>
  intro L a W g hL hC hg hz Ac h;rw [show f+1+1+l2.length=(f+1+l2.length)+1 by omega];refine⟨fun h0=>?_,fun i hi=>?_⟩
  . by_cases hr:Region.ready md l1.toArray L=[]
    . have hm:l1.length+1∈Region.ready md (l1++oa::os::l2).toArray (dI L true false l2.length):=by
       refine mem_ready.2 ⟨by rw [<- hL,tT],os,rO,fun e he hb=>?_⟩;have hl:=B.fs e he hb;rcases Nat.lt_or_ge e.on l1.length with h1 | h1
       . have:=nM B.head hL hr e.on h1;rw [nX (by omega)]
         simpa [Array.getD,hL,h1] using this
       . rw [show e.on=L.size by omega,oC]
      rw [h0] at hm
      cases hm
    . obtain⟨i0,Af⟩:=List.exists_mem_of_ne_nil _ hr;have:=(nQ (oa:=oa) (os:=os) (l2:=l2) B.head hL (m:=l2.length) (b:=true) (c:=false) (nB Af)).2 Af;rw [h0] at this
      cases this
  . rcases Nat.lt_or_ge i l1.length with Ad | h1
    . have Ah:=(nQ (oa:=oa) (os:=os) (l2:=l2) B.head hL (m:=l2.length) (b:=true) (c:=false) Ad).1 hi;rw [xY (by omega)];refine aDb B hL hC Ah h fun v W' Ag _ o ho hn=>?_;have Ai:g<W.heap.size:=(Yl.1 hz).1;exact ih _ _ W' g (by simp [hL]) (oW hC Ag) hg (((cI Ag).block g Ai).trans hz) (by rw [rP];exact Ac) hn
    . have Ad:i=l1.length+1:=by
       rcases Nat.lt_or_ge i (l1.length+1) with h2 | h2
       . obtain rfl:i=l1.length:=by omega
         have hu:=(mem_ready.1 hi).1;rw [<- hL,oC] at hu
         cases hu
       . rcases Nat.lt_or_ge i (l1.length+2) with h3 | h3
         . omega
         . have:=(tU B.tail hL h3 hi).2.1
           cases this
      subst Ad;exact Ab (f+1) L a W g hL hC hg hz Ac h hi
end
end
section
open Go Go.Sort Go.RowKit
section
variable {P:Program}{md:Region.Mode}{Q:Exit->Act->World->Prop}{l1 l2:List Oper}{oa os:Oper}{w:World}{d tx:Tmp}{T:TypeId}{zc:Array Value}
section
variable (B:VarB P md l1 oa os l2 d tx T zc Q)
include B in
theorem aSy:∀ (f:Nat) (L:Array Bool) (a:Act) (W:World),L.size=l1.length->bY w W->d<a.tmps.size ->
 iE P md l1.toArray (bY w) (pM P (l1++oa::os::l2).toArray Q l2 w d tx T zc) f L a ->
 wpAny P md (l1++oa::os::l2).toArray Q (f+1+1+l2.length) (dI L false false l2.length) a W:=by
 have Ab:∀ (f:Nat) (L:Array Bool) (a:Act) (W:World),L.size=l1.length->bY w W->d<a.tmps.size->iE P md l1.toArray (bY w) (pM P (l1++oa::os::l2).toArray Q l2 w d tx T zc) f L a ->
  wpOp P (l1++oa::os::l2).toArray Q l1.length (wpAny P md (l1++oa::os::l2).toArray Q (f+1+l2.length) ((dI L false false l2.length).setIfInBounds l1.length true)) a W:=fun f L a W hL hC Ac h=>by
  unfold wpOp;rw [aEf];simp only;rw [if_pos (by simp [Region.wanted,B.ga])];refine .inl ?_;unfold Oper.wp;rw [B.al]
  show wpAny P md _ Q (f+1+l2.length) _ (a.put oa.dst _) _
  rw [B.da,<- hL,aSu];have hb:=cI hC;exact aSx B f L a _ W.heap.size hL (qQ (hb.alloc hb.size _)) hb.size (Zw _ _) Ac h
 have Aa:∀ (L:Array Bool),L.size=l1.length->Region.ready md l1.toArray L=[]->l1.length∈Region.ready md (l1++oa::os::l2).toArray (dI L false false l2.length):=fun L hL hr=>by
  refine mem_ready.2 ⟨?_,oa,aEf,fun e he hb=>?_⟩
  . rw [<- hL,oC]
  . have hl:=B.fa e he hb;have:=nM B.head hL hr e.on hl;rw [nX (by omega)]
    simpa [Array.getD,hL,hl] using this
 have Ag:∀ (L:Array Bool) i,L.size=l1.length->i∈Region.ready md (l1++oa::os::l2).toArray (dI L false false l2.length)->i<=l1.length:=fun L i hL hi=>by
  rcases Nat.lt_or_ge i (l1.length+1) with h1 | h1
  . omega
  . rcases Nat.lt_or_ge i (l1.length+2) with h2 | h2
    . obtain rfl:i=l1.length+1:=by omega
      obtain⟨_,o,ho,Ae⟩:=mem_ready.1 hi;rw [rO] at ho;obtain rfl:=Option.some.inj ho;obtain⟨e,he,hb,Aj⟩:=B.sa;have:=Ae e he hb;rw [Aj,<- hL,oC] at this
      cases this
    . have:=(tU B.tail hL h2 hi).1
      cases this
 intro f
 induction f with
 | zero=>
  intro L a W hL hC Ac h;rw [show 0+1+1+l2.length=(0+1+l2.length)+1 by omega];have hm:=Aa L hL h.1;refine⟨fun h0=>(by rw [h0] at hm;cases hm),fun i hi=>?_⟩
  have Ad:i=l1.length:=by
   rcases Nat.lt_or_ge i l1.length with h1 | h1
   . have:=(nQ B.head hL h1).1 hi;rw [h.1] at this
     cases this
   . have:=Ag L i hL hi;omega
  subst Ad;exact Ab 0 L a W hL hC Ac h
 | succ f ih=>
  intro L a W hL hC Ac h;rw [show f+1+1+1+l2.length=(f+1+1+l2.length)+1 by omega];refine⟨fun h0=>?_,fun i hi=>?_⟩
  . by_cases hr:Region.ready md l1.toArray L=[]
    . have:=Aa L hL hr;rw [h0] at this
      cases this
    . obtain⟨i0,Af⟩:=List.exists_mem_of_ne_nil _ hr;have:=(nQ (oa:=oa) (os:=os) (l2:=l2) B.head hL (m:=l2.length) (b:=false) (c:=false) (nB Af)).2 Af;rw [h0] at this
      cases this
  . rcases Nat.lt_or_ge i l1.length with Ad | h1
    . have Ai:=(nQ (oa:=oa) (os:=os) (l2:=l2) B.head hL (m:=l2.length) (b:=false) (c:=false) Ad).1 hi;have ho:l1[i]?=some l1[i]:=Yk Ad;have hf:=h.2 i Ai;unfold kC at hf;rw [List.getElem?_toArray,ho] at hf;obtain⟨v,hy,hn⟩:=hf;rw [xY (by omega)];exact yR Ad ho (vY B.head ho (hy W hC)) fun W' Ah=>ih _ _ W' (by simp [hL]) (oW hC Ah) (by rw [rP];exact Ac) hn
    . obtain rfl:i=l1.length:=by have:=Ag L i hL hi;omega
      exact Ab (f+1) L a W hL hC Ac h
end
def aF4(l1:List Oper) (oa os:Oper) (l2:List Oper) (d tx:Tmp):Bool:=
 Region.lexB .any l1.toArray && iI .any l1 && lF .any (l1.length+2) l2 && Region.noSelect (l1++oa::os::l2).toArray && (oa.guard.isNone && os.guard.isNone && os.dst.isNone && !(tx==d)) && (l1.all fun o=>oa.apart (l1++oa::os::l2).toArray o) &&
  (oa.after.all fun e=>!Region.binds .any e || decide (e.on<l1.length)) && (os.after.all fun e=>!Region.binds .any e || decide (e.on<l1.length+1)) && (os.after.any fun e=>Region.binds .any e && e.on==l1.length) &&
  ((List.range l1.length).all fun i=>!(((l1[i]?).bind (·.dst))==some tx) || os.after.any fun e=>Region.binds .any e && e.on==i) &&
  Region.seqB .any (l1++oa::os::l2).toArray l2.length (l1.length+2) (fQ (Array.replicate (l1.length+2) true) l2.length)
theorem vN{id:Nat}{a:Act}(hm:P.follows .mixedOrders=true) (hB:aF4 l1 oa os l2 d tx=true) (hd:oa.dst=some d) (Ae:d<a.tmps.size)
 (Af:∀ (a:Act) (W:World),(execOp a.eval oa).run P W=.ok (.value (.pointer (some ⟨W.heap.size,0,none⟩))) (W.alloc (.cells zc T)))
 (Ah:os.op=.store T (.tmp d) (.tmp tx)) (hi:(P.info? T).map (·.size)=some zc.size)
 (h:qU P l1.toArray (bY w) (pM P (l1++oa::os::l2).toArray (fun e a w=>Q e a w) l2 w d tx T zc) l1 a):(Code.region id (l1++oa::os::l2).toArray true).wp P Q a w:=by
 simp only [aF4,Bool.and_eq_true] at hB;obtain⟨⟨⟨⟨⟨⟨⟨⟨⟨⟨h1,h2⟩,h3⟩,h4⟩,⟨⟨h5,h6⟩,h7⟩,h8⟩,h9⟩,Ai⟩,Ac⟩,Ad⟩,Ag⟩,Ab⟩:=hB;simp only [Region.lexB,Bool.and_eq_true] at h1;have h0:=vX h1.1 l1 0 (Array.replicate l1.toArray.size false) a (by simp) (by simpa using h1.2) h;have ga:oa.guard=none:=by simpa using h5
 have gs:os.guard=none:=by simpa using h6
 have ds:os.dst=none:=by simpa using h7
 have B:VarB P .any l1 oa os l2 d tx T zc Q:={
  head:=h2,tail:=h3,nos:=h4,da:=hd,ga:=ga,gs:=gs,ds:=ds,seq:=Ab,al:=Af
  ne:=by simpa using h8
  ap:=by simpa using h9
  fa:=fun e he hb=>by
   have:=Array.all_eq_true_iff_forall_mem.1 Ai e he
   simpa [hb] using this
  fs:=fun e he hb=>by
   have:=Array.all_eq_true_iff_forall_mem.1 Ac e he
   simpa [hb] using this
  sa:=by
   obtain⟨e,he,h⟩:=Array.any_eq_true'.1 Ad;simp only [Bool.and_eq_true,beq_iff_eq] at h;exact⟨e,he,h.1,h.2⟩
  sx:=fun i o ho e=>by
   have hl:i<l1.length:=(List.getElem?_eq_some_iff.1 ho).1;have:=List.all_eq_true.1 Ag i (List.mem_range.2 hl);rw [ho] at this;simp only [Option.bind_some,e,beq_self_eq_true,Bool.not_true,Bool.false_or] at this;obtain⟨x,hx,h⟩:=Array.any_eq_true'.1 this;simp only [Bool.and_eq_true,beq_iff_eq] at h;exact⟨x,hx,h.1,h.2⟩
  st:=fun a W g Aa K e1 e2 e3 e4 e5 hK=>wp_store_row T (.tmp d) (.tmp tx) Ah g Aa e1 e2 T zc e3 (by rw [hi,e4]) e4.symm e5 (by rw [ds];exact hK) }
 refine wp_region_any hm ?_;have hC:bY w { w with drawn:=w.drawn+1 }:=⟨⟨w.drawn+1,#[]⟩,by rw [grow_empty];rfl⟩;have hz:=aSy B l1.length (Array.replicate l1.toArray.size false) a { w with drawn:=w.drawn+1 } (by simp) hC Ae h0;have e1:(l1++oa::os::l2).toArray.size=l1.length+1+1+l2.length:=by simp;omega
 have e2:Array.replicate (l1++oa::os::l2).toArray.size false=dI (Array.replicate l1.toArray.size false) false false l2.length:=by
  rw [e1];unfold dI eF;rw [<- Array.replicate_succ,<- Array.replicate_succ,Array.replicate_append_replicate]
  simp
 rw [e2,e1];exact hz
end
end
end Go.Proofs.YtegjgiofmpolnaaGreat
