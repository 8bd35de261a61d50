/- Parts of the proof: As, At. Conditions: each theorem's own. -/
import Derived.Test.YtkbpdoomhfkngaaGreatR10
namespace Go.Proofs.YtkbpdoomhfkngaaGreat
set_option linter.unusedVariables false
set_option linter.unusedSimpArgs false
set_option maxRecDepth 100000
set_option maxHeartbeats 40000000
section
open Go Go.Sort Go.RowKit
section
variable {P:Program}{md:Region.Mode}{Q:Exit→Act→World→Prop}{ops:Array Oper}{Bp:World→Prop}{K:Act→Prop}{d tx:Tmp}{T:TypeId}{zc:Array Value}
def isMem(o:Oper):Bool:=match o.op with | .alloc _=>true | .store _ _ _=>true | _=>false
def sG(o:Oper) (v:Value) (a:Act):Act:=if isMem o=true then a else a.put o.dst v
def yG(P:Program) (ops:Array Oper) (Bp:World→Prop) (o:Oper) (v:Value) (a:Act):Prop:=isMem o=true∨YieldsAll P ops Bp o v a
theorem sG_mem{o:Oper}(h:isMem o=true) (v:Value) (a:Act):sG o v a=a:=if_pos h
theorem sG_no{o:Oper}(h:isMem o=false) (v:Value) (a:Act):sG o v a=a.put o.dst v:=if_neg (by rw [h];decide)
def fOpG(P:Program) (ops:Array Oper) (Bp:World→Prop) (i:Nat) (K:Act→Prop) (a:Act):Prop:=
 match ops[i]? with
 | none=>K a
 | some o=>∃ v,yG P ops Bp o v a∧K (sG o v a)
def fixAnyG(P:Program) (md:Region.Mode) (ops:Array Oper) (Bp:World→Prop) (K:Act→Prop):Nat→Array Bool→Act→Prop
 | 0,L,a=>Region.ready md ops L=[]∧K a
 | f+1,L,a=>(Region.ready md ops L=[]→K a)∧∀ i∈Region.ready md ops L,fOpG P ops Bp i (fixAnyG P md ops Bp K f (L.setIfInBounds i true)) a
def wpFixG(P:Program) (ops:Array Oper) (Bp:World→Prop) (K:Act→Prop):List Oper→Act→Prop
 | [],a=>K a
 | o::rest,a=>∃ v,yG P ops Bp o v a∧wpFixG P ops Bp K rest (sG o v a)
theorem fOpG_mono{i:Nat}{a:Act}{K K':Act→Prop}(h:∀ a,K a→K' a) (hh:fOpG P ops Bp i K a):fOpG P ops Bp i K' a:=by
 unfold fOpG at *
 cases ho:ops[i]? with
 | none=>simp only [ho] at hh ⊢;exact h _ hh
 | some o=>
  simp only [ho] at hh ⊢;obtain⟨v,h1,h2⟩:=hh;exact⟨v,h1,h _ h2⟩
theorem fOpG_put{j:Nat}{oi oj:Oper}{v:Value}(hj:ops[j]?=some oj) (hap:oi.apart ops oj=true) (hsi:∀ cs b,oi.op≠.select cs b) (hsj:∀ cs b,oj.op≠.select cs b){K:Act→Prop}{a:Act}
 (hy:yG P ops Bp oi v a) (h:fOpG P ops Bp j K (sG oi v a)):fOpG P ops Bp j (fun a'=>yG P ops Bp oi v a'∧K (sG oi v a')) a:=by
 obtain⟨h1,h2,h3⟩:=Oper.apart_spec hap
 cases hm:isMem oi with
 | true=>
  rw [sG_mem hm] at h;exact fOpG_mono (fun a' h'=>⟨.inl hm,by rw [sG_mem hm];exact h'⟩) h
 | false=>
  have hy:YieldsAll P ops Bp oi v a:=hy.resolve_left (by rw [hm];decide);rw [sG_no hm] at h;unfold fOpG at *;simp only [hj] at *;obtain⟨u,hu,hn⟩:=h
  cases hmj:isMem oj with
  | true=>
   rw [sG_mem hmj] at hn;refine⟨u,.inl hmj,?_⟩;rw [sG_mem hmj,sG_no hm];exact⟨.inr hy,hn⟩
  | false=>
   have hu:YieldsAll P ops Bp oj u (a.put oi.dst v):=hu.resolve_left (by rw [hmj];decide);rw [sG_no hmj] at hn;refine⟨u,.inr fun wb hb=>(hu wb hb).of_same (execOp_put oj hsj a oi.dst v h1).symm (wanted_put oj a oi.dst v h1).symm,?_⟩;rw [sG_no hmj,sG_no hm];refine⟨.inr fun wb hb=>(hy wb hb).of_same (execOp_put oi hsi a oj.dst u h3) (wanted_put oi a oj.dst u h3),?_⟩;rw [← Act.put_comm a v u h2];exact hn
theorem fixAnyG_first{i:Nat}{oi:Oper}{v:Value}(hi:ops[i]?=some oi) (hsel:∀ (j:Nat) (o:Oper) cs b,ops[j]?=some o→o.op≠.select cs b):
 ∀ (fuel:Nat) (L:Array Bool) (a:Act),
  (∀ j oj,ops[j]?=some oj→j≠i→L.getD j true=false→(∀ e∈oj.after,Region.binds md e=true→e.on≠i)→oi.apart ops oj=true) →
  i∈Region.ready md ops L→yG P ops Bp oi v a→fixAnyG P md ops Bp K fuel (L.setIfInBounds i true) (sG oi v a)→fixAnyG P md ops Bp K (fuel+1) L a:=by
 have hit:∀ {K:Act→Prop}{a:Act},yG P ops Bp oi v a→K (sG oi v a)→fOpG P ops Bp i K a:=fun hy h=>by
  unfold fOpG;simp only [hi];exact⟨v,hy,h⟩
 intro fuel
 induction fuel with
 | zero=>
  intro L a _ hr hy H;refine⟨fun h=>(by rw [h] at hr;cases hr),fun j hj=>?_⟩
  by_cases hji:j=i
  · subst hji;exact hit hy H
  · have:=ready_mono hj hji;rw [H.1] at this
    cases this
 | succ fuel ih=>
  intro L a hfree hr hy H;refine⟨fun h=>(by rw [h] at hr;cases hr),fun j hj=>?_⟩
  by_cases hji:j=i
  · subst hji;exact hit hy H
  · have h1:=H.2 j (ready_mono hj hji);obtain⟨hjun,oj,hoj,hall⟩:=mem_ready.1 hj
    have hnot:∀ e∈oj.after,Region.binds md e=true→e.on≠i:=fun e he hb heq=>by
     have h1:=hall e he hb;have h0:=(mem_ready.1 hr).1;rw [heq] at h1;rcases Nat.lt_or_ge i L.size with h' | h'
     · simp [h'] at h0 h1
       rw [h0] at h1
       cases h1
     · simp [Array.getElem?_eq_none h'] at h1
    have h2:=fOpG_put hoj (hfree j oj hoj hji hjun hnot) (fun cs b=>hsel i oi cs b hi) (fun cs b=>hsel j oj cs b hoj) hy h1
    have hfree':∀ k ok,ops[k]?=some ok→k≠i→(L.setIfInBounds j true).getD k true=false→(∀ e∈ok.after,Region.binds md e=true→e.on≠i)→oi.apart ops ok=true:=fun k ok hk hki hun hno=>by
     refine hfree k ok hk hki ?_ hno
     by_cases hjk:j=k
     · subst hjk;exact hjun
     · rw [getD_set_ne true hjk] at hun;exact hun
    refine fOpG_mono (fun a' h3=>ih (L.setIfInBounds j true) a' hfree' (ready_mono hr (Ne.symm hji)) h3.1 ?_) h2;rw [Array.setIfInBounds_comm _ _ hji];exact h3.2
theorem fixAnyG_lex(hs:Region.noSelect ops=true):∀ (l:List Oper) (k:Nat) (L:Array Bool) (a:Act),(∀ j,l[j]?=ops[k+j]?) →
 Region.lexFrom md ops l.length k L=true→wpFixG P ops Bp K l a→fixAnyG P md ops Bp K l.length L a
 | [],_,_,_,_,hB,h=>⟨by simpa [Region.lexFrom] using hB,h⟩
 | o::l,k,L,a,hl,hB,h=>by
  have h0:ops[k]?=some o:=by simpa using (hl 0).symm
  simp only [List.length_cons,Region.lexFrom,Bool.and_eq_true] at hB;obtain⟨⟨hr,hf⟩,hB'⟩:=hB;obtain⟨v,hy,hK⟩:=h
  exact fixAnyG_first h0 (Region.noSelect_spec hs) l.length L a (Region.free_spec h0 hf) (by simpa using hr) hy
   (fixAnyG_lex hs l (k+1) _ _ (fun j=>by have:=hl (j+1);simpa [Nat.add_assoc,Nat.add_comm 1 j] using this) hB' hK)
theorem fixAnyG_run:∀ (f:Nat) (L:Array Bool) (a:Act),fixAnyG P md ops Bp K f L a→(∀ (i:Nat) o,ops[i]?=some o→L.getD i true=false→o.dst≠some tx)→∃ a',K a'∧a'.eval (.tmp tx)=a.eval (.tmp tx)
 | 0,L,a,h,_=>⟨a,h.2,rfl⟩
 | f+1,L,a,h,hm=>by
  by_cases hr:Region.ready md ops L=[]
  · exact⟨a,h.1 hr,rfl⟩
  · obtain⟨i,hi⟩:=List.exists_mem_of_ne_nil _ hr;obtain⟨hu,o,ho,_⟩:=mem_ready.1 hi;have hf:=h.2 i hi;unfold fOpG at hf;rw [ho] at hf;obtain⟨v,_,hn⟩:=hf
    obtain⟨a',h1,h2⟩:=fixAnyG_run f _ _ hn fun j oj hj hl=>hm j oj hj (by
     by_cases hij:i=j
     · subst hij;exact hu
     · rwa [getD_set_ne true hij] at hl)
    refine⟨a',h1,h2.trans ?_⟩
    cases hmo:isMem o with
    | true=>rw [sG_mem hmo]
    | false=>rw [sG_no hmo];exact eval_other (hm i o ho hu)
theorem mid_op{i:Nat}{o:Oper}(ho:ops[i]?=some o){v:Value}{a:Act}{W:World}{K':Act→World→Prop}(hy:YieldsIn P ops (Cls W) o v a) (h:∀ W',Cls W W'→K' (a.put o.dst v) W'):wpOp P ops Q i K' a W:=
 wpOp_of_qOp (C:=Cls W) (K:=fun a'=>a'=a.put o.dst v) (cls_refl W) (fun a' w' hw' e=>by rw [e];exact h w' hw') (YieldsIn.qOp ho hy rfl)
theorem getD_both{L:Array Bool}{i:Nat}(h:i<L.size) (b c:Bool):L.getD i b=L.getD i c:=by simp [Array.getD,h]
theorem getD_on{L:Array Bool}{i:Nat}:(L.setIfInBounds i true).getD i true=true:=by
 by_cases h:i<L.size
 · simp [Array.getD,h]
 · simp [Array.getD,h]
end
section
variable {P:Program}{md:Region.Mode}{Q:Exit→Act→World→Prop}{l:List Oper}{oa os:Oper}{w:World}{d tx:Tmp}{T:TypeId}{zc:Array Value}{p q:Nat}
def WroteG(Q:Exit→Act→World→Prop) (w:World) (d tx:Tmp) (T:TypeId) (zc:Array Value):Act→Prop:=fun a' =>
 ∃ cells:Array Value,a'.eval (.tmp tx)=.agg cells∧cells.size=zc.size∧cells.all (·.oneCell')=true ∧
  ∀ W g,Cls w W→w.heap.size≤g→W.heap[g]?=some (.cells cells T)→Q .normal (a'.put (some d) (.pointer (some ⟨g,0,none⟩))) W
structure MidB (P:Program) (md:Region.Mode) (l:List Oper) (p q:Nat) (oa os:Oper) (d tx:Tmp) (T:TypeId) (zc:Array Value) (Q:Exit→Act→World→Prop):Prop where
 head:headB md l=true
 nos:Region.noSelect l.toArray=true
 pa:l[p]?=some oa
 qs:l[q]?=some os
 pq:p≠q
 only:∀ (i:Nat) o,l[i]?=some o→isMem o=true→i=p∨i=q
 ma:isMem oa=true
 ms:isMem os=true
 da:oa.dst=some d
 ne:tx≠d
 ap:∀ (i:Nat) o,l[i]?=some o→isMem o=false→oa.apart l.toArray o=true
 ga:oa.guard=none
 gs:os.guard=none
 ds:os.dst=none
 sa:∃ e∈os.after,Region.binds md e=true∧e.on=p
 sx:∀ (i:Nat) o,l[i]?=some o→o.dst=some tx→∃ e∈os.after,Region.binds md e=true∧e.on=i
 al:∀ (a:Act) (W:World),(execOp a.eval oa).run P W=.ok (.value (.pointer (some ⟨W.heap.size,0,none⟩))) (W.alloc (.cells zc T))
 st:∀ (a:Act) (W:World) (g:Nat) (cells:Array Value) (K:Act→World→Prop),a.eval (.tmp d)=.pointer (some ⟨g,0,none⟩)→a.eval (.tmp tx)=.agg cells→W.heap[g]?=some (.cells zc T)→cells.size=zc.size→cells.all (·.oneCell')=true →
  K a (W.setRow g cells)→os.wp P a W K Q
variable (B:MidB P md l p q oa os d tx T zc Q)
def MidS(l:List Oper) (p q:Nat) (w:World) (d tx:Tmp) (T:TypeId) (zc:Array Value) (L:Array Bool) (a act:Act) (W:World):Prop:=
 (L.getD p true=false∧L.getD q true=false∧act=a) ∨
 (L.getD p true=true∧L.getD q true=false∧∃ g,w.heap.size≤g∧W.heap[g]?=some (.cells zc T)∧act=a.put (some d) (.pointer (some ⟨g,0,none⟩))) ∨
 (L.getD p true=true∧L.getD q true=true∧∃ g cells,w.heap.size≤g∧W.heap[g]?=some (.cells cells T)∧a.eval (.tmp tx)=.agg cells∧(∀ (i:Nat) o,l[i]?=some o→o.dst=some tx→L.getD i true=true)∧act=a.put (some d) (.pointer (some ⟨g,0,none⟩)))
include B in
theorem mid_go:∀ (f:Nat) (L:Array Bool) (a act:Act) (W:World),L.size=l.length→fixAnyG P md l.toArray (Cls w) (WroteG Q w d tx T zc) f L a→Cls w W→d<a.tmps.size→MidS l p q w d tx T zc L a act W →
 wpAny P md l.toArray Q f L act W:=by
 have hp:p<l.length:=(List.getElem?_eq_some_iff.1 B.pa).1;have hq:q<l.length:=(List.getElem?_eq_some_iff.1 B.qs).1
 have hend:∀ (L:Array Bool) (a act:Act) (W:World),L.size=l.length→Region.ready md l.toArray L=[]→WroteG Q w d tx T zc a→Cls w W→MidS l p q w d tx T zc L a act W→Q .normal act W:=fun L a act W hL hr hK hC hS=>by
  have hall:=ready_none B.head hL hr;have h1:=hall p hp;have h2:=hall q hq;rw [getD_both (by omega) false true] at h1 h2;rcases hS with⟨e,_,_⟩|⟨_,e,_⟩|⟨_,_,g,cells,hg,hz,hx,_,rfl⟩
  · rw [h1] at e;cases e
  · rw [h2] at e;cases e
  · obtain⟨cells',e1,_,_,hQ⟩:=hK;rw [hx] at e1;injection e1 with e1;subst e1;exact hQ W g hC hg hz
 intro f
 induction f with
 | zero=>
  intro L a act W hL h hC hd hS;exact⟨h.1,hend L a act W hL h.1 h.2 hC hS⟩
 | succ f ih=>
  intro L a act W hL h hC hd hS;refine⟨fun h0=>hend L a act W hL h0 (h.1 h0) hC hS,fun i hi=>?_⟩;obtain⟨hu,o,ho,hall⟩:=mem_ready.1 hi;have hf:=h.2 i hi;unfold fOpG at hf;rw [ho] at hf;obtain⟨v,hy,hn⟩:=hf;have hol:l[i]?=some o:=by rwa [List.getElem?_toArray] at ho
  have hil:i<l.length:=(List.getElem?_eq_some_iff.1 hol).1
  by_cases hip:i=p
  · subst hip;rw [B.pa] at hol;obtain rfl:=Option.some.inj hol;rw [sG_mem B.ma] at hn;rcases hS with⟨_,e2,rfl⟩|⟨e1,_⟩|⟨e1,_⟩
    · unfold wpOp;rw [ho];simp only;rw [if_pos (by simp [Region.wanted,B.ga])];refine .inl ?_;unfold Oper.wp;rw [B.al]
      show wpAny P md _ Q f _ (act.put oa.dst _) _
      rw [B.da];have hb:=cls_below hC;exact ih _ act _ _ (by simp [hL]) hn (cls_of (hb.alloc hb.size _)) hd (.inr (.inl ⟨getD_on,by rw [getD_set_ne true B.pq];exact e2,_,hb.size,heap_alloc_new _ _,rfl⟩))
    · rw [hu] at e1;cases e1
    · rw [hu] at e1;cases e1
  · by_cases hiq:i=q
    · subst hiq;rw [B.qs] at hol;obtain rfl:=Option.some.inj hol;rw [sG_mem B.ms] at hn;rcases hS with⟨e1,_⟩|⟨e1,_,g,hg,hz,rfl⟩|⟨_,e2,_⟩
      · obtain⟨x,hx,hb,hon⟩:=B.sa;have:=hall x hx hb;rw [hon] at this;rw [getD_both (by omega) true false] at e1
        simp [Array.getD,hL,hp] at this e1
        rw [this] at e1
        cases e1
      · have hm:∀ (j:Nat) o,l[j]?=some o→o.dst=some tx→L.getD j true=true:=fun j o hj e=>by
         obtain⟨x,hx,hb,hon⟩:=B.sx j o hj e;have hl:j<l.length:=(List.getElem?_eq_some_iff.1 hj).1;have:=hall x hx hb;rw [hon] at this
         simpa [Array.getD,hL,hl] using this
        obtain⟨a',⟨cells,e3,e4,e5,_⟩,e6⟩:=fixAnyG_run (tx:=tx) f _ _ hn fun j o hj hl e=>by
         rw [List.getElem?_toArray] at hj;have:=getD_keep (i:=i) (hm j o hj e);rw [this] at hl
         cases hl
        have hx:a.eval (.tmp tx)=.agg cells:=e6.symm.trans e3;unfold wpOp;rw [ho];simp only;rw [if_pos (by simp [Region.wanted,B.gs])];refine .inl (B.st _ W g cells _ (eval_own hd) ((eval_other (fun e=>B.ne (by injection e with e;exact e.symm))).trans hx) hz e4 e5 ?_);have hsz:W.heap[g]?=some (.cells zc T (0,0)):=hz;exact ih _ a _ _ (by simp [hL]) hn (cls_of (below_setRow (cls_below hC) hg cells)) hd (.inr (.inr ⟨by rw [getD_set_ne true (Ne.symm B.pq)];exact e1,getD_on,g,cells,hg,setRow_heap _ _ _ _ _ _ hsz,hx,fun j o hj e=>getD_keep (hm j o hj e),rfl⟩))
      · rw [hu] at e2;cases e2
    · have hmo:isMem o=false:=by
       cases hmo:isMem o with
       | false=>rfl
       | true=>exact(B.only i o hol hmo).elim (fun h=>absurd h hip) (fun h=>absurd h hiq)
      have hy:YieldsAll P l.toArray (Cls w) o v a:=hy.resolve_left (by rw [hmo];decide);rw [sG_no hmo] at hn;obtain⟨p1,p2,p3⟩:=Oper.apart_spec (B.ap i o hol hmo);have hsel:∀ cs b,o.op≠.select cs b:=fun cs b=>Region.noSelect_spec B.nos i _ cs b ho;have hgo:∀ g,YieldsIn P l.toArray (Cls W) o v (a.put (some d) (.pointer (some ⟨g,0,none⟩))):=fun g=>(hy W hC).of_same (execOp_put _ hsel a (some d) _ (B.da ▸ p1)) (wanted_put _ a (some d) _ (B.da ▸ p1));rcases hS with⟨e1,e2,rfl⟩|⟨e1,e2,g,hg,hz,rfl⟩|⟨e1,e2,g,cells,hg,hz,hx,hm,rfl⟩
      · refine mid_op ho (hy W hC) fun W' hW'=>?_;exact ih _ _ _ W' (by simp [hL]) hn (cls_trans hC hW') (by rw [put_size];exact hd) (.inl ⟨by rw [getD_set_ne true hip];exact e1,by rw [getD_set_ne true hiq];exact e2,rfl⟩)
      · refine mid_op ho (hgo g) fun W' hW'=>?_;have hgl:g<W.heap.size:=(Array.getElem?_eq_some_iff.1 hz).1;exact ih _ _ _ W' (by simp [hL]) hn (cls_trans hC hW') (by rw [put_size];exact hd) (.inr (.inl ⟨by rw [getD_set_ne true hip];exact e1,by rw [getD_set_ne true hiq];exact e2,g,hg,((cls_below hW').block g hgl).trans hz,Act.put_comm a (x:=some d) (y:=o.dst) _ _ (B.da ▸ p2)⟩))
      · refine mid_op ho (hgo g) fun W' hW'=>?_;have hgl:g<W.heap.size:=(Array.getElem?_eq_some_iff.1 hz).1
        have hne:o.dst≠some tx:=fun e=>by
         have h1:=hm i o hol e;rw [hu] at h1
         cases h1
        exact ih _ _ _ W' (by simp [hL]) hn (cls_trans hC hW') (by rw [put_size];exact hd) (.inr (.inr ⟨by rw [getD_set_ne true hip];exact e1,by rw [getD_set_ne true hiq];exact e2,g,cells,hg,((cls_below hW').block g hgl).trans hz,(eval_other hne).trans hx,fun j o hj e=>getD_keep (hm j o hj e),Act.put_comm a (x:=some d) (y:=o.dst) _ _ (B.da ▸ p2)⟩))
end
end
section
open Go Go.Sort Go.RowKit
section
variable {P:Program}{Q:Exit→Act→World→Prop}{l:List Oper}{w:World}{K:Act→Prop}{d tx:Tmp}{T:TypeId}{zc:Array Value}{p q:Nat}
def midB(l:List Oper) (p q:Nat) (oa os:Oper) (d tx:Tmp):Bool:=
 Region.lexB .any l.toArray && headB .any l && (!(p==q) && isMem oa && isMem os && oa.guard.isNone && os.guard.isNone && os.dst.isNone && !(tx==d)) &&
  ((List.range l.length).all fun i=>((l[i]?).map fun o=>(!isMem o || i==p || i==q) && (isMem o || oa.apart l.toArray o) && (!(o.dst==some tx) || os.after.any fun e=>Region.binds .any e && e.on==i)).getD true) &&
  (os.after.any fun e=>Region.binds .any e && e.on==p)
theorem wp_region_mid{id:Nat}{a:Act}(p q:Nat) (oa os:Oper) (hm:P.follows .mixedOrders=true) (hpa:l[p]?=some oa) (hqs:l[q]?=some os) (hB:midB l p q oa os d tx=true) (hd:oa.dst=some d) (hds:d<a.tmps.size)
 (hal:∀ (a:Act) (W:World),(execOp a.eval oa).run P W=.ok (.value (.pointer (some ⟨W.heap.size,0,none⟩))) (W.alloc (.cells zc T)))
 (hst:os.op=.store T (.tmp d) (.tmp tx)) (hi:(P.info? T).map (·.size)=some zc.size)
 (h:wpFixG P l.toArray (Cls w) (WroteG (fun e a w=>Q e a w) w d tx T zc) l a):(Code.region id l.toArray true).wp P Q a w:=by
 simp only [midB,Bool.and_eq_true] at hB;obtain⟨⟨⟨⟨h1,h2⟩,⟨⟨⟨⟨⟨⟨h3,h4⟩,h5⟩,h6⟩,h7⟩,h8⟩,h9⟩⟩,h10⟩,h11⟩:=hB;simp only [Region.lexB,Bool.and_eq_true] at h1;have h0:=fixAnyG_lex h1.1 l 0 (Array.replicate l.toArray.size false) a (by simp) (by simpa using h1.2) h;have gs:os.dst=none:=by simpa using h8
 have hrow:∀ (i:Nat) o,l[i]?=some o→(isMem o=true→i=p∨i=q)∧(isMem o=false→oa.apart l.toArray o=true)∧(o.dst=some tx→∃ e∈os.after,Region.binds .any e=true∧e.on=i):=fun i o ho=>by
  have hl:i<l.length:=(List.getElem?_eq_some_iff.1 ho).1;have:=List.all_eq_true.1 h10 i (List.mem_range.2 hl);simp only [ho,Option.map_some,Option.getD_some,Bool.and_eq_true,Bool.or_eq_true,Bool.not_eq_true',beq_iff_eq,beq_eq_false_iff_ne] at this;have t1:=this.1.1;have t2:=this.1.2;have t3:=this.2;clear this;refine⟨fun hm=>?_,fun hm=>?_,fun e=>?_⟩
  · rcases t1.elim (fun h=>h.elim (fun h=>Or.inl h) (fun h=>Or.inr (Or.inl h))) (fun h=>Or.inr (Or.inr h)) with h | h | h
    · exact absurd (hm.symm.trans h) (by decide)
    · exact .inl h
    · exact .inr h
  · rcases t2 with h | h
    · exact absurd (hm.symm.trans h) (by decide)
    · exact h
  · rcases t3 with h | h
    · exact absurd e h
    · obtain⟨x,hx,hh⟩:=Array.any_eq_true'.1 h;simp only [Bool.and_eq_true,beq_iff_eq] at hh;exact⟨x,hx,hh.1,hh.2⟩
 have B:MidB P .any l p q oa os d tx T zc Q:={
  head:=h2,nos:=h1.1,pa:=hpa,qs:=hqs,ma:=h4,ms:=h5,da:=hd,al:=hal,ds:=gs
  pq:=by simpa using h3
  ne:=by simpa using h9
  ga:=by simpa using h6
  gs:=by simpa using h7
  only:=fun i o ho=>(hrow i o ho).1
  ap:=fun i o ho=>(hrow i o ho).2.1
  sx:=fun i o ho=>(hrow i o ho).2.2
  sa:=by
   obtain⟨x,hx,hh⟩:=Array.any_eq_true'.1 h11;simp only [Bool.and_eq_true,beq_iff_eq] at hh;exact⟨x,hx,hh.1,hh.2⟩
  st:=fun a W g cells K e1 e2 e3 e4 e5 hK=>wp_store_row T (.tmp d) (.tmp tx) hst g cells e1 e2 T zc e3 (by rw [hi,e4]) e4.symm e5 (by rw [gs];exact hK) }
 refine wp_region_any hm ?_;have hC:Cls w { w with drawn:=w.drawn+1 }:=⟨⟨w.drawn+1,#[]⟩,by rw [grow_empty];rfl⟩
 have hf:∀ i,i<l.length→(Array.replicate l.toArray.size false).getD i true=false:=fun i hi=>by
  have hi':i<l.toArray.size:=by simpa using hi
  simp [Array.getD,hi]
 have hz:=mid_go B l.length (Array.replicate l.toArray.size false) a a { w with drawn:=w.drawn+1 } (by simp) h0 hC hds (.inl ⟨hf p (List.getElem?_eq_some_iff.1 hpa).1,hf q (List.getElem?_eq_some_iff.1 hqs).1,rfl⟩);have e1:l.toArray.size=l.length:=by simp
 rw [e1] at hz ⊢;exact hz
theorem fix_stepG{Bp:World→Prop}{ops:Array Oper}{o:Oper}{rest:List Oper}{a:Act}{v:Value}{t:Tmp}(hm:isMem o=false) (ho:o.dst=some t) (ht:t<a.tmps.size)
 (h1:∀ wb,Bp wb→wpQuiet P ops (fun w'=>∃ p:Regrown,w'=grow (redrawn wb p.d) p.os) (fun a'=>a'.tmps[t]?=some v) [o] a) (h2:wpFixG P ops Bp K rest (a.put (some t) v)):wpFixG P ops Bp K (o::rest) a:=by
 refine⟨v,.inr fun wb hb=>?_,by rw [sG_no hm,ho];exact h2⟩;have h:=h1 wb hb;unfold wpQuiet at h
 by_cases hw:Region.wanted o (yielded ops a.tmps)=true
 · rw [if_pos hw] at h;obtain⟨v',hq,he⟩:=h;rw [ho] at he;have he:(a.put (some t) v').tmps[t]?=some v:=he;rw [put_at ht] at he;rw [Option.some.inj he] at hq;exact .inl ⟨hw,hq⟩
 · rw [if_neg hw,ho] at h;have he:(a.put (some t) undef).tmps[t]?=some v:=h;rw [put_at ht] at he;exact .inr ⟨by simpa using hw,(Option.some.inj he).symm⟩
theorem fix_skipG{Bp:World→Prop}{ops:Array Oper}{o:Oper}{rest:List Oper}{a:Act}(hm:isMem o=true) (h:wpFixG P ops Bp K rest a):wpFixG P ops Bp K (o::rest) a:=
 ⟨undef,.inl hm,by rw [sG_mem hm];exact h⟩
end
end
end Go.Proofs.YtkbpdoomhfkngaaGreat
