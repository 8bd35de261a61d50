/- Parts of the proof: PtM, PtN. Conditions: each theorem's own. -/
import Derived.Test.YtpedcgpcchbhpaaGreatDoorU24
namespace Go.Proofs.YtpedcgpcchbhpaaGreatDoor
set_option linter.unusedVariables false
set_option linter.unusedSimpArgs false
set_option maxRecDepth 100000
set_option maxHeartbeats 40000000
section
def wkwL:List UInt8:=[32,119,104,101,110,32]
def nodeW:List UInt8:=[110,111,100,101,32]
def retW:List UInt8:=[32,114,101,116,117,114,110,115,32]
def varW:List UInt8:=[118,97,114,32]
def letW:List UInt8:=[108,101,116,10]
def telW:List UInt8:=[116,101,108,10]
def enumW:List UInt8:=[101,110,117,109,32]
def joinW(s:UInt8):List (List UInt8)→List UInt8
 | []=>[]
 | [x]=>x
 | x::y::l=>x++s::32::joinW s (y::l)
section
variable (ty:Dc→List UInt8)
def declT(d:Dc):List UInt8:=d.nm.data.toList++58::32::(ty d++if noB d.on then [] else wkwL++onL d.on.data.toList d.ct.data.toList)
def declsT(l:List Dc):List UInt8:=joinW 59 (l.map (declT ty))
def eqT(q:Qn):List UInt8:=32::32::(joinW 44 (q.ns.map fun s=>s.data.toList)++32::61::32::(textL q.x++[59]))
def eqsT(l:List Qn):List UInt8:=l.flatMap fun q=>eqT q++[10]
def varsT(l:List Dc):List UInt8:=if l=[] then [] else varW++(declsT ty l++[59,10])
def nodeT(n:Nd):List UInt8:=nodeW++(n.nm.data.toList++40::(declsT ty n.ins++41::(retW++40::(declsT ty n.outs++41::10::(varsT ty n.vars++(letW++(eqsT n.eqs++telW)))))))
def nodesT(l:List Nd):List UInt8:=l.flatMap (nodeT ty)
end
def enumT(e:En):List UInt8:=enumW++(e.1.data.toList++32::123::32::(joinW 44 (e.2.map fun s=>s.data.toList)++32::125::59::[10]))
def enumsT(l:List En):List UInt8:=l.flatMap enumT
theorem sepU{c:UInt8}:∀ {a b x y:List UInt8},c∉a→c∉b→a++c::x=b++c::y→a=b∧x=y
 | [],[],x,y,_,_,h=>by simpa using h
 | [],d::b,x,y,_,hb,h=>by
  simp only [List.nil_append,List.cons_append,List.cons.injEq] at h;exact absurd h.1 (fun e=>hb (by simp [e]))
 | d::a,[],x,y,ha,_,h=>by
  simp only [List.nil_append,List.cons_append,List.cons.injEq] at h;exact absurd h.1 (fun e=>ha (by simp [e]))
 | d::a,e::b,x,y,ha,hb,h=>by
  simp only [List.cons_append,List.cons.injEq] at h;obtain⟨rfl,h⟩:=h;obtain⟨rfl,h2⟩:=sepU (fun hc=>ha (List.mem_cons_of_mem _ hc)) (fun hc=>hb (List.mem_cons_of_mem _ hc)) h;exact⟨rfl,h2⟩
theorem joinW_mem{s c:UInt8}:∀ {l:List (List UInt8)},c∈joinW s l→c=s∨c=32∨∃ a∈l,c∈a
 | [],h=>by cases h
 | [x],h=>.inr (.inr ⟨x,by simp,h⟩)
 | x::y::l,h=>by
  simp only [joinW,List.mem_append,List.mem_cons] at h;rcases h with h | h | h | h
  · exact .inr (.inr ⟨x,by simp,h⟩)
  · exact .inl h
  · exact .inr (.inl h)
  · rcases joinW_mem h with h | h | ⟨a,ha,hc⟩
    · exact .inl h
    · exact .inr (.inl h)
    · exact .inr (.inr ⟨a,List.mem_cons_of_mem _ ha,hc⟩)
theorem joinW_inj{s:UInt8}:∀ {l m:List (List UInt8)},(∀ a∈l,s∉a∧a≠[])→(∀ a∈m,s∉a∧a≠[])→joinW s l=joinW s m→l=m
 | [],[],_,_,_=>rfl
 | [],[y],_,hm,h=>absurd h.symm (hm y (by simp)).2
 | [],y::z::m,_,hm,h=>by
  have:=congrArg List.length h
  simp [joinW] at this
 | [x],[],hl,_,h=>absurd h (hl x (by simp)).2
 | x::z::l,[],hl,_,h=>by
  have:=congrArg List.length h
  simp [joinW] at this
 | [x],[y],_,_,h=>by rw [show x=y from h]
 | [x],y::z::m,hl,hm,h=>by
  have h:x=y++s::32::joinW s (z::m):=h;exact absurd (show s∈x by rw [h];simp) (hl x (by simp)).1
 | x::z::l,[y],hl,hm,h=>by
  have h:x++s::32::joinW s (z::l)=y:=h;exact absurd (show s∈y by rw [← h];simp) (hm y (by simp)).1
 | x::z::l,y::u::m,hl,hm,h=>by
  have h:x++s::32::joinW s (z::l)=y++s::32::joinW s (u::m):=h;obtain⟨rfl,h2⟩:=sepU (hl x (by simp)).1 (hm y (by simp)).1 h;simp only [List.cons.injEq,true_and] at h2;rw [joinW_inj (fun a ha=>hl a (List.mem_cons_of_mem _ ha)) (fun a ha=>hm a (List.mem_cons_of_mem _ ha)) h2]
theorem toL_inj{a b:ByteArray}(h:a.data.toList=b.data.toList):a=b:=by
 cases a
 cases b
 congr 1
 exact Array.toList_inj.1 h
theorem map_inj_{α:Type}{f:α→List UInt8}{P:α→Prop}(hf:∀ a b,P a→P b→f a=f b→a=b):∀ {l m:List α},(∀ a∈l,P a)→(∀ a∈m,P a)→l.map f=m.map f→l=m
 | [],[],_,_,_=>rfl
 | [],b::m,_,_,h=>by simp at h
 | a::l,[],_,_,h=>by simp at h
 | a::l,b::m,hl,hm,h=>by
  simp only [List.map_cons,List.cons.injEq] at h;rw [hf a b (hl a (by simp)) (hm b (by simp)) h.1,map_inj_ hf (fun x hx=>hl x (List.mem_cons_of_mem _ hx)) (fun x hx=>hm x (List.mem_cons_of_mem _ hx)) h.2]
theorem name_not{c:UInt8}(h:nameC (c.toNat:Int)=true):c≠10∧c≠32∧c≠40∧c≠41∧c≠44∧c≠58∧c≠59∧c≠61∧c≠91∧c≠93∧c≠123∧c≠125∧c≠39:=by
 refine⟨?_,?_,?_,?_,?_,?_,?_,?_,?_,?_,?_,?_,?_⟩ <;> (rintro rfl;revert h;decide)
theorem nms_not{l:List UInt8}(h:nmsB l=true):∀ c∈l,c≠10∧c≠32∧c≠40∧c≠41∧c≠44∧c≠58∧c≠59∧c≠61∧c≠91∧c≠93∧c≠123∧c≠125∧c≠39:=fun c hc=>name_not (List.all_eq_true.1 h c hc)
theorem low_nil{l:List UInt8}(h:lowB l=true):l≠[]:=by
 obtain⟨c,r,rfl,_⟩:=low_ex h
 simp
theorem high_nil{l:List UInt8}(h:highB l=true):l≠[]:=by
 obtain⟨c,r,rfl,_⟩:=high_ex h
 simp
structure TyF (ok:Dc→Prop) (ty:Dc→List UInt8):Prop where
 free:∀ d,ok d→∀ c∈ty d,c≠10∧c≠32∧c≠41∧c≠59
 inj:∀ d d',ok d→ok d'→ty d=ty d'→d.k=d'.k∧d.e=d'.e∧d.l=d'.l
structure DeclF (ok:Dc→Prop) (d:Dc):Prop where
 ty:ok d
 low:lowB d.nm.data.toList=true
 on:(noB d.on=true∧noB d.ct=true)∨(noB d.on=false∧lowB d.on.data.toList=true∧(d.ct.data.toList=trueL∨d.ct.data.toList=falseL∨highB d.ct.data.toList=true))
theorem on_inj{a b s t:List UInt8}(ha:lowB a=true) (hb:lowB b=true) (hs:s=trueL∨s=falseL∨highB s=true) (ht:t=trueL∨t=falseL∨highB t=true) (h:onL a s=onL b t):a=b∧s=t:=by
 have h1:=when_ok (a:=default) (u:=[]) ha hs;have h2:=when_ok (a:=default) (u:=[]) hb ht;rw [h,h2] at h1;simp only [Option.some.injEq,Prod.mk.injEq,and_true] at h1;have e1:ofB b=ofB a:=congrArg Ex.s h1;have e2:[ofB t]=[ofB s]:=congrArg Ex.arms h1;simp only [List.cons.injEq,and_true] at e2
 have f:∀ {x y:List UInt8},ofB x=ofB y→x=y:=fun {x y} h=>by
  have:=congrArg (fun z:ByteArray=>z.data.toList) h
  simpa [ofB_data] using this
 exact⟨(f e1).symm,(f e2).symm⟩
theorem on_free{a s:List UInt8}(ha:lowB a=true) (hs:s=trueL∨s=falseL∨highB s=true):∀ c∈onL a s,c≠10∧c≠59:=by
 intro c hc;have hn:=nms_not (low_nms ha);unfold onL at hc
 split at hc
 · exact⟨(hn c hc).1,(hn c hc).2.2.2.2.2.2.1⟩
 · split at hc
   · simp only [List.mem_append,List.mem_cons] at hc;rcases hc with hc | rfl | hc
     · simp only [notL,List.mem_cons,List.not_mem_nil,or_false] at hc;rcases hc with rfl | rfl | rfl <;> decide
     · decide
     · exact⟨(hn c hc).1,(hn c hc).2.2.2.2.2.2.1⟩
   · simp only [List.mem_append,List.mem_cons,List.not_mem_nil,or_false] at hc;rcases hc with hc | rfl | hc | rfl
     · rcases hs with hs | hs | hs
       · contradiction
       · contradiction
       · have:=nms_not (high_nms hs) c hc;exact⟨this.1,this.2.2.2.2.2.2.1⟩
     · decide
     · exact⟨(hn c hc).1,(hn c hc).2.2.2.2.2.2.1⟩
     · decide
theorem noB_eq{s:ByteArray}(h:noB s=true):s=⟨#[]⟩:=toL_inj (eq_of_beq h)
section
variable {ok:Dc→Prop}{ty:Dc→List UInt8}
theorem decl_inj(ht:TyF ok ty){a b:Dc}(ha:DeclF ok a) (hb:DeclF ok b) (h:declT ty a=declT ty b):a=b:=by
 unfold declT at h;obtain⟨h1,h2⟩:=sepU (fun hc=>(nms_not (low_nms ha.low) _ hc).2.2.2.2.2.1 rfl) (fun hc=>(nms_not (low_nms hb.low) _ hc).2.2.2.2.2.1 rfl) h;simp only [List.cons.injEq,true_and] at h2;have hw:∀ d:Dc,DeclF ok d→∀ u,(u=[]∨∃ r,u=32::r)→(ty d++u).takeWhile (fun c=>c != 32)=ty d:=fun d hd u hu=>twApp (fun c hc=>by simpa using (ht.free d hd.ty c hc).2.1) (by rcases hu with rfl | ⟨r,rfl⟩;exact .inl rfl;exact .inr ⟨32,r,rfl,by decide⟩)
 have hu:∀ d:Dc,(if noB d.on then [] else wkwL++onL d.on.data.toList d.ct.data.toList)=[]∨∃ r,(if noB d.on then [] else wkwL++onL d.on.data.toList d.ct.data.toList)=32::r:=fun d=>by
  cases noB d.on with
  | true=>exact .inl rfl
  | false=>exact .inr ⟨_,rfl⟩
 have e1:=hw a ha _ (hu a);have e2:=hw b hb _ (hu b);rw [h2,e2] at e1;rw [← e1] at h2;have h3:=List.append_cancel_left h2;obtain⟨hk,he,hl⟩:=ht.inj a b ha.ty hb.ty e1.symm;have hnm:=toL_inj h1;obtain⟨an,ak,ae,al,ao,ac⟩:=a;obtain⟨bn,bk,be,bl,bo,bc⟩:=b;simp only at hk he hl hnm h3;subst hk he hl hnm;rcases ha.on with⟨x1,x2⟩|⟨x1,x2,x3⟩ <;> rcases hb.on with⟨y1,y2⟩|⟨y1,y2,y3⟩ <;> simp only at x1 x2 y1 y2
 · rw [noB_eq x1,noB_eq x2,noB_eq y1,noB_eq y2]
 · rw [x1,y1] at h3
   simp [wkwL] at h3
 · rw [x1,y1] at h3
   simp [wkwL] at h3
 · rw [x1,y1] at h3;have h3:wkwL++onL ao.data.toList ac.data.toList=wkwL++onL bo.data.toList bc.data.toList:=h3;obtain⟨z1,z2⟩:=on_inj x2 y2 x3 y3 (List.append_cancel_left h3);have e3:ao=bo:=toL_inj z1;have e4:ac=bc:=toL_inj z2;rw [e3,e4]
theorem decl_free(ht:TyF ok ty){d:Dc}(hd:DeclF ok d):∀ c∈declT ty d,c≠10∧c≠59:=by
 intro c hc;simp only [declT,List.mem_append,List.mem_cons] at hc;rcases hc with hc | rfl | rfl | hc | hc
 · have:=nms_not (low_nms hd.low) c hc;exact⟨this.1,this.2.2.2.2.2.2.1⟩
 · decide
 · decide
 · have:=ht.free d hd.ty c hc;exact⟨this.1,this.2.2.2⟩
 · rcases hd.on with⟨x1,x2⟩|⟨x1,x2,x3⟩
   · rw [x1] at hc
     simp at hc
   · rw [x1] at hc;simp only [Bool.false_eq_true,if_false,List.mem_append] at hc;rcases hc with hc | hc
     · simp only [wkwL,List.mem_cons,List.not_mem_nil,or_false] at hc;rcases hc with rfl | rfl | rfl | rfl | rfl | rfl <;> decide
     · exact on_free x2 x3 c hc
theorem decl_plain(ht:TyF ok ty){d:Dc}(hd:DeclF ok d) (ho:noB d.on=true):(41:UInt8)∉declT ty d:=by
 intro hc;simp only [declT,ho,if_true,List.append_nil,List.mem_append,List.mem_cons] at hc;rcases hc with hc | hc | hc | hc
 · exact(nms_not (low_nms hd.low) _ hc).2.2.2.1 rfl
 · revert hc;decide
 · revert hc;decide
 · exact(ht.free d hd.ty _ hc).2.2.1 rfl
theorem decl_nil{d:Dc}:declT ty d≠[]:=by simp [declT]
theorem decls_inj(ht:TyF ok ty){l m:List Dc}(hl:∀ d∈l,DeclF ok d) (hm:∀ d∈m,DeclF ok d) (h:declsT ty l=declsT ty m):l=m:=by
 have h1:l.map (declT ty)=m.map (declT ty):=joinW_inj (fun a ha=>by
  obtain⟨d,hd,rfl⟩:=List.mem_map.1 ha
  exact⟨fun hc=>(decl_free ht (hl d hd) _ hc).2 rfl,decl_nil⟩) (fun a ha=>by
  obtain⟨d,hd,rfl⟩:=List.mem_map.1 ha;exact⟨fun hc=>(decl_free ht (hm d hd) _ hc).2 rfl,decl_nil⟩) h
 exact map_inj_ (P:=DeclF ok) (fun a b ha hb h=>decl_inj ht ha hb h) hl hm h1
theorem decls_no{l:List Dc}(ht:TyF ok ty) (hl:∀ d∈l,DeclF ok d):(10:UInt8)∉declsT ty l:=by
 intro hc;rcases joinW_mem hc with h | h | ⟨a,ha,hc⟩
 · revert h;decide
 · revert h;decide
 · obtain⟨d,hd,rfl⟩:=List.mem_map.1 ha;exact(decl_free ht (hl d hd) _ hc).1 rfl
theorem decls_plain{l:List Dc}(ht:TyF ok ty) (hl:∀ d∈l,DeclF ok d∧noB d.on=true):(41:UInt8)∉declsT ty l:=by
 intro hc;rcases joinW_mem hc with h | h | ⟨a,ha,hc⟩
 · revert h;decide
 · revert h;decide
 · obtain⟨d,hd,rfl⟩:=List.mem_map.1 ha;exact decl_plain ht (hl d hd).1 (hl d hd).2 hc
end
end
section
theorem nm_lf{l:List UInt8}(h:nmsB l=true):(10:UInt8)∉l:=fun hc=>(nms_not h _ hc).1 rfl
theorem path_lf{l:List UInt8}(h:pathB l=true):(10:UInt8)∉l:=by
 intro hc;rcases cutL_mem (c:=47) hc with h1 | ⟨q,hq,hcq⟩
 · revert h1;decide
 · rcases part_quote (List.all_eq_true.1 h q hq) _ hcq with h1 | h1
   · revert h1;decide
   · revert h1;decide
theorem gT_lf{t:List (List UInt8)}(h:∀ y∈t,(10:UInt8)∉y) (i:Nat):(10:UInt8)∉gT t i:=by
 unfold gT
 cases hi:t[i]? with
 | none=>simp
 | some y=>simpa using h y (List.mem_of_getElem? hi)
theorem join_lf{t:List (List UInt8)}(h:∀ y∈t,(10:UInt8)∉y):(10:UInt8)∉joinC t:=by
 match t with
 | []=>simp [joinC]
 | [x]=>simpa [joinC] using h x (by simp)
 | x::y::l=>
  have ih:=join_lf (t:=y::l) fun z hz=>h z (List.mem_cons_of_mem _ hz);have hx:=h x (by simp);simp only [joinC,List.mem_append,List.mem_cons];rintro (h | h | h | h)
  · exact hx h
  · revert h;decide
  · revert h;decide
  · exact ih h
theorem arms_lf:∀ {arms t:List (List UInt8)},(∀ y∈arms,(10:UInt8)∉y)→(∀ y∈t,(10:UInt8)∉y)→(10:UInt8)∉armsT arms t
 | [],_,_,_=>by simp [armsT]
 | _::_,[],_,_=>by simp [armsT]
 | a::arms,x::t,ha,ht=>by
  have ih:=arms_lf (arms:=arms) (t:=t) (fun y hy=>ha y (List.mem_cons_of_mem _ hy)) (fun y hy=>ht y (List.mem_cons_of_mem _ hy));have h1:=ha a (by simp);have h2:=ht x (by simp);simp only [armsT,List.mem_append,List.mem_cons];rintro (h | h | h | h | h | h | h | h | h | h)
  all_goals first | exact h1 h | exact h2 h | exact ih h | (revert h;decide)
theorem sign_lf(op:Int):(10:UInt8)∉signL op:=by
 unfold signL
 split
 · rename_i h
   have:∀ k:Nat,k<17→(10:UInt8)∉signsL[k]?.getD []:=by decide
   exact this op.toNat (by omega)
 · simp
theorem on_lf{a s:List UInt8}(ha:(10:UInt8)∉a) (hs:(10:UInt8)∉s):(10:UInt8)∉onL a s:=by
 unfold onL
 split
 · exact ha
 · split
   · simp only [List.mem_append,List.mem_cons,notL,List.not_mem_nil,or_false];rintro ((h | h | h) | h | h)
     all_goals first | exact ha h | (revert h;decide)
   · simp only [List.mem_append,List.mem_cons,List.not_mem_nil,or_false];rintro (h | h | h | h)
     all_goals first | exact ha h | exact hs h | (revert h;decide)
theorem textK_lf{k n:Int}{s:List UInt8}{op:Int}{arms t:List (List UInt8)}(hs:(10:UInt8)∉s) (ha:∀ y∈arms,(10:UInt8)∉y) (ht:∀ y∈t,(10:UInt8)∉y) (hn:k=1→0≤n):(10:UInt8)∉textK k n s op arms t:=by
 have g:=gT_lf ht;have ga:=gT_lf ha;have hsg:=sign_lf op;have hj:=join_lf ht;have hj2:=join_lf (t:=t.take (t.length-1)) fun y hy=>ht y (List.mem_of_mem_take hy);have hon:=on_lf hs (ga 0);have hal:=arms_lf ha ht;have c1:(10:UInt8)∉notL:=by decide
 have c2:(10:UInt8)∉ifL:=by decide
 have c3:(10:UInt8)∉thenL:=by decide
 have c4:(10:UInt8)∉elseL:=by decide
 have c5:(10:UInt8)∉fbyL:=by decide
 have c6:(10:UInt8)∉arrL:=by decide
 have c7:(10:UInt8)∉preL:=by decide
 have c8:(10:UInt8)∉whenL:=by decide
 have c9:(10:UInt8)∉mergeL:=by decide
 have c10:(10:UInt8)∉withL:=by decide
 have c11:(10:UInt8)∉everyL:=by decide
 have c12:(10:UInt8)∉trueL:=by decide
 have c13:(10:UInt8)∉falseL:=by decide
 unfold textK
 by_cases k5:k=5
 · rw [if_pos k5]
   by_cases ho:op=1
   · rw [if_pos ho];simp [g]
   · rw [if_neg ho];simp [g,c1]
 · rw [if_neg k5]
   by_cases k6:k=6
   · rw [if_pos k6]
     simp [g,hsg]
   · rw [if_neg k6]
     by_cases k7:k=7
     · rw [if_pos k7]
       simp [g,c2,c3,c4]
     · rw [if_neg k7]
       by_cases k8:k=8
       · rw [if_pos k8]
         simp [g,c5]
       · rw [if_neg k8]
         by_cases k9:k=9
         · rw [if_pos k9]
           simp [g,c6]
         · rw [if_neg k9]
           by_cases k10:k=10
           · rw [if_pos k10]
             simp [g,c7]
           · rw [if_neg k10]
             by_cases k11:k=11
             · rw [if_pos k11]
               simp [g,c8,hon]
             · rw [if_neg k11]
               by_cases k12:k=12
               · rw [if_pos k12]
                 simp [hs,c9,hal]
               · rw [if_neg k12]
                 by_cases k13:k=13
                 · rw [if_pos k13];unfold callT
                   by_cases ho:n=1
                   · rw [if_pos ho];simp [g,hs,hj2,c11]
                   · rw [if_neg ho];simp [hs,hj]
                 · rw [if_neg k13]
                   by_cases k14:k=14
                   · rw [if_pos k14]
                     simp [hj]
                   · rw [if_neg k14]
                     by_cases k15:k=15
                     · rw [if_pos k15]
                       simp [g]
                     · rw [if_neg k15]
                       by_cases k16:k=16
                       · rw [if_pos k16]
                         simp [g,c10]
                       · rw [if_neg k16];unfold leafT
                         by_cases h1:k=1
                         · rw [if_pos h1];have h0:=hn h1;simp only [Lib.itoa,if_neg (Int.not_lt.2 h0)];intro hc;have:=decRange n.toNat _ hc
                           revert this
                           decide
                         · rw [if_neg h1]
                           by_cases h2:k=2
                           · rw [if_pos h2]
                             by_cases ho:n=1
                             · rw [if_pos ho];exact c12
                             · rw [if_neg ho];exact c13
                           · rw [if_neg h2]
                             by_cases h17:k=17
                             · rw [if_pos h17];simp [hs]
                             · rw [if_neg h17];exact hs
theorem text_lf:∀ x:Ex,okX x→(10:UInt8)∉textL x:=by
 refine size_ind fun x ih hx=>?_;have hf:=hx.part;rw [textL_eq];refine textK_lf ?_ ?_ ?_ hf.n1
 · by_cases h1:x.k=3∨x.k=11∨x.k=12∨x.k=13
   · exact nm_lf (low_nms (hf.low h1))
   · by_cases h4:x.k=4
     · exact nm_lf (high_nms (hf.high h4))
     · by_cases h17:x.k=17
       · exact path_lf (hf.path h17)
       · rw [hf.s0 (by omega) h4 (by omega) (by omega) (by omega) h17]
         decide
 · intro y hy;obtain⟨a,ha,rfl⟩:=List.mem_map.1 hy;exact nm_lf (armB_nms (hf.arms a ha))
 · intro y hy;obtain⟨a,ha,rfl⟩:=List.mem_map.1 hy;obtain⟨i,hi,rfl⟩:=List.getElem_of_mem ha;have:=ih i hi;unfold subX at this;rw [List.getElem?_eq_getElem hi,Option.getD_some] at this;exact this (hx.sub ha)
structure QnF (q:Qn):Prop where
 ns:∀ s∈q.ns,lowB s.data.toList=true
 x:okX q.x
theorem texts_inj{l m:List ByteArray}(hl:∀ s∈l,nmsB s.data.toList=true∧s.data.toList≠[]) (hm:∀ s∈m,nmsB s.data.toList=true∧s.data.toList≠[]) (h:joinW 44 (l.map fun s=>s.data.toList)=joinW 44 (m.map fun s=>s.data.toList)):l=m:=by
 have h1:=joinW_inj (fun a ha=>by
  obtain⟨d,hd,rfl⟩:=List.mem_map.1 ha
  exact⟨fun hc=>(nms_not (hl d hd).1 _ hc).2.2.2.2.1 rfl,(hl d hd).2⟩) (fun a ha=>by
  obtain⟨d,hd,rfl⟩:=List.mem_map.1 ha;exact⟨fun hc=>(nms_not (hm d hd).1 _ hc).2.2.2.2.1 rfl,(hm d hd).2⟩) h
 exact map_inj_ (P:=fun _=>True) (fun a b _ _ h=>toL_inj h) (fun _ _=>trivial) (fun _ _=>trivial) h1
theorem texts_not{l:List ByteArray}{c:UInt8}(hl:∀ s∈l,nmsB s.data.toList=true) (hc:c=10∨c=61∨c=125):c∉joinW 44 (l.map fun s=>s.data.toList):=by
 intro h;rcases joinW_mem h with h | h | ⟨a,ha,h⟩
 · rcases hc with rfl | rfl | rfl <;> (revert h;decide)
 · rcases hc with rfl | rfl | rfl <;> (revert h;decide)
 · obtain⟨d,hd,rfl⟩:=List.mem_map.1 ha;have:=nms_not (hl d hd) _ h;rcases hc with rfl | rfl | rfl
   · exact this.1 rfl
   · exact this.2.2.2.2.2.2.2.1 rfl
   · exact this.2.2.2.2.2.2.2.2.2.2.2.1 rfl
theorem lows_nms{l:List ByteArray}(h:∀ s∈l,lowB s.data.toList=true):∀ s∈l,nmsB s.data.toList=true∧s.data.toList≠[]:=fun s hs=>⟨low_nms (h s hs),low_nil (h s hs)⟩
theorem highs_nms{l:List ByteArray}(h:∀ s∈l,highB s.data.toList=true):∀ s∈l,nmsB s.data.toList=true∧s.data.toList≠[]:=fun s hs=>⟨high_nms (h s hs),high_nil (h s hs)⟩
theorem eq_inj{a b:Qn}(ha:QnF a) (hb:QnF b) (h:eqT a=eqT b):a=b:=by
 unfold eqT at h;simp only [List.cons.injEq,true_and] at h;have e:∀ (u v:List UInt8),u++32::61::v=(u++[32])++61::v:=fun u v=>by simp
 rw [e,e] at h
 have hno:∀ q:Qn,QnF q→(61:UInt8)∉joinW 44 (q.ns.map fun s=>s.data.toList)++[32]:=fun q hq=>by
  rw [List.mem_append];rintro (h | h)
  · exact texts_not (fun s hs=>(lows_nms hq.ns s hs).1) (.inr (.inl rfl)) h
  · revert h;decide
 obtain⟨h1,h2⟩:=sepU (hno a ha) (hno b hb) h;have h1:=texts_inj (lows_nms ha.ns) (lows_nms hb.ns) (List.append_cancel_right h1);simp only [List.cons.injEq,true_and] at h2;have h3:=text_inj ha.x hb.x (List.append_cancel_right h2);obtain⟨an,ax⟩:=a;obtain⟨bn,bx⟩:=b;simp only at h1 h3;rw [h1,h3]
theorem eq_lf{q:Qn}(hq:QnF q):(10:UInt8)∉eqT q:=by
 have h1:=texts_not (c:=10) (fun s hs=>(lows_nms hq.ns s hs).1) (.inl rfl);have h2:=text_lf q.x hq.x;unfold eqT
 simp [h1,h2]
theorem eqs_inj:∀ {l m:List Qn}{u v:List UInt8},(∀ q∈l,QnF q)→(∀ q∈m,QnF q)→eqsT l++(telW++u)=eqsT m++(telW++v)→l=m∧u=v
 | [],[],u,v,_,_,h=>by
  simp [eqsT,telW] at h
  exact⟨rfl,h⟩
 | [],b::m,u,v,_,_,h=>by simp [eqsT,eqT,telW] at h
 | a::l,[],u,v,_,_,h=>by simp [eqsT,eqT,telW] at h
 | a::l,b::m,u,v,hl,hm,h=>by
  have e:∀ (q:Qn) (k:List Qn) (z:List UInt8),eqsT (q::k)++z=eqT q++10::(eqsT k++z):=fun q k z=>by simp [eqsT]
  rw [e,e] at h;obtain⟨h1,h2⟩:=sepU (eq_lf (hl a (by simp))) (eq_lf (hm b (by simp))) h;obtain⟨h3,h4⟩:=eqs_inj (fun q hq=>hl q (List.mem_cons_of_mem _ hq)) (fun q hq=>hm q (List.mem_cons_of_mem _ hq)) h2;exact⟨by rw [eq_inj (hl a (by simp)) (hm b (by simp)) h1,h3],h4⟩
structure NdF (ok:Dc→Prop) (n:Nd):Prop where
 low:lowB n.nm.data.toList=true
 ins:∀ d∈n.ins,DeclF ok d∧noB d.on=true
 outs:∀ d∈n.outs,DeclF ok d∧noB d.on=true
 vars:∀ d∈n.vars,DeclF ok d
 eqs:∀ q∈n.eqs,QnF q
section
variable {ok:Dc→Prop}{ty:Dc→List UInt8}
theorem node_inj(ht:TyF ok ty){a b:Nd}{u v:List UInt8}(ha:NdF ok a) (hb:NdF ok b) (h:nodeT ty a++u=nodeT ty b++v):a=b∧u=v:=by
 have e:∀ (n:Nd) (z:List UInt8),nodeT ty n++z=nodeW++(n.nm.data.toList++40::(declsT ty n.ins++41::(retW++40::(declsT ty n.outs++41::10::(varsT ty n.vars++(letW++(eqsT n.eqs++(telW++z)))))))):=fun n z=>by simp [nodeT]
 rw [e,e] at h;have h:=List.append_cancel_left h;have h40:∀ n:Nd,NdF ok n→(40:UInt8)∉n.nm.data.toList:=fun n hn hc=>(nms_not (low_nms hn.low) _ hc).2.2.1 rfl;obtain⟨h1,h⟩:=sepU (h40 a ha) (h40 b hb) h;obtain⟨h2,h⟩:=sepU (decls_plain ht ha.ins) (decls_plain ht hb.ins) h;have h:=List.append_cancel_left h;simp only [List.cons.injEq,true_and] at h;obtain⟨h3,h⟩:=sepU (decls_plain ht ha.outs) (decls_plain ht hb.outs) h;simp only [List.cons.injEq,true_and] at h;have g1:=toL_inj h1;have g2:=decls_inj ht (fun d hd=>(ha.ins d hd).1) (fun d hd=>(hb.ins d hd).1) h2;have g3:=decls_inj ht (fun d hd=>(ha.outs d hd).1) (fun d hd=>(hb.outs d hd).1) h3
 have fin:a.vars=b.vars→letW++(eqsT a.eqs++(telW++u))=letW++(eqsT b.eqs++(telW++v))→a=b∧u=v:=fun g4 h=>by
  obtain⟨g5,g6⟩:=eqs_inj ha.eqs hb.eqs (List.append_cancel_left h);obtain⟨a1,a2,a3,a4,a5⟩:=a;obtain⟨b1,b2,b3,b4,b5⟩:=b;simp only at g1 g2 g3 g4 g5;rw [g1,g2,g3,g4,g5];exact⟨rfl,g6⟩
 unfold varsT at h
 by_cases hav:a.vars=[]
 · by_cases hbv:b.vars=[]
   · rw [if_pos hav,if_pos hbv] at h;exact fin (by rw [hav,hbv]) h
   · rw [if_pos hav,if_neg hbv] at h
     simp [varW,letW] at h
 · by_cases hbv:b.vars=[]
   · rw [if_neg hav,if_pos hbv] at h
     simp [varW,letW] at h
   · rw [if_neg hav,if_neg hbv] at h;have e2:∀ (d z:List UInt8),(varW++(d++[59,10]))++z=varW++((d++[59])++10::z):=fun d z=>by simp
     rw [e2,e2] at h;have h:=List.append_cancel_left h
     have hno:∀ n:Nd,NdF ok n→(10:UInt8)∉declsT ty n.vars++[59]:=fun n hn=>by
      rw [List.mem_append];rintro (h | h)
      · exact decls_no ht hn.vars h
      · revert h;decide
     obtain⟨h4,h⟩:=sepU (hno a ha) (hno b hb) h;exact fin (decls_inj ht ha.vars hb.vars (List.append_cancel_right h4)) h
theorem nodes_inj(ht:TyF ok ty):∀ {l m:List Nd},(∀ n∈l,NdF ok n)→(∀ n∈m,NdF ok n)→nodesT ty l=nodesT ty m→l=m
 | [],[],_,_,_=>rfl
 | [],b::m,_,_,h=>by simp [nodesT,nodeT,nodeW] at h
 | a::l,[],_,_,h=>by simp [nodesT,nodeT,nodeW] at h
 | a::l,b::m,hl,hm,h=>by
  have h:nodeT ty a++nodesT ty l=nodeT ty b++nodesT ty m:=by simpa [nodesT] using h
  obtain⟨h1,h2⟩:=node_inj ht (hl a (by simp)) (hm b (by simp)) h;rw [h1,nodes_inj ht (fun n hn=>hl n (List.mem_cons_of_mem _ hn)) (fun n hn=>hm n (List.mem_cons_of_mem _ hn)) h2]
end
structure EnF (e:En):Prop where
 low:lowB e.1.data.toList=true
 cs:∀ s∈e.2,highB s.data.toList=true
theorem enum_inj{a b:En}{u v:List UInt8}(ha:EnF a) (hb:EnF b) (h:enumT a++u=enumT b++v):a=b∧u=v:=by
 have e:∀ (n:En) (z:List UInt8),enumT n++z=enumW++(n.1.data.toList++32::123::32::((joinW 44 (n.2.map fun s=>s.data.toList)++[32])++125::59::10::z)):=fun n z=>by simp [enumT]
 rw [e,e] at h;have h:=List.append_cancel_left h;have h32:∀ n:En,EnF n→(32:UInt8)∉n.1.data.toList:=fun n hn hc=>(nms_not (low_nms hn.low) _ hc).2.1 rfl;obtain⟨h1,h⟩:=sepU (h32 a ha) (h32 b hb) h;simp only [List.cons.injEq,true_and] at h
 have hno:∀ n:En,EnF n→(125:UInt8)∉joinW 44 (n.2.map fun s=>s.data.toList)++[32]:=fun n hn=>by
  rw [List.mem_append];rintro (h | h)
  · exact texts_not (fun s hs=>(highs_nms hn.cs s hs).1) (.inr (.inr rfl)) h
  · revert h;decide
 obtain⟨h2,h9⟩:=sepU (hno a ha) (hno b hb) h;simp only [List.cons.injEq,true_and] at h9;have h2:=texts_inj (highs_nms ha.cs) (highs_nms hb.cs) (List.append_cancel_right h2);obtain⟨a1,a2⟩:=a;obtain⟨b1,b2⟩:=b;simp only at h1 h2;rw [toL_inj h1,h2];exact⟨rfl,h9⟩
theorem enums_inj{u v:List UInt8}(hu:u=[]∨∃ r,u=110::r) (hv:v=[]∨∃ r,v=110::r):∀ {l m:List En},(∀ n∈l,EnF n)→(∀ n∈m,EnF n)→enumsT l++u=enumsT m++v→l=m∧u=v
 | [],[],_,_,h=>⟨rfl,by simpa [enumsT] using h⟩
 | [],b::m,_,_,h=>by
  rcases hu with rfl | ⟨r,rfl⟩ <;> simp [enumsT,enumT,enumW] at h
 | a::l,[],_,_,h=>by
  rcases hv with rfl | ⟨r,rfl⟩ <;> simp [enumsT,enumT,enumW] at h
 | a::l,b::m,hl,hm,h=>by
  have h:enumT a++(enumsT l++u)=enumT b++(enumsT m++v):=by simpa [enumsT] using h
  obtain⟨h1,h2⟩:=enum_inj (hl a (by simp)) (hm b (by simp)) h;obtain⟨h3,h4⟩:=enums_inj hu hv (fun n hn=>hl n (List.mem_cons_of_mem _ hn)) (fun n hn=>hm n (List.mem_cons_of_mem _ hn)) h2;exact⟨by rw [h1,h3],h4⟩
theorem nodes_beg(ty:Dc→List UInt8) (l:List Nd):nodesT ty l=[]∨∃ r,nodesT ty l=110::r:=by
 cases l with
 | nil=>exact .inl rfl
 | cons a l=>exact .inr ⟨_,rfl⟩
end
end Go.Proofs.YtpedcgpcchbhpaaGreatDoor
