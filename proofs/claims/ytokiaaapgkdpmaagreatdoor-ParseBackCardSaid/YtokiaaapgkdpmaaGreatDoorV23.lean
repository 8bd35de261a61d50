/- Parts of the proof: PrM, PrA, PrB, PsK. Conditions: each theorem's own. -/
import Derived.Test.YtokiaaapgkdpmaaGreatDoorV18
namespace Go.Proofs.YtokiaaapgkdpmaaGreatDoor
set_option linter.unusedVariables false
set_option linter.unusedSimpArgs false
set_option maxRecDepth 100000
set_option maxHeartbeats 40000000
section
inductive Lv where
 | arrow | fby | or | and | cmp | sum | prod | un | post | atom | behind | brk
inductive Fr where
 | m (l:Lv)
 | sign (s:List UInt8)
 | made (x:Ex) (f:Nat)
 | right (s:List UInt8) (k:Int) (o:Lv)
 | left (ops:List (Int × List UInt8)) (side:Lv)
 | once (ops:List (Int × List UInt8)) (side:Lv)
 | list (shut:List UInt8) (ev:Bool) (x:Ex) (f:Nat)
 | more (x:Ex) (f:Nat)
def mk0(k:Int):Ex:=.mk k 0 ByteArray.empty 0 [] []
def mkOp(k op:Int):Ex:=.mk k 0 ByteArray.empty op [] []
def withSubs:Ex→List Ex→Ex
 | .mk k n s op a _,l=>.mk k n s op a l
def setN1:Ex→Ex
 | .mk k _ s op a l=>.mk k 1 s op a l
def addArm:Ex→List UInt8→Ex
 | .mk k n s op a l,b=>.mk k n s op (a++[ofB b]) l
abbrev Out:=PR (List Fr × List Ex × Nat)
def madeS(x:Ex) (f:Nat) (ps:List Ex) (sz:Nat):List Ex:=ps.take f++[if sz+1≤60 then withSubs x (ps.drop f) else x]
def madeO(x:Ex) (f:Nat) (ps:List Ex) (sz:Nat) (r:List Tk):Out:=.ok ([],madeS x f ps sz,sz+1) r
def everyO(x:Ex) (f:Nat) (ps:List Ex) (sz:Nat) (r:List Tk):Out:=
 if isP everyL r=true then .ok ([.m .post,.made (setN1 x) f],ps,sz) r.tail else .ok ([.made x f],ps,sz) r
def armO1(x:Ex) (f:Nat) (ps:List Ex) (sz:Nat) (r:List Tk):Out:=
 (armP r).bind fun a r=>(needP [45,62] r).bind fun _ r=>.ok ([.m .arrow,.sign [41],.more (addArm x a) f],ps,sz) r
def armO(x:Ex) (f:Nat) (ps:List Ex) (sz:Nat) (r:List Tk):Out:=(needP [40] r).bind fun _ r=>armO1 x f ps sz r
def thenO(ev:Bool) (x:Ex) (f:Nat) (ps:List Ex) (sz:Nat) (r:List Tk):Out:=if ev=true then everyO x f ps sz r else madeO x f ps sz r
def opsUn:List (Int × List UInt8):=[(1,[45]),(2,notL)]
def isNameP:List Tk→Bool
 | t::_=>t.k==1 && !wordB t.s
 | []=>false
def callO(s:List UInt8) (ps:List Ex) (sz:Nat) (r:List Tk):Out:=
 if isP [41] r=true then everyO (.mk 13 0 (ofB s) 0 [] []) ps.length ps sz r.tail
 else .ok ([.m .arrow,.list [41] true (.mk 13 0 (ofB s) 0 [] []) ps.length],ps,sz) r
def namedO(ps:List Ex) (sz:Nat) (r:List Tk):Out:=
 (nameP r).bind fun s r=>if isP [40] r=true then callO s ps sz r.tail else madeO (.mk 3 0 (ofB s) 0 [] []) ps.length ps sz r
def mergeO(ps:List Ex) (sz:Nat) (r:List Tk):Out:=(nameP r).bind fun s r=>armO (.mk 12 0 (ofB s) 0 [] []) ps.length ps sz r
def singleO(ps:List Ex) (sz:Nat) (r:List Tk):Out:=match plainP r with
 | some z=>madeO z.1 ps.length ps sz z.2
 | none=>.bad r
def atomO(ps:List Ex) (sz:Nat) (r:List Tk):Out:=
 if isP [40] r=true then .ok ([.m .arrow,.m .brk],ps,sz) r.tail
 else if isP [91] r=true then .ok ([.m .arrow,.list [93] false (mk0 14) ps.length],ps,sz) r.tail
 else if isP ifL r=true then .ok ([.m .arrow,.sign thenL,.m .arrow,.sign elseL,.m .arrow,.made (mk0 7) ps.length],ps,sz) r.tail
 else if isP mergeL r=true then mergeO ps sz r.tail
 else if isNameP r=true then namedO ps sz r
 else singleO ps sz r
def whenE(z:List UInt8 × List UInt8):Ex:=.mk 11 0 (ofB z.1) 0 [ofB z.2] []
def behindO(ps:List Ex) (sz:Nat) (r:List Tk):Out:=
 if isP [91] r=true then .ok ([.m .arrow,.sign [93],.made (mk0 15) (ps.length-1),.m .behind],ps,sz) r.tail
 else if isP whenL r=true then(whenP r.tail).bind fun z r=>.ok ([.made (whenE z) (ps.length-1),.m .behind],ps,sz) r
 else .ok ([],ps,sz) r
def brkO(ps:List Ex) (sz:Nat) (r:List Tk):Out:=
 if isP withL r=true then .ok ([.sign [91],.m .arrow,.sign [93],.sign [61],.m .arrow,.made (mk0 16) (ps.length-1),.sign [41]],ps,sz) r.tail
 else .ok ([.sign [41]],ps,sz) r
def unO(ps:List Ex) (sz:Nat) (r:List Tk):Out:=
 if signP opsUn r≠0 then .ok ([.m .un,.made (mkOp 5 (signP opsUn r)) ps.length],ps,sz) r.tail
 else if isP preL r=true then .ok ([.m .un,.made (mk0 10) ps.length],ps,sz) r.tail
 else .ok ([.m .post],ps,sz) r
def lvO:Lv→List Ex→Nat→List Tk→Out
 | .arrow,ps,sz,r=>.ok ([.m .fby,.right arrL 9 .arrow],ps,sz) r
 | .fby,ps,sz,r=>.ok ([.m .or,.right fbyL 8 .fby],ps,sz) r
 | .or,ps,sz,r=>.ok ([.m .and,.left opsOr .and],ps,sz) r
 | .and,ps,sz,r=>.ok ([.m .cmp,.left opsAnd .cmp],ps,sz) r
 | .cmp,ps,sz,r=>.ok ([.m .sum,.once opsCmp .sum],ps,sz) r
 | .sum,ps,sz,r=>.ok ([.m .prod,.left opsSum .prod],ps,sz) r
 | .prod,ps,sz,r=>.ok ([.m .un,.left opsProd .un],ps,sz) r
 | .un,ps,sz,r=>unO ps sz r
 | .post,ps,sz,r=>.ok ([.m .atom,.m .behind],ps,sz) r
 | .atom,ps,sz,r=>atomO ps sz r
 | .behind,ps,sz,r=>behindO ps sz r
 | .brk,ps,sz,r=>brkO ps sz r
def stepF:Fr→List Ex→Nat→List Tk→Out
 | .m l,ps,sz,r=>lvO l ps sz r
 | .sign s,ps,sz,r=>(needP s r).bind fun _ r=>.ok ([],ps,sz) r
 | .made x f,ps,sz,r=>madeO x f ps sz r
 | .right s k o,ps,sz,r=>if isP s r=true then .ok ([.m o,.made (mk0 k) (ps.length-1)],ps,sz) r.tail else .ok ([],ps,sz) r
 | .left ops side,ps,sz,r=>if signP ops r≠0 then .ok ([.m side,.made (mkOp 6 (signP ops r)) (ps.length-1),.left ops side],ps,sz) r.tail else .ok ([],ps,sz) r
 | .once ops side,ps,sz,r=>if signP ops r≠0 then .ok ([.m side,.made (mkOp 6 (signP ops r)) (ps.length-1)],ps,sz) r.tail else .ok ([],ps,sz) r
 | .list shut ev x f,ps,sz,r=>if isP [44] r=true then .ok ([.m .arrow,.list shut ev x f],ps,sz) r.tail else(needP shut r).bind fun _ r=>thenO ev x f ps sz r
 | .more x f,ps,sz,r=>if isP [40] r=true then armO x f ps sz r else madeO x f ps sz r
def Ends:Nat→List Fr→List Ex→Nat→List Tk→(PR (List Ex × Nat)→Prop)→Prop
 | 0,fs,ps,sz,r,res=>fs=[]∧res (.ok (ps,sz) r)
 | k+1,[],ps,sz,r,res=>False
 | k+1,f::fs,ps,sz,r,res=>match stepF f ps sz r with
  | .ok z r'=>Ends k (z.1++fs) z.2.1 z.2.2 r' res
  | .bad q=>res (.bad q)
def EndM(fs:List Fr) (ps:List Ex) (sz:Nat) (r:List Tk) (res:PR (List Ex × Nat)→Prop):Prop:=∃ k,Ends k fs ps sz r res
def EndO(o:Out) (fs:List Fr) (res:PR (List Ex × Nat)→Prop):Prop:=match o with
 | .ok z r=>EndM (z.1++fs) z.2.1 z.2.2 r res
 | .bad q=>res (.bad q)
theorem endM_nil{ps:List Ex}{sz:Nat}{r:List Tk}{res:PR (List Ex × Nat)→Prop}(h:res (.ok (ps,sz) r)):EndM [] ps sz r res:=⟨0,rfl,h⟩
theorem endM_step{f:Fr}{fs:List Fr}{ps:List Ex}{sz:Nat}{r:List Tk}{res:PR (List Ex × Nat)→Prop}(h:EndO (stepF f ps sz r) fs res):EndM (f::fs) ps sz r res:=by
 unfold EndO at h
 cases hs:stepF f ps sz r with
 | ok z q=>
  rw [hs] at h;obtain⟨k,hk⟩:=h;exact⟨k+1,by simp only [Ends,hs];exact hk⟩
 | bad q=>
  rw [hs] at h;exact⟨1,by simp only [Ends,hs];exact h⟩
theorem endM_next{f:Fr}{fs new:List Fr}{ps ps2:List Ex}{sz sz2:Nat}{r r2:List Tk}{res:PR (List Ex × Nat)→Prop}(hs:stepF f ps sz r=.ok (new,ps2,sz2) r2) (h:EndM (new++fs) ps2 sz2 r2 res):EndM (f::fs) ps sz r res:=
 endM_step (by rw [hs];exact h)
def RdsM(new:List Fr) (g:Psr) (m:Nat):Prop:=∀ (fs:List Fr) (ps:List Ex) (sz:Nat) (r:List Tk) (res:PR (List Ex × Nat)→Prop),EndR r→r.length≤m →
 (∀ x r1,g r=.ok x r1→EndR r1→r1.length<r.length→∀ x1 sz1,sz1=sz+sizeX x→(sz1≤60→x1=x)→EndM fs (ps++[x1]) sz1 r1 res) →
 (∀ r1,g r=.bad r1→res (.bad r1))→EndM (new++fs) ps sz r res
theorem isP_end{s:List UInt8}{r:List Tk}(h:EndR r) (hi:isP s r=true):EndR r.tail∧r.tail.length+1=r.length:=by
 obtain⟨t,r',rfl,hs,hk⟩:=isP_cons hi;exact⟨h.tail (by omega),rfl⟩
theorem need_end{s:List UInt8}{r r1:List Tk}{u:Unit}(h:EndR r) (hn:needP s r=.ok u r1):EndR r1∧r1.length+1=r.length:=by
 unfold needP at hn
 split at hn
 · rename_i hi
   injection hn with _ hn;subst hn;exact isP_end h hi
 · cases hn
theorem name_end{s:List UInt8}{r r1:List Tk}(h:EndR r) (hn:nameP r=.ok s r1):EndR r1∧r1.length+1=r.length:=by
 match r,h,hn with
 | t::r',h,hn=>
  simp only [nameP] at hn
  split at hn
  · rename_i hk
    injection hn with _ hn;subst hn;exact⟨h.tail (by omega),rfl⟩
  · cases hn
 | [],h,hn=>cases hn
theorem arm_end{s:List UInt8}{r r1:List Tk}(h:EndR r) (hn:armP r=.ok s r1):EndR r1∧r1.length+1=r.length:=by
 unfold armP at hn
 split at hn
 · rename_i hi
   injection hn with _ hn;subst hn;exact isP_end h hi
 · split at hn
   · rename_i hi
     injection hn with _ hn;subst hn;exact isP_end h hi
   · match r,h,hn with
     | t::r',h,hn=>
      simp only at hn
      split at hn
      · injection hn with _ hn;subst hn;exact⟨h.tail (by omega),rfl⟩
      · cases hn
     | [],h,hn=>cases hn
theorem bind_okP{α β:Type}{x:PR α}{f:α→List Tk→PR β}{y:β}{r:List Tk}(h:x.bind f=.ok y r):∃ a r0,x=.ok a r0∧f a r0=.ok y r:=by
 cases x with
 | ok a r0=>exact⟨a,r0,rfl,h⟩
 | bad r0=>cases h
theorem when_end{z:List UInt8 × List UInt8}{r r1:List Tk}(h:EndR r) (hn:whenP r=.ok z r1):EndR r1∧r1.length<r.length:=by
 unfold whenP at hn
 split at hn
 · rename_i hi
   obtain⟨n,r2,hn2,he⟩:=bind_okP hn;injection he with _ he;subst he;have h1:=isP_end h hi;have h2:=name_end h1.1 hn2;exact⟨h2.1,by omega⟩
 · split at hn
   · obtain⟨a,r2,ha,hn⟩:=bind_okP hn;obtain⟨u,r3,hu,hn⟩:=bind_okP hn;obtain⟨n,r4,hn2,hn⟩:=bind_okP hn;obtain⟨v,r5,hv,hn⟩:=bind_okP hn;injection hn with _ hn;subst hn;have h1:=arm_end h ha;have h2:=need_end h1.1 hu;have h3:=name_end h2.1 hn2;have h4:=need_end h3.1 hv;exact⟨h4.1,by omega⟩
   · obtain⟨n,r2,hn2,he⟩:=bind_okP hn;injection he with _ he;subst he;have h2:=name_end h hn2;exact⟨h2.1,by omega⟩
theorem plain_end{z:Ex × List Tk}{r:List Tk}(h:EndR r) (hn:plainP r=some z):EndR z.2∧z.2.length+1=r.length∧z.1.subs=[]∧sizeX z.1=1:=by
 match r,h,hn with
 | t::r',h,hn=>
  simp only [plainP] at hn
  split at hn
  · injection hn with hn;subst hn;exact⟨h.tail (by omega),rfl,rfl,rfl⟩
  · split at hn
    · injection hn with hn;subst hn;exact⟨h.tail (by omega),rfl,rfl,rfl⟩
    · split at hn
      · injection hn with hn;subst hn;exact⟨h.tail (by omega),rfl,rfl,rfl⟩
      · split at hn
        · injection hn with hn;subst hn;exact⟨h.tail (by omega),rfl,rfl,rfl⟩
        · split at hn
          · injection hn with hn;subst hn;exact⟨h.tail (by omega),rfl,rfl,rfl⟩
          · cases hn
 | [],h,hn=>cases hn
theorem sign_isP{r:List Tk}:∀ {ops:List (Int × List UInt8)},signP ops r≠0→∃ s,isP s r=true
 | [],h=>absurd rfl h
 | z::l,h=>by
  simp only [signP] at h
  split at h
  · rename_i hi;exact⟨_,hi⟩
  · exact sign_isP h
theorem sign_end{ops:List (Int × List UInt8)}{r:List Tk}(h:EndR r) (hs:signP ops r≠0):EndR r.tail∧r.tail.length+1=r.length:=by
 obtain⟨s,hi⟩:=sign_isP hs;exact isP_end h hi
theorem madeS_app(x:Ex) (ps l:List Ex) (sz:Nat):madeS x ps.length (ps++l) sz=ps++[if sz+1≤60 then withSubs x l else x]:=by
 unfold madeS;rw [List.take_left,List.drop_left]
theorem endM_made{x:Ex}{ps l:List Ex}{sz:Nat}{r:List Tk}{fs:List Fr}{res:PR (List Ex × Nat)→Prop}(h:EndM fs (ps++[if sz+1≤60 then withSubs x l else x]) (sz+1) r res):EndM (.made x ps.length::fs) (ps++l) sz r res:=
 endM_next (new:=[]) (by simp only [stepF,madeO];rw [madeS_app]) h
theorem sizes_one(x:Ex):sizesX [x]=sizeX x:=by simp [sizesX]
theorem sizes_two(x y:Ex):sizesX [x,y]=sizeX x+sizeX y:=by simp [sizesX]
theorem sizes_three(x y z:Ex):sizesX [x,y,z]=sizeX x+sizeX y+sizeX z:=by simp [sizesX];omega
theorem sizeX_mk(k n:Int) (s:ByteArray) (op:Int) (a:List ByteArray) (l:List Ex):sizeX (.mk k n s op a l)=1+sizesX l:=by simp [sizeX]
section
variable {m:Nat}
theorem reads_right{side o:Lv}{gs go:Psr}{s:List UInt8}{k:Int}(HS:RdsM [.m side] gs (m+1)) (HO:RdsM [.m o] go m):
 RdsM [.m side,.right s k o] (fun r=>(gs r).bind fun e r=>if isP s r=true then(go r.tail).bind fun y r=>.ok (Ex.mk k 0 ByteArray.empty 0 [] [e,y]) r else .ok e r) (m+1):=by
 intro fs ps sz r res hr hm hok hbad;refine HS (.right s k o::fs) ps sz r res hr hm ?_ ?_
 · intro e r1 he hr1 hlt e1 sz1 hsz hE
   by_cases hi:isP s r1=true
   · have h1:=isP_end hr1 hi;refine endM_next (new:=[.m o,.made (mk0 k) ps.length]) (ps2:=ps++[e1]) (sz2:=sz1) (r2:=r1.tail) (by simp [stepF,hi]) ?_;refine HO (.made (mk0 k) ps.length::fs) (ps++[e1]) sz1 r1.tail res h1.1 (by omega) ?_ ?_
     · intro y r2 hy hr2 hlt2 y1 sz2 hsz2 hY;rw [List.append_assoc];refine endM_made (hok (Ex.mk k 0 ByteArray.empty 0 [] [e,y]) r2 (by simp [he,hi,hy]) hr2 (by omega) _ _ (by rw [sizeX_mk,sizes_two];omega) fun h=>?_);rw [if_pos h,hE (by have:=size_pos y;omega),hY (by omega)];rfl
     · intro r2 hy;exact hbad r2 (by simp [he,hi,hy])
   · refine endM_next (new:=[]) (ps2:=ps++[e1]) (sz2:=sz1) (r2:=r1) (by simp [stepF,hi]) ?_;exact hok e r1 (by simp [he,hi]) hr1 hlt e1 sz1 hsz hE
 · intro r1 he;exact hbad r1 (by simp [he])
theorem ends_left{side:Lv}{gs:Psr}{ops:List (Int × List UInt8)}(HS:RdsM [.m side] gs m):∀ (f:Nat) (fs:List Fr) (ps:List Ex) (sz:Nat) (e e1:Ex) (r:List Tk) (res:PR (List Ex × Nat)→Prop),EndR r→r.length<f→r.length≤m →
 (sz≤60→e1=e) →
 (∀ x r1,chainP gs ops f e r=.ok x r1→EndR r1→r1.length≤r.length→∀ x1 sz1,sz1+sizeX e=sz+sizeX x→sz≤sz1→(sz1≤60→x1=x)→EndM fs (ps++[x1]) sz1 r1 res) →
 (∀ r1,chainP gs ops f e r=.bad r1→res (.bad r1))→EndM (.left ops side::fs) (ps++[e1]) sz r res
 | 0,fs,ps,sz,e,e1,r,res,hr,hf,hm,hE,hok,hbad=>absurd hf (by omega)
 | f+1,fs,ps,sz,e,e1,r,res,hr,hf,hm,hE,hok,hbad=>by
  by_cases hi:signP ops r=0
  · refine endM_next (new:=[]) (ps2:=ps++[e1]) (sz2:=sz) (r2:=r) (by simp [stepF,hi]) ?_;exact hok e r (by simp [chainP,hi]) hr (Nat.le_refl _) e1 sz rfl (Nat.le_refl _) hE
  · have h1:=sign_end hr hi;refine endM_next (new:=[.m side,.made (mkOp 6 (signP ops r)) ps.length,.left ops side]) (ps2:=ps++[e1]) (sz2:=sz) (r2:=r.tail) (by simp [stepF,hi]) ?_;refine HS (.made (mkOp 6 (signP ops r)) ps.length::.left ops side::fs) (ps++[e1]) sz r.tail res h1.1 (by omega) ?_ ?_
    · intro y r2 hy hr2 hlt2 y1 sz2 hsz2 hY;rw [List.append_assoc];refine endM_made ?_;refine ends_left HS f fs ps (sz2+1) (binX (signP ops r) e y) _ r2 res hr2 (by omega) (by omega) (fun h=>?_) ?_ ?_
      · rw [if_pos h,hE (by omega),hY (by omega)];rfl
      · intro x r3 hx hr3 hle x1 sz3 hsz3 hs hX;refine hok x r3 (by simp [chainP,hi,hy,hx]) hr3 (by omega) x1 sz3 ?_ (by omega) hX;unfold binX at hsz3;rw [sizeX_mk,sizes_two] at hsz3;omega
      · intro r3 hx;exact hbad r3 (by simp [chainP,hi,hy,hx])
    · intro r2 hy;exact hbad r2 (by simp [chainP,hi,hy])
theorem reads_left{side:Lv}{gs:Psr}{ops:List (Int × List UInt8)}(HS:RdsM [.m side] gs m):
 RdsM [.m side,.left ops side] (fun r=>(gs r).bind fun e r=>chainP gs ops (r.length+1) e r) m:=by
 intro fs ps sz r res hr hm hok hbad;refine HS (.left ops side::fs) ps sz r res hr hm ?_ ?_
 · intro e r1 he hr1 hlt e1 sz1 hsz hE;refine ends_left HS (r1.length+1) fs ps sz1 e e1 r1 res hr1 (by omega) (by omega) hE ?_ ?_
   · intro x r2 hx hr2 hle x1 sz2 hsz2 hs hX;exact hok x r2 (by simp [he,hx]) hr2 (by omega) x1 sz2 (by omega) hX
   · intro r2 hx;exact hbad r2 (by simp [he,hx])
 · intro r1 he;exact hbad r1 (by simp [he])
theorem reads_once{side:Lv}{gs:Psr}{ops:List (Int × List UInt8)}(HS:RdsM [.m side] gs m):
 RdsM [.m side,.once ops side] (fun r=>(gs r).bind fun e r=>chainP gs ops 1 e r) m:=by
 intro fs ps sz r res hr hm hok hbad;refine HS (.once ops side::fs) ps sz r res hr hm ?_ ?_
 · intro e r1 he hr1 hlt e1 sz1 hsz hE
   by_cases hi:signP ops r1=0
   · refine endM_next (new:=[]) (ps2:=ps++[e1]) (sz2:=sz1) (r2:=r1) (by simp [stepF,hi]) ?_;exact hok e r1 (by simp [he,chainP,hi]) hr1 (by omega) e1 sz1 hsz hE
   · have h1:=sign_end hr1 hi;refine endM_next (new:=[.m side,.made (mkOp 6 (signP ops r1)) ps.length]) (ps2:=ps++[e1]) (sz2:=sz1) (r2:=r1.tail) (by simp [stepF,hi]) ?_;refine HS (.made (mkOp 6 (signP ops r1)) ps.length::fs) (ps++[e1]) sz1 r1.tail res h1.1 (by omega) ?_ ?_
     · intro y r2 hy hr2 hlt2 y1 sz2 hsz2 hY;rw [List.append_assoc];refine endM_made (hok (binX (signP ops r1) e y) r2 (by simp [he,chainP,hi,hy]) hr2 (by omega) _ _ (by unfold binX;rw [sizeX_mk,sizes_two];omega) fun h=>?_);rw [if_pos h,hE (by have:=size_pos y;omega),hY (by omega)];rfl
     · intro r2 hy;exact hbad r2 (by simp [he,chainP,hi,hy])
 · intro r1 he;exact hbad r1 (by simp [he])
end
end
section
open Go.RowKit Go.Sort
def TkOK(t:Tk):Prop:=(t.k=5→t.s∈marksL)∧(t.k=1→t.s∉marksL)
theorem marks_noword:∀ m∈marksL,wordB m=false:=by decide
theorem isP_word{s:List UInt8}{t:Tk}{r:List Tk}(h:TkOK t) (hs:wordB s=true):isP s (t::r)=(t.k==1 && (t.s==s)):=by
 simp only [isP]
 by_cases h5:t.k=5
 · have hm:=h.1 h5
   by_cases he:t.s=s
   · rw [he] at hm;rw [marks_noword s hm] at hs
     cases hs
   · rw [beq_eq_false_iff_ne.2 he,Bool.false_and,Bool.and_false]
 · have h5':(t.k==5)=false:=by simpa using h5
   rw [h5',Bool.or_false,Bool.and_comm]
theorem isP_mark{s:List UInt8}{t:Tk}{r:List Tk}(h:TkOK t) (hs:s∈marksL):isP s (t::r)=(t.k==5 && (t.s==s)):=by
 simp only [isP]
 by_cases h1:t.k=1
 · have hm:=h.2 h1
   by_cases he:t.s=s
   · rw [he] at hm;exact absurd hs hm
   · rw [beq_eq_false_iff_ne.2 he,Bool.false_and,Bool.and_false]
 · have h1':(t.k==1)=false:=by simpa using h1
   rw [h1',Bool.false_or,Bool.and_comm]
def Ask(s:List UInt8):Prop:=wordB s=true∨s∈marksL
theorem Ask.kind{s:List UInt8}(h:Ask s):∃ k:Int,(k=1∧wordB s=true∨k=5∧wordB s=false)∧∀ t r,TkOK t→isP s (t::r)=(t.k==k && (t.s==s)):=by
 by_cases hw:wordB s=true
 · exact⟨1,.inl ⟨rfl,hw⟩,fun t r ht=>isP_word ht hw⟩
 · have hw':wordB s=false:=by simpa using hw
   exact⟨5,.inr ⟨rfl,hw'⟩,fun t r ht=>isP_mark ht (h.resolve_left hw)⟩
def rdA(v:Value) (i:Int) (va vp:Value) (sz:Nat):Array Value:=#[v,.int .i64 i,va,vp,.int .i64 (sz:Int)]
structure QSt (w:World) (b:Nat) (A:Option Addr) (n c:Nat) (all r:List Tk) (va vp:Value) (sz:Nat):Prop where
 row:w.heap[b]?=some (.cells (rdA (.slice A n c) ((n-r.length:Nat):Int) va vp sz) 60)
 rd:RdK (bl b w) A n all
 len:r.length≤n
 pre:all.drop (n-r.length)=r
 fin:EndR r
 tks:∀ t∈all,TkOK t
section
variable {w w':World}{b:Nat}{A:Option Addr}{n c:Nat}{all r:List Tk}{va vp:Value}{sz:Nat}
theorem QSt.lt(h:QSt w b A n c all r va vp sz):b<w.heap.size:=(Array.getElem?_eq_some_iff.1 h.row).1
theorem QSt.cell(h:QSt w b A n c all r va vp sz) (j:Nat):w.cell? ⟨b,j,none⟩=(rdA (.slice A n c) ((n-r.length:Nat):Int) va vp sz)[j]?:=by
 unfold World.cell?;rw [h.row];rfl
theorem QSt.fz(h:QSt w b A n c all r va vp sz) (j:Nat):w.frozen? ⟨b,j,none⟩=false:=by
 unfold World.frozen?;rw [h.row]
 simp
theorem QSt.max(h:QSt w b A n c all r va vp sz):n≤9223372036854775807:=h.rd.2.1
theorem QSt.pos(h:QSt w b A n c all r va vp sz):1≤r.length:=by
 obtain⟨t,r',e⟩:=h.fin.cons_;rw [e];simp
theorem QSt.below(h:QSt w b A n c all r va vp sz) (hb:Below w.heap.size w w'):QSt w' b A n c all r va vp sz:=
 ⟨(hb.block b h.lt).trans h.row,h.rd.below (by rw [bl_size];exact bl_of hb),h.len,h.pre,h.fin,h.tks⟩
theorem QSt.tok(h:QSt w b A n c all r va vp sz):∃ t r' b0 off,r=t::r'∧A=some ⟨b0,off,none⟩∧b0≠b∧b0<w.heap.size∧n-r.length<n∧all[n-r.length]?=some t ∧
 w.cell? ⟨b0,off+(n-r.length)*4,none⟩=some (.int .i64 t.k)∧w.cell? ⟨b0,off+(n-r.length)*4+1,none⟩=some (.string (ofL t.s)) ∧
 w.cell? ⟨b0,off+(n-r.length)*4+2,none⟩=some (.int .i64 t.n)∧w.cell? ⟨b0,off+(n-r.length)*4+3,none⟩=some (.int .i64 (t.a:Int)):=by
 obtain⟨t,r',e⟩:=h.fin.cons_;have hp:=h.pos;have hl:=h.len;obtain⟨b0,off,rfl,hb0,hc⟩:=h.rd.2.2 (by omega);have hi:n-r.length<n:=by omega
 obtain⟨c0,c1,c2,c3⟩:=hc (n-r.length) hi
 have hat:all[n-r.length]?=some t:=by
  have:=h.pre;rw [e] at this ⊢;have h2:=congrArg (fun l=>l[0]?) this
  simpa using h2
 rw [hat,Option.getD_some] at c0 c1 c2 c3;refine⟨t,r',b0,off,e,rfl,?_,by rwa [bl_size] at hb0,hi,hat,bl_some c0,bl_some c1,bl_some c2,bl_some c3⟩;rintro rfl;unfold World.cell? at c0;rw [bl_at (k:=0)] at c0;simp only at c0
 split at c0
 · rename_i cc x y e2
   split at e2
   · injection e2 with e2;injection e2 with e3;subst e3
     simp at c0
   · cases e2
 · cases c0
theorem QSt.next{t:Tk}{r':List Tk}(h:QSt w b A n c all (t::r') va vp sz) (ht:t.k≠6):QSt (w.setCell ⟨b,1,none⟩ (.int .i64 ((n-r'.length:Nat):Int))) b A n c all r' va vp sz:=by
 have hl:=h.len;simp only [List.length_cons] at hl;refine⟨?_,by rw [bl_set];exact h.rd,by omega,?_,h.fin.tail ht,h.tks⟩
 · rw [setCell_eq_setRow _ _ _ _ _ _ _ h.row,setRow_heap _ _ _ _ _ _ h.row];rfl
 · have h1:=h.pre;simp only [List.length_cons] at h1;rw [show n-r'.length=(n-(r'.length+1))+1 by omega,← List.drop_drop,h1];rfl
theorem QSt.drew(h:QSt w b A n c all r va vp sz):QSt w.drew b A n c all r va vp sz:=h.below (below_drewN (Below.refl _ _) 1)
theorem QSt.alloc(h:QSt w b A n c all r va vp sz) (o:Obj):QSt (w.alloc o) b A n c all r va vp sz:=h.below ((Below.refl _ _).alloc (Nat.le_refl _) o)
theorem QSt.setRow(h:QSt w b A n c all r va vp sz){g:Nat}(hg:g≠b) (hA:∀ b0 off,A=some ⟨b0,off,none⟩→b0≠g) (cs:Array Value):QSt (w.setRow g cs) b A n c all r va vp sz:=by
 refine⟨(setRow_other _ _ _ _ (Ne.symm hg)).trans h.row,?_,h.len,h.pre,h.fin,h.tks⟩;obtain⟨h1,h2,h3⟩:=h.rd;refine⟨h1,h2,fun hn=>?_⟩;obtain⟨b0,off,e,hlt,hc⟩:=h3 hn;refine⟨b0,off,e,by rw [bl_size,setRow_size];rwa [bl_size] at hlt,fun i hi=>?_⟩
 have hx:∀ p:Addr,p.block=b0→(bl b (w.setRow g cs)).cell? p=(bl b w).cell? p:=fun p hp=>by
  rw [bl_setRow hg,cell_setRow_other _ _ _ _ (by rw [hp];exact hA b0 off e)]
 obtain⟨c0,c1,c2,c3⟩:=hc i hi;exact⟨(hx _ rfl).trans c0,(hx _ rfl).trans c1,(hx _ rfl).trans c2,(hx _ rfl).trans c3⟩
structure TokQ (w:World) (b:Nat) (A:Option Addr) (n c:Nat) (all:List Tk) (t:Tk) (r':List Tk) (va vp:Value) (sz:Nat) (b0 off i:Nat) (j:Int):Prop where
 a:A=some ⟨b0,off,none⟩
 ok:TkOK t
 q0:w.cell? ⟨b,0,none⟩=some (.slice A n c)
 q1:w.cell? ⟨b,1,none⟩=some (.int .i64 (i:Int))
 lb:b<w.heap.size
 l0:b0<w.heap.size
 ne:b0≠b
 lt:i<n
 mx:n≤9223372036854775807
 t0:w.cell? ⟨b0,off+i*4,none⟩=some (.int .i64 t.k)
 t1:w.cell? ⟨b0,off+i*4+1,none⟩=some (.string (ofB t.s))
 t2:w.cell? ⟨b0,off+i*4+2,none⟩=some (.int .i64 t.n)
 t3:w.cell? ⟨b0,off+i*4+3,none⟩=some (.int .i64 (t.a:Int))
 add:(i:Int)+1=j
 je:((n-r'.length:Nat):Int)=j
 jn:0≤j∧j≤9223372036854775807
 p1:∀ w1,Below w.heap.size w w1→w1.cell? ⟨b,1,none⟩=some (.int .i64 (i:Int))
 fz:∀ w1,Below w.heap.size w w1→∀ j,w1.frozen? ⟨b,j,none⟩=false
 st:∀ w1,Below w.heap.size w w1→QSt w1 b A n c all (t::r') va vp sz
 nx:∀ w1,Below w.heap.size w w1→t.k≠6→QSt (w1.setCell ⟨b,1,none⟩ (.int .i64 j)) b A n c all r' va vp sz
theorem QSt.tokQ(h:QSt w b A n c all r va vp sz):∃ t r' b0 off i j,r=t::r'∧TokQ w b A n c all t r' va vp sz b0 off i j:=by
 obtain⟨t,r',b0,off,e,ha,hne,hb0,hi,hat,t0,t1,t2,t3⟩:=h.tok;have hl:=h.len;have hm:=h.max;subst e;simp only [List.length_cons] at hl;refine⟨t,r',b0,off,n-(t::r').length,((n-r'.length:Nat):Int),rfl,ha,h.tks t (List.mem_of_getElem? hat),h.cell 0,h.cell 1,h.lt,hb0,hne,hi,hm,t0,t1,t2,t3,?_,rfl,by omega,fun w1 h1=>(h.below h1).cell 1,fun w1 h1 j=>(h.below h1).fz j,fun w1 h1=>h.below h1,fun w1 h1 h2=>(h.below h1).next h2⟩;simp only [List.length_cons];omega
theorem beq_ofB(l:List UInt8) (s:ByteArray):((ofB l).toList==s.toList)=(l==s.data.toList):=by
 rw [Lib.toList_data,Lib.toList_data];rfl
theorem rrIs(s:ByteArray) (hs:Ask s.data.toList) (h:QSt w b A n c all r va vp sz):
 Calls Tryz.prog 95 #[.pointer (some ⟨b,0,none⟩),.string s] w fun e w'=>e=.returned (.bool (isP s.data.toList r))∧Below w.heap.size w w':=by
 obtain⟨t,r',b0,off,i,j,rfl,HTF⟩:=h.tokQ;obtain⟨kk,hkk,hip⟩:=hs.kind;have HI:=Hd (hip t r' HTF.ok);have HB:=Hd (beq_ofB t.s s);have HW:=Hd (idWord s);obtain rfl:=HTF.a;have q0:=HTF.q0;have q1:=HTF.q1;have hbl:=HTF.lb;have hb0:=HTF.l0;have hmx:=HTF.mx;have hi:=HTF.lt;have t0:=HTF.t0;have t1:=HTF.t1;have t2:=HTF.t2;have t3:=HTF.t3;have hi0:(0:Int)≤(i:Int):=by omega
 have hi1:(i:Int)<(n:Int):=by omega
 clear h HTF hip hs;rw [HI.out];have HB2:=Hd (HB.out.symm);rw [HB2.out];clear HI HB HB2;generalize wordB s.data.toList=wb at *;generalize ofB t.s=ts at *;generalize t.k=k at *;generalize t.n=tn at *;generalize t.a=ta at *
 cases hsb:(ts.toList==s.toList) with
 | false=>
  rcases hkk with⟨rfl,rfl⟩|⟨rfl,rfl⟩
  · cases h1:(k==1) with
    | true=>
     go_enter Tryz.func95,Tryz.ntmps95
     go_wp2_with fail
     refine(HW.out w).mono ?_;rintro e w1 ⟨rfl,rfl⟩
     go_upto_region 4 with(fail)
     go_region
     go_wp2_with fail
     go_ret
     exact⟨rfl,((Below.refl _ _).alloc (Nat.le_refl _) _).drew⟩
    | false=>
     go_enter Tryz.func95,Tryz.ntmps95
     go_wp2_with fail
     refine(HW.out w).mono ?_;rintro e w1 ⟨rfl,rfl⟩
     go_upto_region 4 with(fail)
     go_region
     go_wp2_with fail
     go_ret
     exact⟨rfl,((Below.refl _ _).alloc (Nat.le_refl _) _).drew⟩
  · cases h1:(k==5) with
    | true=>
     go_enter Tryz.func95,Tryz.ntmps95
     go_wp2_with fail
     refine(HW.out w).mono ?_;rintro e w1 ⟨rfl,rfl⟩
     go_upto_region 4 with(fail)
     go_region
     go_wp2_with fail
     go_ret
     exact⟨rfl,((Below.refl _ _).alloc (Nat.le_refl _) _).drew⟩
    | false=>
     go_enter Tryz.func95,Tryz.ntmps95
     go_wp2_with fail
     refine(HW.out w).mono ?_;rintro e w1 ⟨rfl,rfl⟩
     go_upto_region 4 with(fail)
     go_region
     go_wp2_with fail
     go_ret
     exact⟨rfl,((Below.refl _ _).alloc (Nat.le_refl _) _).drew⟩
 | true=>
  rcases hkk with⟨rfl,rfl⟩|⟨rfl,rfl⟩
  · cases h1:(k==1) with
    | true=>
     go_enter Tryz.func95,Tryz.ntmps95
     go_wp2_with fail
     refine(HW.out w).mono ?_;rintro e w1 ⟨rfl,rfl⟩
     go_upto_region 4 with(fail)
     go_region
     go_wp2_with fail
     go_ret
     exact⟨rfl,((Below.refl _ _).alloc (Nat.le_refl _) _).drew⟩
    | false=>
     go_enter Tryz.func95,Tryz.ntmps95
     go_wp2_with fail
     refine(HW.out w).mono ?_;rintro e w1 ⟨rfl,rfl⟩
     go_upto_region 4 with(fail)
     go_region
     go_wp2_with fail
     go_ret
     exact⟨rfl,((Below.refl _ _).alloc (Nat.le_refl _) _).drew⟩
  · cases h1:(k==5) with
    | true=>
     go_enter Tryz.func95,Tryz.ntmps95
     go_wp2_with fail
     refine(HW.out w).mono ?_;rintro e w1 ⟨rfl,rfl⟩
     go_upto_region 4 with(fail)
     go_region
     go_wp2_with fail
     go_ret
     exact⟨rfl,((Below.refl _ _).alloc (Nat.le_refl _) _).drew⟩
    | false=>
     go_enter Tryz.func95,Tryz.ntmps95
     go_wp2_with fail
     refine(HW.out w).mono ?_;rintro e w1 ⟨rfl,rfl⟩
     go_upto_region 4 with(fail)
     go_region
     go_wp2_with fail
     go_ret
     exact⟨rfl,((Below.refl _ _).alloc (Nat.le_refl _) _).drew⟩
abbrev Pan:Ending:=.panicked [{ v:=.iface 27 (.int .i64 2),recovered:=false }]
theorem rrStop(p:Value) (w:World):Calls Tryz.prog 98 #[p] w fun e w'=>e=Pan∧w=w':=by
 go_enter Tryz.func98,Tryz.ntmps98
 go_wp2
 exact⟨rfl,rfl,rfl⟩
def QPost{α:Type}(w:World) (b:Nat) (A:Option Addr) (n c:Nat) (all:List Tk) (va vp:Value) (sz:Nat) (g:PR α) (V:α→Ending→Prop) (e:Ending) (w':World):Prop:=
 Below w.heap.size (bl b w) (bl b w')∧match g with
  | .ok a r=>QSt w' b A n c all r va vp sz∧V a e
  | .bad r=>QSt w' b A n c all r va vp sz∧e=Pan
theorem QPost.ok_{v:World}{P:Program}{F:Nat}{args:Array Value}{α:Type}{g:PR α}{V:α→Ending→Prop}{a:α}{r:List Tk}(h:Calls P F args v (QPost w b A n c all va vp sz g V)) (e:g=.ok a r):
 Calls P F args v fun e w'=>V a e∧QSt w' b A n c all r va vp sz∧Below w.heap.size (bl b w) (bl b w'):=by
 subst e;exact h.mono fun e w' h=>⟨h.2.2,h.2.1,h.1⟩
theorem QPost.bad_{v:World}{P:Program}{F:Nat}{args:Array Value}{α:Type}{g:PR α}{V:α→Ending→Prop}{r:List Tk}(h:Calls P F args v (QPost w b A n c all va vp sz g V)) (e:g=.bad r):
 Calls P F args v fun e w'=>e=Pan∧QSt w' b A n c all r va vp sz∧Below w.heap.size (bl b w) (bl b w'):=by
 subst e;exact h.mono fun e w' h=>⟨h.2.2,h.2.1,h.1⟩
theorem res_tk{fn:Func}{p:Tmp}(h:fn.results=#[.cell p 41]) (tmps:Array Value) (w:World) (g:Nat) (t:Tk)
 (hp:tmps.getD p undef=.pointer (some ⟨g,0,none⟩)) (hg:Row4 41 w g t):(results fn tmps).run Tryz.prog w=.ok (tkV t) w:=
 results_cell_row h tmps w g _ _ _ _ hp hg Tryz.underlying41 rfl tk_info
def tokQT(t:Tk):Value:=.agg #[.int .i64 t.k,.string (ofB t.s),.int .i64 t.n,.int .i64 (t.a:Int)]
theorem rrToken{t:Tk}{r':List Tk}(h:QSt w b A n c all (t::r') va vp sz) (hk:t.k≠6):
 Calls Tryz.prog 96 #[.pointer (some ⟨b,0,none⟩)] w fun e w'=>e=.returned (tokQT t)∧QSt w' b A n c all r' va vp sz∧Below w.heap.size (bl b w) (bl b w'):=by
 obtain⟨t1,r1,b0,off,i,j,hE,HTF⟩:=h.tokQ;injection hE with hE1 hE2;subst hE1 hE2;have HT:=Hd HTF;obtain rfl:=HTF.a;have q0:=HTF.q0;have q1:=HTF.q1;have hbl:=HTF.lb;have hb0:=HTF.l0;have hmx:=HTF.mx;have hi:=HTF.lt;have t0:=HTF.t0;have t1:=HTF.t1;have t2:=HTF.t2;have t3:=HTF.t3;have hadd:=HTF.add;have hi0:(0:Int)≤(i:Int):=by omega
 have hi1:(i:Int)<(n:Int):=by omega
 have hw:IntKind.i64.wrap ((i:Int)+1)=j:=by rw [hadd,IntKind.wrap_i64];have:=HTF.jn;omega
 have hw2:IntKind.i64.wrap (j-1)=i:=by rw [← hadd,IntKind.wrap_i64];omega
 have hne:=HTF.ne;have f1:=HTF.fz w (Below.refl _ _) 1;clear h HTF
 go_enter Tryz.func96,Tryz.ntmps96
 go_upto_region 2 with(fail)
 generalize hw1:(w.setCell _ _).alloc _=w1;have hs1:(w.setCell ⟨b,1,none⟩ (.int .i64 j)).heap.size=w.heap.size:=by simp
 have HR0:=Hd (show Row4 41 w1 w.heap.size tk0 by
  have h2:=Row4.new 41 (w.setCell ⟨b,1,none⟩ (.int .i64 j)) tk0;rw [hs1] at h2;rw [← hw1];exact h2)
 have HN:=Hd (HT.out.nx w (Below.refl _ _) hk)
 have HB1:=Hd (show Below (w.setCell ⟨b,1,none⟩ (.int .i64 j)).heap.size (w.setCell ⟨b,1,none⟩ (.int .i64 j)) w1 by
  rw [← hw1];exact(Below.refl _ _).alloc (Nat.le_refl _) _)
 have HQ1:=Hd (HN.out.below HB1.out)
 have KB:=Hd (show Below w.heap.size (bl b w) (bl b w1) by
  have h2:=bl_of (b:=b) HB1.out;rw [hs1,bl_set] at h2;exact h2)
 have hkeep:∀ o,w1.cell? ⟨b0,o,none⟩=w.cell? ⟨b0,o,none⟩:=fun o=>by
  have h2:=HB1.out.block b0 (by rw [hs1];exact hb0);unfold World.cell?;rw [h2,heap_setCell_other _ _ _ _ (show b0≠b from hne)]
 have t0:=(hkeep _).trans t0;have t1:=(hkeep _).trans t1;have t2:=(hkeep _).trans t2;have t3:=(hkeep _).trans t3;have q0:w1.cell? ⟨b,0,none⟩=some (.slice (some ⟨b0,off,none⟩) n c):=HQ1.out.cell 0
 have q1:w1.cell? ⟨b,1,none⟩=some (.int .i64 j):=by
  rw [HQ1.out.cell 1,← HT.out.je];rfl
 have r0:=HR0.out.c0;have r1:=HR0.out.c1;have r2:=HR0.out.c2;have r3:=HR0.out.c3;have fz:∀ j,w1.frozen? ⟨w.heap.size,j,none⟩=false:=HR0.out.thaw;have f0:=fz 0;have f1:=fz 1;have f2:=fz 2;have f3:=fz 3;have hn1:b0≠w.heap.size:=by omega
 have hn2:w.heap.size≠b0:=by omega
 clear fz hkeep hw1 hk
 go_region
 rw [show ofB t.s=ofL t.s from rfl,four_set HR0.out t];have hgb:w.heap.size≠b:=by omega
 have HR2:=Hd (show Row4 41 (w1.setRow w.heap.size (tkA t)).drew w.heap.size t from HR0.out.set t);have HQ2:=Hd (show QSt (w1.setRow w.heap.size (tkA t)).drew b (some ⟨b0,off,none⟩) n c all r' va vp sz from(HQ1.out.setRow hgb (fun b1 o1 e=>by injection e with e;injection e with e1 _;omega) _).drew);have KB2:=Hd (show Below w.heap.size (bl b w) (bl b (w1.setRow w.heap.size (tkA t)).drew) from kb_drew (kb_setRow KB.out hgb (Nat.le_refl _) _));generalize (w1.setRow w.heap.size (tkA t)).drew=w2 at *
 go_wp2_with fail
 exact bodyPost_ret (res_tk (p:=2) rfl _ _ w.heap.size t rfl HR2.out) rfl ⟨rfl,HQ2.out,KB2.out⟩
end
end
section
open Go.RowKit Go.Sort
section
variable {w w':World}{b:Nat}{A:Option Addr}{n c:Nat}{all r:List Tk}{va vp:Value}{sz:Nat}
theorem rrTook_yes(s:ByteArray) (hs:Ask s.data.toList) (h:QSt w b A n c all r va vp sz) (hi:isP s.data.toList r=true):
 Calls Tryz.prog 55 #[.pointer (some ⟨b,0,none⟩),.string s] w fun e w'=>e=.returned (.bool true)∧QSt w' b A n c all r.tail va vp sz∧Below w.heap.size (bl b w) (bl b w'):=by
 have HI:=Hd (rrIs s hs h);rw [hi] at HI;obtain⟨t,r',rfl,hts,hk⟩:=isP_cons hi;have HT:=Hd fun w1 (h1:Below w.heap.size w w1)=>rrToken (h.below h1) (show t.k≠6 by omega);clear h hi hts hk
 show Calls _ _ _ _ fun e w'=>e=.returned (.bool true)∧QSt w' b A n c all r' va vp sz∧Below w.heap.size (bl b w) (bl b w')
 go_enter Tryz.func55,Tryz.ntmps55
 go_wp2_with fail
 refine HI.out.mono ?_;rintro e w1 ⟨rfl,hb1⟩;have HB1:=Hd hb1;clear hb1
 go_wp2_with fail
 refine(HT.out w1 HB1.out).mono ?_;rintro e w2 ⟨rfl,hq2,hb2⟩;have HQ2:=Hd hq2;have HB2:=Hd (kb_trans (bl_of HB1.out) hb2);clear hq2 hb2
 go_wp2_with fail
 go_ret
 exact⟨rfl,HQ2.out,HB2.out⟩
theorem rrTook_no(s:ByteArray) (hs:Ask s.data.toList) (h:QSt w b A n c all r va vp sz) (hi:isP s.data.toList r=false):
 Calls Tryz.prog 55 #[.pointer (some ⟨b,0,none⟩),.string s] w fun e w'=>e=.returned (.bool false)∧QSt w' b A n c all r va vp sz∧Below w.heap.size (bl b w) (bl b w'):=by
 have HI:=Hd (rrIs s hs h);rw [hi] at HI;have HQ:=Hd fun w1 (h1:Below w.heap.size w w1)=>h.below h1;clear h hi
 go_enter Tryz.func55,Tryz.ntmps55
 go_wp2_with fail
 refine HI.out.mono ?_;rintro e w1 ⟨rfl,hb1⟩;have HB1:=Hd hb1;clear hb1
 go_wp2_with fail
 go_ret
 exact⟨rfl,HQ.out w1 HB1.out,bl_of HB1.out⟩
theorem rrTake(s:ByteArray) (hs:Ask s.data.toList) (h:QSt w b A n c all r va vp sz):
 Calls Tryz.prog 59 #[.pointer (some ⟨b,0,none⟩),.string s] w (QPost w b A n c all va vp sz (needP s.data.toList r) fun _ e=>e=.returned (.tuple #[])):=by
 cases hi:isP s.data.toList r with
 | true=>
  have HT:=Hd (rrTook_yes s hs h hi);rw [show needP s.data.toList r=.ok () r.tail by simp [needP,hi]];clear h hi
  go_enter Tryz.func59,Tryz.ntmps59
  go_wp2_with fail
  refine HT.out.mono ?_;rintro e w1 ⟨rfl,hq1,hb1⟩;have HQ1:=Hd hq1;have HB1:=Hd hb1;clear hq1 hb1
  go_wp2_with fail
  go_end0
  exact⟨HB1.out,HQ1.out,rfl⟩
 | false=>
  have HT:=Hd (rrTook_no s hs h hi);rw [show needP s.data.toList r=.bad r by simp [needP,hi]];clear h hi
  go_enter Tryz.func59,Tryz.ntmps59
  go_wp2_with fail
  refine HT.out.mono ?_;rintro e w1 ⟨rfl,hq1,hb1⟩;have HQ1:=Hd hq1;have HB1:=Hd hb1;clear hq1 hb1
  go_wp2_with fail
  refine(rrStop _ _).mono ?_;rintro e w2 ⟨rfl,rfl⟩
  go_wp2_with fail
  exact⟨rfl,HB1.out,HQ1.out,rfl⟩
theorem rrIsName(h:QSt w b A n c all r va vp sz):
 Calls Tryz.prog 97 #[.pointer (some ⟨b,0,none⟩)] w fun e w'=>e=.returned (.bool (isNameP r))∧Below w.heap.size w w':=by
 obtain⟨t,r',b0,off,i,j,rfl,HTF⟩:=h.tokQ;have HW:=Hd (show ∀ w1,Calls Tryz.prog 110 #[.string (ofB t.s)] w1 fun e w'=>e=.returned (.bool (wordB t.s))∧w1=w' from idWord (ofL t.s));have HI:=Hd (show isNameP (t::r')=(t.k==1 && !wordB t.s) from rfl);obtain rfl:=HTF.a;have q0:=HTF.q0;have q1:=HTF.q1;have hbl:=HTF.lb;have hb0:=HTF.l0;have hmx:=HTF.mx;have hi:=HTF.lt;have t0:=HTF.t0;have t1:=HTF.t1;have t2:=HTF.t2;have t3:=HTF.t3;have hi0:(0:Int)≤(i:Int):=by omega
 have hi1:(i:Int)<(n:Int):=by omega
 clear h HTF;rw [HI.out];clear HI;generalize wordB t.s=wb at *;generalize ofB t.s=ts at *;generalize t.k=k at *;generalize t.n=tn at *;generalize t.a=ta at *
 cases h1:(k==1) with
 | false=>
  clear HW
  go_enter Tryz.func97,Tryz.ntmps97
  go_upto_region 1 with(fail)
  go_region
  go_wp2_with fail
  go_ret
  exact⟨rfl,((Below.refl _ _).alloc (Nat.le_refl _) _).drew⟩
 | true=>
  go_enter Tryz.func97,Tryz.ntmps97
  go_upto_region 1 with(fail)
  go_region
  go_wp2_with fail
  refine(HW.out _).mono ?_;rintro e w1 ⟨rfl,rfl⟩
  go_wp2_with fail
  go_ret
  exact⟨rfl,((Below.refl _ _).alloc (Nat.le_refl _) _).drew⟩
theorem field_s(k s n a:Value) (w:World):(Instr.field 41 (.agg #[k,s,n,a]) 1).run Tryz.prog w=.ok s w:=by
 have hu:=Tryz.underlying41
 simp [Instr.field,go_sem,hu,asAgg]
theorem rrName(h:QSt w b A n c all r va vp sz):
 Calls Tryz.prog 56 #[.pointer (some ⟨b,0,none⟩)] w (QPost w b A n c all va vp sz (nameP r) fun s e=>e=.returned (.string (ofB s))):=by
 have HN:=Hd (rrIsName h);obtain⟨t,r',e⟩:=h.fin.cons_;subst e;have HQ:=Hd fun w1 (h1:Below w.heap.size w w1)=>h.below h1;have HI:=Hd (show isNameP (t::r')=(t.k==1 && !wordB t.s) from rfl);have HG:=Hd (show nameP (t::r')=if t.k=1∧wordB t.s=false then .ok t.s r' else .bad (t::r') from rfl);clear h
 cases hi:isNameP (t::r') with
 | false=>
  rw [hi] at HN HI
  have HE:=Hd (show nameP (t::r')=.bad (t::r') by
   rw [HG.out,if_neg];rintro ⟨h1,h2⟩;have:=HI.out
   simp [h1,h2] at this)
  rw [HE.out];clear HE HG HI hi
  go_enter Tryz.func56,Tryz.ntmps56
  go_wp2_with fail
  refine HN.out.mono ?_;rintro e w1 ⟨rfl,hb1⟩;have HB1:=Hd hb1;clear hb1
  go_wp2_with fail
  refine(rrStop _ _).mono ?_;rintro e w2 ⟨rfl,rfl⟩
  go_wp2_with fail
  exact⟨rfl,bl_of HB1.out,HQ.out _ HB1.out,rfl⟩
 | true=>
  rw [hi] at HN HI
  have hk:t.k=1∧wordB t.s=false:=by
   have:=HI.out.symm
   simpa using this
  have HE:=Hd (show nameP (t::r')=.ok t.s r' by rw [HG.out,if_pos hk]);have HT:=Hd fun w1 (h1:Below w.heap.size w w1)=>rrToken (HQ.out w1 h1) (show t.k≠6 by omega);rw [HE.out];clear HE HG HI hi hk;unfold tokQT at HT;have hfs:=field_s
  go_enter Tryz.func56,Tryz.ntmps56
  go_wp2_with fail
  refine HN.out.mono ?_;rintro e w1 ⟨rfl,hb1⟩;have HB1:=Hd hb1;clear hb1
  go_wp2_with fail
  refine(HT.out w1 HB1.out).mono ?_;rintro e w2 ⟨rfl,hq2,hb2⟩;have HQ2:=Hd hq2;have HB2:=Hd (kb_trans (bl_of HB1.out) hb2);clear hq2 hb2
  go_wp2_with fail
  go_ret
  exact⟨HB2.out,HQ2.out,rfl⟩
end
end
section
theorem marks_nolow:∀ m∈marksL,(lowB m || wordB m)=false:=by decide
theorem marks_short:∀ m∈marksL,m.length≤2:=by decide
theorem tok_good{l:List UInt8}{t:Tk}{z:Nat}(h:tokL l=some (t,z)):TkOK t∧t.s.length≤l.length+1∧t.k≠6:=by
 match l,h with
 | c::l,h=>
  rw [tok_cons] at h
  split at h
  · unfold nameT at h
    split at h
    · rename_i hl
      injection h with h;injection h with h _;subst h;refine⟨⟨fun e=>by simp at e,fun _ hm=>?_⟩,?_,by simp⟩
      · have:=marks_nolow _ hm;rw [this] at hl
        cases hl
      · have:=tw_le (p:=fun c=>nameC (c.toNat:Int)) (c::l)
        show(nameL (c::l)).length≤_
        unfold nameL;omega
    · split at h
      · injection h with h;injection h with h _;subst h;refine⟨⟨fun e=>by simp at e,fun e=>by simp at e⟩,?_,by simp⟩;have:=tw_le (p:=fun c=>nameC (c.toNat:Int)) (c::l)
        show(nameL (c::l)).length≤_
        unfold nameL;omega
      · cases h
  split at h
  · unfold numT at h
    split at h
    · cases h
    · injection h with h;injection h with h _;subst h;refine⟨⟨fun e=>by simp at e,fun e=>by simp at e⟩,?_,by simp⟩;have:=tw_le (p:=fun c=>digitB (c.toNat:Int)) (c::l)
      show(digL (c::l)).length≤_
      unfold digL;omega
  split at h
  · unfold pathT at h
    split at h
    · rename_i hq
      injection h with h;injection h with h _;subst h;refine⟨⟨fun e=>by simp at e,fun e=>by simp at e⟩,?_,by simp⟩;have:=hq.1;simp only [List.length_cons];omega
    · cases h
  · unfold markT at h
    cases hm:markL (c::l) with
    | none=>rw [hm] at h;cases h
    | some m=>
     rw [hm] at h;injection h with h;injection h with h _;subst h;have hmem:=(mark_mem hm).1;exact⟨⟨fun _=>hmem,fun e=>by simp at e⟩,by have:=marks_short _ hmem;simp only [List.length_cons];omega,by simp⟩
theorem lex_good(m:Nat) (a:Nat) (l:List UInt8) (hm:l.length≤m):(∀ t∈(lexL a l).1,TkOK t∧t.s.length≤m+1∧t.k≠6)∧(lexL a l).1.length≤l.length:=by
 refine lex_ind (P:=fun a l=>l.length≤m→(∀ t∈(lexL a l).1,TkOK t∧t.s.length≤m+1∧t.k≠6)∧(lexL a l).1.length≤l.length) ?_ ?_ ?_ ?_ l.length a l (Nat.le_refl _) hm
 · intro a _;rw [lex_nil];exact⟨fun t ht=>absurd ht List.not_mem_nil,Nat.le_refl _⟩
 · intro a l h0 hb ih hl;rw [lex_blank hb];obtain⟨h1,h2⟩:=ih (by simp only [List.length_drop];omega);exact⟨h1,by simp only [List.length_drop] at h2;omega⟩
 · intro a l h0 hb ht hl;rw [lex_bad h0 hb ht];exact⟨fun t ht=>absurd ht List.not_mem_nil,Nat.zero_le _⟩
 · intro a l t z h0 hb ht ih hl;rw [lex_tok hb ht];have hz:=(tok_ok ht).1;obtain⟨h1,h2⟩:=ih (by simp only [List.length_drop];omega);have hl0:=List.length_pos_iff.2 h0;obtain⟨g1,g2,g3⟩:=tok_good ht;refine⟨fun u hu=>?_,by simp only [List.length_cons,List.length_drop] at h2 ⊢;omega⟩;rcases List.mem_cons.1 hu with rfl | hu
   · exact⟨g1,by show t.s.length≤_;omega,g3⟩
   · exact h1 u hu
end
end Go.Proofs.YtokiaaapgkdpmaaGreatDoor
