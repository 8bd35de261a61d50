/- A part of the proof. Conditions: each theorem's own. -/
import Derived.Test.YtagkcjpoipcpkaaGreatDoorF04
namespace Go.Proofs.YtagkcjpoipcpkaaGreatDoor
set_option linter.unusedVariables false
set_option linter.unusedSimpArgs false
set_option maxRecDepth 100000
set_option maxHeartbeats 40000000
def aB(l:LU):ByteArray:=⟨l.toArray⟩
theorem aH5(l:LU):(aB l).data.toList=l:=aDu
theorem mH(s:BA):aB s.data.toList=s:=by cases s;simp[aB]
def eF:List UInt8:=[116,114,117,101]
def dY:List UInt8:=[102,97,108,115,101]
def iE:List UInt8:=[110,111,116]
def kO:List UInt8:=[105,102]
def sF:List UInt8:=[116,104,101,110]
def pO:List UInt8:=[101,108,115,101]
def oD:List UInt8:=[112,114,101]
def jO:List UInt8:=[109,101,114,103,101]
def oF:List UInt8:=[102,98,121]
def gR:List UInt8:=[119,104,101,110]
def qO:List UInt8:=[119,105,116,104]
def qL:List UInt8:=[101,118,101,114,121]
def mB:List UInt8:=[45,62]
def bA2:List (List UInt8):=[[],[45],[110,111,116],[43],[45],[42],[47],[109,111,100],[97,110,100],[111,114],[120,111,114],[61],[60,62],[60],[60,61],[62],[62,61]]
def kM(op:Int):List UInt8:=if 1<=op/\op<=16 then bA2[op.toNat]?.getD []else []
def kH(Aa Ae:LU):List UInt8:=if Ae=eF then Aa else if Ae=dY then iE++32::Aa else Ae++40::(Aa++[41])
def eN:List (List UInt8)->List UInt8
 |[]=>[]
 |[x]=>x
 |x::y::l=>x++44::32::eN (y::l)
def gT(t:List (List UInt8))(i:Nat):List UInt8:=t[i]?.getD []
def nW:List (List UInt8)->List (List UInt8)->List UInt8
 |a::Aa,x::t=>32::40::(a++32::45::62::32::(x++41::nW Aa t))
 |_,_=>[]
def oW(n:Int)(s:LU)(t:List (List UInt8)):List UInt8:=
 if n=1 then 40::(s++40::(eN (t.take (t.length-1))++41::32::(qL++32::(gT t (t.length-1)++[41]))))else s++40::(eN t++[41])
def sG(k n:Int)(s:LU):List UInt8:=
 if k=1 then Lib.itoa n else if k=2 then(if n=1 then eF else dY)else if k=17 then 39::(s++[39])else s
def fB(k n:Int)(s:LU)(op:Int)(Aa t:List (List UInt8)):List UInt8:=
 if k=5 then(if op=1 then 40::45::(gT t 0++[41])else 40::(iE++32::(gT t 0++[41])))
 else if k=6 then 40::(gT t 0++32::(kM op++32::(gT t 1++[41])))
 else if k=7 then 40::(kO++32::(gT t 0++32::(sF++32::(gT t 1++32::(pO++32::(gT t 2++[41]))))))
 else if k=8 then 40::(gT t 0++32::(oF++32::(gT t 1++[41])))
 else if k=9 then 40::(gT t 0++32::(mB++32::(gT t 1++[41])))
 else if k=10 then 40::(oD++32::(gT t 0++[41]))
 else if k=11 then 40::(gT t 0++32::(gR++32::(kH s (gT Aa 0)++[41])))
 else if k=12 then 40::(jO++32::(s++(nW Aa t++[41])))
 else if k=13 then oW n s t
 else if k=14 then 91::(eN t++[93])
 else if k=15 then gT t 0++91::(gT t 1++[93])
 else if k=16 then 40::(gT t 0++32::(qO++32::91::(gT t 1++93::32::61::32::(gT t 2++[41]))))
 else sG k n s
mutual
def aK:Ex->List UInt8
 |.mk k n s op Aa Ae=>fB k n s.data.toList op (Aa.map fun a=>a.data.toList) (aI6 Ae)
def aI6:List Ex->List (List UInt8)
 |[]=>[]
 |x::l=>aK x::aI6 l
end
theorem aTx:∀l:List Ex,aI6 l=l.map aK
 |[]=>rfl
 |x::l=>by simp only[aI6,Xl,aTx l]
theorem aH6(x:Ex):aK x=fB x.k x.n x.s.data.toList x.op (x.arms.map fun a=>a.data.toList) (x.subs.map aK):=by
 cases x;simp only[aK,aTx,Ex.k,Ex.n,Ex.s,Ex.op,Ex.arms,Ex.subs]
def aOs:List UInt8->List UInt8->Option (List UInt8)
 |[],l=>some l
 |c::m,d::l=>if c=d then aOs m l else none
 |_::_,[]=>none
def nmL(l:LU):List UInt8:=l.takeWhile fun c=>cZ (c.toNat:Int)
def dgL(l:LU):List UInt8:=l.takeWhile fun c=>cC (c.toNat:Int)
def bIj(l:LU):Nat:=l.foldl (fun a d=>a*10+(d.toNat-48)) 0
abbrev Rdr:=List UInt8->Option (Ex × List UInt8)
def atX(a i:Ex):Ex:=Ex.mk 15 0 ByteArray.empty 0 [] [a,i]
def post(p:Rdr):Nat->Ex->Rdr
 |0,x,r=>some (x,r)
 |n+1,x,r=>match aOs [91] r with
  |some r1=>(p r1).bind fun y=>(aOs [93] y.2).bind fun r2=>post p n (atX x y.1) r2
  |none=>some (x,r)
def pP(u:LU):Prop:=u=[]\/∃c r,u=c::r/\(c=32\/c=41\/c=44\/c=91\/c=93\/c=59)
def fX(u:LU):Prop:=u=[]\/∃c r,u=c::r/\cZ (c.toNat:Int)=false
theorem pP.noNm{u:LU}(h:pP u):fX u:=by
 rcases h with rfl|⟨c,r,rfl,h⟩;· exact .inl rfl
 . exact .inr ⟨c,r,rfl,by rcases h with rfl|rfl|rfl|rfl|rfl|rfl<;>decide⟩
theorem vS{c:UInt8}(r:LU)(h:cZ (c.toNat:Int)=false):fX (c::r):=.inr ⟨c,r,rfl,h⟩
theorem aKa{p:UInt8->Bool}:∀{a u:LU},(∀c∈a,p c=true)->(u=[]\/∃c r,u=c::r/\p c=false)->(a++u).takeWhile p=a
 |[],u,_,h=>by
  rcases h with rfl|⟨c,r,rfl,hc⟩;· rfl
  . simp[List.takeWhile_cons,hc]
 |x::a,u,ha,h=>by
  have hx:=ha x aC;simp[List.takeWhile_cons,hx,aKa (a:=a) (fun c hc=>ha c (by simp[hc])) h]
def aA6(l:LU):Bool:=l.all fun c=>cZ (c.toNat:Int)
theorem cAg{a u:LU}(ha:aA6 a=true)(hu:fX u):nmL (a++u)=a:=aKa (p:=fun c=>cZ (c.toNat:Int)) (fun c hc=>Zj.1 ha c hc) hu
theorem aNz{l:LU}(h:aQ l=true):aA6 l=true:=by
 simp only[aQ,fA,Yu]at h;exact h.1.2
theorem bSz{l:LU}(h:dF l=true):aA6 l=true:=by
 simp only[dF,fA,Yu]at h;exact h.2
theorem bWw{l:LU}(h:aQ l=true):bQ l=false:=by
 simp only[aQ,Yu,Bool.not_eq_true']at h;exact h.2
theorem aI7{l:LU}(h:aQ l=true):∃c r,l=c::r/\fV (c.toNat:Int)=true:=by
 cases l with
 |nil=>simp[aQ,fA]at h
 |cons c r=>
  simp only[aQ,fA,Yu]at h;exact⟨c,r,rfl,h.1.1.2⟩
theorem aY4{l:LU}(h:dF l=true):∃c r,l=c::r/\jZ (c.toNat:Int)=true:=by
 cases l with
 |nil=>simp[dF,fA]at h
 |cons c r=>
  simp only[dF,fA,Yu]at h;exact⟨c,r,rfl,h.1.2⟩
theorem lK{x:Ex}{k n op:Int}{s:BA}{Aa:LB}{Ae:List Ex}(h1:x.k=k)(h2:x.n=n)(h3:x.s=s)(h4:x.op=op)(h5:x.arms=Aa)(h6:x.subs=Ae):x=Ex.mk k n s op Aa Ae:=by
 cases x;simp only[Ex.k,Ex.n,Ex.s,Ex.op,Ex.arms,Ex.subs]at h1 h2 h3 h4 h5 h6;subst h1 h2 h3 h4 h5 h6;rfl
theorem bS0{s:BA}(h:(s.toList==[])=true):s=ByteArray.empty:=by
 rw[Zf]at h;have h1:s.data.toList=[]:=nZ;exact ByteArray.ext (Array.ext' h1)
structure lV (x:Ex):Prop where
 k1:1<=x.k
 k17:x.k<=17
 op0:x.k≠5->x.k≠6->x.op=0
 op5:x.k=5->x.op=1\/x.op=2
 op6:x.k=6->3<=x.op/\x.op<=16
 n0:x.k≠1->x.k≠2->x.k≠13->x.n=0
 n1:x.k=1->0<=x.n
 n2:x.k=2\/x.k=13->x.n=0\/x.n=1
 s0:x.k≠3->x.k≠4->x.k≠11->x.k≠12->x.k≠13->x.k≠17->x.s=ByteArray.empty
 low:x.k=3\/x.k=11\/x.k=12\/x.k=13->aQ x.s.data.toList=true
 high:x.k=4->dF x.s.data.toList=true
 path:x.k=17->fJ x.s.data.toList=true
 a0:x.k≠11->x.k≠12->x.arms=[]
 arms:∀a∈x.arms,eK a=true
 a11:x.k=11->x.arms.length=1
 a12:x.k=12->x.arms.length<=6
 lo:(cO x).1<=x.subs.length
 hi:(x.subs.length:Int)<=(cO x).2
theorem bL6{x:Ex}(h:dA x=true):lV x:=by
 simp only[dA,Yu,decide_eq_true_eq]at h;obtain⟨⟨⟨⟨⟨⟨⟨h1,h2⟩,hn⟩,hs⟩,ha⟩,Df⟩,Fv⟩,_⟩:=h
 have Ei:¬(x.op<(if x.k==6 then 3 else if x.k==5 then 1 else 0)\/(if x.k==6 then 16 else if x.k==5 then 2 else 0)<x.op):=fun hc=>by
  rw[nH,if_pos hc]at hn;cases hn
 have Aa:(if x.k==1 then decide (0<=x.n)else if(x.k==2 || x.k==13)then(x.n==0 || x.n==1)else x.n==0)=true:=by
  rw[nH,if_neg Ei]at hn;exact hn
 simp only[oT,Yu]at ha;refine⟨h1,h2,fun a b=>?_,fun a=>?_,fun a=>?_,fun a b c=>?_,fun a=>?_,fun a=>?_,fun a b c d e f=>?_,fun a=>?_,fun a=>?_,fun a=>?_,fun a b=>?_,fun a h=>Zj.1 ha.1 a h,fun a=>?_,fun a=>?_,Df,Fv⟩
 . simp[a,b]at Ei;omega
 . simp[a]at Ei;omega
 . simp[a]at Ei;omega
 . simp[a,b,c]at Aa;exact Aa
 . simp[a]at Aa;exact Aa
 . rcases a with a|a<;>simp[a]at Aa<;>exact Aa
 . unfold nP at hs;rw[show(x.k==3 || x.k==11 || x.k==12 || x.k==13)=false by simp[a,c,d,e],show(x.k==4)=false by simp[b],show(x.k==17)=false by simp[f]]at hs;exact bS0 hs
 . unfold nP at hs;rw[show(x.k==3 || x.k==11 || x.k==12 || x.k==13)=true by rcases a with a|a|a|a<;>simp[a]]at hs;exact hs
 . unfold nP at hs;rw[a]at hs;exact hs
 . unfold nP at hs;rw[a]at hs;exact hs
 . have h3:=ha.2;rw[show(x.k==11)=false by simp[a],show(x.k==12)=false by simp[b]]at h3;simpa using h3
 . have h3:=ha.2;rw[a]at h3;simpa using h3
 . have h3:=ha.2;rw[a]at h3;simp at h3;exact h3.1.2
def bV(x:Ex):Prop:=∀p∈bP x,dA p=true
theorem bV.part{x:Ex}(h:bV x):lV x:=bL6 (h x aGf)
theorem aLn:∀{l:List Ex}{a p:Ex},a∈l->p∈bP a->p∈eL l
 |x::l,a,p,ha,hp=>by
  simp only[eL,Zr];rcases Yw.1 ha with rfl|ha;· exact .inl hp
  . exact .inr (aLn ha hp)
theorem bV.sub{x a:Ex}(h:bV x)(ha:a∈x.subs):bV a:=fun p hp=>h p (by rw[aBq];exact Zi _ (aLn ha hp))
theorem sP{l:List Ex}(h:l.length=1):∃a,l=[a]:=by
 match l,h with
 |[a],_=>exact⟨a,rfl⟩
theorem kF{l:List Ex}(h:l.length=2):∃a b,l=[a,b]:=by
 match l,h with
 |[a,b],_=>exact⟨a,b,rfl⟩
theorem vK{l:List Ex}(h:l.length=3):∃a b c,l=[a,b,c]:=by
 match l,h with
 |[a,b,c],_=>exact⟨a,b,c,rfl⟩
theorem aFk{u:Nat}(h:u<10):(UInt8.ofNat (48+u)).toNat=48+u:=by
 rw[UInt8.toNat_ofNat'];exact Nat.mod_eq_of_lt aA
theorem bWx(u:Nat):bIj (Lib.decDigits u)=u:=by
 induction u using Nat.strongRecOn with
 |ind u ih=>
  by_cases h:u<10
  . rw[Lib.decDigits_one h];show 0*10+((UInt8.ofNat (48+u)).toNat-48)=u;rw[aFk h];omega
  . rw[Lib.decDigits,dif_neg h];have h1:=ih (u / 10) aA;unfold bIj at h1⊢;rw[List.foldl_append,h1];simp only[List.foldl_cons,List.foldl_nil];rw[aFk (show u % 10<10 by omega)];omega
theorem aXc(u:Nat):∀c∈Lib.decDigits u,cC (c.toNat:Int)=true:=by
 induction u using Nat.strongRecOn with
 |ind u ih=>
  intro c hc;by_cases h:u<10
  . rw[Lib.decDigits_one h,Yp]at hc;subst hc;rw[aFk h];simp only[cC,decide_eq_true_eq];omega
  . rw[Lib.decDigits,dif_neg h,Zr]at hc;rcases hc with hc|hc;· exact ih (u / 10) aA c hc
    . rw[Yp]at hc;subst hc;rw[aFk (show u % 10<10 by omega)];simp only[cC,decide_eq_true_eq];omega
theorem aQh(u:Nat):Lib.decDigits u≠[]:=by
 by_cases h:u<10;· rw[Lib.decDigits_one h];simp
 . rw[Lib.decDigits,dif_neg h];simp
theorem aTy{c:UInt8}(h:cC (c.toNat:Int)=true):cZ (c.toNat:Int)=true:=by simp[cZ,h]
theorem cAh{a u:LU}(ha:∀c∈a,cC (c.toNat:Int)=true)(hu:fX u):dgL (a++u)=a:=by
 refine aKa (p:=fun c=>cC (c.toNat:Int)) ha ?_;rcases hu with rfl|⟨c,r,rfl,hc⟩;· exact .inl rfl
 . refine .inr ⟨c,r,rfl,?_⟩;cases hd:cC (c.toNat:Int)with
   |false=>rfl
   |true=>rw[aTy hd]at hc;cases hc
section
variable {p:Rdr}{n:Nat}{x:Ex}{u:LU}
theorem bOu(hf:lV x)(h:cO x=(0,0)):x.subs=[]:=by
 have h1:=hf.hi;rw[h]at h1;exact Zu wV
theorem dP(hf:lV x){m:Nat}(h:cO x=((m:Int),(m:Int))):x.subs.length=m:=by
 have h1:=hf.hi;have h2:=hf.lo;rw[h]at h1 h2;simp only at h1 h2;omega
theorem aNb{c:UInt8}:∀{l:LU}{b:UInt8},b∈l->b=c\/∃p∈dW c l,b∈p
 |x::l,b,h=>by
  have ih:=fun hb=>aNb (c:=c) (l:=l) (b:=b) hb;by_cases hx:x=c
  . rcases Yw.1 h with rfl|h;· exact .inl hx
    . rcases ih h with h|⟨p,hp,h⟩;· exact .inl h
      . exact .inr ⟨p,by simp[dW,hx,hp],h⟩
  . have hn:=aE4 c l;simp only[dW,if_neg hx];cases hc:dW c l with
    |nil=>exact absurd hc hn
    |cons q qs=>
     rw[hc]at ih;rcases Yw.1 h with rfl|h;· exact .inr ⟨b::q,by simp,by simp⟩
     . rcases ih h with h|⟨p,hp,h⟩;· exact .inl h
       . rcases Yw.1 hp with rfl|hp;· exact .inr ⟨x::p,by simp,by simp[h]⟩
         . exact .inr ⟨p,by simp[hp],h⟩
theorem bL7{l:LU}(h:gQ l=true):∀c∈l,cZ (c.toNat:Int)=true\/c=46:=by
 intro c hc;rcases aNb (c:=46) hc with h1|⟨q,hq,hcq⟩;· exact .inr h1
 . refine .inl ?_;unfold gQ at h
   match hl:dW 46 l,h,hq with
   |[a],h,hq=>
    obtain rfl:q=a:=by simpa using hq
    exact Zj.1 (aNz h) c hcq
   |[a,m],h,hq=>
    simp only[aJ6,Yu]at h;rcases Yw.1 hq with rfl|hq;· exact Zj.1 (aNz h.1) c hcq
    . obtain rfl:q=m:=by simpa using hq
      have h2:=h.2;simp only[kU,Yu]at h2;exact aTy (Zj.1 h2.2 c hcq)
theorem bL8{l:LU}(h:fJ l=true):∀c∈l,(c !=39)=true:=by
 intro c hc;have Bv:c≠39:=by
  rcases aNb (c:=47) hc with rfl|⟨q,hq,hcq⟩;· decide
  . rcases bL7 (Zj.1 h q hq) c hcq with h1|rfl
    . rintro rfl;revert h1
      decide
    . decide
 simpa using Bv
end
section
variable {p:Rdr}{n:Nat}{x:Ex}{u:LU}
theorem bOv{a:BA}(h:eK a=true):a.data.toList=eF\/a.data.toList=dY\/dF a.data.toList=true:=by
 simp only[eK,Bool.or_eq_true,Zf,beq_iff_eq]at h;rcases h with(h|h)|h;· exact .inr (.inr h)
 . exact .inl h
 . exact .inr (.inl h)
end
section
variable {p:Rdr}{n:Nat}{x:Ex}{u:LU}
end
theorem aH7{x:Ex}(h:bJ x=true):bV x:=by
 simp only[bJ,Yu]at h;exact fun p hp=>Zj.1 h.2 p hp
def qX(p:Ex):Prop:=p.s.size<=7000/\-9223372036854775808<=p.n/\p.n<=9223372036854775807
theorem aN0{l:LU}(h:aQ l=true):l.length<=12:=by
 simp only[aQ,fA,Yu,decide_eq_true_eq]at h;exact h.1.1.1.2
theorem bS1{l:LU}(h:dF l=true):l.length<=12:=by
 simp only[dF,fA,Yu,decide_eq_true_eq]at h;exact h.1.1.2
theorem aIp{a:BA}(h:eK a=true):a.data.toList.length<=12:=by
 rcases bOv h with h|h|h;· rw[h];decide
 . rw[h];decide
 . exact bS1 h
def fD(t:List (List UInt8)):Nat:=(t.map List.length).sum
theorem aEt:∀t:List (List UInt8),(eN t).length<=fD t+2*t.length
 |[]=>by simp[eN,fD]
 |[x]=>by simp[eN,fD]
 |x::y::l=>by
  have:=aEt (y::l)
  simp only[eN,fD,Yo,Yq,Xl,List.sum_cons]at this⊢;omega
theorem aMo:∀(Aa t:List (List UInt8)),(∀a∈Aa,a.length<=12)->(nW Aa t).length<=fD t+20*t.length
 |[],t,_=>by simp[nW]
 |_::_,[],_=>by simp[nW]
 |a::Aa,x::t,h=>by
  have h1:=h a aC
  have:=aMo Aa t (fun b hb=>h b (by simp[hb]))
  simp only[nW,fD,Yo,Yq,Xl,List.sum_cons]at this⊢;omega
theorem cAi(t:List (List UInt8))(i:Nat):(gT t i).length<=fD t:=by
 unfold gT;induction t generalizing i with
 |nil=>simp
 |cons x t ih=>
  cases i with
  |zero=>simp[fD]
  |succ i=>
   have:=ih i
   simp only[Ze,fD,Xl,List.sum_cons]at this⊢;omega
theorem aTz(t:List (List UInt8))(n:Nat):fD (t.take n)<=fD t:=by
 have:fD (t.take n)+fD (t.drop n)=fD t:=by
  unfold fD;rw[<-List.sum_append,<-Zt,List.take_append_drop]
 omega
theorem aXd:∀(t:List (List UInt8))(k:Nat),fD (t.take k)+(gT t k).length<=fD t
 |[],k=>by simp[fD,gT]
 |x::t,0=>by simp[fD,gT]
 |x::t,k+1=>by
  have:=aXd t k
  simp only[fD,gT,List.take_succ_cons,Xl,List.sum_cons,Ze]at this⊢;omega
theorem aHo:∀l:List Ex,(∀y∈l,(aK y).length<=7300*aT y)->fD (l.map aK)<=7300*bW l
 |[],_=>by simp[fD,bW]
 |x::l,h=>by
  have h1:=h x aC
  have:=aHo l fun y hy=>h y aFv
  simp only[fD,Xl,List.sum_cons,bW]at this⊢;omega
theorem aIq(a b:LU):fD [a,b]=a.length+b.length:=by simp[fD]
theorem aVh(a b c:LU):fD [a,b,c]=a.length+(b.length+c.length):=by simp[fD]
theorem bS2:∀k:Nat,k<17->(bA2[k]?.getD []).length<=3:=aF
theorem bA3{s m:LU}:(kH s m).length<=s.length+m.length+6:=by
 exact bEf
theorem aXe:∀x:Ex,bV x->(∀p∈bP x,qX p)->(aK x).length<=7300*aT x:=by
 refine tB fun x ih hx hp=>?_;have hf:=hx.part;obtain⟨Be,Ep,Ct⟩:=hp x aGf
 have Gd:∀y∈x.subs,(aK y).length<=7300*aT y:=fun y hy=>by
  obtain⟨i,hi,rfl⟩:=Zm hy;have he:bI x i=x.subs[i]:=by simp[bI,Yk hi]
  have:=ih i hi
  rw[he]at this;exact this (hx.sub hy) fun p Iq=>hp p aQw
 have hl:=aHo x.subs Gd;have Ng:=uG x;have Fs:x.s.data.toList.length=x.s.size:=aC;rw[aH6];generalize ht:x.subs.map aK=t at *;have Hb:t.length=x.subs.length:=by rw[<-ht];simp
 have g0:=cAi t 0;have Bs:∀n:Nat,n<=fD t+7300->n<=7300*aT x:=fun n h=>by omega
 refine Bs _ ?_;clear Bs Gd ih;unfold fB;by_cases h5:x.k=5;· rw[if_pos h5];split<;>simp[iE]<;>omega
 rw[if_neg h5];have hh:=hf.hi;by_cases h6:x.k=6
 . rw[if_pos h6];obtain⟨a,b,Ba⟩:=kF (dP hf (m:=2) aPc);obtain⟨Hc,Hp⟩:=hf.op6 h6;have Jx:(kM x.op).length<=3:=by
    unfold kM;rw[if_pos ⟨by omega,Hp⟩];exact bS2 _ aA
   rw[Ba]at ht;subst ht;simp[gT,aIq];omega
 rw[if_neg h6];by_cases h7:x.k=7
 . rw[if_pos h7];obtain⟨a,b,c,Ba⟩:=vK (dP hf (m:=3) aPd);rw[Ba]at ht;subst ht;simp[gT,aVh,kO,sF,pO];omega
 rw[if_neg h7];by_cases h8:x.k=8
 . rw[if_pos h8];obtain⟨a,b,Ba⟩:=kF (dP hf (m:=2) aPe);rw[Ba]at ht;subst ht;simp[gT,aIq,oF];omega
 rw[if_neg h8];by_cases h9:x.k=9
 . rw[if_pos h9];obtain⟨a,b,Ba⟩:=kF (dP hf (m:=2) aPf);rw[Ba]at ht;subst ht;simp[gT,aIq,mB];omega
 rw[if_neg h9];by_cases Aq:x.k=10;· rw[if_pos Aq];simp[oD];omega
 rw[if_neg Aq];by_cases h11:x.k=11
 . rw[if_pos h11];have hs:=aN0 (hf.low (.inr (.inl h11)));have hm:(gT (x.arms.map fun a=>a.data.toList) 0).length<=12:=by
    obtain⟨m,hm⟩:∃m,x.arms=[m]:=by
     exact bEt
    have:=aIp (hf.arms m aJm)
    rw[hm];simpa[gT]using this
   have:=bA3 (s:=x.s.data.toList) (m:=gT (x.arms.map fun a=>a.data.toList) 0)
   simp only[Yq,Yo,gR,Zg];omega
 rw[if_neg h11];by_cases Cy:x.k=12
 . rw[if_pos Cy];have hs:=aN0 (hf.low (.inr (.inr (.inl Cy))))
   have ha:=aMo (x.arms.map fun a=>a.data.toList) t (fun a ha=>by
    obtain⟨m,hm,rfl⟩:=List.mem_map.1 ha;exact aIp (hf.arms m hm))
   have h6:t.length<=6:=by
    have h1:=hf.a12 Cy;rw[show cO x=((x.arms.length:Int),(x.arms.length:Int))by simp[cO,Cy]]at hh;simp only at hh;omega
   simp only[Yq,Yo,jO,Zg];omega
 rw[if_neg Cy];by_cases Aa:x.k=13
 . rw[if_pos Aa];have hs:=aN0 (hf.low (.inr (.inr (.inr Aa))));have h7:t.length<=7:=by
    rw[show cO x=(x.n,6+x.n)by simp[cO,Aa]]at hh
    have:=hf.n2 (.inr Aa)
    simp only at hh;omega
   have hj:=aEt t;have Nh:=aEt (t.take (t.length-1));have hg:fD (t.take (t.length-1))+(gT t (t.length-1)).length<=fD t:=aXd t _;have Ha:(t.take (t.length-1)).length<=7:=cP;unfold oW;split
   . simp only[Yq,Yo,qL,Zg];omega
   . exact bEg
 rw[if_neg Aa];by_cases Eh:x.k=14
 . rw[if_pos Eh];have h8:t.length<=8:=by
    rw[show cO x=(1,8)by simp[cO,Eh]]at hh;simp only at hh;omega
   have hj:=aEt t;exact bEg
 rw[if_neg Eh];by_cases Ek:x.k=15
 . rw[if_pos Ek];obtain⟨a,b,Ba⟩:=kF (dP hf (m:=2) aDr);rw[Ba]at ht;subst ht;simp[gT,aIq];omega
 rw[if_neg Ek];by_cases Fh:x.k=16
 . rw[if_pos Fh];obtain⟨a,b,c,Ba⟩:=vK (dP hf (m:=3) aPb);rw[Ba]at ht;subst ht;simp[gT,aVh,qO];omega
 rw[if_neg Fh];unfold sG;by_cases h1:x.k=1
 . rw[if_pos h1]
   have:=Lib.itoa_length_le x.n Ep Ct
   omega
 rw[if_neg h1];by_cases h2:x.k=2;· rw[if_pos h2];split<;>simp[eF,dY]<;>omega
 rw[if_neg h2];by_cases Ae:x.k=17;· rw[if_pos Ae];simp only[Yq,Yo,Zg];omega
 rw[if_neg Ae];omega
end Go.Proofs.YtagkcjpoipcpkaaGreatDoor
