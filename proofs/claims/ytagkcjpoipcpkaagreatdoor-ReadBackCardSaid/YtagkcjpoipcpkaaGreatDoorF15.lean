/- A part of the proof. Conditions: each theorem's own. -/
import Derived.Test.YtagkcjpoipcpkaaGreatDoorF06
import Derived.Test.YtagkcjpoipcpkaaGreatDoorF13
namespace Go.Proofs.YtagkcjpoipcpkaaGreatDoor
set_option linter.unusedVariables false
set_option linter.unusedSimpArgs false
set_option maxRecDepth 100000
set_option maxHeartbeats 40000000
section
theorem Xn:type_of% @List.tail_cons:=@List.tail_cons
end
inductive PR (α:Type) where
 |ok (a:α) (r:List Tk)
 |bad (r:List Tk)
def PR.bind{α β:Type}(x:PR α)(f:α->List Tk->PR β):PR β:=match x with
 |.ok a r=>f a r
 |.bad r=>.bad r
@[simp] theorem PR.bind_ok {α β:Type}(a:α) (r:List Tk) (f:α->List Tk->PR β):(PR.ok a r).bind f=f a r:=rfl
@[simp] theorem PR.bind_bad {α β:Type}(r:List Tk) (f:α->List Tk->PR β):(PR.bad r:PR α).bind f=.bad r:=rfl
abbrev bZ:=List Tk->PR Ex
def aG(s:LU):List Tk->Bool
 |t::_=>t.s==s && (t.k==1 || t.k==5)
 |[]=>false
def aR(s:LU)(r:List Tk):PR Unit:=if aG s r=true then .ok () r.tail else .bad r
def bT:List Tk->PR (List UInt8)
 |t::r=>if t.k=1/\bQ t.s=false then .ok t.s r else .bad (t::r)
 |[]=>.bad []
def fO(r:List Tk):PR (List UInt8):=
 if aG eF r=true then .ok eF r.tail
 else if aG dY r=true then .ok dY r.tail
 else match r with
  |t::r=>if t.k=2 then .ok t.s r else .bad (t::r)
  |[]=>.bad []
def uX:List Tk->Int
 |t::_=>t.k
 |[]=>0
def dU(r:List Tk):PR (List UInt8 × List UInt8):=
 if aG iE r=true then(bT r.tail).bind fun n r=>.ok (n,dY) r
 else if uX r=2\/aG eF r=true\/aG dY r=true then
  (fO r).bind fun a r=>(aR [40] r).bind fun _ r=>(bT r).bind fun n r=>(aR [41] r).bind fun _ r=>.ok (n,a) r
 else(bT r).bind fun n r=>.ok (n,eF) r
def qP(ar:bZ):Nat->List Ex->List Tk->PR (List Ex)
 |0,acc,r=>.ok acc r
 |f+1,acc,r=>if aG [44] r=true then(ar r.tail).bind fun y r=>qP ar f (acc++[y]) r else .ok acc r
def sH(ar:bZ)(m:LU)(r:List Tk):PR (List Ex):=
 (ar r).bind fun y r=>(qP ar r.length [y] r).bind fun l r=>(aR m r).bind fun _ r=>.ok l r
def rX(po:bZ)(s:LU)(l:List Ex)(r:List Tk):PR Ex:=
 if aG qL r=true then(po r.tail).bind fun y r=>.ok (Ex.mk 13 1 (aB s) 0 [] (l++[y])) r else .ok (Ex.mk 13 0 (aB s) 0 [] l) r
def uY(ar po:bZ)(s:LU)(r:List Tk):PR Ex:=
 if aG [41] r=true then rX po s [] r.tail else(sH ar [41] r).bind fun l r=>rX po s l r
def nX(ar:bZ):Nat->List ByteArray->List Ex->List Tk->PR (List ByteArray × List Ex)
 |0,am,l,r=>.ok (am,l) r
 |f+1,am,l,r=>(fO r).bind fun a r=>(aR [45,62] r).bind fun _ r=>(ar r).bind fun y r=>(aR [41] r).bind fun _ r=>
  if aG [40] r=true then nX ar f (am++[aB a]) (l++[y]) r.tail else .ok (am++[aB a],l++[y]) r
def wH(ar:bZ)(r:List Tk):PR Ex:=
 (bT r).bind fun s r=>(aR [40] r).bind fun _ r=>(nX ar (r.length+1) [] [] r).bind fun z r=>.ok (Ex.mk 12 0 (aB s) 0 z.1 z.2) r
def nQ(ar:bZ)(r:List Tk):PR Ex:=
 (ar r).bind fun e r=>
  (if aG qO r=true then(aR [91] r.tail).bind fun _ r=>(ar r).bind fun i r=>(aR [93] r).bind fun _ r=>(aR [61] r).bind fun _ r=>(ar r).bind fun v r=>.ok (Ex.mk 16 0 ByteArray.empty 0 [] [e,i,v]) r
   else .ok e r).bind fun e r=>(aR [41] r).bind fun _ r=>.ok e r
def dK:List Tk->Option (Ex × List Tk)
 |t::r=>if t.k=3 then some (Ex.mk 1 t.n ByteArray.empty 0 [] [],r)
  else if t.k=2 then some (Ex.mk 4 0 (aB t.s) 0 [] [],r)
  else if t.k=4 then some (Ex.mk 17 0 (aB t.s) 0 [] [],r)
  else if t.k=1/\t.s=eF then some (Ex.mk 2 1 ByteArray.empty 0 [] [],r)
  else if t.k=1/\t.s=dY then some (Ex.mk 2 0 ByteArray.empty 0 [] [],r)
  else none
 |[]=>none
def uA(ar:bZ)(r:List Tk):PR Ex:=
 (ar r).bind fun a r=>(aR sF r).bind fun _ r=>(ar r).bind fun b r=>(aR pO r).bind fun _ r=>(ar r).bind fun c r=>.ok (Ex.mk 7 0 ByteArray.empty 0 [] [a,b,c]) r
def dD(ar po:bZ)(r:List Tk):PR Ex:=
 match dK r with
 |some z=>.ok z.1 z.2
 |none=>
  if aG [91] r=true then(sH ar [93] r.tail).bind fun l r=>.ok (Ex.mk 14 0 ByteArray.empty 0 [] l) r
  else if aG [40] r=true then nQ ar r.tail
  else if aG jO r=true then wH ar r.tail
  else if aG kO r=true then uA ar r.tail
  else(bT r).bind fun s r=>if aG [40] r=true then uY ar po s r.tail else .ok (Ex.mk 3 0 (aB s) 0 [] []) r
def kS(ar:bZ):Nat->Ex->List Tk->PR Ex
 |0,e,r=>.ok e r
 |f+1,e,r=>
  if aG [91] r=true then(ar r.tail).bind fun i r=>(aR [93] r).bind fun _ r=>kS ar f (Ex.mk 15 0 ByteArray.empty 0 [] [e,i]) r
  else if aG gR r=true then(dU r.tail).bind fun z r=>kS ar f (Ex.mk 11 0 (aB z.1) 0 [aB z.2] [e]) r
  else .ok e r
def nY(ar po:bZ)(r:List Tk):PR Ex:=(dD ar po r).bind fun e r2=>kS ar (r.length+1) e r2
structure Ps where
 ar:bZ
 fb:bZ
 un:bZ
 po:bZ
def iZ(P:Ps)(r:List Tk):PR Ex:=
 if aG [45] r=true then(P.un r.tail).bind fun e r=>.ok (Ex.mk 5 0 ByteArray.empty 1 [] [e]) r
 else if aG iE r=true then(P.un r.tail).bind fun e r=>.ok (Ex.mk 5 0 ByteArray.empty 2 [] [e]) r
 else if aG oD r=true then(P.un r.tail).bind fun e r=>.ok (Ex.mk 10 0 ByteArray.empty 0 [] [e]) r
 else nY P.ar P.po r
def aA7(op:Int)(a b:Ex):Ex:=Ex.mk 6 0 ByteArray.empty op [] [a,b]
def cR:List (Int × List UInt8)->List Tk->Int
 |[],_=>0
 |z::l,r=>if aG z.2 r=true then z.1 else cR l r
def iN(Ae:bZ)(Aa:List (Int × List UInt8)):Nat->Ex->List Tk->PR Ex
 |0,e,r=>.ok e r
 |f+1,e,r=>if cR Aa r=0 then .ok e r else(Ae r.tail).bind fun y r'=>iN Ae Aa f (aA7 (cR Aa r) e y) r'
def aCa:List (Int × List UInt8):=[(5,[42]),(6,[47]),(7,[109,111,100])]
def aCq:List (Int × List UInt8):=[(3,[43]),(4,[45])]
def aCr:List (Int × List UInt8):=[(11,[61]),(12,[60,62]),(13,[60]),(14,[60,61]),(15,[62]),(16,[62,61])]
def aCs:List (Int × List UInt8):=[(8,[97,110,100])]
def aDa:List (Int × List UInt8):=[(9,[111,114]),(10,[120,111,114])]
def tN(P:Ps)(r:List Tk):PR Ex:=(iZ P r).bind fun e r=>iN (iZ P) aCa (r.length+1) e r
def qY(P:Ps)(r:List Tk):PR Ex:=(tN P r).bind fun e r=>iN (tN P) aCq (r.length+1) e r
def qZ(P:Ps)(r:List Tk):PR Ex:=(qY P r).bind fun e r=>iN (qY P) aCr 1 e r
def rA(P:Ps)(r:List Tk):PR Ex:=(qZ P r).bind fun e r=>iN (qZ P) aCs (r.length+1) e r
def sV(P:Ps)(r:List Tk):PR Ex:=(rA P r).bind fun e r=>iN (rA P) aDa (r.length+1) e r
def rB(P:Ps)(r:List Tk):PR Ex:=
 (sV P r).bind fun e r=>if aG oF r=true then(P.fb r.tail).bind fun y r=>.ok (Ex.mk 8 0 ByteArray.empty 0 [] [e,y]) r else .ok e r
def pI(P:Ps)(r:List Tk):PR Ex:=
 (rB P r).bind fun e r=>if aG mB r=true then(P.ar r.tail).bind fun y r=>.ok (Ex.mk 9 0 ByteArray.empty 0 [] [e,y]) r else .ok e r
def aV:Nat->Ps
 |0=>⟨.bad,.bad,.bad,.bad⟩
 |n+1=>⟨pI (aV n),rB (aV n),iZ (aV n),nY (aV n).ar (aV n).po⟩
theorem aBz{s:LU}{r:List Tk}(h:aG s r=true):∃t r',r=t::r'/\t.s=s/\(t.k=1\/t.k=5):=by
 match r,h with
 |t::r',h=>
  simp only[aG,Yu,Bool.or_eq_true,beq_iff_eq]at h;exact⟨t,r',rfl,h.1,h.2⟩
inductive Pc where
 |tk (k:Int) (s:LU) (n:Int)
 |sub (x:Ex)
 |sp
def aL(s:LU):Pc:=.tk 5 s 0
def bE(s:LU):Pc:=.tk 1 s 0
def tP(a:LU):Pc:=if a=eF\/a=dY then bE a else .tk 2 a 0
def sQ(s m:LU):List Pc:=if m=eF then [bE s]else if m=dY then [bE iE,.sp,bE s]else [.tk 2 m 0,aL [40],bE s,aL [41]]
def aCt(op:Int):Pc:=if 7<=op/\op<=10 then bE (kM op)else aL (kM op)
def nN:List Ex->List Pc
 |[]=>[]
 |[x]=>[.sub x]
 |x::y::l=>.sub x::aL [44]::.sp::nN (y::l)
def oL:List (List UInt8)->List Ex->List Pc
 |a::am,x::l=>.sp::aL [40]::tP a::.sp::aL [45,62]::.sp::.sub x::aL [41]::oL am l
 |_,_=>[]
def gX(l:List Ex)(i:Nat):Ex:=l[i]?.getD default
def xX(n:Int)(s:LU)(l:List Ex):List Pc:=
 if n=1 then aL [40]::bE s::aL [40]::(nN (l.take (l.length-1))++aL [41]::.sp::bE qL::.sp::.sub (gX l (l.length-1))::[aL [41]])
 else bE s::aL [40]::(nN l++[aL [41]])
def mM(k n:Int)(s:LU):List Pc:=
 if k=1 then [.tk 3 (Lib.itoa n) n]else if k=2 then [bE (if n=1 then eF else dY)]else if k=4 then [.tk 2 s 0]else if k=17 then [.tk 4 s 0]else [bE s]
def cL(k n:Int)(s:LU)(op:Int)(Aa:List (List UInt8))(l:List Ex):List Pc:=
 if k=5 then(if op=1 then [aL [40],aL [45],.sub (gX l 0),aL [41]]else [aL [40],bE iE,.sp,.sub (gX l 0),aL [41]])
 else if k=6 then [aL [40],.sub (gX l 0),.sp,aCt op,.sp,.sub (gX l 1),aL [41]]
 else if k=7 then [aL [40],bE kO,.sp,.sub (gX l 0),.sp,bE sF,.sp,.sub (gX l 1),.sp,bE pO,.sp,.sub (gX l 2),aL [41]]
 else if k=8 then [aL [40],.sub (gX l 0),.sp,bE oF,.sp,.sub (gX l 1),aL [41]]
 else if k=9 then [aL [40],.sub (gX l 0),.sp,aL mB,.sp,.sub (gX l 1),aL [41]]
 else if k=10 then [aL [40],bE oD,.sp,.sub (gX l 0),aL [41]]
 else if k=11 then aL [40]::.sub (gX l 0)::.sp::bE gR::.sp::(sQ s (gT Aa 0)++[aL [41]])
 else if k=12 then aL [40]::bE jO::.sp::bE s::(oL Aa l++[aL [41]])
 else if k=13 then xX n s l
 else if k=14 then aL [91]::(nN l++[aL [93]])
 else if k=15 then [.sub (gX l 0),aL [91],.sub (gX l 1),aL [93]]
 else if k=16 then [aL [40],.sub (gX l 0),.sp,bE qO,.sp,aL [91],.sub (gX l 1),aL [93],.sp,aL [61],.sp,.sub (gX l 2),aL [41]]
 else mM k n s
def bX(x:Ex):List Pc:=cL x.k x.n x.s.data.toList x.op (x.arms.map fun a=>a.data.toList) x.subs
def bB(T:Ex->List Tk->Prop):List Pc->List Tk->Prop
 |[],ts=>ts=[]
 |.tk k s n::l,ts=>∃p r,ts=⟨k,s,n,p⟩::r/\bB T l r
 |.sub x::l,ts=>∃t r,ts=t++r/\T x t/\bB T l r
 |.sp::l,ts=>bB T l ts
def bG:Nat->Ex->List Tk->Prop
 |0,_,_=>False
 |f+1,x,ts=>bB (bG f) (bX x) ts
theorem iA(T:Ex->List Tk->Prop):∀(p q:List Pc)(ts:List Tk),bB T (p++q) ts↔∃a b,ts=a++b/\bB T p a/\bB T q b
 |[],q,ts=>by
  simp only[Zh,bB];constructor;· exact fun h=>⟨[],ts,rfl,rfl,h⟩
  . rintro ⟨_,b,rfl,rfl,h⟩;exact h
 |.tk k s n::p,q,ts=>by
  simp only[Yx,bB,iA T p q];constructor
  . rintro ⟨z,r,rfl,a,b,rfl,h1,h2⟩;exact⟨_::a,b,rfl,⟨z,a,rfl,h1⟩,h2⟩
  . rintro ⟨_,b,rfl,⟨z,a,rfl,h1⟩,h2⟩;exact⟨z,a++b,rfl,a,b,rfl,h1,h2⟩
 |.sub x::p,q,ts=>by
  simp only[Yx,bB,iA T p q];constructor
  . rintro ⟨t,r,rfl,ht,a,b,rfl,h1,h2⟩;exact⟨t++a,b,by simp,⟨t,a,rfl,ht,h1⟩,h2⟩
  . rintro ⟨_,b,rfl,⟨t,a,rfl,ht,h1⟩,h2⟩;exact⟨t,a++b,by simp,ht,a,b,rfl,h1,h2⟩
 |.sp::p,q,ts=>by
  simp only[Yx,bB,iA T p q]
def kW(s:LU)(k:Int)(s':LU):Bool:=s'==s && (k==1 || k==5)
def oX:List (Int × List UInt8)->Int->List UInt8->Int
 |[],_,_=>0
 |z::l,k,s=>if kW z.2 k s=true then z.1 else oX l k s
def iF(k:Int)(s:LU):Nat:=
 if(kW [91] k s || kW gR k s)=true then 0 else if oX aCa k s≠0 then 1 else if oX aCq k s≠0 then 2 else if oX aCr k s≠0 then 3
 else if oX aCs k s≠0 then 4 else if oX aDa k s≠0 then 5 else if kW oF k s=true then 6 else if kW mB k s=true then 7 else 8
def mC:List Tk->Nat
 |t::_=>iF t.k t.s
 |[]=>8
theorem aAd(s:LU)(t:Tk)(r:List Tk):aG s (t::r)=kW s t.k t.s:=rfl
theorem aHp(l:List (Int × List UInt8))(t:Tk)(r:List Tk):cR l (t::r)=oX l t.k t.s:=by
 induction l with
 |nil=>rfl
 |cons z l ih=>simp only[cR,oX,aAd,ih]
def pE(r:List Tk):Prop:=aG [40] r=false/\aG qL r=false
theorem bOw(l:List (Int × List UInt8)):cR l []=0:=by
 induction l with
 |nil=>rfl
 |cons z l ih=>simp[cR,aG,ih]
theorem bS8{r:List Tk}(h:1<=mC r):aG [91] r=false/\aG gR r=false:=by
 cases r with
 |nil=>exact⟨rfl,rfl⟩
 |cons t r=>
  simp only[aAd];simp only[mC,iF]at h;split at h;· omega
  . rename_i h1;simpa using h1
theorem bWz{r:List Tk}{L:Nat}(h:L<mC r):(1<=L->cR aCa r=0)/\(2<=L->cR aCq r=0)/\(3<=L->cR aCr r=0)/\(4<=L->cR aCs r=0)/\(5<=L->cR aDa r=0)/\(6<=L->aG oF r=false)/\(7<=L->aG mB r=false):=by
 cases r with
 |nil=>simp[bOw,aG]
 |cons t r=>
  simp only[aAd,aHp];simp only[mC,iF]at h;split at h;· omega
  split at h;· refine⟨fun _=>?_,?_⟩<;>first|omega|(repeat' apply And.intro)<;>intro _<;>omega
  split at h
  . rename_i h2 h3;simp only[ne_eq,Decidable.not_not]at h2;refine⟨fun _=>h2,?_⟩;exact aF0
  split at h
  . rename_i h2 h3 _;simp only[ne_eq,Decidable.not_not]at h2 h3;refine⟨fun _=>h2,fun _=>h3,?_⟩;exact aF0
  split at h
  . rename_i h2 h3 h4 _;simp only[ne_eq,Decidable.not_not]at h2 h3 h4;refine⟨fun _=>h2,fun _=>h3,fun _=>h4,?_⟩;exact aF0
  split at h
  . rename_i h2 h3 h4 h5 _;simp only[ne_eq,Decidable.not_not]at h2 h3 h4 h5;refine⟨fun _=>h2,fun _=>h3,fun _=>h4,fun _=>h5,?_⟩;exact aF0
  split at h
  . rename_i h2 h3 h4 h5 h6 _;simp only[ne_eq,Decidable.not_not]at h2 h3 h4 h5 h6;refine⟨fun _=>h2,fun _=>h3,fun _=>h4,fun _=>h5,fun _=>h6,?_⟩;exact aF0
  split at h
  . rename_i h2 h3 h4 h5 h6 h7 _;simp only[ne_eq,Decidable.not_not]at h2 h3 h4 h5 h6;refine⟨fun _=>h2,fun _=>h3,fun _=>h4,fun _=>h5,fun _=>h6,fun _=>by simpa using h7,fun _=>by omega⟩
  . rename_i h2 h3 h4 h5 h6 h7 h8;simp only[ne_eq,Decidable.not_not]at h2 h3 h4 h5 h6;exact⟨fun _=>h2,fun _=>h3,fun _=>h4,fun _=>h5,fun _=>h6,fun _=>by simpa using h7,fun _=>by simpa using h8⟩
theorem zL(Ae:bZ)(Aa:List (Int × List UInt8))(g:Nat)(e:Ex){r:List Tk}(h:cR Aa r=0):iN Ae Aa g e r=.ok e r:=by
 cases g with
 |zero=>rfl
 |succ g=>simp[iN,h]
theorem bOx(Ae:bZ)(Aa:List (Int × List UInt8))(g:Nat)(a b:Ex)(t:Tk){r rest:List Tk}(h:oX Aa t.k t.s≠0)(hs:Ae r=.ok b rest)(h0:cR Aa rest=0):
 iN Ae Aa (g+1) a (t::r)=.ok (aA7 (oX Aa t.k t.s) a b) rest:=by
 simp[iN,aHp,h,hs,zL _ _ _ _ h0]
def lv(P:Ps):Nat->bZ
 |0=>iZ P
 |1=>tN P
 |2=>qY P
 |3=>qZ P
 |4=>rA P
 |5=>sV P
 |6=>rB P
 |_=>pI P
theorem aKc{P:Ps}{r rest:List Tk}{x:Ex}(h0:iZ P r=.ok x rest):∀{L:Nat},L<=7->L<mC rest->lv P L r=.ok x rest:=by
 intro L h7 hL;obtain⟨h1,h2,h3,h4,h5,h6,h8⟩:=bWz hL;have e1:1<=L->tN P r=.ok x rest:=fun h=>by simp[tN,h0,zL _ _ _ _ (h1 h)]
 have e2:2<=L->qY P r=.ok x rest:=fun h=>by simp[qY,e1 aA,zL _ _ _ _ (h2 h)]
 have e3:3<=L->qZ P r=.ok x rest:=fun h=>by simp[qZ,e2 aA,zL _ _ _ _ (h3 h)]
 have e4:4<=L->rA P r=.ok x rest:=fun h=>by simp[rA,e3 aA,zL _ _ _ _ (h4 h)]
 have e5:5<=L->sV P r=.ok x rest:=fun h=>by simp[sV,e4 aA,zL _ _ _ _ (h5 h)]
 have e6:6<=L->rB P r=.ok x rest:=fun h=>by simp[rB,e5 aA,h6 h]
 have e7:7<=L->pI P r=.ok x rest:=fun h=>by simp[pI,e6 aA,h8 h]
 match L,h7 with
 |0,_=>exact h0
 |1,_=>exact e1 aA
 |2,_=>exact e2 aA
 |3,_=>exact e3 aA
 |4,_=>exact e4 aA
 |5,_=>exact e5 aA
 |6,_=>exact e6 aA
 |7,_=>exact e7 aA
def aK4(r:List Tk):Prop:=aG [45] r=false/\aG iE r=false/\aG oD r=false
theorem aN1{P:Ps}{r:List Tk}(h:aK4 r):iZ P r=nY P.ar P.po r:=by
 simp[iZ,h.1,h.2.1,h.2.2]
theorem aL2(ar:bZ)(g:Nat)(e:Ex){r:List Tk}(h:1<=mC r):kS ar g e r=.ok e r:=by
 obtain⟨h1,h2⟩:=bS8 h;cases g with
 |zero=>rfl
 |succ g=>simp[kS,h1,h2]
theorem bOy{ar po:bZ}{r rest:List Tk}{x:Ex}(h:dD ar po r=.ok x rest)(hl:1<=mC rest):nY ar po r=.ok x rest:=by
 simp[nY,h,aL2 _ _ _ hl]
theorem aFl{l w:LU}(h:aQ l=true)(hw:aQ w=false):l≠w:=fun e=>by rw[e,hw]at h;cases h
theorem rT{s w:LU}(k:Int)(h:aQ s=true)(hw:aQ w=false):kW w k s=false:=by
 simp[kW,aFl h hw]
theorem aEy{w s:LU}{k:Int}(h1:k≠1)(h5:k≠5):kW w k s=false:=by
 simp[kW,h1,h5]
theorem tG(s:LU)(n:Int)(p:Nat)(r:List Tk):aG s (⟨5,s,n,p⟩::r)=true:=aJn
theorem rY(s:LU)(n:Int)(p:Nat)(r:List Tk):aG s (⟨1,s,n,p⟩::r)=true:=aJn
theorem kL(s:LU)(n:Int)(p:Nat)(r:List Tk):aR s (⟨5,s,n,p⟩::r)=.ok () r:=by simp[aR,tG]
theorem aN2(s:LU)(n:Int)(p:Nat)(r:List Tk):aR s (⟨1,s,n,p⟩::r)=.ok () r:=by simp[aR,rY]
theorem tF{s:LU}(h:aQ s=true)(n:Int)(p:Nat)(r:List Tk):bT (⟨1,s,n,p⟩::r)=.ok s r:=by simp[bT,bWw h]
def yL(a:LU):Prop:=dF a=true\/a=eF\/a=dY
theorem aH8{a:BA}(h:eK a=true):yL a.data.toList:=by
 simp only[eK,Bool.or_eq_true,Zf,beq_iff_eq]at h;rcases h with(h|h)|h;· exact .inl h
 . exact .inr (.inl h)
 . exact .inr (.inr h)
theorem bS9{T:Ex->List Tk->Prop}{a:LU}{l:List Pc}{ts:List Tk}(h:yL a)(ht:bB T (tP a::l) ts):∃z r,ts=z::r/\bB T l r/\∀r',fO (z::r')=.ok a r':=by
 by_cases h1:a=eF
 . subst h1;simp only[tP,true_or,if_true,bE,bB]at ht;obtain⟨p,r,rfl,hr⟩:=ht;exact⟨_,r,rfl,hr,fun r'=>by simp[fO,rY]⟩
 by_cases h2:a=dY
 . subst h2;simp only[tP,or_true,if_true,bE,bB]at ht;obtain⟨p,r,rfl,hr⟩:=ht
   exact⟨_,r,rfl,hr,fun r'=>by
    have:aG eF (⟨1,dY,0,p⟩::r')=false:=rfl
    simp[fO,this,rY]⟩
 . simp only[tP,h1,h2,or_self,if_false,bB]at ht;obtain⟨p,r,rfl,hr⟩:=ht;exact⟨_,r,rfl,hr,fun r'=>by simp[fO,aG]⟩
theorem aY5{T:Ex->List Tk->Prop}{s m:LU}{l:List Pc}{ts:List Tk}(hs:aQ s=true)(h:yL m)(ht:bB T (sQ s m++l) ts):∃z r,ts=z++r/\1<=z.length/\bB T l r/\∀r',dU (z++r')=.ok (s,m) r':=by
 unfold sQ at ht;by_cases h1:m=eF
 . subst h1;simp only[if_true,bE,Yx,Zh,bB]at ht;obtain⟨p,r,rfl,hr⟩:=ht;refine⟨[_],r,rfl,by simp,hr,fun r'=>?_⟩;simp only[Yx,Zh,dU];rw[if_neg (by rw[aAd,rT 1 hs aF];simp),if_neg (by simp only[uX,aAd,rT 1 hs (show aQ eF=false by decide),rT 1 hs (show aQ dY=false by decide)];simp),tF hs];rfl
 by_cases h2:m=dY
 . subst h2;simp only[if_neg h1,if_true,bE,Yx,Zh,bB]at ht;obtain⟨p,_,rfl,q,r,rfl,hr⟩:=ht;refine⟨[_,_],r,rfl,by simp,hr,fun r'=>?_⟩;simp only[Yx,Zh,dU];rw[if_pos (rY _ _ _ _),Xn,tF hs];rfl
 . simp only[if_neg h1,if_neg h2,bE,aL,Yx,Zh,bB]at ht;obtain⟨p,_,rfl,q,_,rfl,q2,_,rfl,q3,r,rfl,hr⟩:=ht;refine⟨[_,_,_,_],r,rfl,by simp,hr,fun r'=>?_⟩;simp only[Yx,Zh,dU];rw[if_neg (by rw[aAd,aEy (show(2:Int)≠1 by decide) (show(2:Int)≠5 by decide)];simp),if_pos (.inl rfl)];have ha:fO (⟨2,m,0,p⟩::⟨5,[40],0,q⟩::⟨1,s,0,q2⟩::⟨5,[41],0,q3⟩::r')=.ok m (⟨5,[40],0,q⟩::⟨1,s,0,q2⟩::⟨5,[41],0,q3⟩::r'):=by simp[fO,aG]
   rw[ha,PR.bind_ok,kL,PR.bind_ok,tF hs,PR.bind_ok,kL];rfl
def aFm(z:Tk):Prop:=kW [45] z.k z.s=false/\kW iE z.k z.s=false/\kW oD z.k z.s=false/\kW [41] z.k z.s=false
theorem aY6{s:LU}{p:Nat}(h:(kW [45] 5 s || kW iE 5 s || kW oD 5 s || kW [41] 5 s)=false):aFm ⟨5,s,0,p⟩:=by
 simp only[Bool.or_eq_false_iff]at h;exact⟨h.1.1.1,h.1.1.2,h.1.2,h.2⟩
theorem bTa{s:LU}{n:Int}{p:Nat}(h:aQ s=true):aFm ⟨1,s,n,p⟩:=⟨rT 1 h aF,rT 1 h aF,rT 1 h aF,rT 1 h aF⟩
theorem bOz{s:LU}{k n:Int}{p:Nat}(h1:k≠1)(h5:k≠5):aFm ⟨k,s,n,p⟩:=⟨aEy h1 h5,aEy h1 h5,aEy h1 h5,aEy h1 h5⟩
theorem aFa:∀(f:Nat)(x:Ex)(t:List Tk),bV x->bG f x t->∃z r,t=z::r/\aFm z
 |0,_,_,_,h=>h.elim
 |f+1,x,t,hx,h=>by
  have hf:=hx.part;have Ct:=hf.k1;have Bs:=hf.k17;simp only[bG,bX]at h
  have hp:∀l,bB (bG f) (aL [40]::l) t->∃z r,t=z::r/\aFm z:=fun l h=>by
   obtain⟨p,r,rfl,_⟩:=h;exact⟨_,r,rfl,aY6 rfl⟩
  unfold cL at h;by_cases h5:x.k=5
  . rw[if_pos h5]at h;split at h<;>exact hp _ h
  rw[if_neg h5]at h;by_cases h6:x.k=6;· rw[if_pos h6]at h;exact hp _ h
  rw[if_neg h6]at h;by_cases h7:x.k=7;· rw[if_pos h7]at h;exact hp _ h
  rw[if_neg h7]at h;by_cases h8:x.k=8;· rw[if_pos h8]at h;exact hp _ h
  rw[if_neg h8]at h;by_cases h9:x.k=9;· rw[if_pos h9]at h;exact hp _ h
  rw[if_neg h9]at h;by_cases Aq:x.k=10;· rw[if_pos Aq]at h;exact hp _ h
  rw[if_neg Aq]at h;by_cases h11:x.k=11;· rw[if_pos h11]at h;exact hp _ h
  rw[if_neg h11]at h;by_cases Cy:x.k=12;· rw[if_pos Cy]at h;exact hp _ h
  rw[if_neg Cy]at h;by_cases Aa:x.k=13
  . rw[if_pos Aa]at h;unfold xX at h;split at h;· exact hp _ h
    . exact bEp
  rw[if_neg Aa]at h;by_cases Eh:x.k=14
  . rw[if_pos Eh]at h;obtain⟨p,r,rfl,_⟩:=h;exact⟨_,r,rfl,aY6 rfl⟩
  rw[if_neg Eh]at h;by_cases Ek:x.k=15
  . rw[if_pos Ek]at h;obtain⟨a,b,Ba⟩:=kF (dP hf (m:=2) aDr);rw[Ba]at h;obtain⟨ta,_,rfl,ha,_⟩:=h;obtain⟨z,r,rfl,hz⟩:=aFa f a ta (hx.sub eR) ha;exact⟨z,_,rfl,hz⟩
  rw[if_neg Ek]at h;by_cases Fh:x.k=16;· rw[if_pos Fh]at h;exact hp _ h
  rw[if_neg Fh]at h;unfold mM at h;by_cases h1:x.k=1
  . rw[if_pos h1]at h;exact aP1
  rw[if_neg h1]at h;by_cases h2:x.k=2
  . rw[if_pos h2]at h;obtain⟨p,r,rfl,_⟩:=h;refine⟨_,r,rfl,?_⟩;split;· exact⟨rfl,rfl,rfl,rfl⟩
    . exact⟨rfl,rfl,rfl,rfl⟩
  rw[if_neg h2]at h;by_cases h4:x.k=4
  . rw[if_pos h4]at h;exact aP1
  rw[if_neg h4]at h;by_cases Ae:x.k=17
  . rw[if_pos Ae]at h;exact aP1
  rw[if_neg Ae]at h;exact bEp
theorem aY7{f:Nat}{x:Ex}{t:List Tk}(hx:bV x)(h:bG f x t)(rest:List Tk):aK4 (t++rest):=by
 obtain⟨z,r,rfl,h1,h2,h3,_⟩:=aFa f x t hx h;exact⟨h1,h2,h3⟩
theorem bO0{f:Nat}{x:Ex}{t:List Tk}(hx:bV x)(h:bG f x t)(rest:List Tk):aG [41] (t++rest)=false:=by
 obtain⟨z,r,rfl,_,_,_,h4⟩:=aFa f x t hx h;exact h4
theorem nR{f:Nat}{x:Ex}{t:List Tk}(hx:bV x)(h:bG f x t):1<=t.length:=by
 obtain⟨z,r,rfl,_⟩:=aFa f x t hx h;simp
def xQ:List Ex->List Pc
 |[]=>[]
 |x::l=>aL [44]::.sp::.sub x::xQ l
theorem aL3:∀(x:Ex)(l:List Ex),nN (x::l)=.sub x::xQ l
 |x,[]=>rfl
 |x,y::l=>by simp only[nN,xQ,aL3 y l]
def aFn(ar:bZ)(f n:Nat):Prop:=∀(y:Ex)(t rest:List Tk),bV y->bG f y t->t.length<=n->pE rest->8<=mC rest->ar (t++rest)=.ok y rest
theorem aVi{ar:bZ}{f n:Nat}(H:aFn ar f n){m:LU}{p:Nat}{rest:List Tk}(hm:(m==[41] || m==[93])=true):∀(l:List Ex)(acc:List Ex)(g:Nat)(ts:List Tk),(∀y∈l,bV y)->bB (bG f) (xQ l) ts->ts.length<=n->l.length<=g->
 qP ar g acc (ts++⟨5,m,0,p⟩::rest)=.ok (acc++l) (⟨5,m,0,p⟩::rest)
 |[],acc,g,ts,_,h,_,_=>by
  have h':ts=[]:=h;subst h';have hc:aG [44] (⟨5,m,0,p⟩::rest)=false:=by
   rw[aAd];simp only[Bool.or_eq_true,beq_iff_eq]at hm;rcases hm with rfl|rfl<;>rfl
  cases g with
  |zero=>simp[qP]
  |succ g=>simp[qP,hc]
 |y::l,acc,0,ts,_,_,_,hg=>absurd hg aC
 |y::l,acc,g+1,ts,Ax,h,hn,hg=>by
  simp only[xQ,aL,bB]at h;obtain⟨q,_,rfl,ty,r,rfl,hy,hr⟩:=h;simp only[Yq,Yo]at hn;have Aa:pE (r++⟨5,m,0,p⟩::rest)/\8<=mC (r++⟨5,m,0,p⟩::rest):=by
   exact bHm
  simp only[Yx,Yy,qP,tG,if_true,Xn];rw[H y ty _ (Ax y aC) hy aA Aa.1 Aa.2,PR.bind_ok,aVi H hm l (acc++[y]) g r (fun z hz=>Ax z aDv) hr aA (by simpa using hg)];simp
theorem aVj{ar:bZ}{f n:Nat}(H:aFn ar f n){m:LU}{p:Nat}{rest:List Tk}(hm:(m==[41] || m==[93])=true)(l:List Ex)(hl:l≠[])(ts:List Tk)(Ax:∀y∈l,bV y)(h:bB (bG f) (nN l) ts)(hn:ts.length<=n):
 sH ar m (ts++⟨5,m,0,p⟩::rest)=.ok l rest:=by
 match l,hl with
 |y::l,_=>
  rw[aL3]at h;simp only[bB]at h;obtain⟨ty,r,rfl,hy,hr⟩:=h;simp only[Yo]at hn;have Ae:pE (r++⟨5,m,0,p⟩::rest)/\8<=mC (r++⟨5,m,0,p⟩::rest):=by
   exact bHm
  have Aa:l.length<=(r++⟨5,m,0,p⟩::rest).length:=by
   have:∀(l:List Ex)(r:List Tk),bB (bG f) (xQ l) r->l.length<=r.length:=by
    intro l;induction l with
    |nil=>intro r _;simp
    |cons z l ih=>
     intro r h;simp only[xQ,aL,bB]at h;obtain⟨q,_,rfl,tz,r',rfl,_,Aq⟩:=h
     have:=ih r' Aq
     simp only[Yq,Yo];omega
   have:=this l r hr
   simp only[Yo];omega
  unfold sH;rw[Yy,H y ty _ (Ax y aC) hy aA Ae.1 Ae.2,PR.bind_ok,aVi H hm l [y] _ r (fun z hz=>Ax z aDv) hr aA Aa,PR.bind_ok,kL,PR.bind_ok];rfl
theorem aVk{ar:bZ}{f n:Nat}(H:aFn ar f n){p:Nat}{rest:List Tk}:∀(am:LB)(l:List Ex)(Aa:LB)(l0:List Ex)(g:Nat)(ts:List Tk),am.length=l.length->1<=l.length->(∀a∈am,eK a=true)->(∀y∈l,bV y)->
 bB (bG f) (oL (am.map fun a=>a.data.toList) l) ts->ts.length<=n->l.length<=g->
 ∃q r,ts=⟨5,[40],0,q⟩::r/\nX ar g Aa l0 (r++⟨5,[41],0,p⟩::rest)=.ok (Aa++am,l0++l) (⟨5,[41],0,p⟩::rest)
 |[],l,Aa,l0,g,ts,h1,h2,_,_,_,_,_=>by simp at h1;omega
 |_::_,[],Aa,l0,g,ts,_,h2,_,_,_,_,_=>by simp at h2
 |a::am,y::l,Aa,l0,0,ts,_,_,_,_,_,_,hg=>absurd hg aC
 |a::am,y::l,Aa,l0,g+1,ts,h1,_,ha,Ax,h,hn,hg=>by
  simp only[Xl,oL,aL]at h;simp only[bB]at h;obtain⟨q,_,rfl,h⟩:=h;obtain⟨z,_,rfl,h,hz⟩:=bS9 (aH8 (ha a aC)) h;simp only[bB]at h;obtain⟨q2,_,rfl,ty,_,rfl,hy,q3,r,rfl,hr⟩:=h;refine⟨q,_,rfl,?_⟩;simp only[Yq,Yo]at hn;have Dj:aB a.data.toList=a:=mH a;simp only[Yx,Yy,nX];rw[hz,PR.bind_ok,kL,PR.bind_ok,H y ty _ (Ax y aC) hy aA ⟨rfl,rfl⟩ (Yh _),PR.bind_ok,kL,PR.bind_ok];cases l with
  |nil=>
   have Ae:r=[]:=by
    have:am=[]:=Zu wV
    subst this;exact hr
   have Aq:am=[]:=Zu wV;subst Ae Aq;rw[Zh,show aG [40] (⟨5,[41],0,p⟩::rest)=false from rfl,if_neg aC,Dj]
  |cons y2 l=>
   obtain⟨q4,r4,rfl,h4⟩:=aVk H am (y2::l) (Aa++[a]) (l0++[y]) g r wV aC (fun b hb=>ha b (by simp[hb])) (fun z hz=>Ax z aDv) hr aA (by simpa using hg);rw[Yx,if_pos (tG _ _ _ _),Xn,Dj,h4];simp
def SpA(n:Nat):Prop:=∀(y:Ex)(f:Nat)(t rest:List Tk),bV y->bG f y t->t.length<=n+1->pE rest->
 ∃m,m<=t.length/\∀g,(dD (aV n).ar (aV n).po (t++rest)).bind (fun e r=>kS (aV n).ar (g+m) e r)=kS (aV n).ar g y rest
structure oG (n:Nat):Prop where
 ar:∀(y:Ex)(f:Nat)(t rest:List Tk),bV y->bG f y t->t.length<=n->pE rest->8<=mC rest->(aV n).ar (t++rest)=.ok y rest
 fb:∀(y:Ex)(f:Nat)(t rest:List Tk),bV y->bG f y t->t.length<=n->pE rest->7<=mC rest->(aV n).fb (t++rest)=.ok y rest
 un:∀(y:Ex)(f:Nat)(t rest:List Tk),bV y->bG f y t->t.length<=n->pE rest->1<=mC rest->(aV n).un (t++rest)=.ok y rest
 po:∀(y:Ex)(f:Nat)(t rest:List Tk),bV y->bG f y t->t.length<=n->pE rest->1<=mC rest->(aV n).po (t++rest)=.ok y rest
theorem oG.reads{n:Nat}(R:oG n)(f:Nat):aFn (aV n).ar f n:=fun y t rest h1 h2 h3 h4 h5=>R.ar y f t rest h1 h2 h3 h4 h5
theorem aY8{n:Nat}(H:SpA n){y:Ex}{f:Nat}{t rest:List Tk}(hy:bV y)(ht:bG f y t)(hn:t.length<=n+1)(hc:pE rest)(hl:1<=mC rest):nY (aV n).ar (aV n).po (t++rest)=.ok y rest:=by
 obtain⟨m,hm,h⟩:=H y f t rest hy ht hn hc
 have:=h ((t++rest).length+1-m)
 rw[show(t++rest).length+1-m+m=(t++rest).length+1 by simp only[Yo];omega]at this;unfold nY;rw[this,aL2 _ _ _ hl]
theorem aQj{n:Nat}(H:SpA n){y:Ex}{f:Nat}{t rest:List Tk}(hy:bV y)(ht:bG f y t)(hn:t.length<=n+1)(hc:pE rest)(hl:1<=mC rest):iZ (aV n) (t++rest)=.ok y rest:=by
 rw[aN1 (aY7 hy ht rest)];exact aY8 H hy ht hn hc hl
theorem bFe:∀(n:Nat),(∀m,m<n->SpA m)->oG n
 |0,_=>⟨fun y f t rest hy ht hn=>by have:=nR hy ht;omega,fun y f t rest hy ht hn=>by have:=nR hy ht;omega,fun y f t rest hy ht hn=>by have:=nR hy ht;omega,fun y f t rest hy ht hn=>by have:=nR hy ht;omega⟩
 |n+1,H=>by
  have h:=H n aA;refine⟨fun y f t rest hy ht hn hc hl=>?_,fun y f t rest hy ht hn hc hl=>?_,fun y f t rest hy ht hn hc hl=>?_,fun y f t rest hy ht hn hc hl=>?_⟩;· exact aKc (L:=7) (aQj h hy ht hn hc aA) aA aA
  . exact aKc (L:=6) (aQj h hy ht hn hc aA) aA aA
  . exact aQj h hy ht hn hc hl
  . exact aY8 h hy ht hn hc hl
theorem aKd{n:Nat}(R:oG (n+1)){y:Ex}{f:Nat}{t rest:List Tk}(L:Nat)(hy:bV y)(ht:bG f y t)(hn:t.length<=n+1)(hc:pE rest)(h7:L<=7)(hl:L<mC rest):lv (aV n) L (t++rest)=.ok y rest:=
 aKc (R.un y f t rest hy ht hn hc aA) h7 hl
theorem bKn{ar po:bZ}{r rest:List Tk}{x:Ex}{p q:Nat}(h:ar r=.ok x (⟨5,[41],0,q⟩::rest)):dD ar po (⟨5,[40],0,p⟩::r)=.ok x rest:=by
 have h1:dK (⟨5,[40],0,p⟩::r)=none:=aJk;have h2:aG [91] (⟨5,[40],0,p⟩::r)=false:=rfl;have h3:aG qO (⟨5,[41],0,q⟩::rest)=false:=rfl;unfold dD;rw[h1];simp only[h2,tG,if_true,Xn,nQ,h,PR.bind_ok,h3,kL,Zb,if_false]
section
variable {n f:Nat}{x:Ex}{t rest:List Tk}
theorem aH9{m:Nat}{r:List Tk}{p q:Nat}(h:pI (aV m) r=.ok x (⟨5,[41],0,q⟩::rest))(po:bZ):dD (aV (m+1)).ar po (⟨5,[40],0,p⟩::r)=.ok x rest:=bKn h
theorem cDj(hf:lV x)(hx:bV x)(R:∀k,k<=n->oG k)(h:bG (f+1) x t)(hn:t.length<=n+1)(hk:x.k=8):dD (aV n).ar (aV n).po (t++rest)=.ok x rest:=by
 obtain⟨a,b,Ba⟩:=kF (dP hf (m:=2) yV);have ha:bV a:=hx.sub eR;have hb:bV b:=hx.sub eR;have El:=lK hk (hf.n0 aA aA aA) (hf.s0 aA aA aA aA aA aA) (hf.op0 aA aA) (hf.a0 aA aA) Ba;simp only[bG,bX,cL,hk,Ba,aL,bE]at h;obtain⟨p0,_,rfl,ta,_,rfl,Aa,p1,_,rfl,tb,_,rfl,Ae,p2,_,rfl,rfl⟩:=h;simp only[Yq,Yo,Zg]at hn;have h1:=nR ha Aa;have h2:=nR hb Ae;obtain⟨m,rfl⟩:∃m,n=m+1:=⟨n-1,by omega⟩;simp only[Yx,Yy,Zh];refine aH9 (q:=p2) ?_ _;rw[El];have e1:=aKd (R (m+1) (Yh _)) 5 ha Aa (rest:=⟨1,oF,0,p1⟩::(tb++⟨5,[41],0,p2⟩::rest)) aA ⟨rfl,rfl⟩ aA (show 5<iF 1 oF by decide);have e2:=(R m aA).fb b f tb (⟨5,[41],0,p2⟩::rest) hb Ae aA ⟨rfl,rfl⟩ (show 7<=iF 5 [41]by decide);have e3:aG mB (⟨5,[41],0,p2⟩::rest)=false:=rfl;have e4:rB (aV m) (ta++⟨1,oF,0,p1⟩::(tb++⟨5,[41],0,p2⟩::rest))=.ok (Ex.mk 8 0 ByteArray.empty 0 [] [a,b]) (⟨5,[41],0,p2⟩::rest):=by
  unfold rB;rw[show sV (aV m) (ta++⟨1,oF,0,p1⟩::(tb++⟨5,[41],0,p2⟩::rest))=_ from e1,PR.bind_ok,rY,if_pos rfl,Xn,e2,PR.bind_ok]
 unfold pI;rw[e4,PR.bind_ok,e3];rfl
theorem cDk(hf:lV x)(hx:bV x)(R:∀k,k<=n->oG k)(h:bG (f+1) x t)(hn:t.length<=n+1)(hk:x.k=9):dD (aV n).ar (aV n).po (t++rest)=.ok x rest:=by
 obtain⟨a,b,Ba⟩:=kF (dP hf (m:=2) yV);have ha:bV a:=hx.sub eR;have hb:bV b:=hx.sub eR;have El:=lK hk (hf.n0 aA aA aA) (hf.s0 aA aA aA aA aA aA) (hf.op0 aA aA) (hf.a0 aA aA) Ba;simp only[bG,bX,cL,hk,Ba,aL,bE]at h;obtain⟨p0,_,rfl,ta,_,rfl,Aa,p1,_,rfl,tb,_,rfl,Ae,p2,_,rfl,rfl⟩:=h;simp only[Yq,Yo,Zg]at hn;have h1:=nR ha Aa;have h2:=nR hb Ae;obtain⟨m,rfl⟩:∃m,n=m+1:=⟨n-1,by omega⟩;simp only[Yx,Yy,Zh];refine aH9 (q:=p2) ?_ _;rw[El];have e1:=aKd (R (m+1) (Yh _)) 6 ha Aa (rest:=⟨5,mB,0,p1⟩::(tb++⟨5,[41],0,p2⟩::rest)) aA ⟨rfl,rfl⟩ aA (show 6<iF 5 mB by decide);have e2:=(R m aA).ar b f tb (⟨5,[41],0,p2⟩::rest) hb Ae aA ⟨rfl,rfl⟩ (show 8<=iF 5 [41]by decide);unfold pI;rw[show rB (aV m) (ta++⟨5,mB,0,p1⟩::(tb++⟨5,[41],0,p2⟩::rest))=_ from e1,PR.bind_ok,tG,if_pos rfl,Xn,e2];rfl
theorem aF9{m:Nat}{z:Tk}{r:List Tk}{p q:Nat}(h:iZ (aV m) (z::r)=.ok x (⟨5,[41],0,q⟩::rest))(po:bZ):dD (aV (m+1)).ar po (⟨5,[40],0,p⟩::z::r)=.ok x rest:=
 aH9 (q:=q) (aKc (L:=7) h aA (show 7<iF 5 [41]by decide)) po
theorem cDl(hf:lV x)(hx:bV x)(R:∀k,k<=n->oG k)(h:bG (f+1) x t)(hn:t.length<=n+1)(hk:x.k=5):dD (aV n).ar (aV n).po (t++rest)=.ok x rest:=by
 obtain⟨a,Ba⟩:=sP (dP hf (m:=1) yV);have ha:bV a:=hx.sub eR;rcases hf.op5 hk with ho|ho
 . have El:=lK hk (hf.n0 aA aA aA) (hf.s0 aA aA aA aA aA aA) ho (hf.a0 aA aA) Ba;simp only[bG,bX,cL,hk,ho,Ba,aL,bE]at h;obtain⟨p0,_,rfl,p1,_,rfl,ta,_,rfl,Aa,p2,_,rfl,rfl⟩:=h;simp only[Yq,Yo,Zg]at hn;have h1:=nR ha Aa;obtain⟨m,rfl⟩:∃m,n=m+1:=⟨n-1,by omega⟩;simp only[Yx,Yy,Zh];refine aF9 (q:=p2) ?_ _;rw[El];have e1:=(R m aA).un a f ta (⟨5,[41],0,p2⟩::rest) ha Aa aA ⟨rfl,rfl⟩ (show 1<=iF 5 [41]by decide);unfold iZ;rw[tG,if_pos rfl,Xn,e1];rfl
 . have El:=lK hk (hf.n0 aA aA aA) (hf.s0 aA aA aA aA aA aA) ho (hf.a0 aA aA) Ba;simp only[bG,bX,cL,hk,ho,Ba,aL,bE]at h;obtain⟨p0,_,rfl,p1,_,rfl,ta,_,rfl,Aa,p2,_,rfl,rfl⟩:=h;simp only[Yq,Yo,Zg]at hn;have h1:=nR ha Aa;obtain⟨m,rfl⟩:∃m,n=m+1:=⟨n-1,by omega⟩;simp only[Yx,Yy,Zh];refine aF9 (q:=p2) ?_ _;rw[El];have e1:=(R m aA).un a f ta (⟨5,[41],0,p2⟩::rest) ha Aa aA ⟨rfl,rfl⟩ (show 1<=iF 5 [41]by decide);unfold iZ;rw[show aG [45] (⟨1,iE,0,p1⟩::(ta++⟨5,[41],0,p2⟩::rest))=false from rfl,if_neg aC,rY,if_pos rfl,Xn,e1];rfl
theorem cCk(hf:lV x)(hx:bV x)(R:∀k,k<=n->oG k)(h:bG (f+1) x t)(hn:t.length<=n+1)(hk:x.k=10):dD (aV n).ar (aV n).po (t++rest)=.ok x rest:=by
 obtain⟨a,Ba⟩:=sP (dP hf (m:=1) yV);have ha:bV a:=hx.sub eR;have El:=lK hk (hf.n0 aA aA aA) (hf.s0 aA aA aA aA aA aA) (hf.op0 aA aA) (hf.a0 aA aA) Ba;simp only[bG,bX,cL,hk,Ba,aL,bE]at h;obtain⟨p0,_,rfl,p1,_,rfl,ta,_,rfl,Aa,p2,_,rfl,rfl⟩:=h;simp only[Yq,Yo,Zg]at hn;have h1:=nR ha Aa;obtain⟨m,rfl⟩:∃m,n=m+1:=⟨n-1,by omega⟩;simp only[Yx,Yy,Zh];refine aF9 (q:=p2) ?_ _;rw[El];have e1:=(R m aA).un a f ta (⟨5,[41],0,p2⟩::rest) ha Aa aA ⟨rfl,rfl⟩ (show 1<=iF 5 [41]by decide);unfold iZ;rw[show aG [45] (⟨1,oD,0,p1⟩::(ta++⟨5,[41],0,p2⟩::rest))=false from rfl,if_neg aC,show aG iE (⟨1,oD,0,p1⟩::(ta++⟨5,[41],0,p2⟩::rest))=false from rfl,if_neg aC,rY,if_pos rfl,Xn,e1];rfl
theorem aN3{m:Nat}{z:Tk}{r:List Tk}{p q:Nat}(hz:aK4 (z::r))(h:dD (aV m).ar (aV m).po (z::r)=.ok x (⟨5,[41],0,q⟩::rest))(po:bZ):dD (aV (m+1)).ar po (⟨5,[40],0,p⟩::z::r)=.ok x rest:=
 aF9 (q:=q) (by rw[aN1 hz];exact bOy h (show 1<=iF 5 [41]by decide)) po
theorem cDm(hf:lV x)(hx:bV x)(R:∀k,k<=n->oG k)(h:bG (f+1) x t)(hn:t.length<=n+1)(hk:x.k=7):dD (aV n).ar (aV n).po (t++rest)=.ok x rest:=by
 obtain⟨a,b,c,Ba⟩:=vK (dP hf (m:=3) yV);have ha:bV a:=hx.sub eR;have hb:bV b:=hx.sub eR;have hc:bV c:=hx.sub eR;have El:=lK hk (hf.n0 aA aA aA) (hf.s0 aA aA aA aA aA aA) (hf.op0 aA aA) (hf.a0 aA aA) Ba;simp only[bG,bX,cL,hk,Ba,aL,bE]at h;obtain⟨p0,_,rfl,p1,_,rfl,ta,_,rfl,Aa,p2,_,rfl,tb,_,rfl,Ae,p3,_,rfl,tc,_,rfl,Aq,p4,_,rfl,rfl⟩:=h;simp only[Yq,Yo,Zg]at hn;have h1:=nR ha Aa;obtain⟨m,rfl⟩:∃m,n=m+1:=⟨n-1,by omega⟩;simp only[Yx,Yy,Zh];refine aN3 (q:=p4) ⟨rfl,rfl,rfl⟩ ?_ _;rw[El];have Rm:=R m aA;have e1:=Rm.ar a f ta (⟨1,sF,0,p2⟩::(tb++⟨1,pO,0,p3⟩::(tc++⟨5,[41],0,p4⟩::rest))) ha Aa aA ⟨rfl,rfl⟩ (show 8<=iF 1 sF by decide);have e2:=Rm.ar b f tb (⟨1,pO,0,p3⟩::(tc++⟨5,[41],0,p4⟩::rest)) hb Ae aA ⟨rfl,rfl⟩ (show 8<=iF 1 pO by decide);have e3:=Rm.ar c f tc (⟨5,[41],0,p4⟩::rest) hc Aq aA ⟨rfl,rfl⟩ (show 8<=iF 5 [41]by decide);have g1:∀r,dK (⟨1,kO,0,p1⟩::r)=none:=fun r=>by simp[dK,kO,eF,dY]
 have g2:∀r,aG [91] (⟨1,kO,0,p1⟩::r)=false:=fun r=>rfl;have g3:∀r,aG [40] (⟨1,kO,0,p1⟩::r)=false:=fun r=>rfl;have g4:∀r,aG jO (⟨1,kO,0,p1⟩::r)=false:=fun r=>rfl;unfold dD;rw[g1];simp only[g2,g3,g4,rY,if_true,Zb,if_false,Xn,uA,e1,PR.bind_ok,aN2,e2,e3]
theorem cAk{m:Nat}{r:List Tk}{p q:Nat}(L:Nat)(h1:1<=L)(h5:L<=5)(h:lv (aV m) L r=.ok x (⟨5,[41],0,q⟩::rest))(po:bZ):dD (aV (m+1)).ar po (⟨5,[40],0,p⟩::r)=.ok x rest:=by
 refine aH9 (q:=q) ?_ po;have hs:∀Aa,oX Aa 5 [41]=0->∀g (Ae:bZ),iN Ae Aa g x (⟨5,[41],0,q⟩::rest)=.ok x (⟨5,[41],0,q⟩::rest):=fun Aa ho g Ae=>zL _ _ _ _ (by rw[aHp];exact ho)
 have e1:L=1->qY (aV m) r=.ok x (⟨5,[41],0,q⟩::rest):=fun e=>by
  subst e;unfold qY;rw[show tN (aV m) r=_ from h,PR.bind_ok,hs _ aF]
 have e2:L<=2->qZ (aV m) r=.ok x (⟨5,[41],0,q⟩::rest):=fun e=>by
  unfold qZ;rw[show qY (aV m) r=.ok x (⟨5,[41],0,q⟩::rest)by rcases(show L=1\/L=2 by omega)with rfl|rfl;exact e1 rfl;exact h,PR.bind_ok,hs _ aF]
 have e3:L<=3->rA (aV m) r=.ok x (⟨5,[41],0,q⟩::rest):=fun e=>by
  unfold rA;rw[show qZ (aV m) r=.ok x (⟨5,[41],0,q⟩::rest)by rcases(show L<=2\/L=3 by omega)with hh|rfl;exact e2 hh;exact h,PR.bind_ok,hs _ aF]
 have e4:L<=4->sV (aV m) r=.ok x (⟨5,[41],0,q⟩::rest):=fun e=>by
  unfold sV;rw[show rA (aV m) r=.ok x (⟨5,[41],0,q⟩::rest)by rcases(show L<=3\/L=4 by omega)with hh|rfl;exact e3 hh;exact h,PR.bind_ok,hs _ aF]
 have e5:sV (aV m) r=.ok x (⟨5,[41],0,q⟩::rest):=by
  rcases(show L<=4\/L=5 by omega)with hh|rfl;· exact e4 hh
  . exact h
 unfold pI rB;rw[e5,PR.bind_ok,show aG oF (⟨5,[41],0,q⟩::rest)=false from rfl,if_neg aC,PR.bind_ok,show aG mB (⟨5,[41],0,q⟩::rest)=false from rfl];rfl
def aDb(op:Int):Nat:=if op=5\/op=6\/op=7 then 1 else if op=3\/op=4 then 2 else if op=8 then 4 else if op=9\/op=10 then 5 else 3
def aDc:Nat->List (Int × List UInt8)
 |1=>aCa
 |2=>aCq
 |3=>aCr
 |4=>aCs
 |_=>aDa
theorem bTb(op:Int)(h1:3<=op)(h2:op<=16):∃k,aCt op=.tk k (kM op) 0/\oX (aDc (aDb op)) k (kM op)=op/\iF k (kM op)=aDb op/\1<=aDb op/\aDb op<=5/\kW [40] k (kM op)=false/\kW qL k (kM op)=false:=by
 obtain rfl|rfl|rfl|rfl|rfl|rfl|rfl|rfl|rfl|rfl|rfl|rfl|rfl|rfl:op=3\/op=4\/op=5\/op=6\/op=7\/op=8\/op=9\/op=10\/op=11\/op=12\/op=13\/op=14\/op=15\/op=16:=by omega
 all_goals first|exact⟨5,rfl,by decide,by decide,by decide,by decide,by decide,by decide⟩|exact⟨1,rfl,by decide,by decide,by decide,by decide,by decide,by decide⟩
theorem cDn(hf:lV x)(hx:bV x)(R:∀k,k<=n->oG k)(h:bG (f+1) x t)(hn:t.length<=n+1)(hk:x.k=6):dD (aV n).ar (aV n).po (t++rest)=.ok x rest:=by
 obtain⟨a,b,Ba⟩:=kF (dP hf (m:=2) yV);have ha:bV a:=hx.sub eR;have hb:bV b:=hx.sub eR;have El:=lK hk (hf.n0 aA aA aA) (hf.s0 aA aA aA aA aA aA) rfl (hf.a0 aA aA) Ba;obtain⟨Bs,Hp⟩:=hf.op6 hk;obtain⟨k,s1,s2,s3,s4,s5,s6,s7⟩:=bTb x.op Bs Hp;simp only[bG,bX,cL,hk,Ba,aL,bE,s1]at h;obtain⟨p0,_,rfl,ta,_,rfl,Ae,p1,_,rfl,tb,_,rfl,Aq,p2,_,rfl,rfl⟩:=h;simp only[Yq,Yo,Zg]at hn;have h1:=nR ha Ae;have h2:=nR hb Aq;obtain⟨m,rfl⟩:∃m,n=m+1:=⟨n-1,by omega⟩;simp only[Yx,Yy,Zh];generalize x.op=op at *;refine cAk (q:=p2) (aDb op) s4 s5 ?_ _;rw[El];generalize hL:aDb op=L at *;have e0:∀M,M<L->lv (aV m) M (ta++⟨k,kM op,0,p1⟩::(tb++⟨5,[41],0,p2⟩::rest))=.ok a (⟨k,kM op,0,p1⟩::(tb++⟨5,[41],0,p2⟩::rest)):=fun M hM=>
  aKd (R (m+1) (Yh _)) M ha Ae aA ⟨s6,s7⟩ aA (show M<iF k (kM op)by omega)
 have e1:∀M,M<L->lv (aV m) M (tb++⟨5,[41],0,p2⟩::rest)=.ok b (⟨5,[41],0,p2⟩::rest):=fun M hM=>
  aKd (R (m+1) (Yh _)) M hb Aq aA ⟨rfl,rfl⟩ aA (show M<iF 5 [41]by rw[show iF 5 [41]=8 by decide];omega)
 have Bv:oX (aDc L) k (kM op)≠0:=by rw[s2];omega
 have ch:∀(Aa:bZ) g,Aa (tb++⟨5,[41],0,p2⟩::rest)=.ok b (⟨5,[41],0,p2⟩::rest)->iN Aa (aDc L) (g+1) a (⟨k,kM op,0,p1⟩::(tb++⟨5,[41],0,p2⟩::rest))=.ok (Ex.mk 6 0 ByteArray.empty op [] [a,b]) (⟨5,[41],0,p2⟩::rest):=fun Aa g hs=>by
  have:=bOx Aa (aDc L) g a b ⟨k,kM op,0,p1⟩ (r:=tb++⟨5,[41],0,p2⟩::rest) Bv hs (by
   rw[aHp];show oX (aDc L) 5 [41]=0;obtain rfl|rfl|rfl|rfl|rfl:L=1\/L=2\/L=3\/L=4\/L=5:=by omega
   all_goals decide)
  rw[this];show PR.ok (aA7 (oX (aDc L) k (kM op)) a b) _=_;rw[s2];rfl
 obtain rfl|rfl|rfl|rfl|rfl:L=1\/L=2\/L=3\/L=4\/L=5:=by omega
 . show tN (aV m) _=_;unfold tN;rw[show iZ (aV m) (ta++_)=_ from e0 0 aA,PR.bind_ok];exact ch _ _ (e1 0 aA)
 . show qY (aV m) _=_;unfold qY;rw[show tN (aV m) (ta++_)=_ from e0 1 aA,PR.bind_ok];exact ch _ _ (e1 1 aA)
 . show qZ (aV m) _=_;unfold qZ;rw[show qY (aV m) (ta++_)=_ from e0 2 aA,PR.bind_ok];exact ch _ 0 (e1 2 aA)
 . show rA (aV m) _=_;unfold rA;rw[show qZ (aV m) (ta++_)=_ from e0 3 aA,PR.bind_ok];exact ch _ _ (e1 3 aA)
 . show sV (aV m) _=_;unfold sV;rw[show rA (aV m) (ta++_)=_ from e0 4 aA,PR.bind_ok];exact ch _ _ (e1 4 aA)
end
section
variable {n f:Nat}{x:Ex}{t rest:List Tk}
theorem bW0(hf:lV x)(h:bG (f+1) x t)(hc:pE rest)(hk:x.k=1\/x.k=2\/x.k=3\/x.k=4\/x.k=17):dD (aV n).ar (aV n).po (t++rest)=.ok x rest:=by
 have Gd:=bOu hf (by rcases hk with hk|hk|hk|hk|hk<;>simp[cO,hk]);have Ei:=hf.op0 aA aA;have Hf:=hf.a0 aA aA;have Dj:aB x.s.data.toList=x.s:=mH _;rcases hk with hk|hk|hk|hk|hk
 . have El:=lK hk rfl (hf.s0 aA aA aA aA aA aA) Ei Hf Gd;simp only[bG,bX,cL,mM,hk]at h;obtain⟨p,_,rfl,rfl⟩:=h;have e1:dK ([⟨3,Lib.itoa x.n,x.n,p⟩]++rest)=some (Ex.mk 1 x.n ByteArray.empty 0 [] [],rest):=aJk;unfold dD;rw[e1];exact aF1
 . have hs:=hf.s0 aA aA aA aA aA aA;rcases hf.n2 (.inl hk)with hn|hn;· exact bIg
   . exact bIg
 . have El:=lK hk (hf.n0 aA aA aA) rfl Ei Hf Gd;have hl:=hf.low (.inl hk);simp only[bG,bX,cL,mM,hk]at h;obtain⟨p,_,rfl,rfl⟩:=h;have e1:dK ([⟨1,x.s.data.toList,0,p⟩]++rest)=none:=by
    exact bC9
   have e2:∀w,aQ w=false->aG w ([⟨1,x.s.data.toList,0,p⟩]++rest)=false:=fun w hw=>rT 1 hl hw;unfold dD;rw[e1];simp only[e2 [91] aF,e2 [40] aF,e2 jO aF,e2 kO aF,Zb,if_false];rw[show([⟨1,x.s.data.toList,0,p⟩]++rest:List Tk)=⟨1,x.s.data.toList,0,p⟩::rest from rfl,tF hl,PR.bind_ok,hc.1,if_neg aC,Dj];exact aF1
 . have El:=lK hk (hf.n0 aA aA aA) rfl Ei Hf Gd;simp only[bG,bX,cL,mM,hk]at h;obtain⟨p,_,rfl,rfl⟩:=h;have e1:dK ([⟨2,x.s.data.toList,0,p⟩]++rest)=some (Ex.mk 4 0 (aB x.s.data.toList) 0 [] [],rest):=aJk;exact bEa
 . have El:=lK hk (hf.n0 aA aA aA) rfl Ei Hf Gd;simp only[bG,bX,cL,mM,hk]at h;obtain⟨p,_,rfl,rfl⟩:=h;have e1:dK ([⟨4,x.s.data.toList,0,p⟩]++rest)=some (Ex.mk 17 0 (aB x.s.data.toList) 0 [] [],rest):=aJk;exact bEa
theorem cCl(hf:lV x)(hx:bV x)(R:oG n)(h:bG (f+1) x t)(hn:t.length<=n+1)(hk:x.k=14):dD (aV n).ar (aV n).po (t++rest)=.ok x rest:=by
 have El:=lK hk (hf.n0 aA aA aA) (hf.s0 aA aA aA aA aA aA) (hf.op0 aA aA) (hf.a0 aA aA) rfl;simp only[bG,bX,cL,hk,aL,bB]at h;obtain⟨p0,_,rfl,h⟩:=h;obtain⟨ts,_,rfl,Aa,h⟩:=(iA _ _ _ _).1 h;obtain⟨p1,_,rfl,rfl⟩:=h;simp only[Yq,Yo,Zg]at hn
 have hl:x.subs≠[]:=fun e=>by
  have:=hf.lo
  rw[show cO x=(1,8)by simp[cO,hk],e]at this;simp at this
 have e1:=aVj (R.reads f) (m:=[93]) (p:=p1) (rest:=rest) aF x.subs hl ts (fun y hy=>hx.sub hy) Aa aA;have g1:∀r,dK (⟨5,[91],0,p0⟩::r)=none:=fun r=>by simp[dK]
 simp only[Yx,Yy,Zh];unfold dD;rw[g1];simp only[tG,if_true,Xn,e1,PR.bind_ok];exact aF1
theorem aVl{ar po:bZ}{s:LU}(hl:aQ s=true)(p q:Nat)(r:List Tk):dD ar po (⟨1,s,0,p⟩::⟨5,[40],0,q⟩::r)=uY ar po s r:=by
 have e1:dK (⟨1,s,0,p⟩::⟨5,[40],0,q⟩::r)=none:=by
  exact bC9
 have e2:∀w,aQ w=false->aG w (⟨1,s,0,p⟩::⟨5,[40],0,q⟩::r)=false:=fun w hw=>rT 1 hl hw;unfold dD;rw[e1];simp only[e2 [91] aF,e2 [40] aF,e2 jO aF,e2 kO aF,Zb,if_false];rw[tF hl,PR.bind_ok,tG,if_pos rfl,Xn]
theorem aVm{ar po:bZ}(H:aFn ar f n){s:LU}(l:List Ex)(Ax:∀y∈l,bV y){ts:List Tk}(h:bB (bG f) (nN l) ts)(hn:ts.length<=n)(p:Nat)(r:List Tk):
 uY ar po s (ts++⟨5,[41],0,p⟩::r)=rX po s l r:=by
 cases l with
 |nil=>
  have h':ts=[]:=h;subst h';unfold uY;rw[Zh,tG,if_pos rfl,Xn]
 |cons y l=>
  have h0:=h;rw[aL3]at h0;simp only[bB]at h0;obtain⟨ty,r',e,hy,_⟩:=h0;have Aa:aG [41] (ts++⟨5,[41],0,p⟩::r)=false:=by
   rw[e,Yy];exact bO0 (Ax y aC) hy _
  unfold uY;rw[Aa,if_neg aC,aVj H aF (y::l) aC ts Ax h hn,PR.bind_ok]
theorem cCm(hf:lV x)(hx:bV x)(R:∀k,k<=n->oG k)(h:bG (f+1) x t)(hn:t.length<=n+1)(hc:pE rest)(hk:x.k=13):dD (aV n).ar (aV n).po (t++rest)=.ok x rest:=by
 have hs:=hf.low aA;have Ei:=hf.op0 aA aA;have Hf:=hf.a0 aA aA;have Dj:aB x.s.data.toList=x.s:=mH _;rcases hf.n2 (.inr hk)with h0|h0
 . have El:=lK hk h0 rfl Ei Hf rfl;simp only[bG,bX,cL,hk,xX,h0,aL,bE]at h;obtain⟨p0,_,rfl,p1,_,rfl,h⟩:=h;obtain⟨ts,_,rfl,Ae,h⟩:=(iA _ _ _ _).1 h;obtain⟨p2,_,rfl,rfl⟩:=h;simp only[Yq,Yo,Zg]at hn;simp only[Yx,Yy,Zh];rw[aVl hs,aVm ((R n (Yh _)).reads f) x.subs (fun y hy=>hx.sub hy) Ae aA];unfold rX;rw[hc.2,if_neg aC,Dj];exact aF1
 . have Aa:1<=x.subs.length:=by
    have h:=hf.lo;rw[show cO x=(x.n,6+x.n)by simp[cO,hk],h0]at h;simp only at h;omega
   obtain⟨l,y,Ia⟩:∃l y,x.subs=l++[y]:=by
    rcases List.eq_nil_or_concat x.subs with he|⟨l,y,he⟩;· rw[he]at Aa;simp at Aa
    . exact⟨l,y,by rw[he,List.concat_eq_append]⟩
   have El:=lK hk h0 rfl Ei Hf Ia;have hy:bV y:=hx.sub aJj;have hg:gX (l++[y]) ((l++[y]).length-1)=y:=by simp[gX]
   have Aq:(l++[y]).take ((l++[y]).length-1)=l:=aC;simp only[bG,bX,cL,hk,xX,h0,if_true,Ia,hg,Aq,aL,bE]at h;obtain⟨p0,_,rfl,p1,_,rfl,p2,_,rfl,h⟩:=h;obtain⟨ts,_,rfl,Ae,h⟩:=(iA _ _ _ _).1 h;obtain⟨p3,_,rfl,p4,_,rfl,ty,_,rfl,Bs,p5,_,rfl,rfl⟩:=h;simp only[Yq,Yo,Zg]at hn;obtain⟨m,rfl⟩:∃m,n=m+1:=⟨n-1,by omega⟩;simp only[Yx,Yy,Zh];have Rm:=R m aA;have Ct:∀r,aK4 (⟨1,x.s.data.toList,0,p1⟩::r):=fun r=>⟨rT (w:=[45]) 1 hs aF,rT (w:=iE) 1 hs aF,rT (w:=oD) 1 hs aF⟩;refine aN3 (q:=p5) (Ct _) ?_ _;have e1:=Rm.po y f ty (⟨5,[41],0,p5⟩::rest) hy Bs aA ⟨rfl,rfl⟩ (show 1<=iF 5 [41]by decide);rw[aVl hs,aVm (Rm.reads f) l (fun z hz=>hx.sub (by rw[Ia];simp[hz])) Ae aA];unfold rX;rw[rY,if_pos rfl,Xn,e1,PR.bind_ok,Dj];exact congrArg (fun z=>PR.ok z _) El.symm
theorem cCn(hf:lV x)(hx:bV x)(R:oG n)(h:bG (f+1) x t)(hn:t.length<=n+1)(hk:x.k=16):dD (aV n).ar (aV n).po (t++rest)=.ok x rest:=by
 obtain⟨a,b,c,Ba⟩:=vK (dP hf (m:=3) yV);have ha:bV a:=hx.sub eR;have hb:bV b:=hx.sub eR;have hc:bV c:=hx.sub eR;have El:=lK hk (hf.n0 aA aA aA) (hf.s0 aA aA aA aA aA aA) (hf.op0 aA aA) (hf.a0 aA aA) Ba;simp only[bG,bX,cL,hk,Ba,aL,bE]at h;obtain⟨p0,_,rfl,ta,_,rfl,Aa,p1,_,rfl,p2,_,rfl,tb,_,rfl,Ae,p3,_,rfl,p4,_,rfl,tc,_,rfl,Aq,p5,_,rfl,rfl⟩:=h;simp only[Yq,Yo,Zg]at hn;simp only[Yx,Yy,Zh];have e1:=R.ar a f ta (⟨1,qO,0,p1⟩::⟨5,[91],0,p2⟩::(tb++⟨5,[93],0,p3⟩::⟨5,[61],0,p4⟩::(tc++⟨5,[41],0,p5⟩::rest))) ha Aa aA ⟨rfl,rfl⟩ (show 8<=iF 1 qO by decide);have e2:=R.ar b f tb (⟨5,[93],0,p3⟩::⟨5,[61],0,p4⟩::(tc++⟨5,[41],0,p5⟩::rest)) hb Ae aA ⟨rfl,rfl⟩ (show 8<=iF 5 [93]by decide);have e3:=R.ar c f tc (⟨5,[41],0,p5⟩::rest) hc Aq aA ⟨rfl,rfl⟩ (show 8<=iF 5 [41]by decide);have g1:∀r,dK (⟨5,[40],0,p0⟩::r)=none:=fun r=>by simp[dK]
 have g2:∀r,aG [91] (⟨5,[40],0,p0⟩::r)=false:=fun r=>rfl;unfold dD;rw[g1];simp only[g2,tG,rY,if_true,Zb,if_false,Xn,nQ,e1,PR.bind_ok,kL,e2,e3];exact aF1
theorem bO1(hx:bV x)(hk:x.k=12):1<=x.arms.length:=by
 have h:=hx x aGf;simp only[dA,Yu]at h;have ha:oT x=true:=h.1.1.1.2;unfold oT at ha;rw[hk]at ha;simp only[Yu]at ha;have h2:=ha.2;simp at h2;omega
theorem cCo(hf:lV x)(hx:bV x)(R:∀k,k<=n->oG k)(h:bG (f+1) x t)(hn:t.length<=n+1)(hk:x.k=12):dD (aV n).ar (aV n).po (t++rest)=.ok x rest:=by
 have hs:=hf.low aA;have El:=lK hk (hf.n0 aA aA aA) rfl (hf.op0 aA aA) rfl rfl;have Dj:aB x.s.data.toList=x.s:=mH _;have Aa:x.arms.length=x.subs.length:=by
  have h1:=hf.hi;have h2:=hf.lo;rw[show cO x=((x.arms.length:Int),(x.arms.length:Int))by simp[cO,hk]]at h1 h2;simp only at h1 h2;omega
 have Ae:1<=x.subs.length:=by have:=bO1 hx hk;omega
 simp only[bG,bX,cL,hk,aL,bE,bB]at h;obtain⟨p0,_,rfl,p1,_,rfl,p2,_,rfl,h⟩:=h;obtain⟨ts,_,rfl,Aq,h⟩:=(iA _ _ _ _).1 h;obtain⟨p3,_,rfl,rfl⟩:=h;simp only[Yq,Yo,Zg]at hn;obtain⟨m,rfl⟩:∃m,n=m+1:=⟨n-1,by omega⟩;have Rm:=R m aA;simp only[Yx,Yy,Zh];refine aN3 (q:=p3) ⟨rfl,rfl,rfl⟩ ?_ _;have g1:∀r,dK (⟨1,jO,0,p1⟩::r)=none:=fun r=>by simp[dK,jO,eF,dY]
 have g2:∀r,aG [91] (⟨1,jO,0,p1⟩::r)=false:=fun r=>rfl;have g3:∀r,aG [40] (⟨1,jO,0,p1⟩::r)=false:=fun r=>rfl;have hL:∀(am:List (List UInt8))(l:List Ex)(r:List Tk),am.length=l.length->bB (bG f) (oL am l) r->l.length<=r.length:=by
  intro am;induction am with
  |nil=>intro l r h _;simp at h;omega
  |cons a am ih=>
   intro l r h hr;cases l with
   |nil=>simp
   |cons y l=>
    simp only[oL,aL,bB]at hr;obtain⟨q0,rr,rfl,hr⟩:=hr
    have:∃z r2,rr=z::r2/\bB (bG f) (.sp::.tk 5 [45,62] 0::.sp::.sub y::.tk 5 [41] 0::oL am l) r2:=by
     unfold tP at hr;split at hr
     . obtain⟨q,r2,rfl,hr⟩:=hr;exact⟨_,r2,rfl,hr⟩
     . obtain⟨q,r2,rfl,hr⟩:=hr;exact⟨_,r2,rfl,hr⟩
    obtain⟨z,r2,e,Cu⟩:=this;simp only[bB]at Cu;obtain⟨_,_,rfl,ty,_,rfl,_,_,r3,rfl,Bs⟩:=Cu
    have:=ih l r3 nZ Bs
    rw[e];simp only[Yq,Yo];omega
 have Cz:=hL _ _ _ (by simpa using Aa) Aq;obtain⟨q,r,rfl,hr⟩:=aVk (Rm.reads f) (p:=p3) (rest:=rest) x.arms x.subs [] [] (ts.length+rest.length+1) ts Aa Ae (fun a ha=>hf.arms a ha) (fun y hy=>hx.sub hy) Aq aA aA;unfold dD;rw[g1];simp only[g2,g3,rY,if_true,Zb,if_false,Xn,wH,tF hs,PR.bind_ok,Yx,kL];rw[show(r++⟨5,[41],0,p3⟩::rest).length+1=(⟨5,[40],0,q⟩::r:List Tk).length+rest.length+1 by simp only[Yo,Yq];omega,hr,PR.bind_ok,Dj];exact congrArg (fun z=>PR.ok z _) El.symm
theorem cCp(hf:lV x)(hx:bV x)(H:∀k,k<n->SpA k)(h:bG (f+1) x t)(hn:t.length<=n+1)(hk:x.k=11):dD (aV n).ar (aV n).po (t++rest)=.ok x rest:=by
 obtain⟨a,Ba⟩:=sP (dP hf (m:=1) yV);have ha:bV a:=hx.sub eR;have hs:=hf.low aA;have Dj:aB x.s.data.toList=x.s:=mH _;obtain⟨am,hm⟩:∃m,x.arms=[m]:=by
  have h:=hf.a11 hk
  match hl:x.arms,h with
  |[m],_=>exact⟨m,rfl⟩
 have El:=lK hk (hf.n0 aA aA aA) rfl (hf.op0 aA aA) hm Ba;have Fs:=aH8 (hf.arms am aJm);have Bs:aB am.data.toList=am:=mH _;simp only[bG,bX,cL,hk,Ba,hm,aL,bE,Xl,List.map_nil]at h;obtain⟨p0,_,rfl,ta,_,rfl,Aa,p1,_,rfl,h⟩:=h;obtain⟨z,_,rfl,hz,h,hw⟩:=aY5 hs Fs h;obtain⟨p2,_,rfl,rfl⟩:=h;simp only[Yq,Yo,Zg]at hn;have h1:=nR ha Aa;obtain⟨m,rfl⟩:∃m,n=m+1:=⟨n-1,by omega⟩;simp only[Yx,Yy,Zh];obtain⟨d,hd,Aq⟩:=H m aA a f ta (⟨1,gR,0,p1⟩::(z++⟨5,[41],0,p2⟩::rest)) ha Aa aA ⟨rfl,rfl⟩;have Ae:=aY7 ha Aa (⟨1,gR,0,p1⟩::(z++⟨5,[41],0,p2⟩::rest));obtain⟨z0,r0,rfl,_⟩:=aFa f a ta ha Aa;rw[Yx]at Ae Aq⊢;refine aF9 (q:=p2) ?_ _;rw[El];rw[aN1 Ae];unfold nY;have Ct:d+2<=(z0::(r0++⟨1,gR,0,p1⟩::(z++⟨5,[41],0,p2⟩::rest))).length:=by
  simp only[Yq,Yo]at hd⊢;omega
 generalize hG:(z0::(r0++⟨1,gR,0,p1⟩::(z++⟨5,[41],0,p2⟩::rest))).length+1=G at *;obtain⟨g,rfl⟩:∃g,G=g+1+d:=⟨G-1-d,by omega⟩;rw[Aq (g+1)];unfold kS;rw[show aG [91] (⟨1,gR,0,p1⟩::(z++⟨5,[41],0,p2⟩::rest))=false from rfl,if_neg aC,rY,if_pos rfl,Xn,hw,PR.bind_ok,Dj];show kS (aV m).ar g (Ex.mk 11 0 x.s 0 [aB am.data.toList] [a]) _=_;rw[Bs];exact aL2 _ _ _ (show 1<=iF 5 [41]by decide)
end
theorem bTc{n:Nat}(H:∀k,k<n->SpA k)(R:∀k,k<=n->oG k)(x:Ex)(f:Nat)(t rest:List Tk)(hx:bV x)(h:bG (f+1) x t)(hn:t.length<=n+1)(hc:pE rest)(Ek:x.k≠15):dD (aV n).ar (aV n).po (t++rest)=.ok x rest:=by
 have hf:=hx.part;have h1:=hf.k1;have Aa:=hf.k17;obtain hk|hk|hk|hk|hk|hk|hk|hk|hk|hk|hk|hk|hk|hk|hk|hk:x.k=1\/x.k=2\/x.k=3\/x.k=4\/x.k=5\/x.k=6\/x.k=7\/x.k=8\/x.k=9\/x.k=10\/x.k=11\/x.k=12\/x.k=13\/x.k=14\/x.k=16\/x.k=17:=by omega
 . exact aF4
 . exact aF4
 . exact aF4
 . exact aF4
 . exact cDl hf hx R h hn hk
 . exact cDn hf hx R h hn hk
 . exact cDm hf hx R h hn hk
 . exact cDj hf hx R h hn hk
 . exact cDk hf hx R h hn hk
 . exact cCk hf hx R h hn hk
 . exact cCp hf hx H h hn hk
 . exact cCo hf hx R h hn hk
 . exact cCm hf hx R h hn hc hk
 . exact cCl hf hx (R n (Yh _)) h hn hk
 . exact cCn hf hx (R n (Yh _)) h hn hk
 . exact aF4
theorem spA:∀n,SpA n:=by
 intro n;induction n using Nat.strongRecOn with
 |_ n H=>
  have R:∀k,k<=n->oG k:=fun k hk=>bFe k fun m hm=>H m aA;intro y f;induction f generalizing y with
  |zero=>intro t rest _ h;exact h.elim
  |succ f ih=>
   intro t rest hy h hn hc;by_cases Ek:y.k=15
   . have hf:=hy.part;obtain⟨a,b,Ba⟩:=kF (dP hf (m:=2) aDr);have ha:bV a:=hy.sub eR;have hb:bV b:=hy.sub eR;have El:=lK Ek (hf.n0 aA aA aA) (hf.s0 aA aA aA aA aA aA) (hf.op0 aA aA) (hf.a0 aA aA) Ba;simp only[bG,bX,cL,Ek,Ba,aL]at h;obtain⟨ta,_,rfl,Aa,p1,_,rfl,tb,_,rfl,Ae,p2,_,rfl,rfl⟩:=h;simp only[Yq,Yo,Zg]at hn;have h1:=nR ha Aa;simp only[Yx,Yy,Zh];obtain⟨m,hm,hg⟩:=ih a ta (⟨5,[91],0,p1⟩::(tb++⟨5,[93],0,p2⟩::rest)) ha Aa aA ⟨rfl,rfl⟩;have e1:=(R n (Yh _)).ar b f tb (⟨5,[93],0,p2⟩::rest) hb Ae aA ⟨rfl,rfl⟩ (show 8<=iF 5 [93]by decide);refine⟨m+1,by simp only[Yo,Yq];omega,fun g=>?_⟩;rw[show g+(m+1)=g+1+m by omega,hg (g+1)]
     conv=>lhs;unfold kS
     rw[tG,if_pos rfl,Xn,e1,PR.bind_ok,kL,PR.bind_ok,El]
   . refine⟨0,Ys _,fun g=>?_⟩;rw[bTc (fun k hk=>H k hk) R y f t rest hy h hn hc Ek,PR.bind_ok];rfl
theorem bW1{x:Ex}{f n:Nat}{t rest:List Tk}(hx:bV x)(h:bG f x t)(hn:t.length<=n+1)(hc:pE rest)(hl:8<=mC rest):pI (aV n) (t++rest)=.ok x rest:=
 (bFe (n+1) fun m _=>spA m).ar x f t rest hx h hn hc hl
end Go.Proofs.YtagkcjpoipcpkaaGreatDoor
