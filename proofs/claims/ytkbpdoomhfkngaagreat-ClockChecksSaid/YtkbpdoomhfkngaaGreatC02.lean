/- A part of the proof. Conditions: each theorem's own. -/
import Derived.Test.YtkbpdoomhfkngaaGreatC01
namespace Go.Proofs.YtkbpdoomhfkngaaGreat
set_option linter.unusedVariables false
set_option linter.unusedSimpArgs false
set_option maxRecDepth 100000
set_option maxHeartbeats 40000000
section
open Go.RowKit Go.Sort
theorem Yn:type_of% @List.length_append:=@List.length_append
theorem Yo:type_of% @List.length_cons:=@List.length_cons
theorem Yv:type_of% @List.cons_append:=@List.cons_append
theorem Yy:type_of% @Bool.false_eq_true:=@Bool.false_eq_true
theorem Zf:type_of% @List.mem_cons_of_mem:=@List.mem_cons_of_mem
theorem Zm:type_of% @Lib.size_eq:=@Lib.size_eq
theorem Zo:type_of% @List.mem_append:=@List.mem_append
end
section
open Go.RowKit
def Rd(k:IntKind)(w:World)(A:Option Addr)(n c:Nat)(l:List Int):Prop:=
 l.length=n/\n<=c/\c<=maxLen/\(∀z∈l,(Lit.int k z).wf=true)/\
 (0<n->∃b off,A=some ⟨b,off,none⟩/\b<w.heap.size/\∀i,i<n->w.cell? ⟨b,off+i,none⟩=some (.int k (l[i]?.getD 0)))
section
variable {k:IntKind}{w w':World}{A:Option Addr}{n c:Nat}{l:List Int}
theorem Rd.nil_(k:IntKind)(w:World):Rd k w none 0 0 []:=⟨rfl,Yh _,by decide,by simp,by omega⟩
theorem Rd.len(h:Rd k w A n c l):l.length=n:=h.1
theorem Rd.max(h:Rd k w A n c l):n<=9223372036854775807:=by
 have h1:=h.2.1;have h2:=h.2.2.1;unfold maxLen at h2;omega
theorem Rd.at_(h:Rd k w A n c l){i:Nat}(hi:i<n):
 ∃b off,A=some ⟨b,off,none⟩/\b<w.heap.size/\∀i,i<n->w.cell? ⟨b,off+i,none⟩=some (.int k (l[i]?.getD 0)):=
 h.2.2.2.2 aA
theorem Rd.wf(h:Rd k w A n c l){i:Nat}(hi:i<n):(Lit.int k (l[i]?.getD 0)).wf=true:=by
 have h1:=h.1
 have:l[i]?.getD 0∈l:=by
  rw[Yk aA];exact Zh _
 exact h.2.2.2.1 _ this
theorem Rd.u8(h:Rd .u8 w A n c l){i:Nat}(hi:i<n):0<=l[i]?.getD 0/\l[i]?.getD 0<=255:=by
 simpa[Lit.wf,IntKind.min,IntKind.max,IntKind.signed,IntKind.bits]using h.wf hi
theorem Rd.keep(h:Rd k w A n c l)(hs:w.heap.size<=w'.heap.size)(hk:∀p:Addr,p.block<w.heap.size->w'.cell? p=w.cell? p):Rd k w' A n c l:=
 ⟨h.1,h.2.1,h.2.2.1,h.2.2.2.1,fun hn=>by
  obtain⟨b,off,e,hb,hc⟩:=h.2.2.2.2 hn;exact⟨b,off,e,by omega,fun i hi=>(hk _ hb).trans (hc i hi)⟩⟩
theorem Rd.below(h:Rd k w A n c l)(hb:Below w.heap.size w w'):Rd k w' A n c l:=h.keep hb.size fun _ hp=>hb.cell hp
theorem Rd.drewN(h:Rd k w A n c l)(m:Nat):Rd k (w.drewN m) A n c l:=h
theorem Rd.drew(h:Rd k w A n c l):Rd k w.drew A n c l:=h
theorem Rd.alloc(h:Rd k w A n c l)(o:Obj):Rd k (w.alloc o) A n c l:=h.below ((Yg _ _).alloc (Yh _) o)
end
theorem Rd.of_own{k:IntKind}{w:World}{base:Nat}{e:TypeId}{v:Value}{n:Nat}{xs:List Value}{l:List Int}(h:w.ownsRow base e 1 v n xs)(hx:xs=l.map (Value.int k))(Aq:∀z∈l,(Lit.int k z).wf=true):
 ∃A c,v=.slice A n c/\Rd k w A n c l/\(0<n->∃g,A=some ⟨g,0,none⟩/\base<=g):=by
 subst hx;have hl:l.length=n:=by have:=h.1;simpa using this
 rcases h.2 with⟨rfl,rfl⟩|⟨g,cap,cur,rfl,hg,hh,hnc,hcm,hcs,ht⟩
 . obtain rfl:l=[]:=Zr hl;exact⟨none,0,rfl,Rd.nil_ _ _,by omega⟩
 . refine⟨_,cap,rfl,⟨hl,hnc,hcm,Aq,fun hn=>⟨g,0,rfl,?_,fun i hi=>?_⟩⟩,fun _=>⟨g,rfl,hg⟩⟩;· exact(Yl.1 hh).1
   . have h1:=h.cellAt i aA;rw[Nat.zero_add,h1];simp[Yk (show i<l.length by omega)]
theorem Rd.news{k:IntKind}{w:World}{a:Addr}{n c:Nat}{l:List Int}(h:Rd k w (some a) n c l)(j:Nat)(u:Value)(hu:(l.map (Value.int k))[j]?=some u):w.cell? (a.add j)=some u:=by
 exact aQ0
theorem bG{B:Nat}{a w:World}(h:Below B a w)(n:Nat):Below B a (w.drewN n):=⟨h.os,h.tape,h.output,h.size,h.block⟩
theorem eL{k:IntKind}{a b:Int}(h:a=b):Ending.returned (.int k a)=.returned (.int k b):=uC
theorem aL{a b:Bool}(h:a=b):Ending.returned (.bool a)=.returned (.bool b):=uC
end
def gR(n:Int):Bool:=decide (97<=n/\n<=122)
def jG(n:Int):Bool:=decide (65<=n/\n<=90)
def gI(n:Int):Bool:=decide (48<=n/\n<=57)
def dZ(n:Int):Bool:=gR n || jG n || gI n || decide (n=95)
def fM(first:Int->Bool)(l:List UInt8):Bool:=
 decide (1<=l.length/\l.length<=12) && (match l with|[]=>false|c::_=>first (c.toNat:Int)) && l.all fun c=>dZ (c.toNat:Int)
def oR:List (List UInt8):=[[110,111,100,101],[114,101,116,117,114,110,115],[118,97,114],[108,101,116],[116,101,108],[101,110,117,109],[105,102],[116,104,101,110],[101,108,115,101],[102,98,121],[112,114,101],[119,104,101,110],[109,101,114,103,101],[101,118,101,114,121],[110,111,116],[97,110,100],[111,114],[120,111,114],[109,111,100],[116,114,117,101],[102,97,108,115,101],[105,110,116],[98,111,111,108],[119,105,116,104]]
def nO(l:List UInt8):Bool:=decide (l∈oR)
def bE(l:List UInt8):Bool:=fM gR l && !nO l
def eU(l:List UInt8):Bool:=fM jG l
def dJ(c:UInt8):List UInt8->List (List UInt8)
 |[]=>[[]]
 |b::l=>if b=c then []::dJ c l else match dJ c l with|[]=>[[b]]|p::ps=>(b::p)::ps
def iJ(l:List UInt8):Bool:=
 decide (1<=l.length/\l.length<=3) && (match l with|[]=>false|c::_=>!decide (c=48)) && l.all fun c=>gI (c.toNat:Int)
def aEt:List (List UInt8)->Bool
 |[a]=>bE a
 |[a,n]=>bE a && iJ n
 |_=>false
def fN(l:List UInt8):Bool:=aEt (dJ 46 l)
def fH(l:List UInt8):Bool:=(dJ 47 l).all fN
theorem yL(c:UInt8)(l:List UInt8):dJ c l≠[]:=by
 cases l with
 |nil=>simp[dJ]
 |cons b l=>
  unfold dJ;split;· simp
  . split<;>simp
theorem sR{c:UInt8}:∀{l:List UInt8},c∉l->dJ c l=[l]
 |[],_=>rfl
 |b::l,h=>by
  have h1:b≠c:=fun e=>h (by simp[e]);have h2:=sR (l:=l) (fun m=>h (Zf _ m));simp[dJ,h1,h2]
theorem xU{c:UInt8}:∀(p r:List UInt8),dJ c (p++c::r)=dJ c p++dJ c r
 |[],r=>by simp[dJ]
 |b::p,r=>by
  have ih:=xU (c:=c) p r;by_cases hb:b=c;· simp[dJ,hb,ih]
  . have hn:=yL c p;cases hp:dJ c p with
    |nil=>exact absurd hp hn
    |cons q qs=>simp[dJ,hb,ih,hp]
theorem aJ8{c:UInt8}{p r:List UInt8}(h:c∉p):dJ c (p++c::r)=p::dJ c r:=by
 rw[xU,sR h];rfl
theorem aYm{n:Int}(h:dZ n=true):48<=n/\n<=122:=by
 simp[dZ,gR,jG,gI]at h;omega
theorem aVu{first:Int->Bool}{l:List UInt8}(h:fM first l=true):∀c∈l,dZ (c.toNat:Int)=true:=by
 simp[fM]at h;exact h.2
theorem aYn(s t:List UInt8):fH (s++47::t)=(fH s && fH t):=by
 unfold fH;rw[xU,List.all_append]
theorem aTo{l:List UInt8}(h:(46:UInt8)∈l):iJ l=false:=by
 cases hn:iJ l with
 |false=>rfl
 |true=>
  simp[iJ]at hn
  have:=hn.2 46 h
  revert this
  decide
theorem aGr{l:List UInt8}(h:(46:UInt8)∉l):fN l=bE l:=by
 unfold fN;rw[sR h];rfl
theorem aI2{p r:List UInt8}(h:(46:UInt8)∉p):fN (p++46::r)=(bE p && iJ r):=by
 unfold fN;rw[aJ8 h];by_cases hr:(46:UInt8)∈r
 . rw[aTo hr];obtain⟨a,b,rfl⟩:=List.append_of_mem hr;rw[xU];have h1:=yL 46 a;have h2:=yL 46 b;cases ha:dJ 46 a with
   |nil=>exact absurd ha h1
   |cons x xs=>
    cases hb:dJ 46 b with
    |nil=>exact absurd hb h2
    |cons y ys=>
     cases xs with
     |nil=>simp[aEt]
     |cons z zs=>simp[aEt]
 . rw[sR hr];rfl
theorem aTp{l:List UInt8}{c:UInt8}(h:Lib.indexByte l c<0):c∉l:=by
 induction l with
 |nil=>simp
 |cons b l ih=>
  unfold Lib.indexByte at h;have hg:=Lib.indexByte_ge l c;split at h;· omega
  . split at h
    . rename_i h1 h2
      have:=ih (by simp at h2;omega)
      simp at h1;simp[this];exact fun e=>h1 e.symm
    . rename_i h1 h2;simp at h2;omega
theorem aTq{l:List UInt8}{c:UInt8}(h:0<=Lib.indexByte l c):
 ∃k:Nat,Lib.indexByte l c=k/\k<l.length/\c∉l.take k/\l=l.take k++c::l.drop (k+1):=by
 induction l with
 |nil=>simp[Lib.indexByte]at h
 |cons b l ih=>
  unfold Lib.indexByte at h⊢;have hg:=Lib.indexByte_ge l c;by_cases hb:b=c
  . subst hb;exact⟨0,by simp,by simp,by simp,by simp⟩
  . have Ia:(b==c)=false:=by simpa using hb
    simp only[Ia,Yy,if_false]at h⊢;by_cases h1:Lib.indexByte l c=-1;· simp[h1]at h
    . have Aq:(Lib.indexByte l c==-1)=false:=by simpa using h1
      simp only[Aq,Yy,if_false]at h⊢;obtain⟨k,e1,e2,e3,e4⟩:=ih aA;refine⟨k+1,by omega,by simp;omega,?_,?_⟩
      . simp;exact⟨fun e=>hb e.symm,e3⟩
      . simp;exact e4
theorem aBv{l:List UInt8}(h:(47:UInt8)∉l):fH l=fN l:=by
 unfold fH;rw[sR h];simp
theorem aJ9{p r:List UInt8}(h:(47:UInt8)∉p):fH (p++47::r)=(fN p && fH r):=by
 rw[aYn,aBv h]
def vW(ls:List (List UInt8)):Bool:=decide ls.Nodup
inductive Ex where
 |mk (k n:Int) (s:ByteArray) (op:Int) (arms:List ByteArray) (subs:List Ex)
def Ex.k:Ex->Int|.mk k _ _ _ _ _=>k
def Ex.n:Ex->Int|.mk _ n _ _ _ _=>n
def Ex.s:Ex->ByteArray|.mk _ _ s _ _ _=>s
def Ex.op:Ex->Int|.mk _ _ _ op _ _=>op
def Ex.arms:Ex->List ByteArray|.mk _ _ _ _ a _=>a
def Ex.subs:Ex->List Ex|.mk _ _ _ _ _ l=>l
instance :Inhabited Ex:=⟨.mk 0 0 ByteArray.empty 0 [] []⟩
mutual
def bD:Ex->Nat
 |.mk _ _ _ _ _ l=>1+dX l
def dX:List Ex->Nat
 |[]=>0
 |x::l=>bD x+dX l
end
mutual
def iA:Ex->Nat
 |.mk _ _ _ _ _ l=>gP l+1
def gP:List Ex->Nat
 |[]=>0
 |x::l=>max (iA x) (gP l)
end
mutual
def bL:Ex->List Ex
 |.mk k n s op a l=>.mk k n s op a l::eC l
def eC:List Ex->List Ex
 |[]=>[]
 |x::l=>bL x++eC l
end
theorem mF(x:Ex):bD x=1+dX x.subs:=by cases x;simp only[bD,Ex.subs]
theorem uR(x:Ex):iA x=gP x.subs+1:=by cases x;simp only[iA,Ex.subs]
theorem qW(x:Ex):bL x=x::eC x.subs:=by cases x;simp only[bL,Ex.subs]
theorem aGs(a b:List Ex):dX (a++b)=dX a+dX b:=by
 induction a with
 |nil=>simp[dX]
 |cons x a ih=>simp[dX,ih];omega
theorem aF6(a b:List Ex):eC (a++b)=eC a++eC b:=by
 induction a with
 |nil=>simp[eC]
 |cons x a ih=>simp[eC,ih]
theorem aS5(a b:List Ex):gP (a++b)=max (gP a) (gP b):=by
 induction a with
 |nil=>simp[gP]
 |cons x a ih=>simp only[Yv,gP,ih];omega
theorem sW(x:Ex):0<bD x:=by rw[mF];omega
theorem aHx{l:List Ex}{x:Ex}(h:x∈l):bD x<=dX l:=by
 induction l with
 |nil=>cases h
 |cons y l ih=>
  simp only[dX];exact aOr
theorem pQ{x y:Ex}(h:y∈x.subs):bD y<bD x:=by
 have:=aHx h
 rw[mF x];omega
theorem xG(l:List Ex)(k:Nat):dX (l.take k)<=dX l:=by
 have:=aGs (l.take k) (l.drop k)
 rw[List.take_append_drop]at this;omega
theorem aBw(l:List Ex):l.length<=dX l:=by
 induction l with
 |nil=>simp[dX]
 |cons x l ih=>have:=sW x;simp[dX];omega
mutual
theorem sN:∀x:Ex,(bL x).length=bD x
 |.mk k n s op a l=>by simp only[bL,bD,Yo,aBc l];omega
theorem aBc:∀l:List Ex,(eC l).length=dX l
 |[]=>rfl
 |x::l=>by simp only[eC,dX,Yn,sN x,aBc l]
end
mutual
theorem uL:∀x:Ex,iA x<=bD x
 |.mk k n s op a l=>by simp only[iA,bD];have:=aF7 l;omega
theorem aF7:∀l:List Ex,gP l<=dX l
 |[]=>Yh _
 |x::l=>by simp only[gP,dX];have:=uL x;have:=aF7 l;omega
end
def aM(x:Ex)(i:Nat):Ex:=x.subs[i]?.getD default
theorem oL{x:Ex}{i:Nat}(h:i<x.subs.length):aM x i∈x.subs:=by
 unfold aM;exact aEo
theorem aBx{x:Ex}{i:Nat}(h:i<x.subs.length):x.subs.take (i+1)=x.subs.take i++[aM x i]:=by
 unfold aM;exact aOj
theorem xH{x:Ex}{i:Nat}(h:i<x.subs.length):dX (x.subs.take (i+1))=dX (x.subs.take i)+bD (aM x i):=by
 rw[aBx h,aGs];simp[dX]
theorem aF8{x:Ex}{i:Nat}(h:i<x.subs.length):gP (x.subs.take (i+1))=max (gP (x.subs.take i)) (iA (aM x i)):=by
 rw[aBx h,aS5];simp[gP]
theorem aF9{x:Ex}{i:Nat}(h:i<x.subs.length):eC (x.subs.take (i+1))=eC (x.subs.take i)++bL (aM x i):=by
 rw[aBx h,aF6];simp[eC]
theorem nK{P:Ex->Prop}(h:∀x,(∀i,i<x.subs.length->P (aM x i))->P x):∀x,P x:=by
 have:∀n x,bD x<=n->P x:=by
  intro n;induction n with
  |zero=>intro x hx;have:=sW x;omega
  |succ n ih=>
   intro x hx;refine h x fun i hi=>ih _ ?_
   have:=pQ (oL hi)
   omega
 exact fun x=>this _ x (Yh _)
section
open Go.RowKit
def aP(w:World)(A:Option Addr)(n:Nat)(ss:List ByteArray):Prop:=
 ss.length=n/\n<=9223372036854775807/\
 (0<n->∃b off,A=some ⟨b,off,none⟩/\b<w.heap.size/\∀i,i<n->w.cell? ⟨b,off+i,none⟩=some (.string (ss[i]?.getD ByteArray.empty)))
section
variable {w w':World}{A:Option Addr}{n:Nat}{ss:List ByteArray}
theorem aP.nil_(w:World):aP w none 0 []:=⟨rfl,by omega,by omega⟩
theorem aP.len(h:aP w A n ss):ss.length=n:=h.1
theorem aP.max(h:aP w A n ss):n<=9223372036854775807:=h.2.1
theorem aP.at_(h:aP w A n ss){i:Nat}(hi:i<n):
 ∃b off,A=some ⟨b,off,none⟩/\b<w.heap.size/\∀i,i<n->w.cell? ⟨b,off+i,none⟩=some (.string (ss[i]?.getD ByteArray.empty)):=
 h.2.2 aA
theorem aP.keep(h:aP w A n ss)(hs:w.heap.size<=w'.heap.size)(hk:∀p:Addr,p.block<w.heap.size->w'.cell? p=w.cell? p):aP w' A n ss:=
 ⟨h.1,h.2.1,fun hn=>by
  obtain⟨b,off,e,hb,hc⟩:=h.2.2 hn;exact⟨b,off,e,by omega,fun i hi=>(hk _ hb).trans (hc i hi)⟩⟩
theorem aP.below(h:aP w A n ss)(hb:Below w.heap.size w w'):aP w' A n ss:=h.keep hb.size fun _ hp=>hb.cell hp
theorem aP.drewN(h:aP w A n ss)(m:Nat):aP (w.drewN m) A n ss:=h
theorem aP.alloc(h:aP w A n ss)(o:Obj):aP (w.alloc o) A n ss:=h.below ((Yg _ _).alloc (Yh _) o)
theorem aP.of_own{base:Nat}{e:TypeId}{v:Value}(h:w.ownsRow base e 1 v n (ss.map Value.string))(hm:n<=9223372036854775807):
 ∃A c,v=.slice A n c/\aP w A n ss/\(A=none->n=0):=by
 have hl:ss.length=n:=by have:=h.1;simpa using this
 rcases h.2 with⟨rfl,rfl⟩|⟨g,cap,cur,rfl,hg,hh,hnc,hcm,hcs,ht⟩
 . obtain rfl:ss=[]:=Zr hl;exact⟨none,0,rfl,aP.nil_ _,fun _=>rfl⟩
 . refine⟨_,cap,rfl,⟨hl,hm,fun hn=>⟨g,0,rfl,?_,fun i hi=>?_⟩⟩,fun h=>by cases h⟩;· exact(Yl.1 hh).1
   . have h1:=h.cellAt i aA;rw[Nat.zero_add,h1];simp[Yk (show i<ss.length by omega)]
theorem aP.lit(w:World)(T:TypeId)(ss:List ByteArray)(n:Nat)(hn:ss.length=n)(hm:n<=9223372036854775807)(cs:Array Value)(hcs:cs=(ss.map Value.string).toArray):
 aP (w.alloc (.cells cs T)) (some ⟨w.heap.size,0,none⟩) n ss:=by
 subst hcs hn;refine⟨rfl,hm,fun _=>⟨_,_,rfl,by simp,fun i hi=>?_⟩⟩;rw[Nat.zero_add,Zp];simp[Yk hi]
end
theorem aCz{w:World}{x:Addr}{n:Nat}{ss:List ByteArray}(Jx:n<=ss.length)(hm:n<=9223372036854775807)(hc:∀i,i<ss.length->w.cell? (x.add i)=some (.string (ss.getD i ByteArray.empty))):
 aP w (some x) n (ss.take n):=by
 refine⟨by simp;omega,hm,fun hn=>?_⟩;obtain⟨b,off,Bp⟩:=x;have h0:=hc 0 aA;have Aq:Bp=none:=aPq;subst Aq;have Bx:∀i,(⟨b,off,none⟩:Addr).add i=⟨b,off+i,none⟩:=fun i=>by unfold Addr.add;split<;>simp_all
 refine⟨b,off,rfl,Yi w _ h0,fun i hi=>?_⟩;rw[<-Bx,hc i aA,List.getElem?_take_of_lt hi,List.getD_eq_getElem?_getD]
theorem qR{a b c:World}(h1:Below a.heap.size a b)(h2:Below b.heap.size b c):Below a.heap.size a c:=h1.tr h2
end
section
open Go.RowKit
def iZ(x:Ex)(A:Option Addr)(ca:Nat)(B:Option Addr)(cb:Nat):List Value:=
 [.int .i64 x.k,.int .i64 x.n,.string x.s,.int .i64 x.op,.slice A x.arms.length ca,.slice B x.subs.length cb]
def aE(x:Ex)(A:Option Addr)(ca:Nat)(B:Option Addr)(cb:Nat):Array Value:=
 #[.int .i64 x.k,.int .i64 x.n,.string x.s,.int .i64 x.op,.slice A x.arms.length ca,.slice B x.subs.length cb]
mutual
def aH(w:World):Ex->Option Addr->Option Addr->Prop
 |.mk _ _ _ _ arms Aq,A,B=>aP w A arms.length arms/\Aq.length<=9223372036854775807/\
  (0<Aq.length->∃b off,B=some ⟨b,off,none⟩/\b<w.heap.size/\kC w Aq b off)
def kC(w:World):List Ex->Nat->Nat->Prop
 |[],_,_=>True
 |x::l,b,off=>(∃A ca B cb,w.rangeAt b off (iZ x A ca B cb)/\aH w x A B)/\kC w l b (off+6)
end
def uG(w:World)(v:Value)(x:Ex):Prop:=∃A ca B cb,v=.agg (aE x A ca B cb)/\aH w x A B
def eQ(w:World)(A:Option Addr)(n:Nat)(l:List Ex):Prop:=
 l.length=n/\n<=9223372036854775807/\(0<n->∃b off,A=some ⟨b,off,none⟩/\b<w.heap.size/\kC w l b off)
section
variable {w w':World}{A B:Option Addr}{n:Nat}{x:Ex}{l:List Ex}
theorem bG4(x:Ex)(A:Option Addr)(ca:Nat)(B:Option Addr)(cb:Nat):(iZ x A ca B cb).toArray=aE x A ca B cb:=rfl
theorem vK:aH w x A B↔aP w A x.arms.length x.arms/\eQ w B x.subs.length x.subs:=by
 cases x;simp only[aH,eQ,Ex.arms,Ex.subs,true_and]
theorem aH.arms(h:aH w x A B):aP w A x.arms.length x.arms:=(vK.1 h).1
theorem aH.subs(h:aH w x A B):eQ w B x.subs.length x.subs:=(vK.1 h).2
theorem aKa:∀(l:List Ex){b off:Nat},kC w l b off->∀i,i<l.length->∃A ca B cb,w.rangeAt b (off+i*6) (iZ (l[i]?.getD default) A ca B cb)/\aH w (l[i]?.getD default) A B
 |[],_,_,_,_,hi=>absurd hi aG
 |x::l,b,off,h,i,hi=>by
  simp only[kC]at h;cases i with
  |zero=>simpa using h.1
  |succ i=>
   have:=aKa l h.2 i qI
   rw[show off+6+i*6=off+(i+1)*6 by omega]at this;simpa using this
theorem aC0:∀(l:List Ex){b off:Nat},(∀i,i<l.length->∃A ca B cb,w.rangeAt b (off+i*6) (iZ (l[i]?.getD default) A ca B cb)/\aH w (l[i]?.getD default) A B)->kC w l b off
 |[],_,_,_=>by simp only[kC]
 |x::l,b,off,h=>by
  simp only[kC];refine⟨by simpa using h 0 aG,aC0 l fun i hi=>?_⟩
  have:=h (i+1) qI
  rw[show off+(i+1)*6=off+6+i*6 by omega]at this;simpa using this
theorem eQ.len(h:eQ w A n l):l.length=n:=h.1
theorem eQ.max(h:eQ w A n l):n<=9223372036854775807:=h.2.1
theorem eQ.at_(h:eQ w A n l){i:Nat}(hi:i<n):
 ∃b off,A=some ⟨b,off,none⟩/\b<w.heap.size/\∀i,i<n->∃A' ca B' cb,w.rangeAt b (off+i*6) (iZ (l[i]?.getD default) A' ca B' cb)/\aH w (l[i]?.getD default) A' B':=by
 obtain⟨b,off,e,hb,hr⟩:=h.2.2 aA;exact⟨b,off,e,hb,fun i hi=>aKa l hr i (by rw[h.1];exact hi)⟩
theorem eQ.nil_(w:World):eQ w none 0 []:=⟨rfl,by omega,by omega⟩
theorem fT{cs:List Value}{b o:Nat}(h:w.rangeAt b o cs)(hb:b<w.heap.size)(hk:∀p:Addr,p.block<w.heap.size->w'.cell? p=w.cell? p):w'.rangeAt b o cs:=fun j v hv=>(hk _ hb).trans (h j v hv)
mutual
theorem aI3(hs:w.heap.size<=w'.heap.size)(hk:∀p:Addr,p.block<w.heap.size->w'.cell? p=w.cell? p):∀(x:Ex)(A B:Option Addr),aH w x A B->aH w' x A B
 |.mk _ _ _ _ arms Aq,A,B,h=>by
  simp only[aH]at h⊢;refine⟨h.1.keep hs hk,h.2.1,fun hn=>?_⟩;obtain⟨b,off,e,hb,hr⟩:=h.2.2 hn;exact⟨b,off,e,by omega,aBy hs hk Aq b off hb hr⟩
theorem aBy(hs:w.heap.size<=w'.heap.size)(hk:∀p:Addr,p.block<w.heap.size->w'.cell? p=w.cell? p):∀(l:List Ex)(b off:Nat),b<w.heap.size->kC w l b off->kC w' l b off
 |[],_,_,_,_=>by simp only[kC]
 |x::l,b,off,hb,h=>by
  simp only[kC]at h⊢;obtain⟨⟨A,ca,B,cb,h1,h2⟩,h3⟩:=h;exact⟨⟨A,ca,B,cb,fT h1 hb hk,aI3 hs hk x A B h2⟩,aBy hs hk l b (off+6) hb h3⟩
end
theorem aH.keep(h:aH w x A B)(hs:w.heap.size<=w'.heap.size)(hk:∀p:Addr,p.block<w.heap.size->w'.cell? p=w.cell? p):aH w' x A B:=aI3 hs hk x A B h
theorem aH.below(h:aH w x A B)(hb:Below w.heap.size w w'):aH w' x A B:=h.keep hb.size fun _ hp=>hb.cell hp
theorem aH.alloc(h:aH w x A B)(o:Obj):aH (w.alloc o) x A B:=h.below ((Yg _ _).alloc (Yh _) o)
theorem aH.drewN(h:aH w x A B)(m:Nat):aH (w.drewN m) x A B:=h.keep (Yh _) fun _ _=>rfl
theorem aH.drew(h:aH w x A B):aH w.drew x A B:=h.keep (Yh _) fun _ _=>rfl
theorem eQ.keep(h:eQ w A n l)(hs:w.heap.size<=w'.heap.size)(hk:∀p:Addr,p.block<w.heap.size->w'.cell? p=w.cell? p):eQ w' A n l:=
 ⟨h.1,h.2.1,fun hn=>by
  obtain⟨b,off,e,hb,hr⟩:=h.2.2 hn;exact⟨b,off,e,by omega,aBy hs hk l b off hb hr⟩⟩
theorem eQ.below(h:eQ w A n l)(hb:Below w.heap.size w w'):eQ w' A n l:=h.keep hb.size fun _ hp=>hb.cell hp
theorem eQ.alloc(h:eQ w A n l)(o:Obj):eQ (w.alloc o) A n l:=h.below ((Yg _ _).alloc (Yh _) o)
theorem uG.below{v:Value}(h:uG w v x)(hb:Below w.heap.size w w'):uG w' v x:=by
 obtain⟨A,ca,B,cb,e,hr⟩:=h;exact⟨A,ca,B,cb,e,hr.below hb⟩
theorem uG.alloc{v:Value}(h:uG w v x)(o:Obj):uG (w.alloc o) v x:=h.below ((Yg _ _).alloc (Yh _) o)
theorem aH.sub(h:aH w x A B){i:Nat}(hi:i<x.subs.length):
 ∃b off,B=some ⟨b,off,none⟩/\b<w.heap.size/\∀i,i<x.subs.length->∃A' ca B' cb,w.rangeAt b (off+i*6) (iZ (aM x i) A' ca B' cb)/\aH w (aM x i) A' B':=h.subs.at_ hi
end
theorem dT{w:World}{b o:Nat}{x:Ex}{A:Option Addr}{ca:Nat}{B:Option Addr}{cb:Nat}(h:w.rangeAt b o (iZ x A ca B cb)):
 w.cell? ⟨b,o,none⟩=some (.int .i64 x.k)/\w.cell? ⟨b,o+1,none⟩=some (.int .i64 x.n)/\w.cell? ⟨b,o+2,none⟩=some (.string x.s)/\w.cell? ⟨b,o+3,none⟩=some (.int .i64 x.op)/\
  w.cell? ⟨b,o+4,none⟩=some (.slice A x.arms.length ca)/\w.cell? ⟨b,o+5,none⟩=some (.slice B x.subs.length cb):=
 ⟨h 0 _ rfl,h 1 _ rfl,h 2 _ rfl,h 3 _ rfl,h 4 _ rfl,h 5 _ rfl⟩
theorem aYo:Tryz.prog.cellsOf 52=6:=aC
end
section
open Go.RowKit Go.Sort
theorem fB(w:World)(x:Ex)(A:Option Addr)(ca:Nat)(B:Option Addr)(cb:Nat)(w1:World)(h:w.alloc (.cells (aE x A ca B cb) 52)=w1)(hr:aH w x A B):
 Below w.heap.size w w1/\w.heap.size<w1.heap.size/\aH w1 x A B/\∀w',Below w1.heap.size w1 w'->∀j,w'.cell? ⟨w.heap.size,j,none⟩=(aE x A ca B cb)[j]?:=by
 subst h;refine⟨(Yg _ _).alloc (Yh _) _,by simp,hr.alloc _,fun w' hb j=>?_⟩;rw[hb.cell (p:=⟨w.heap.size,j,none⟩) aG,Zp]
theorem bB9:∀(x:Ex)(A:Option Addr)(ca:Nat)(B:Option Addr)(cb:Nat)(w:World),aH w x A B->bD x<=1000000->
 Calls Tryz.prog 177 #[.agg (aE x A ca B cb)] w fun e w'=>e=.returned (.int .i64 (bD x:Nat))/\Below w.heap.size w w':=by
 refine nK fun x ih A ca B cb w hr hs=>?_;have Nt:=Hd ih;have Al:=mF x;have Nz:=Hd Al;have Od:=hr.subs.max;have HF:=Hd fun w1 h=>fB w x A ca B cb w1 h hr;have Nw:=Hd fun i (hi:i<x.subs.length)=>xH hi;have Bx:=Hd fun i=>xG x.subs i;have Aq:=Hd fun i (hi:i<x.subs.length)=>pQ (oL hi);have Ob:=Hd (List.take_length (l:=x.subs));clear ih hr;unfold aE at HF Nt⊢;generalize Bp:x.subs.length=len at *;go_in
 go_upto_region 1 with(fail);generalize Ag:w.alloc _=w1;obtain⟨Aa,hg,Av,hcell⟩:=HF.o w1 Ag;have HC:=Hd hcell;have Ac:=Hd Aa;have Bi:=Hd Av;clear hcell Aa Av Ag HF;go_wp2_with fail;go_loopw [3,4] (fun s i wr=>∃k:Nat,k<=len/\i=.int .i64 k/\s=.int .i64 ((1+dX (x.subs.take k):Nat):Int)/\Below w1.heap.size w1 wr) (fun _ i _=>len-(intOf i).toNat)
 case atStart=>exact⟨0,Yq _,rfl,by simp[dX],Yg _ _⟩
 case round=>
  obtain⟨k,hk,rfl,rfl,Cb⟩:=hrel;have Bo:=Hd Cb;have Oc:=HC.o wr Cb 5;have Oe:=Bx.o k;by_cases Ah:k<len
  . obtain⟨b,off,rfl,hb,Ca⟩:=(Bi.o.below Cb).sub (i:=k) aA;obtain⟨A',Nx,B',Oa,Jx,Ap⟩:=Ca k aA;obtain⟨c0,c1,c2,c3,c4,c5⟩:=dT Jx;have Ed:=Hd Ap;have Nv:=Nw.o k aA;have Ny:=Bx.o (k+1);clear Ca Cb Jx Ap;have hss:=Aq.o k aA;go_wp2_with fail;refine(Nt.o k aA A' Nx B' Oa _ Ed.o aA).mono ?_;rintro r w2 ⟨rfl,Ad⟩;have Aj:=Hd (Bo.o.tr Ad);go_wp2_with fail;go_roundw;case rel=>refine⟨k+1,by omega,by go_num,?_,Aj.o⟩;rw[Nv];go_num
    case measure=>simp[intOf];omega
  . have Nu:k=len:=by omega
    subst Nu;have HE:=Hd (Bp ▸ Ob.o:x.subs.take k=x.subs);go_wp2_with fail;go_ret;refine⟨?_,Ac.o.trans (Bo.o.mono (Nat.le_of_lt hg))⟩;rw[HE.o,<-Nz.o];rfl
theorem aYp:∀(x:Ex)(A:Option Addr)(ca:Nat)(B:Option Addr)(cb:Nat)(w:World),aH w x A B->bD x<=1000000->
 Calls Tryz.prog 178 #[.agg (aE x A ca B cb)] w fun e w'=>e=.returned (.int .i64 (iA x:Nat))/\Below w.heap.size w w':=by
 refine nK fun x ih A ca B cb w hr hs=>?_;have Jx:=Hd ih;have Nw:=Hd (uR x);have Nz:=uL x;have Al:=uR x;have Ob:=hr.subs.max;have HF:=Hd fun w1 h=>fB w x A ca B cb w1 h hr;have Nu:=Hd fun i (hi:i<x.subs.length)=>aF8 hi;have Aq:=Hd fun i (hi:i<x.subs.length)=>(pQ (oL hi));have Ny:=Hd (List.take_length (l:=x.subs));clear ih hr;unfold aE at HF Jx⊢;generalize Bp:x.subs.length=len at *;go_in
 go_upto_region 1 with(fail);generalize Ag:w.alloc _=w1;obtain⟨Aa,hg,Av,hcell⟩:=HF.o w1 Ag;have HC:=Hd hcell;have Ac:=Hd Aa;have Bi:=Hd Av;clear hcell Aa Av Ag HF;go_wp2_with fail;go_loopw [3,4] (fun s i wr=>∃k:Nat,k<=len/\i=.int .i64 k/\s=.int .i64 ((gP (x.subs.take k):Nat):Int)/\Below w1.heap.size w1 wr) (fun _ i _=>len-(intOf i).toNat)
 case atStart=>exact⟨0,Yq _,rfl,by simp[gP],Yg _ _⟩
 case round=>
  obtain⟨k,hk,rfl,rfl,Cb⟩:=hrel;have Bo:=Hd Cb;have Oa:=HC.o wr Cb 5;by_cases Ah:k<len
  . obtain⟨b,off,rfl,hb,Ca⟩:=(Bi.o.below Cb).sub (i:=k) aA;obtain⟨A',Nv,B',Nx,Bx,Ap⟩:=Ca k aA;obtain⟨c0,c1,c2,c3,c4,c5⟩:=dT Bx;have Ed:=Hd Ap;have Kc:=Hd (Nu.o k aA);clear Ca Cb Bx Ap;have hss:=Aq.o k aA;go_wp2_with fail;refine(Jx.o k aA A' Nv B' Nx _ Ed.o aA).mono ?_;rintro r w2 ⟨rfl,Ad⟩;have Aj:=Hd (Bo.o.tr Ad);exact aMh
  . have Nt:k=len:=by omega
    subst Nt;have HE:=Hd (Bp ▸ Ny.o:x.subs.take k=x.subs);rw[HE.o];generalize gP x.subs=d at *;go_wp2_with fail;go_ret;refine⟨?_,Ac.o.tr Bo.o⟩;rw[Nw.o];rfl
theorem aYq:∀(x:Ex)(A:Option Addr)(ca:Nat)(B:Option Addr)(cb:Nat)(w:World),aH w x A B->∀left:Nat,left<=1000000->
 Calls Tryz.prog 25 #[.agg (aE x A ca B cb),.int .i64 left] w fun e w'=>e=.returned (.int .i64 (left-bD x:Nat))/\Below w.heap.size w w':=by
 refine nK fun x ih A ca B cb w hr left hs=>?_;have Bp:=Hd fun i hi A ca B cb w h l hl=>ih i hi A ca B cb w h l hl;have Al:=mF x;have Od:=hr.subs.max;have HF:=Hd fun w1 h=>fB w x A ca B cb w1 h hr;have Nv:=Hd fun i (hi:i<x.subs.length)=>xH hi;have Oa:=Hd fun i=>xG x.subs i;have Ny:=Hd (List.take_length (l:=x.subs));clear ih hr;unfold aE at HF Bp⊢;generalize Aq:x.subs.length=len at *;by_cases h0:left=0
 . subst h0;go_in
   go_upto_region 1 with(fail);generalize Ag:w.alloc _=w1;obtain⟨Aa,hg,Av,hcell⟩:=HF.o w1 Ag;have Ac:=Hd Aa;clear hcell Aa Av Ag HF;go_wp2_with fail;go_ret;refine⟨?_,Ac.o⟩;rw[Nat.zero_sub];rfl
 . obtain⟨l1,rfl⟩:∃l1,left=l1+1:=⟨left-1,by omega⟩;go_in
   go_upto_region 1 with(fail);generalize Ag:w.alloc _=w1;obtain⟨Aa,hg,Av,hcell⟩:=HF.o w1 Ag;have HC:=Hd hcell;have Ac:=Hd Aa;have Bi:=Hd Av;clear hcell Aa Av Ag HF;go_wp2_with fail;go_loopw [1,5] (fun s i wr=>∃k:Nat,k<=len/\i=.int .i64 k/\s=.int .i64 ((l1-dX (x.subs.take k):Nat):Int)/\Below w1.heap.size w1 wr) (fun _ i _=>len-(intOf i).toNat)
   case atStart=>exact⟨0,Yq _,rfl,by simp[dX],Yg _ _⟩
   case round=>
    obtain⟨k,hk,rfl,rfl,Cb⟩:=hrel;have Bo:=Hd Cb;have Oe:=HC.o wr Cb 5;have Jx:=Oa.o k;by_cases Ah:k<len
    . by_cases hp:l1-dX (x.subs.take k)=0
      . rw[hp];go_wp2_with fail;go_ret;refine⟨?_,Ac.o.tr Bo.o⟩;rw[show l1+1-bD x=0 by omega];rfl
      . obtain⟨b,off,rfl,hb,Ca⟩:=(Bi.o.below Cb).sub (i:=k) aA;obtain⟨A',Ob,B',Nu,Nt,Ap⟩:=Ca k aA;obtain⟨c0,c1,c2,c3,c4,c5⟩:=dT Nt;have Ed:=Hd Ap;have Bx:=Nv.o k aA;have Kc:=Hd Bx;clear Ca Cb Nt Ap;obtain⟨q,hq⟩:∃q,l1-dX (x.subs.take k)=q:=⟨_,rfl⟩;rw[hq];have Oc:0<q:=aA;have Nx:q<=1000000:=aA;have HQ:=Hd hq;clear hq hp Bx Jx Al;go_wp2_with fail;refine(Bp.o k aA A' Ob B' Nu _ Ed.o q Nx).mono ?_;rintro r w2 ⟨rfl,Ad⟩;have Aj:=Hd (Bo.o.tr Ad);clear Ad;go_wp2_with fail;go_roundw;case rel=>
         refine⟨_,_,_,_,_,_,_,_,_,_,_,_,_,_,_,_,_,_,_,_,?_,rfl⟩;refine⟨k+1,by omega,by go_num,?_,Aj.o⟩
         have:=HQ.o
         rw[Kc.o,show l1-(dX (x.subs.take k)+bD (aM x k))=q-bD (aM x k)by omega]
        case measure=>simp[intOf];omega
    . have Nz:k=len:=by omega
      subst Nz;have HE:=Hd (Aq ▸ Ny.o:x.subs.take k=x.subs);rw[HE.o];have HA:l1+1-bD x=l1-dX x.subs:=aA;have Nw:=Hd HA;generalize l1-dX x.subs=d at *;clear HA Jx Al;go_wp2_with fail;go_ret;refine⟨?_,Ac.o.tr Bo.o⟩;rw[Nw.o];rfl
def lI(w:World):List Ex->List Value->Prop
 |[],cs=>cs=[]
 |x::l,cs=>∃A ca B cb Aq,cs=iZ x A ca B cb++Aq/\aH w x A B/\lI w l Aq
theorem bCa{w:World}{x:Ex}{A:Option Addr}{ca:Nat}{B:Option Addr}{cb:Nat}(h:aH w x A B):lI w [x] (iZ x A ca B cb):=⟨A,ca,B,cb,[],by simp,h,rfl⟩
theorem aKb{w:World}:∀{l l':List Ex}{cs Aq:List Value},lI w l cs->lI w l' Aq->lI w (l++l') (cs++Aq)
 |[],l',cs,Aq,h,h'=>by
  obtain rfl:cs=[]:=h;simpa using h'
 |x::l,l',cs,Aq,h,h'=>by
  obtain⟨A,ca,B,cb,Bp,rfl,h1,h2⟩:=h;exact⟨A,ca,B,cb,Bp++Aq,by simp,h1,aKb h2 h'⟩
theorem aKc{w:World}:∀{l:List Ex}{cs:List Value},lI w l cs->cs.length=l.length*6
 |[],cs,h=>by
  obtain rfl:cs=[]:=h;rfl
 |x::l,cs,h=>by
  obtain⟨A,ca,B,cb,Aq,rfl,h1,h2⟩:=h;rw[Yn,aKc h2,Yo];show 6+l.length*6=_;omega
theorem aHy{w:World}:∀{l:List Ex}{cs:List Value},lI w l cs->∀u∈cs,u.oneCell'=true
 |[],cs,h,u,hu=>by
  obtain rfl:cs=[]:=h;cases hu
 |x::l,cs,h,u,hu=>by
  obtain⟨A,ca,B,cb,Aq,rfl,h1,h2⟩:=h;rcases Zo.1 hu with hu|hu
  . simp only[iZ,Yu,List.not_mem_nil,or_false]at hu;rcases hu with rfl|rfl|rfl|rfl|rfl|rfl<;>rfl
  . exact aHy h2 u hu
theorem aHz{w w':World}(hb:Below w.heap.size w w'):∀{l:List Ex}{cs:List Value},lI w l cs->lI w' l cs
 |[],cs,h=>h
 |x::l,cs,h=>by
  obtain⟨A,ca,B,cb,Aq,rfl,h1,h2⟩:=h;exact⟨A,ca,B,cb,Aq,rfl,h1.below hb,aHz hb h2⟩
theorem aLe{w:World}{b:Nat}:∀{l:List Ex}{cs:List Value}{off:Nat},lI w l cs->w.rangeAt b off cs->kC w l b off
 |[],cs,off,h,hr=>by simp only[kC]
 |x::l,cs,off,h,hr=>by
  obtain⟨A,ca,B,cb,Aq,rfl,h1,h2⟩:=h;simp only[kC];refine⟨⟨A,ca,B,cb,fun j v hj=>hr j v ?_,h1⟩,aLe h2 fun j v hj=>?_⟩
  . rw[List.getElem?_append_left (List.getElem?_eq_some_iff.1 hj).1];exact hj
  . rw[Nat.add_assoc];refine hr (6+j) v ?_;rw[List.getElem?_append_right (by show 6<=6+j;omega)];show Aq[6+j-6]?=some v;rw[show 6+j-6=j by omega];exact hj
def uD(w:World)(A:Option Addr)(n:Nat)(cs:List Value):Prop:=
 cs.length=n*6/\n<=9223372036854775807/\(0<n->∃b off,A=some ⟨b,off,none⟩/\b<w.heap.size/\w.rangeAt b off cs)
theorem uD.of_own{w:World}{base:Nat}{e:TypeId}{v:Value}{n:Nat}{cs:List Value}(h:w.ownsRow base e 6 v n cs)(hm:n<=9223372036854775807):∃A c,v=.slice A n c/\uD w A n cs/\(0<n->∃g,A=some ⟨g,0,none⟩/\base<=g):=by
 rcases h.2 with⟨rfl,rfl⟩|⟨g,cap,cur,rfl,hg,hh,hnc,hcm,hcs,ht⟩;· exact⟨none,0,rfl,⟨h.1,hm,by omega⟩,by omega⟩
 . refine⟨_,cap,rfl,⟨h.1,hm,fun hn=>⟨g,0,rfl,(Yl.1 hh).1,fun j v hj=>?_⟩⟩,fun _=>⟨g,rfl,hg⟩⟩
   have:=h.cellAt j (by rw[<-h.1];exact(List.getElem?_eq_some_iff.1 hj).1)
   rw[Nat.zero_add,this,hj]
theorem uD.rd{w w0:World}{A:Option Addr}{n:Nat}{cs:List Value}{l:List Ex}(h:uD w A n cs)(hf:lI w0 l cs)(hb:Below w0.heap.size w0 w):eQ w A n l:=by
 have h1:=aKc hf;have h2:=h.1;refine⟨by omega,h.2.1,fun hn=>?_⟩;obtain⟨b,off,e,Aq,hr⟩:=h.2.2 hn;exact⟨b,off,e,Aq,aLe (aHz hb hf) hr⟩
theorem pK{w w':World}{base:Nat}{e:TypeId}{size:Nat}{v:Value}{n:Nat}{xs:List Value}(h:w.ownsRow base e size v n xs)(hb:Below w.heap.size w w'):w'.ownsRow base e size v n xs:=by
 refine⟨h.1,?_⟩;rcases h.2 with h|⟨g,cap,cur,e1,hg,hh,r⟩;· exact .inl h
 . exact .inr ⟨g,cap,cur,e1,hg,(hb.block g (Yl.1 hh).1).trans hh,r⟩
def aKd(w0 w w':World)(e:Ending)(x:Ex):Prop:=∃A c cs,e=.returned (.slice A (bD x) c)/\uD w' A (bD x) cs/\lI w0 (bL x) cs/\Below w.heap.size w w'/\∃g,A=some ⟨g,0,none⟩/\w.heap.size<=g
theorem bFl:∃i:TypeInfo,Tryz.prog.info? 52=some i/\i.size=6/\i.zero=some (.agg #[.int .i64 0,.int .i64 0,.string ⟨#[]⟩,.int .i64 0,.slice none 0 0,.slice none 0 0])/\i.bytes=88:=by
 have h:(Tryz.prog.info? 52).map (fun i=>(i.size,i.zero,i.bytes))=some (6,some (.agg #[.int .i64 0,.int .i64 0,.string ⟨#[]⟩,.int .i64 0,.slice none 0 0,.slice none 0 0]),88):=aC;cases hq:Tryz.prog.info? 52 with
 |none=>rw[hq]at h;cases h
 |some i=>
  rw[hq]at h;simp only[Option.map_some,Option.some.injEq,Prod.mk.injEq]at h;exact⟨i,rfl,h.1,h.2.1,h.2.2⟩
theorem aCd:∀(x:Ex)(A:Option Addr)(ca:Nat)(B:Option Addr)(cb:Nat)(w0 w:World),aH w0 x A B->Below w0.heap.size w0 w->bD x<=1000000->
 Calls Tryz.prog 41 #[.agg (aE x A ca B cb)] w fun e w'=>aKd w0 w w' e x:=by
 refine nK fun x ih A ca B cb w0 w Jx Ae hs=>?_;obtain⟨i0,hi,On,Oy,Cu⟩:=bFl;have Oc:=Hd ih;have Of:=Hd (mF x);have Pf:=Jx.subs.max;have Co:=Hd Jx;have Af:=Hd Ae;have HF:=Hd fun w1 h=>fB w x A ca B cb w1 h (Jx.below Ae);have Od:=Hd fun i (hi:i<x.subs.length)=>xH hi;have Oq:=Hd fun i (hi:i<x.subs.length)=>aF9 hi;have Oi:=Hd fun i=>xG x.subs i;have Ob:=Hd fun i (hi:i<x.subs.length)=>pQ (oL hi);have Ov:=Hd (List.take_length (l:=x.subs));have Nt:=Hd (bCa (ca:=ca) (cb:=cb) Jx);have Pi:=mF x;clear ih Jx Ae;unfold aE at HF Oc⊢;unfold iZ at Nt;generalize Nw:x.subs.length=len at *;go_in
 go_upto_region 1 with(fail);generalize Ag:w.alloc _=w1;obtain⟨Aa,hg,Av,hcell⟩:=HF.o w1 Ag;have HC:=Hd hcell;have Ac:=Hd Aa;obtain⟨q0,q1,q2,q3,q4,q5⟩:=Sx (hcell w1 (Yg _ _));clear hcell Aa Av Ag HF;have HL:=Hd fun(cs:Array Value)(hs:cs.size=1*6)=>World.ownsRow_lit (base:=w1.heap.size) (e:=52) (size:=6) w1 cs 1 (Yh _) bS hs;have Ok:=Hd fun(o:Obj)=>(Yg w1.heap.size w1).alloc (Yh _) o;go_wp2_with fail;go_loopw [3,4] (fun v i wr=>∃k:Nat,k<=len/\i=.int .i64 k/\(∃cs,lI w0 (x::eC (x.subs.take k)) cs/\wr.ownsRow w1.heap.size 52 6 v (1+dX (x.subs.take k)) cs)/\Below w1.heap.size w1 wr) (fun _ i _=>len-(intOf i).toNat)
 case atStart=>
  refine⟨0,Yq _,rfl,⟨_,?_,HL.o _ rfl⟩,Ok.o _⟩;exact Nt.o
 case round=>
  obtain⟨k,hk,rfl,⟨cs,Oa,Ao⟩,Cb⟩:=hrel;have Bo:=Hd Cb;have Nz:=Hd Oa;have Bm:=Hd Ao;have Ph:=HC.o wr Cb 5;have Pe:=Oi.o k;have Pb:=Cb.size;have Nv:=Hd (Af.o.trans ((Ac.o.trans (Cb.mono (Nat.le_of_lt hg))).mono Af.o.size));by_cases Ah:k<len
  . obtain⟨b,off,rfl,hb,Ca⟩:=Co.o.sub (i:=k) aA;obtain⟨A',Oz,B',Om,Oj,Ap⟩:=Ca k aA;obtain⟨c0,c1,c2,c3,c4,c5⟩:=dT (fT Oj hb fun p hp=>Nv.o.cell hp);have Ed:=Hd Ap;have Kc:=Hd (Od.o k aA);have Ny:=Hd (Oq.o k aA);have Pc:=Od.o k aA;have Ol:=Oi.o (k+1);have hss:=Ob.o k aA;clear Ca Cb Oj Ap Oa Ao;go_wp2_with fail;refine(Oc.o k aA A' Oz B' Om w0 _ Ed.o Nv.o aA).mono ?_;rintro r w2 ⟨A2,Oo,Oh,rfl,Aq,Bx,Ad,_⟩;obtain⟨b2,Gc,rfl,Ou,Nx⟩:=Aq.2.2 (sW _);have Ox:=Hd (aKb Nz.o Bx);have Fd:=Hd (aHy Bx);have Pa:=Aq.1;have Bp:=pK Bm.o Ad;have Jn:=Hd (Bo.o.tr Ad);have Nu:=Jn.o.size;go_wp2_with (at_builtin;go_must (refine wpList_append_own_at _ rfl _ _ 50 rfl w1.heap.size 52 i0 _ 6 88 Tryz.underlying50 hi Oy On Cu rfl bS _ _ _ rfl Bp ⟨b2,Gc,none⟩ (bD (aM x k)) Oo Oh rfl Pa (fun j u hu=>by rw[Addr.add_mid];exact Nx j u hu) Fd.o dP aA Nu ?_;intro v' w3 Bb Ar _ Dy));have Ey:=Hd (Jn.o.grown Ar Nu (fun j hj=>(Bp.lt j hj).1));have Fy:=Hd Bb;clear Bb Ar Dy Bp Ad;go_wp2_with fail;go_roundw;case rel=>
     refine⟨k+1,by omega,by go_num,⟨cs++Oh,?_,?_⟩,Ey.o⟩
     . rw[Ny.o];exact Ox.o
     . rw[Kc.o,<-Nat.add_assoc];exact Fy.o
    case measure=>simp[intOf];omega
  . have Ow:k=len:=by omega
    subst Ow;have HE:=Hd (Nw ▸ Ov.o:x.subs.take k=x.subs);rw[HE.o]at Bm Nz;obtain⟨A3,c3,rfl,Aq,Og⟩:=uD.of_own Bm.o aA;have Bz:=Hd Aq;obtain⟨g3,Oe,Pd⟩:=Og aA;have Ot:=Hd Oe;clear Oe Og;clear Aq Oa Ao;go_wp2_with fail;go_ret;rw[<-Of.o]at Bz;refine⟨A3,c3,cs,?_,Bz.o,?_,Ac.o.trans (Bo.o.mono (Nat.le_of_lt hg)),g3,Ot.o,by omega⟩
    . rw[Of.o];rfl
    . rw[qW];exact Nz.o
theorem nG{α:Type}[Inhabited α]{l:List α}{f:α->Bool}{i:Nat}(hi:i<l.length)(h:f (l[i]?.getD default)=false):l.all f=false:=by
 rw[List.all_eq_false];refine⟨l[i]?.getD default,?_,by simp[h]⟩;rw[Yk hi];exact Zh _
theorem qP{α:Type}[Inhabited α]{l:List α}{f:α->Bool}{k:Nat}(hk:k<l.length)(h:(l.take k).all f=true)(hx:f (l[k]?.getD default)=true):(l.take (k+1)).all f=true:=by
 rw[List.take_succ_eq_append_getElem hk,List.all_append,h,Bool.true_and];rw[Yk hk]at hx;simpa using hx
theorem qS{α:Type}{l:List α}{f:α->Bool}{k:Nat}(h:(l.take k).all f=true)(hk:l.length<=k):l.all f=true:=by rwa[Yx hk]at h
instance :Inhabited ByteArray:=⟨ByteArray.empty⟩
def pH(t:ByteArray):Bool:=!decide (100<t.size)
def jL(p:Ex):Bool:=!decide (200<p.s.size) && !decide (20<p.arms.length) && p.arms.all pH
def mN(x:Ex):Bool:=decide (bD x<200) && (bL x).all jL
theorem bFm(x:Ex)(A:Option Addr)(ca:Nat)(B:Option Addr)(cb:Nat)(w:World)(hr:aH w x A B)(hs:bD x<=1000000):
 Calls Tryz.prog 26 #[.agg (aE x A ca B cb)] w fun e w'=>e=.returned (.bool ((bL x).all jL))/\Below w.heap.size w w':=by
 have HF:=Hd fun w1 h=>fB w x A ca B cb w1 h hr;have HP:=Hd fun w1 (h:Below w.heap.size w w1)=>aCd x A ca B cb w w1 hr h hs;have Fa:=Hd (sN x);have Nz:=sW x;clear hr;unfold aE at HF HP⊢;go_in
 go_upto_region 1 with(fail);generalize Ag:w.alloc _=w1;obtain⟨Aa,hg,Av,hcell⟩:=HF.o w1 Ag;have Ac:=Hd Aa;have Fp:=Hd (HP.o w1 Aa);obtain⟨q0,q1,q2,q3,q4,q5⟩:=Sx (hcell w1 (Yg _ _));clear hcell Aa Av Ag HF HP;go_wp2_with fail;refine Fp.o.mono ?_;rintro r w2 ⟨A2,c2,Oa,rfl,Aq,Bp,Ad,_⟩;have Aj:=Hd (Ac.o.tr Ad);have Nv:=Hd (Aq.rd Bp Aj.o);clear Aq Bp Ad q0 q1 q2 q3 q4 q5 Fp;generalize hl:bL x=l at *;have Mg:=Hd hl;generalize hn:bD x=n at *;go_wp2_with fail;go_loopw [4] (fun i wr=>∃k:Nat,k<=n/\i=.int .i64 k/\w2=wr/\(l.take k).all jL=true) (fun i _=>n-(intOf i).toNat)
 case atStart=>exact⟨0,Yq _,rfl,rfl,by simp⟩
 case round=>
  obtain⟨k,hk,rfl,rfl,Bh⟩:=hrel;have HA:=Hd Bh;clear Bh;by_cases Ah:k<n
  . obtain⟨b,off,rfl,hb,Ca⟩:=Nv.o.at_ Ah;obtain⟨A',Ob,B',Nx,Nu,Ap⟩:=Ca k Ah;obtain⟨c0,c1,c2,c3,c4,c5⟩:=dT Nu;have Cq:=Hd Ap.arms;have HK:=Hd (show k<l.length by rw[Fa.o];exact Ah);clear Ca Nu Ap;generalize hp:l[k]?.getD default=p at *;have Bx:=Hd hp;by_cases h1:200<p.s.size
    . have HN:=Hd (nG (f:=jL) HK.o (by rw[Bx.o];simp[jL,h1]));exact aD9
    . by_cases h2:20<p.arms.length
      . have HN:=Hd (nG (f:=jL) HK.o (by rw[Bx.o];simp[jL,h2]));exact aD9
      . generalize hm:p.arms.length=m at *;have HM:=Hd hm;go_wp2_with fail;go_loopw [5] (fun j wr=>∃i:Nat,i<=m/\j=.int .i64 i/\w2=wr/\(p.arms.take i).all pH=true) (fun j _=>m-(intOf j).toNat)
        case atStart=>exact⟨0,Yq _,rfl,rfl,by simp⟩
        case round=>
         obtain⟨i,hi,rfl,rfl,Bh⟩:=hrel;have HJ:=Hd Bh;clear Bh;by_cases Jx:i<m
         . obtain⟨b3,Nw,rfl,Ak,Nt⟩:=Cq.o.at_ Jx;have Ny:=Nt i Jx;have HI:=Hd (show i<p.arms.length by rw[HM.o];exact Jx);clear Nt;generalize ht:p.arms[i]?.getD ByteArray.empty=t at *;have HT:=Hd ht;by_cases h3:100<t.size
           . have HN:=Hd (nG (f:=pH) HI.o (by show pH (p.arms[i]?.getD ByteArray.empty)=false;rw[HT.o];simp[pH,h3]));have Dg:=Hd (nG (f:=jL) HK.o (by rw[Bx.o];unfold jL;rw[HN.o];simp));go_wp2_with fail;go_ret;exact⟨aL (by first|exact Dg.o.symm|(rw[Mg.o];exact Dg.o.symm)),Aj.o⟩
           . have HN:=Hd (qP (f:=pH) HI.o HJ.o (by show pH (p.arms[i]?.getD ByteArray.empty)=true;rw[HT.o];simp[pH,h3]));go_wp2_with fail;go_roundw;case rel=>exact⟨i+1,by omega,by go_num,gW,HN.o⟩
             case measure=>simp[intOf];omega
         . have HN:=Hd (qS HJ.o (by rw[HM.o];omega));have Dg:=Hd (qP (f:=jL) HK.o HA.o (by rw[Bx.o];unfold jL;rw[HN.o,HM.o];simp[h1,h2]));go_wp2_with fail;go_roundw;case rel=>exact⟨k+1,by omega,by go_num,gW,Dg.o⟩
           case measure=>simp[intOf];omega
  . have HN:=Hd (qS HA.o (by rw[Fa.o];omega));exact aD9
theorem aYr(x:Ex)(A:Option Addr)(ca:Nat)(B:Option Addr)(cb:Nat)(w:World)(hr:aH w x A B):
 Calls Tryz.prog 14 #[.agg (aE x A ca B cb)] w fun e w'=>e=.returned (.bool (mN x))/\Below w.heap.size w w':=by
 have HF:=Hd fun w1 h=>fB w x A ca B cb w1 h hr;have Gp:=Hd fun w1 (h:aH w1 x A B)=>aYq x A ca B cb w1 h 200 aA;have Aq:=Hd fun w1 (h:aH w1 x A B)(h2:bD x<=1000000)=>bFm x A ca B cb w1 h h2;have HT:=Hd (show mN x=(decide (bD x<200) && (bL x).all jL)from rfl);clear hr;unfold aE at HF Gp Aq⊢;by_cases hs:bD x<200
 . obtain⟨q,hq⟩:∃q,200-bD x=q+1:=⟨199-bD x,by omega⟩;rw[hq]at Gp;have Bx:=Hd (show mN x=(bL x).all jL by rw[HT.o];simp[hs]);clear hq HT;go_in
   go_upto_region 1 with(fail);generalize Ag:w.alloc _=w1;obtain⟨Aa,hg,Av,hcell⟩:=HF.o w1 Ag;have Ac:=Hd Aa;have Bp:=Hd (Gp.o w1 Av);have Bi:=Hd Av;obtain⟨q0,q1,q2,q3,q4,q5⟩:=Sx (hcell w1 (Yg _ _));have Jx:=Hd hcell;clear hcell Aa Av Ag HF Gp;go_wp2_with fail;refine Bp.o.mono ?_;rintro r w2 ⟨rfl,Ad⟩;have Aj:=Hd (Ac.o.tr Ad);have Fd:=Hd (Aq.o w2 (Bi.o.below Ad) aA);clear q0 q1 q2 q3 q4 q5;obtain⟨q0,q1,q2,q3,q4,q5⟩:=Sx (Jx.o w2 Ad);clear Ad Jx Aq;go_wp2_with fail;refine Fd.o.mono ?_;rintro r w3 ⟨rfl,Ak⟩;have Ax:=Hd (Aj.o.tr Ak);clear Ak;generalize hb:(bL x).all jL=bb at *;go_wp2_with fail;go_ret;exact⟨aL (by rw[Bx.o]),Ax.o⟩
 . have hq:200-bD x=0:=by omega
   rw[hq]at Gp;have Bx:=Hd (show mN x=false by rw[HT.o];simp[hs]);clear hq HT Aq;go_in
   go_upto_region 1 with(fail);generalize Ag:w.alloc _=w1;obtain⟨Aa,hg,Av,hcell⟩:=HF.o w1 Ag;have Ac:=Hd Aa;have Bp:=Hd (Gp.o w1 Av);obtain⟨q0,q1,q2,q3,q4,q5⟩:=Sx (hcell w1 (Yg _ _));clear hcell Aa Av Ag HF Gp;go_wp2_with fail;refine Bp.o.mono ?_;rintro r w2 ⟨rfl,Ad⟩;have Aj:=Hd (Ac.o.tr Ad);clear Ad;go_wp2_with fail;go_ret;exact⟨aL Bx.o.symm,Aj.o⟩
end
section
open Go.RowKit
theorem rI(x:Int)(w:World):Calls Tryz.prog 133 #[.int .i32 x] w fun e w'=>e=.returned (.bool (gR x))/\w=w':=by
 by_cases h1:97<=x
 all_goals
  go_in
  go_wp2;go_ret;exact⟨aL (by rw[Zn];simp[gR,h1]<;>omega),rfl⟩
theorem tC(x:Int)(w:World):Calls Tryz.prog 165 #[.int .i32 x] w fun e w'=>e=.returned (.bool (jG x))/\w=w':=by
 by_cases h1:65<=x
 all_goals
  go_in
  go_wp2;go_ret;exact⟨aL (by rw[Zn];simp[jG,h1]<;>omega),rfl⟩
theorem aC1(x:Int)(w:World):Calls Tryz.prog 182 #[.int .i32 x] w fun e w'=>e=.returned (.bool (gI x))/\w=w':=by
 by_cases h1:48<=x
 all_goals
  go_in
  go_wp2;go_ret;exact⟨aL (by rw[Zn];simp[gI,h1]<;>omega),rfl⟩
theorem pR(x:Int)(w:World):Calls Tryz.prog 166 #[.int .i32 x] w fun e w'=>e=.returned (.bool (dZ x))/\w=w':=by
 by_cases h1:gR x=true
 . go_in
   go_wp2_with fail;refine(rI x _).mono ?_;rintro e w' ⟨rfl,rfl⟩;go_wp2_with fail;go_ret;exact⟨aL (by simp[dZ,h1]),rfl⟩
 . have h1:gR x=false:=by simpa using h1
   by_cases h2:jG x=true
   . go_in
     go_wp2_with fail;refine(rI x _).mono ?_;rintro e w' ⟨rfl,rfl⟩;go_wp2_with fail;refine(tC x _).mono ?_;rintro e w' ⟨rfl,rfl⟩;go_wp2_with fail;go_ret;exact⟨aL (by simp[dZ,h2]),rfl⟩
   . have h2:jG x=false:=by simpa using h2
     by_cases h3:gI x=true
     all_goals
      go_in
      go_wp2_with fail;refine(rI x _).mono ?_;rintro e w' ⟨rfl,rfl⟩;go_wp2_with fail;refine(tC x _).mono ?_;rintro e w' ⟨rfl,rfl⟩;go_wp2_with fail;refine(aC1 x _).mono ?_;rintro e w' ⟨rfl,rfl⟩;go_wp2_with fail;go_ret;exact⟨aL (by rw[Zn];simp[dZ,h1,h2,h3]),rfl⟩
theorem aSp(s:ByteArray)(c:Int)(w:World):
 Calls Tryz.prog 201 #[.string s,.int .u8 c] w fun e w'=>e=.returned (.int .i64 (Lib.indexByte s.data.toList c.toNat.toUInt8))/\w=w':=by
 go_in
 go_wp2;rw[run_callFunc_extern Tryz.func205 aC aC aC (e:=Extern.BytealgIndexByte.indexByte) aC,Lib.run_indexByteString];simp only[Result.andThen];rw[Oper.upon_value];go_wp2;go_ret;exact⟨rfl,rfl⟩
theorem aH0(s:ByteArray)(c:UInt8)(w:World):
 Calls Tryz.prog 200 #[.string s,.string ⟨#[c]⟩] w fun e w'=>e=.returned (.int .i64 (Lib.indexByte s.data.toList c))/\w=w':=by
 go_in
 go_wp2_with (go_at_call 201;refine(aSp _ _ _).mono ?_;rintro e w' ⟨rfl,rfl⟩)
 . have h:([c]==s.toList)=true:=by assumption
   go_ret;refine⟨?_,rfl⟩;have e:s.data.toList=[c]:=by rw[<-Zc];exact(beq_iff_eq.1 h).symm
   rw[e];simp[Lib.indexByte]
 . go_ret;refine⟨eL ?_,rfl⟩;congr 1
def wM(c:UInt8)(s:ByteArray)(w:World)(e:Ending)(w':World):Prop:=
 ∃(a b:ByteArray)(f:Bool),e=.returned (.tuple #[.string a,.string b,.bool f])/\Below w.heap.size w w'/\c∉a.data.toList/\
  (f=false->s.data.toList=a.data.toList)/\(f=true->s.data.toList=a.data.toList++c::b.data.toList)
theorem bCb{c:UInt8}{s:ByteArray}{w:World}(h:Lib.indexByte s.data.toList c<0):
 wM c s w (.returned (.tuple #[.string s,.string ⟨#[]⟩,.bool false])) w:=
 ⟨s,_,false,rfl,Yg _ _,aTp h,fun _=>rfl,fun h=>by cases h⟩
theorem aYs{c:UInt8}{s:ByteArray}{w:World}{k m:Nat}{n:Nat}(hn:n=s.size)(h2:k<s.data.toList.length)(h3:c∉s.data.toList.take k)(h4:s.data.toList=s.data.toList.take k++c::s.data.toList.drop (k+1)):
 wM c s w (.returned (.tuple #[.string (s.extract 0 k),.string (s.extract (k+1) n),.bool true])) (w.drewN m):=by
 subst hn;have e1:(s.extract 0 k).data.toList=s.data.toList.take k:=by rw[Lib.extract_data];simp
 have e2:(s.extract (k+1) s.size).data.toList=s.data.toList.drop (k+1):=by
  rw[Lib.extract_data,Yx (by rw[Zm];simp)]
 refine⟨_,_,true,rfl,bG (Yg _ _) m,?_,fun h=>by(cases h),fun _=>?_⟩;· rw[e1];exact h3
 . rw[e1,e2];exact h4
theorem bCc(s:ByteArray)(c:UInt8)(w:World)(hs:s.size<=9223372036854775806):
 Calls Tryz.prog 198 #[.string s,.string ⟨#[c]⟩] w (wM c s w):=by
 rcases(show Lib.indexByte s.data.toList c<0\/0<=Lib.indexByte s.data.toList c by omega)with h|h
 . have HC:=Hd (bCb (w:=w) h);have Aq:=Lib.indexByte_ge s.data.toList c;generalize hi:Lib.indexByte s.data.toList c=i at h Aq;have HI:=Hd hi;clear hi;go_in
   go_wp2_with fail;refine(aH0 s c _).mono ?_;rintro e w' ⟨rfl,rfl⟩;rw[HI.o];go_wp2_with fail;exact Zu (v:=.tuple #[.string s,.string ⟨#[]⟩,.bool false]) aPt rfl HC.o
 . obtain⟨k,hi,h2,h3,h4⟩:=aTq h;have HC:=fun m=>Hd (aYs (w:=w) (m:=m) (n:=s.size) rfl h2 h3 h4);have hk:k<s.size:=by rw[Zm];exact h2
   have HI:=Hd hi;clear hi h h2 h3 h4;have h5:IntKind.i64.wrap ((k:Int)+1)=(k:Int)+1:=IntWalk.i64_in _ aA;have h6:((k:Int)+1).toNat=k+1:=aA;have h7:(0:Int)<=(k:Int)+1:=aA;go_in
   go_wp2_with fail;refine(aH0 s c _).mono ?_;rintro e w' ⟨rfl,rfl⟩;rw[HI.o];go_wp2_with fail;go_quiet (fail);go_wp2_with fail;exact Zu (v:=.tuple #[.string (s.extract 0 k),.string (s.extract (k+1) s.size),.bool true]) aPt rfl (HC _).o
theorem aLf(s:ByteArray)(c:UInt8)(w:World)(hs:s.size<=9223372036854775806):
 Calls Tryz.prog 194 #[.string s,.string ⟨#[c]⟩] w (wM c s w):=by
 go_in
 go_wp2_with fail;refine(bCc s c _ hs).mono ?_;rintro e w' ⟨a,b,f,rfl,hb,hc,hf,ht⟩;have H:Hid (wM c s w (.returned (.tuple #[.string a,.string b,.bool f])) w'):=Hd ⟨a,b,f,rfl,hb,hc,hf,ht⟩;clear hb hc hf ht;go_wp2_with fail;exact Zu (v:=.tuple #[.string a,.string b,.bool f]) (by simp[results,Tryz.results194,go_sem]) rfl H.o
theorem aI4{s:ByteArray}{l:List UInt8}(h:(s.toList==l)=true)(hl:l∈oR):nO s.data.toList=true:=by
 rw[Zc]at h;rw[beq_iff_eq.1 h];simp[nO,hl]
theorem aVv{s:ByteArray}{l:List UInt8}(h:(s.toList==l)=true)(h2:(s.toList==l)=false):False:=by
 rw[h]at h2;cases h2
theorem aKe{s:ByteArray}(h:∀l∈oR,(s.toList==l)=false):nO s.data.toList=false:=by
 simp only[nO,decide_eq_false_iff_not];intro hm
 have:=h _ hm
 rw[Zc]at this;simp at this
theorem bFn(s:ByteArray)(w:World):Calls Tryz.prog 134 #[.string s] w fun e w'=>e=.returned (.bool (nO s.data.toList))/\w=w':=by
 go_in
 go_wp2
 all_goals
  go_ret
  first
   |exact⟨aL (aI4 (by assumption) bS).symm,rfl⟩
   |(exfalso;exact aVv (by assumption) (by assumption))
   |exact⟨aL (aKe (fun l hl=>by simp only[oR,Yu,List.not_mem_nil,or_false]at hl;rcases hl with h|h|h|h|h|h|h|h|h|h|h|h|h|h|h|h|h|h|h|h|h|h|h|h<;>subst h<;>assumption)).symm,rfl⟩
def qA:List ByteArray:=oR.map fun l=>⟨l.toArray⟩
theorem aVw(k:Nat)(h:k<24):∃(l:List UInt8)(x:ByteArray),qA[k]?=some x/\x.toList=l/\l∈oR:=by
 have hl:k<oR.length:=h;refine⟨oR[k],⟨oR[k].toArray⟩,?_,?_,Zh hl⟩;· simp[qA,Yk hl]
 . rw[Zc]
theorem aTr{s:ByteArray}(h:∀j,j<24->((qA[j]?.getD ByteArray.empty).toList==s.toList)=false):nO s.data.toList=false:=by
 apply aKe;intro l hl;obtain⟨k,hk,e⟩:=Zj hl;have h1:=h k hk;have h2:qA[k]?=some ⟨l.toArray⟩:=by
  simp[qA,Yk hk,e]
 rw[h2]at h1;simp only[Yt,Zc]at h1;rw[Zc];rw[Xb]at h1⊢;exact fun e=>h1 e.symm
theorem aYt(w:World):Calls Tryz.prog 176 #[] w fun e w'=>∃A,e=.returned (.slice A 24 24)/\aP w' A 24 qA/\Below w.heap.size w w':=by
 have HL:=Hd fun(cs:Array Value)(T:TypeId)=>aP.lit w T qA 24 rfl aA cs;go_in
 go_wp2;go_ret;exact⟨_,rfl,HL.o _ _ aX,(Yg _ _).alloc (Yh _) _⟩
theorem bCd(s:ByteArray)(w:World):Calls Tryz.prog 152 #[.string s] w fun e w'=>e=.returned (.bool (nO s.data.toList))/\Below w.heap.size w w':=by
 go_in
 go_wp2_with fail;refine(aYt _).mono ?_;rintro e w' ⟨A,rfl,Ap,Aq⟩;have HB:=Hd Aq;obtain⟨b,off,rfl,hb,hc⟩:=Ap.at_ (i:=0) aA;have HC:=Hd hc;clear Aq Ap hc;go_wp2_with fail;go_loop [4] (fun i=>∃k:Nat,k<=24/\i=.int .i64 k/\∀j,j<k->((qA[j]?.getD ByteArray.empty).toList==s.toList)=false) (fun i=>24-(intOf i).toNat)
 case atStart=>exact⟨0,Yq _,rfl,fun j hj=>absurd hj aA⟩
 case round=>
  obtain⟨k,hk,rfl,Bh⟩:=hrel;have HA:=Hd Bh;clear Bh;by_cases Ah:k<24
  . obtain⟨l,x,hx,Bp,hm⟩:=aVw k Ah;have Bx:=HC.o k Ah;rw[hx]at Bx;simp only[Yt]at Bx;have HX:=Hd hx;have Jx:=Hd Bp;clear hx Bp;by_cases Jd:(x.toList==s.toList)=true
    . go_wp2;go_ret;refine⟨aL ?_,HB.o⟩;exact(aI4 (l:=l) (by rw[beq_iff_eq]at Jd⊢;rw[<-Jd,Jx.o]) hm).symm
    . have Jd:(x.toList==s.toList)=false:=by simpa using Jd
      have HE:=Hd Jd;go_wp2;go_round
      case rel=>
       refine⟨k+1,by omega,by go_num,fun j hj=>?_⟩;rcases Nat.lt_or_ge j k with h|h;· exact HA.o j h
       . obtain rfl:j=k:=by omega
         rw[HX.o];exact HE.o
      case measure=>simp[intOf];omega
  . go_wp2;go_ret;exact⟨aL (aTr fun j hj=>HA.o j aA).symm,HB.o⟩
theorem Rd.lit(k:IntKind)(w:World)(T:TypeId)(l:List Int)(n:Nat)(hn:l.length=n)(hm:n<=9223372036854775807)(Aq:∀z∈l,(Lit.int k z).wf=true)(cs:Array Value)(hcs:cs=(l.map (Value.int k)).toArray):
 Rd k (w.alloc (.cells cs T)) (some ⟨w.heap.size,0,none⟩) n n l:=by
 subst hcs hn;refine⟨rfl,Yh _,by unfold maxLen;omega,Aq,fun _=>⟨_,_,rfl,by simp,fun i hi=>?_⟩⟩;rw[Nat.zero_add,Zp];simp[Yk hi]
section
variable {P:Program}{w:World}
theorem xA(base:Nat)(t ty e:TypeId)(i:TypeInfo)(size:Nat)(ht:P.underlying t=some (.slice e))(hi:P.info? e=some i)
 (v:Value)(n:Nat)(xs:List Value)(Bq:w.ownsRow base e size v n xs)(c:Nat):(Builtin.append_ #[t,t] ty #[v,.slice none 0 c]).run P w=.ok v w:=by
 rcases Bq.2 with⟨rfl,rfl⟩|⟨g,cap,cur,rfl,_,_,hnc,_⟩;· simp[Builtin.append_,run_underlying ht,sizeOf,typeInfo,hi,Builtin.lenOf,Builtin.firstCells]
 . simp[Builtin.append_,run_underlying ht,sizeOf,typeInfo,hi,Builtin.lenOf,Builtin.firstCells,hnc,storeCells]
end
end
section
open Go.RowKit
abbrev En:=ByteArray × List ByteArray
def fK(es:List En)(i:Nat):ByteArray:=(es[i]?.getD (ByteArray.empty,[])).1
def cM(es:List En)(i:Nat):List ByteArray:=(es[i]?.getD (ByteArray.empty,[])).2
def bU(w:World)(A:Option Addr)(n:Nat)(es:List En):Prop:=
 es.length=n/\n<=9223372036854775807/\
 (0<n->∃ b off,A=some ⟨b,off,none⟩/\b<w.heap.size/\∀ i,i<n->w.cell? ⟨b,off+i*2,none⟩=some (.string (fK es i)) /\
  ∃A' n' c',w.cell? ⟨b,off+i*2+1,none⟩=some (.slice A' n' c')/\aP w A' n' (cM es i))
def lC(es:List En):Prop:=∀i,i<es.length->(fK es i).size<=maxLen/\∀s∈cM es i,s.size<=maxLen
section
variable {w w':World}{A:Option Addr}{n:Nat}{es:List En}
theorem bU.nil_(w:World):bU w none 0 []:=⟨rfl,by omega,by omega⟩
theorem bU.len(h:bU w A n es):es.length=n:=h.1
theorem bU.max(h:bU w A n es):n<=9223372036854775807:=h.2.1
theorem bU.at_(h:bU w A n es){i:Nat}(hi:i<n):
 ∃b off,A=some ⟨b,off,none⟩/\b<w.heap.size/\∀i,i<n->w.cell? ⟨b,off+i*2,none⟩=some (.string (fK es i))/\
  ∃A' n' c',w.cell? ⟨b,off+i*2+1,none⟩=some (.slice A' n' c')/\aP w A' n' (cM es i):=
 h.2.2 aA
theorem bU.keep(h:bU w A n es)(hs:w.heap.size<=w'.heap.size)(hk:∀p:Addr,p.block<w.heap.size->w'.cell? p=w.cell? p):bU w' A n es:=
 ⟨h.1,h.2.1,fun hn=>by
  obtain⟨b,off,e,hb,hc⟩:=h.2.2 hn;refine⟨b,off,e,by omega,fun i hi=>?_⟩;obtain⟨h1,A',n',c',h2,h3⟩:=hc i hi;exact⟨(hk _ hb).trans h1,A',n',c',(hk _ hb).trans h2,h3.keep hs hk⟩⟩
theorem bU.below(h:bU w A n es)(hb:Below w.heap.size w w'):bU w' A n es:=h.keep hb.size fun _ hp=>hb.cell hp
theorem bU.drewN(h:bU w A n es)(m:Nat):bU (w.drewN m) A n es:=h
theorem bU.drew(h:bU w A n es):bU w.drew A n es:=h
theorem bU.alloc(h:bU w A n es)(o:Obj):bU (w.alloc o) A n es:=h.below ((Yg _ _).alloc (Yh _) o)
theorem aP.drew{ss:List ByteArray}(h:aP w A n ss):aP w.drew A n ss:=h
end
theorem bFo(es:List En)(i:Nat):(es.map (·.1))[i]?.getD ByteArray.empty=fK es i:=by
 unfold fK;rw[List.getElem?_map];cases es[i]?<;>rfl
abbrev Pl:=Nat × Nat × ByteArray
def fJ(es:List En)(i k:Nat):ByteArray:=(cM es i)[k]?.getD ByteArray.empty
def kA(es:List En)(i k:Nat):List Pl:=(List.range k).map fun k=>(i,k,fJ es i k)
def jW(es:List En):Nat->List Pl
 |0=>[]
 |i+1=>jW es i++kA es i (cM es i).length
def eM(es:List En):List Pl:=jW es es.length
def jM(es:List En)(i k:Nat):List Pl:=jW es i++kA es i k
section
variable {es:List En}{i k:Nat}
theorem aBf(es:List En)(i k:Nat):kA es i (k+1)=kA es i k++[(i,k,fJ es i k)]:=by simp[kA,List.range_succ]
theorem aH1(es:List En):jM es 0 0=[]:=by simp[jM,jW,kA]
theorem uS(es:List En)(i k:Nat):jM es i (k+1)=jM es i k++[(i,k,fJ es i k)]:=by simp[jM,aBf]
theorem aH2(es:List En)(i:Nat):jM es i (cM es i).length=jM es (i+1) 0:=by simp[jM,jW,kA]
theorem aI5(es:List En):jM es es.length 0=eM es:=by simp[jM,eM,kA]
theorem aTs(es:List En)(i j:Nat)(h:i<=j):jW es i <+:jW es j:=by
 induction j with
 |zero=>
  obtain rfl:i=0:=by omega
  exact List.prefix_refl _
 |succ j ih=>
  rcases Nat.lt_or_ge i (j+1)with h1|h1;· exact(ih aA).trans (by show _ <+:jW es j++_;exact List.prefix_append _ _)
  . obtain rfl:i=j+1:=by omega
    exact List.prefix_refl _
theorem aVx(es:List En)(i k m:Nat)(h:k<=m):kA es i k <+:kA es i m:=by
 induction m with
 |zero=>
  obtain rfl:k=0:=by omega
  exact List.prefix_refl _
 |succ m ih=>
  rcases Nat.lt_or_ge k (m+1)with h1|h1;· exact(ih aA).trans (by rw[aBf];exact List.prefix_append _ _)
  . obtain rfl:k=m+1:=by omega
    exact List.prefix_refl _
theorem aCe(hi:i<es.length)(hk:k<=(cM es i).length):jM es i k <+:eM es:=by
 refine List.IsPrefix.trans ?_ (aTs es (i+1) es.length aA);show jW es i++kA es i k <+:jW es i++kA es i (cM es i).length;exact List.prefix_append_right_inj _ |>.2 (aVx es i _ _ hk)
theorem aI6(hi:i<es.length)(hk:k<(cM es i).length):(i,k,fJ es i k)∈eM es:=
 (aCe hi (k:=k+1) aA).subset (by rw[uS];simp)
def eO(es:List En):List ByteArray:=(eM es).map (·.2.2)
theorem aS6(es:List En)(i k:Nat)(h:k<=(cM es i).length):(kA es i k).map (·.2.2)=(cM es i).take k:=by
 induction k with
 |zero=>simp[kA]
 |succ k ih=>
  rw[aBf,Zq,ih aA,List.take_succ_eq_append_getElem aA];simp[fJ,Yk (show k<(cM es i).length by omega)]
def jU(es:List En)(i:Nat):List ByteArray:=(jW es i).map (·.2.2)
theorem aBb(es:List En)(i:Nat):jU es (i+1)=jU es i++cM es i:=by
 show(jW es i++kA es i _).map _=_;rw[Zq,aS6 es i _ (Yh _),List.take_length];rfl
theorem aS7(es:List En):jU es es.length=eO es:=rfl
theorem aGa(h:∀j,j<i->(cM es j).length<=12):(jU es i).length<=i*12:=by
 induction i with
 |zero=>simp[jU,jW]
 |succ i ih=>
  have h1:=ih fun j hj=>h j aA;have h2:=h i aA;rw[aBb,Yn];omega
theorem aS8{x:ByteArray}(h:x∈jU es i):∃j,j<i/\x∈cM es j:=by
 induction i with
 |zero=>simp[jU,jW]at h
 |succ i ih=>
  rw[aBb,Zo]at h;rcases h with h|h
  . obtain⟨j,hj,hx⟩:=ih h;exact⟨j,by omega,hx⟩
  . exact⟨i,by omega,h⟩
end
end
section
open Go.RowKit
end
end Go.Proofs.YtkbpdoomhfkngaaGreat
