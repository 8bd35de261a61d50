/- A part of the proof. Conditions: each theorem's own. -/
import Derived.Test.YtagkcjpoipcpkaaGreatDoorF02
namespace Go.Proofs.YtagkcjpoipcpkaaGreatDoor
set_option linter.unusedVariables false
set_option linter.unusedSimpArgs false
set_option maxRecDepth 100000
set_option maxHeartbeats 40000000
section
open Go.RowKit
abbrev En:=ByteArray × List ByteArray
def cM(es:List En)(i:Nat):ByteArray:=(es[i]?.getD (ByteArray.empty,[])).1
def cH(es:List En)(i:Nat):List ByteArray:=(es[i]?.getD (ByteArray.empty,[])).2
def cQ(w:World)(A:OA)(n:Nat)(es:List En):Prop:=
 es.length=n/\n<=9223372036854775807/\
 (0<n->∃ b off,A=some ⟨b,off,none⟩/\b<w.heap.size/\∀ i,i<n->w.cell? ⟨b,off+i*2,none⟩=some (.string (cM es i)) /\
  ∃A' n' c',w.cell? ⟨b,off+i*2+1,none⟩=some (.slice A' n' c')/\aS w A' n' (cH es i))
def qV(es:List En):Prop:=∀i,i<es.length->(cM es i).size<=maxLen/\∀s∈cH es i,s.size<=maxLen
section
variable {w w':World}{A:OA}{n:Nat}{es:List En}
theorem cQ.nil_(w:World):cQ w none 0 []:=⟨rfl,by omega,by omega⟩
theorem cQ.len(h:cQ w A n es):es.length=n:=h.1
theorem cQ.max(h:cQ w A n es):n<=9223372036854775807:=h.2.1
theorem cQ.at_(h:cQ w A n es){i:Nat}(hi:i<n):
 ∃b off,A=some ⟨b,off,none⟩/\b<w.heap.size/\∀i,i<n->w.cell? ⟨b,off+i*2,none⟩=some (.string (cM es i))/\
  ∃A' n' c',w.cell? ⟨b,off+i*2+1,none⟩=some (.slice A' n' c')/\aS w A' n' (cH es i):=
 h.2.2 aA
theorem cQ.keep(h:cQ w A n es)(hs:w.heap.size<=w'.heap.size)(hk:∀p:Addr,p.block<w.heap.size->w'.cell? p=w.cell? p):cQ w' A n es:=
 ⟨h.1,h.2.1,fun hn=>by
  obtain⟨b,off,e,hb,hc⟩:=h.2.2 hn;refine⟨b,off,e,by omega,fun i hi=>?_⟩;obtain⟨h1,A',n',c',h2,h3⟩:=hc i hi;exact⟨(hk _ hb).trans h1,A',n',c',(hk _ hb).trans h2,h3.keep hs hk⟩⟩
theorem cQ.below(h:cQ w A n es)(hb:Below w.heap.size w w'):cQ w' A n es:=h.keep hb.size fun _ hp=>hb.cell hp
theorem cQ.drewN(h:cQ w A n es)(m:Nat):cQ (w.drewN m) A n es:=h
theorem cQ.drew(h:cQ w A n es):cQ w.drew A n es:=h
theorem cQ.alloc(h:cQ w A n es)(o:Obj):cQ (w.alloc o) A n es:=h.below ((Yg _ _).alloc (Yh _) o)
theorem aS.drew{ss:LB}(h:aS w A n ss):aS w.drew A n ss:=h
end
theorem bZw(es:List En)(i:Nat):(es.map (·.1))[i]?.getD ByteArray.empty=cM es i:=by
 unfold cM;rw[List.getElem?_map];cases es[i]?<;>rfl
abbrev Pl:=Nat × Nat × ByteArray
def lZ(es:List En)(i k:Nat):ByteArray:=(cH es i)[k]?.getD ByteArray.empty
def nT(es:List En)(i k:Nat):List Pl:=(List.range k).map fun k=>(i,k,lZ es i k)
def mL(es:List En):Nat->List Pl
 |0=>[]
 |i+1=>mL es i++nT es i (cH es i).length
def jE(es:List En):List Pl:=mL es es.length
def pT(es:List En)(i k:Nat):List Pl:=mL es i++nT es i k
section
variable {es:List En}{i k:Nat}
theorem aLz(es:List En)(i k:Nat):nT es i (k+1)=nT es i k++[(i,k,lZ es i k)]:=by simp[nT,List.range_succ]
theorem bNv(es:List En):pT es 0 0=[]:=by simp[pT,mL,nT]
theorem aU2(es:List En)(i k:Nat):pT es i (k+1)=pT es i k++[(i,k,lZ es i k)]:=by simp[pT,aLz]
theorem bNw(es:List En)(i:Nat):pT es i (cH es i).length=pT es (i+1) 0:=by simp[pT,mL,nT]
theorem bRq(es:List En):pT es es.length 0=jE es:=by simp[pT,jE,nT]
theorem aTi(es:List En)(i j:Nat)(h:i<=j):mL es i <+:mL es j:=by
 induction j with
 |zero=>
  obtain rfl:i=0:=by omega
  exact List.prefix_refl _
 |succ j ih=>
  rcases Nat.lt_or_ge i (j+1)with h1|h1;· exact(ih aA).trans (by show _ <+:mL es j++_;exact List.prefix_append _ _)
  . obtain rfl:i=j+1:=by omega
    exact List.prefix_refl _
theorem bNx(es:List En)(i k m:Nat)(h:k<=m):nT es i k <+:nT es i m:=by
 induction m with
 |zero=>
  obtain rfl:k=0:=by omega
  exact List.prefix_refl _
 |succ m ih=>
  rcases Nat.lt_or_ge k (m+1)with h1|h1;· exact(ih aA).trans (by rw[aLz];exact List.prefix_append _ _)
  . obtain rfl:k=m+1:=by omega
    exact List.prefix_refl _
theorem bRr(hi:i<es.length)(hk:k<=(cH es i).length):pT es i k <+:jE es:=by
 refine List.IsPrefix.trans ?_ (aTi es (i+1) es.length aA);show mL es i++nT es i k <+:mL es i++nT es i (cH es i).length;exact List.prefix_append_right_inj _ |>.2 (bNx es i _ _ hk)
def gU(es:List En):List ByteArray:=(jE es).map (·.2.2)
theorem bJ9(es:List En)(i k:Nat)(h:k<=(cH es i).length):(nT es i k).map (·.2.2)=(cH es i).take k:=by
 induction k with
 |zero=>simp[nT]
 |succ k ih=>
  rw[aLz,Zt,ih aA,List.take_succ_eq_append_getElem aA];simp[lZ,Yk (show k<(cH es i).length by omega)]
def oK(es:List En)(i:Nat):List ByteArray:=(mL es i).map (·.2.2)
theorem aLk(es:List En)(i:Nat):oK es (i+1)=oK es i++cH es i:=by
 show(mL es i++nT es i _).map _=_;rw[Zt,bJ9 es i _ (Yh _),List.take_length];rfl
theorem bKa(es:List En):oK es es.length=gU es:=rfl
theorem aSu(h:∀j,j<i->(cH es j).length<=12):(oK es i).length<=i*12:=by
 induction i with
 |zero=>simp[oK,mL]
 |succ i ih=>
  have h1:=ih fun j hj=>h j aA;have h2:=h i aA;rw[aLk,Yo];omega
theorem bKb{x:BA}(h:x∈oK es i):∃j,j<i/\x∈cH es j:=by
 induction i with
 |zero=>simp[oK,mL]at h
 |succ i ih=>
  rw[aLk,List.mem_append]at h;rcases h with h|h
  . obtain⟨j,hj,hx⟩:=ih h;exact⟨j,by omega,hx⟩
  . exact⟨i,by omega,h⟩
end
end
structure Dc where
 nm:ByteArray
 k:Int
 e:Int
 l:Int
 on:ByteArray
 ct:ByteArray
instance :Inhabited Dc:=⟨⟨⟨#[]⟩,0,0,0,⟨#[]⟩,⟨#[]⟩⟩⟩
structure Qn where
 ns:List ByteArray
 x:Ex
instance :Inhabited Qn:=⟨⟨[],default⟩⟩
structure Nd where
 nm:ByteArray
 ins:List Dc
 outs:List Dc
 vars:List Dc
 eqs:List Qn
instance :Inhabited Nd:=⟨⟨ByteArray.empty,[],[],[],[]⟩⟩
structure Pg where
 es:List En
 ns:List Nd
def Nd.all(n:Nd):List Dc:=n.ins++n.outs++n.vars
def fW(l:List Dc):List ByteArray:=l.map Dc.nm
def cCe:List UInt8:=[116,114,117,101]
def bZx:List UInt8:=[102,97,108,115,101]
def sO(s:BA):Bool:=dF s.data.toList || (s.data.toList==cCe) || (s.data.toList==bZx)
def eO(s:BA):Bool:=s.data.toList==[]
def gD(n:Nat)(rt:Nat->Int->Int->Int->Bool)(d:Dc):Bool:=
 aQ d.nm.data.toList && rt n d.k d.e d.l && ((eO d.on && eO d.ct) || (aQ d.on.data.toList && sO d.ct))
def jU(rx:Ex->Bool)(q:Qn):Bool:=
 q.ns.all (fun s=>aQ s.data.toList) && decide (0<q.ns.length) && rx q.x && (decide (q.ns.length=1) || q.x.k==13)
def xV(n:Nd):Bool:=(n.ins++n.outs).all fun d=>eO d.on
def jQ(es:Nat)(rt:Nat->Int->Int->Int->Bool)(rx:Ex->Bool)(n:Nd):Bool:=
 n.all.all (gD es rt) && xV n && n.eqs.all (jU rx) && aQ n.nm.data.toList && decide (0<n.outs.length)
def mR(n:Nd):Bool:=decide (6<n.ins.length) || decide (6<n.outs.length) || decide (12<n.vars.length) || decide (18<n.eqs.length)
def iY(a b:Dc):Bool:=(a.nm.data.toList==b.nm.data.toList) && (a.k==b.k) && (a.e==b.e) && (a.l==b.l) && (a.on.data.toList==b.on.data.toList) && (a.ct.data.toList==b.ct.data.toList)
def gE{α:Type}(f:α->α->Bool):List α->List α->Bool
 |[],[]=>true
 |a::l,b::m=>f a b && gE f l m
 |_,_=>false
theorem aEp{α:Type}{f:α->α->Bool}:∀{l m:List α},l.length≠m.length->gE f l m=false
 |[],[],h=>absurd rfl h
 |[],b::m,_=>rfl
 |a::l,[],_=>rfl
 |a::l,b::m,h=>by
  simp only[gE];rw[aEp (l:=l) (m:=m) nZ];simp
theorem aEq{α:Type}[Inhabited α]{f:α->α->Bool}:∀{l m:List α},l.length=m.length->(∀i,i<l.length->f (l[i]?.getD default) (m[i]?.getD default)=true)->gE f l m=true
 |[],[],_,_=>rfl
 |[],b::m,h,_=>by simp at h
 |a::l,[],h,_=>by simp at h
 |a::l,b::m,h,hi=>by
  simp only[gE,Yu];refine⟨by simpa using hi 0 aC,aEq nZ fun i hl=>?_⟩;simpa using hi (i+1) (by simpa using hl)
theorem aEw{α:Type}[Inhabited α]{f:α->α->Bool}:∀{l m:List α}{i:Nat},i<l.length->l.length=m.length->f (l[i]?.getD default) (m[i]?.getD default)=false->gE f l m=false
 |[],m,i,h,_,_=>by simp at h
 |a::l,[],i,_,h,_=>by simp at h
 |a::l,b::m,i,hi,hl,hf=>by
  simp only[gE,Bool.and_eq_false_iff];cases i with
  |zero=>left;simpa using hf
  |succ i=>
   right;exact aEw (i:=i) vG (by simpa using hl) wW
theorem aEn{α:Type}{f:α->α->Bool}:∀{l:List α},(∀x∈l,f x x=true)->gE f l l=true
 |[],_=>rfl
 |a::l,h=>by
  simp only[gE,Yu];exact⟨h a aC,aEn fun x hx=>h x wX⟩
def dL{α:Type}(f:α->Bool):List α->Nat->Int
 |[],_=>-1
 |a::l,i=>if f a then(i:Int)else dL f l (i+1)
theorem aIl(n:Nd):n.all.length=n.ins.length+n.outs.length+n.vars.length:=by simp[Nd.all];omega
section
open Go.RowKit Go.Shelf
attribute [local go_sem] Oper.semAt_some
theorem aR7{W W':World}(h:Below W.heap.size W W'):W.grownBy W' none:=⟨h.os,h.tape,h.output,h.size,fun i hi _=>h.block i hi⟩
def aC7(x:Pl):Array Value:=#[.agg #[.int .i64 (x.1:Int),.int .i64 (x.2.1:Int)],.string x.2.2]
theorem aYu(A:OA)(n c:Nat)(w:World):
 Calls Tryz.prog 158 #[.slice A n c] w fun e w'=>e=.returned (.func (.func 194) #[] #[.pointer (some ⟨w.heap.size,0,none⟩)])/\w'=w.alloc (.cells #[.slice A n c] 23):=by
 go_in
 go_wp2;go_ret;exact⟨rfl,rfl⟩
theorem aU3(n:Nat)(hn:1<=n)(l Bs:Nat)(w:World)(A:OA)(len cap:Nat)(es:List En)(hE:cQ w A len es)(J Jx:List Pl->World->Prop)(W:World)(Nl:Below w.heap.size w W)
 (hJ:AbidesFrom W.heap.size J)
 (hY:∀ Aa x W,J Aa W->Aa++[x] <+: jE es->YieldAt Fence.wide (n-1) Tryz.prog l (aC7 x) W fun e W' =>
  (e=.returned (.bool true)/\J (Aa++[x]) W'/\Below w.heap.size W W')\/(e=.returned (.bool false)/\Jx (Aa++[x]) W'))
 (Nt:W.cell? ⟨Bs,0,none⟩=some (.slice A len cap))(h0:J [] W):
 CallsIn Fence.wide n Tryz.prog 194 #[.func (.yield l) #[] #[],.pointer (some ⟨Bs,0,none⟩)] W fun e W'=>(∃v,e=.returned v)/\
  ((∃ys,ys=jE es/\J ys W')\/(∃Aa,Aa <+:jE es/\Jx Aa W')):=by
 have Fs:=hE.len;have Ns:=hE.max;refine callsIn_of_wp Tryz.func194 rfl trivial ?_ rfl;simp only[Tryz.ntmps194,List.size_toArray,Yq,Zg,Nat.reduceAdd,Nat.reduceSub,Array.replicate_succ,Array.replicate_zero,List.push_toArray,List.append_toArray,List.nil_append,Yx];gi_wp2;gi_loopw [9] (fun i wr=>∃k:Nat,k<=len/\i=.int .i64 k/\J (pT es k 0) wr/\Below w.heap.size w wr)
  (fun i _=>len-(intOf i).toNat)
 case atStart=>exact⟨0,Ys _,rfl,by rw[bNv];exact h0,Nl⟩
 case round=>
  obtain⟨k,hk,rfl,Nh,An⟩:=hrel;by_cases Ah:k<len
  . obtain⟨b,off,rfl,hb,hc⟩:=hE.at_ Ah;obtain⟨Dy,A',n',c',Fo,Ha⟩:=hc k Ah;have Nr:wr.cell? ⟨b,off+k*2,none⟩=some (.string (cM es k)):=(An.cell (p:=⟨b,off+k*2,none⟩) hb).trans Dy;have Dg:wr.cell? ⟨b,off+k*2+1,none⟩=some (.slice A' n' c'):=(An.cell (p:=⟨b,off+k*2+1,none⟩) hb).trans Fo;have Nj:k<es.length:=aA;have Np:=Ha.len;have Nq:=Ha.max;have Nk:∀W',Below wr.heap.size wr W'->J (pT es k 0) W':=fun W' h=>hJ _ _ _ none Nh (aR7 h) (fun r e=>by cases e);gi_wp2;gi_loopw [17] (fun i wr=>∃m:Nat,m<=n'/\i=.int .i64 m/\J (pT es k m) wr/\Below w.heap.size w wr)
     (fun i _=>n' - (intOf i).toNat)
    case atStart=>exact⟨0,Ys _,rfl,Nk _ ((Yg _ _).alloc (Yh _) _),An.alloc An.size _⟩
    case round=>
     obtain⟨m,hm,rfl,Ni,Ng⟩:=hrel;by_cases Ae:m<n'
     . obtain⟨b2,Hc,rfl,Ag,Nn⟩:=Ha.at_ Ae;have Ct:=(Ng.cell (p:=⟨b2,Hc+m,none⟩) Ag).trans (Nn m Ae);have Aq:=bRr (es:=es) Nj (k:=m+1) aA;obtain⟨fn,tmps,assign,body,hy,hR⟩:=hY _ (k,m,lZ es k m) _ Ni (by rw[<-aU2];exact Aq);rw[<-aU2]at hR;unfold lZ at hy;simp only[aC7]at hy;generalize hx:(cH es k)[m]?.getD ByteArray.empty=x at Ct hy;gi_wp2;refine hR.mono ?_;rintro e W3 (⟨rfl,Nm,No⟩|⟨rfl,Hb⟩)
       . gi_wp2;go_roundw;case rel=>exact⟨m+1,by omega,by go_num,Nm,Ng.trans No⟩
         case measure=>simp[intOf];omega
       . gi_wp2;refine Zy (results_none rfl _ _ _) rfl ?_;exact⟨⟨_,rfl⟩,.inr ⟨_,Aq,Hb⟩⟩
     . obtain rfl:m=n':=by omega
       gi_wp2;go_roundw;case rel=>exact⟨k+1,by omega,by go_num,by rw[<-bNw,Np];exact Ni,Ng⟩
       case measure=>simp[intOf];omega
  . obtain rfl:k=len:=by omega
    gi_wp2;go_end0
    exact⟨⟨_,rfl⟩,.inl ⟨_,rfl,by rw[<-bRq,Fs];exact Nh⟩⟩
theorem bJr(n:Nat)(hn:1<=n)(Bs:Nat)(w0:World)(A:OA)(len cap:Nat)(es:List En)(hE:cQ w0 A len es)(w:World)(hb:Below w0.heap.size w0 w)(Ae:Bs<w.heap.size)
 (hc:w.cell? ⟨Bs,0,none⟩=some (.slice A len cap)):
 SeqStopsK Fence.wide n Tryz.prog 194 #[.pointer (some ⟨Bs,0,none⟩)] aC7 (Below w0.heap.size) (fun ys=>ys=jE es) (fun Aa=>Aa <+:jE es) (jE es).length w:=fun l J Jx W hW hJ _ hY h0=>
 aU3 n hn l Bs w0 A len cap es hE J Jx W (hb.tr hW) hJ (fun Aa x W1 h1 h2=>hY Aa x W1 h1 (by have:=h2.length_le;simp at this;omega)) ((hW.cell (p:=⟨Bs,0,none⟩) Ae).trans hc) h0
abbrev aRj (es:List En):={ x:Pl // x∈jE es }
theorem bJa(n:Nat)(hn:1<=n)(Bs:Nat)(w0:World)(A:OA)(len cap:Nat)(es:List En)(hE:cQ w0 A len es)(w:World)(hb:Below w0.heap.size w0 w)(Ae:Bs<w.heap.size)
 (hc:w.cell? ⟨Bs,0,none⟩=some (.slice A len cap)):
 SeqStopsK Fence.wide n Tryz.prog 194 #[.pointer (some ⟨Bs,0,none⟩)] (fun x:aRj es=>aC7 x.1) (Below w0.heap.size) (fun ys=>ys.map (·.1)=jE es) (fun Aa=>Aa.map (·.1) <+:jE es) (jE es).length w:=fun l J Jx W hW hJ _ hY h0=>by
 refine(aU3 n hn l Bs w0 A len cap es hE (fun Aa W=>∃ ps:List (aRj es),ps.map (·.1)=Aa/\J ps W) (fun Aa W=>∃ ps:List (aRj es),ps.map (·.1)=Aa/\Jx ps W) W (hb.tr hW)
  (fun s X Y Aq hs hg hr=>by obtain⟨ps,e,h⟩:=hs;exact⟨ps,e,hJ ps X Y Aq h hg hr⟩) (fun Aa x W1 h1 h2=>?_) ((hW.cell (p:=⟨Bs,0,none⟩) Ae).trans hc) ⟨[],rfl,h0⟩).mono ?_
 . obtain⟨ps,rfl,h1⟩:=h1;have hx:x∈jE es:=h2.subset aC;obtain⟨fn,tmps,assign,body,hy,hR⟩:=hY ps ⟨x,hx⟩ W1 h1 (by have:=h2.length_le;simp at this;omega);refine⟨fn,tmps,assign,body,hy,hR.mono ?_⟩;rintro e W' (⟨rfl,hj,hk⟩|⟨rfl,hj⟩);· exact .inl ⟨rfl,⟨_,by simp,hj⟩,hk⟩
   . exact .inr ⟨rfl,⟨_,by simp,hj⟩⟩
 . rintro e W' ⟨he,⟨ys,rfl,ps,e1,hj⟩|⟨Aa,hp,ps,rfl,hj⟩⟩;· exact⟨he,.inl ⟨ps,e1,hj⟩⟩
   . exact⟨he,.inr ⟨ps,hp,hj⟩⟩
def wZ(W:World)(B:Nat)(t:TypeId)(u v:Value):Prop:=W.heap[B]?=some (.cells #[u,v] t (0,0))
section
variable {W W':World}{B:Nat}{t:TypeId}{u v:Value}
theorem wZ.lt(h:wZ W B t u v):B<W.heap.size:=(Ym.1 h).1
theorem wZ.c0(h:wZ W B t u v):W.cell? ⟨B,0,none⟩=some u:=bGa
theorem wZ.c1(h:wZ W B t u v):W.cell? ⟨B,1,none⟩=some v:=bGa
theorem wZ.new(W:World)(t:TypeId)(u v:Value):wZ (W.alloc (.cells #[u,v] t)) W.heap.size t u v:=World.alloc_heap_new W _
end
theorem aEj{W W':World}{B:Nat}{t:TypeId}{v:Value}(h:Boxed W B t v){n:Nat}(hb:Below n W W')(hn:B<n):Boxed W' B t v:=(hb.block B hn).trans h
theorem aR8{B:Nat}{W W':World}(h:Below W.heap.size W W'):KeepsFrom B W W':=KeepsFrom.of_grownBy (aR7 h) (fun j e=>by cases e)
end
section
open Go.RowKit Go.Shelf
attribute [local go_sem] Oper.semAt_some
def zA(e:En):Bool:=aQ e.1.data.toList && !e.2.isEmpty
def rF(s:BA):Bool:=dF s.data.toList
def lA(es:List En):Bool:=es.all zA && (gU es).all rF
def aE7(es:List En)(k:Nat):Prop:=∀j,j<k->aQ (cM es j).data.toList=true/\0<(cH es j).length
section
variable {es:List En}{k:Nat}
theorem aF6(h:k<es.length):es[k]'h=(cM es k,cH es k):=by
 simp[cM,cH,Yk h]
theorem aOk(h:k<es.length):zA (es[k]'h)=(aQ (cM es k).data.toList && decide (0<(cH es k).length)):=by
 rw[aF6 h];unfold zA;cases cH es k<;>simp
theorem aU4(h:k<es.length)(hb:aQ (cM es k).data.toList=false\/(cH es k).length=0):lA es=false:=by
 have:es.all zA=false:=by
  rw[List.all_eq_false];refine⟨es[k]'h,Zk h,?_⟩;rw[aOk h];rcases hb with h|h<;>simp[h]
 unfold lA;rw[this,Bool.false_and]
theorem aSv(H:aE7 es k)(h:es.length<=k):es.all zA=true:=by
 rw[Zj];intro e he;obtain⟨j,hj,rfl⟩:=Zm he
 have:=H j aA
 rw[aOk hj,this.1,Xc this.2];rfl
theorem aSg(H:aE7 es k)(h1:aQ (cM es k).data.toList=true)(h2:0<(cH es k).length):aE7 es (k+1):=fun j hj=>by
 rcases Nat.lt_or_ge j k with h|h;· exact H j h
 . obtain rfl:j=k:=by omega
   exact⟨h1,h2⟩
theorem bNy(h:es.all zA=true)(hp:∀p∈jE es,rF p.2.2=true):lA es=true:=by
 unfold lA;rw[h,Bool.true_and,Zj];intro s hs;obtain⟨p,Iq,rfl⟩:=List.mem_map.1 hs;exact hp p Iq
theorem bRs{ini:List Pl}{x:Pl}(hp:ini++[x] <+:jE es)(hx:rF x.2.2=false):lA es=false:=by
 unfold lA;have hm:x∈jE es:=hp.subset aC
 have:(gU es).all rF=false:=by
  rw[List.all_eq_false];exact⟨x.2.2,List.mem_map.2 ⟨x,hm,rfl⟩,by simp[hx]⟩
 rw[this,Bool.and_false]
theorem qV.flat(h:qV es):∀p∈jE es,p.2.2.size<=maxLen:=by
 intro p hp;have h1:p.2.2∈oK es es.length:=List.mem_map.2 ⟨p,hp,rfl⟩;obtain⟨j,hj,hm⟩:=bKb h1;exact(h j hj).2 _ hm
end
theorem aYv(w:World)(u v:Value)(T:TypeId):(w.alloc (.cells #[u,v] T)).cell? ⟨w.heap.size,1,none⟩=some v:=(wZ.new w T u v).c1
theorem bLk(n:Nat)(hn:6<=n)(A:OA)(len cap:Nat)(es:List En)(w:World)(hE:cQ w A len es)(Ax:qV es):
 CallsIn Fence.wide n Tryz.prog 101 #[.slice A len cap] w fun e w'=>e=.returned (.bool (lA es))/\Below w.heap.size w w':=by
 have h1:1<=n:=aA;have Nl:=hE.len;have Nr:=hE.max;refine callsIn_of_wp_marks Tryz.func101 rfl trivial ?_ rfl;simp only[Tryz.ntmps101,List.size_toArray,Yq,Zg,Nat.reduceAdd,Nat.reduceSub,Array.replicate_succ,Array.replicate_zero,List.push_toArray,List.append_toArray,List.nil_append,Yx];gi_wp2_with fail;gi_loopw [9] (fun i wr=>∃k:Nat,k<=len/\i=.int .i64 k/\aE7 es k/\Boxed wr w.heap.size 4 (.bool false)/\Below w.heap.size w wr)
  (fun i _=>len-(intOf i).toNat)
 case atStart=>exact⟨0,Ys _,rfl,fun j hj=>absurd hj aA,Boxed.new _ _ _,(Yg _ _).alloc (Yh _) _⟩
 case round=>
  obtain⟨k,hk,rfl,Ck,Dw,An⟩:=hrel;have HT:=Hd Ck;clear Ck;by_cases Ah:k<len
  . obtain⟨b,off,rfl,hb,hc⟩:=hE.at_ Ah;obtain⟨Dy,A',n',c',Fo,Ni⟩:=hc k Ah;have Nk:wr.cell? ⟨b,off+k*2,none⟩=some (.string (cM es k)):=(An.cell (p:=⟨b,off+k*2,none⟩) hb).trans Dy;have Dg:wr.cell? ⟨b,off+k*2+1,none⟩=some (.slice A' n' c'):=(An.cell (p:=⟨b,off+k*2+1,none⟩) hb).trans Fo;have Ng:k<es.length:=aA;have Nt:=Ni.len;have Nq:=Ni.max;have Ae:=Hd fun h=>aU4 Ng h;have Bk:=Hd fun h1 h2=>aSg HT.o h1 h2;have Hb:=(Ax k Ng).1;unfold maxLen at Hb;generalize No:cM es k=x at Nk Hb Ae Bk;by_cases Aa:aQ x.data.toList=true
    . rcases Nat.eq_zero_or_pos n' with hz|hz
      . have HE:=Hd (Ae.o (.inr aA));subst hz;gi_wp2_with fail;refine⟨trivial,(callsIn_wide.2 (kR x _ aA)).mono ?_⟩;rw[Aa];rintro e w3 ⟨rfl,Ak⟩;have d1:=(Ak.cell (p:=⟨wr.heap.size,1,none⟩) aC).trans (aYv wr _ _ _);have Gb:=aEj (Dw.alloc (.cells #[.string x,.slice A' 0 c'] 64)) Ak aQ8;have HX:=Hd Gb;have e2:=Gb.cell;have f2:=Gb.frozen;have Aj:=Hd ((An.alloc An.size (.cells #[.string x,.slice A' 0 c'] 64)).trans (Ak.mono aGi));exact bHv
      . have HN:=Hd (Bk.o Aa aA);have Ns:((n':Int)==0)=false:=aDp;gi_wp2_with fail;refine⟨trivial,(callsIn_wide.2 (kR x _ aA)).mono ?_⟩;rw[Aa];rintro e w3 ⟨rfl,Ak⟩;have d1:=(Ak.cell (p:=⟨wr.heap.size,1,none⟩) aC).trans (aYv wr _ _ _);have Gb:=aEj (Dw.alloc (.cells #[.string x,.slice A' n' c'] 64)) Ak aQ8;have HX:=Hd Gb;have Aj:=Hd ((An.alloc An.size (.cells #[.string x,.slice A' n' c'] 64)).trans (Ak.mono aGi));clear Ak Gb;gi_wp2_with fail;go_roundw;case rel=>exact⟨k+1,by omega,by go_num,HN.o,HX.o,Aj.o⟩
        case measure=>simp[intOf];omega
    . have Aa:aQ x.data.toList=false:=by simpa using Aa
      have HE:=Hd (Ae.o (.inl Aa));gi_wp2_with fail;refine⟨trivial,(callsIn_wide.2 (kR x _ aA)).mono ?_⟩;rw[Aa];rintro e w3 ⟨rfl,Ak⟩;have Gb:=aEj (Dw.alloc (.cells #[.string x,.slice A' n' c'] 64)) Ak aQ8;have HX:=Hd Gb;have e2:=Gb.cell;have f2:=Gb.frozen;have Aj:=Hd ((An.alloc An.size (.cells #[.string x,.slice A' n' c'] 64)).trans (Ak.mono aGi));exact bHv
  . obtain rfl:k=len:=by omega
    have Ct:=Hd (aSv HT.o aA);have Nm:=An;clear HT;gi_wp2_with fail;refine⟨trivial,(callsIn_wide.2 (aYu _ _ _ _)).mono ?_⟩;rintro e w' ⟨rfl,rfl⟩;gi_wp2_with fail;have b4:=Boxed.new wr 23 (.slice A k cap);have Bs:=Dw.alloc (.cells #[.slice A k cap] 23);have Fs:=An.alloc An.size (.cells #[.slice A k cap] 23);have Au:(wr.alloc (.cells #[.slice A k cap] 23)).heap.size=wr.heap.size+1:=aC;have Fb:=Dw.lt;have Np:=An.size;obtain⟨W0,Hc⟩:∃W0,wr.alloc (.cells #[.slice A k cap] 23)=W0:=⟨_,rfl⟩;rw[Hc]at b4 Bs Fs Au⊢;clear Hc;refine wpIn_rangeFunc_ownG rfl h1 (gf:=194) (lb:=#[.pointer (some ⟨wr.heap.size,0,none⟩)]) rfl trivial (enters_of Tryz.func194 aE rfl)
     (bJa (n-1) aA wr.heap.size w A k cap es hE W0 Fs aA b4.cell) belowK_t (belowK_b aA) (Yg _ _) (fun _=>rfl)
     (fun Aq W=>(Boxed W w.heap.size 4 (.bool false)/\∀p∈Aq,rF p.1.2.2=true)/\Below w.heap.size w W)
     (fun c Aq W=>((c=.ret/\∃ini last,Aq=ini++[last]/\rF last.1.2.2=false)/\Boxed W w.heap.size 4 (.bool false))/\Below w.heap.size w W)
     (OwnFrom.and (OwnFrom.and (Own.from (boxed_own _ _ (fun _=>_)) _) (ownFrom_pure _ _)) (ownFrom_below (Yh _) aA))
     (fun c=>OwnFrom.and (OwnFrom.and (ownFrom_pure _ _) (Own.from (boxed_own _ _ (fun _=>_)) _)) (ownFrom_below (Yh _) aA))
     ⟨⟨Bs,by simp⟩,Fs⟩
     (fun x=>{ tmps:=#[.slice A k cap,undef,.pointer (some ⟨w.heap.size,0,none⟩),undef,u4,undef,.string x.1.2.2,.slice A k cap,.int .i64 k,.int .i64 k,.bool false,u11,u12,u13,u14,u15,u16,u17,u18,u19,u20,u21,u22,u23,.slice A k cap,.func (.func 194) #[] #[.pointer (some ⟨wr.heap.size,0,none⟩)],.agg #[.int .i64 (x.1.1:Int),.int .i64 (x.1.2.1:Int)],.string x.1.2.2,undef,undef,undef],defers:=[] }) ?assign ?body ?done ?stop
    case assign=>
     intro l x W K hK;simp only[aC7];gi_wp2;exact hK
    case body=>
     rintro l Aq ⟨⟨xi,xk,xc⟩,hx⟩ W ⟨⟨hb,hp⟩,hB⟩ Ah;have Nh:=Ax.flat _ hx;dsimp only at Nh;unfold maxLen at Nh;have e1:=hb.cell;have f1:=hb.frozen;have hd:1<=n-1-1:=aA;have Nj:=Hd (show rF xc=dF xc.data.toList from rfl);by_cases Fv:dF xc.data.toList=true
     . gi_wp2_with fail;refine⟨trivial,(CallsIn.inRound l (callsIn_wide.2 (wD xc _ aA))).mono ?_⟩;rw[Fv];rintro e w3 ⟨rfl,Ak⟩;have Aj:=Hd Ak;clear Ak;gi_wp2_with fail;exact⟨aR8 Aj.o,Aj.o.mono hB.size,⟨aEj hb Aj.o hb.lt,fun p Iq=>(List.mem_append.1 Iq).elim (hp p) (fun e=>by simp at e;subst e;exact Nj.o.trans Fv)⟩,hB.tr Aj.o⟩
     . have Fv:dF xc.data.toList=false:=by simpa using Fv
       gi_wp2_with fail;refine⟨trivial,(CallsIn.inRound l (callsIn_wide.2 (wD xc _ aA))).mono ?_⟩;rw[Fv];rintro e w3 ⟨rfl,Ak⟩;have Aj:=Hd Ak;clear Ak;have Jb:=aEj hb Aj.o hb.lt;have e2:=Jb.cell;have f2:=Jb.frozen;gi_wp2_with fail;exact⟨((aR8 Aj.o).trans ((KeepsOthers.setCell _ _ _).from _)),⟨⟨rfl,Aq,_,rfl,Nj.o.trans Fv⟩,Jb.set (.bool false)⟩,(hB.tr Aj.o).setCell (p:=⟨w.heap.size,0,none⟩) (Yh _) _⟩
    case done=>
     rintro D ys W hD Nn ⟨⟨hb,hp⟩,hB⟩ hK;have e1:=hb.cell;have f1:=hb.frozen;gi_wp2;have Jx:=(KeepsOthers.setCell W ⟨w.heap.size,0,none⟩ (.bool true)).same D _ hK rfl;have k1:=((hb.set (.bool true)).kept (grownBy_putObj' _ D (.deferred none)) (fun e=>by cases e;omega)).cell;refine⟨by simp,.inl ⟨_,_,rfl,run_takeDeferred Jx,?_⟩⟩;refine⟨.bool true,?_,by rw[bNy Ct.o fun p Iq=>by rw[<-Nn]at Iq;obtain⟨q,hq,rfl⟩:=List.mem_map.1 Iq;exact hp q hq],(hB.setCell (p:=⟨w.heap.size,0,none⟩) (Yh _) _).trans (belowK_b (w:=w) (Yh _) _ D _ _ aA Jx rfl rfl)⟩;simp[results,Tryz.f101,go_sem,k1]
    case stop=>
     rintro D c Aq W hD Ha ⟨⟨⟨rfl,ini,last,rfl,hl⟩,hb⟩,hB⟩ hK;gi_wp2;have k1:=(hb.kept (grownBy_putObj' _ D (.deferred none)) (fun e=>by cases e;omega)).cell;refine⟨by simp,.inl ⟨_,_,rfl,run_takeDeferred hK,?_⟩⟩;refine⟨.bool false,?_,by rw[bRs (ini:=ini.map (·.1)) (x:=last.1) (by simpa using Ha) hl],hB.trans (belowK_b (w:=w) (Yh _) _ D _ _ aA hK rfl rfl)⟩;simp[results,Tryz.f101,go_sem,k1]
theorem aYw(A:OA)(len cap:Nat)(es:List En)(w:World)(hE:cQ w A len es)(Ax:qV es):
 Calls Tryz.prog 101 #[.slice A len cap] w fun e w'=>e=.returned (.bool (lA es))/\Below w.heap.size w w':=
 callsIn_wide.1 (bLk 6 (Yh _) A len cap es w hE Ax)
end
section
open Go.RowKit Go.Shelf
attribute [local go_sem] Oper.semAt_some
def fL(es:List En):List ByteArray:=es.map (·.1)
def qJ(es:List En):Bool:=dC (fL es) && dC (gU es)
def aAu(es:List En):Prop:=es.length<=8/\∀j,j<es.length->(cH es j).length<=12
section
variable {es:List En}
theorem aAu.flat(h:aAu es):(jE es).length<=96:=by
 have h1:=aSu (es:=es) (i:=es.length) h.2;have h2:(oK es es.length).length=(jE es).length:=by simp[oK,jE]
 have:=h.1
 omega
theorem qV.nms(h:qV es):∀s∈fL es,s.size<=maxLen:=by
 intro s hs;obtain⟨e,he,rfl⟩:=List.mem_map.1 hs;obtain⟨j,hj,rfl⟩:=Zm he
 have:=(h j hj).1
 unfold cM at this;exact aQb
theorem qV.all(h:qV es):∀s∈gU es,s.size<=maxLen:=by
 intro s hs;obtain⟨p,hp,rfl⟩:=List.mem_map.1 hs;exact h.flat p hp
theorem aM4:(fL es).length=es.length:=by simp[fL]
theorem aU5{k:Nat}(h:k<es.length):(fL es).take (k+1)=(fL es).take k++[cM es k]:=by
 rw[aLx (by rw[aM4];exact h)];unfold fL;rw[bZw]
end
theorem vQ:(Tryz.prog.info? 9).map (fun i=>(i.zero,i.size,i.bytes))=some (some (.string ByteArray.empty),1,16):=aE
theorem tA(l:LB):∀u∈l.map Value.string,u.oneCell'=true:=by
 exact bEn
theorem bJi(w:World)(o:Obj)(v:Value)(T:TypeId)(h:o.isCells=true\/True):∀j u,[v][j]?=some u->((w.alloc o).alloc (.cells #[v] T)).cell? ((⟨w.heap.size+1,0,none⟩:Addr).add j)=some u:=by
 have:=cell_one_new (w.alloc o) v T
 simpa using this
theorem bVv{β:Type}(base:Nat)(e:TypeId)(size:Nat)(v:Value)(k:Nat)(xs:LV):Own (fun(_:β) W=>W.ownsRow base e size v k xs):=fun s X Y Aa hs hg Ad=>by
 refine hs.kept hg ?_;rcases hs.2 with⟨rfl,_⟩|⟨g,cap,cur,rfl,_,hgb,_⟩;· exact .inl rfl
 . refine .inr fun e'=>?_;obtain⟨o,ho,hc⟩:=Ad g (by simpa[Value.ownBlock]using e'.symm);rw[hgb]at ho;cases ho;cases hc
theorem bJb{W w1:World}{n₀ m₀ B:Nat}{t e:TypeId}{size:Nat}{v v':Value}{k m:Nat}{xs ys:LV}{Aa:Obj}
 (hv:Boxed W B t v)(Aq:t≠e)(Ad:W.ownsRow n₀ e size v k xs)(Ct:n₀<=W.heap.size)(hm:m₀<=n₀)(hB:m₀<=B)
 (Bb:w1.ownsRow n₀ e size v' m ys)(Aw:(W.alloc Aa).grownBy w1 v.ownBlock):
 Boxed w1 B t v/\Boxed (w1.setCell ⟨B,0,none⟩ v') B t v'/\(w1.setCell ⟨B,0,none⟩ v').ownsRow n₀ e size v' m ys/\KeepsOthers W (w1.setCell ⟨B,0,none⟩ v')/\Below m₀ W (w1.setCell ⟨B,0,none⟩ v')/\
  ∀{base sz:Nat}{u:Value}{ku:Nat}{us:LV},W.ownsRow base e sz u ku us->(∀g,u.ownBlock=some g->g<n₀)->(w1.setCell ⟨B,0,none⟩ v').ownsRow base e sz u ku us:=by
 have Ae:Boxed w1 B t v:=(hv.alloc Aa).kept Aw (hv.not_row Aq Ad);refine⟨Ae,Ae.set v',Bb.kept (grownBy_setCell' w1 B v') (.inr (Ae.not_row Aq Bb).symm),?_,?_,?_⟩
 . refine((KeepsOthers.alloc W Aa).trans (KeepsOthers.of_grownBy Aw fun j o ej hj=>?_)).trans (KeepsOthers.setCell _ _ _);rcases(Ad.alloc Aa).2 with⟨rfl,_⟩|⟨g,cap,cur,rfl,_,hgb,_⟩;· simp[Value.ownBlock]at ej
   . obtain rfl:g=j:=by simpa[Value.ownBlock]using ej
     rw[hgb]at hj;cases hj;rfl
 . refine(((Yg m₀ W).alloc aA Aa).grown Aw cP fun j ej=>?_).setCell (p:=⟨B,0,none⟩) hB v'
   have:=(Ad.lt j ej).1
   omega
 . intro base sz u ku us hu Ah
   have h2:w1.ownsRow base e sz u ku us:=(hu.alloc Aa).kept Aw (by
    rcases Bs:u.ownBlock with _|g;· exact .inl rfl
    . refine .inr fun e'=>?_;have h3:=Ah g Bs;have h4:=(Ad.lt g e'.symm).1
      omega)
   exact h2.kept (grownBy_setCell' w1 B v') (.inr (Ae.not_row Aq h2).symm)
theorem bLl(n:Nat)(hn:6<=n)(A:OA)(len cap:Nat)(es:List En)(w:World)(hE:cQ w A len es)(Ax:qV es)(Gv:aAu es):
 CallsIn Fence.wide n Tryz.prog 102 #[.slice A len cap] w fun e w'=>e=.returned (.bool (qJ es))/\Below w.heap.size w w':=by
 have h1:1<=n:=aA;have Nn:=hE.len;have Od:=hE.max;have Ny:=Gv.1;obtain⟨i0,hi,Cm,Co,Cr⟩:=info_parts vQ;refine callsIn_of_wp_marks Tryz.func102 rfl trivial ?_ rfl;simp only[Tryz.ntmps102,List.size_toArray,Yq,Zg,Nat.reduceAdd,Nat.reduceSub,Array.replicate_succ,Array.replicate_zero,List.push_toArray,List.append_toArray,List.nil_append,Yx];gi_wp2_with fail;gi_loopw [3,11] (fun v i wr=>∃k:Nat,k<=len/\i=.int .i64 k/\wr.ownsRow (w.heap.size+1) 9 1 v k (((fL es).take k).map Value.string)/\Boxed wr w.heap.size 62 (.slice none 0 0)/\Below w.heap.size w wr)
  (fun _ i _=>len-(intOf i).toNat)
 case atStart=>exact⟨0,Ys _,rfl,World.ownsRow_nil _ _ _ _,Boxed.new _ _ _,(Yg _ _).alloc (Yh _) _⟩
 case round=>
  obtain⟨k,hk,rfl,Ad,Dw,An⟩:=hrel;have Nt:=Dw.lt;by_cases Ah:k<len
  . obtain⟨b,off,rfl,hb,hc⟩:=hE.at_ Ah;obtain⟨Dy,A',n',c',Fo,Oe⟩:=hc k Ah;have Nl:wr.cell? ⟨b,off+k*2,none⟩=some (.string (cM es k)):=(An.cell (p:=⟨b,off+k*2,none⟩) hb).trans Dy;have Dg:wr.cell? ⟨b,off+k*2+1,none⟩=some (.slice A' n' c'):=(An.cell (p:=⟨b,off+k*2+1,none⟩) hb).trans Fo;have Nu:k<es.length:=aA;have Nj:=Hd (aU5 Nu);generalize Oa:cM es k=x at Nl Nj;gi_wp2_with (gi_at_builtin;refine wpListIn_append_own _ rfl _ _ 62 rfl (w.heap.size+1) 9 i0 (.string ByteArray.empty) 1 16 Tryz.underlying62 hi Cm Co Cr rfl aF _ _ _ rfl ((Ad.alloc _).alloc _) ⟨wr.heap.size+1,0,none⟩ 1 1 [.string x] rfl rfl (bJi _ _ _ _ (.inr trivial)) (tA [x]) fZ aA cP ?_;intro v' w1 Bb Aw _);have HO:=Hd Bb;have Aq:=(Dw.alloc (.cells #[.string x,.slice A' n' c'] 64)).alloc (.cells #[.string x] 9);have Ac:=Hd (Aq.kept Aw (Aq.not_row aF ((Ad.alloc _).alloc _)));have HG:=Hd ((((An.alloc An.size (.cells #[.string x,.slice A' n' c'] 64))).alloc aGi (.cells #[.string x] 9)).grown Aw aGi (fun j hj=>by have:=(Ad.lt j hj).1;omega));clear Bb Aw Aq Ad;go_roundw;case rel=>exact⟨k+1,by omega,by go_num,by rw[Nj.o,Zt];exact HO.o,Ac.o,HG.o⟩
    case measure=>simp[intOf];omega
  . obtain rfl:k=len:=by omega
    gi_wp2_with fail;refine⟨trivial,(callsIn_wide.2 (aYu _ _ _ _)).mono ?_⟩;rintro e w' ⟨rfl,rfl⟩;gi_wp2_with fail;have b4:=Boxed.new wr 23 (.slice A k cap);have Ct:=Dw.alloc (.cells #[.slice A k cap] 23);have Aa:=Ad.alloc (.cells #[.slice A k cap] 23);have Ha:=An.alloc An.size (.cells #[.slice A k cap] 23);have Au:(wr.alloc (.cells #[.slice A k cap] 23)).heap.size=wr.heap.size+1:=aC;have Fb:=Dw.lt;have Oc:=An.size;have Nr:∀g,u3.ownBlock=some g->g<wr.heap.size+1:=fun g hg=>by have:=(Ad.lt g hg).2;omega
    have Nv:=Gv.flat;obtain⟨W0,Nk⟩:∃W0,wr.alloc (.cells #[.slice A k cap] 23)=W0:=⟨_,rfl⟩;rw[Nk]at b4 Ct Aa Ha Au⊢;clear Nk Ad Dw An;refine wpIn_rangeFunc_ownG rfl h1 (gf:=194) (lb:=#[.pointer (some ⟨wr.heap.size,0,none⟩)]) rfl trivial (enters_of Tryz.func194 aE rfl)
     (bJr (n-1) aA wr.heap.size w A k cap es hE W0 Ha aA b4.cell) belowK_t (belowK_b aA) (Yg _ _) (fun _=>rfl)
     (fun Ae W=>((∃v,Boxed W w.heap.size 62 v/\W.ownsRow (wr.heap.size+1) 9 1 v Ae.length (Ae.map fun p=>Value.string p.2.2)/\True)/\W.ownsRow (w.heap.size+1) 9 1 u3 k (((fL es).take k).map Value.string)/\wr.heap.size+1<=W.heap.size)/\Below w.heap.size w W)
     (fun _ _ _=>False)
     (OwnFrom.and (OwnFrom.and (Own.from (holdsRow_own (wr.heap.size+1) w.heap.size 62 9 1 (fun(Ae:List Pl)=>Ae.length) (fun(Ae:List Pl)=>Ae.map fun p=>Value.string p.2.2) (fun _ _=>True)) _) (OwnFrom.and (Own.from (bVv _ _ _ _ _ _) _) (fun s X Y Nz hs hg hr=>Yr hs hg.size))) (ownFrom_below (Yh _) aA))
     (fun _ _ _ _ _ hs _ _=>hs)
     ⟨⟨⟨_,Ct,World.ownsRow_nil _ _ _ _,trivial⟩,Aa,by omega⟩,Ha⟩
     (fun x=>{ tmps:=#[.slice A k cap,undef,.bool false,u3,.pointer (some ⟨w.heap.size,0,none⟩),undef,u6,undef,.string x.2.2,.slice A k cap,.int .i64 k,.int .i64 k,.bool false,u13,u14,u15,u16,u17,u18,u19,u20,.slice A k cap,.func (.func 194) #[] #[.pointer (some ⟨wr.heap.size,0,none⟩)],.agg #[.int .i64 (x.1:Int),.int .i64 (x.2.1:Int)],.string x.2.2,undef,undef,undef,undef,undef,undef,undef,undef,undef,undef],defers:=[] }) ?assign ?body ?done ?stop
    case assign=>
     intro l x W K hK;simp only[aC7];gi_wp2;exact hK
    case body=>
     rintro l Ae x W ⟨⟨⟨v,hv,Bs,_⟩,Ad,Hb⟩,hB⟩ Nw;have hc:=hv.cell;generalize hx:x.2.2=xc;gi_wp2_with (gi_at_builtin;refine wpListIn_append_own _ rfl _ _ 62 rfl (wr.heap.size+1) 9 i0 (.string ByteArray.empty) 1 16 Tryz.underlying62 hi Cm Co Cr rfl aF _ _ _ rfl (Bs.alloc _) ⟨W.heap.size,0,none⟩ 1 1 [.string xc] rfl rfl (cell_one_new _ _ _) (tA [xc]) fZ aA cP ?_;intro v' w1 Bb Aw _;obtain⟨g',Np,rfl⟩:=ownsRow_succ Bb;obtain⟨Nh,Ns,Cu,Cb,Ag,Hp⟩:=bJb hv aF Bs Hb aA (Yh _) Bb Aw;have Ce:=Nh.cell;have Of:=Nh.frozen);exact⟨Cb.from _,Ag,⟨⟨_,Ns,by rw[Zt,Yo];simpa[hx]using Cu,trivial⟩,Hp Ad Nr,Yr Hb Cb.size⟩,hB.trans Ag⟩
    case done=>
     rintro D ys W hD rfl ⟨⟨⟨v,hv,Bs,_⟩,Ad,Hb⟩,hB⟩ hK;have hc:=hv.cell;have Ni:=(Ym.1 hK).1;obtain⟨A1,c1,rfl,Jx,_⟩:=aS.of_own Ad aA;have No:(fL es).take k=fL es:=Yz (by rw[aM4];omega);rw[No]at Jx;rw[show(jE es).map (fun p=>Value.string p.2.2)=(gU es).map Value.string by simp[gU]]at Bs;obtain⟨A2,c2,rfl,Nq,_⟩:=aS.of_own Bs aA;by_cases ho:dC (fL es)=true
     . have HE:=Hd (show dC (gU es)=qJ es by simp[qJ,ho]);gi_wp2_with fail;refine⟨trivial,(callsIn_wide.2 (aCl A1 k c1 (fL es) _ Jx Ax.nms aA)).mono ?_⟩;rw[ho];rintro e w3 ⟨rfl,Ak⟩;have Ob:=(Ak.cell (p:=⟨w.heap.size,0,none⟩) hv.lt).trans hc;have Fs:=(Ak.block D Ni).trans hK;have Nm:=Nq.below Ak;have Aj:=Hd (hB.tr Ak);have Nx:=Ak.size;clear Ak;gi_wp2_with fail;refine⟨trivial,(callsIn_wide.2 (aCl A2 _ c2 (gU es) _ Nm Ax.all aA)).mono ?_⟩;rw[HE.o];rintro e w4 ⟨rfl,Hc⟩;have Ng:=(Hc.block D aA).trans Fs;have Bd:=Hd (Aj.o.tr Hc);clear Hc;gi_wp2_with fail;refine⟨by simp,.inl ⟨_,_,rfl,run_takeDeferred Ng,?_⟩⟩;exact⟨_,results_tmp rfl _ _ _,rfl,Bd.o.trans (belowK_b (w:=w) (Yh _) _ D _ _ aA Ng rfl rfl)⟩
     . have ho:dC (fL es)=false:=by simpa using ho
       have HE:=Hd (show false=qJ es by simp[qJ,ho]);gi_wp2_with fail;refine⟨trivial,(callsIn_wide.2 (aCl A1 k c1 (fL es) _ Jx Ax.nms aA)).mono ?_⟩;rw[ho];rintro e w3 ⟨rfl,Ak⟩;have Fs:=(Ak.block D Ni).trans hK;have Aj:=Hd (hB.tr Ak);clear Ak;gi_wp2_with fail;refine⟨trivial,?_⟩;gi_wp2_with fail;refine⟨by simp,.inl ⟨_,_,rfl,run_takeDeferred Fs,?_⟩⟩;rw[<-HE.o];exact⟨_,results_tmp rfl _ _ _,rfl,Aj.o.trans (belowK_b (w:=w) (Yh _) _ D _ _ aA Fs rfl rfl)⟩
    case stop=>
     rintro D c Ae W _ _ h _;exact h.elim
theorem bVw(A:OA)(len cap:Nat)(es:List En)(w:World)(hE:cQ w A len es)(Ax:qV es)(Gv:aAu es):
 Calls Tryz.prog 102 #[.slice A len cap] w fun e w'=>e=.returned (.bool (qJ es))/\Below w.heap.size w w':=
 callsIn_wide.1 (bLl 6 (Yh _) A len cap es w hE Ax Gv)
end
section
open Go.RowKit
def uS(es:List En):Bool:=decide (4<es.length) || es.any fun e=>decide (6<e.2.length)
def aF7(es:List En)(k:Nat):Prop:=∀j,j<k->(cH es j).length<=6
def cG(es:List En):Int:=if uS es then 4 else if lA es then(if qJ es then 0 else 6)else 1
section
variable {es:List En}{k:Nat}
theorem aYx(h:k<es.length)(hb:6<(cH es k).length):uS es=true:=by
 unfold uS;rw[Bool.or_eq_true,List.any_eq_true];refine .inr ⟨es[k]'h,Zk h,?_⟩;rw[aF6 h];exact Xc hb
theorem aYy(h4:es.length<=4)(H:aF7 es k)(h:es.length<=k):uS es=false:=by
 unfold uS;rw[Bool.or_eq_false_iff,List.any_eq_false];refine⟨Xd aA,fun e he=>?_⟩;obtain⟨j,hj,rfl⟩:=Zm he
 have:=H j aA
 rw[aF6 hj];simp only[decide_eq_true_eq];omega
theorem aTj(H:aF7 es k)(h:(cH es k).length<=6):aF7 es (k+1):=fun j hj=>by
 exact aPr
end
theorem aOl(A:OA)(len cap:Nat)(es:List En)(w:World)(hE:cQ w A len es):
 Calls Tryz.prog 100 #[.slice A len cap] w fun e w'=>e=.returned (.bool (uS es))/\Below w.heap.size w w':=by
 have Aa:=hE.len;have Fs:=hE.max;by_cases h4:4<len
 . go_in
   go_wp2_with fail;go_ret;exact⟨aO (by simp[uS,Aa,h4]),Yg _ _⟩
 . have Hb:decide ((4:Int)<(len:Int))=false:=Xd aA;go_in
   go_wp2_with fail;go_loopw [10] (fun i wr=>∃k:Nat,k<=len/\i=.int .i64 k/\aF7 es k/\Below w.heap.size w wr) (fun i _=>len-(intOf i).toNat)
   case atStart=>exact⟨0,Ys _,rfl,fun j hj=>absurd hj aA,Yg _ _⟩
   case round=>
    obtain⟨k,hk,rfl,Ck,An⟩:=hrel;have HT:=Hd Ck;clear Ck;by_cases Ah:k<len
    . obtain⟨b,off,rfl,hb,hc⟩:=hE.at_ Ah;obtain⟨Dy,A',n',c',Fo,Ae⟩:=hc k Ah;have Ct:wr.cell? ⟨b,off+k*2,none⟩=some (.string (cM es k)):=(An.cell (p:=⟨b,off+k*2,none⟩) hb).trans Dy;have Dg:wr.cell? ⟨b,off+k*2+1,none⟩=some (.slice A' n' c'):=(An.cell (p:=⟨b,off+k*2+1,none⟩) hb).trans Fo;have Aq:k<es.length:=aA;have Hc:=Ae.len;have Bs:=Ae.max;by_cases h6:6<n'
      . have HE:=Hd (aYx Aq aA);go_wp2_with fail;go_ret;exact⟨aO HE.o.symm,An.alloc An.size _⟩
      . have HN:=Hd (aTj HT.o aA);have Ha:decide ((6:Int)<(n':Int))=false:=Xd aA;go_wp2_with fail;go_roundw;case rel=>exact⟨k+1,by omega,by go_num,HN.o,An.alloc An.size _⟩
        case measure=>simp[intOf];omega
    . go_wp2_with fail;go_ret;exact⟨aO (aYy aA HT.o aA).symm,An⟩
theorem bVx(A:OA)(len cap:Nat)(es:List En)(w:World)(hE:cQ w A len es)(Ax:qV es)(Gv:aAu es):
 Calls Tryz.prog 48 #[.slice A len cap] w fun e w'=>e=.returned (.int .i64 (cG es))/\Below w.heap.size w w':=by
 have HE:=Hd hE;clear hE;cases hm:uS es with
 |true=>
  have hN:=Hd (show(4:Int)=cG es by simp[cG,hm]);go_in
  go_wp2_with fail;refine(aOl A len cap es w HE.o).mono ?_;rw[hm];rintro e w1 ⟨rfl,Ab⟩;have Ac:=Hd Ab;clear Ab;go_wp2_with fail;go_ret;exact⟨iL hN.o,Ac.o⟩
 |false=>
  cases hn:lA es with
  |false=>
   have hN:=Hd (show(1:Int)=cG es by simp[cG,hm,hn]);go_in
   go_wp2_with fail;refine(aOl A len cap es w HE.o).mono ?_;rw[hm];rintro e w1 ⟨rfl,Ab⟩;have Ac:=Hd Ab;clear Ab;go_wp2_with fail;refine(aYw A len cap es _ (HE.o.below Ac.o) Ax).mono ?_;rw[hn];rintro e w2 ⟨rfl,Ag⟩;have Ai:=Hd (zI Ac.o Ag);clear Ag;go_wp2_with fail;go_ret;exact⟨iL hN.o,Ai.o⟩
  |true=>
   cases ha:qJ es with
   |false=>
    have hN:=Hd (show(6:Int)=cG es by simp[cG,hm,hn,ha]);exact bGq
   |true=>
    have hN:=Hd (show(0:Int)=cG es by simp[cG,hm,hn,ha]);exact bGq
end
section
open Go.RowKit
theorem aS.news{w:World}{a:Addr}{n:Nat}{l:LB}(h:aS w (some a) n l)(j:Nat)(u:Value)(hu:(l.map Value.string)[j]?=some u):w.cell? (a.add j)=some u:=by
 exact bGz
section
variable {P:Program}{w:World}
theorem bI7{Aq:Array Oper}{rest:List Oper}{o:Oper}{a:Act}{Q:Exit->Act->World->Prop}(Ae:o.guard=none)(s x:Operand)(t:TypeId)
 (ho:o.op=.call { callee:=.builtin .append,args:=#[s,x],argTypes:=#[t,t] })
 (base:Nat)(e:TypeId)(i:TypeInfo)(z:Value)(Dh:Nat)(ht:P.underlying t=some (.slice e))(hi:P.info? e=some i)(hz:i.zero=some z)
 (Gk:i.size=1)(La:i.bytes=Dh)(Kd:z.cells.size=1)
 (v:Value)(n:Nat)(xs:LB)(hs:a.eval s=v)(Ao:w.ownsRow base e 1 v n (xs.map Value.string))
 (A:OA)(m c:Nat)(l:LB)(hx:a.eval x=.slice A m c)(hr:aS w A m l)
 (Lc:n+m<=maxLen)(Fg:(n+m)*Dh<=140737488355328)(Et:base<=w.heap.size)
 (h:∀v' w',w'.ownsRow base e 1 v' (n+m) ((xs++l).map Value.string)->w.grownBy w' v.ownBlock->(v'.ownBlock=v.ownBlock\/v'.ownBlock=some w.heap.size)->wpList P Aq Q rest (a.put o.dst v') w'):wpList P Aq Q (o::rest) a w:=by
 rcases A with _|ad
 . obtain rfl:m=0:=by
    rcases Nat.eq_zero_or_pos m with h0|h0;· exact h0
    . obtain⟨b,off,e,_⟩:=hr.at_ h0;cases e
   obtain rfl:l=[]:=Zu hr.len;refine wpList_plain Ae fun K hK=>?_;have Aa:=aLi (P:=P) (w:=w) base t o.type e i 1 ht hi v n _ Ao c;unfold Oper.wp;simp[execOp,ho,resolve,invoke,builtin,hs,hx,Aa,Result.andThen];exact hK _ _ (h v w (by simpa using Ao) (World.grownBy.refl w _) (.inl rfl))
 . exact wpList_append_own_at w Ae s x t ho base e i z 1 Dh ht hi hz Gk La Kd aF v n _ hs Ao ad m c (l.map Value.string) hx (by simp[hr.len]) hr.news (tA _) Lc Fg Et fun v' w' h1 h2 _ h4=>h v' w' (by rw[Zt];exact h1) h2 h4
end
def rG(u v:Value):Prop:=∀g,u.ownBlock=some g->v.ownBlock≠some g
theorem rG.kept1{u v v':Value}{n:Nat}(h:rG u v)(hl:v'.ownBlock=v.ownBlock\/v'.ownBlock=some n)(hu:∀g,u.ownBlock=some g->g<n):rG u v':=fun g hg e=>by
 rcases hl with h1|h1;· exact h g hg (h1 ▸ e)
 . have:=hu g hg
   rw[h1]at e;cases e;omega
theorem rG.symm{u v:Value}(h:rG u v):rG v u:=fun g hg e=>h g e hg
theorem rG.ne{u v:Value}(h:rG u v):u.ownBlock=none\/u.ownBlock≠v.ownBlock:=by
 rcases Aa:u.ownBlock with _|g;· exact .inl rfl
 . exact .inr fun e=>h g Aa e.symm
theorem bRt(A:OA)(len cap:Nat)(es:List En)(w:World)(hE:cQ w A len es)(Ax:qV es)(Gv:aAu es):
 Calls Tryz.prog 28 #[.slice A len cap] w fun e w'=>e=.returned (.int .i64 (cG es))/\Below w.heap.size w w':=by
 have Nl:=hE.len;have Ov:=hE.max;by_cases h4:4<len
 . have hN:=Hd (show(4:Int)=cG es by simp[cG,uS,Nl,h4]);go_in
   go_wp2_with fail;go_ret;exact⟨iL hN.o,((Yg _ _).alloc (Yh _) _).alloc aC _⟩
 . have Ow:decide ((4:Int)<(len:Int))=false:=Xd aA;obtain⟨i0,hi,Cm,Co,Cr⟩:=info_parts vQ;have Nr:=Hd ((World.ownsRow_lit (base:=w.heap.size) (e:=9) (size:=1) w #[] 0 (Yh _) aF rfl).alloc (.cells #[] 9));have Nu:=Hd (World.ownsRow_lit (base:=w.heap.size) (e:=9) (size:=1) (w.alloc (.cells #[] 9)) #[] 0 aC aF rfl);have Cd:=Hd (((Yg w.heap.size w).alloc (Yh _) (.cells #[] 9)).alloc aC (.cells #[] 9));go_in
   go_wp2_with fail;go_loopw [3,4,5] (fun v u i wr=>∃k:Nat,k<=len/\i=.int .i64 k/\aF7 es k/\wr.ownsRow w.heap.size 9 1 v k (((fL es).take k).map Value.string)/\wr.ownsRow w.heap.size 9 1 u (oK es k).length ((oK es k).map Value.string)/\rG v u/\Below w.heap.size w wr) (fun _ _ i _=>len-(intOf i).toNat)
   case atStart=>
    refine⟨0,Ys _,rfl,fun j hj=>absurd hj aA,Nr.o,?_,?_,Cd.o⟩
    . have:=Nu.o
      simpa[oK,mL]using this
    . intro g hg e;simp[Value.ownBlock]at hg e;omega
   case round=>
    obtain⟨k,hk,rfl,Ck,Fs,Ct,Ng,An⟩:=hrel;have HT:=Hd Ck;clear Ck;by_cases Ah:k<len
    . obtain⟨b,off,rfl,hb,hc⟩:=hE.at_ Ah;obtain⟨Dy,A',n',c',Fo,Nj⟩:=hc k Ah;have Oh:wr.cell? ⟨b,off+k*2,none⟩=some (.string (cM es k)):=(An.cell (p:=⟨b,off+k*2,none⟩) hb).trans Dy;have Dg:wr.cell? ⟨b,off+k*2+1,none⟩=some (.slice A' n' c'):=(An.cell (p:=⟨b,off+k*2+1,none⟩) hb).trans Fo;have Nm:k<es.length:=aA;have Nv:=Nj.len;have Ns:=Nj.max;by_cases h6:6<n'
      . have HE:=Hd (show(4:Int)=cG es by simp[cG,aYx Nm (show 6<(cH es k).length by omega)]);go_wp2_with fail;go_ret;exact⟨iL HE.o,An⟩
      . have HN:=Hd (aTj HT.o (show(cH es k).length<=6 by omega));have Ou:decide ((6:Int)<(n':Int))=false:=Xd aA;have Oa:=Hd (aU5 Nm);have On:=Hd (aLk es k);have Ox:=aSu (es:=es) (i:=k) fun j hj=>Gv.2 j aA;generalize Ol:cM es k=x at Oh Oa;have Oi:=Hd Nj;have Ot:=Hd Fo;have Bk:=Hd An;have H3:=Hd Fs;have H4:=Hd Ct;have HA:=Hd Ng;have Ok:=An.size;clear Fs Ct Ng Nj Nr Nu Cd
        go_wp2_with (first
         |(at_builtin;refine wpList_append_own_at _ rfl _ _ 62 rfl w.heap.size 9 i0 (.string ByteArray.empty) 1 16 Tryz.underlying62 hi Cm Co Cr rfl aF _ _ _ rfl (H3.o.alloc _) ⟨wr.heap.size,0,none⟩ 1 1 [.string x] rfl rfl (cell_one_new _ _ _) (tA [x]) fZ aA cP ?_;intro v' w1 Bb Aw Fc Eg;have No:=(Bk.o.alloc Ok (.cells #[.string x] 9)).grown Aw cP (fun j hj=>(H3.o.lt j hj).1);have Dg:w1.cell? ⟨b,off+k*2+1,none⟩=some (.slice A' n' c'):=(No.cell (p:=⟨b,off+k*2+1,none⟩) hb).trans Ot.o;have HG:=Hd Aw;have HO:=Hd Bb;have HL:=Hd Eg;have Ac:=Hd No;have Af:=No.size;have Oj:=Aw.size;simp at Oj;clear Aw Bb Fc Eg No;have Bi:=Hd (Oi.o.keep Ac.o.size fun p hp=>Ac.o.cell hp);have Nz:=Hd ((H4.o.alloc (.cells #[.string x] 9)).kept HG.o HA.o.symm.ne))
         |(at_builtin;refine bI7 rfl _ _ 62 rfl w.heap.size 9 i0 (.string ByteArray.empty) 16 Tryz.underlying62 hi Cm Co Cr rfl _ _ (oK es k) rfl Nz.o A' n' c' (cH es k) rfl Bi.o fZ aA aA ?_;intro v2 w2 Hb Ha Jx;have Dl:=Hd Ha;have Je:=Hd Hb;have Om:=Hd Jx;clear Ha Hb Jx))
        have Oo:=Hd (rG.kept1 (rG.kept1 HA.o.symm HL.o (fun g hg=>by have:=(H4.o.lt g hg).2;simp;omega)).symm Om.o (fun g hg=>(HO.o.lt g hg).2));go_roundw;case rel=>
         refine⟨k+1,by omega,by go_num,HN.o,?_,?_,Oo.o,?_⟩
         . rw[Oa.o,Zt];exact HO.o.kept Dl.o (rG.ne (rG.kept1 HA.o.symm HL.o (fun g hg=>by have:=(H4.o.lt g hg).2;simp;omega)).symm)
         . rw[On.o,Yo,Nv];exact Je.o
         . exact Ac.o.grown Dl.o aA (fun j hj=>(Nz.o.lt j hj).1)
        case measure=>simp[intOf];omega
    . obtain rfl:k=len:=by omega
      have Hc:=aYy aA HT.o aA;have Nx:(fL es).take k=fL es:=Yz (by rw[aM4];omega);have Od:oK es k=gU es:=by rw[<-Nl];exact bKa es
      have Nv:(gU es).length<=96:=by have:=Gv.flat;simpa[gU]using this
      rw[Nx]at Fs;rw[Od]at Ct;obtain⟨A1,c1,rfl,Of,_⟩:=aS.of_own Fs aA;obtain⟨A2,c2,rfl,Ob,_⟩:=aS.of_own Ct aA;have Oc:=hE.below An;have Jj:=Hd Oc;have Bi:=Hd Of;have Cn:=Hd Ob;have Bk:=Hd An;have Aa:=Hd Hc;clear Fs Ct Of Ob Ng Nr Nu Cd Nx Od Hc An hE Oc;go_wp2_with fail;go_loopw [6] (fun i wq=>∃j:Nat,j<=k/\i=.int .i64 j/\aE7 es j/\Below wr.heap.size wr wq) (fun i _=>k-(intOf i).toNat)
      case atStart=>exact⟨0,Ys _,rfl,fun j hj=>absurd hj aA,Yg _ _⟩
      case round=>
       obtain⟨j,hj,rfl,Ck,Np⟩:=hrel;have Nq:=Hd Ck;have Nh:=Hd Np;clear Ck;by_cases Ny:j<k
       . obtain⟨b,off,rfl,hb,hc⟩:=(Jj.o.below Np).at_ Ny;obtain⟨Dy,A',n',c',Fo,Nj⟩:=hc j Ny;have Nm:j<es.length:=aA;have Nv:=Nj.len;have Ns:=Nj.max;have Ni:=Hd fun h=>aU4 Nm h;have Nn:=Hd fun h1 h2=>aSg Nq.o h1 h2;have Nw:=(Ax j Nm).1;unfold maxLen at Nw;clear hc Np;generalize Ol:cM es j=x at Dy Nw Ni Nn;by_cases Ae:aQ x.data.toList=true
         . rcases Nat.eq_zero_or_pos n' with hz|hz
           . have HE:=Hd (show(1:Int)=cG es by simp[cG,Aa.o,Ni.o (.inr aA)]);subst hz;go_wp2_with fail;refine(rV x _ aA).mono ?_;rw[Ae];rintro e w3 ⟨rfl,Ak⟩;have Og:=(Ak.cell (p:=⟨b,off+j*2+1,none⟩) hb).trans Fo;have Aj:=Hd (zI (Bk.o.tr Nh.o) (Ak.mono (Yh _)));exact bEs
           . have HN:=Hd (Nn.o Ae aA);have Oy:((n':Int)==0)=false:=aDp;go_wp2_with fail;refine(rV x _ aA).mono ?_;rw[Ae];rintro e w3 ⟨rfl,Ak⟩;have Og:=(Ak.cell (p:=⟨b,off+j*2+1,none⟩) hb).trans Fo;have Aj:=Hd (Nh.o.tr Ak);clear Ak;go_wp2_with fail;go_roundw;case rel=>exact⟨j+1,by omega,by go_num,HN.o,Aj.o⟩
             case measure=>simp[intOf];omega
         . have Ae:aQ x.data.toList=false:=by simpa using Ae
           have HE:=Hd (show(1:Int)=cG es by simp[cG,Aa.o,Ni.o (.inl Ae)]);go_wp2_with fail;refine(rV x _ aA).mono ?_;rw[Ae];rintro e w3 ⟨rfl,Ak⟩;have Aj:=Hd (Bk.o.trans ((Nh.o.tr Ak).mono Bk.o.size));exact bEs
       . obtain rfl:j=k:=by omega
         have Nt:=Hd (aSv Nq.o aA);have Bi:=Hd (Bi.o.below Nh.o);have Cn:=Hd (Cn.o.below Nh.o);have Bk:=Hd (Bk.o.tr Nh.o);clear Np Nh Jj Nq;go_wp2_with fail;go_loopw [7] (fun i Oq=>∃m:Nat,m<=(gU es).length/\i=.int .i64 m/\(∀q,q<m->rF ((gU es)[q]?.getD ByteArray.empty)=true)/\Oq=wr) (fun i _=>(gU es).length-(intOf i).toNat)
         case atStart=>exact⟨0,Ys _,rfl,fun q hq=>absurd hq aA,rfl⟩
         case round=>
          obtain⟨m,hm,rfl,Fv,rfl⟩:=hrel;have Oe:=Hd Fv;clear Fv;by_cases Bs:m<(gU es).length
          . obtain⟨b,off,rfl,hb,hc⟩:=Cn.o.at_ Bs;have Ns:=hc m Bs;have Au:=Ax.all _ (show(gU es)[m]?.getD ByteArray.empty∈gU es by rw[Yk Bs];exact Zk _);unfold maxLen at Au
            have HM:=Hd (show rF ((gU es)[m]?.getD ByteArray.empty)=false->(gU es).all rF=false from fun h=>by
             rw[List.all_eq_false];refine⟨_,Zk Bs,?_⟩;rw[Yk Bs]at h;simpa using h)
            have HS:=Hd (show rF ((gU es)[m]?.getD ByteArray.empty)=true->∀ q,q<m+1->rF ((gU es)[q]?.getD ByteArray.empty)=true from fun h q hq=>by
             rcases Nat.lt_or_ge q m with h1|h1;· exact Oe.o q h1
             . obtain rfl:q=m:=by omega
               exact h)
            clear hc;generalize (gU es)[m]?.getD ByteArray.empty=x at Ns Au HM HS;by_cases Nk:dF x.data.toList=true
            . have HS:=Hd (HS.o Nk);go_wp2_with fail;refine(aE5 x _ aA).mono ?_;rw[Nk];rintro e w3 ⟨rfl,rfl⟩;go_wp2_with fail;go_roundw;case rel=>exact⟨m+1,by omega,by go_num,HS.o,lY⟩
              case measure=>simp[intOf];omega
            . have Nk:dF x.data.toList=false:=by simpa using Nk
              have HE:=Hd (show(1:Int)=cG es by simp[cG,Aa.o,lA,HM.o Nk]);go_wp2_with fail;refine(aE5 x _ aA).mono ?_;rw[Nk];rintro e w3 ⟨rfl,rfl⟩;go_wp2_with fail;go_ret;exact⟨iL HE.o,Bk.o⟩
          . have Aq:lA es=true:=by
             have h2:(gU es).all rF=true:=by
              rw[Zj];intro s hs;obtain⟨q,hq,rfl⟩:=Zm hs
              have:=Oe.o q aA
              rwa[Yk hq]at this
             unfold lA;rw[Nt.o,h2];rfl
            by_cases ho:dC (fL es)=true
            . by_cases Hp:dC (gU es)=true
              . have HE:=Hd (show(0:Int)=cG es by simp[cG,Aa.o,Aq,qJ,ho,Hp]);exact bHc
              . have Hp:dC (gU es)=false:=by simpa using Hp
                have HE:=Hd (show(6:Int)=cG es by simp[cG,Aa.o,Aq,qJ,ho,Hp]);exact bHc
            . have ho:dC (fL es)=false:=by simpa using ho
              have HE:=Hd (show(6:Int)=cG es by simp[cG,Aa.o,Aq,qJ,ho]);go_wp2_with fail;refine(aB5 A1 j c1 (fL es) _ Bi.o aA).mono ?_;rw[ho];rintro e w3 ⟨rfl,p,rfl⟩;go_wp2_with fail;go_ret;exact⟨iL HE.o,eP Bk.o p⟩
end
section
open Go.RowKit
def vO(k e l:Int):Value:=.agg #[.int .i64 k,.int .i64 e,.int .i64 l]
def bK(n:Nat)(k e l:Int):Bool:=
 decide (0<=l/\l<=8) && (if k=1\/k=2 then decide (e=0)else decide (k=3/\0<=e/\e<n))
section
variable {n:Nat}{k e l:Int}
theorem aHk(h:l<0\/8<l):bK n k e l=false:=by
 simp only[bK,Xd (show ¬(0<=l/\l<=8)by omega),Bool.false_and]
theorem aHb(h:0<=l/\l<=8)(hk:k=1\/k=2):bK n k e l=decide (e=0):=by
 simp only[bK,Xc h,Bool.true_and,if_pos hk]
theorem aTk(h:0<=l/\l<=8)(hk:k=3):bK n k e l=decide (0<=e/\e<n):=by
 subst hk;simp[bK,Xc h]
theorem aTl(hk:¬(k=1\/k=2))(h3:k≠3):bK n k e l=false:=by
 simp[bK,if_neg hk,h3]
end
theorem aTm(A:OA)(n c:Nat)(k e l:Int)(w:World)(hn:n<=9223372036854775807):
 Calls Tryz.prog 128 #[.slice A n c,vO k e l] w fun r w'=>r=.returned (.bool (bK n k e l))/\Below w.heap.size w w':=by
 unfold vO;have HB:=Hd ((Yg w.heap.size w).alloc (Yh _) (.cells #[.int .i64 k,.int .i64 e,.int .i64 l] 128));by_cases h1:l<0
 . have HE:=Hd (aHk (n:=n) (k:=k) (e:=e) (.inl h1));have d1:decide (l<0)=true:=Xc h1;exact bHy
 . by_cases h2:8<l
   . have HE:=Hd (aHk (n:=n) (k:=k) (e:=e) (.inr h2));exact bHy
   . have hl:0<=l/\l<=8:=by omega
     by_cases k0:k<1;· exact bId
     . by_cases k4:3<k;· exact bId
       . by_cases k3:k=3
         . have HE:=Hd (aTk (n:=n) (e:=e) hl k3);exact bCe
         . have HE:=Hd (aHb (n:=n) (e:=e) hl (show k=1\/k=2 by omega));have b3:(k==3)=false:=by simpa using k3
           exact aPq
end
section
open Go.RowKit
def aI2(es:List En)(k:Nat):Prop:=∀j,j<k->(cH es j).length<=12/\(cM es j).size<=100/\∀q,q<(cH es j).length->(lZ es j q).size<=100
def qK(es:List En):Prop:=es.length<=8/\aI2 es es.length
theorem qK.few{es:List En}(h:qK es):aAu es:=⟨h.1,fun j hj=>(h.2 j hj).1⟩
theorem qK.ok{es:List En}(h:qK es):qV es:=fun j hj=>by
 have h1:=h.2 j hj;unfold maxLen;refine⟨by omega,fun s hs=>?_⟩;exact bIh
theorem bKc{es:List En}{k:Nat}(H:aI2 es k)(h1:(cH es k).length<=12)(h2:(cM es k).size<=100)(h3:∀q,q<(cH es k).length->(lZ es k q).size<=100):aI2 es (k+1):=fun j hj=>by
 rcases Nat.lt_or_ge j k with h|h;· exact H j h
 . obtain rfl:j=k:=by omega
   exact⟨h1,h2,h3⟩
def aMh(es:List En)(w:World)(e:Ending)(w':World):Prop:=∃b,e=.returned (.bool b)/\(b=true->qK es)/\w=w'
theorem bRu(es:List En)(w:World):aMh es w (.returned (.bool false)) w:=⟨false,rfl,fun h=>aFw,rfl⟩
theorem bNz{es:List En}(h:qK es)(w:World):aMh es w (.returned (.bool true)) w:=⟨true,rfl,fun _=>h,rfl⟩
theorem bLm(A:OA)(len cap:Nat)(es:List En)(w:World)(hE:cQ w A len es):
 Calls Tryz.prog 25 #[.slice A len cap] w (aMh es w):=by
 have Hb:=hE.len;have Ni:=hE.max;by_cases h8:8<len
 . go_in
   exact aJ0
 . have Nj:decide ((8:Int)<(len:Int))=false:=Xd aA;go_in
   go_wp2_with fail;go_loop [3] (fun i=>∃k:Nat,k<=len/\i=.int .i64 k/\aI2 es k) (fun i=>len-(intOf i).toNat)
   case atStart=>exact⟨0,Ys _,rfl,fun j hj=>absurd hj aA⟩
   case round=>
    obtain⟨k,hk,rfl,Ck⟩:=hrel;have HT:=Hd Ck;clear Ck;by_cases Ah:k<len
    . obtain⟨b,off,rfl,hb,hc⟩:=hE.at_ Ah;obtain⟨Dy,A',n',c',Fo,Aq⟩:=hc k Ah;have Ct:k<es.length:=aA;have Nk:=Aq.len;have Nh:=Aq.max;clear hc;by_cases Cy:12<n';· exact aJ0
      . have HS:=Hd fun h2 h3=>bKc HT.o (show(cH es k).length<=12 by omega) h2 h3;have Hc:decide ((12:Int)<(n':Int))=false:=Xd aA;generalize cM es k=x at Dy HS;by_cases Jx:100<x.size;· exact aJ0
        . have HS:=Hd fun h3=>HS.o aA h3;have Ha:decide ((100:Int)<(x.size:Int))=false:=Xd aA;go_wp2_with fail;go_loop [4] (fun i=>∃m:Nat,m<=n'/\i=.int .i64 m/\∀q,q<m->(lZ es k q).size<=100) (fun i=>n' - (intOf i).toNat)
          case atStart=>exact⟨0,Ys _,rfl,fun j hj=>absurd hj aA⟩
          case round=>
           obtain⟨m,hm,rfl,Ck⟩:=hrel;have De:=Hd Ck;clear Ck;by_cases Ae:m<n'
           . obtain⟨b2,Ng,rfl,Ag,Fs⟩:=Aq.at_ Ae;have Aa:=Fs m Ae;clear Fs;rw[show(cH es k)[m]?.getD ByteArray.empty=lZ es k m from rfl]at Aa
             have HN:=Hd (show(lZ es k m).size<=100->∀ q,q<m+1->(lZ es k q).size<=100 from fun h q hq=>by
              rcases Nat.lt_or_ge q m with h1|h1;· exact De.o q h1
              . obtain rfl:q=m:=by omega
                exact h)
             generalize lZ es k m=y at Aa HN;by_cases hy:100<y.size;· exact aJ0
             . have HN:=Hd (HN.o aA);go_wp2_with fail;go_round
               case rel=>exact⟨m+1,by omega,by go_num,HN.o⟩
               case measure=>simp[intOf];omega
           . have HS:=Hd (HS.o fun q hq=>De.o q aA);go_wp2_with fail;go_round
             case rel=>exact⟨k+1,by omega,by go_num,HS.o⟩
             case measure=>simp[intOf];omega
    . have Ct:k=es.length:=by omega
      have Bs:=HT.o;rw[Ct]at Bs;have HY:=Hd (show qK es from⟨by omega,Bs⟩);go_wp2_with fail;go_ret;exact bNz HY.o w
end
end Go.Proofs.YtagkcjpoipcpkaaGreatDoor
