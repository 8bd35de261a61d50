/- A part of the proof. Conditions: each theorem's own. -/
import Derived.Test.YtkbpdoomhfkngaaGreatC02
namespace Go.Proofs.YtkbpdoomhfkngaaGreat
set_option linter.unusedVariables false
set_option linter.unusedSimpArgs false
set_option maxRecDepth 100000
set_option maxHeartbeats 40000000
structure Dc where
 nm:ByteArray
 k:Int
 e:Int
 l:Int
 on:ByteArray
 ct:ByteArray
instance :Inhabited Dc:=⟨⟨⟨#[]⟩,0,0,0,⟨#[]⟩,⟨#[]⟩⟩⟩
structure Qn where
 ns:List ByteArray
 x:Ex
instance :Inhabited Qn:=⟨⟨[],default⟩⟩
structure Nd where
 nm:ByteArray
 ins:List Dc
 outs:List Dc
 vars:List Dc
 eqs:List Qn
instance :Inhabited Nd:=⟨⟨ByteArray.empty,[],[],[],[]⟩⟩
structure Pg where
 es:List En
 ns:List Nd
def Nd.all(n:Nd):List Dc:=n.ins++n.outs++n.vars
def bM(l:List Dc):List ByteArray:=l.map Dc.nm
def bG5:List UInt8:=[116,114,117,101]
def bFs:List UInt8:=[102,97,108,115,101]
def mZ(s:ByteArray):Bool:=eU s.data.toList || (s.data.toList==bG5) || (s.data.toList==bFs)
def eI(s:ByteArray):Bool:=s.data.toList==[]
def eW(n:Nat)(rt:Nat->Int->Int->Int->Bool)(d:Dc):Bool:=
 bE d.nm.data.toList && rt n d.k d.e d.l && ((eI d.on && eI d.ct) || (bE d.on.data.toList && mZ d.ct))
def hM(rx:Ex->Bool)(q:Qn):Bool:=
 q.ns.all (fun s=>bE s.data.toList) && decide (0<q.ns.length) && rx q.x && (decide (q.ns.length=1) || q.x.k==13)
def jX(n:Nd):Bool:=(n.ins++n.outs).all fun d=>eI d.on
def gT(es:Nat)(rt:Nat->Int->Int->Int->Bool)(rx:Ex->Bool)(n:Nd):Bool:=
 n.all.all (eW es rt) && jX n && n.eqs.all (hM rx) && bE n.nm.data.toList && decide (0<n.outs.length)
def iX(n:Nd):Bool:=decide (6<n.ins.length) || decide (6<n.outs.length) || decide (12<n.vars.length) || decide (18<n.eqs.length)
def kO{α:Type}(f:α->α->Bool):List α->List α->Bool
 |[],[]=>true
 |a::l,b::m=>f a b && kO f l m
 |_,_=>false
theorem aH5{α:Type}{f:α->α->Bool}:∀{l m:List α},l.length≠m.length->kO f l m=false
 |[],[],h=>absurd rfl h
 |[],b::m,_=>rfl
 |a::l,[],_=>rfl
 |a::l,b::m,h=>by
  simp only[kO];rw[aH5 (l:=l) (m:=m) iI];simp
theorem aB1{α:Type}[Inhabited α]{f:α->α->Bool}:∀{l m:List α},l.length=m.length->(∀i,i<l.length->f (l[i]?.getD default) (m[i]?.getD default)=true)->kO f l m=true
 |[],[],_,_=>rfl
 |[],b::m,h,_=>by simp at h
 |a::l,[],h,_=>by simp at h
 |a::l,b::m,h,hi=>by
  simp only[kO,Ys];refine⟨by simpa using hi 0 aG,aB1 iI fun i hl=>?_⟩;simpa using hi (i+1) sF
theorem aCg{α:Type}[Inhabited α]{f:α->α->Bool}:∀{l m:List α}{i:Nat},i<l.length->l.length=m.length->f (l[i]?.getD default) (m[i]?.getD default)=false->kO f l m=false
 |[],m,i,h,_,_=>by simp at h
 |a::l,[],i,_,h,_=>by simp at h
 |a::l,b::m,i,hi,hl,hf=>by
  simp only[kO,Bool.and_eq_false_iff];cases i with
  |zero=>left;simpa using hf
  |succ i=>
   right;exact aCg (i:=i) qI sF wJ
def bR{α:Type}(f:α->Bool):List α->Nat->Int
 |[],_=>-1
 |a::l,i=>if f a then(i:Int)else bR f l (i+1)
def cY(p:Pg)(s:ByteArray):Int:=bR (fun n=>n.nm.data.toList==s.data.toList) p.ns 0
def aZ(n:Nd)(s:ByteArray):Option Dc:=n.all.find? fun d=>d.nm.data.toList==s.data.toList
def iS(n:Nd):Nat->ByteArray->List Dc->Option (List Dc)
 |0,_,_=>none
 |k+1,s,Aq=>match aZ n s with
  |none=>none
  |some d=>if eI d.on then some Aq else iS n k d.on (d::Aq)
def jY(n:Nd)(s:ByteArray):Option (List Dc):=iS n 13 s []
theorem pZ(n:Nd):n.all.length=n.ins.length+n.outs.length+n.vars.length:=by simp[Nd.all];omega
section
open Go.RowKit
def aI{α:Type}[Inhabited α](k:Nat)(At:World->Nat->Nat->α->Prop)(w:World)(A:Option Addr)(n:Nat)(l:List α):Prop:=
 l.length=n/\n<=9223372036854775807/\(0<n->∃b off,A=some ⟨b,off,none⟩/\b<w.heap.size/\∀i,i<n->At w b (off+i*k) (l[i]?.getD default))
def rJ{α:Type}(At:World->Nat->Nat->α->Prop):Prop:=
 ∀{w w':World}{b o:Nat}{x:α},At w b o x->b<w.heap.size->w.heap.size<=w'.heap.size->(∀p:Addr,p.block<w.heap.size->w'.cell? p=w.cell? p)->At w' b o x
def fZ(d:Dc):List Value:=[.string d.nm,.int .i64 d.k,.int .i64 d.e,.int .i64 d.l,.string d.on,.string d.ct]
def aU(d:Dc):Array Value:=#[.string d.nm,.int .i64 d.k,.int .i64 d.e,.int .i64 d.l,.string d.on,.string d.ct]
def wP(w:World)(b o:Nat)(d:Dc):Prop:=w.rangeAt b o (fZ d)
def bZ(w:World)(A:Option Addr)(n:Nat)(l:List Dc):Prop:=aI 6 wP w A n l
def sJ(w:World)(b o:Nat)(q:Qn):Prop:=
 ∃A c A' ca B' cb,w.cell? ⟨b,o,none⟩=some (.slice A q.ns.length c)/\aP w A q.ns.length q.ns/\w.rangeAt b (o+1) (iZ q.x A' ca B' cb)/\aH w q.x A' B'
def gN(w:World)(A:Option Addr)(n:Nat)(l:List Qn):Prop:=aI 7 sJ w A n l
def bK(n:Nd)(A1:Option Addr)(c1:Nat)(A2:Option Addr)(c2:Nat)(A3:Option Addr)(c3:Nat)(A4:Option Addr)(c4:Nat):Array Value:=
 #[.string n.nm,.slice A1 n.ins.length c1,.slice A2 n.outs.length c2,.slice A3 n.vars.length c3,.slice A4 n.eqs.length c4]
def wW(n:Nd)(A1:Option Addr)(c1:Nat)(A2:Option Addr)(c2:Nat)(A3:Option Addr)(c3:Nat)(A4:Option Addr)(c4:Nat):List Value:=
 [.string n.nm,.slice A1 n.ins.length c1,.slice A2 n.outs.length c2,.slice A3 n.vars.length c3,.slice A4 n.eqs.length c4]
def cF(w:World)(n:Nd)(A1 A2 A3 A4:Option Addr):Prop:=bZ w A1 n.ins.length n.ins/\bZ w A2 n.outs.length n.outs/\bZ w A3 n.vars.length n.vars/\gN w A4 n.eqs.length n.eqs
def qJ(w:World)(b o:Nat)(n:Nd):Prop:=
 ∃A1 c1 A2 c2 A3 c3 A4 c4,w.rangeAt b o (wW n A1 c1 A2 c2 A3 c3 A4 c4)/\cF w n A1 A2 A3 A4
def eX(w:World)(A:Option Addr)(n:Nat)(l:List Nd):Prop:=aI 5 qJ w A n l
section
variable {w w':World}{A B A1 A2 A3 A4:Option Addr}{n:Nat}
theorem aI.len{α:Type}[Inhabited α]{k:Nat}{At:World->Nat->Nat->α->Prop}{l:List α}(h:aI k At w A n l):l.length=n:=h.1
theorem aI.max{α:Type}[Inhabited α]{k:Nat}{At:World->Nat->Nat->α->Prop}{l:List α}(h:aI k At w A n l):n<=9223372036854775807:=h.2.1
theorem aI.at_{α:Type}[Inhabited α]{k:Nat}{At:World->Nat->Nat->α->Prop}{l:List α}(h:aI k At w A n l)(hn:0<n):
 ∃b off,A=some ⟨b,off,none⟩/\b<w.heap.size/\∀i,i<n->At w b (off+i*k) (l[i]?.getD default):=h.2.2 hn
theorem aI.nil_{α:Type}[Inhabited α](k:Nat)(At:World->Nat->Nat->α->Prop)(w:World):aI k At w none 0 []:=⟨rfl,by omega,by omega⟩
theorem aI.keep{α:Type}[Inhabited α]{k:Nat}{At:World->Nat->Nat->α->Prop}{l:List α}(Aq:rJ At)(h:aI k At w A n l)(hs:w.heap.size<=w'.heap.size)(hk:∀p:Addr,p.block<w.heap.size->w'.cell? p=w.cell? p):aI k At w' A n l:=
 ⟨h.1,h.2.1,fun hn=>by
  obtain⟨b,off,e,hb,hc⟩:=h.2.2 hn;exact⟨b,off,e,by omega,fun i hi=>Aq (hc i hi) hb hs hk⟩⟩
theorem aY3:rJ wP:=fun h hb hs hk=>fT h hb hk
theorem aY4:rJ sJ:=fun h hb hs hk=>by
 obtain⟨A,c,A',ca,B',cb,h1,h2,h3,h4⟩:=h;exact⟨A,c,A',ca,B',cb,(hk _ hb).trans h1,h2.keep hs hk,fT h3 hb hk,h4.keep hs hk⟩
theorem bZ.keep{l:List Dc}(h:bZ w A n l)(hs:w.heap.size<=w'.heap.size)(hk:∀p:Addr,p.block<w.heap.size->w'.cell? p=w.cell? p):bZ w' A n l:=aI.keep aY3 h hs hk
theorem gN.keep{l:List Qn}(h:gN w A n l)(hs:w.heap.size<=w'.heap.size)(hk:∀p:Addr,p.block<w.heap.size->w'.cell? p=w.cell? p):gN w' A n l:=aI.keep aY4 h hs hk
theorem cF.keep{x:Nd}(h:cF w x A1 A2 A3 A4)(hs:w.heap.size<=w'.heap.size)(hk:∀p:Addr,p.block<w.heap.size->w'.cell? p=w.cell? p):cF w' x A1 A2 A3 A4:=
 ⟨h.1.keep hs hk,h.2.1.keep hs hk,h.2.2.1.keep hs hk,h.2.2.2.keep hs hk⟩
theorem aY5:rJ qJ:=fun h hb hs hk=>by
 obtain⟨A1,c1,A2,c2,A3,c3,A4,c4,h1,h2⟩:=h;exact⟨A1,c1,A2,c2,A3,c3,A4,c4,fT h1 hb hk,h2.keep hs hk⟩
theorem eX.keep{l:List Nd}(h:eX w A n l)(hs:w.heap.size<=w'.heap.size)(hk:∀p:Addr,p.block<w.heap.size->w'.cell? p=w.cell? p):eX w' A n l:=aI.keep aY5 h hs hk
theorem bZ.below{l:List Dc}(h:bZ w A n l)(hb:Below w.heap.size w w'):bZ w' A n l:=h.keep hb.size fun _ hp=>hb.cell hp
theorem gN.below{l:List Qn}(h:gN w A n l)(hb:Below w.heap.size w w'):gN w' A n l:=h.keep hb.size fun _ hp=>hb.cell hp
theorem cF.below{x:Nd}(h:cF w x A1 A2 A3 A4)(hb:Below w.heap.size w w'):cF w' x A1 A2 A3 A4:=h.keep hb.size fun _ hp=>hb.cell hp
theorem eX.below{l:List Nd}(h:eX w A n l)(hb:Below w.heap.size w w'):eX w' A n l:=h.keep hb.size fun _ hp=>hb.cell hp
theorem wP.six{b o:Nat}{d:Dc}(h:wP w b o d):
 w.cell? ⟨b,o,none⟩=some (.string d.nm)/\w.cell? ⟨b,o+1,none⟩=some (.int .i64 d.k)/\w.cell? ⟨b,o+2,none⟩=some (.int .i64 d.e)/\w.cell? ⟨b,o+3,none⟩=some (.int .i64 d.l)/\
  w.cell? ⟨b,o+4,none⟩=some (.string d.on)/\w.cell? ⟨b,o+5,none⟩=some (.string d.ct):=⟨h 0 _ rfl,h 1 _ rfl,h 2 _ rfl,h 3 _ rfl,h 4 _ rfl,h 5 _ rfl⟩
theorem uX{b o:Nat}{x:Nd}{c1 c2 c3 c4:Nat}(h:w.rangeAt b o (wW x A1 c1 A2 c2 A3 c3 A4 c4)):
 w.cell? ⟨b,o,none⟩=some (.string x.nm)/\w.cell? ⟨b,o+1,none⟩=some (.slice A1 x.ins.length c1)/\w.cell? ⟨b,o+2,none⟩=some (.slice A2 x.outs.length c2)/\w.cell? ⟨b,o+3,none⟩=some (.slice A3 x.vars.length c3)/\
  w.cell? ⟨b,o+4,none⟩=some (.slice A4 x.eqs.length c4):=⟨h 0 _ rfl,h 1 _ rfl,h 2 _ rfl,h 3 _ rfl,h 4 _ rfl⟩
end
theorem aY6:Tryz.prog.cellsOf 43=6:=aC
theorem aY7:Tryz.prog.cellsOf 54=7:=aC
theorem aY8:Tryz.prog.cellsOf 36=5:=aC
end
section
open Go.RowKit Go.Shelf
attribute [local go_sem] Oper.semAt_some
theorem aFz{W W':World}(h:Below W.heap.size W W'):W.grownBy W' none:=⟨h.os,h.tape,h.output,h.size,fun i hi _=>h.block i hi⟩
def rW(x:Pl):Array Value:=#[.agg #[.int .i64 (x.1:Int),.int .i64 (x.2.1:Int)],.string x.2.2]
theorem aC6(A:Option Addr)(n c:Nat)(w:World):
 Calls Tryz.prog 130 #[.slice A n c] w fun e w'=>e=.returned (.func (.func 164) #[] #[.pointer (some ⟨w.heap.size,0,none⟩)])/\w'=w.alloc (.cells #[.slice A n c] 22):=by
 go_in
 go_wp2;go_ret;exact⟨rfl,rfl⟩
theorem aH6(n:Nat)(hn:1<=n)(l Bs:Nat)(w:World)(A:Option Addr)(len cap:Nat)(es:List En)(hE:bU w A len es)(J Jx:List Pl->World->Prop)(W:World)(Oc:Below w.heap.size w W)
 (hJ:AbidesFrom W.heap.size J)
 (hY:∀ Aq x W,J Aq W->Aq++[x] <+: eM es->YieldAt Fence.wide (n-1) Tryz.prog l (rW x) W fun e W' =>
  (e=.returned (.bool true)/\J (Aq++[x]) W'/\Below w.heap.size W W')\/(e=.returned (.bool false)/\Jx (Aq++[x]) W'))
 (Oj:W.cell? ⟨Bs,0,none⟩=some (.slice A len cap))(h0:J [] W):
 CallsIn Fence.wide n Tryz.prog 164 #[.func (.yield l) #[] #[],.pointer (some ⟨Bs,0,none⟩)] W fun e W'=>(∃v,e=.returned v)/\
  ((∃ys,ys=eM es/\J ys W')\/(∃Aq,Aq <+:eM es/\Jx Aq W')):=by
 have Nu:=hE.len;have Oh:=hE.max;refine callsIn_of_wp Tryz.func164 rfl trivial ?_ rfl;simp only[Tryz.ntmps164,List.size_toArray,Yo,List.length_nil,Nat.reduceAdd,Nat.reduceSub,Array.replicate_succ,Array.replicate_zero,List.push_toArray,List.append_toArray,List.nil_append,Yv];gi_wp2;gi_loopw [9] (fun i wr=>∃k:Nat,k<=len/\i=.int .i64 k/\J (jM es k 0) wr/\Below w.heap.size w wr)
  (fun i _=>len-(intOf i).toNat)
 case atStart=>exact⟨0,Yq _,rfl,by rw[aH1];exact h0,Oc⟩
 case round=>
  obtain⟨k,hk,rfl,Nx,Ba⟩:=hrel;by_cases Ah:k<len
  . obtain⟨b,off,rfl,hb,hc⟩:=hE.at_ Ah;obtain⟨Ga,A',n',c',Ob,Nv⟩:=hc k Ah;have hn1:wr.cell? ⟨b,off+k*2,none⟩=some (.string (fK es k)):=(Ba.cell (p:=⟨b,off+k*2,none⟩) hb).trans Ga;have Oi:wr.cell? ⟨b,off+k*2+1,none⟩=some (.slice A' n' c'):=(Ba.cell (p:=⟨b,off+k*2+1,none⟩) hb).trans Ob;have Nz:k<es.length:=aA;have Of:=Nv.len;have Og:=Nv.max;have Oa:∀W',Below wr.heap.size wr W'->J (jM es k 0) W':=fun W' h=>hJ _ _ _ none Nx (aFz h) (fun r e=>by cases e);gi_wp2;gi_loopw [17] (fun i wr=>∃m:Nat,m<=n'/\i=.int .i64 m/\J (jM es k m) wr/\Below w.heap.size w wr)
     (fun i _=>n' - (intOf i).toNat)
    case atStart=>exact⟨0,Yq _,rfl,Oa _ ((Yg _ _).alloc (Yh _) _),Ba.alloc Ba.size _⟩
    case round=>
     obtain⟨m,hm,rfl,Ny,Df⟩:=hrel;by_cases Bp:m<n'
     . obtain⟨b2,Gc,rfl,Ad,Gb⟩:=Nv.at_ Bp;have Nt:=(Df.cell (p:=⟨b2,Gc+m,none⟩) Ad).trans (Gb m Bp);have Bx:=aCe (es:=es) Nz (k:=m+1) aA;obtain⟨fn,tmps,assign,body,hy,hR⟩:=hY _ (k,m,fJ es k m) _ Ny (by rw[<-uS];exact Bx);rw[<-uS]at hR;unfold fJ at hy;simp only[rW]at hy;generalize hx:(cM es k)[m]?.getD ByteArray.empty=x at Nt hy;gi_wp2;refine hR.mono ?_;rintro e W3 (⟨rfl,Od,Oe⟩|⟨rfl,Nw⟩)
       . gi_wp2;go_roundw;case rel=>exact⟨m+1,by omega,by go_num,Od,Df.trans Oe⟩
         case measure=>simp[intOf];omega
       . gi_wp2;refine Zu (results_none rfl _ _ _) rfl ?_;exact⟨⟨_,rfl⟩,.inr ⟨_,Bx,Nw⟩⟩
     . obtain rfl:m=n':=by omega
       gi_wp2;go_roundw;case rel=>exact⟨k+1,by omega,by go_num,by rw[<-aH2,Of];exact Ny,Df⟩
       case measure=>simp[intOf];omega
  . obtain rfl:k=len:=by omega
    gi_wp2;go_end0
    exact⟨⟨_,rfl⟩,.inl ⟨_,rfl,by rw[<-aI5,Nu];exact Nx⟩⟩
theorem aF1(n:Nat)(hn:1<=n)(Bs:Nat)(w0:World)(A:Option Addr)(len cap:Nat)(es:List En)(hE:bU w0 A len es)(w:World)(hb:Below w0.heap.size w0 w)(Bp:Bs<w.heap.size)
 (hc:w.cell? ⟨Bs,0,none⟩=some (.slice A len cap)):
 SeqStopsK Fence.wide n Tryz.prog 164 #[.pointer (some ⟨Bs,0,none⟩)] rW (Below w0.heap.size) (fun ys=>ys=eM es) (fun Aq=>Aq <+:eM es) (eM es).length w:=fun l J Jx W hW hJ _ hY h0=>
 aH6 n hn l Bs w0 A len cap es hE J Jx W (hb.tr hW) hJ (fun Aq x W1 h1 h2=>hY Aq x W1 h1 (by have:=h2.length_le;simp at this;omega)) ((hW.cell (p:=⟨Bs,0,none⟩) Bp).trans hc) h0
abbrev aFt (es:List En):={ x:Pl // x∈eM es }
theorem aSn(n:Nat)(hn:1<=n)(Bs:Nat)(w0:World)(A:Option Addr)(len cap:Nat)(es:List En)(hE:bU w0 A len es)(w:World)(hb:Below w0.heap.size w0 w)(Bp:Bs<w.heap.size)
 (hc:w.cell? ⟨Bs,0,none⟩=some (.slice A len cap)):
 SeqStopsK Fence.wide n Tryz.prog 164 #[.pointer (some ⟨Bs,0,none⟩)] (fun x:aFt es=>rW x.1) (Below w0.heap.size) (fun ys=>ys.map (·.1)=eM es) (fun Aq=>Aq.map (·.1) <+:eM es) (eM es).length w:=fun l J Jx W hW hJ _ hY h0=>by
 refine(aH6 n hn l Bs w0 A len cap es hE (fun Aq W=>∃ ps:List (aFt es),ps.map (·.1)=Aq/\J ps W) (fun Aq W=>∃ ps:List (aFt es),ps.map (·.1)=Aq/\Jx ps W) W (hb.tr hW)
  (fun s X Y row hs hg hr=>by obtain⟨ps,e,h⟩:=hs;exact⟨ps,e,hJ ps X Y row h hg hr⟩) (fun Aq x W1 h1 h2=>?_) ((hW.cell (p:=⟨Bs,0,none⟩) Bp).trans hc) ⟨[],rfl,h0⟩).mono ?_
 . obtain⟨ps,rfl,h1⟩:=h1;have hx:x∈eM es:=h2.subset aG;obtain⟨fn,tmps,assign,body,hy,hR⟩:=hY ps ⟨x,hx⟩ W1 h1 (by have:=h2.length_le;simp at this;omega);refine⟨fn,tmps,assign,body,hy,hR.mono ?_⟩;rintro e W' (⟨rfl,hj,hk⟩|⟨rfl,hj⟩);· exact .inl ⟨rfl,⟨_,by simp,hj⟩,hk⟩
   . exact .inr ⟨rfl,⟨_,by simp,hj⟩⟩
 . rintro e W' ⟨he,⟨ys,rfl,ps,e1,hj⟩|⟨Aq,hp,ps,rfl,hj⟩⟩;· exact⟨he,.inl ⟨ps,e1,hj⟩⟩
   . exact⟨he,.inr ⟨ps,hp,hj⟩⟩
def lD(W:World)(B:Nat)(t:TypeId)(u v:Value):Prop:=W.heap[B]?=some (.cells #[u,v] t (0,0))
section
variable {W W':World}{B:Nat}{t:TypeId}{u v:Value}
theorem lD.lt(h:lD W B t u v):B<W.heap.size:=(Yl.1 h).1
theorem lD.c0(h:lD W B t u v):W.cell? ⟨B,0,none⟩=some u:=aPp
theorem lD.c1(h:lD W B t u v):W.cell? ⟨B,1,none⟩=some v:=aPp
theorem lD.new(W:World)(t:TypeId)(u v:Value):lD (W.alloc (.cells #[u,v] t)) W.heap.size t u v:=World.alloc_heap_new W _
theorem aY9{β:Type}(B:Nat)(t:TypeId)(u v:Value):Own (fun(_:β) W=>lD W B t u v):=fun s X Y row hs hg Ao=>
 (hg.block B (lD.lt hs) (fun e'=>by obtain⟨o,ho,hc⟩:=Ao B e'.symm;rw[show X.heap[B]?=_ from hs]at ho;cases ho;cases hc)).trans hs
end
theorem uK{W W':World}{B:Nat}{t:TypeId}{v:Value}(h:Boxed W B t v){n:Nat}(hb:Below n W W')(hn:B<n):Boxed W' B t v:=(hb.block B hn).trans h
theorem aF0{B:Nat}{W W':World}(h:Below W.heap.size W W'):KeepsFrom B W W':=KeepsFrom.of_grownBy (aFz h) (fun j e=>by cases e)
end
section
open Go.RowKit
theorem aH7{w:World}{base:Nat}{e:TypeId}{size:Nat}{v:Value}{n:Nat}{xs:List Value}(h:w.ownsRow base e size v n xs):∃A c,v=.slice A n c:=by
 rcases h.2 with⟨rfl,rfl⟩|⟨g,cap,cur,rfl,_⟩;· exact⟨none,0,rfl⟩
 . exact⟨_,_,rfl⟩
theorem qO{P:Program}{w:World}{ops:Array Oper}{o:Oper}{a:Act}{K:Act->World->Prop}{Q:Exit->Act->World->Prop}{E:Prop}(Nv:o.guard=none)(s x:Operand)(t:TypeId)
 (ho:o.op=.call { callee:=.builtin .append,args:=#[s,x],argTypes:=#[t,t] })
 (base:Nat)(e:TypeId)(i:TypeInfo)(z:Value)(size Bp:Nat)(ht:P.underlying t=some (.slice e))(hi:P.info? e=some i)(hz:i.zero=some z)
 (Jx:i.size=size)(Nx:i.bytes=Bp)(Ny:z.cells.size=size)(Al:0<size)
 (v:Value)(n:Nat)(xs:List Value)(hs:a.eval s=v)(Bq:w.ownsRow base e size v n xs)
 (A:Option Addr)(m c:Nat)(Aq:List Value)(hx:a.eval x=.slice A m c)(hl:Aq.length=m*size)(hA:A=none->m=0)(Nu:∀ad,A=some ad->∀j u,Aq[j]?=some u->w.cell? (ad.add j)=some u)(h1:∀u∈Aq,u.oneCell'=true)
 (Nw:n+m<=maxLen)(Bx:(n+m)*Bp<=140737488355328)(Nt:base<=w.heap.size)
 (h:∀A' c' w',w'.ownsRow base e size (.slice A' (n+m) c') (n+m) (xs++Aq)->w.grownBy w' v.ownBlock->((Value.slice A' (n+m) c').ownBlock=v.ownBlock\/(Value.slice A' (n+m) c').ownBlock=some w.heap.size)->K (a.put o.dst (.slice A' (n+m) c')) w'):
 if Region.wanted o (yielded ops a.tmps)=true then Oper.wp P o a w K Q else E:=by
 have hw:Region.wanted o (yielded ops a.tmps)=true:=by simp[Region.wanted,Nv]
 rw[if_pos hw];cases A with
 |none=>
  obtain rfl:=hA rfl;obtain rfl:Aq=[]:=Zr sF;have hr:=xA (P:=P) (w:=w) base t o.type e i size ht hi v n xs Bq c;obtain⟨A',c',rfl⟩:=aH7 Bq;unfold Oper.wp execOp;simp only[ho,resolve,invoke,builtin,Sem.run_bind,Sem.run_pure,Result.andThen_ok,List.map_toArray,List.map_cons,List.map_nil,hs,hx,hr];exact h A' c' w (by simpa using Bq) (World.grownBy.refl w _) (.inl rfl)
 |some ad=>
  obtain⟨v',w',hr,h2,h3,_,h5⟩:=run_append_own_at (P:=P) w base t o.type e i z size Bp ht hi hz Jx Nx Ny Al v n xs Bq ad m c Aq hl (Nu ad rfl) h1 Nw Bx Nt;obtain⟨A',c',rfl⟩:=aH7 h2;unfold Oper.wp execOp;simp only[ho,resolve,invoke,builtin,Sem.run_bind,Sem.run_pure,Result.andThen_ok,List.map_toArray,List.map_cons,List.map_nil,hs,hx,hr];exact h A' c' w' h2 h3 h5
theorem aI8(g o k:Nat):(⟨g,o,none⟩:Addr).add k=⟨g,o+k,none⟩:=by unfold Addr.add;split<;>simp_all
def aO(k e l:Int):Value:=.agg #[.int .i64 k,.int .i64 e,.int .i64 l]
def bQ(n:Nat)(k e l:Int):Bool:=
 decide (0<=l/\l<=8) && (if k=1\/k=2 then decide (e=0)else decide (k=3/\0<=e/\e<n))
section
variable {n:Nat}{k e l:Int}
theorem xO(h:l<0\/8<l):bQ n k e l=false:=by
 simp only[bQ,Zz (show ¬(0<=l/\l<=8)by omega),Bool.false_and]
theorem aBi(h:0<=l/\l<=8)(hk:k=1\/k=2):bQ n k e l=decide (e=0):=by
 simp only[bQ,Zy h,Bool.true_and,if_pos hk]
theorem aG2(h:0<=l/\l<=8)(hk:k=3):bQ n k e l=decide (0<=e/\e<n):=by
 subst hk;simp[bQ,Zy h]
theorem aG3(hk:¬(k=1\/k=2))(h3:k≠3):bQ n k e l=false:=by
 simp[bQ,if_neg hk,h3]
end
theorem aT1(A:Option Addr)(n c:Nat)(k e l:Int)(w:World)(hn:n<=9223372036854775807):
 Calls Tryz.prog 153 #[.slice A n c,aO k e l] w fun r w'=>r=.returned (.bool (bQ n k e l))/\Below w.heap.size w w':=by
 unfold aO;have HB:=Hd ((Yg w.heap.size w).alloc (Yh _) (.cells #[.int .i64 k,.int .i64 e,.int .i64 l] 41));by_cases h1:l<0
 . have HE:=Hd (xO (n:=n) (k:=k) (e:=e) (.inl h1));have d1:decide (l<0)=true:=Zy h1;exact aMf
 . by_cases h2:8<l
   . have HE:=Hd (xO (n:=n) (k:=k) (e:=e) (.inr h2));exact aMf
   . have hl:0<=l/\l<=8:=by omega
     by_cases k0:k<1;· exact aM4
     . by_cases k4:3<k;· exact aM4
       . by_cases k3:k=3
         . have HE:=Hd (aG2 (n:=n) (e:=e) hl k3);exact aNc
         . have HE:=Hd (aBi (n:=n) (e:=e) hl (show k=1\/k=2 by omega));have b3:(k==3)=false:=aAu;exact aEb
end
section
open Go.RowKit
def eK(a b:List ByteArray):Bool:=decide (a.map (fun s=>s.toList)=b.map (fun s=>s.toList))
def vN(a b:List ByteArray)(k:Nat):Prop:=∀j,j<k->((a[j]?.getD ByteArray.empty).toList==(b[j]?.getD ByteArray.empty).toList)=true
section
variable {a b:List ByteArray}{k:Nat}
theorem aH8(h:a.length≠b.length):eK a b=false:=Zz fun e=>h (by simpa using congrArg List.length e)
theorem aI9(ha:k<a.length)(hb:k<b.length)(h:((a[k]?.getD ByteArray.empty).toList==(b[k]?.getD ByteArray.empty).toList)=false):eK a b=false:=Zz fun e=>by
 have h1:=congrArg (fun l=>l[k]?) e;simp only[List.getElem?_map,Yk ha,Yk hb,Option.map_some,Option.some.injEq]at h1;rw[Yk ha,Yk hb,Yt,Yt,h1]at h;simp at h
theorem aH9(hl:a.length=b.length)(H:vN a b k)(h:a.length<=k):eK a b=true:=Zy (by
 apply List.ext_getElem;· simpa using hl
 . intro i h1 h2;rw[List.length_map]at h1 h2
   have:=H i aA
   rw[Yk h1,Yk h2,Yt,Yt]at this;simpa using this)
theorem aGi(H:vN a b k)(h:((a[k]?.getD ByteArray.empty).toList==(b[k]?.getD ByteArray.empty).toList)=true):vN a b (k+1):=fun j hj=>by
 exact aEc
end
end
section
open Go.RowKit Go.Sort
theorem aT2(w:World)(x y:Ex)(A A':Option Addr)(ca Bp:Nat)(B B':Option Addr)(cb Aq:Nat)(w1:World)(h:(w.alloc (.cells (aE x A ca B cb) 52)).alloc (.cells (aE y A' Bp B' Aq) 52)=w1)(hr:aH w x A B)(Bx:aH w y A' B'):
 Below w.heap.size w w1/\w.heap.size+1<w1.heap.size/\aH w1 x A B/\aH w1 y A' B'/\(∀w',Below w1.heap.size w1 w'->∀j,w'.cell? ⟨w.heap.size,j,none⟩=(aE x A ca B cb)[j]?)/\∀w',Below w1.heap.size w1 w'->∀j,w'.cell? ⟨w.heap.size+1,j,none⟩=(aE y A' Bp B' Aq)[j]?:=by
 subst h;refine⟨((Yg _ _).alloc (Yh _) _).alloc aG _,by simp,(hr.alloc _).alloc _,(Bx.alloc _).alloc _,fun w' hb j=>?_,fun w' hb j=>?_⟩;· exact aNr
 . rw[hb.cell (p:=⟨w.heap.size+1,j,none⟩) aG]
   have:=Zp (w.alloc (.cells (aE x A ca B cb) 52)) (aE y A' Bp B' Aq) 52 j
   rwa[World.size_alloc]at this
end
section
open Go.RowKit Go.Shelf
attribute [local go_sem] Oper.semAt_some
def oC(Bw:ByteArray)(p:Pl):Bool:=p.2.2.toList==Bw.toList
def iF(es:List En)(Bw:ByteArray):Option Pl:=(eM es).find? (oC Bw)
def nP(o:Option Pl):Value:=.tuple #[.int .i64 (((o.map (·.1)).getD 0:Nat):Int),.int .i64 (((o.map (·.2.1)).getD 0:Nat):Int),.bool o.isSome]
theorem aG4{es:List En}{Bw:ByteArray}(h:∀p∈eM es,oC Bw p=false):iF es Bw=none:=by
 unfold iF;rw[List.find?_eq_none];intro p hp;rw[h p hp];simp
theorem aG5{es:List En}{Bw:ByteArray}{ini:List Pl}{Aq:Pl}(hp:ini++[Aq] <+:eM es)(h:∀p∈ini,oC Bw p=false)(hl:oC Bw Aq=true):iF es Bw=some Aq:=by
 obtain⟨r,hr⟩:=hp;unfold iF;rw[<-hr,List.append_assoc,List.find?_append,List.find?_eq_none.2 (fun p hp=>by rw[h p hp];simp)];simp[hl]
theorem aIa{W:World}{s:Nat}{t1 t2 t3:TypeId}{v1 v2 v3:Value}(u1 u2 u3:Value)(c1:Boxed W (s+1) t1 v1)(c2:Boxed W (s+1+1) t2 v2)(c3:Boxed W (s+1+1+1) t3 v3):
 ∃W',(((W.setCell ⟨s+1,0,none⟩ u1).setCell ⟨s+1+1,0,none⟩ u2).setCell ⟨s+1+1+1,0,none⟩ u3)=W'/\Boxed W' (s+1) t1 u1/\Boxed W' (s+1+1) t2 u2/\Boxed W' (s+1+1+1) t3 u3/\KeepsOthers W W'/\Below s W W':=
 ⟨_,rfl,((c1.set u1).other aA _).other aA _,((c2.other aA u1).set u2).other aA _,((c3.other aA u1).other aA u2).set u3,
  ((KeepsOthers.setCell _ _ _).trans (KeepsOthers.setCell _ _ _)).trans (KeepsOthers.setCell _ _ _),
  (((Yg s W).setCell (p:=⟨s+1,0,none⟩) (by show s<=s+1;omega) _).setCell (p:=⟨s+1+1,0,none⟩) (by show s<=s+1+1;omega) _).setCell (p:=⟨s+1+1+1,0,none⟩) (by show s<=s+1+1+1;omega) _⟩
theorem aV3(n:Nat)(hn:6<=n)(A:Option Addr)(len cap:Nat)(es:List En)(Bw:ByteArray)(w:World)(hE:bU w A len es):
 CallsIn Fence.wide n Tryz.prog 92 #[.slice A len cap,.string Bw] w fun e w'=>e=.returned (nP (iF es Bw))/\Below w.heap.size w w':=by
 have h1:1<=n:=aA;refine callsIn_of_wp_marks Tryz.func92 rfl trivial ?_ rfl;simp only[Tryz.ntmps92,List.size_toArray,Yo,List.length_nil,Nat.reduceAdd,Nat.reduceSub,Array.replicate_succ,Array.replicate_zero,List.push_toArray,List.append_toArray,List.nil_append,Yv];gi_wp2_with (refine⟨trivial,?_⟩;gi_at_call 130;refine(callsIn_wide.2 (aC6 _ _ _ _)).mono ?_;rintro e w' ⟨rfl,rfl⟩);have bN:=((((Boxed.new w 9 (.string Bw)).alloc (.cells #[.int .i64 0] 3)).alloc (.cells #[.int .i64 0] 3)).alloc (.cells #[.bool false] 4)).alloc (.cells #[.slice A len cap] 22);have b1:=(((Boxed.new (w.alloc (.cells #[.string Bw] 9)) 3 (.int .i64 0)).alloc (.cells #[.int .i64 0] 3)).alloc (.cells #[.bool false] 4)).alloc (.cells #[.slice A len cap] 22);have b2:=((Boxed.new ((w.alloc (.cells #[.string Bw] 9)).alloc (.cells #[.int .i64 0] 3)) 3 (.int .i64 0)).alloc (.cells #[.bool false] 4)).alloc (.cells #[.slice A len cap] 22);have b3:=(Boxed.new (((w.alloc (.cells #[.string Bw] 9)).alloc (.cells #[.int .i64 0] 3)).alloc (.cells #[.int .i64 0] 3)) 4 (.bool false)).alloc (.cells #[.slice A len cap] 22);have b4:=Boxed.new ((((w.alloc (.cells #[.string Bw] 9)).alloc (.cells #[.int .i64 0] 3)).alloc (.cells #[.int .i64 0] 3)).alloc (.cells #[.bool false] 4)) 22 (.slice A len cap);simp only[World.size_alloc]at b1 b2 b3 b4
 have Nt:Below w.heap.size w (((((w.alloc (.cells #[.string Bw] 9)).alloc (.cells #[.int .i64 0] 3)).alloc (.cells #[.int .i64 0] 3)).alloc (.cells #[.bool false] 4)).alloc (.cells #[.slice A len cap] 22)):=
  (((((Yg _ w).alloc (Yh _) _).alloc aG _).alloc dA _).alloc dA _).alloc dA _
 have Al:(((((w.alloc (.cells #[.string Bw] 9)).alloc (.cells #[.int .i64 0] 3)).alloc (.cells #[.int .i64 0] 3)).alloc (.cells #[.bool false] 4)).alloc (.cells #[.slice A len cap] 22)).heap.size=w.heap.size+5:=aG;obtain⟨W0,Nv⟩:∃W0,(((((w.alloc (.cells #[.string Bw] 9)).alloc (.cells #[.int .i64 0] 3)).alloc (.cells #[.int .i64 0] 3)).alloc (.cells #[.bool false] 4)).alloc (.cells #[.slice A len cap] 22))=W0:=⟨_,rfl⟩;rw[Nv]at bN b1 b2 b3 b4 Nt Al⊢;clear Nv;refine wpIn_rangeFunc_ownH rfl h1 (gf:=164) (lb:=#[.pointer (some ⟨w.heap.size+1+1+1+1,0,none⟩)]) rfl trivial (enters_of Tryz.func164 aC rfl)
  (aF1 (n-1) aA (w.heap.size+1+1+1+1) w A len cap es hE W0 Nt aA b4.cell) belowK_t (belowK_b aA) (Yg _ _) (fun _=>rfl)
  (fun Bp W=>((Boxed W w.heap.size 9 (.string Bw)/\Boxed W (w.heap.size+1) 3 (.int .i64 0)/\Boxed W (w.heap.size+1+1) 3 (.int .i64 0)/\Boxed W (w.heap.size+1+1+1) 4 (.bool false))/\∀p∈Bp,oC Bw p=false)/\Below w.heap.size w W)
  (fun c Bp W=>((c=.ret/\∃ini Aq,Bp=ini++[Aq]/\(∀p∈ini,oC Bw p=false)/\oC Bw Aq=true/\Boxed W (w.heap.size+1) 3 (.int .i64 (Aq.1:Int))/\Boxed W (w.heap.size+1+1) 3 (.int .i64 (Aq.2.1:Int))/\Boxed W (w.heap.size+1+1+1) 4 (.bool true)))/\Below w.heap.size w W)
  (OwnFrom.and (OwnFrom.and (OwnFrom.and (Own.from (boxed_own _ _ (fun _=>_)) _) (OwnFrom.and (Own.from (boxed_own _ _ (fun _=>_)) _) (OwnFrom.and (Own.from (boxed_own _ _ (fun _=>_)) _) (Own.from (boxed_own _ _ (fun _=>_)) _)))) (ownFrom_pure _ _)) (ownFrom_below (Yh _) aA))
  (fun c=>OwnFrom.and (Own.from (fun s X Y row hs hg hr=>by
   obtain⟨hc,ini,Aq,e1,e2,e3,e4,e5,e6⟩:=hs;exact⟨hc,ini,Aq,e1,e2,e3,boxed_own _ _ (fun _=>_) s X Y row e4 hg hr,boxed_own _ _ (fun _=>_) s X Y row e5 hg hr,boxed_own _ _ (fun _=>_) s X Y row e6 hg hr⟩) _) (ownFrom_below (Yh _) aA))
  ⟨⟨⟨bN,b1,b2,b3⟩,by simp⟩,Nt⟩
  (fun x a' W=>∃Bx,w.heap.size+4<=Bx/\lD W Bx 161 (.int .i64 (x.1:Int)) (.int .i64 (x.2.1:Int))/\a'={ tmps:=#[.slice A len cap,.string Bw,undef,.pointer (some ⟨w.heap.size,0,none⟩),.pointer (some ⟨w.heap.size+1,0,none⟩),.pointer (some ⟨w.heap.size+1+1,0,none⟩),.pointer (some ⟨w.heap.size+1+1+1,0,none⟩),.pointer (some ⟨Bx,0,none⟩),.string x.2.2,.slice A len cap,.func (.func 164) #[] #[.pointer (some ⟨w.heap.size+1+1+1+1,0,none⟩)],.agg #[.int .i64 (x.1:Int),.int .i64 (x.2.1:Int)],.string x.2.2,undef,undef,undef,undef,undef,undef,undef],defers:=[] })
  (fun x a'=>fun s X Y row hs hg hr=>by
   obtain⟨Bx,h1,h2,h3⟩:=hs;exact⟨Bx,h1,aY9 _ _ _ _ s X Y row h2 hg (fun r e=>(hr r e).2),h3⟩)
  ?assign ?body ?done ?stop
 case assign=>
  rintro l Bp x W K ⟨⟨⟨cN,c1,c2,c3⟩,hp⟩,hB⟩ hK;have e1:=c1.cell;have e2:=c2.cell;have e3:=c3.cell;have f1:=c1.frozen;have f2:=c2.frozen;have f3:=c3.frozen;simp only[rW];gi_wp2;exact hK _ _ ((KeepsOthers.alloc _ _).from _) ((Yg _ W).alloc hB.size _) ⟨⟨⟨cN.alloc _,c1.alloc _,c2.alloc _,c3.alloc _⟩,hp⟩,hB.alloc hB.size _⟩ ⟨W.heap.size,by have:=c3.lt;omega,lD.new W _ _ _,rfl⟩
 case body=>
  rintro l Bp x a' W hl hr ⟨⟨⟨cN,c1,c2,c3⟩,hp⟩,hB⟩ ⟨Bx,Nz,bX,rfl⟩ Ah;have dN:=cN.cell;have d0:=bX.c0;have d1:=bX.c1;have e1:=c1.cell;have e2:=c2.cell;have e3:=c3.cell;have f1:=c1.frozen;have f2:=c2.frozen;have f3:=c3.frozen;by_cases hx:(x.2.2.toList==Bw.toList)=true
  . have Ny:Tryz.prog.follows .mixedOrders=true:=by kernel_rfl
    gi_wp2;gi_region_o
    all_goals gi_wp2
    all_goals
     obtain⟨W',Jx,g1,g2,g3,gk,gb⟩:=aIa (.int .i64 (x.1:Int)) (.int .i64 (x.2.1:Int)) (.bool true) c1 c2 c3;rw[Jx];exact⟨(gk.trans (KeepsOthers.drew _)).from _,⟨rfl,Bp,x,rfl,hp,hx,g1,g2,g3⟩,(hB.trans gb).drew⟩
  . have hx:(x.2.2.toList==Bw.toList)=false:=by simpa using hx
    gi_wp2;exact⟨KeepsFrom.refl _ _,Yg _ _,⟨⟨cN,c1,c2,c3⟩,fun p Nx=>(Zo.1 Nx).elim (hp p) (fun e=>by simp at e;subst e;exact hx)⟩,hB⟩
 case done=>
  rintro D ys W hD rfl ⟨⟨⟨cN,c1,c2,c3⟩,hp⟩,hB⟩ hK;have e1:=c1.cell;have e2:=c2.cell;have e3:=c3.cell;have f1:=c1.frozen;have f2:=c2.frozen;have f3:=c3.frozen;gi_wp2;obtain⟨W',Jx,g1,g2,g3,gk,gb⟩:=aIa (.int .i64 0) (.int .i64 0) (.bool false) c1 c2 c3;rw[Jx];have Nw:=gk.same D _ hK rfl;have k1:=(g1.kept (grownBy_putObj' _ D (.deferred none)) (fun e=>by cases e;omega)).cell;have k2:=(g2.kept (grownBy_putObj' _ D (.deferred none)) (fun e=>by cases e;omega)).cell;have k3:=(g3.kept (grownBy_putObj' _ D (.deferred none)) (fun e=>by cases e;omega)).cell;refine⟨by simp,.inl ⟨_,_,rfl,run_takeDeferred Nw,?_⟩⟩;refine⟨nP none,?_,by rw[aG4 hp],(hB.trans gb).trans (belowK_b (w:=w) (Yh _) _ D _ _ aA Nw rfl rfl)⟩;simp[results,Tryz.f92,go_sem,k1,k2,k3,nP]
 case stop=>
  rintro D c Bp W hD Nu ⟨⟨rfl,ini,Aq,rfl,hi,hl,c1,c2,c3⟩,hB⟩ hK;have e1:=c1.cell;have e2:=c2.cell;have e3:=c3.cell;have f1:=c1.frozen;have f2:=c2.frozen;have f3:=c3.frozen;gi_wp2;have k1:=(c1.kept (grownBy_putObj' _ D (.deferred none)) (fun e=>by cases e;omega)).cell;have k2:=(c2.kept (grownBy_putObj' _ D (.deferred none)) (fun e=>by cases e;omega)).cell;have k3:=(c3.kept (grownBy_putObj' _ D (.deferred none)) (fun e=>by cases e;omega)).cell;refine⟨by simp,.inl ⟨_,_,rfl,run_takeDeferred hK,?_⟩⟩;refine⟨nP (some Aq),?_,by rw[aG5 Nu hi hl],hB.trans (belowK_b (w:=w) (Yh _) _ D _ _ aA hK rfl rfl)⟩;simp[results,Tryz.f92,go_sem,k1,k2,k3,nP]
theorem bFt(A:Option Addr)(len cap:Nat)(es:List En)(Bw:ByteArray)(w:World)(hE:bU w A len es):
 Calls Tryz.prog 92 #[.slice A len cap,.string Bw] w fun e w'=>e=.returned (nP (iF es Bw))/\Below w.heap.size w w':=
 callsIn_wide.1 (aV3 6 (Yh _) A len cap es Bw w hE)
end
section
open Go.RowKit
def oT(es:List En)(Bw:ByteArray)(i k:Nat):Prop:=∀p∈jM es i k,oC Bw p=false
theorem aTb{es:List En}{Bw:ByteArray}{i k:Nat}(H:oT es Bw i k)(h:((fJ es i k).toList==Bw.toList)=false):oT es Bw i (k+1):=fun p hp=>by
 rw[uS,Zo]at hp;rcases hp with hp|hp;· exact H p hp
 . simp at hp;subst hp;exact h
theorem aTc{es:List En}{Bw:ByteArray}{i k:Nat}(H:oT es Bw i k)(h:k=(cM es i).length):oT es Bw (i+1) 0:=by
 subst h;unfold oT at H⊢;rwa[aH2]at H
theorem bCj{es:List En}{Bw:ByteArray}{i k:Nat}(hi:i<es.length)(hk:k<(cM es i).length)(H:oT es Bw i k)(h:((fJ es i k).toList==Bw.toList)=true):iF es Bw=some (i,k,fJ es i k):=
 aG5 (ini:=jM es i k) (by rw[<-uS];exact aCe hi aA) H h
theorem bCk{es:List En}{Bw:ByteArray}(H:oT es Bw es.length 0):iF es Bw=none:=aG4 fun p hp=>H p (by rw[aI5];exact hp)
theorem bCl(A:Option Addr)(len cap:Nat)(es:List En)(Bw:ByteArray)(w:World)(hE:bU w A len es):
 Calls Tryz.prog 55 #[.slice A len cap,.string Bw] w fun e w'=>e=.returned (nP (iF es Bw))/\Below w.heap.size w w':=by
 have Nt:=hE.len;have Nw:=hE.max;go_in
 go_wp2_with fail;go_loopw [7] (fun i wr=>∃k:Nat,k<=len/\i=.int .i64 k/\oT es Bw k 0/\∃p,wr=w.drewN p) (fun i _=>len-(intOf i).toNat)
 case atStart=>exact⟨0,Yq _,rfl,fun p hp=>by rw[aH1]at hp;simp at hp,0,rfl⟩
 case round=>
  obtain⟨k,hk,rfl,Bc,p,rfl⟩:=hrel;have HT:=Hd Bc;clear Bc;by_cases Ah:k<len
  . obtain⟨b,off,rfl,hb,hc⟩:=hE.at_ Ah;obtain⟨Ga,A',n',c',Nv,Jx⟩:=hc k Ah;have Bx:k<es.length:=aA;have Nx:=Jx.len;have Nu:=Jx.max;clear hc;go_wp2_with fail;go_loopw [8] (fun i wr=>∃m:Nat,m<=n'/\i=.int .i64 m/\oT es Bw k m/\∃p,wr=w.drewN p) (fun i _=>n' - (intOf i).toNat)
    case atStart=>exact⟨0,Yq _,rfl,HT.o,_,rfl⟩
    case round=>
     obtain⟨m,hm,rfl,Bc,q,rfl⟩:=hrel;have Dx:=Hd Bc;clear Bc;by_cases Bp:m<n'
     . obtain⟨b2,Gc,rfl,Ad,Gb⟩:=Jx.at_ Bp;have Aq:=Gb m Bp;clear Gb;have HN:=Hd fun h=>aTb Dx.o h;have HF:=Hd fun h=>bCj Bx (show m<(cM es k).length by omega) Dx.o h;rw[show(cM es k)[m]?.getD ByteArray.empty=fJ es k m from rfl]at Aq;generalize fJ es k m=x at Aq HN HF;by_cases he:(x.toList==Bw.toList)=true
       . have HF:=Hd (HF.o he);exact aMs
       . have he:(x.toList==Bw.toList)=false:=by simpa using he
         have HN:=Hd (HN.o he);go_wp2_with fail;go_roundw;case rel=>exact⟨m+1,by omega,by go_num,HN.o,_,rfl⟩
         case measure=>simp[intOf];omega
     . have HN:=Hd (aTc Dx.o aA);exact aNt
  . have Bx:k=es.length:=by omega
    have Hr:=HT.o;rw[Bx]at Hr;have HF:=Hd (bCk Hr);exact aMs
end
section
open Go.RowKit Go.Sort
theorem aKh(A B:Option Addr)(n m c d:Nat)(ss tt:List ByteArray)(w:World)(hs:aP w A n ss)(ht:aP w B m tt):
 Calls Tryz.prog 174 #[.slice A n c,.slice B m d] w fun r w'=>r=.returned (.bool (eK ss tt))/\Below w.heap.size w w':=by
 have h1:=hs.len;have h2:=ht.len;have h3:=hs.max;have h4:=ht.max;by_cases Df:n=m
 . subst Df;go_in
   go_wp2_with fail;go_loopw [13] (fun i wr=>∃k:Nat,k<=n/\i=.int .i64 k/\vN ss tt k/\∃p,wr=w.drewN p) (fun i _=>n-(intOf i).toNat)
   case atStart=>exact⟨0,Yq _,rfl,fun j hj=>absurd hj aA,0,rfl⟩
   case round=>
    obtain⟨k,hk,rfl,Bc,p,rfl⟩:=hrel;have HT:=Hd Bc;clear Bc;by_cases Ah:k<n
    . obtain⟨b,off,rfl,hb,hc⟩:=hs.at_ Ah;obtain⟨b',Kd,rfl,Ia,Kl⟩:=ht.at_ Ah;have e1:=hc k Ah;have e2:=Kl k Ah;have HN:=Hd fun h=>aGi HT.o h;have HF:=Hd fun h=>aI9 (a:=ss) (b:=tt) (k:=k) aA aA h;clear hc Kl;generalize ss[k]?.getD ByteArray.empty=x at e1 HN HF;generalize tt[k]?.getD ByteArray.empty=y at e2 HN HF;by_cases he:(x.toList==y.toList)=true
      . have HN:=Hd (HN.o he);have An:(x.toList !=y.toList)=false:=aAr;go_wp2_with fail;go_quiet (fail);exact aNt
      . have he:(x.toList==y.toList)=false:=by simpa using he
        have HF:=Hd (HF.o he);have An:(x.toList !=y.toList)=true:=aAr;go_wp2_with fail;go_quiet (fail);go_wp2_with fail;go_ret;exact⟨aL HF.o.symm,bG (bG (Yg _ _) _) _⟩
    . have HY:=Hd (aH9 aA HT.o aA);exact aEe
 . have hF:=Hd (aH8 (a:=ss) (b:=tt) aA);have An:((n:Int) !=(m:Int))=true:=wI;go_in
   go_wp2_with fail;go_ret;exact⟨aL hF.o.symm,Yg _ _⟩
def rK(x y:Ex):Bool:=(x.k==y.k) && (x.n==y.n) && (x.s.toList==y.s.toList) && (x.op==y.op) && eK x.arms y.arms
theorem aZa(x:Ex)(A:Option Addr)(ca:Nat)(B:Option Addr)(cb:Nat)(y:Ex)(A':Option Addr)(Bp:Nat)(B':Option Addr)(Bx:Nat)(w:World)(hr:aH w x A B)(Aq:aH w y A' B'):
 Calls Tryz.prog 184 #[.agg (aE x A ca B cb),.agg (aE y A' Bp B' Bx)] w fun e w'=>e=.returned (.bool (rK x y))/\Below w.heap.size w w':=by
 have HF:=Hd fun w1 h=>aT2 w x y A A' ca Bp B B' cb Bx w1 h hr Aq;have Iq:=Hd fun w1 (h:Below w.heap.size w w1)=>aKh A A' x.arms.length y.arms.length ca Bp x.arms y.arms w1 (hr.below h).arms (Aq.below h).arms;have HS:=Hd (show rK x y=((x.k==y.k) && (x.n==y.n) && (x.s.toList==y.s.toList) && (x.op==y.op) && eK x.arms y.arms)from rfl);clear hr Aq;unfold aE at HF⊢;generalize rK x y=Bu at *;generalize x.k=k1 at *;generalize y.k=k2 at *;generalize x.n=m1 at *;generalize y.n=m2 at *;generalize x.s=s1 at *;generalize y.s=s2 at *;generalize x.op=o1 at *;generalize y.op=o2 at *;generalize eK x.arms y.arms=nb at *;generalize x.arms.length=a1 at *;generalize y.arms.length=a2 at *;generalize x.subs.length=n1 at *;generalize y.subs.length=n2 at *;generalize hk:(k1==k2)=bk at *;generalize hm:(m1==m2)=bm at *;generalize hs:(s1.toList==s2.toList)=bs at *;generalize ho:(o1==o2)=bo at *;cases bk with
 |false=>
  exact aAy
 |true=>
  cases bm with
  |false=>
   exact aAy
  |true=>
   cases bs with
   |false=>
    exact aAy
   |true=>
    cases bo with
    |false=>
     exact aAy
    |true=>
     have HN:=Hd (show Bu=nb by rw[HS.o];simp);go_in
     go_upto_region 1 with(fail);generalize Ag:(w.alloc _).alloc _=w1;obtain⟨Aa,hg,Av,Gg,hcell,Am⟩:=HF.o w1 Ag;have Ac:=Hd Aa;have q0:=hcell w1 (Yg _ _) 0;have p0:=Am w1 (Yg _ _) 0;have q1:=hcell w1 (Yg _ _) 1;have p1:=Am w1 (Yg _ _) 1;have q2:=hcell w1 (Yg _ _) 2;have p2:=Am w1 (Yg _ _) 2;have q3:=hcell w1 (Yg _ _) 3;have p3:=Am w1 (Yg _ _) 3;have q4:=hcell w1 (Yg _ _) 4;have p4:=Am w1 (Yg _ _) 4;have q5:=hcell w1 (Yg _ _) 5;have p5:=Am w1 (Yg _ _) 5;have Jx:=Hd (Iq.o w1 Aa);clear hcell Am Aa Av Gg Ag HF;go_wp2_with fail;refine Jx.o.mono ?_;exact aNl
end
section
open Go.RowKit Go.ChangeShapes Go.WideShapes Go.Deep
theorem bCm:Tryz.prog.cellsOf 3=1:=aC
theorem bCn:Tryz.prog.cellsOf 2=1:=aC
theorem aC7:Tryz.prog.cellsOf 9=1:=aC
theorem aJa:Tryz.prog.cellsOf 49=1:=aC
theorem aZb:Tryz.prog.cellsOf 50=1:=aC
def OkP(p:Ex):Prop:=p.s.size<=maxLen/\(∀t∈p.arms,t.size<=maxLen)/\(Lit.int .i64 p.k).wf=true/\(Lit.int .i64 p.n).wf=true/\(Lit.int .i64 p.op).wf=true
def sL(x:Ex):Prop:=∀p∈bL x,OkP p
theorem aT3{l:List Ex}{p:Ex}(h:p∈eC l):∃i,i<l.length/\p∈bL (l[i]?.getD default):=by
 induction l with
 |nil=>simp[eC]at h
 |cons x l ih=>
  simp only[eC,Zo]at h;rcases h with h|h;· exact⟨0,by simp,by simpa using h⟩
  . obtain⟨i,hi,hp⟩:=ih h;exact⟨i+1,by simpa using hi,by simpa using hp⟩
theorem aTd{l:List Ex}{p:Ex}{i:Nat}(hi:i<l.length)(h:p∈bL (l[i]?.getD default)):p∈eC l:=by
 induction l generalizing i with
 |nil=>simp at hi
 |cons x l ih=>
  simp only[eC,Zo];cases i with
  |zero=>left;simpa using h
  |succ i=>right;exact ih qI iI
theorem sL.self{x:Ex}(h:sL x):OkP x:=h x aAi
theorem sL.sub{x:Ex}(h:sL x){i:Nat}(hi:i<x.subs.length):sL (aM x i):=fun p hp=>h p (by
 rw[qW];exact Zf _ (aTd hi hp))
section
variable {H:Type}{enc:TypeId × Value->H}{w:World}{base:Nat}{spare:Nat->Bool}{held:Bool}
theorem aT4{Aq:Nat}{v:Value}{x:DataW H × List MemPlace}(h:DataW.trod enc Tryz.prog w base spare held Aq 49 [v]=some x):∃A n c ss,v=.slice A n c/\aP w A n ss/\∀s∈ss,s.size<=maxLen:=by
 rcases Go.ChangeShapes.open_strings Tryz.underlying49 Tryz.underlying9 aC h with⟨hcs,_⟩|⟨x,l,c,ss,hcs,_,hl,hm,hss,_,hcell,hz⟩
 . simp at hcs;subst hcs;exact⟨none,0,0,[],rfl,aP.nil_ _,fun s hs=>by cases hs⟩
 . simp at hcs;subst hcs;have Bp:l<=ss.length:=aFb;exact⟨some x,l,c,ss.take l,rfl,aCz Bp aE9 hcell,fun s hs=>hz s (List.mem_of_mem_take hs)⟩
theorem aZc:∀(Aq:Nat){cs:List Value}{x:DataW H × List MemPlace},DataW.trod enc Tryz.prog w base spare held Aq 52 cs=some x->cs.length=6->
 ∃(X:Ex)(A:Option Addr)(ca:Nat)(B:Option Addr)(cb:Nat),cs=iZ X A ca B cb/\aH w X A B/\sL X:=by
 intro Aq;induction Aq using Nat.strongRecOn with
 |_ Aq ih=>
 intro cs x h hl;obtain⟨ys,m,hm,_,_,hy,hf⟩:=DataW.trod_struct Tryz.underlying52 h
 match cs,hl with
 |[v0,v1,v2,v3,v4,v5],_=>
  match ys,hy with
  |[y0,y1,y2,y3,y4,y5],_=>
   have t0:=hf 0 _ rfl;have t1:=hf 1 _ rfl;have t2:=hf 2 _ rfl;have t3:=hf 3 _ rfl;have t4:=hf 4 _ rfl;have t5:=hf 5 _ rfl;simp[bCm,bCn,aC7,aJa,aZb]at t0 t1 t2 t3 t4 t5;obtain⟨k,e0,_,w0⟩:=DataW.trod_int Tryz.underlying3 t0;obtain⟨n,e1,_,w1⟩:=DataW.trod_int Tryz.underlying2 t1;obtain⟨s,e2,_,w2⟩:=DataW.trod_string Tryz.underlying9 t2;obtain⟨op,e3,_,w3⟩:=DataW.trod_int Tryz.underlying3 t3;injection e0 with e0;injection e1 with e1;injection e2 with e2;injection e3 with e3;subst e0 e1 e2 e3;obtain⟨A,na,ca,ss,rfl,hr,hz⟩:=aT4 t4;have Ob:=hr.len;subst Ob;rcases DataW.trod_slice Tryz.underlying50 t5 with⟨hcs,_⟩|⟨a,len,cap,elems,rest,nn,hnn,hcs,_,_,hlc,hcm,hel,hi,_,_⟩
   . simp at hcs;subst hcs;refine⟨.mk k n s op ss [],A,ca,none,0,rfl,?_,?_⟩
     . rw[vK];exact⟨hr,eQ.nil_ _⟩
     . intro p hp;simp only[bL,eC,List.mem_singleton]at hp;subst hp;exact⟨w2,hz,w0,w1,w3⟩
   . simp at hcs;subst hcs;have Nv:∀i,i<len->∃X:Ex,(∃A' Nu B' Bx,(∀j v,(iZ X A' Nu B' Bx)[j]?=some v->w.cell? (a.add (i*6+j))=some v)/\aH w X A' B')/\sL X:=by
      intro i Oc;have h1:=hi i Oc;rw[Yk aA,aYo]at h1;obtain⟨Oe,hc,ht⟩:=Option.bind_eq_some_iff.1 h1;obtain⟨_,Od,Ca⟩:=World.cells?_some hc;obtain⟨X,A',Nu,B',Bx,e,Oa,Eu⟩:=ih nn aA ht Od;refine⟨X,⟨A',Nu,B',Bx,fun j v hj=>?_,Oa⟩,Eu⟩;have Nz:j<6:=by
       rcases Nat.lt_or_ge j 6 with h|h;· exact h
       . rw[List.getElem?_eq_none (by simpa[iZ]using h)]at hj;cases hj
      rw[<-Go.Deep.add_add,Ca j Nz,e,hj]
     obtain⟨f,Nx⟩:=choose_lt (α:=Ex) Nv;have Jx:∀i,i<len->((List.range len).map f)[i]?.getD default=f i:=fun i hi=>by simp[List.getElem?_map,List.getElem?_range hi]
     refine⟨.mk k n s op ss ((List.range len).map f),A,ca,some a,cap,by simp[iZ,Ex.k,Ex.n,Ex.s,Ex.op,Ex.arms,Ex.subs],?_,?_⟩
     . rw[vK];refine⟨hr,rfl,by simp[Ex.subs];unfold maxLen at hcm;omega,fun hn=>?_⟩;simp only[Ex.subs,List.length_map,List.length_range]at hn;obtain⟨b,off,Nw⟩:=a;obtain⟨⟨A0,Of,B0,Og,h0,_⟩,_⟩:=Nx 0 hn;have Ny:=h0 0 _ rfl;have Bp:Nw=none:=by simpa[Addr.add]using World.cell?_spot Ny
       subst Bp;have Nt:∀i,(⟨b,off,none⟩:Addr).add i=⟨b,off+i,none⟩:=fun i=>by unfold Addr.add;split<;>simp_all
       refine⟨b,off,rfl,Yi w _ ((Nt 0) ▸ Ny),aC0 _ fun i hi=>?_⟩;simp only[Ex.subs,List.length_map,List.length_range]at hi;simp only[Ex.subs];rw[Jx i hi];obtain⟨⟨A',Nu,B',Bx,h1,h2⟩,_⟩:=Nx i hi;refine⟨A',Nu,B',Bx,fun j v hv=>?_,h2⟩
       have:=h1 j v hv
       rw[Nt]at this;rw[Nat.add_assoc];exact this
     . intro p hp;simp only[bL,Yu]at hp;rcases hp with rfl|hp;· exact⟨w2,hz,w0,w1,w3⟩
       . obtain⟨i,hi,hp⟩:=aT3 hp;simp only[List.length_map,List.length_range]at hi;rw[Jx i hi]at hp;exact(Nx i hi).2 p hp
end
end
end Go.Proofs.YtkbpdoomhfkngaaGreat
