/- A part of the proof. Conditions: each theorem's own. -/
import Derived.Test.YtkbpdoomhfkngaaGreatC31
import Derived.Test.YtkbpdoomhfkngaaGreatC33
namespace Go.Proofs.YtkbpdoomhfkngaaGreat
set_option linter.unusedVariables false
set_option linter.unusedSimpArgs false
set_option maxRecDepth 100000
set_option maxHeartbeats 40000000
section
open Go.RowKit Go.Sort Go.BigFrame
def aA6:Dc:=⟨⟨#[99]⟩,2,0,0,⟨#[]⟩,⟨#[]⟩⟩
def aA7:Dc:=⟨⟨#[104]⟩,1,0,0,⟨#[99]⟩,⟨#[116,114,117,101]⟩⟩
def qL:Nd:=⟨⟨#[102]⟩,[aA6],[],[aA7],[]⟩
def wV:Pg:=⟨[],[qL]⟩
theorem bFe:wA wV 0 ⟨#[104]⟩=some [⟨⟨#[99]⟩,1⟩]:=aC
theorem aLc{w:World}{b:Nat}{d:Dc}(hb:b<w.heap.size)(h:∀j,w.cell? ⟨b,j,none⟩=(aU d)[j]?):bZ w (some ⟨b,0,none⟩) 1 [d]:=by
 refine⟨rfl,by omega,fun _=>⟨b,0,rfl,hb,fun i hi=>?_⟩⟩;obtain rfl:i=0:=by omega
 intro j v hv;rw[Nat.zero_mul,Nat.add_zero,Nat.zero_add,h j];simpa[aU,fZ]using hv
theorem bFf(w w6:World)(h:((((w.alloc (.cells (aU aA6) 43)).alloc (.cells (aU aA7) 43)).alloc
 (.cells (bK qL (some ⟨w.heap.size,0,none⟩) 1 none 0 (some ⟨w.heap.size+1,0,none⟩) 1 none 0) 36)).alloc
 (.cells (bK qL (some ⟨w.heap.size,0,none⟩) 1 none 0 (some ⟨w.heap.size+1,0,none⟩) 1 none 0) 36))=w6):
 cJ w6 wV none (some ⟨w.heap.size+1+1+1,0,none⟩)/\Below w.heap.size w w6:=by
 generalize h1:w.alloc (.cells (aU aA6) 43)=w1 at h;obtain⟨b1,e1,k1⟩:=iV h1;generalize h2:w1.alloc (.cells (aU aA7) 43)=w2 at h;obtain⟨b2,e2,k2⟩:=iV h2;generalize h3:w2.alloc _=w3 at h;obtain⟨b3,e3,k3⟩:=iV h3;obtain⟨b4,e4,k4⟩:=iV h;have c3:Below w3.heap.size w3 w6:=b4;have c2:Below w2.heap.size w2 w6:=b3.tr c3;have c1:Below w1.heap.size w1 w6:=b2.tr c2;have c0:Below w.heap.size w w6:=b1.tr c1;rw[e1]at k2 e2;rw[e2]at k3 e3;rw[e3]at k4 e4;have rA:bZ w6 (some ⟨w.heap.size,0,none⟩) 1 [aA6]:=aLc aA (k1 w6 c1);have rB:bZ w6 (some ⟨w.heap.size+1,0,none⟩) 1 [aA7]:=aLc aA (k2 w6 c2);refine⟨⟨bU.nil_ _,⟨rfl,by decide,fun _=>⟨_,0,rfl,by omega,fun i hi=>?_⟩⟩⟩,c0⟩;obtain rfl:i=0:=by
  have:wV.ns.length=1:=rfl
  omega
 refine⟨some ⟨w.heap.size,0,none⟩,1,none,0,some ⟨w.heap.size+1,0,none⟩,1,none,0,fun j v hv=>?_,⟨rA,aI.nil_ _ _ _,rB,aI.nil_ _ _ _⟩⟩;rw[show 0+0*5+j=j by omega,k4 w6 (Yg _ _) j];exact(show(bK qL (some ⟨w.heap.size,0,none⟩) 1 none 0 (some ⟨w.heap.size+1,0,none⟩) 1 none 0)[j]?=(wW qL (some ⟨w.heap.size,0,none⟩) 1 none 0 (some ⟨w.heap.size+1,0,none⟩) 1 none 0)[j]? by simp[bK,wW]).trans hv
theorem bG1(w:World):Calls Tryz.prog 6 #[] w fun e w'=>e=.returned (.bool true)/\Below w.heap.size w w':=by
 have HL:=Hd fun N w6 (hr:cJ w6 wV none N)=>(show Calls Tryz.prog 10 #[.agg #[.slice none 0 0,.slice N 1 1],.int .i64 0,.string ⟨#[104]⟩] w6 fun e w'=>Below w6.heap.size w6 w'/\∃ A c,e=.returned (.tuple #[.slice A 1 c,.bool true])/\bW w' A 1 [⟨⟨#[99]⟩,1⟩] from by
  have:=bG0 wV none 0 N 1 0 ⟨#[104]⟩ w6 hr
  rw[bFe]at this;exact this.mono fun e w' ⟨hb,A,c,h1,h2,_⟩=>⟨hb,A,c,h1,h2⟩)
 have HM:=Hd bFf;go_in
 go_upto_region 2 with(fail);generalize Cr:((w.alloc _).alloc _).alloc _=w3;have Ak:Below w.heap.size w w3:=by
  subst Cr;exact(((Yg _ _).alloc (Yh _) _).alloc aG _).alloc dA _
 have Jx:∀w',Below w3.heap.size w3 w'->∀j,w'.cell? ⟨w.heap.size+1+1,j,none⟩=(bK qL (some ⟨w.heap.size,0,none⟩) 1 none 0 (some ⟨w.heap.size+1,0,none⟩) 1 none 0)[j]?:=by
  generalize Br:(w.alloc _).alloc _=w2 at Cr;have e2:w2.heap.size=w.heap.size+1+1:=by rw[<-Br];simp
  obtain⟨_,_,k⟩:=iV Cr;rw[e2]at k;exact k
 obtain⟨n0,n1,n2,n3,n4,-⟩:=Sx (Jx w3 (Yg _ _));simp only[bK,qL,Yo,Zd,List.getElem?_toArray,Yz,Zb]at n0 n1 n2 n3 n4;have Bx:=Hd fun w6 (h:w3.alloc (.cells (bK qL (some ⟨w.heap.size,0,none⟩) 1 none 0 (some ⟨w.heap.size+1,0,none⟩) 1 none 0) 36)=w6)=>HM.o w w6 (by rw[<-h,<-Cr];rfl);have Nt:=Hd (show w3.heap.size=w.heap.size+1+1+1 by rw[<-Cr];simp);clear Cr Ak Jx HM;go_wp2_with fail;generalize Aq:World.alloc _ _=w6;obtain⟨hr,hb⟩:=Bx.o w6 Aq;have Bp:=Hd (HL.o _ w6 hr);rw[<-Nt.o]at Bp;have HB:=Hd hb;clear Aq hr hb Bx HL n0 n1 n2 n3 n4;refine Bp.o.mono ?_;rintro e w7 ⟨Dw,S,c,rfl,Ap⟩;have Fg:=Hd (aV HB.o Dw);clear Dw;obtain⟨sb,so,rfl,Az,Ca⟩:=aI.at_ Ap aA;obtain⟨c0,c1⟩:=(Ca 0 aA).two;simp only[Nat.zero_mul,Nat.add_zero,Yz,Yt]at c0 c1;clear Ca;go_wp2_with fail;go_ret;exact⟨rfl,Fg.o⟩
def mU(w:World)(A:Option Addr)(n:Nat):Prop:=∀b off,A=some ⟨b,off,none⟩->∀i,i<n->∀A' n' c',w.cell? ⟨b,off+i*7,none⟩=some (.slice A' n' c')->n'<=c'
def aLd(g:Nat)(x0:Value)(f:Qn->Bool)(l:List Qn)(w:World):Prop:=
 ∀x,x∈l->∀(B:Option Addr)(c:Nat)(A:Option Addr)(ca:Nat)(D:Option Addr)(cb:Nat)(W:World),Below w.heap.size w W->aP W B x.ns.length x.ns/\aH W x.x A D->x.ns.length<=c->
  Calls Tryz.prog g #[x0,.agg (dW x B c A ca D cb)] W fun e w'=>e=.returned (.bool (f x))/\Below W.heap.size W w'
theorem aVp(g:Nat)(x0:Value)(eg:∀args w,(callFunc g args).run Tryz.prog w=.ok (.enter g args) w)(f:Qn->Bool)(A:Option Addr)(n c:Nat)(l:List Qn)(w:World)(h:gN w A n l)(Aq:mU w A n)(hf:aLd g x0 f l w):
 Calls Tryz.prog 18 #[.slice A n c,.func (.func g) #[x0] #[]] w fun e w'=>e=.returned (.int .i64 (bR f l 0))/\Below w.heap.size w w':=by
 have HR:=Hd h;have HP:=Hd hf;have Bp:=Hd Aq;have Da:=aI.len h;have Bx:=aI.max h;have Cs:=Hd (fun(k:Nat) hk hn hy=>show bR f l 0=(k:Int)by have:=oJ (l:=l) (f:=f) (k:=k) (i:=0) hk hn hy;rwa[Nat.zero_add]at this);have Cj:=Hd (fun hn=>show bR f l 0=-1 from oH (l:=l) (f:=f) (i:=0) hn);generalize bR f l 0=Au at *;have Fa:=Hd Da;clear h hf Da Aq;unfold aLd at HP;go_in
 go_wp2_with fail;go_loopw [5,8] (fun _ i wr=>∃k:Nat,k<=n/\i=.int .i64 k/\(∀j,j<k->f (l[j]?.getD default)=false)/\Below w.heap.size w wr) (fun _ i _=>n-(intOf i).toNat)
 case atStart=>exact⟨0,Yq _,rfl,fun j hj=>absurd hj aA,Yg _ _⟩
 case round=>
  obtain⟨k,hk,rfl,Bc,Ba⟩:=hrel;have HT:=Hd Bc;have Cf:=Hd Ba;clear Bc;by_cases Ah:k<n
  . obtain⟨b,off,B,cB,A1,ca,D,cb,rfl,hb,Ap,d0,d1,d2,d3,d4,d5,d6⟩:=aEw (HR.o.below Ba) Ah
    have Bz:=Hd (HP.o _ (nH mC) B cB A1 ca D cb wr Ba Ap (by
     obtain⟨b2,Gc,e2,Ad,-⟩:=aI.at_ HR.o aA;injection e2 with e2;injection e2 with e3 e4 _;subst e3 e4;exact Bp.o b off rfl k Ah B _ cB ((Ba.cell (p:=⟨b,off+k*7,none⟩) Ad).symm.trans d0)))
    have HH:=Hd (Cs.o k mC HT.o);have HS:=Hd fun(hf:f (l[k]?.getD default)=false)=>dC (P:=fun j=>f (l[j]?.getD default)=false) HT.o hf;clear Ba  Ap;unfold dW at Bz;generalize l[k]?.getD default=x at d0 d1 d2 d3 d4 d5 d6 Bz HH HS;exact aQw
  . exact aM1
theorem aYk(es:List En)(x:Nd)(r:Km)(d:Dc)(w:World)(h:oE w es x r):
 Calls Tryz.prog 17 #[.agg (cG es x r),.agg (aU d)] w fun e w'=>e=.returned (.bool (pY es x d))/\Below w.heap.size w w':=by
 have HF:=Hd fun w0 hw=>gH (w:=w) (w1:=w0) (cs:=cG es x r) (ds:=aU d) (T:=57) (U:=43) hw;have Bm:=Hd fun w1 (hb:Below w.heap.size w w1)=>aAe es x r d.nm w1 (h.below hb);have HC:=Hd (show pY es x d=!(cR es x d.nm).isSome from rfl);clear h;unfold oN at Bm;generalize pY es x d=Au at *;generalize cR es x d.nm=Aq at *;unfold cG aU at *;generalize es.length=pe at *;go_in
 go_upto_region 1 with(fail);generalize Ai:(w.alloc _).alloc _=w0;obtain⟨Ae,Al,hp,hq⟩:=HF.o w0 Ai;have Af:=Hd Ae;obtain⟨r0,r1,r2,r3,r4,r5⟩:=Sx (hp w0 (Yg _ _));have d0:=hq w0 (Yg _ _) 0;simp only[Ya,Yb,Yc]at r0 r1 r2 r3 r4 r5 d0;have Co:=Hd (Bm.o w0 Ae);clear Ai Ae Al hp hq HF Bm;go_wp2_with fail;refine Co.o.mono ?_;rintro e w1 ⟨Aa,Cn⟩;have Ac:=Hd (aV Af.o Aa);clear Co r0 r1 r2 r3 r4 r5 d0 Aa;cases Jh:Aq with
 |none=>
  rw[Jh]at Cn HC;subst Cn;have HO:=Hd (show Au=true from HC.o);exact zS
 |some row=>
  rw[Jh]at Cn HC;obtain⟨S,sc,rfl,-⟩:=Cn;have HO:=Hd (show Au=false from HC.o);exact zS
theorem bB3{l:List ByteArray}{f:ByteArray->Bool}{k:Nat}(hk:k+1<l.length)(h:f (l[k+1]?.getD ByteArray.empty)=true):(l.drop 1).any f=true:=by
 rw[List.any_eq_true];rw[Yk hk,Yt]at h;refine⟨_,?_,h⟩;rw[List.mem_drop_iff_getElem];exact⟨k,by omega,by congr 1;omega⟩
theorem bFg{l:List ByteArray}{f:ByteArray->Bool}(h:∀k,k+1<l.length->f (l[k+1]?.getD ByteArray.empty)=false):(l.drop 1).any f=false:=by
 rw[List.any_eq_false];intro s hs;rw[List.mem_drop_iff_getElem]at hs;obtain⟨k,hk,rfl⟩:=hs
 have:=h k aA
 rw[Yk (show k+1<l.length by omega),Yt]at this;simp only[show 1+k=k+1 by omega,this];decide
theorem bFh(es:List En)(x:Nd)(r:Km)(q:Qn)(BN:Option Addr)(cN:Nat)(A:Option Addr)(ca:Nat)(B:Option Addr)(cb:Nat)(w:World)(h:oE w es x r)(hn:aP w BN q.ns.length q.ns)(hx:aH w q.x A B)(h0:0<q.ns.length)(Oc:q.ns.length<=cN)(hF:tN q.x)(hs:bD q.x<=1000000):
 Calls Tryz.prog 19 #[.agg (cG es x r),.agg (dW q BN cN A ca B cb)] w fun e w'=>e=.returned (.bool (mM es x q))/\Below w.heap.size w w':=by
 have HF:=Hd fun w0 hw=>gH (w:=w) (w1:=w0) (cs:=cG es x r) (ds:=dW q BN cN A ca B cb) (T:=57) (U:=54) hw;have Bm:=Hd fun s w1 (hb:Below w.heap.size w w1)=>aAe es x r s w1 (h.below hb);have Hc:=Hd fun S m c row w1 (hb:Below w.heap.size w w1) (hr:bW w1 S m row) (hc:m<=c) (hm:m<=1000)=>bFb es x r q.x A ca B cb S m c row w1 (h.below hb) (hx.below hb) hr hc hF hs aA;have Ok:=Hd fun s S m c row w1 (hb:Below w.heap.size w w1) (hr:bW w1 S m row)=>aAf es x r s S m c row w1 (h.below hb) hr;have Hh:=Hd fun k (hk:k<q.ns.length)=>aP.cellC (k:=k) hn hk;have HC:=Hd (show mM es x q=match cR es x (q.ns[0]?.getD ByteArray.empty) with
  |none=>true
  |some row=>!gX es x q.x row || (q.ns.drop 1).any fun s=>!dO es x s row from rfl)
 have Fa:=Hd fun s row (h:cR es x s=some row)=>aDj h;have Jv:=Hd fun row k (hk:k+1<q.ns.length)(h:(!dO es x (q.ns[k+1]?.getD ByteArray.empty) row)=true)=>bB3 (l:=q.ns) (f:=fun s=>!dO es x s row) hk h;have Cj:=Hd fun row (h:∀k,k+1<q.ns.length->(!dO es x (q.ns[k+1]?.getD ByteArray.empty) row)=false)=>bFg (l:=q.ns) (f:=fun s=>!dO es x s row) h;have Ba:=hn.2.1;clear h hn hx hF;unfold oN at Bm;generalize mM es x q=Au at *;unfold cG dW at *;unfold aE at Hc;generalize On:es.length=pe at *;generalize q.x.arms.length=xa at *;generalize q.x.subs.length=xs at *;generalize Oo:q.ns.length=ql at *;obtain⟨m1,rfl⟩:∃m1,ql=m1+1:=⟨ql-1,by omega⟩;go_in
 go_upto_region 1 with(fail);generalize Ai:(w.alloc _).alloc _=w0;obtain⟨Ae,Al,hp,hq⟩:=HF.o w0 Ai;have Af:=Hd Ae;have HP:=Hd hp;have HX:=Hd hq;obtain⟨r0,r1,r2,r3,r4,r5⟩:=Sx (hp w0 (Yg _ _));have q0:=hq w0 (Yg _ _) 0;simp only[Ya,Yb,Yc]at r0 r1 r2 r3 r4 r5 q0;obtain⟨tb,Aq,rfl,Oe,t0⟩:=Hh.o 0 h0;have t0:=(Ae.cell (p:=⟨tb,Aq+0,none⟩) Oe).trans t0;simp only[Nat.add_zero]at t0;have Bp:=Hd fun W (hb:Below w0.heap.size w0 W)=>Bm.o (q.ns[0]?.getD ByteArray.empty) W (aV Af.o hb);have Jr:=Hd (Fa.o (q.ns[0]?.getD ByteArray.empty));have Oq:(0:Int)<(m1:Int)+1:=aA;clear Ai Ae Al hp hq HF Bm Fa;generalize q.ns[0]?.getD ByteArray.empty=s0 at *;generalize cR es x s0=Nt at *;cases Nt with
 |none=>
  have HO:=Hd (show Au=true from HC.o);have Bx:=Hd fun W (hb:Below w0.heap.size w0 W)=>(Bp.o W hb).mono fun e w' (h:_/\e=_)=>(show e=.returned (.tuple #[.slice none 0 0,.bool false])/\Below W.heap.size W w' from⟨h.2,h.1⟩);go_upto_region 1 with(fail);have HK:=Hd fun Wz (Mi:Below w0.heap.size w0 Wz)=>And.intro True.intro (And.intro ((Mi.cell (Yi _ _ r0)).trans r0) (And.intro ((Mi.cell (Yi _ _ r1)).trans r1) (And.intro ((Mi.cell (Yi _ _ r2)).trans r2) (And.intro ((Mi.cell (Yi _ _ r3)).trans r3) (And.intro ((Mi.cell (Yi _ _ r4)).trans r4) (And.intro ((Mi.cell (Yi _ _ r5)).trans r5) (And.intro ((Mi.cell (Yi _ _ q0)).trans q0) (And.intro ((Mi.cell (Yi _ _ t0)).trans t0) (True.intro)))))))));refine wp_region_held_drew (S:=fun Wz=>Below w0.heap.size w0 Wz) aC ?_ (fun hHeld=>?_);· exact vU
  refine aN (i:=0) hHeld ?_
  (try simp only[Act.put,Yd,Ye,Yf])
  refine aN (i:=1) hHeld ?_
  (try simp only[Act.put,Yd,Ye,Yf])
  refine aN (i:=2) hHeld ?_
  (try simp only[Act.put,Yd,Ye,Yf])
  refine aN (i:=3) hHeld ?_
  (try simp only[Act.put,Yd,Ye,Yf])
  refine aN (i:=4) hHeld ?_
  (try simp only[Act.put,Yd,Ye,Yf])
  refine Xf (rs:=[5]) aC aG ?_;refine Zk aX (fun K hK=>?_) Zl;go_simp
  (go_at_call 24;(with_reducible refine(Bx.o _ ?hx).mono ?_);(case hx=>exact hHeld);rintro e Wn ⟨rfl,hq⟩;have Aw:=Hd (hHeld.tr hq);clear hq)
  go_wp2_with fail;refine hK.out _ _ ?_ (fun hHeld=>?_);· exact Aw.o
  clear hK K
  (try simp only[Act.put,Yd,Ye,Yf])
  refine aN (i:=6) hHeld ?_
  (try simp only[Act.put,Yd,Ye,Yf])
  refine aN (i:=7) hHeld ?_
  (try simp only[Act.put,Yd,Ye,Yf])
  refine aN (i:=8) hHeld ?_
  (try simp only[Act.put,Yd,Ye,Yf])
  refine aN (i:=9) hHeld ?_
  (try simp only[Act.put,Yd,Ye,Yf])
  refine aN (i:=10) hHeld ?_
  (try simp only[Act.put,Yd,Ye,Yf])
  refine wpAnyH_done aC ?_ _;go_wp2_with fail;go_ret;exact⟨gF HO.o.symm,aV Af.o Aw.o⟩
 |some row=>
  have Nz:=Hd (show Au=(!gX es x q.x row || (q.ns.drop 1).any fun s=>!dO es x s row)from HC.o);have Bx:=Hd fun W (hb:Below w0.heap.size w0 W)=>(Bp.o W hb).mono fun e w' (h:_/\_)=>(show(∃A c,e=.returned (.tuple #[.slice A row.length c,.bool true])/\bW w' A row.length row/\row.length<=c)/\Below W.heap.size W w' from⟨h.2,h.1⟩);have Of:=Hd (Jr.o row rfl);have Od:=Hd (Jv.o row);have Ny:=Hd (Cj.o row);clear HC Bp Jr Jv Cj;go_upto_region 1 with(fail);have HK:=Hd fun Wz (Mi:Below w0.heap.size w0 Wz)=>And.intro True.intro (And.intro ((Mi.cell (Yi _ _ r0)).trans r0) (And.intro ((Mi.cell (Yi _ _ r1)).trans r1) (And.intro ((Mi.cell (Yi _ _ r2)).trans r2) (And.intro ((Mi.cell (Yi _ _ r3)).trans r3) (And.intro ((Mi.cell (Yi _ _ r4)).trans r4) (And.intro ((Mi.cell (Yi _ _ r5)).trans r5) (And.intro ((Mi.cell (Yi _ _ q0)).trans q0) (And.intro ((Mi.cell (Yi _ _ t0)).trans t0) (True.intro)))))))));refine wp_region_held_drew (S:=fun Wz=>Below w0.heap.size w0 Wz) aC ?_ (fun hHeld=>?_);· exact vU
  refine aN (i:=0) hHeld ?_
  (try simp only[Act.put,Yd,Ye,Yf])
  refine aN (i:=1) hHeld ?_
  (try simp only[Act.put,Yd,Ye,Yf])
  refine aN (i:=2) hHeld ?_
  (try simp only[Act.put,Yd,Ye,Yf])
  refine aN (i:=3) hHeld ?_
  (try simp only[Act.put,Yd,Ye,Yf])
  refine aN (i:=4) hHeld ?_
  (try simp only[Act.put,Yd,Ye,Yf])
  refine Xf (rs:=[5]) aC aG ?_;refine Zk aX (fun K hK=>?_) Zl;go_simp
  (go_at_call 24;(with_reducible refine(Bx.o _ ?hx).mono ?_);(case hx=>exact hHeld);rintro e Wn ⟨⟨S9,c9,rfl,Ob,Nx⟩,hq⟩;have Aw:=Hd (hHeld.tr hq);have Jx:=Hd Ob;have Oi:=Hd Nx;clear Ob Nx;clear hq)
  go_wp2_with fail;refine hK.out _ _ ?_ (fun hHeld=>?_);· exact Aw.o
  clear hK K
  (try simp only[Act.put,Yd,Ye,Yf])
  refine aN (i:=6) hHeld ?_
  (try simp only[Act.put,Yd,Ye,Yf])
  refine aN (i:=7) hHeld ?_
  (try simp only[Act.put,Yd,Ye,Yf])
  refine aN (i:=8) hHeld ?_
  (try simp only[Act.put,Yd,Ye,Yf])
  refine aN (i:=9) hHeld ?_
  (try simp only[Act.put,Yd,Ye,Yf])
  refine aN (i:=10) hHeld ?_
  (try simp only[Act.put,Yd,Ye,Yf])
  refine wpAnyH_done aC ?_ _;have Om:=aI.max Jx.o;have Ac:=Hd (aV Af.o Aw.o);have Nw:=Hd (Hc.o S9 row.length c9 row Wn Ac.o Jx.o Oi.o Of.o);obtain⟨r0,r1,r2,r3,r4,r5⟩:=Sx (HP.o Wn Aw.o);obtain⟨-,q1,q2,q3,q4,q5⟩:=Sx (HX.o Wn Aw.o);have q6:=HX.o Wn Aw.o 6;simp only[Ya,Yb,Yc]at r0 r1 r2 r3 r4 r5 q1 q2 q3 q4 q5 q6;clear Hc q0 t0;generalize Og:row.length=m0 at *;clear Og;generalize gX es x q.x row=ft at *;go_wp2_with fail;refine Nw.o.mono ?_;rintro e w2 ⟨rfl,Ad⟩;have Ef:=Hd (aV Aw.o Ad);have Aj:=Hd (aV Ac.o Ad);have Ce:=Hd (Jx.o.below Ad);have q0:=HX.o w2 Ef.o 0;simp only[Ya,Yb,Yc]at q0;clear Ad Nw r0 r1 r2 r3 r4 r5 q1 q2 q3 q4 q5 q6;cases ft with
  |false=>
   have HO:=Hd (show Au=true from Nz.o);exact vR
  |true=>
   have Nv:=Hd (show Au=((q.ns.drop 1).any fun s=>!dO es x s row) from Nz.o);have Ed:=Hd (fun(hz:¬ cN=1) k (hk:k<m1) W (hb:Below w.heap.size w W)=>(show W.cell? ⟨tb,Aq+1+k,none⟩=some (.string (q.ns[k+1]?.getD ByteArray.empty)) by
    obtain⟨b2,o2,e2,Ak,hc⟩:=Hh.o (k+1) aA;injection e2 with e2;injection e2 with e3 e4 _;subst e3 e4
    have:=(hb.cell (p:=⟨tb,Aq+(k+1),none⟩) Ak).trans hc
    rwa[show Aq+(k+1)=Aq+1+k by omega]at this))
   have Ol:(m1:Int)+1-1=(m1:Int):=aA;by_cases Nu:cN=1
   . obtain rfl:m1=0:=by omega
     have HO:=Hd (show Au=false by rw[Nv.o];exact Ny.o fun k hk=>absurd hk aA);subst Nu;go_wp2_with fail;go_loopw [32] (fun c wr=>c=.int .i64 0/\wr=w2) (fun c _=>0)
     case atStart=>exact⟨rfl,rfl⟩
     case round=>
      obtain⟨rfl,rfl⟩:=hrel;exact vR
   . have Gb:(cN==1)=false:=by rw[Xb];exact Nu
     have Oh:=Hd fun k hk W hb=>Ed.o Nu k hk W hb;clear Ed;go_wp2_with fail;clear q0;go_loopw [32] (fun c wr=>∃k:Nat,k<=m1/\c=.int .i64 k/\(∀a,a<k->(!dO es x (q.ns[a+1]?.getD ByteArray.empty) row)=false)/\Below w2.heap.size w2 wr) (fun c _=>m1-(intOf c).toNat)
     case atStart=>exact⟨0,Yq _,rfl,fun a ha=>absurd ha aA,Yg _ _⟩
     case round=>
      obtain⟨k,hk,rfl,Bc,Ay⟩:=hrel;have Cg:=Hd Bc;have Cm:=Hd Ay;have Bo:=Hd (aV Aj.o Ay);have Fj:=Hd (aV Ef.o Ay);clear Bc;by_cases Ah:k<m1
      . have t0:=Oh.o k Ah wr Bo.o;obtain⟨r0,r1,r2,r3,r4,r5⟩:=Sx (HP.o wr Fj.o);simp only[Ya,Yb,Yc]at r0 r1 r2 r3 r4 r5;have Oa:=Hd (Ok.o (q.ns[k+1]?.getD ByteArray.empty) S9 m0 c9 row wr Bo.o (Ce.o.below Ay));have Oj:=Hd (Od.o k aA);have Cf:=Hd fun(h:(!dO es x (q.ns[k+1]?.getD ByteArray.empty) row)=false)=>dC (P:=fun a=>(!dO es x (q.ns[a+1]?.getD ByteArray.empty) row)=false) Cg.o h;clear Ay;generalize q.ns[k+1]?.getD ByteArray.empty=sk at *;generalize dO es x sk row=hv at *;go_wp2_with fail;refine Oa.o.mono ?_;rintro e w5 ⟨rfl,Bv⟩;have Ck:=Hd (aV Bo.o Bv);have Mw:=Hd (aV Cm.o Bv);clear Bv Oa t0 r0 r1 r2 r3 r4 r5;cases hv with
        |false=>
         have HO:=Hd (show Au=true by rw[Nv.o];exact Oj.o rfl);exact aEm
        |true=>
         exact aM9
      . obtain rfl:k=m1:=by omega
        have HO:=Hd (show Au=false by rw[Nv.o];exact Ny.o fun a ha=>Cg.o a aA);exact aOl
end
end Go.Proofs.YtkbpdoomhfkngaaGreat
