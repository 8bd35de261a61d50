/- A part of the proof. Conditions: each theorem's own. -/
import Derived.Test.YtagkcjpoipcpkaaGreatDoorF30
import Derived.Test.YtagkcjpoipcpkaaGreatDoorF32
namespace Go.Proofs.YtagkcjpoipcpkaaGreatDoor
set_option linter.unusedVariables false
set_option linter.unusedSimpArgs false
set_option maxRecDepth 100000
set_option maxHeartbeats 40000000
section
open Go.RowKit Go.Sort
def qnR(v:Value)(x:Ex)(A:OA)(ca:Nat)(B:OA)(cb:Nat):Array Value:=#[v,.int .i64 x.k,.int .i64 x.n,.string x.s,.int .i64 x.op,.slice A x.arms.length ca,.slice B x.subs.length cb]
section
variable {G:GQ}{D:Nat}{es:List En}{w w' w1 w2:World}{r r':List Tk}{N:Nat}
def PQ(G:GQ)(D:Nat)(v:Value)(k:Nat):Prop:=(k<=D/\k≠dS G.A)\/v.ownBlock=some k
structure CQv (G:GQ)(D:Nat)(M m:Nat)(q:Qn)(v:Value)(A:OA)(ca:Nat)(B:OA)(cb:Nat)(w:World):Prop where
 lt:D<M
 row:w.heap[D]?=some (.cells (qnR v q.x A ca B cb) 81)
 own:w.ownsRow M 9 1 v q.ns.length (q.ns.map Value.string)
 few:q.ns.length+m<=100000
 rd:aM (bp (PQ G D v) w) q.x A B
def CQ(G:GQ)(D:Nat)(M m:Nat)(q:Qn)(w:World):Prop:=∃v A ca B cb,CQv G D M m q v A ca B cb w
structure oH (G:GQ)(D:Nat):Prop where
 bD:G.b<D
 b0:dS G.A≠G.b
 b0D:dS G.A<D
theorem gN.rdX{P P':Nat->Prop}(h:gN P w P' w'){x:Ex}{A B:OA}(hx:aM (bp P w) x A B):Go.Proofs.YtagkcjpoipcpkaaGreatDoor.aM (bp P' w') x A B:=oP h.ups h.up x A B hx
theorem aO1{P:Nat->Prop}(hb:P G.b)(h:Below w.heap.size (bl G.b w) (bl G.b w')):gN P w P w':=⟨wA h,fun k hk hn=>⟨hn,by
 have Aa:k≠G.b:=fun e=>hn (e ▸ hb);have e:=h.block k hk;rwa[dH Aa,dH Aa]at e⟩⟩
theorem CQv.kb(hq:oH G D){M m:Nat}{q:Qn}{v:Value}{A:OA}{ca:Nat}{B:OA}{cb:Nat}(h:CQv G D M m q v A ca B cb w)(hk:Below w.heap.size (bl G.b w) (bl G.b w')):CQv G D M m q v A ca B cb w':=by
 have Aa:=hq.bD;have hM:=h.lt;refine⟨h.lt,?_,nK h.own fun k Cb=>?_,h.few,(aO1 (.inl ⟨by omega,fun e=>hq.b0 e.symm⟩) hk).rdX h.rd⟩;· exact aPi
 . exact bCy
theorem aBa(hq:oH G D):OkC G (CQ G D):=by
 rintro M m q w w' ⟨v,A,ca,B,cb,h⟩ hb Aa hk;exact⟨v,A,ca,B,cb,h.kb hq hk⟩
theorem bYx(hq:oH G D):AppsC G D 0 9 1 (fun _ a _ _ cs=>cs=[.string a]) (CQ G D) fun s q=>{ q with ns:=q.ns++[s] }:=by
 intro M m q w w1 hc Aa hb hk;obtain⟨v,A,ca,B,cb,h⟩:=aBa hq _ _ _ _ _ hc hb Aa hk;refine⟨v,_,_,bU h.row 0 v rfl,?_,h.own,by have:=h.few;omega,?_⟩;· exact bE6
 . rintro s cs w' v' rfl hA ho;refine⟨v',A,ca,B,cb,h.lt,hA.row _ _ h.row,?_,by have:=h.few;simp;omega,?_⟩;· simpa using ho
   . refine(gN.rdX ⟨hA.size,fun k hk hn=>⟨fun Bm=>?_,hA.block k hk ?_ ?_⟩⟩ h.rd)
     . rcases Bm with Bm|Bm;· exact hn (.inl Bm)
       . rcases hA.goes with hg|hg;· exact hn (.inr (hg ▸ Bm))
         . have:=hg k Bm
           omega
     . exact aJw
     . exact fun e=>hn (.inr e)
theorem bUy(h:G.St w r)(ok:G.Ok)(tg:TkG G.all):mW 10000 G.all ((G.n-r.length:Nat):Int)=match qT r with
 |.bad q z=>(eU,((G.n-q.length:Nat):Int),z)
 |.ok x r1=>(x,((G.n-r1.length:Nat):Int),0):=by
 obtain⟨h1,h2⟩:=h.begins ok tg;unfold mW qT;rw[if_pos h1,h2,ok.len];cases hq:(aV 10000).ar r with
 |bad q=>rfl
 |ok x q=>
  simp only;split;· rfl
  . split<;>rfl
def bFl:Ex:=.mk 0 0 ByteArray.empty 0 [] []
theorem aCj(W:World){g:Nat}(v0 v1 v2 v3 v4 v5:Value){p o:Nat}(h:p≠g):((((((W.setCell ⟨g,0,none⟩ v0).setCell ⟨g,1,none⟩ v1).setCell ⟨g,2,none⟩ v2).setCell ⟨g,3,none⟩ v3).setCell ⟨g,4,none⟩ v4).setCell ⟨g,5,none⟩ v5).cell? ⟨p,o,none⟩=W.cell? ⟨p,o,none⟩:=by
 rw[wK _ _ h,wK _ _ h,wK _ _ h,wK _ _ h,wK _ _ h,wK _ _ h]
theorem uL{cs:AV}{T:TypeId}{j:Nat}{v:Value}(h:w.heap[D]?=some (.cells cs T)):(w.setCell ⟨D,j,none⟩ v).heap[D]?=some (.cells (cs.setIfInBounds j v) T):=by
 rw[Xi _ _ _ _ _ _ _ h,Xh _ _ _ _ _ _ h]
theorem lF{cs:AV}{T:TypeId}{j:Nat}(h:w.heap[D]?=some (.cells cs T)):w.frozen? ⟨D,j,none⟩=false:=by
 unfold World.frozen?;rw[h];simp
def qB(w:World)(D:Nat)(v1 v2 v3 v4 v5 v6:Value):World:=(((((w.setCell ⟨D,1,none⟩ v1).setCell ⟨D,2,none⟩ v2).setCell ⟨D,3,none⟩ v3).setCell ⟨D,4,none⟩ v4).setCell ⟨D,5,none⟩ v5).setCell ⟨D,6,none⟩ v6
theorem aWf{v1 v2 v3 v4 v5 v6:Value}{k:Nat}(h:k≠D):(qB w D v1 v2 v3 v4 v5 v6).heap[k]?=w.heap[k]?:=by
 unfold qB;rw[Xb _ _ _ _ h,Xb _ _ _ _ h,Xb _ _ _ _ h,Xb _ _ _ _ h,Xb _ _ _ _ h,Xb _ _ _ _ h]
theorem bUz{v1 v2 v3 v4 v5 v6:Value}:(qB w D v1 v2 v3 v4 v5 v6).heap.size=w.heap.size:=by simp[qB]
theorem cBt{v1 v2 v3 v4 v5 v6:Value}(h:G.St w r)(hD:D≠G.b/\G.W.heap.size<=D):G.St (qB w D v1 v2 v3 v4 v5 v6) r:=
 ((((((h.setCell hD.1 hD.2).setCell hD.1 hD.2).setCell hD.1 hD.2).setCell hD.1 hD.2).setCell hD.1 hD.2).setCell hD.1 hD.2)
theorem cBu{v1 v2 v3 v4 v5 v6:Value}{b:Nat}(h:Sm b D w2 w):Sm b D w2 (qB w D v1 v2 v3 v4 v5 v6):=h.set.set.set.set.set.set
theorem cBv(hq:oH G D){M m Z:Nat}{q:Qn}{x:Ex}{v:Value}{A A1:OA}{B B1:OA}{ca cb Bu Br:Nat}{w4 w5:World}(hc:CQv G D M m q v A ca B cb w5)(hZ:D<Z)(hv:∀k,v.ownBlock=some k->k<Z/\k≠dS G.A)(hs:w4.heap.size=w5.heap.size)(hk:∀k,k≠G.b->w5.heap[k]?=w4.heap[k]?)(hx:aM (gZ Z (dS G.A) w4) x A1 B1):
 CQ G D M m { q with x:=x } (qB w5 D (.int .i64 x.k) (.int .i64 x.n) (.string x.s) (.int .i64 x.op) (.slice A1 x.arms.length Bu) (.slice B1 x.subs.length Br)):=by
 have Ah:=hc.lt;have Bs:=hq.bD;have h1:=uL (j:=1) (v:=.int .i64 x.k) hc.row;have h2:=uL (j:=2) (v:=.int .i64 x.n) h1;have h3:=uL (j:=3) (v:=.string x.s) h2;have h4:=uL (j:=4) (v:=.int .i64 x.op) h3;have h5:=uL (j:=5) (v:=.slice A1 x.arms.length Bu) h4;have h6:=uL (j:=6) (v:=.slice B1 x.subs.length Br) h5;refine⟨v,A1,Bu,B1,Br,hc.lt,h6,nK hc.own fun k Cb=>aWf ?_,hc.few,?_⟩
 . have:=gP hc.own k Cb
   omega
 . refine oP (by rw[qD,wC,bUz];omega) (fun p u hp=>?_) x A1 B1 hx;obtain⟨k1,k2⟩:=zX hp;have Aa:¬PQ G D v p.block:=by
    rintro (⟨k3,k4⟩|k3);· exact k2 ⟨by omega,k4⟩
    . have:=hv _ k3
      exact k2 this
   rw[aCg Aa];have Aq:p.block≠D:=fun e=>Aa (.inl ⟨by omega,by have:=hq.b0D;omega⟩);have Ae:p.block≠G.b:=fun e=>Aa (.inl ⟨by omega,fun e2=>hq.b0 (e2 ▸ e)⟩);unfold World.cell? at k1⊢;rw[aWf Aq,hk _ Ae];exact k1
theorem bNd(ok:G.Ok)(tg:TkG G.all)(hq:oH G D)(hD:D≠G.b/\G.W.heap.size<=D)(p0 p1:Nat)(h0:Hs (eJ G D (CQ G D) w2) p0 (aH G.b))(h1:Hs (eJ G D (CQ G D) w2) p1 (.pointer (some ⟨D,1,none⟩))):
 iS G (eJ G D (CQ G D) w2) (bN 192 #[aH p0,aH p1]) aC1:=by
 intro q r w h hi;refine nJ ?_;have o:jV G (eJ G D (CQ G D) w2):=rK (aBa hq) w2;have My:=Hd fun z w1 r1 (h1:G.St w1 r1)=>aV7 z ok h1;have Ae:=Hd fun w1 (b1:Below w.heap.size w w1)=>(cBm (c:=G.c) 10000 ((G.n-r.length:Nat):Int) (bBo (h.below b1) ok) ok.tks tg.2.2 tg.2.2 (by have:=ok.rd.2.1;omega) (fun x r1 hp hz=>bMq (M:=7000) aF (Yh _) (by rw [(h.begins ok tg).2];exact(h.tkg tg).1) (by rw [(h.begins ok tg).2];exact(h.tkg tg).2.2) hp hz)).mono fun e w' hx=>(show Below w1.heap.size w1 w'/\vC w1.heap.size (dS G.A) 10000 G.all ((G.n-r.length:Nat):Int) e w' from hx);have Hc:=Hd fun w1 r2 (h1:G.St w1 r) hs he=>h1.gotoS (r':=r2) ok hs he;have HI:=Hd fun w' r' ha hl=>o.st q w w' r r' h hi ha hl;have HH:=Hd h;have H0:=Hd h0;have H1:=Hd h1;have HD:=Hd hD;have HO:=Hd o;have HQ:=Hd hq;have Mz:=Hd hi;have d0:=h0 q w hi;have l0:p0<w.heap.size:=Yi _ _ d0;have e1:w.cell? ⟨G.b,0,none⟩=some (.slice G.A G.n G.c):=h.cell 0;have e2:w.cell? ⟨G.b,1,none⟩=some (.int .i64 ((G.n-r.length:Nat):Int)):=h.cell 1;have Fb:=h.lt;have Ay:=Hd (show dS G.A<w.heap.size from by
  obtain⟨t,r',b0,off,-,ha,-,Nl,-⟩:=h.tok ok;rw[ha];exact Nl)
 have Jo:=Hd (show D<w.heap.size from by
  obtain⟨-,m,-,v,A,ca,B,cb,Ev⟩:=hi;exact(Ym.1 Ev.row).1)
 have Jx:=Hd (aZ5 r);have Gf:=Hd (aZ8 (n:=r.length) (h.tkg tg) aA);have Nj:=bUy h ok tg;unfold vC at Ae;rw[Nj]at Ae;clear Nj;unfold aC1;clear h hi h0 h1 ok o tg hq hD;have Nk:=Hd (aZ1 r);generalize qT r=x at *;cases x with
 |bad r1 z=>
  simp only at Ae;have Nm:=Hd (Nk.o r1 z rfl);have hz:(z !=0)=true:=by
   rcases Nm.o with h|h|h<;>rw[h]<;>rfl
  have Bs:r1 <:+ r:=Jx.o;generalize eU=x at *;have Hb:aU r1:=Gf.o;have Kr:=Hd fun w1 (h1:G.St w1 r)=>Hc.o w1 r1 h1 Bs Hb;have Gr:=Hd Bs.length_le;show Calls _ _ _ _ (jG G (eJ G D (CQ G D) w2) r.length (.bad r1 z));clear Bs Hb Jx Gf Hc;unfold aJ at Ae;generalize ((G.n-r1.length:Nat):Int)=aq at *;generalize ((G.n-r.length:Nat):Int)=Io at *;have Ct:Below w.heap.size w (w.alloc (.cells #[.int .i64 0,.int .i64 0,.string ⟨#[]⟩,.int .i64 0,.slice none 0 0,.slice none 0 0] 79)).drew:=((Yg _ _).alloc (Yh _) _).drew;have Nh:=Hd ((Ae.o (w.alloc (.cells #[.int .i64 0,.int .i64 0,.string ⟨#[]⟩,.int .i64 0,.slice none 0 0,.slice none 0 0] 79)).drew Ct).mono fun e w' hx=>(show ∃ A1 Bu B1 Br,e=.returned (.tuple #[.agg #[.int .i64 x.k,.int .i64 x.n,.string x.s,.int .i64 x.op,.slice A1 x.arms.length Bu,.slice B1 x.subs.length Br],.int .i64 aq,.int .i64 z])/\Below w.heap.size w w'/\(∃ Z,w.heap.size<Z/\Z<=w'.heap.size/\aM (gZ Z (dS G.A) w') x A1 B1)/\aX w' w.heap.size bFl none 0 none 0 from by
   obtain⟨hb,A1,Bu,B1,Br,he,hx⟩:=hx;exact⟨A1,Bu,B1,Br,he,Ct.tr hb,⟨_,aC,hb.size,hx⟩,(hb.block w.heap.size aC).trans (Xa _ _)⟩))
  have Ni:=Hd ((Ae.o w.drew (eP (Yg _ _) 1)).mono fun e w' hx=>(show ∃ A1 Bu B1 Br,e=.returned (.tuple #[.agg #[.int .i64 x.k,.int .i64 x.n,.string x.s,.int .i64 x.op,.slice A1 x.arms.length Bu,.slice B1 x.subs.length Br],.int .i64 aq,.int .i64 z])/\Below w.heap.size w w'/\(∃ Z,w.heap.size<=Z/\Z<=w'.heap.size/\aM (gZ Z (dS G.A) w') x A1 B1) from by
   obtain⟨hb,A1,Bu,B1,Br,he,hx⟩:=hx;exact⟨A1,Bu,B1,Br,he,⟨hb.os,hb.tape,hb.output,hb.size,hb.block⟩,⟨w.heap.size,Yh _,hb.size,hx⟩⟩))
  clear Ae Ct;go_in
  go_upto_region 1 with(fail);have q0:w.drew.cell? ⟨p0,0,none⟩=some (aH G.b):=d0;have q1:w.drew.cell? ⟨G.b,0,none⟩=some (.slice G.A G.n G.c):=e1;have q2:w.drew.cell? ⟨G.b,1,none⟩=some (.int .i64 Io):=e2;have g0:(w.alloc (.cells #[.int .i64 0,.int .i64 0,.string ⟨#[]⟩,.int .i64 0,.slice none 0 0,.slice none 0 0] 79)).drew.cell? ⟨p0,0,none⟩=some (aH G.b):=(Yj w _ _ l0).trans d0;have g1:(w.alloc (.cells #[.int .i64 0,.int .i64 0,.string ⟨#[]⟩,.int .i64 0,.slice none 0 0,.slice none 0 0] 79)).drew.cell? ⟨G.b,0,none⟩=some (.slice G.A G.n G.c):=(Yj w _ _ Fb).trans e1;have g2:(w.alloc (.cells #[.int .i64 0,.int .i64 0,.string ⟨#[]⟩,.int .i64 0,.slice none 0 0,.slice none 0 0] 79)).drew.cell? ⟨G.b,1,none⟩=some (.int .i64 Io):=(Yj w _ _ Fb).trans e2;have k0:p0≠w.heap.size:=Nat.ne_of_lt l0;have k1:G.b≠w.heap.size:=Nat.ne_of_lt Fb;go_region_held3 (fun W=>W.cell? ⟨p0,0,none⟩=some (aH G.b)/\W.cell? ⟨G.b,0,none⟩=some (.slice G.A G.n G.c)/\W.cell? ⟨G.b,1,none⟩=some (.int .i64 Io)) (first|with_reducible exact⟨q0,q1,q2⟩|with_reducible exact⟨g0,g1,g2⟩|with_reducible exact⟨z0,z1,z2⟩|with_reducible exact⟨u0,u1,u2⟩|with_reducible exact⟨(Yj w3 _ _ j0).trans u0,(Yj w3 _ _ j1).trans u1,(Yj w3 _ _ j1).trans u2⟩|with_reducible exact⟨(aCj _ _ _ _ _ _ _ k0).trans z0,(aCj _ _ _ _ _ _ _ k1).trans z1,(aCj _ _ _ _ _ _ _ k1).trans z2⟩)
   ((first
     |(with_reducible refine Nh.o.mono ?_;rintro e w3 ⟨A1,Bu,B1,Br,rfl,hb,hx,Aa⟩;have Aj:=Hd hb;have Ha:=Hd hx;have Fs:=Hd Aa;obtain⟨c0,c1,c2,c3,c4,c5⟩:=Aa.cells;have f0:=Aa.fz 0;have f1:=Aa.fz 1;have f2:=Aa.fz 2;have f3:=Aa.fz 3;have f4:=Aa.fz 4;have f5:=Aa.fz 5;have z0:=(Aj.o.cell l0).trans d0;have z1:=(Aj.o.cell Fb).trans e1;have z2:=(Aj.o.cell Fb).trans e2;have m0:p0<w3.heap.size:=Yt l0 Aj.o.size;have m1:G.b<w3.heap.size:=Yt Fb Aj.o.size;clear hb hx Aa)
     |(with_reducible refine Ni.o.mono ?_;rintro e w3 ⟨A1,Bu,B1,Br,rfl,hb,hx⟩;have Aj:=Hd hb;have Ha:=Hd hx;have u0:=(Aj.o.cell l0).trans d0;have u1:=(Aj.o.cell Fb).trans e1;have u2:=(Aj.o.cell Fb).trans e2;have j0:p0<w3.heap.size:=Yt l0 Aj.o.size;have j1:G.b<w3.heap.size:=Yt Fb Aj.o.size;clear hb hx)))
  . have Bd:=Hd (show Below w.heap.size w (w3.alloc (Obj.cells #[.int .i64 x.k,.int .i64 x.n,.string x.s,.int .i64 x.op,.slice A1 x.arms.length Bu,.slice B1 x.subs.length Br] 79))from Aj.o.alloc Aj.o.size _);generalize Aq:w3.alloc _=w4 at *;clear Aq;exact bGo
  . rw[aIs Fs.o x A1 Bu B1 Br];have Bd:=Hd (show Below w.heap.size w (w3.setRow w.heap.size (aJ x A1 Bu B1 Br))from xH Aj.o (Yh _) _);generalize Aq:w3.setRow w.heap.size _=w4 at *;clear Aq Fs;exact bGo
 |ok x r1=>
  simp only at Ae;have Bs:r1 <:+ r:=Jx.o;have Hb:aU r1:=Gf.o.1;have Kr:=Hd fun w1 (h1:G.St w1 r)=>Hc.o w1 r1 h1 Bs Hb;have Gr:=Hd Bs.length_le;show Calls _ _ _ _ (jG G (eJ G D (CQ G D) w2) r.length (.ok { q with x:=x } r1));clear Bs Hb Jx Gf Hc;unfold aJ at Ae;generalize ((G.n-r1.length:Nat):Int)=aq at *;generalize ((G.n-r.length:Nat):Int)=Io at *;have Ct:Below w.heap.size w (w.alloc (.cells #[.int .i64 0,.int .i64 0,.string ⟨#[]⟩,.int .i64 0,.slice none 0 0,.slice none 0 0] 79)).drew:=((Yg _ _).alloc (Yh _) _).drew;have Nh:=Hd ((Ae.o (w.alloc (.cells #[.int .i64 0,.int .i64 0,.string ⟨#[]⟩,.int .i64 0,.slice none 0 0,.slice none 0 0] 79)).drew Ct).mono fun e w' hx=>(show ∃ A1 Bu B1 Br,e=.returned (.tuple #[.agg #[.int .i64 x.k,.int .i64 x.n,.string x.s,.int .i64 x.op,.slice A1 x.arms.length Bu,.slice B1 x.subs.length Br],.int .i64 aq,.int .i64 0])/\Below w.heap.size w w'/\(∃ Z,w.heap.size<Z/\Z<=w'.heap.size/\aM (gZ Z (dS G.A) w') x A1 B1)/\aX w' w.heap.size bFl none 0 none 0 from by
   obtain⟨hb,A1,Bu,B1,Br,he,hx⟩:=hx;exact⟨A1,Bu,B1,Br,he,Ct.tr hb,⟨_,aC,hb.size,hx⟩,(hb.block w.heap.size aC).trans (Xa _ _)⟩))
  have Ni:=Hd ((Ae.o w.drew (eP (Yg _ _) 1)).mono fun e w' hx=>(show ∃ A1 Bu B1 Br,e=.returned (.tuple #[.agg #[.int .i64 x.k,.int .i64 x.n,.string x.s,.int .i64 x.op,.slice A1 x.arms.length Bu,.slice B1 x.subs.length Br],.int .i64 aq,.int .i64 0])/\Below w.heap.size w w'/\(∃ Z,w.heap.size<=Z/\Z<=w'.heap.size/\aM (gZ Z (dS G.A) w') x A1 B1) from by
   obtain⟨hb,A1,Bu,B1,Br,he,hx⟩:=hx;exact⟨A1,Bu,B1,Br,he,⟨hb.os,hb.tape,hb.output,hb.size,hb.block⟩,⟨w.heap.size,Yh _,hb.size,hx⟩⟩))
  clear Ae Ct;go_in
  go_upto_region 1 with(fail);have q0:w.drew.cell? ⟨p0,0,none⟩=some (aH G.b):=d0;have q1:w.drew.cell? ⟨G.b,0,none⟩=some (.slice G.A G.n G.c):=e1;have q2:w.drew.cell? ⟨G.b,1,none⟩=some (.int .i64 Io):=e2;have g0:(w.alloc (.cells #[.int .i64 0,.int .i64 0,.string ⟨#[]⟩,.int .i64 0,.slice none 0 0,.slice none 0 0] 79)).drew.cell? ⟨p0,0,none⟩=some (aH G.b):=(Yj w _ _ l0).trans d0;have g1:(w.alloc (.cells #[.int .i64 0,.int .i64 0,.string ⟨#[]⟩,.int .i64 0,.slice none 0 0,.slice none 0 0] 79)).drew.cell? ⟨G.b,0,none⟩=some (.slice G.A G.n G.c):=(Yj w _ _ Fb).trans e1;have g2:(w.alloc (.cells #[.int .i64 0,.int .i64 0,.string ⟨#[]⟩,.int .i64 0,.slice none 0 0,.slice none 0 0] 79)).drew.cell? ⟨G.b,1,none⟩=some (.int .i64 Io):=(Yj w _ _ Fb).trans e2;have k0:p0≠w.heap.size:=Nat.ne_of_lt l0;have k1:G.b≠w.heap.size:=Nat.ne_of_lt Fb;go_region_held3 (fun W=>W.cell? ⟨p0,0,none⟩=some (aH G.b)/\W.cell? ⟨G.b,0,none⟩=some (.slice G.A G.n G.c)/\W.cell? ⟨G.b,1,none⟩=some (.int .i64 Io)) (first|with_reducible exact⟨q0,q1,q2⟩|with_reducible exact⟨g0,g1,g2⟩|with_reducible exact⟨z0,z1,z2⟩|with_reducible exact⟨u0,u1,u2⟩|with_reducible exact⟨(Yj w3 _ _ j0).trans u0,(Yj w3 _ _ j1).trans u1,(Yj w3 _ _ j1).trans u2⟩|with_reducible exact⟨(aCj _ _ _ _ _ _ _ k0).trans z0,(aCj _ _ _ _ _ _ _ k1).trans z1,(aCj _ _ _ _ _ _ _ k1).trans z2⟩)
   ((first
     |(with_reducible refine Nh.o.mono ?_;rintro e w3 ⟨A1,Bu,B1,Br,rfl,hb,hx,Aa⟩;have Aj:=Hd hb;have Ha:=Hd hx;have Fs:=Hd Aa;obtain⟨c0,c1,c2,c3,c4,c5⟩:=Aa.cells;have f0:=Aa.fz 0;have f1:=Aa.fz 1;have f2:=Aa.fz 2;have f3:=Aa.fz 3;have f4:=Aa.fz 4;have f5:=Aa.fz 5;have z0:=(Aj.o.cell l0).trans d0;have z1:=(Aj.o.cell Fb).trans e1;have z2:=(Aj.o.cell Fb).trans e2;have m0:p0<w3.heap.size:=Yt l0 Aj.o.size;have m1:G.b<w3.heap.size:=Yt Fb Aj.o.size;clear hb hx Aa)
     |(with_reducible refine Ni.o.mono ?_;rintro e w3 ⟨A1,Bu,B1,Br,rfl,hb,hx⟩;have Aj:=Hd hb;have Ha:=Hd hx;have u0:=(Aj.o.cell l0).trans d0;have u1:=(Aj.o.cell Fb).trans e1;have u2:=(Aj.o.cell Fb).trans e2;have j0:p0<w3.heap.size:=Yt l0 Aj.o.size;have j1:G.b<w3.heap.size:=Yt Fb Aj.o.size;clear hb hx)))
  . have Ju:=Hd (show aX (w3.alloc (Obj.cells #[.int .i64 x.k,.int .i64 x.n,.string x.s,.int .i64 x.op,.slice A1 x.arms.length Bu,.slice B1 x.subs.length Br] 79)) w3.heap.size x A1 Bu B1 Br from Xa _ _);have Bd:=Hd (show Below w.heap.size w (w3.alloc (Obj.cells #[.int .i64 x.k,.int .i64 x.n,.string x.s,.int .i64 x.op,.slice A1 x.arms.length Bu,.slice B1 x.subs.length Br] 79)) from Aj.o.alloc Aj.o.size _);have Mk:=Hd (show ∃ Z,w.heap.size<=Z/\Z<=(w3.alloc (Obj.cells #[.int .i64 x.k,.int .i64 x.n,.string x.s,.int .i64 x.op,.slice A1 x.arms.length Bu,.slice B1 x.subs.length Br] 79)).heap.size/\aM (gZ Z (dS G.A) (w3.alloc (Obj.cells #[.int .i64 x.k,.int .i64 x.n,.string x.s,.int .i64 x.op,.slice A1 x.arms.length Bu,.slice B1 x.subs.length Br] 79))) x A1 B1 from by
     obtain⟨Z,Co,Cr,hx⟩:=Ha.o;refine⟨Z,by omega,by simp;omega,oP (by rw[qD,qD];simp) (fun p u hp=>?_) x A1 B1 hx⟩;obtain⟨k1,k2⟩:=zX hp;rw[xO k2,Yj _ _ _ (Yi _ _ k1)];exact k1)
    have Jj:=Hd (show w3.heap.size≠G.b from by have:=Aj.o.size;omega);generalize Aq:w3.alloc _=w4 at *;generalize Ng:w3.heap.size=eb at Ju Jj⊢;clear Aq Ng;exact fK3
  . rw [aIs Fs.o x A1 Bu B1 Br];have Ju:=Hd (show aX (w3.setRow w.heap.size (aJ x A1 Bu B1 Br)) w.heap.size x A1 Bu B1 Br from Fs.o.set);have Bd:=Hd (show Below w.heap.size w (w3.setRow w.heap.size (aJ x A1 Bu B1 Br)) from xH Aj.o (Yh _) _);have Mk:=Hd (show ∃ Z,w.heap.size<=Z/\Z<=(w3.setRow w.heap.size (aJ x A1 Bu B1 Br)).heap.size/\aM (gZ Z (dS G.A) (w3.setRow w.heap.size (aJ x A1 Bu B1 Br))) x A1 B1 from by
     obtain⟨Z,Co,Cr,hx⟩:=Ha.o;refine⟨Z,by omega,by rw[setRow_size];exact Cr,oP (by rw[qD,qD,setRow_size];exact Yh _) (fun p u hp=>?_) x A1 B1 hx⟩;obtain⟨k1,k2⟩:=zX hp;rw[xO k2,cell_setRow_other _ _ _ _ (fun e=>k2 ⟨by omega,by have:=Ay.o;omega⟩)];exact k1)
    have Jj:=Hd (show w.heap.size≠G.b from by omega);generalize Aq:w3.setRow w.heap.size _=w4 at *;generalize Ng:w.heap.size=eb at Ju Jj⊢;clear Aq Ng Fs;exact fK3
end
end
section
open Go.RowKit Go.Sort
theorem bYy:(Tryz.prog.info? 81).map (fun i=>(i.size,i.bytes,i.zero.map fun z=>z.cells.size))=some (7,112,some 7):=aE
section
variable {τ:Type}{G:GQ}{D:Nat}{es:List En}{I:Bool->τ->World->Prop}{w w' w1 w2:World}{r r':List Tk}{N:Nat}
def NwQ(G:GQ)(q:Qn)(w w1:World)(cs:LV):Prop:=∃A c A' ca B' cb,cs=.slice A q.ns.length c::dB q.x A' ca B' cb/\aS (gZ w.heap.size (dS G.A) w1) A q.ns.length q.ns/\aM (gZ w.heap.size (dS G.A) w1) q.x A' B'
theorem bYz{M n c:Nat}{A:OA}{ss:LB}(ho:w.ownsRow M 9 1 (.slice A n c) n (ss.map Value.string))(hn:ss.length=n)(Aa:n<=9223372036854775807)(hs:w.heap.size<=w'.heap.size)(hw:∀g,M<=g->∀o,w'.cell? ⟨g,o,none⟩=w.cell? ⟨g,o,none⟩):aS w' A n ss:=by
 refine⟨hn,Aa,fun hp=>?_⟩;rcases ho.2 with⟨h1,h2⟩|⟨g,cap,cur,h1,hg,hh,h2,h3,h4,h5⟩;· exact aJ1
 . simp only[Value.slice.injEq]at h1;obtain⟨rfl,-,rfl⟩:=h1;refine⟨g,0,rfl,Yt (Ym.1 hh).1 hs,fun i hi=>?_⟩;rw[hw g hg,Nat.zero_add];refine(ho.cellAt i aA).trans ?_;exact bEy
theorem bQt:pU (eB (iR 1) fun s (q:Qn)=>{ q with ns:=q.ns++[aB s] }):=aNj fun r n h hn=>aIw 1 aF h hn
theorem bY0(a:Addr):Calls Tryz.prog 156 #[aH G.b,.pointer (some a)] w fun e w'=>(∃T0 T1,eG w [(#[aH G.b],T0),(#[.pointer (some a)],T1)] w')/\e=.returned (bN 192 #[aH w.heap.size,aH (w.heap.size+1)]):=by
 exact aFx
theorem bU0(ok:G.Ok)(tg:TkG G.all)(hq:oH G D)(hp:Pf G D w):Calls Tryz.prog 156 #[aH G.b,.pointer (some ⟨D,1,none⟩)] w fun e w'=>∃K fa fc,e=.returned (.func K fa fc)/\Below w.heap.size w w'/\iG G D (CQ G D) w' (.func K fa fc) aC1:=by
 refine(bY0 _).mono ?_;rintro e w' ⟨⟨T0,T1,hn⟩,rfl⟩;exact⟨_,_,_,rfl,hn.below,fun w2 h2=>bNd ok tg hq ⟨hp.nb,hp.ge⟩ _ _ (hn.hs hp h2 0 _ T0 rfl) (hn.hs hp h2 1 _ T1 rfl)⟩
theorem bBr(ok:G.Ok)(h:G.St w r):oH G w.heap.size:=by
 obtain⟨t,r',b0,off,-,ha,h1,h2,-⟩:=h.tok ok;have e:dS G.A=b0:=by rw[ha];rfl
 exact⟨h.lt,by rw[e];exact h1,by rw[e];exact h2⟩
theorem nG{base:Nat}{e:TypeId}{size:Nat}{v:Value}{n:Nat}{xs:LV}(h:w.ownsRow base e size v n xs):∃A c,v=.slice A n c:=by
 exact aPu
theorem cDu(hq:oH G w.heap.size)(h:G.St w r)(hl:r.length<=100000){wa w5:World}{T:TypeId}{cs:AV}(hb:Below w.heap.size w wa)(Cs:Below wa.heap.size wa w5)(hp:Pf G w.heap.size wa)(hr:wa.heap[w.heap.size]?=some (.cells (qnR (.slice none 0 0) aKh none 0 none 0) 81)):
 CQ G w.heap.size (w5.heap.size+1) r.length qn0 (w5.alloc (.cells cs T)):=by
 have Ae:=Cs.size;have Ah:=hp.lt;have Aa:=h.len;refine⟨.slice none 0 0,none,0,none,0,by omega,?_,⟨rfl,.inl ⟨rfl,rfl⟩⟩,?_,?_⟩
 . have e:(w5.alloc (.cells cs T)).heap[w.heap.size]?=w5.heap[w.heap.size]?:=((Yg _ _).alloc (Yh _) _:Below w5.heap.size w5 _).block _ aA;exact e.trans ((Cs.block _ Ah).trans hr)
 . show 0+r.length<=100000;omega
 . exact aB2 _
theorem cBw{w7:World}{Z M m:Nat}{q:Qn}{A0:OA}{c0:Nat}{A:OA}{ca:Nat}{B:OA}{cb:Nat}(hZ:Z<=w.heap.size)(h:CQv G w.heap.size M m q (.slice A0 q.ns.length c0) A ca B cb w7):NwQ G q w w7 (.slice A0 q.ns.length c0::dB q.x A ca B cb):=by
 have Ah:=h.lt;refine⟨A0,c0,A,ca,B,cb,rfl,bYz h.own rfl (by have:=h.few;omega) bB5 (fun g hg o=>xO (fun hk=>by have:=hk.1;simp only at this;omega)),oP (by rw[wC,qD];exact Yh _) (fun p u hp=>?_) q.x A B h.rd⟩;obtain⟨k1,k2⟩:=aFg hp;rw[xO fun hk=>k2 (.inl ⟨by omega,hk.2⟩)];exact k1
theorem bY1(ok:G.Ok)(tg:TkG G.all)(o:jV G I)(D j M:Nat)(Hc:Far G D M)(up:Qn->τ->τ)(P:Nat->Prop)(hw:vM G I D j M P 81 7 (NwQ G) up)(p0 p1:Nat)(h0:Hs I p0 (aH G.b))(h1:Hs I p1 (.pointer (some ⟨D,j,none⟩)))(Oe:P p1):
 iS G I (bN 155 #[aH p0,aH p1]) (fun t r=>(nA r).bind fun q r=>.ok (up q t) r):=by
 intro t r w h hi;refine nJ ?_;obtain⟨i0,z0,Od,Co,Cm,Cr,Nr⟩:=zM bYy;have H1:=Hd h1;have No:=Hd Hc;have HW:=Hd fun w1 r1 ha hl=>hw t w w1 r r1 h hi ha hl;have OI:=Hd o;have HS:=Hd h;have HI:=Hd hi;have Gy:=Hd (cDa (h.tkg tg));have Aa:=bBr ok h;have Nt:=Hd (show r.length<=100000 from by have:=(h.tkg tg).2.2;omega);have Nl:=Hd Aa;have Bs:=aKg (n:=r.length-1) (h.tkg tg) aO9;have Be:=h.pos
 have Ny:=Hd (show ∀ d q,nA r=.ok d q->q.length<r.length from fun d q e=>by
  rw[e]at Bs
  have:=Bs.2
  omega)
 have Eb:=Hd fun w1 (hp:Pf G w.heap.size w1)=>bAb ok hp (aBa Aa) 1 aF 0 _ (bYx Aa);have Nq:=Hd fun w1 K fa fc (hp:Pf G w.heap.size w1) (hf:iG G w.heap.size (CQ G w.heap.size) w1 (.func K fa fc) (eB (iR 1) fun s (q:Qn)=>{ q with ns:=q.ns++[aB s] }))=>aNi ok tg hp (aBa Aa) ⟨#[44]⟩ K fa fc _ hf bQt;have Ng:=Hd fun w1 (hp:Pf G w.heap.size w1)=>qH ok hp (aBa Aa) ⟨#[61]⟩;have Dx:=Hd fun w1 (hp:Pf G w.heap.size w1)=>bU0 ok tg Aa hp;have Fl:=Hd fun w1 (hp:Pf G w.heap.size w1)=>qH ok hp (aBa Aa) ⟨#[59]⟩;have Ah:=h.lt;have Au:=h.size;have d0:=h0 t w hi;have l0:=Yi _ _ d0;have Nz:=Hd (show p0≠G.b from by
  rintro rfl
  have:=h.cell 0
  rw[d0]at this;simp[zC]at this)
 have l0:p0<w.heap.size:=l0;clear h hi h0 h1 ok o hw Hc Bs Be tg Aa;show Calls _ _ _ _ (jG G I r.length ((nA r).bind fun q r=>.ok (up q t) r));go_in
 go_upto_region 2 with(fail);generalize Aq:w.alloc _=wa;have Ew:=Hd (show Below w.heap.size w wa by rw[<-Aq];exact(Yg _ _).alloc (Yh _) _);have Oh:=Hd (show wa.heap[w.heap.size]?=some (.cells (qnR (.slice none 0 0) aKh none 0 none 0) 81)by rw[<-Aq];exact Xa _ _);have Ae:=Hd (show Pf G w.heap.size wa from⟨by omega,Au,by rw[<-Aq];simp,by rw[<-Aq];simp;omega,by rw[<-Aq];simp;omega⟩);have a0:=(Ew.o.cell l0).trans d0;clear Aq;go_region_held3 (fun W=>W.cell? ⟨p0,0,none⟩=some (aH G.b)) (first|exact a0|exact z1|exact z2|exact z3|exact z4|exact z5|exact z6|exact z7)
  ((first
    |(go_at_call 91;refine(Eb.o wa.drew (Ae.o.below (w':=wa.drew) (Yh _))).mono ?_;rintro e w1 ⟨K1,f1,c1,rfl,hb,hp⟩;have Ac:=Hd (show Below wa.heap.size wa w1 from⟨hb.os,hb.tape,hb.output,hb.size,hb.block⟩);have Of:=Hd hp;have z1:=(Ac.o.cell (Yi _ _ a0)).trans a0;clear hb hp)
    |(go_at_call 90;refine(Nq.o _ _ _ _ (Ae.o.below Ac.o.size) Of.o).mono ?_;rintro e w2 ⟨K2,f2,c2,rfl,hb,hp⟩;have Ai:=Hd hb;have Ns:=Hd hp;have z2:=(Ai.o.cell (Yi _ _ z1)).trans z1;clear hb hp)
    |(go_at_call 88;refine(Ng.o _ (Ae.o.below (Yr Ac.o.size Ai.o.size))).mono ?_;rintro e w3 ⟨K3,f3,c3,rfl,hb,hp⟩;have Aj:=Hd hb;have Nu:=Hd hp;have z3:=(Aj.o.cell (Yi _ _ z2)).trans z2;clear hb hp Ng)
    |(go_at_call 156;refine(Dx.o _ (Ae.o.below (Yr Ac.o.size (Yr Ai.o.size Aj.o.size)))).mono ?_;rintro e w4 ⟨K4,f4,c4,rfl,hb,hp⟩;have Bd:=Hd hb;have Nv:=Hd hp;have z4:=(Bd.o.cell (Yi _ _ z3)).trans z3;clear hb hp)
    |(go_at_call 88;refine(Fl.o _ (Ae.o.below (Yr Ac.o.size (Yr Ai.o.size (Yr Aj.o.size Bd.o.size))))).mono ?_;rintro e w5 ⟨K5,f5,c5,rfl,hb,hp⟩;have Bl:=Hd hb;have Oc:=Hd hp;have z5:=(Bl.o.cell (Yi _ _ z4)).trans z4;have z6:=(Yj _ (.cells #[.func K2 f2 c2,.func K3 f3 c3,.func K4 f4 c4,.func K5 f5 c5] 108) _ (Yi _ _ z5)).trans z5;have Fa:=Hd (show Below wa.heap.size wa w5 from Ac.o.trans ((Ai.o.trans ((Aj.o.trans ((Bd.o.tr Bl.o).mono Aj.o.size)).mono Ai.o.size)).mono Ac.o.size));clear hb hp)
    |(go_at_call 41;refine(aIf (aBa Nl.o) (Ae.o.below Fa.o.size) [.func K2 f2 c2,.func K3 f3 c3,.func K4 f4 c4,.func K5 f5 c5] eqF 108 4 aC ((((pB.nil (w:=w2)).snoc (Yg _ _) Ns.o).snoc Aj.o Nu.o).snoc Bd.o Nv.o |>.snoc Bl.o Oc.o) (HS.o.below (Ew.o.tr Fa.o)) (t:=qn0) (m:=r.length) (Yh _) (cDu Nl.o HS.o Nt.o Ew.o Fa.o Ae.o Oh.o)).mono ?_;rintro e w7 ⟨u,r1,d,m7,rfl,h7,Nm,Hb,Nh,Nk⟩;have H7:=Hd h7;have Ha:=Hd Nm;have Og:=Hd Hb;have Jx:=Hd Nh;have Nw:=Hd Nk;have z7:w7.cell? ⟨p0,0,none⟩=some (aH G.b):=(Yn (a:=⟨p0,0,none⟩) (Hb.block p0 bF0 Nz.o (Nat.ne_of_lt l0))).trans z6;clear h7 Nm Hb Nh Nk)))
 have Db:=Hd (show Below w.heap.size w (w5.alloc (.cells #[.func K2 f2 c2,.func K3 f3 c3,.func K4 f4 c4,.func K5 f5 c5] 108))from(Ew.o.tr Fa.o).alloc (Yr Ew.o.size Fa.o.size) _);have Ni:=Hd (aKi Db.o (Yh _) Og.o H7.o);obtain⟨v,n,xs,s0,s1,Ao,hn,hM,hP,Np⟩:=HW.o w7 r1 Ni.o Ha.o;have x1:=H1.o _ _ (OI.o.st t w w7 r r1 HS.o HI.o Ni.o Ha.o);obtain⟨v7,A7,Fs,B7,Ct,Ev⟩:=Jx.o;obtain⟨A0,c0,rfl⟩:=nG Ev.own;have Jm:=Hd (cBw (w:=w) (Yh _) Ev);have Ad:=Ev.row;have Gl:=Hd Ao;have Nj:=Hd (gP Ao);have Ob:=Hd (hP _ Oe);have Nn:=Hd (show v.ownBlock≠some D from fun e=>by have:=Nj.o D e;have:=No.o.lt;omega);have Bq:=Hd Np;have Nx:D<w7.heap.size:=Yi _ _ s0;have b0:=bU Ad 0 (.slice A0 d.ns.length c0) rfl;have b1:=bU Ad 1 (.int .i64 d.x.k) rfl;have b2:=bU Ad 2 (.int .i64 d.x.n) rfl;have b3:=bU Ad 3 (.string d.x.s) rfl;have b4:=bU Ad 4 (.int .i64 d.x.op) rfl;have b5:=bU Ad 5 (.slice A7 d.x.arms.length Fs) rfl;have b6:=bU Ad 6 (.slice B7 d.x.subs.length Ct) rfl;have a2:(w7.alloc (Obj.cells #[.slice A0 d.ns.length c0,.int .i64 d.x.k,.int .i64 d.x.n,.string d.x.s,.int .i64 d.x.op,.slice A7 d.x.arms.length Fs,.slice B7 d.x.subs.length Ct] 81)).cell? ⟨p1,0,none⟩=some (.pointer (some ⟨D,j,none⟩)):=(Yj _ _ _ (Yi _ _ x1)).trans x1;have aD:(w7.alloc (Obj.cells #[.slice A0 d.ns.length c0,.int .i64 d.x.k,.int .i64 d.x.n,.string d.x.s,.int .i64 d.x.op,.slice A7 d.x.arms.length Fs,.slice B7 d.x.subs.length Ct] 81)).cell? ⟨D,j,none⟩=some v:=(Yj _ _ _ Nx).trans s0;clear Ao Np d0 a0 z1 z2 z3 z4 z5 z6 z7 Ad Ev Jx;go_upto_region 3 with(fail);go_region_law
  ((refine step_append_lies _ bC _ _ _ bC M 81 i0 z0 7 112 Tryz.underlying67 Od Co Cm Cr Nr aF v n xs bC (Gl.o.alloc _) ⟨w7.heap.size,0,none⟩ 1 1 (.slice A0 d.ns.length c0::dB d.x A7 Fs B7 Ct) bC rfl (fun j u hu=>World.news_of_block (Xa _ _) j u hu) (fun u hu=>by simp [dB] at hu;rcases hu with rfl | rfl | rfl | rfl | rfl | rfl | rfl <;> rfl) aA fZ aA cP _ rfl ?_
    intro g1 Oa w8 Bh As Cw Dt;have y2:=xP mF As Ob.o x1;have yD:=xP mF As Nn.o s0;have yF:=aFq mF As Nn.o s0 s1;have HAL:=Hd (cE6 (j:=j) No.o H7.o mF As Nj.o hM Cw Bh);clear Bh As Cw Dt))
 go_wp2_with fail
 all_goals
  go_ret;obtain⟨k1,k2,k3⟩:=HAL.o;obtain⟨m1,m2⟩:=Bq.o d _ _ _ Jm.o k1 k2;have ho:=Nw.o;rw[Gy.o]at ho;have Bs:=Ny.o;generalize nA r=x at *;rcases ho with⟨rfl,rfl⟩|⟨q,z,rfl,rfl⟩;· exact⟨rfl,k3,Ha.o,m2 (Bs _ _ rfl)⟩
  . exact⟨rfl,⟨_,k3,Ha.o⟩,_,m1⟩
end
end
section
open Go.RowKit Go.Sort
def QnC(w:World)(q:Qn)(cs:LV):Prop:=∃A c A' ca B' cb,cs=.slice A q.ns.length c::dB q.x A' ca B' cb/\aS w A q.ns.length q.ns/\aM w q.x A' B'
section
variable {G:GQ}{D:Nat}{es:List En}{w w' w1 w2:World}{r r':List Tk}{N:Nat}
theorem gN.qn{P P':Nat->Prop}(h:gN P w P' w')(q:Qn)(c:LV)(hq:QnC (bp P w) q c):QnC (bp P' w') q c:=by
 obtain⟨A,c0,A',ca,B',cb,h1,h2,h3⟩:=hq;exact⟨A,c0,A',ca,B',cb,h1,h2.up h.ups h.up,oP h.ups h.up q.x A' B' h3⟩
def PN(G:GQ)(D:Nat)(v1 v2 v3 v4:Value)(k:Nat):Prop:=(k<=D/\k≠dS G.A)\/v1.ownBlock=some k\/v2.ownBlock=some k\/v3.ownBlock=some k\/v4.ownBlock=some k
structure CNv (G:GQ)(D:Nat)(M m:Nat)(n:Nd)(v1 v2 v3 v4:Value)(cs:LV)(w:World):Prop where
 lt:D<M
 row:w.heap[D]?=some (.cells #[.string n.nm,v1,v2,v3,v4] 69)
 o1:w.ownsRow M 130 6 v1 n.ins.length (eY n.ins)
 o2:w.ownsRow M 130 6 v2 n.outs.length (eY n.outs)
 o3:w.ownsRow M 130 6 v3 n.vars.length (eY n.vars)
 o4:w.ownsRow M 81 7 v4 n.eqs.length cs
 f1:n.ins.length+m<=100000
 f2:n.outs.length+m<=100000
 f3:n.vars.length+m<=100000
 f4:n.eqs.length+m<=100000
 d12:∀k,v1.ownBlock=some k->v2.ownBlock≠some k
 d13:∀k,v1.ownBlock=some k->v3.ownBlock≠some k
 d23:∀k,v2.ownBlock=some k->v3.ownBlock≠some k
 fl:nF (QnC (bp (PN G D v1 v2 v3 v4) w)) n.eqs cs
def CN(G:GQ)(D:Nat)(M m:Nat)(n:Nd)(w:World):Prop:=∃v1 v2 v3 v4 cs,CNv G D M m n v1 v2 v3 v4 cs w
theorem aB3{base Aa:Nat}{e e':TypeId}{size Ae:Nat}{v v':Value}{n n':Nat}{xs Aq:LV}(h:w.ownsRow base e size v n xs)(h':w.ownsRow Aa e' Ae v' n' Aq)(hT:e≠e'){k:Nat}(hk:v.ownBlock=some k):v'.ownBlock≠some k:=by
 rcases h'.2 with⟨rfl,_⟩|⟨g,cap,cur,rfl,hg,hh,_⟩;· intro h;cases h
 . intro Cb;have e2:g=k:=Option.some.inj Cb;subst e2;rcases h.2 with⟨rfl,_⟩|⟨g2,cap2,cur2,rfl,hg2,hh2,_⟩;· cases hk
   . have e3:g2=g:=Option.some.inj hk;subst e3;rw[hh2]at hh;injection hh with hh;injection hh with _ hh;exact hT hh
section
variable {M m:Nat}{n:Nd}{v1 v2 v3 v4:Value}{cs:LV}
theorem CNv.kb(hq:oH G D)(h:CNv G D M m n v1 v2 v3 v4 cs w)(hk:Below w.heap.size (bl G.b w) (bl G.b w')):CNv G D M m n v1 v2 v3 v4 cs w':=by
 have Aa:=hq.bD;have hM:=h.lt
 have ho:∀{e:TypeId}{size:Nat}{v:Value}{n:Nat}{xs:LV},w.ownsRow M e size v n xs->w'.ownsRow M e size v n xs:=fun h2=>nK h2 fun k Cb=>by
  exact bC3
 refine⟨h.lt,?_,ho h.o1,ho h.o2,ho h.o3,ho h.o4,h.f1,h.f2,h.f3,h.f4,h.d12,h.d13,h.d23,h.fl.mono (aO1 (.inl ⟨by omega,fun e=>hq.b0 e.symm⟩) hk).qn⟩;exact aPi
theorem nB(hq:oH G D):OkC G (CN G D):=by
 rintro M m q w w' ⟨v1,v2,v3,v4,cs,h⟩ hb Aa hk;exact⟨v1,v2,v3,v4,cs,h.kb hq hk⟩
theorem bY2(hq:oH G D):aGd D 0 (CN G D) fun s n=>{ n with nm:=s }:=by
 rintro M m n w s ⟨v1,v2,v3,v4,cs,h⟩;have hM:=h.lt;have hb:=hq.b0D;have ho:∀{e:TypeId}{size:Nat}{v:Value}{n:Nat}{xs:LV},w.ownsRow M e size v n xs->(w.setCell ⟨D,0,none⟩ (.string s)).ownsRow M e size v n xs:=fun h2=>nK h2 fun k Cb=>Xb _ _ _ _ (by have:=gP h2 k Cb;show k≠D;omega);refine⟨⟨_,bU h.row 0 _ rfl⟩,lF h.row,v1,v2,v3,v4,cs,h.lt,uL h.row,ho h.o1,ho h.o2,ho h.o3,ho h.o4,h.f1,h.f2,h.f3,h.f4,h.d12,h.d13,h.d23,h.fl.mono (gN.qn ⟨by simp,fun k hk hn=>⟨hn,Xb _ _ _ _ ?_⟩⟩)⟩;show k≠D;rintro rfl;exact hn (.inl ⟨Yh _,by omega⟩)
theorem bU1(hq:oH G D):AppsC G D 1 130 6 (fun _ d _ _ cs=>cs=dcL d) (CN G D) fun d n=>{ n with ins:=n.ins++[d] }:=by
 intro M m n w w1 hc Ae hb hk;obtain⟨v1,v2,v3,v4,cs,h⟩:=nB hq _ _ _ _ _ hc hb Ae hk;have hM:=h.lt;refine⟨v1,_,_,bU h.row 1 v1 rfl,lF h.row,h.o1,by have:=h.f1;omega,?_⟩;rintro s Aq w' v' rfl hA ho;have Aa:∀{e:TypeId}{size:Nat}{v:Value}{n:Nat}{xs:LV},w1.ownsRow M e size v n xs->(∀k,v.ownBlock=some k->v1.ownBlock=some k->False)->w'.ownsRow M e size v n xs:=fun h2 Bv=>nK h2 fun k Cb=>hA.block k (h2.lt k Cb).2 aKo (Bv k Cb)
 have nw:∀(k:Nat){e:TypeId}{size:Nat}{v:Value}{n:Nat}{xs:LV},v'.ownBlock=some k->w1.ownsRow M e size v n xs->(v1.ownBlock=some k->v.ownBlock≠some k)->v.ownBlock≠some k:=fun k _ _ _ _ _ Cb h2 h3=>by
  exact aPo
 refine⟨v',v2,v3,v4,cs,h.lt,hA.row _ _ h.row,aQ5,(Aa h.o2 fun k h1 h2=>h.d12 k h2 h1),(Aa h.o3 fun k h1 h2=>h.d13 k h2 h1),(Aa h.o4 fun k h1 h2=>aB3 h.o1 h.o4 aF h2 h1),(by have:=h.f1;simp;omega),aQ0,aQ1,aQ2,fun k hk=>nw k hk h.o2 (h.d12 k),fun k hk=>nw k hk h.o3 (h.d13 k),h.d23,h.fl.mono (gN.qn ⟨hA.size,fun k hk hn=>⟨fun Bm=>?_,hA.block k hk ?_ ?_⟩⟩)⟩;· exact aRb
 . exact aJw
 . exact aPl
theorem bU2(hq:oH G D):AppsC G D 2 130 6 (fun _ d _ _ cs=>cs=dcL d) (CN G D) fun d n=>{ n with outs:=n.outs++[d] }:=by
 intro M m n w w1 hc Ae hb hk;obtain⟨v1,v2,v3,v4,cs,h⟩:=nB hq _ _ _ _ _ hc hb Ae hk;have hM:=h.lt;refine⟨v2,_,_,bU h.row 2 v2 rfl,lF h.row,h.o2,by have:=h.f2;omega,?_⟩;rintro s Aq w' v' rfl hA ho;have Aa:∀{e:TypeId}{size:Nat}{v:Value}{n:Nat}{xs:LV},w1.ownsRow M e size v n xs->(∀k,v.ownBlock=some k->v2.ownBlock=some k->False)->w'.ownsRow M e size v n xs:=fun h2 Bv=>nK h2 fun k Cb=>hA.block k (h2.lt k Cb).2 aKo (Bv k Cb)
 have nw:∀(k:Nat){e:TypeId}{size:Nat}{v:Value}{n:Nat}{xs:LV},v'.ownBlock=some k->w1.ownsRow M e size v n xs->(v2.ownBlock=some k->v.ownBlock≠some k)->v.ownBlock≠some k:=fun k _ _ _ _ _ Cb h2 h3=>by
  exact aPo
 refine⟨v1,v',v3,v4,cs,h.lt,hA.row _ _ h.row,(Aa h.o1 fun k h1 h2=>h.d12 k h1 h2),aQ5,(Aa h.o3 fun k h1 h2=>h.d23 k h2 h1),(Aa h.o4 fun k h1 h2=>aB3 h.o2 h.o4 aF h2 h1),aQ3,(by have:=h.f2;simp;omega),aQ1,aQ2,fun k h1 h2=>nw k h2 h.o1 (fun h2 h1=>h.d12 k h1 h2) h1,h.d13,fun k hk=>nw k hk h.o3 (h.d23 k),h.fl.mono (gN.qn ⟨hA.size,fun k hk hn=>⟨fun Bm=>?_,hA.block k hk ?_ ?_⟩⟩)⟩;· exact aRb
 . exact aJw
 . exact aPl
theorem bU3(hq:oH G D):AppsC G D 3 130 6 (fun _ d _ _ cs=>cs=dcL d) (CN G D) fun d n=>{ n with vars:=n.vars++[d] }:=by
 intro M m n w w1 hc Ae hb hk;obtain⟨v1,v2,v3,v4,cs,h⟩:=nB hq _ _ _ _ _ hc hb Ae hk;have hM:=h.lt;refine⟨v3,_,_,bU h.row 3 v3 rfl,lF h.row,h.o3,by have:=h.f3;omega,?_⟩;rintro s Aq w' v' rfl hA ho;have Aa:∀{e:TypeId}{size:Nat}{v:Value}{n:Nat}{xs:LV},w1.ownsRow M e size v n xs->(∀k,v.ownBlock=some k->v3.ownBlock=some k->False)->w'.ownsRow M e size v n xs:=fun h2 Bv=>nK h2 fun k Cb=>hA.block k (h2.lt k Cb).2 aKo (Bv k Cb)
 have nw:∀(k:Nat){e:TypeId}{size:Nat}{v:Value}{n:Nat}{xs:LV},v'.ownBlock=some k->w1.ownsRow M e size v n xs->(v3.ownBlock=some k->v.ownBlock≠some k)->v.ownBlock≠some k:=fun k _ _ _ _ _ Cb h2 h3=>by
  exact aPo
 refine⟨v1,v2,v',v4,cs,h.lt,hA.row _ _ h.row,(Aa h.o1 fun k h1 h2=>h.d13 k h1 h2),(Aa h.o2 fun k h1 h2=>h.d23 k h1 h2),aQ5,(Aa h.o4 fun k h1 h2=>aB3 h.o3 h.o4 aF h2 h1),aQ3,aQ0,(by have:=h.f3;simp;omega),aQ2,h.d12,fun k h1 h2=>nw k h2 h.o1 (fun h2 h1=>h.d13 k h1 h2) h1,fun k h1 h2=>nw k h2 h.o2 (fun h2 h1=>h.d23 k h1 h2) h1,h.fl.mono (gN.qn ⟨hA.size,fun k hk hn=>⟨fun Bm=>?_,hA.block k hk ?_ ?_⟩⟩)⟩;· exact aRb
 . exact aJw
 . exact aPl
theorem bU4(hq:oH G D):AppsC G D 4 81 7 (fun _=>NwQ G) (CN G D) fun q n=>{ n with eqs:=n.eqs++[q] }:=by
 rintro M m n w w1 ⟨v1,v2,v3,v4,cs,h0⟩ Jx hb hk;have h:=h0.kb hq hk;have hM:=h.lt;have Au:w.heap.size<=w1.heap.size:=wA hk;have Hc:=hq.b0D;have Nf:D<w.heap.size:=(Ym.1 h0.row).1;refine⟨v4,_,_,bU h.row 4 v4 rfl,lF h.row,h.o4,by have:=h.f4;omega,?_⟩;rintro q Hb w' v' ⟨A,c,A',ca,B',cb,rfl,hT,hX⟩ hA ho;have Aq:∀{size:Nat}{v:Value}{n:Nat}{xs:LV},w1.ownsRow M 130 size v n xs->w'.ownsRow M 130 size v n xs:=fun h2=>nK h2 fun k Cb=>hA.block k (h2.lt k Cb).2 aKo (aB3 h2 h.o4 aF Cb)
 have Ha:gN (PN G D v1 v2 v3 v4) w1 (PN G D v1 v2 v3 v') w':=⟨hA.size,fun k hk hn=>⟨fun Bm=>by
  rcases Bm with Bm|Bm|Bm|Bm|Bm;· exact hn (.inl Bm)
  . exact hn (.inr (.inl Bm))
  . exact hn (.inr (.inr (.inl Bm)))
  . exact hn (.inr (.inr (.inr (.inl Bm))))
  . rcases hA.goes with hg|hg;· exact hn (.inr (.inr (.inr (.inr (hg ▸ Bm)))))
    . have:=hg k Bm
      omega,hA.block k hk (fun e=>hn (.inl ⟨by omega,by omega⟩)) (fun e=>hn (.inr (.inr (.inr (.inr e)))))⟩⟩
 have Fs:∀p u,(gZ w.heap.size (dS G.A) w1).cell? p=some u->(bp (PN G D v1 v2 v3 v') w').cell? p=some u:=fun p u hp=>by
  obtain⟨k1,k2⟩:=zX hp;have Ah:=Yi _ _ k1
  have Aa:∀{e:TypeId}{size:Nat}{v:Value}{n:Nat}{xs:LV},w.ownsRow M e size v n xs->v.ownBlock≠some p.block:=fun h2 he=>by
   have h3:=(h2.lt _ he).2;have h4:=gP h2 _ he;exact k2 ⟨h3,by omega⟩
  have Bs:v4.ownBlock≠some p.block:=Aa h0.o4;have Ct:¬PN G D v1 v2 v3 v' p.block:=by
   rintro (Bm|Bm|Bm|Bm|Bm);· exact k2 ⟨by omega,Bm.2⟩
   . exact Aa h0.o1 Bm
   . exact Aa h0.o2 Bm
   . exact Aa h0.o3 Bm
   . rcases hA.goes with hg|hg;· exact Bs (hg ▸ Bm)
     . have:=hg _ Bm
       omega
  rw[aCg Ct];have e:=hA.block p.block Ah (fun e=>Ct (.inl ⟨by omega,by omega⟩)) Bs;unfold World.cell? at k1⊢;rw[e];exact k1
 have Ae:(gZ w.heap.size (dS G.A) w1).heap.size<=(bp (PN G D v1 v2 v3 v') w').heap.size:=by rw[qD,wC];exact hA.size
 refine⟨v1,v2,v3,v',cs++(.slice A q.ns.length c::dB q.x A' ca B' cb),h.lt,hA.row _ _ h.row,Aq h.o1,Aq h.o2,Aq h.o3,by simpa using ho,aQ3,aQ0,aQ1,(by have:=h.f4;simp;omega),h.d12,h.d13,h.d23,?_⟩;exact(h.fl.mono Ha.qn).snoc ⟨A,c,A',ca,B',cb,rfl,hT.up Ae Fs,oP Ae Fs q.x A' B' hX⟩
end
end
end
section
open Go.RowKit Go.Sort
section
variable {τ:Type}{G:GQ}{D:Nat}{es:List En}{C:Nat->Nat->τ->World->Prop}{w w' w1 w2 w7:World}{r r':List Tk}
theorem cDv(a:Addr):Calls Tryz.prog 96 #[aH G.b,.pointer (some a)] w fun e w'=>(∃T0 T1,eG w [(#[aH G.b],T0),(#[.pointer (some a)],T1)] w')/\e=.returned (bN 155 #[aH w.heap.size,aH (w.heap.size+1)]):=by
 exact aFx
theorem cDf(ok:G.Ok)(tg:TkG G.all)(hp:Pf G D w)(hC:OkC G C)(j:Nat)(up:Qn->τ->τ)(hw:AppsC G D j 81 7 (fun _=>NwQ G) C up):Calls Tryz.prog 96 #[aH G.b,.pointer (some ⟨D,j,none⟩)] w fun e w'=>∃K fa fc,e=.returned (.func K fa fc)/\Below w.heap.size w w'/\iG G D C w' (.func K fa fc) (zD up):=by
 refine(cDv _).mono ?_;rintro e w' ⟨⟨T0,T1,hn⟩,rfl⟩;refine⟨_,_,_,rfl,hn.below,fun w2 h2=>?_⟩;have Aa:=(hp.below hn.below.size).below h2.size;exact bY1 ok tg (rK hC w2) D j w2.heap.size Aa.far up _ (aIx hw Aa) _ _ (hn.hs hp h2 0 _ T0 rfl) (hn.hs hp h2 1 _ T1 rfl) aQz
def PT(F:Nat->Prop)(b:Nat)(ve vn:Value)(k:Nat):Prop:=F k\/k=b\/ve.ownBlock=some k\/vn.ownBlock=some k
def zE(w:World)(e:En)(cs:LV):Prop:=∃A c,cs=[.string e.1,.slice A e.2.length c]/\aS w A e.2.length e.2
def NdC(w:World)(n:Nd)(cs:LV):Prop:=∃A1 c1 A2 c2 A3 c3 A4 c4,cs=ndL n A1 c1 A2 c2 A3 c3 A4 c4/\gA w n A1 A2 A3 A4
section
variable {P P':Nat->Prop}
theorem gN.rdS{α:Type}[Inhabited α]{k:Nat}{At At':World->Nat->Nat->α->Prop}(h:gN P w P' w')(hm:∀b o x,At (bp P w) b o x->At (bp P' w') b o x){A:OA}{n:Nat}{l:List α}(hr:aY k At (bp P w) A n l):aY k At (bp P' w') A n l:=
 ⟨hr.1,hr.2.1,fun hn=>by
  obtain⟨b,off,e,hb,hc⟩:=hr.2.2 hn;exact⟨b,off,e,Yt hb h.ups,fun i hi=>hm _ _ _ (hc i hi)⟩⟩
theorem gN.rdN{n:Nd}{A1 A2 A3 A4:OA}(h:gN P w P' w')(hr:gA (bp P w) n A1 A2 A3 A4):Go.Proofs.YtagkcjpoipcpkaaGreatDoor.gA (bp P' w') n A1 A2 A3 A4:=by
 obtain⟨h1,h2,h3,h4⟩:=hr;have hd:∀b o x,oC (bp P w) b o x->oC (bp P' w') b o x:=fun b o x hx=>aHi h.up hx;refine⟨h.rdS (At':=oC) hd h1,h.rdS (At':=oC) hd h2,h.rdS (At':=oC) hd h3,h.rdS (At':=vI) (fun b o q hq=>?_) h4⟩;obtain⟨A,c,A',ca,B',cb,g1,g2,g3,g4⟩:=hq;exact⟨A,c,A',ca,B',cb,h.up _ _ g1,g2.up h.ups h.up,aHi h.up g3,oP h.ups h.up q.x A' B' g4⟩
theorem gN.nd(h:gN P w P' w')(n:Nd)(c:LV)(hn:NdC (bp P w) n c):NdC (bp P' w') n c:=by
 obtain⟨A1,c1,A2,c2,A3,c3,A4,c4,h1,h2⟩:=hn;exact⟨A1,c1,A2,c2,A3,c3,A4,c4,h1,h.rdN h2⟩
theorem gN.en(h:gN P w P' w')(e:En)(c:LV)(hn:zE (bp P w) e c):zE (bp P' w') e c:=by
 obtain⟨A,c0,h1,h2⟩:=hn;exact⟨A,c0,h1,h2.up h.ups h.up⟩
end
theorem aJd:∀l:List Dc,nF (fun d c=>c=dcL d) l (eY l)
 |[]=>rfl
 |d::l=>⟨dcL d,eY l,by simp[eY],rfl,aJd l⟩
theorem aOb{F:Nat->Prop}{ve vn v':Value}{b:Nat}(hA:sZ w7 b 3 vn w' v'){k:Nat}(hk:k<w7.heap.size)(hf:¬F k)(hb:k≠b)(he:ve.ownBlock≠some k)(hn:vn.ownBlock≠some k):¬PT F b ve v' k/\w'.heap[k]?=w7.heap[k]?:=by
 refine⟨?_,hA.block k hk hb hn⟩;rintro (h|h|h|h);· exact hf h
 . exact hb h
 . exact he h
 . rcases hA.goes with hg|hg;· exact hn (hg ▸ h)
   . have:=hg k h
     omega
theorem cDg{F:Nat->Prop}{M m:Nat}{n:Nd}{v1 v2 v3 v4:Value}{cs:LV}{ve vn v':Value}(hq:oH G D)(h:CNv G D M m n v1 v2 v3 v4 cs w7)(hA:sZ w7 G.b 3 vn w' v')(he:∀k,ve.ownBlock=some k->k<D/\k≠dS G.A)(hn:∀k,vn.ownBlock=some k->k<D/\k≠dS G.A)(hF:∀k,F k->k<=D/\k≠dS G.A):NdC (bp (PT F G.b ve v') w') n [.string n.nm,v1,v2,v3,v4]:=by
 have Hc:=hq.bD;have hM:=h.lt
 have Ae:∀{e:TypeId}{size:Nat}{v:Value}{n:Nat}{xs:LV},w7.ownsRow M e size v n xs->∀g,v.ownBlock=some g->∀o,(bp (PT F G.b ve v') w').cell? ⟨g,o,none⟩=w7.cell? ⟨g,o,none⟩:=fun ho g hg o=>by
  have h1:=gP ho g hg;have h2:=(ho.lt g hg).2;obtain⟨h3,h4⟩:=aOb (F:=F) (ve:=ve) hA h2 (fun e=>by have:=(hF g e).1;omega) aA (fun e=>by have:=(he g e).1;omega) (fun e=>by have:=(hn g e).1;omega);rw[aCg h3];exact Yn (a:=⟨g,o,none⟩) h4
 have Hb:gN (PN G D v1 v2 v3 v4) w7 (PT F G.b ve v') w':=⟨hA.size,fun k hk Ha=>by
  have Aa:D<k\/k=dS G.A:=by
   by_cases Fs:k=dS G.A;· exact .inr Fs
   . refine .inl ?_;by_cases Cz:k<=D;· exact absurd (.inl ⟨Cz,Fs⟩) Ha
     . omega
  refine aOb hA hk (fun e=>?_) ?_ (fun e=>?_) (fun e=>?_)
  . obtain⟨h1,h2⟩:=hF k e;rcases Aa with h3|h3;· omega
    . exact h2 h3
  . rcases Aa with h1|h1;· omega
    . rw[h1];exact hq.b0
  . obtain⟨h1,h2⟩:=he k e;rcases Aa with h3|h3;· omega
    . exact h2 h3
  . obtain⟨h1,h2⟩:=hn k e;rcases Aa with h3|h3;· omega
    . exact h2 h3⟩
 obtain⟨A1,c1,rfl⟩:=nG h.o1;obtain⟨A2,c2,rfl⟩:=nG h.o2;obtain⟨A3,c3,rfl⟩:=nG h.o3;obtain⟨A4,c4,rfl⟩:=nG h.o4;have Au:w7.heap.size<=(bp (PT F G.b ve v') w').heap.size:=by rw[wC];exact hA.size
 have hd:∀b o (d:Dc)(c:LV),c=dcL d->(∀j v,c[j]?=some v->(bp (PT F G.b ve v') w').cell? ⟨b,o+j,none⟩=some v)->oC (bp (PT F G.b ve v') w') b o d:=fun b o d c hc Aq j v hv=>Aq j v (by rw[hc];exact hv);have Bs:∀(d:Dc)(c:LV),c=dcL d->c.length=6:=fun d c hc=>by rw[hc];rfl
 have f1:=h.f1;have f2:=h.f2;have f3:=h.f3;have f4:=h.f4;refine⟨A1,c1,A2,c2,A3,c3,A4,c4,rfl,?_,?_,?_,?_⟩;· exact aFr (At:=oC) Bs aF h.o1 (aJd _) rfl aA Au (Ae h.o1) hd
 . exact aFr (At:=oC) Bs aF h.o2 (aJd _) rfl aA Au (Ae h.o2) hd
 . exact aFr (At:=oC) Bs aF h.o3 (aJd _) rfl aA Au (Ae h.o3) hd
 . refine aFr (At:=vI) (Ct:=QnC (bp (PT F G.b ve v') w')) (fun q c hc=>?_) aF h.o4 (h.fl.mono Hb.qn) rfl aA Au (Ae h.o4) (fun b o q c hc Aq=>?_)
   . obtain⟨A,c0,A',ca,B',cb,rfl,-⟩:=hc;rfl
   . obtain⟨A,c0,A',ca,B',cb,rfl,h1,h2⟩:=hc;exact⟨A,c0,A',ca,B',cb,Aq 0 _ rfl,h1,fun j v hv=>by have:=Aq (j+1) v (by simpa using hv);rwa[show o+(j+1)=o+1+j by omega]at this,h2⟩
theorem cDw(h:G.St w r)(hl:r.length<=100000){wa w5:World}{T:TypeId}{cs:AV}(hb:Below w.heap.size w wa)(Cs:Below wa.heap.size wa w5)(hp:Pf G w.heap.size wa)(hr:wa.heap[w.heap.size]?=some (.cells #[.string ⟨#[]⟩,.slice none 0 0,.slice none 0 0,.slice none 0 0,.slice none 0 0] 69)):
 CN G w.heap.size (w5.heap.size+1) r.length nd0 (w5.alloc (.cells cs T)):=by
 have Aa:=Cs.size;have Ah:=hp.lt;have e:(w5.alloc (.cells cs T)).heap[w.heap.size]?=w5.heap[w.heap.size]?:=((Yg _ _).alloc (Yh _) _:Below w5.heap.size w5 _).block _ aA;have hz:0+r.length<=100000:=aA;exact⟨.slice none 0 0,.slice none 0 0,.slice none 0 0,.slice none 0 0,[],by omega,e.trans ((Cs.block _ Ah).trans hr),⟨rfl,.inl ⟨rfl,rfl⟩⟩,⟨rfl,.inl ⟨rfl,rfl⟩⟩,⟨rfl,.inl ⟨rfl,rfl⟩⟩,⟨rfl,.inl ⟨rfl,rfl⟩⟩,hz,hz,hz,hz,(fun k h=>by cases h),(fun k h=>by cases h),(fun k h=>by cases h),rfl⟩
end
end
section
open Go.RowKit Go.Sort
theorem cBx:(Tryz.prog.info? 69).map (fun i=>(i.size,i.bytes,i.zero.map fun z=>z.cells.size))=some (5,112,some 5):=aE
section
variable {G:GQ}{es:List En}{w w':World}{r:List Tk}
def bFm(F:Nat->Prop)(G:GQ)(es:List En)(M n:Nat)(xs:LV)(w:World)(r:List Tk)(e:Ending)(w':World):Prop:=
 ∃u nd r1 v' cs w7,e=.returned u/\r1.length<=r.length/\(((aR lW r).q.bind fun _ r=>mV es r)=.ok nd r1/\u=.nilIface\/∃q z,((aR lW r).q.bind fun _ r=>mV es r)=.bad q z/\u=iX q z)/\At G w r1 w7/\
  sZ w7 G.b 3 G.vn w' v'/\w'.ownsRow M 69 5 v' (n+1) (xs++cs)/\NdC (bp (PT F G.b G.ve v') w') nd cs
theorem cBy(F:Nat->Prop)(ok:G.Ok)(tg:TkG G.all)(ge:GE G es)(h:G.St w r)(M n:Nat)(xs:LV)(Ao:w.ownsRow M 69 5 G.vn n xs)(hn:n<=100000)(hM:G.b<M)(Pp:M<=w.heap.size)(hA:dS G.A<M)(he:∀k,G.ve.ownBlock=some k->k<w.heap.size/\k≠dS G.A)(hF:∀k,F k->k<=w.heap.size/\k≠dS G.A):
 Calls Tryz.prog 44 #[aH G.b] w (bFm F G es M n xs w r):=by
 obtain⟨i0,z0,Qt,Co,Cm,Cr,Qf⟩:=zM cBx;have Aa:=bBr ok h;have Py:=Hd Aa;have HS:=Hd h;have Gy:=Hd (bYw (es:=es) (h.tkg tg));have Qj:=Hd (show r.length<=100000 from by have:=(h.tkg tg).2.2;omega);have Ob:=Hd fun w1 (hp:Pf G w.heap.size w1)=>qH ok hp (nB Aa) ⟨#[110,111,100,101]⟩;have Ni:=Hd fun w1 (hp:Pf G w.heap.size w1)=>qH ok hp (nB Aa) ⟨#[40]⟩;have Ng:=Hd fun w1 (hp:Pf G w.heap.size w1)=>qH ok hp (nB Aa) ⟨#[41]⟩;have Od:=Hd fun w1 (hp:Pf G w.heap.size w1)=>qH ok hp (nB Aa) ⟨#[114,101,116,117,114,110,115]⟩;have Nm:=Hd fun w1 (hp:Pf G w.heap.size w1)=>qH ok hp (nB Aa) ⟨#[108,101,116]⟩;have Oe:=Hd fun w1 (hp:Pf G w.heap.size w1)=>qH ok hp (nB Aa) ⟨#[116,101,108]⟩;have Np:=Hd fun w1 (hp:Pf G w.heap.size w1)=>aOy ok hp (nB Aa) 0 _ (bY2 Aa);have Nu:=Hd fun w1 (hp:Pf G w.heap.size w1)=>aYa ok tg ge hp (nB Aa) 1 upI (bU1 Aa);have Nw:=Hd fun w1 (hp:Pf G w.heap.size w1)=>aYa ok tg ge hp (nB Aa) 2 upO (bU2 Aa);have Nz:=Hd fun w1 (hp:Pf G w.heap.size w1)=>bYt ok tg ge hp (nB Aa) 3 upV (bU3 Aa);have No:=Hd fun w1 (hp:Pf G w.heap.size w1)=>cDf ok tg hp (nB Aa) 4 upE (bU4 Aa);have Nn:=Hd fun w1 K fa fc (hp:Pf G w.heap.size w1)(hf:iG G w.heap.size (CN G w.heap.size) w1 (.func K fa fc) (aFs es upI))=>bQd ok hp (nB Aa) ⟨#[41]⟩ K fa fc _ hf;have Nl:=Hd fun w1 K fa fc (hp:Pf G w.heap.size w1)(hf:iG G w.heap.size (CN G w.heap.size) w1 (.func K fa fc) (zD upE))=>bUl ok tg hp (nB Aa) ⟨#[116,101,108]⟩ K fa fc _ hf (bYv upE);have Ah:=h.lt;have Au:=h.size;have Qp:=Hd ge.lock;have Hj:=Hd Ao;have HM:=Hd hM;have Qd:=Hd Pp;have HN:=Hd hn;have Of:=Hd (fun k hk=>(⟨(Ao.lt k hk).2,by have:=gP Ao k hk;omega⟩:k<w.heap.size/\k≠dS G.A));have Qe:=Hd he;have Qg:=Hd hF;clear h ok tg ge Aa Ao hA he hn hM Pp hF;go_in
 go_upto_region 2 with(fail);generalize Nk:w.alloc _=wa;have Ew:=Hd (show Below w.heap.size w wa by rw[<-Nk];exact(Yg _ _).alloc (Yh _) _);have Qc:=Hd (show wa.heap[w.heap.size]?=some (.cells #[.string ⟨#[]⟩,.slice none 0 0,.slice none 0 0,.slice none 0 0,.slice none 0 0] 69)by rw[<-Nk];exact Xa _ _);have Ae:=Hd (show Pf G w.heap.size wa from⟨by omega,Au,by rw[<-Nk];simp,by rw[<-Nk];simp;omega,by rw[<-Nk];simp;omega⟩);clear Nk;go_wp2_with fail;refine(Ob.o wa Ae.o).mono ?_;rintro e w1 ⟨K1,f1,c1,rfl,hb,hp⟩;have Ac:=Hd hb;have Qb:=Hd hp;have Bn:=Hd (Ac.o.size);clear hb hp;go_wp2_with fail;refine(Np.o w1 (Ae.o.below Bn.o)).mono ?_;rintro e w2 ⟨K2,f2,c2,rfl,hb,hp⟩;have Ai:=Hd hb;have Pq:=Hd hp;have Da:=Hd (Yr Bn.o Ai.o.size);clear hb hp;go_wp2_with fail;refine(Ni.o w2 (Ae.o.below Da.o)).mono ?_;rintro e w3 ⟨K3,f3,c3,rfl,hb,hp⟩;have Aj:=Hd hb;have Pr:=Hd hp;have Ph:=Hd (Yr Da.o Aj.o.size);clear hb hp;go_wp2_with fail;refine(Nu.o w3 (Ae.o.below Ph.o)).mono ?_;rintro e w4 ⟨K4,f4,c4,rfl,hb,hp⟩;have Bd:=Hd hb;have Pu:=Hd hp;have On:=Hd (Yr Ph.o Bd.o.size);clear hb hp;go_wp2_with fail;refine(Nn.o w4 K4 f4 c4 (Ae.o.below On.o) Pu.o).mono ?_;rintro e w5 ⟨K5,f5,c5,rfl,hb,hp⟩;have Bl:=Hd hb;have Qa:=Hd hp;have Dz:=Hd (Yr On.o Bl.o.size);clear hb hp;go_wp2_with fail;refine(Ng.o w5 (Ae.o.below Dz.o)).mono ?_;rintro e w6 ⟨K6,f6,c6,rfl,hb,hp⟩;have Db:=Hd hb;have Pv:=Hd hp;have Ie:=Hd (Yr Dz.o Db.o.size);clear hb hp;go_wp2_with fail;refine(Od.o w6 (Ae.o.below Ie.o)).mono ?_;rintro e w7 ⟨K7,f7,c7,rfl,hb,hp⟩;have Gi:=Hd hb;have Po:=Hd hp;have Pa:=Hd (Yr Ie.o Gi.o.size);clear hb hp;go_wp2_with fail;refine(Ni.o w7 (Ae.o.below Pa.o)).mono ?_;rintro e w8 ⟨K8,f8,c8,rfl,hb,hp⟩;have Nx:=Hd hb;have Pn:=Hd hp;have Oi:=Hd (Yr Pa.o Nx.o.size);clear hb hp;go_wp2_with fail;refine(Nw.o w8 (Ae.o.below Oi.o)).mono ?_;rintro e w9 ⟨K9,f9,c9,rfl,hb,hp⟩;have Im:=Hd hb;have Pm:=Hd hp;have Oz:=Hd (Yr Oi.o Im.o.size);clear hb hp;go_wp2_with fail;refine(Ng.o w9 (Ae.o.below Oz.o)).mono ?_;rintro e Qs ⟨Oy,Pe,Ln,rfl,hb,hp⟩;have Fs:=Hd hb;have Oa:=Hd hp;have Jx:=Hd (Yr Oz.o Fs.o.size);clear hb hp;go_wp2_with fail;refine(Nz.o Qs (Ae.o.below Jx.o)).mono ?_;rintro e Qo ⟨Ou,Om,Pi,rfl,hb,hp⟩;have Ha:=Hd hb;have Nv:=Hd hp;have Hc:=Hd (Yr Jx.o Ha.o.size);clear hb hp;go_wp2_with fail;refine(Nm.o Qo (Ae.o.below Hc.o)).mono ?_;rintro e Qx ⟨Ov,Ol,Ot,rfl,hb,hp⟩;have Bs:=Hd hb;have Oc:=Hd hp;have Nh:=Hd (Yr Hc.o Bs.o.size);clear hb hp;go_wp2_with fail;refine(No.o Qx (Ae.o.below Nh.o)).mono ?_;rintro e Qq ⟨Qh,Qy,Qv,rfl,hb,hp⟩;have Aq:=Hd hb;have Nr:=Hd hp;have Nj:=Hd (Yr Nh.o Aq.o.size);clear hb hp;go_wp2_with fail;refine(Nl.o Qq Qh Qy Qv (Ae.o.below Nj.o) Nr.o).mono ?_;rintro e Qr ⟨Oj,Ow,Oh,rfl,hb,hp⟩;have Ct:=Hd hb;have Ny:=Hd hp;have Nt:=Hd (Yr Nj.o Ct.o.size);clear hb hp;go_wp2_with fail;refine(Oe.o Qr (Ae.o.below Nt.o)).mono ?_;rintro e Oq ⟨Pd,Oo,Pj,rfl,hb,hp⟩;have Hb:=Hd hb;have Ns:=Hd hp;clear hb hp;have Cx:=Hd (show Below wa.heap.size wa Oq from Ac.o.trans ((Ai.o.trans ((Aj.o.trans ((Bd.o.trans ((Bl.o.trans ((Db.o.trans ((Gi.o.trans ((Nx.o.trans ((Im.o.trans ((Fs.o.trans ((Ha.o.trans ((Bs.o.trans ((Aq.o.trans ((Ct.o.trans ((Hb.o).mono Ct.o.size)).mono Aq.o.size)).mono Bs.o.size)).mono Ha.o.size)).mono Fs.o.size)).mono Im.o.size)).mono Nx.o.size)).mono Gi.o.size)).mono Db.o.size)).mono Bl.o.size)).mono Bd.o.size)).mono Aj.o.size)).mono Ai.o.size)).mono Ac.o.size))
 have Px:=Hd (show pB G w.heap.size (CN G w.heap.size) Oq [.func K1 f1 c1,.func K2 f2 c2,.func K3 f3 c3,.func K5 f5 c5,.func K6 f6 c6,.func K7 f7 c7,.func K8 f8 c8,.func K9 f9 c9,.func Oy Pe Ln,.func Ou Om Pi,.func Ov Ol Ot,.func Oj Ow Oh,.func Pd Oo Pj] (aKk es)from(((((((((((((pB.nil (w:=w1)).snoc (Yg _ _) Qb.o).snoc (Ai.o) Pq.o).snoc (Aj.o) Pr.o).snoc (Bd.o.trans ((Bl.o).mono Bd.o.size)) Qa.o).snoc (Db.o) Pv.o).snoc (Gi.o) Po.o).snoc (Nx.o) Pn.o).snoc (Im.o) Pm.o).snoc (Fs.o) Oa.o).snoc (Ha.o) Nv.o).snoc (Bs.o) Oc.o).snoc (Aq.o.trans ((Ct.o).mono Aq.o.size)) Ny.o).snoc (Hb.o) Ns.o);clear Ac Qb Bn Ai Pq Da Aj Pr Ph Bd Pu On Bl Qa Dz Db Pv Ie Gi Po Pa Nx Pn Oi Im Pm Oz Fs Oa Jx Ha Nv Hc Bs Oc Nh Aq Nr Nj Ct Ny Nt Hb Ns Nu Nw No Np Ni Ng Nm Ob Od Oe Nn Nl Nz;go_wp2_with fail;refine(aIf (nB Py.o) (Ae.o.below Cx.o.size) [.func K1 f1 c1,.func K2 f2 c2,.func K3 f3 c3,.func K5 f5 c5,.func K6 f6 c6,.func K7 f7 c7,.func K8 f8 c8,.func K9 f9 c9,.func Oy Pe Ln,.func Ou Om Pi,.func Ov Ol Ot,.func Oj Ow Oh,.func Pd Oo Pj] (aKk es) 108 13 aC Px.o (HS.o.below (Ew.o.tr Cx.o)) (t:=nd0) (m:=r.length) (Yh _) (cDw HS.o Qj.o Ew.o Cx.o Ae.o Qc.o)).mono ?_;rintro e w7 ⟨u,r1,nd,m7,rfl,h7,Pz,Og,⟨v1,v2,v3,v4,cs,Ev⟩,Pw⟩;have Db:=Hd (show Below w.heap.size w (Oq.alloc (.cells ([.func K1 f1 c1,.func K2 f2 c2,.func K3 f3 c3,.func K5 f5 c5,.func K6 f6 c6,.func K7 f7 c7,.func K8 f8 c8,.func K9 f9 c9,.func Oy Pe Ln,.func Ou Om Pi,.func Ov Ol Ot,.func Oj Ow Oh,.func Pd Oo Pj]:LV).toArray 108))from(Ew.o.tr Cx.o).alloc (Yr Ew.o.size Cx.o.size) _);have Ar:=aKi Db.o (Yh _) Og h7;have Gl:=Hd (nK Hj.o fun k hk=>(Og.block k (Yt (Of.o k hk).1 Db.o.size) bF7 (Nat.ne_of_lt (Of.o k hk).1)).trans (Db.o.block k (Of.o k hk).1));have c3:=Ar.1.cellN Qp.o;have x0:=Ar.1.fz 3;obtain⟨A1,c1,rfl⟩:=nG Ev.o1;obtain⟨A2,c2,rfl⟩:=nG Ev.o2;obtain⟨A3,Pk,rfl⟩:=nG Ev.o3;obtain⟨A4,c4,rfl⟩:=nG Ev.o4;have Ad:=Ev.row;have Qk:=Hd Ev;have Qi:=Hd Ar;have Qu:=Hd Pz;have Ql:=Hd Pw;have Pb:=Hd (show G.vn.ownBlock≠some G.b from fun e=>by have:=gP Hj.o _ e;have:=HM.o;omega);have Nq:G.b<w7.heap.size:=Yi _ _ c3;have Ra:=HN.o;have Qz:M<=w7.heap.size:=Yr Qd.o (Yr Db.o.size Og.size);have b0:=bU Ad 0 (.string nd.nm) rfl;have b1:=bU Ad 1 (.slice A1 nd.ins.length c1) rfl;have b2:=bU Ad 2 (.slice A2 nd.outs.length c2) rfl;have b3:=bU Ad 3 (.slice A3 nd.vars.length Pk) rfl;have b4:=bU Ad 4 (.slice A4 nd.eqs.length c4) rfl;have aD:(w7.alloc (Obj.cells #[.string nd.nm,.slice A1 nd.ins.length c1,.slice A2 nd.outs.length c2,.slice A3 nd.vars.length Pk,.slice A4 nd.eqs.length c4] 69)).cell? ⟨G.b,3,none⟩=some G.vn:=(Yj _ _ _ Nq).trans c3;clear h7 Pz Og Ev Pw Ar Ad Db Px Cx Qc Ae Ew;go_upto_region 3 with(fail);go_region_law
  ((refine step_append_lies _ bC _ _ _ bC M 69 i0 z0 5 112 Tryz.underlying24 Qt Co Cm Cr Qf aF G.vn n xs bC (Gl.o.alloc _) ⟨w7.heap.size,0,none⟩ 1 1 [.string nd.nm,.slice A1 nd.ins.length c1,.slice A2 nd.outs.length c2,.slice A3 nd.vars.length Pk,.slice A4 nd.eqs.length c4] bC rfl (fun j u hu=>World.news_of_block (Xa _ _) j u hu) (fun u hu=>by simp at hu;rcases hu with rfl | rfl | rfl | rfl | rfl <;> rfl) aA fZ aA cP _ rfl ?_
    intro g1 Ox w8 Bh As Cw Dt;have yD:=xP mF As Pb.o c3;have yF:=aFq mF As Pb.o c3 x0;have HAL:=Hd (cE5 (j:=3) (cap:=Ox) (n:=n+1) mF As Pb.o Nq Cw);have Qm:=Hd Bh;have Qw:=Hd (show g1≠G.b from by
     rcases Cw with e|e
     . have:=gP Hj.o _ e;have:=HM.o;omega
     . simp at e;omega)
    clear Bh As Cw Dt))
 go_wp2_with fail
 all_goals
  go_ret;have ho:=Ql.o;rw[Gy.o]at ho;exact⟨u,nd,r1,_,_,w7,rfl,Qu.o,ho,Qi.o,HAL.o,aX8 Qm.o rfl Qw.o,cDg Py.o Qk.o HAL.o Qe.o Of.o Qg.o⟩
end
end
end Go.Proofs.YtagkcjpoipcpkaaGreatDoor
