/- A part of the proof. Conditions: each theorem's own. -/
import Derived.Test.YtagkcjpoipcpkaaGreatDoorF34
import Derived.Test.YtagkcjpoipcpkaaGreatDoorF35
namespace Go.Proofs.YtagkcjpoipcpkaaGreatDoor
set_option linter.unusedVariables false
set_option linter.unusedSimpArgs false
set_option maxRecDepth 100000
set_option maxHeartbeats 40000000
section
open Go.RowKit Go.Sort
theorem bZf{l:LU}{t:Tk}{z:Nat}(h:gV l=some (t,z)):t.k=2->bQ t.s=false:=by
 cases l with
 |nil=>cases h
 |cons c l=>
  rw[rP]at h;split at h
  . unfold iP at h;split at h;· exact aJv
    . rename_i hn;split at h
      . injection h with h;injection h with h _;subst h;intro _;simp only[Bool.or_eq_true,not_or,Bool.not_eq_true]at hn;exact hn.2
      . cases h
  split at h
  . unfold kD at h;split at h;· cases h
    . exact aJv
  split at h
  . unfold nU at h;split at h;· exact aJv
    . cases h
  . unfold pM at h;cases hm:sE (c::l)with
    |none=>rw[hm]at h;cases h
    |some m=>
     rw[hm]at h;exact aJv
theorem bZg(a:Nat)(l:LU):∀t∈(cK a l).1,t.k=2->bQ t.s=false:=by
 refine aE8 (P:=fun a l=>∀t∈(cK a l).1,t.k=2->bQ t.s=false) ?_ ?_ ?_ ?_ l.length a l (Yh _)
 . intro a;rw[aB6];exact fun t ht=>absurd ht Yl
 . intro a l h0 hb ih;rw[zO hb];exact ih
 . intro a l h0 hb ht;rw[aIm h0 hb ht];exact fun t ht=>absurd ht Yl
 . intro a l t z h0 hb ht ih;rw[aB7 hb ht];intro u hu;rcases Yw.1 hu with rfl|hu;· exact bZf (t:=t) ht
   . exact ih u hu
theorem bZh{s:BA}(hs:s.size<=6000):TkG (sJ s)/\∀t∈sJ s,t.k=2->bQ t.s=false:=by
 have hl:=aV3 s;obtain⟨h1,h2⟩:=bTk 6000 0 s.data.toList aA;have h3:=bZg 0 s.data.toList;have h4:=bP3 (s:=s);refine⟨⟨⟨fun t ht=>?_,⟨_,_,rfl,rfl⟩⟩,fun t ht=>?_,by omega⟩,fun t ht=>?_⟩
 . rcases Zr.1 ht with ht|ht
   . have:=(h1 t ht).2.1
     omega
   . rw[Yp.1 ht];exact Ys _
 . rcases Zr.1 ht with ht|ht;· exact(h1 t ht).1
   . rw[Yp.1 ht];exact⟨fun e=>by simp at e,fun e=>by simp at e⟩
 . rcases Zr.1 ht with ht|ht;· exact h3 t ht
   . rw[Yp.1 ht];intro e;simp at e
theorem bVd(w:World):lM w vA none none:=⟨cQ.nil_ _,aY.nil_ _ _ _⟩
theorem aOd{fn:Func}{p u v:Tmp}(h:fn.results=#[.cell p 26,.tmp u,.tmp v])(tmps:AV)(w:World)(g:Nat)(v0 v1:Value)
 (hp:tmps.getD p undef=.pointer (some ⟨g,0,none⟩))(hg:w.heap[g]?=some (.cells #[v0,v1] 26)):(results fn tmps).run Tryz.prog w=.ok (.tuple #[.agg #[v0,v1],tmps.getD u undef,tmps.getD v undef]) w:=by
 rw[aR6 h,hp];have hl:=run_loadVar_row (P:=Tryz.prog) w g 26 26 _ _ _ hg Tryz.underlying26 rfl aE;simp[asAddr,Result.andThen,hl]
theorem aIy{w:World}{g:Nat}{v0 v1 u0 u1:Value}{T:TypeId}(h:w.heap[g]?=some (.cells #[v0,v1] T)):((w.setCell ⟨g,0,none⟩ u0).setCell ⟨g,1,none⟩ u1).heap[g]?=some (.cells #[u0,u1] T):=uL (uL h)
theorem aM3{w w1:World}{m g:Nat}{u0 u1:Value}(h:Below m w w1)(hg:m<=g):Below m w ((w1.setCell ⟨g,0,none⟩ u0).setCell ⟨g,1,none⟩ u1):=
 ⟨h.os,h.tape,h.output,by simpa using h.size,fun k hk=>(Xb _ _ _ _ (show k≠g by omega)).trans ((Xb _ _ _ _ (show k≠g by omega)).trans (h.block k hk))⟩
theorem aWj{w w':World}{x y:Int}(h:Below w.heap.size w w'):zY w (vA,x,y) (.returned (.tuple #[.agg #[.slice none 0 0,.slice none 0 0],.int .i64 x,.int .i64 y])) w':=⟨none,0,none,0,rfl,bVd _,h⟩
def aDm(w:World):Prop:=iV w/\w.cell? ⟨0,0,none⟩=some aD4
theorem aDm.below{w w':World}(h:aDm w)(hb:Below w.heap.size w w'):aDm w':=⟨h.1.below hb,(hb.cell (Yi _ _ h.2)).trans h.2⟩
theorem bQ4{w:World}{t:Nat}{x y:Int}{o0 o1:Value}(ht:w.heap[t]?=some (.cells #[o0,o1] 46)):
 (xF w t x y).heap[t]?=some (.cells #[.int .i64 x,.int .i64 y] 46)/\w.heap.size<=(xF w t x y).heap.size/\(∀k,k<w.heap.size->k≠t->(xF w t x y).heap[k]?=w.heap[k]?)/\(xF w t x y).os=w.os/\(xF w t x y).tape=w.tape/\(xF w t x y).output=w.output:=by
 have Ah:t<w.heap.size:=(Ym.1 ht).1;unfold xF;refine⟨aIy (v0:=o0) (v1:=o1) ?_,by simp;omega,fun k hk hn=>?_,rfl,rfl,rfl⟩
 . rw[qE cP,qE cP,qE cP,qE Ah];exact ht
 . rw[Xb _ _ _ _ (show k≠t from hn),Xb _ _ _ _ (show k≠t from hn),qE cP,qE cP,qE cP,qE hk]
structure bFq (w w2 w4:World)(A:OA)(n c:Nat)(all:List Tk):Prop where
 b2:Below w.heap.size w w2
 l2:w.heap.size<w2.heap.size
 sz:w4.heap.size=w2.heap.size+2
 b4:Below w2.heap.size w2 w4
 rb:w4.heap[w2.heap.size]?=some (.cells (rq0 A n c) 44)
 rt:w4.heap[w2.heap.size+1]?=some (.cells #[.int .i64 0,.int .i64 0] 46)
 rw:w4.heap[w.heap.size]?=some (.cells #[.slice none 0 0,.slice none 0 0] 26)
 rd:eI (bl w2.heap.size w4) A n all
 na:0<n->dS A≠w.heap.size
theorem aQv{w w2 w4:World}{A:OA}{n c:Nat}{all:List Tk}(b2:Below w.heap.size w w2)(l2:w.heap.size<w2.heap.size)(Aa:w2.heap[w.heap.size]?=some (.cells #[.slice none 0 0,.slice none 0 0] 26))(rd:eI w2 A n all)
 (h4:(w2.alloc (.cells (rq0 A n c) 44)).alloc (.cells #[.int .i64 0,.int .i64 0] 46)=w4):bFq w w2 w4 A n c all:=by
 have hs:w4.heap.size=w2.heap.size+2:=by rw[<-h4];simp
 have b4:Below w2.heap.size w2 w4:=by rw[<-h4];exact((Yg _ _).alloc (Yh _) _).alloc aC _
 refine⟨b2,l2,hs,b4,?_,?_,(b4.block _ l2).trans Aa,?_,fun hn e=>?_⟩
 . rw[<-h4,qE aC];exact Xa _ _
 . rw[<-h4]
   have:=Xa (w2.alloc (.cells (rq0 A n c) 44)) (.cells #[.int .i64 0,.int .i64 0] 46)
   simpa using this
 . refine rd.up (by rw[fC];omega) fun p v hc=>?_;have Ah:p.block<w2.heap.size:=Yi _ _ hc;exact(aIr (show p.block≠w2.heap.size by omega)).trans ((b4.cell Ah).trans hc)
 . obtain⟨b0,off,hA,Ae,hc⟩:=rd.2.2 hn;have h0:=(hc 0 hn).1;have e:b0=w.heap.size:=by rw[hA]at e;exact e
   subst e;unfold World.cell? at h0;rw[Aa]at h0;simp only at h0;rcases hh:off+0*4 with _|_|k;· rw[hh]at h0;simp at h0
   . rw[hh]at h0;simp at h0
   . rw[hh]at h0;simp at h0
theorem cB3(s:BA)(w:World)(hs:s.size<=6000)(hq:(cK 0 s.data.toList).2=none)(hV:aDm w)(ht:∀p q,pQ (sJ s)=.ok p q->qN p):Calls Tryz.prog 7 #[.string s] w (zY w (sK s)):=by
 have ho:sK s=match pQ (sJ s)with
  |.bad r e=>(vA,aA0 r,e)
  |.ok p _=>if eM p=0 then(p,(s.size:Int),0)else(vA,(s.size:Int),eM p):=by
  unfold sK;rw[if_neg aA,hq];rfl
 rw [ho];obtain⟨n,hn⟩:∃ n,n=(cK 0 s.data.toList).1.length+1:=⟨_,rfl⟩;have HL:=Hd fun w1 (hb:Below w.heap.size w w1)=>(cCj s 6000 w1 aA aA (hV.1.below hb)).mono fun e w' hx=>(show ∃ A c,e=.returned (.tuple #[.slice A n c,.int .i64 (s.size:Int),.int .i64 0])/\eI w' A n (sJ s)/\Below w1.heap.size w1 w' from by
  obtain⟨hx,hb⟩:=hx;rcases hx with⟨p,h1,h2⟩|⟨h1,A,c,h2,h3⟩
  . rw[hq]at h1;cases h1
  . exact⟨A,c,by rw[hn];exact h2,by rw[hn];exact h3,hb⟩)
 have Ij:=Hd (bZh hs);have Nw:=Hd hV.2;have Oe:=Hd ht;have Ky:0<w.heap.size:=Yi _ _ hV.2;generalize Au:(s.size:Int)=sz at *;generalize sJ s=all at *;have Nh:=Hd fun w2 w4 A c (hl:bFq w w2 w4 A n c all)=>(bQx (w:=w4) (b:=w2.heap.size) A n c all hl.rb hl.rd Ij.o.1 Ij.o.2).mono fun(e:Ending)(w':World)(hx:yR w4 w2.heap.size A n c all e w')=>(show ∃u,e=Ending.returned u/\yR w4 w2.heap.size A n c all (Ending.returned u) w' from by obtain⟨w6,hb,u,rfl,he⟩:=hx;exact⟨u,rfl,w6,hb,u,rfl,he⟩);unfold yR at Nh;generalize pQ all=o at *;clear ho hV hq hs ht hn Au;cases o with
 |bad q z=>
  show Calls _ _ _ _ (zY w (vA,aA0 q,z));go_in
  go_upto_region 1 with(fail);generalize Af:w.alloc _=w1;have Ac:=Hd (show Below w.heap.size w w1 by rw[<-Af];exact(Yg _ _).alloc (Yh _) _);have Ad:w1.heap[w.heap.size]?=some (.cells #[.slice none 0 0,.slice none 0 0] 26):=aKn;have Jx:w.heap.size<w1.heap.size:=vF;clear Af;go_wp2_with fail;refine(HL.o w1 Ac.o).mono ?_;rintro e w2 ⟨A,c,rfl,Ng,Ag⟩;have Ae:=(Ag.block _ Jx).trans Ad;have Jo:=Hd fun w4 h4=>aQv (w4:=w4) (c:=c) (Ac.o.tr Ag) (Yt Jx Ag.size) Ae Ng h4;clear Ag Ad Ae HL Ng;go_upto_region 6 with(fail);generalize Hc:(w2.alloc _).alloc _=w4;have Cp:=Hd (Jo.o w4 Hc);clear Hc Jo;go_wp2_with fail;refine(Nh.o w2 w4 A c Cp.o).mono ?_;rintro e w5 ⟨u,rfl,w6,Bo,u2,Ha,hE⟩;obtain⟨h1,⟨r',Av,-⟩,-⟩:=hE;injection Ha with Ha;subst Ha;injection h1 with h1;subst h1
  have Fs:∀k,k<w4.heap.size->k≠w2.heap.size->w5.heap[k]?=w4.heap[k]?:=fun k hk hn=>by
   exact aRi
  have No:w4.heap.size<=w5.heap.size:=Yr Bo.size Av.size;have Od:=Cp.o.l2;have Of:=Cp.o.sz;have Kc:w5.cell? ⟨0,0,none⟩=some aD4:=(Yn (a:=⟨0,0,none⟩) ((Fs 0 aA aA).trans ((Cp.o.b4.block 0 aA).trans (Cp.o.b2.block 0 Ky)))).trans Nw.o;have Nk:=(Fs (w2.heap.size+1) aA aA).trans Cp.o.rt;have Bs:=(Fs w.heap.size aA aA).trans Cp.o.rw;have Ct:w5.os=w.os/\w5.tape=w.tape/\w5.output=w.output:=⟨Av.lo.os.trans (Bo.os.trans (Cp.o.b4.os.trans Cp.o.b2.os)),Av.lo.tape.trans (Bo.tape.trans (Cp.o.b4.tape.trans Cp.o.b2.tape)),Av.lo.output.trans (Bo.output.trans (Cp.o.b4.output.trans Cp.o.b2.output))⟩;have Hb:=Hd (show Below w.heap.size w w5 from⟨Ct.1,Ct.2.1,Ct.2.2,by omega,fun k hk=>(Fs k aA aA).trans ((Cp.o.b4.block k aA).trans (Cp.o.b2.block k hk))⟩);have Og:=Hd (cBf (aA0 q) z (w2.heap.size+1) _ _ w5 Kc Nk);have Oc:=Hd (bQ4 (x:=aA0 q) (y:=z) Nk);have Ff:=Hd Bs;have Jl:=Hd (show w.heap.size<w5.heap.size/\w.heap.size≠w2.heap.size+1 from⟨by omega,by omega⟩);have Nt:w.heap.size≠w2.heap.size+1:=aA;have Nr:w2.heap.size+1≠w.heap.size:=aA;clear Av Bo Fs No Kc Nk Bs Ct Nh Oe Ij Nw;unfold iX;generalize aA0 q=hx at *;go_wp2_with fail;refine Og.o.mono ?_;rintro e w8 ⟨rfl,Nl⟩;obtain⟨g1,g2,g3,g4,g5,g6⟩:=Oc.o;rw[<-Nl]at g1 g2 g3 g4 g5 g6;have Aq:=(g3 w.heap.size Jl.o.1 Jl.o.2).trans Ff.o;have Oh:=Hd (show Below w.heap.size w w8 from⟨g4.trans Hb.o.os,g5.trans Hb.o.tape,g6.trans Hb.o.output,Yr Hb.o.size g2,fun k hk=>(g3 k (Yt hk Hb.o.size) aA).trans (Hb.o.block k hk)⟩);have Bg:=Hd Aq;have t0:=bU g1 0 (.int .i64 hx) rfl;have t1:=bU g1 1 (.int .i64 z) rfl;have c0:=bU Aq 0 (.slice none 0 0) rfl;have c1:=bU Aq 1 (.slice none 0 0) rfl;have f0:=lF (j:=0) Aq;have f1:=lF (j:=1) Aq;clear Nl g1 g2 g3 g4 g5 g6 Aq Oc Og Ff Hb Cp;go_upto_region 7 with(fail);go_region;go_wp2_with fail;all_goals exact Zy (aOd (p:=2) (u:=3) (v:=4) rfl _ _ w.heap.size _ _ rfl (aIy Bg.o)) rfl (aWj (eP (aM3 Oh.o (Yh _)) 1))
 |ok p q=>
  have Nu:=Hd (Oe.o p q rfl);show Calls _ _ _ _ (zY w (if eM p=0 then(p,sz,0)else(vA,sz,eM p)));by_cases hc:eM p=0
  . rw[if_pos hc];have Oi:(eM p !=0)=false:=by rw[hc];rfl
    clear hc;go_in
    go_upto_region 1 with(fail);generalize Af:w.alloc _=w1;have Ac:=Hd (show Below w.heap.size w w1 by rw[<-Af];exact(Yg _ _).alloc (Yh _) _);have Ad:w1.heap[w.heap.size]?=some (.cells #[.slice none 0 0,.slice none 0 0] 26):=aKn;have Jx:w.heap.size<w1.heap.size:=vF;clear Af;go_wp2_with fail;refine(HL.o w1 Ac.o).mono ?_;rintro e w2 ⟨A,c,rfl,Ng,Ag⟩;have Ae:=(Ag.block _ Jx).trans Ad;have Jo:=Hd fun w4 h4=>aQv (w4:=w4) (c:=c) (Ac.o.tr Ag) (Yt Jx Ag.size) Ae Ng h4;clear Ag Ad Ae HL Ng;go_upto_region 6 with(fail);generalize Hc:(w2.alloc _).alloc _=w4;have Cp:=Hd (Jo.o w4 Hc);clear Hc Jo;go_wp2_with fail;refine(Nh.o w2 w4 A c Cp.o).mono ?_;rintro e w5 ⟨u,rfl,w6,Bo,u2,Ha,hE⟩;obtain⟨h1,Av,-,m,ve,vn,cE,cN,hv,-⟩:=hE;injection Ha with Ha;subst Ha;injection h1 with h1;subst h1;obtain⟨E,ec,rfl⟩:=nG hv.oE;obtain⟨N,nc,rfl⟩:=nG hv.oN
    have Fs:∀k,k<w4.heap.size->k≠w2.heap.size->w5.heap[k]?=w4.heap[k]?:=fun k hk hn=>by
     exact aRi
    have No:w4.heap.size<=w5.heap.size:=Yr Bo.size Av.size;have Od:=Cp.o.l2;have Of:=Cp.o.sz;have Bs:=(Fs w.heap.size aA aA).trans Cp.o.rw;have Ct:w5.os=w.os/\w5.tape=w.tape/\w5.output=w.output:=⟨Av.lo.os.trans (Bo.os.trans (Cp.o.b4.os.trans Cp.o.b2.os)),Av.lo.tape.trans (Bo.tape.trans (Cp.o.b4.tape.trans Cp.o.b2.tape)),Av.lo.output.trans (Bo.output.trans (Cp.o.b4.output.trans Cp.o.b2.output))⟩;have Hb:=Hd (show Below w.heap.size w w5 from⟨Ct.1,Ct.2.1,Ct.2.2,by omega,fun k hk=>(Fs k aA aA).trans ((Cp.o.b4.block k aA).trans (Cp.o.b2.block k hk))⟩);have Ns:(G0 w6 w2.heap.size A n c all).Ok:=⟨Cp.o.rd.below (by rw[fC];exact iQ Bo),Ij.o.1.2.1,Ij.o.2,by have:=Bo.size;show w2.heap.size<w6.heap.size;omega⟩;have Dy:0<n:=bFy;have hF:kX (G0 w6 w2.heap.size A n c all) w.heap.size:=⟨by have:=Bo.size;show w.heap.size<w6.heap.size;omega,fun e=>Cp.o.na Dy e.symm⟩;have Nv:=Hd fun(w':World)(hs:w5.heap.size<=w'.heap.size)(hk:∀k,k<w5.heap.size->k≠w.heap.size->w'.heap[k]?=w5.heap[k]?)=>(show lM w' p E N from kI.rdP (w':=w') Ns hv hs fun k Oa Cb _=>hk k Oa fun e=>Cb (by rw[e];exact hF));have Ff:=Hd Bs;have Ob:w.heap.size<w5.heap.size:=aA;have Nj:w2.heap.size<w5.heap.size:=aA;have Nn:=Hd Nj;have Nz:=Hd Ob;have Nt:w.heap.size≠w2.heap.size:=aA;have Nr:w2.heap.size≠w.heap.size:=aA;have Np:w5.cell? ⟨w2.heap.size,2,none⟩=some (.slice E p.es.length ec):=hv.c2;have Nm:w5.cell? ⟨w2.heap.size,3,none⟩=some (.slice N p.ns.length nc):=hv.c3;have Nx:=Hd Np;have Ny:=Hd Nm;have Ni:=Hd (bAd p E ec N nc w5 (Nv.o w5 (Yh _) fun _ _ _=>rfl) Nu.o);unfold fP at Ni;clear Av Bo Fs No Bs Ct Nh Ij Nw hv Ns hF Dy Nu Cp;go_wp2_with fail;refine(bBl _ w5).mono ?_;rintro e w8 ⟨rfl,Nl⟩;subst Nl;go_wp2_with fail;refine Ni.o.mono ?_;rintro e w7 ⟨rfl,Dr⟩;have Aa:=(Dr.block _ Nz.o).trans Ff.o;have p2:=(Dr.cell Nn.o).trans Nx.o;have p3:=(Dr.cell Nn.o).trans Ny.o;have Gi:=Hd Dr;have Bg:=Hd Aa;have c0:=bU Aa 0 (.slice none 0 0) rfl;have c1:=bU Aa 1 (.slice none 0 0) rfl;have f0:=lF (j:=0) Aa;have f1:=lF (j:=1) Aa;clear Dr Aa Ni Np Nm Ff;generalize eM p=ck at *;go_wp2_with fail;have Nq:Below w.heap.size w ((w7.setCell ⟨w.heap.size,0,none⟩ (.slice E p.es.length ec)).setCell ⟨w.heap.size,1,none⟩ (.slice N p.ns.length nc)):=aM3 (Hb.o.tr Gi.o) (Yh _);exact Zy (aOd (p:=2) (u:=3) (v:=4) rfl _ _ w.heap.size _ _ rfl (aIy Bg.o)) rfl ⟨E,ec,N,nc,rfl,Nv.o _ (by simpa using Gi.o.size) (fun k hk hn=>(Xb _ _ _ _ (show k≠w.heap.size from hn)).trans ((Xb _ _ _ _ (show k≠w.heap.size from hn)).trans (Gi.o.block k hk))),Nq⟩
  . rw[if_neg hc];have Oi:(eM p !=0)=true:=by simpa using hc
    clear hc;go_in
    go_upto_region 1 with(fail);generalize Af:w.alloc _=w1;have Ac:=Hd (show Below w.heap.size w w1 by rw[<-Af];exact(Yg _ _).alloc (Yh _) _);have Ad:w1.heap[w.heap.size]?=some (.cells #[.slice none 0 0,.slice none 0 0] 26):=aKn;have Jx:w.heap.size<w1.heap.size:=vF;clear Af;go_wp2_with fail;refine(HL.o w1 Ac.o).mono ?_;rintro e w2 ⟨A,c,rfl,Ng,Ag⟩;have Ae:=(Ag.block _ Jx).trans Ad;have Jo:=Hd fun w4 h4=>aQv (w4:=w4) (c:=c) (Ac.o.tr Ag) (Yt Jx Ag.size) Ae Ng h4;clear Ag Ad Ae HL Ng;go_upto_region 6 with(fail);generalize Hc:(w2.alloc _).alloc _=w4;have Cp:=Hd (Jo.o w4 Hc);clear Hc Jo;go_wp2_with fail;refine(Nh.o w2 w4 A c Cp.o).mono ?_;rintro e w5 ⟨u,rfl,w6,Bo,u2,Ha,hE⟩;obtain⟨h1,Av,-,m,ve,vn,cE,cN,hv,-⟩:=hE;injection Ha with Ha;subst Ha;injection h1 with h1;subst h1;obtain⟨E,ec,rfl⟩:=nG hv.oE;obtain⟨N,nc,rfl⟩:=nG hv.oN
    have Fs:∀k,k<w4.heap.size->k≠w2.heap.size->w5.heap[k]?=w4.heap[k]?:=fun k hk hn=>by
     exact aRi
    have No:w4.heap.size<=w5.heap.size:=Yr Bo.size Av.size;have Od:=Cp.o.l2;have Of:=Cp.o.sz;have Bs:=(Fs w.heap.size aA aA).trans Cp.o.rw;have Ct:w5.os=w.os/\w5.tape=w.tape/\w5.output=w.output:=⟨Av.lo.os.trans (Bo.os.trans (Cp.o.b4.os.trans Cp.o.b2.os)),Av.lo.tape.trans (Bo.tape.trans (Cp.o.b4.tape.trans Cp.o.b2.tape)),Av.lo.output.trans (Bo.output.trans (Cp.o.b4.output.trans Cp.o.b2.output))⟩;have Hb:=Hd (show Below w.heap.size w w5 from⟨Ct.1,Ct.2.1,Ct.2.2,by omega,fun k hk=>(Fs k aA aA).trans ((Cp.o.b4.block k aA).trans (Cp.o.b2.block k hk))⟩);have Ns:(G0 w6 w2.heap.size A n c all).Ok:=⟨Cp.o.rd.below (by rw[fC];exact iQ Bo),Ij.o.1.2.1,Ij.o.2,by have:=Bo.size;show w2.heap.size<w6.heap.size;omega⟩;have Dy:0<n:=bFy;have hF:kX (G0 w6 w2.heap.size A n c all) w.heap.size:=⟨by have:=Bo.size;show w.heap.size<w6.heap.size;omega,fun e=>Cp.o.na Dy e.symm⟩;have Nv:=Hd fun(w':World)(hs:w5.heap.size<=w'.heap.size)(hk:∀k,k<w5.heap.size->k≠w.heap.size->w'.heap[k]?=w5.heap[k]?)=>(show lM w' p E N from kI.rdP (w':=w') Ns hv hs fun k Oa Cb _=>hk k Oa fun e=>Cb (by rw[e];exact hF));have Ff:=Hd Bs;have Ob:w.heap.size<w5.heap.size:=aA;have Nj:w2.heap.size<w5.heap.size:=aA;have Nn:=Hd Nj;have Nz:=Hd Ob;have Nt:w.heap.size≠w2.heap.size:=aA;have Nr:w2.heap.size≠w.heap.size:=aA;have Np:w5.cell? ⟨w2.heap.size,2,none⟩=some (.slice E p.es.length ec):=hv.c2;have Nm:w5.cell? ⟨w2.heap.size,3,none⟩=some (.slice N p.ns.length nc):=hv.c3;have Nx:=Hd Np;have Ny:=Hd Nm;have Ni:=Hd (bAd p E ec N nc w5 (Nv.o w5 (Yh _) fun _ _ _=>rfl) Nu.o);unfold fP at Ni;clear Av Bo Fs No Bs Ct Nh Ij Nw hv Ns hF Dy Nu Cp;go_wp2_with fail;refine(bBl _ w5).mono ?_;rintro e w8 ⟨rfl,Nl⟩;subst Nl;go_wp2_with fail;refine Ni.o.mono ?_;rintro e w7 ⟨rfl,Dr⟩;have Aa:=(Dr.block _ Nz.o).trans Ff.o;have p2:=(Dr.cell Nn.o).trans Nx.o;have p3:=(Dr.cell Nn.o).trans Ny.o;have Gi:=Hd Dr;have Bg:=Hd Aa;have c0:=bU Aa 0 (.slice none 0 0) rfl;have c1:=bU Aa 1 (.slice none 0 0) rfl;have f0:=lF (j:=0) Aa;have f1:=lF (j:=1) Aa;clear Dr Aa Ni Np Nm Ff;generalize eM p=ck at *;go_wp2_with fail;exact Zy (aOd (p:=2) (u:=3) (v:=4) rfl _ _ w.heap.size _ _ rfl (aIy Bg.o)) rfl (aWj (aM3 (Hb.o.tr Gi.o) (Yh _)))
theorem bNi{s:BA}{p:Pg}{n:Int}(h:sK s=(p,n,0)):(cK 0 s.data.toList).2=none/\∀p' q,pQ (sJ s)=.ok p' q->p'=p:=by
 unfold sK at h;split at h;· simp at h
 . split at h;· simp at h
   . rename_i hq;refine⟨hq,fun p' q e=>?_⟩;rw[e]at h;simp only at h;split at h
     . simp only[Prod.mk.injEq]at h;exact h.1
     . exact bEq
theorem rdSpec:aO3 aDm:=⟨fun s w p n hV hr ht=>by
 obtain⟨h1,h2⟩:=bNi hr;have h:=cB3 s w (bT9 hr).2.2 h1 hV fun p' q e=>by rw[h2 p' q e];exact ht
 rwa[hr]at h,fun w w' h hb=>h.below hb⟩
end
section
open Go.RowKit Go.ChangeShapes Go.WideShapes Go.Deep
section
variable {H:Type}{enc:TypeId × Value->H}{P:Program}{w:World}{base:Nat}{spare:Nat->Bool}{held:Bool}{fuel:Nat}{t e:TypeId}{cs:LV}{p:List MemPlace}
theorem bJo{n:Nat}{ms:List (List UInt8)}(ht:P.underlying t=some (.array n e))(he:P.underlying e=some .string)(Aq:P.cellsOf e=1)(Bs:P.cellsOf t=n)
 (h:DataW.trod enc P w base spare held fuel t cs=some (.agg (ms.map fun m=>.lit (.string m)),p)):cs=ms.map fun m=>Value.string (aZ m):=by
 obtain⟨xs,m,_,hx,hl,hn,Ae⟩:=DataW.trod_array ht h;have Hv:xs.map (·.1)=ms.map fun m=>(DataW.lit (.string m):DataW H):=by
  have:=congrArg Prod.fst hx
  simpa using this.symm
 have Ct:ms.length=n:=by
  have:=congrArg List.length Hv
  simp at this;omega
 apply List.ext_getElem?;intro i;by_cases hi:i<n
 . have h1:=Ae i hi;rw[Aq,Nat.mul_one]at h1;have h2:∃b,xs[i]?=some b:=⟨xs[i]' aA,Yk aA⟩;obtain⟨b,hb⟩:=h2;rw[hb]at h1;obtain⟨s,hc,Ef,_⟩:=DataW.trod_string he h1;have h3:cs[i]?=some (.string s):=by
    have:=congrArg (·[0]?) hc
    simpa[List.getElem?_take,List.getElem?_drop]using this
   have h4:(xs.map (·.1))[i]?=some (DataW.lit (.string s.data.toList):DataW H):=by simp[hb,Ef]
   rw[Hv]at h4;simp only[List.getElem?_map,Option.map_eq_some_iff,DataW.lit.injEq,Lit.string.injEq]at h4;obtain⟨m',Aa,rfl⟩:=h4;rw[h3,List.getElem?_map,Aa];rfl
 . rw[List.getElem?_eq_none aA,List.getElem?_eq_none cP]
end
theorem bNj:Rows.readBackRow.laid.filter (fun x=>x.1==aCo)=[(aCo,.agg (iD.map fun m=>.lit (.string m)))]:=aE
theorem bNk:Rows.readBackRow.laid.filter (fun x=>x.1==aCp)=[(aCp,Rows.laid_strconv_ErrRange)]:=aE
theorem bJ3{W:World}(h:laidMetH Tryz.prog Rows.readBackRow.laid W):iV W:=by
 constructor
 . have h1:=h.filter (fun x=>x.1==aCp);rw[bNk]at h1;have h2:laidMet Tryz.prog [(aCp,Rows.laid_strconv_ErrRange)] W:=(laidMetH_iff.1 h1).1;obtain⟨ps,⟨g',t',cs,fuel,p,q,Ae,Aq,Aa,hd,_,_⟩,_⟩:=h2;obtain rfl:=Option.some.inj (aLq.symm.trans Ae);obtain rfl:=Option.some.inj ((show(Tryz.prog.globals[(4:Nat)]?).map (·.type)=some 49 by kernel_rfl).symm.trans Aq);obtain⟨f1,u,v,hcs,_⟩:=iface_of_trod Tryz.underlying49 hd;refine⟨u,v,?_⟩;rw[Aa];congr 1;apply Array.toList_inj.1;simpa using hcs
 . have h1:=h.filter (fun x=>x.1==aCo);rw[bNj]at h1;have h2:laidMet Tryz.prog [(aCo,.agg (iD.map fun m=>.lit (.string m)))] W:=(laidMetH_iff.1 h1).1;obtain⟨ps,⟨g',t',cs,fuel,p,q,Ae,Aq,Aa,hd,_,_⟩,_⟩:=h2;obtain rfl:=Option.some.inj (aG7.symm.trans Ae);obtain rfl:=Option.some.inj ((show(Tryz.prog.globals[(1:Nat)]?).map (·.type)=some 192 by kernel_rfl).symm.trans Aq);have hcs:=bJo Tryz.underlying192 Tryz.underlying9 aE aE hd;rw[Aa];congr 1;apply Array.toList_inj.1;rw[hcs];rfl
theorem bVe:Tryz.prog.globalNamed "errors.errorType" =some 0:=by kernel_rfl
theorem bVf:(Tryz.prog.cutTypes.find? (·.1 == "internal/reflectlite.rtype")).map (·.2)=some 141:=by kernel_rfl
theorem bZi:((List.range 331).filter fun t=>Tryz.prog.rowNamed t [101,114,114,111,114])=[49]:=aE
theorem bZj:Tryz.prog.types.size=331:=aE
theorem bZk:Rows.readBackRow.laid.filter (fun x=>x.1 == "errors.errorType")=[("errors.errorType",Rows.laid_errors_errorType)]:=by kernel_rfl
theorem bJe{W:World}(h:laidMetH Tryz.prog Rows.readBackRow.laid W):W.cell? ⟨0,0,none⟩=some aD4:=by
 have h1:=h.filter (fun x=>x.1 == "errors.errorType");rw[bZk]at h1;have h':=(laidMetH_iff.1 h1).2;obtain⟨Aa,u,ty,e1,e2,e3,e4,e5⟩:=h' _ (Yp.2 rfl);have en:Aa=[101,114,114,111,114]:=(Option.some.inj e1).symm;subst en;obtain rfl:=Option.some.inj (bVf.symm.trans e2);have hm:ty∈(List.range 331).filter fun t=>Tryz.prog.rowNamed t [101,114,114,111,114]:=List.mem_filter.2 ⟨List.mem_range.2 (by rw[<-bZj];exact e3),e4⟩;rw[bZi]at hm;obtain rfl:=Yp.1 hm;have hh:typeHandle Tryz.prog 49=.pointer (some ⟨8,49,none⟩):=aE;rw[hh]at e5;have h0:=World.var?_cell bVe e5 0;unfold aD4;simpa using h0
theorem varsR_of_laid{W:World}(h:laidMetH Tryz.prog Rows.readBackRow.laid W):aDm W:=⟨bJ3 h,bJe h⟩
end
end Go.Proofs.YtagkcjpoipcpkaaGreatDoor
