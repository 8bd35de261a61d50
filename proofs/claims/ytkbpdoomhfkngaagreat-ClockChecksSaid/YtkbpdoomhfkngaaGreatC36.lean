/- A part of the proof. Conditions: each theorem's own. -/
import Derived.Test.YtkbpdoomhfkngaaGreatC34
import Derived.Test.YtkbpdoomhfkngaaGreatC35
namespace Go.Proofs.YtkbpdoomhfkngaaGreat
set_option linter.unusedVariables false
set_option linter.unusedSimpArgs false
set_option maxRecDepth 100000
set_option maxHeartbeats 40000000
section
open Go.RowKit Go.Sort Go.BigFrame
theorem bB6{p:Pg}{i j:Nat}(h:(jP p i j).2.2=0):jP p i j=(0,0,0):=by
 unfold jP at h⊢;by_cases h1:jB p i ((aB p i).eqs[j]?.getD default)=true;· rw[if_pos h1]
 . rw[if_neg h1]at h;simp at h
theorem aVr{p:Pg}{i:Nat}(h:(fG p i).2.2=0):fG p i=(0,0,0):=by
 unfold fG at h⊢;split at h;· simp at h
 . rename_i h1;rw[if_neg h1];exact uQ (fun j=>bB6) h
theorem aVs{p:Pg}(h:(dS p).2.2=0):dS p=(0,0,0):=by
 unfold dS at h⊢;split at h
 . rename_i h1;rw[if_pos h1];exact uQ (fun j=>aVr) h
 . rename_i h1;exact absurd (aHv h) h1
def sB(w:World)(N:Option Addr)(m:Nat):Prop:=∀b off,N=some ⟨b,off,none⟩->∀i,i<m->∀A n c,w.cell? ⟨b,off+i*5+4,none⟩=some (.slice A n c)->mU w A n
theorem mU.below{w w':World}{A:Option Addr}{n:Nat}{l:List Qn}(h:mU w A n)(hr:gN w A n l)(hb:Below w.heap.size w w'):mU w' A n:=by
 intro b off e i hi A' n' c' hc;obtain⟨b2,Gc,e2,Ah,_⟩:=aI.at_ hr aA;rw[e]at e2;injection e2 with e2;injection e2 with e3 e4 _;subst e3 e4;rw[hb.cell (p:=⟨b,off+i*7,none⟩) Ah]at hc;exact h b off e i hi A' n' c' hc
theorem bFk(p:Pg)(E:Option Addr)(ec:Nat)(N:Option Addr)(nc:Nat)(w:World)(h:cJ w p E N)(ht:gU p)(Aq:sB w N p.ns.length):
 Calls Tryz.prog 7 #[.agg (aK p E ec N nc)] w fun e w'=>e=.returned (jS (iW p))/\Below w.heap.size w w':=by
 have Df:=aI.max h.2;have HF:=Hd fun w0 hw=>aCv (w:=w) (w1:=w0) (cs:=aK p E ec N nc) (T:=25) (U:=30) hw;have He:=Hd fun w1 (hb:Below w.heap.size w w1)=>bE0 p E ec N nc w1 (h.below hb) ht;have Pf:∀fn first cap w,(Instr.makeFunc fn first cap).run Tryz.prog w=.ok (.func fn first cap) w:=fun _ _ _ _=>rfl
 have Eg:=Hd (show eX w N p.ns.length p.ns from h.2);by_cases hz:dS p=(0,0,0)
 . have Al:=aJ6 hz;have hc:=sZ Al;have Gp:=Hd (show iW p=dY ((0,0,0):Fl) (fU p) p.ns.length by unfold iW;rw [if_pos hz]);have Cs:=Hd fun k (hk:k<p.ns.length) hn hy=>lN (z:=((0,0,0):Fl)) (f:=fU p) (n:=p.ns.length) hk hn hy;have Cj:=Hd fun hn=>kH (z:=((0,0,0):Fl)) (f:=fU p) (n:=p.ns.length) hn;have Ki:=Hd fun k (hk:k<p.ns.length)=>(show fU p k=if(aB p k).vars.any (pY p.es (aB p k))=true then((k:Int),-1,8) else dY ((0,0,0):Fl) (lF p k) (aB p k).eqs.length by
    obtain⟨h1,h2,_⟩:=xN Al hk;rw[aGq h1];unfold fU;cases (aB p k).all.all (jH p k)<;>rfl)
   have Ol:=Hd fun k (hk:k<p.ns.length) (hm:(aB p k).vars.any (pY p.es (aB p k))=false)=>(show dY ((0,0,0):Fl) (lF p k) (aB p k).eqs.length=if 0<=bR (mM p.es (aB p k)) (aB p k).eqs 0 then((k:Int),bR (mM p.es (aB p k)) (aB p k).eqs 0,8) else(0,0,0) by
    obtain⟨h1,_,h3⟩:=xN Al hk;have Ca:(aB p k).all.all (jH p k)=true:=by
     rw[aGq h1]at hm;simpa using hm
    have hw:∀j,j<(aB p k).eqs.length->mM p.es (aB p k) ((aB p k).eqs[j]?.getD default)=!lY p k ((aB p k).eqs[j]?.getD default):=fun j hj=>aYe (aCy hc hk hj).1 fun m hm=>aYd Ca (h3 j hj m hm);rcases aGp (mM p.es (aB p k)) (aB p k).eqs with⟨h4,h5⟩|⟨m,hm,h4,h5,h6⟩
    . rw[h5,if_neg aA];refine kH fun j hj=>?_
      have:=h4 j hj
      rw[hw j hj]at this;unfold lF;rw[if_pos (by simpa using this)]
    . rw[h6,if_pos aA];have h7:lF p k m=((k:Int),(m:Int),8):=by
       rw[hw m hm]at h5;unfold lF;rw[if_neg pG]
      rw[lN hm (fun j hj=>?_) aPi,h7]
      have:=h4 j hj
      rw[hw j aA]at this;unfold lF;rw[if_pos (by simpa using this)])
   have Oy:=Hd fun k (hk:k<p.ns.length)(r:Km)(Nw:r.E=E) w1 (hb:Below w.heap.size w w1)(Ap:cF w1 (aB p k) r.A1 r.A2 r.A3 r.A4)=>vA 17 (.agg (cG p.es (aB p k) r)) (fun _ _=>rfl) (pY p.es (aB p k)) r.A3 (aB p k).vars.length r.c3 (aB p k).vars w1 Ap.2.2.1
    fun d hd W hW=>aYk p.es (aB p k) r d W ⟨by rw[Nw];exact(h.below (hb.tr hW)).1,Ap.below hW⟩
   have Ow:=Hd fun k (hk:k<p.ns.length)(r:Km)(Nw:r.E=E) w1 (hb:Below w.heap.size w w1)(Ap:cF w1 (aB p k) r.A1 r.A2 r.A3 r.A4)(Ov:mU w1 r.A4 (aB p k).eqs.length)=>aVp 19 (.agg (cG p.es (aB p k) r)) (fun _ _=>rfl) (mM p.es (aB p k)) r.A4 (aB p k).eqs.length r.c4 (aB p k).eqs w1 Ap.2.2.2 Ov
    fun q hq BN cN A ca B cb W hW Ob Pb=>(by
     obtain⟨j,hj,rfl⟩:=Zj hq;have Ny:=aCy hc hk hj;have Oc:=((ht.2.2 k hk).2.2.2.2.2 j hj).2.1;have he:(aB p k).eqs[j]?.getD default=(aB p k).eqs[j]:=by rw[Yk hj,Yt]
     have Pd:(p.ns[k]?.getD default).eqs[j]?.getD default=(aB p k).eqs[j]:=he;rw[he]at Ny;rw[Pd]at Oc;exact bFh p.es (aB p k) r _ BN cN A ca B cb W ⟨by rw[Nw];exact(h.below (hb.tr hW)).1,Ap.below hW⟩ Ob.1 Ob.2 Ny.1 Pb (bFa Ny.2) (uM Oc))
   have Nz:=Hd Aq;rw[hz]at He;unfold jS aF at He;clear h ht hz hc Al Aq;generalize iW p=Bu at *;generalize Ok:p.ns.length=pn at *;unfold aK at *;rw[Ok]at HF He⊢;clear Ok;go_in
   go_upto_region 1 with(fail);generalize Ai:(w.alloc _).alloc _=w0;obtain⟨Ae,Al,Bf,hR⟩:=HF.o w0 Ai;have Af:=Hd Ae;have HR:=Hd hR;have HP:=Hd Bf;have q0:=Bf w0 (Yg _ _) 0;have q1:=Bf w0 (Yg _ _) 1;simp only[Ya,Yb,Yc]at q0 q1;clear Ai Ae Al Bf hR HF;go_wp2_with fail;refine(He.o w0 Af.o).mono ?_;rintro e w1 ⟨rfl,Aa⟩;have Ac:=Hd (aT Af.o Aa);have Ih:=Hd Aa;have Bi:=Hd (HR.o.below Aa);clear Aa q0 q1 He HR;go_upto_region 2 with(fail);generalize Br:w1.alloc _=w2;obtain⟨Ad,Fh,hg2⟩:=iB Br;have Aj:=Hd (aT Ac.o Ad);have Ef:=Hd (aT Ih.o Ad);have Ce:=Hd (Bi.o.below Ad);have f2:=Fh.cell 2;have q1:=HP.o w2 Ef.o 1;simp only[aF,List.getElem?_toArray,Yz,Zb]at f2 q1;clear Br Ad Fh hg2 Bi;go_wp2_with fail;go_loopw [17] (fun c wr=>∃k:Nat,k<=pn/\c=.int .i64 k/\(∀a,a<k->fU p a=(0,0,0))/\Below w2.heap.size w2 wr) (fun c _=>pn-(intOf c).toNat)
   case atStart=>exact⟨0,Yq _,rfl,fun a ha=>absurd ha aA,Yg _ _⟩
   case round=>
    obtain⟨k,hk,rfl,Bc,Ay⟩:=hrel;have Cg:=Hd Bc;have Cm:=Hd (aT Aj.o Ay);have Ig:=Hd (aT Ef.o Ay);have Ji:=Hd Ay;have Db:=Hd (Ce.o.below Ay);clear Bc Ay;by_cases Ah:k<pn
    . obtain⟨b,off,A1,c1,A2,c2,A3,c3,A4,c4,hN,hb,Jx,d0,d1,d2,d3,d4⟩:=iR Eg.o Ah;have Om:=Hd (show ∀w1,Below w.heap.size w w1->mU w1 A4 (aB p k).eqs.length from fun w1 Aa=>mU.below (Nz.o b off hN k Ah _ _ _ d4) Jx.2.2.2 Aa);have Ap:=Jx.below Cm.o;have d0:=(Cm.o.cell (p:=⟨b,off+k*5,none⟩) hb).trans d0;have d1:=(Cm.o.cell (p:=⟨b,off+k*5+1,none⟩) hb).trans d1;have d2:=(Cm.o.cell (p:=⟨b,off+k*5+2,none⟩) hb).trans d2;have d3:=(Cm.o.cell (p:=⟨b,off+k*5+3,none⟩) hb).trans d3;have d4:=(Cm.o.cell (p:=⟨b,off+k*5+4,none⟩) hb).trans d4;clear Jx;have Ko:=Hd (Ki.o k Ah);have Oe:=Hd (Ol.o k Ah);have Oh:=Hd (Cs.o k Ah Cg.o);have Fr:=Hd fun w1 (hb:Below w.heap.size w w1)(hq:cF w1 (aB p k) A1 A2 A3 A4)=>Oy.o k Ah ⟨E,ec,A1,c1,A2,c2,A3,c3,A4,c4⟩ rfl w1 hb hq;have Nx:=Hd fun w1 (hb:Below w.heap.size w w1)(hq:cF w1 (aB p k) A1 A2 A3 A4)=>Ow.o k Ah ⟨E,ec,A1,c1,A2,c2,A3,c3,A4,c4⟩ rfl w1 hb hq (Om.o w1 hb);have Ed:=Hd (show cF wr (aB p k) A1 A2 A3 A4 from Ap);unfold cG at Fr Nx;dsimp only at Fr Nx;have Eb:p.ns[k]?.getD default=aB p k:=rfl;rw[Eb]at d0 d1 d2 d3 d4;clear Eb Ap;subst hN;generalize (aB p k).vars.any (pY p.es (aB p k))=mb at *;generalize dY ((0,0,0):Fl) (lF p k) (aB p k).eqs.length=ff at *;generalize bR (mM p.es (aB p k)) (aB p k).eqs 0=fi at *;generalize aB p k=nd at *;go_upto_region 7 with(fail);generalize Oa:wr.alloc _=w4;obtain⟨Bk,Pc,Bp⟩:=lQ Oa;have Be:=Hd (aT Cm.o Bk);have Hi:=Hd (aT Ig.o Bk);have Ox:=Hd (aT Ji.o Bk);have Ot:=Hd (Db.o.below Bk);have Ou:=Hd (Ed.o.below Bk);have Jc:=Hd Bp;obtain⟨e0,e1,e2,e3,e4,-⟩:=Sx (Bp w4 (Yg _ _));have q0:=HP.o w4 Hi.o 0;have q1:=HP.o w4 Hi.o 1;simp only[Ya,Yb,Yc]at e0 e1 e2 e3 e4 q0 q1;clear Oa Bk Pc Bp d0 d1 d2 d3 d4;go_upto_region 8 with(fail);generalize Of:w4.alloc _=w5;obtain⟨Bv,Pe,Bx⟩:=lQ Of;have Ck:=Hd (aT Be.o Bv);have Oo:=Hd (aT Ox.o Bv);have Oj:=Hd (Ot.o.below Bv);have Og:=Hd (Ou.o.below Bv);have Oz:=Hd Bx;have Od:=Hd fun w' (hb:Below w5.heap.size w5 w') j=>Jc.o w' (aT Bv hb) j;have e3:=Od.o w5 (Yg _ _) 3;obtain⟨f0,f1,f2,f3,f4,f5⟩:=Sx (Bx w5 (Yg _ _));simp only[Ya,Yb,Yc]at e3 f0 f1 f2 f3 f4 f5;have Nu:=Hd (Fr.o w5 Ck.o Og.o);clear Of Bv Pe Bx e0 e1 e2 e4 q0 q1;cases mb with
      |true=>
       have Hh:=Hd (show fU p k=((k:Int),-1,8)from Ko.o);have Fe:=Hd (show Bu=((k:Int),-1,8)by rw[Gp.o,Oh.o aPg];exact Hh.o);go_wp2_with fail;refine Nu.o.mono ?_;rintro e w6 ⟨rfl,Ci⟩;have Du:=Hd (aT Ck.o Ci);have Nt:=Hd (Oj.o.below Ci);clear Ci Nu;go_wp2_with (refine Zv rfl _ _ _ rfl (w.heap.size+1) _ rfl rfl _ _ Nt.o eT rfl fI ?_);exact Zu (fC (p:=2) rfl _ _ (w.heap.size+1) k (-1) 8 rfl (Nt.o.set _ _ _)) rfl ⟨by rw[Fe.o];rfl,Xc Du.o (Nat.le_succ _) _⟩
      |false=>
       have Hh:=Hd (show fU p k=ff from Ko.o);go_wp2_with fail;refine Nu.o.mono ?_;rintro e w6 ⟨rfl,Ci⟩;have Du:=Hd (aT Ck.o Ci);have Pa:=Hd (aT Oo.o Ci);have Nt:=Hd (Oj.o.below Ci);have Oq:=Hd (Og.o.below Ci);have e4:=Od.o w6 Ci 4;obtain⟨f0,f1,f2,f3,f4,f5⟩:=Sx (Oz.o w6 Ci);simp only[Ya,Yb,Yc]at e4 f0 f1 f2 f3 f4 f5;have Oi:=Hd (Nx.o w6 Du.o Oq.o);clear Ci Nu e3;go_wp2_with fail;refine Oi.o.mono ?_;rintro e w7 ⟨rfl,Dw⟩;have Fg:=Hd (aT Du.o Dw);have Np:=Hd (aT Pa.o Dw);have Ik:=Hd (Nt.o.below Dw);clear Dw Oi e4 f0 f1 f2 f3 f4 f5;by_cases Nv:0<=fi
       . have hd:decide (0<=fi)=true:=Zy Nv;have Dg:=Hd (show fU p k=((k:Int),fi,8)by rw[Hh.o,Oe.o pF,if_pos Nv]);have Fe:=Hd (show Bu=((k:Int),fi,8)by rw[Gp.o,Oh.o aPh];exact Dg.o);go_wp2_with (refine Zv rfl _ _ _ rfl (w.heap.size+1) _ rfl rfl _ _ Ik.o eT rfl fI ?_);exact Zu (fC (p:=2) rfl _ _ (w.heap.size+1) k fi 8 rfl (Ik.o.set _ _ _)) rfl ⟨by rw[Fe.o];rfl,Xc Fg.o (Nat.le_succ _) _⟩
       . have hd:decide (0<=fi)=false:=Zz Nv;have Dg:=Hd (show fU p k=(0,0,0)by rw[Hh.o,Oe.o pF,if_neg Nv]);have Dx:=Hd (dC (P:=fun a=>fU p a=(0,0,0)) Cg.o Dg.o);exact aNq
    . exact aQ1
 . have Gp:=Hd (show iW p=dS p by unfold iW;rw[if_neg hz]);have An:(dS p).2.2≠0:=fun e=>hz (aVs e);have On:((dS p).2.2 !=0)=true:=bne_iff_ne.2 An;rw[Gp.o];unfold jS aF at *;clear h ht hz An Gp Eg Aq;unfold aK at *;generalize (dS p).1=a at *;generalize (dS p).2.1=b at *;generalize (dS p).2.2=c at *;exact aQa
theorem sB.below{w w':World}{N:Option Addr}{m:Nat}{l:List Nd}(h:sB w N m)(hr:eX w N m l)(hb:Below w.heap.size w w'):sB w' N m:=by
 intro b off e i hi A n c hc;obtain⟨b2,Gc,A1,c1,A2,c2,A3,c3,A4,c4,e2,Ad,Ap,d0,d1,d2,d3,d4⟩:=aD0 hr hi;rw[e]at e2;injection e2 with e2;injection e2 with e3 e4 _;subst e3 e4;rw[hb.cell (p:=⟨b,off+i*5+4,none⟩) Ad]at hc;have Gb:=hc;rw[d4]at Gb;injection Gb with Gb;injection Gb with h1 h2 h3;subst h1 h2;exact(h b off e i hi _ _ _ hc).below Ap.2.2.2 hb
theorem walkChecks17(p:Pg)(E:Option Addr)(ec:Nat)(N:Option Addr)(nc:Nat)(w:World)(h:cJ w p E N)(Aq:sB w N p.ns.length):
 Calls Tryz.prog 3 #[.agg (aK p E ec N nc)] w fun e w'=>e=.returned (.bool true)/\Below w.heap.size w w':=by
 have HF:=Hd fun w0 hw=>iV (w:=w) (w1:=w0) (cs:=aK p E ec N nc) (T:=25) hw;have Jm:=Hd fun w1 (hb:Below w.heap.size w w1)=>aT8 p E ec N nc w1 (h.below hb);have HC:=Hd fun(ht:gU p) w1 (hb:Below w.heap.size w w1)=>bFk p E ec N nc w1 (h.below hb) ht (Aq.below h.2 hb);have HR:=Hd fun(ht:gU p) w1 (hb:Below w.heap.size w w1)=>aVq p E ec N nc w1 (h.below hb) ht;have Nu:=Hd bG1;clear h Aq;unfold aK at *;unfold jS aF at HC HR;generalize (iW p).1=ra at *;generalize (iW p).2.1=rb at *;generalize (iW p).2.2=rc at *;generalize p.ns.length=pn at *;generalize p.es.length=pe at *;go_in
 go_upto_region 1 with(fail);generalize Ai:w.alloc _=w0;obtain⟨Ae,Al,hp⟩:=HF.o w0 Ai;have Af:=Hd Ae;have HP:=Hd hp;clear Ai Ae Al hp HF;have p0:=HP.o w0 (Yg _ _) 0;have p1:=HP.o w0 (Yg _ _) 1;simp only[Ya,Yb,Yc]at p0 p1;go_wp2_with fail;refine(Jm.o w0 Af.o).mono ?_;rintro e w1 ⟨b,rfl,ht,Aa⟩;have Ac:=Hd Aa;clear p0 p1;cases b with
 |false=>
  clear Aa ht;go_wp2_with fail;refine(Nu.o w1).mono ?_;rintro e wl ⟨rfl,Bp⟩;have Ji:=Hd (Ac.o.tr Bp);clear Bp;go_wp2_with fail;go_ret;exact⟨rfl,Af.o.tr Ji.o⟩
 |true=>
  have HT:=Hd (ht rfl);have p0:=HP.o w1 Aa 0;have p1:=HP.o w1 Aa 1;simp only[Ya,Yb,Yc]at p0 p1;clear ht Aa;have Hv:=Hd fun W (hb:Below w1.heap.size w1 W)=>HC.o HT.o W (Af.o.trans ((Ac.o.tr hb).mono Af.o.size));have Hp:=Hd fun W (hb:Below w1.heap.size w1 W)=>HR.o HT.o W (Af.o.trans ((Ac.o.tr hb).mono Af.o.size));have Nw:=Hd fun W (hb:Below w1.heap.size w1 W)=>Nu.o W;go_upto_region 3 with(fail);have l0:=fun d os=>Zs p0 d os;have l1:=fun d os=>Zs p1 d os;have Nv:=Hd fun d os=>Zt w1 d os;have Bx:=fun d os=>Zi (Hv.o (grow (redrawn w1 d) os) (Zt w1 d os));have Jx:=fun d os=>Zi (Hp.o (grow (redrawn w1 d) os) (Zt w1 d os));have Nt:=fun d os=>Zi (Nw.o (grow (redrawn w1 d) os) (Zt w1 d os));refine Xa aC aC ?_;repeat (go_big_quiet_step (first|with_reducible exact Bx _ _|with_reducible exact Jx _ _|with_reducible exact Nt _ _))
  refine Xg ?_;intro _ Cy;obtain⟨⟨dq,Bj⟩,Bl⟩:=Cy;subst Bl;have Hk:=Hd (Nv.o dq Bj);clear l0 l1 Bx Jx Nt p0 p1;go_wp2_with fail;go_ret;exact⟨rfl,Af.o.trans ((Ac.o.tr Hk.o).mono Af.o.size)⟩
end
section
open Go.RowKit Go.ChangeShapes Go.WideShapes Go.Deep
set_option maxRecDepth 100000
theorem aI.monoN{α:Type}[Inhabited α]{k:Nat}{At Aq:World->Nat->Nat->α->Prop}{w:World}{A:Option Addr}{n:Nat}{l:List α}(h:aI k At w A n l)(hm:∀b o x,At w b o x->Aq w b o x):aI k Aq w A n l:=
 ⟨h.1,h.2.1,fun hn=>by
  obtain⟨b,off,e,hb,hc⟩:=h.2.2 hn;exact⟨b,off,e,hb,fun i hi=>hm _ _ _ (hc i hi)⟩⟩
def bHt(w:World)(b o:Nat)(q:Qn):Prop:=sJ w b o q/\∀A n c,w.cell? ⟨b,o,none⟩=some (.slice A n c)->n<=c
def bHu(w:World)(b o:Nat)(x:Nd):Prop:=qJ w b o x/\∀A n c,w.cell? ⟨b,o+4,none⟩=some (.slice A n c)->mU w A n
section
variable {H:Type}{enc:TypeId × Value->H}{w:World}{base:Nat}{spare:Nat->Bool}{held:Bool}
theorem aVt{Aq:Nat}{v:Value}{x:DataW H × List MemPlace}(h:DataW.trod enc Tryz.prog w base spare held Aq 49 [v]=some x):∃A n c ss,v=.slice A n c/\aP w A n ss/\n<=c:=by
 rcases Go.ChangeShapes.open_strings Tryz.underlying49 Tryz.underlying9 aC h with⟨hcs,_⟩|⟨x,l,c,ss,hcs,_,hl,hm,hss,_,hcell,hz⟩
 . simp at hcs;subst hcs;exact⟨none,0,0,[],rfl,aP.nil_ _,Yh _⟩
 . simp at hcs;subst hcs;have Bp:l<=ss.length:=aFb;exact⟨some x,l,c,ss.take l,rfl,aCz Bp aE9 hcell,by omega⟩
theorem bB7{Aq:Nat}{cs:List Value}{x:DataW H × List MemPlace}(h:DataW.trod enc Tryz.prog w base spare held Aq 54 cs=some x)(hl:cs.length=7):
 ∃(q:Qn)(A:Option Addr)(c:Nat)(A':Option Addr)(ca:Nat)(B':Option Addr)(cb:Nat),cs=.slice A q.ns.length c::iZ q.x A' ca B' cb/\aP w A q.ns.length q.ns/\aH w q.x A' B'/\q.ns.length<=c:=by
 obtain⟨ys,m,_,_,_,hy,hf⟩:=DataW.trod_struct Tryz.underlying54 h
 match cs,hl with
 |[v0,v1,v2,v3,v4,v5,v6],_=>
  match ys,hy with
  |[y0,y1],_=>
   have t0:=hf 0 _ rfl;have t1:=hf 1 _ rfl;simp[aJa,aWo]at t0 t1;obtain⟨A,n,c,ss,rfl,hr,Bp⟩:=aVt t0;obtain⟨X,A',ca,B',cb,e1,hx,_⟩:=aZc _ t1 rfl;have hn:=hr.len;subst hn;exact⟨⟨ss,X⟩,A,c,A',ca,B',cb,by rw[e1],hr,hx,Bp⟩
theorem aYl{Aq:Nat}{v:Value}{x:DataW H × List MemPlace}(h:DataW.trod enc Tryz.prog w base spare held Aq 34 [v]=some x):∃A n c l,v=.slice A n c/\gN w A n l/\mU w A n:=by
 obtain⟨A,n,c,rfl⟩:∃A n c,v=.slice A n c:=by
  rcases open_slice Tryz.underlying34 h with⟨hcs,_⟩|⟨a,len,cap,m,nn,D,Pl,hcs,_⟩;· exact tS
  . exact tS
 obtain⟨l,hl⟩:=aCm (α:=Qn) (k:=7) (At:=bHt) Tryz.underlying34 aY7 bS (fun h=>by obtain⟨⟨A,c,A',ca,B',cb,h1,_⟩,_⟩:=h;exact⟨_,h1⟩) (fun ht hl=>by
  obtain⟨q,A,c,A',ca,B',cb,rfl,h1,h2,h3⟩:=bB7 ht hl;refine⟨q,fun b o hc=>⟨⟨A,c,A',ca,B',cb,hc 0 _ rfl,h1,fun j v hv=>?_,h2⟩,fun A2 n2 c2 h4=>?_⟩⟩
  . have:=hc (j+1) v hv
    rwa[show o+(j+1)=o+1+j by omega]at this
  . have h5:=hc 0 _ rfl;rw[Nat.add_zero,h4]at h5;injection h5 with h5;injection h5 with _ h6 h7
    omega) h
 exact aR1
theorem bB8{Aq:Nat}{cs:List Value}{x:DataW H × List MemPlace}(h:DataW.trod enc Tryz.prog w base spare held Aq 36 cs=some x)(hl:cs.length=5):
 ∃(n:Nd)(A1:Option Addr)(c1:Nat)(A2:Option Addr)(c2:Nat)(A3:Option Addr)(c3:Nat)(A4:Option Addr)(c4:Nat),cs=wW n A1 c1 A2 c2 A3 c3 A4 c4/\cF w n A1 A2 A3 A4/\mU w A4 n.eqs.length:=by
 obtain⟨ys,m,_,_,_,hy,hf⟩:=DataW.trod_struct Tryz.underlying36 h
 match cs,hl with
 |[v0,v1,v2,v3,v4],_=>
  match ys,hy with
  |[y0,y1,y2,y3,y4],_=>
   have t0:=hf 0 _ rfl;have t1:=hf 1 _ rfl;have t2:=hf 2 _ rfl;have t3:=hf 3 _ rfl;have t4:=hf 4 _ rfl;simp[aC7,aZt,aZu]at t0 t1 t2 t3 t4;obtain⟨s0,e0,_,_⟩:=DataW.trod_string Tryz.underlying9 t0;injection e0 with e0;subst e0;obtain⟨A1,n1,c1,l1,rfl,r1⟩:=aBl t1;obtain⟨A2,n2,c2,l2,rfl,r2⟩:=aBl t2;obtain⟨A3,n3,c3,l3,rfl,r3⟩:=aBl t3;obtain⟨A4,n4,c4,l4,rfl,r4,r5⟩:=aYl t4;have h1:=aI.len r1;have h2:=aI.len r2;have h3:=aI.len r3;have h4:=aI.len r4;subst h1 h2 h3 h4;exact⟨⟨s0,l1,l2,l3,l4⟩,A1,c1,A2,c2,A3,c3,A4,c4,rfl,⟨r1,r2,r3,r4⟩,r5⟩
theorem aTn{Aq:Nat}{v:Value}{x:DataW H × List MemPlace}(h:DataW.trod enc Tryz.prog w base spare held Aq 23 [v]=some x):∃A n c l,v=.slice A n c/\eX w A n l/\sB w A n:=by
 obtain⟨A,n,c,rfl⟩:∃A n c,v=.slice A n c:=by
  rcases open_slice Tryz.underlying23 h with⟨hcs,_⟩|⟨a,len,cap,m,nn,D,Pl,hcs,_⟩;· exact tS
  . exact tS
 obtain⟨l,hl⟩:=aCm (α:=Nd) (k:=5) (At:=bHu) Tryz.underlying23 aY8 bS (fun h=>by obtain⟨⟨A1,c1,A2,c2,A3,c3,A4,c4,h1,_⟩,_⟩:=h;exact⟨_,h1 0 _ rfl⟩) (fun ht hl=>by
  obtain⟨x,A1,c1,A2,c2,A3,c3,A4,c4,rfl,h1,h2⟩:=bB8 ht hl;refine⟨x,fun b o hc=>⟨⟨A1,c1,A2,c2,A3,c3,A4,c4,fun j v hv=>hc j v hv,h1⟩,fun A n c h4=>?_⟩⟩;have h5:=hc 4 _ rfl;rw[h4]at h5;injection h5 with h5;injection h5 with h6 h7 _;subst h6 h7;exact h2) h
 exact aR1
theorem pg_openN{v:Value}{d:DataW H}{ps:List MemPlace}{r:Reach}{b0:Nat}(hv:Value.okWide Tryz.prog w r b0 25 v)(h:DataW.Trod enc Tryz.prog w base spare held 25 v d ps):
 ∃(p:Pg)(E:Option Addr)(ec:Nat)(N:Option Addr)(nc:Nat),v=.agg (aK p E ec N nc)/\cJ w p E N/\sB w N p.ns.length:=by
 obtain⟨cs,rfl,hs⟩:=okWide_struct Tryz.underlying25 hv;obtain⟨Bp,hf⟩:=h;rw[aZx]at hs;have hl:(Value.agg cs).cells.toList.length=2:=by simpa[Value.cells]using hs
 obtain⟨ys,m,_,_,_,hy,Aq⟩:=DataW.trod_struct Tryz.underlying25 hf;obtain⟨v0,v1,hcs⟩:∃v0 v1,(Value.agg cs).cells.toList=[v0,v1]:=by
  match (Value.agg cs).cells.toList,hl with
  |[v0,v1],_=>exact⟨v0,v1,rfl⟩
 rw[hcs]at Aq
 match ys,hy with
 |[y0,y1],_=>
  have t0:=Aq 0 _ rfl;have t1:=Aq 1 _ rfl;simp[aZw,aZv]at t0 t1;obtain⟨N,nn,nc,ns,rfl,hN,hC⟩:=aTn t1;obtain⟨E,en,ec,rfl⟩:∃A n c,v0=.slice A n c:=by
   rcases open_slice Tryz.underlying22 t0 with⟨h2,_⟩|⟨a,len,cap,m,nn,D,Pl,h2,_⟩;· simp at h2;exact⟨_,_,_,h2⟩
   . simp at h2;exact⟨_,_,_,h2⟩
  obtain⟨es,hE⟩:=aUl t0;have h1:=hE.len;have h2:=aI.len hN;subst h1 h2;refine⟨⟨es,ns⟩,E,ec,N,nc,?_,⟨hE,hN⟩,hC⟩;congr 1;apply Array.toList_inj.1;simpa[Value.cells,aK]using hcs
end
end
end Go.Proofs.YtkbpdoomhfkngaaGreat
