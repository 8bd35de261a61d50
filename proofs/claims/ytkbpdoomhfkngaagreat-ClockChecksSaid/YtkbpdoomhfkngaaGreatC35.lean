/- A part of the proof. Conditions: each theorem's own. -/
import Derived.Test.YtkbpdoomhfkngaaGreatC31
import Derived.Test.YtkbpdoomhfkngaaGreatC32
namespace Go.Proofs.YtkbpdoomhfkngaaGreat
set_option linter.unusedVariables false
set_option linter.unusedSimpArgs false
set_option maxRecDepth 100000
set_option maxHeartbeats 40000000
section
open Go.RowKit Go.Sort Go.BigFrame
theorem bFi{w w':World}{o:Option (List Cd)}{e:Ending}(h:vJ w o e w'):(∃A c,e=.returned (.tuple #[.slice A (o.getD []).length c,.bool o.isSome])/\bW w' A (o.getD []).length (o.getD []))/\Below w.heap.size w w':=by
 obtain⟨hb,h⟩:=h;cases o with
 |none=>exact⟨⟨none,0,h,aI.nil_ _ _ _⟩,hb⟩
 |some l=>
  obtain⟨A,c,h1,h2⟩:=h;exact⟨⟨A,c,h1,h2⟩,hb⟩
theorem aI1(p:Pg)(E:Option Addr)(ec:Nat)(N:Option Addr)(nc:Nat)(i:Nat)(s:ByteArray)(w:World)(h:cJ w p E N)(hi:i<p.ns.length)(hn:(aB p i).all.length<=1000):
 Calls Tryz.prog 21 #[.agg (aK p E ec N nc),.int .i64 i,.string s] w fun e w'=>(∃A c,e=.returned (.tuple #[.slice A (eY p i s).length c,.bool (cR p.es (aB p i) s).isSome])/\bW w' A (eY p i s).length (eY p i s))/\Below w.heap.size w w':=
 (yK p E ec N nc i s w h hi hn).mono fun e w' h=>bFi h
theorem bB4(p:Pg)(i:Nat)(s:ByteArray):(eY p i s).length<=1000:=by
 unfold eY;cases h:cR p.es (aB p i) s with
 |none=>simp
 |some r=>exact aDj h
theorem bB5(p:Pg)(i:Nat)(q:Qn):lY p i q=(q.ns.all (fun s=>dD (eY p i s) (eY p i (q.ns[0]?.getD ByteArray.empty))) && gX p.es (aB p i) q.x (eY p i (q.ns[0]?.getD ByteArray.empty))):=rfl
theorem bG2{α:Type}[Inhabited α]{l:List α}{f:α->Bool}(h:∀j,j<l.length->f (l[j]?.getD default)=true):l.all f=true:=by
 rw[Zg];intro x hx;obtain⟨j,hj,rfl⟩:=Zj hx
 have:=h j hj
 exact vT
theorem bFj(p:Pg)(E:Option Addr)(ec:Nat)(N:Option Addr)(nc:Nat)(i:Nat)(q:Qn)(BN:Option Addr)(cN:Nat)(A:Option Addr)(ca:Nat)(B:Option Addr)(cb:Nat)(w:World)(h:cJ w p E N)(hn:aP w BN q.ns.length q.ns)(hx:aH w q.x A B)(hi:i<p.ns.length)(Bh:(aB p i).all.length<=1000)(h0:0<q.ns.length)(hs:bD q.x<=1000000):
 Calls Tryz.prog 23 #[.agg (aK p E ec N nc),.int .i64 i,.agg (dW q BN cN A ca B cb)] w fun e w'=>e=.returned (.bool (lY p i q))/\Below w.heap.size w w':=by
 have HF:=Hd fun w0 hw=>gH (w:=w) (w1:=w0) (cs:=aK p E ec N nc) (ds:=dW q BN cN A ca B cb) (T:=25) (U:=54) hw;have Bm:=Hd fun s w1 (hb:Below w.heap.size w w1)=>aI1 p E ec N nc i s w1 (h.below hb) hi Bh;have Hc:=Hd fun S m c row w1 (hb:Below w.heap.size w w1)(hr:bW w1 S m row)(hm:m<=1000)=>bBz p E ec N nc i hi Bh q.x A ca B cb S m c row w1 (h.below hb) (hx.below hb) hr hs aA;have Hh:=Hd fun k (hk:k<q.ns.length)=>aP.cellC (k:=k) hn hk;have HC:=Hd (bB5 p i q);have Cj:=Hd fun k (hk:k<q.ns.length)(h:dD (eY p i (q.ns[k]?.getD ByteArray.empty)) (eY p i (q.ns[0]?.getD ByteArray.empty))=false)=>nG (l:=q.ns) (f:=fun s=>dD (eY p i s) (eY p i (q.ns[0]?.getD ByteArray.empty))) hk h;have Dl:=Hd fun(h:∀k,k<q.ns.length->dD (eY p i (q.ns[k]?.getD ByteArray.empty)) (eY p i (q.ns[0]?.getD ByteArray.empty))=true)=>bG2 (l:=q.ns) (f:=fun s=>dD (eY p i s) (eY p i (q.ns[0]?.getD ByteArray.empty))) h;have Fa:=Hd (bB4 p i);have Ba:=hn.2.1;clear h hn hx;generalize lY p i q=Au at *;generalize (q.ns.all fun s=>dD (eY p i s) (eY p i (q.ns[0]?.getD ByteArray.empty)))=al at *;unfold aK dW at *;unfold aE at Hc;generalize p.ns.length=pn at *;generalize Om:p.es=es at *;generalize es.length=pe at *;generalize q.x.arms.length=xa at *;generalize q.x.subs.length=xs at *;generalize Ol:q.ns.length=ql at *;go_in
 go_upto_region 1 with(fail);generalize Ai:(w.alloc _).alloc _=w0;obtain⟨Ae,Al,hp,hq⟩:=HF.o w0 Ai;have Af:=Hd Ae;have HP:=Hd hp;have HX:=Hd hq;have p0:=hp w0 (Yg _ _) 0;have p1:=hp w0 (Yg _ _) 1;have q0:=hq w0 (Yg _ _) 0;simp only[Ya,Yb,Yc]at p0 p1 q0;obtain⟨tb,Ny,rfl,Ob,t0⟩:=Hh.o 0 h0;have t0:=(Ae.cell (p:=⟨tb,Ny+0,none⟩) Ob).trans t0;simp only[Nat.add_zero]at t0;have Jx:=Hd fun W (hb:Below w0.heap.size w0 W)=>Bm.o (q.ns[0]?.getD ByteArray.empty) W (aV Af.o hb);have Jr:=Hd (Fa.o (q.ns[0]?.getD ByteArray.empty));have On:(0:Int)<(ql:Int):=aA;clear Ai Ae Al hp hq HF;generalize q.ns[0]?.getD ByteArray.empty=s0 at *;generalize Of:eY p i s0=Aq at *;clear Of;generalize (cR es (aB p i) s0).isSome=Ok at *;go_upto_region 1 with(fail);have HK:=Hd fun Wz (Mi:Below w0.heap.size w0 Wz)=>And.intro True.intro (And.intro ((Mi.cell (Yi _ _ p0)).trans p0) (And.intro ((Mi.cell (Yi _ _ p1)).trans p1) (And.intro ((Mi.cell (Yi _ _ q0)).trans q0) (And.intro ((Mi.cell (Yi _ _ t0)).trans t0) (True.intro)))));refine wp_region_held_drew (S:=fun Wz=>Below w0.heap.size w0 Wz) aC ?_ (fun hHeld=>?_);· exact vU
 refine aN (i:=0) hHeld ?_
 (try simp only[Act.put,Yd,Ye,Yf])
 refine aN (i:=1) hHeld ?_
 (try simp only[Act.put,Yd,Ye,Yf])
 refine aN (i:=2) hHeld ?_
 (try simp only[Act.put,Yd,Ye,Yf])
 refine aN (i:=3) hHeld ?_
 (try simp only[Act.put,Yd,Ye,Yf])
 refine aN (i:=4) hHeld ?_
 (try simp only[Act.put,Yd,Ye,Yf])
 refine aN (i:=5) hHeld ?_
 (try simp only[Act.put,Yd,Ye,Yf])
 refine Xf (rs:=[6]) aC aG ?_;refine Zk aX (fun K hK=>?_) Zl;go_simp
 (go_at_call 21;(with_reducible refine(Jx.o _ ?hx).mono ?_);(case hx=>exact hHeld);rintro e Wn ⟨⟨S0,c0,rfl,Nu⟩,hq⟩;have Aw:=Hd (hHeld.tr hq);have Bx:=Hd Nu;clear Nu;clear hq)
 go_wp2_with fail;refine hK.out _ _ ?_ (fun hHeld=>?_);· exact Aw.o
 clear hK K
 (try simp only[Act.put,Yd,Ye,Yf])
 refine aN (i:=7) hHeld ?_
 (try simp only[Act.put,Yd,Ye,Yf])
 refine aN (i:=8) hHeld ?_
 (try simp only[Act.put,Yd,Ye,Yf])
 refine aN (i:=9) hHeld ?_
 (try simp only[Act.put,Yd,Ye,Yf])
 refine aN (i:=10) hHeld ?_
 (try simp only[Act.put,Yd,Ye,Yf])
 refine aN (i:=11) hHeld ?_
 (try simp only[Act.put,Yd,Ye,Yf])
 refine wpAnyH_done aC ?_ _;have Db:=Hd Bx.o;have Ac:=Hd (aV Af.o Aw.o);have Fp:=Hd fun W (b:Below Wn.heap.size Wn W) j=>HP.o W (aV Aw.o b) j;have Ff:=Hd fun W (b:Below Wn.heap.size Wn W) j=>HX.o W (aV Aw.o b) j;have Oi:=aI.max Bx.o;clear Bx Aw HP HX Jx p0 p1 q0 t0 Af;generalize Wn=w1 at *;generalize Oc:Aq.length=m0 at *;clear Oc;go_wp2_with fail;go_loopw [9] (fun c wr=>∃k:Nat,k<=ql/\c=.int .i64 k/\(∀j,j<k->dD (eY p i (q.ns[j]?.getD ByteArray.empty)) Aq=true)/\Below w1.heap.size w1 wr) (fun c _=>ql-(intOf c).toNat)
 case atStart=>exact⟨0,Yq _,rfl,fun j hj=>absurd hj aA,Yg _ _⟩
 case round=>
  obtain⟨k,hk,rfl,Bc,Ay⟩:=hrel;have Cg:=Hd Bc;have Cm:=Hd Ay;have Bo:=Hd (aV Ac.o Ay);have p0:=Fp.o wr Ay 0;have p1:=Fp.o wr Ay 1;have q0:=Ff.o wr Ay 0;simp only[Ya,Yb,Yc]at p0 p1 q0;clear Bc;by_cases Ah:k<ql
  . obtain⟨Oh,Od,Nv,Nw,t0⟩:=Hh.o k Ah;injection Nv with Nv;injection Nv with Oe Og _;subst Oe Og;have t0:=(Bo.o.cell (p:=⟨tb,Ny+k,none⟩) Nw).trans t0;have Jx:=Hd fun W (hb:Below wr.heap.size wr W)=>Bm.o (q.ns[k]?.getD ByteArray.empty) W (aV Bo.o hb);have Fi:=Hd (Cj.o k Ah);have Cf:=Hd fun(h:dD (eY p i (q.ns[k]?.getD ByteArray.empty)) Aq=true)=>dC (P:=fun j=>dD (eY p i (q.ns[j]?.getD ByteArray.empty)) Aq=true) Cg.o h;clear Ay;generalize q.ns[k]?.getD ByteArray.empty=sk at *;generalize Nz:eY p i sk=Bp at *;clear Nz;generalize (cR es (aB p i) sk).isSome=Oj at *;go_upto_region 5 with(fail);have HK:=Hd fun Wz (Mi:Below wr.heap.size wr Wz)=>And.intro True.intro (And.intro ((Mi.cell (Yi _ _ p0)).trans p0) (And.intro ((Mi.cell (Yi _ _ p1)).trans p1) (And.intro ((Mi.cell (Yi _ _ q0)).trans q0) (And.intro ((Mi.cell (Yi _ _ t0)).trans t0) (True.intro)))));refine wp_region_held_drew (S:=fun Wz=>Below wr.heap.size wr Wz) aC ?_ (fun hHeld=>?_);· exact(Yg wr.heap.size wr).drew
    refine aN (i:=0) hHeld ?_
    (try simp only[Act.put,Yd,Ye,Yf])
    refine aN (i:=1) hHeld ?_
    (try simp only[Act.put,Yd,Ye,Yf])
    refine aN (i:=2) hHeld ?_
    (try simp only[Act.put,Yd,Ye,Yf])
    refine aN (i:=3) hHeld ?_
    (try simp only[Act.put,Yd,Ye,Yf])
    refine aN (i:=4) hHeld ?_
    (try simp only[Act.put,Yd,Ye,Yf])
    refine aN (i:=5) hHeld ?_
    (try simp only[Act.put,Yd,Ye,Yf])
    refine aN (i:=6) hHeld ?_
    (try simp only[Act.put,Yd,Ye,Yf])
    refine Xf (rs:=[7]) aC aG ?_;refine Zk aX (fun K hK=>?_) Zl;go_simp
    (go_at_call 21;(with_reducible refine(Jx.o _ ?hx).mono ?_);(case hx=>exact hHeld);rintro e Wm ⟨⟨S9,c9,rfl,Nu⟩,hq⟩;have Nx:=Hd (hHeld.tr hq);have Bx:=Hd Nu;clear Nu;clear hq)
    go_wp2_with fail;refine hK.out _ _ ?_ (fun hHeld=>?_);· exact Nx.o
    clear hK K
    (try simp only[Act.put,Yd,Ye,Yf])
    refine aN (i:=8) hHeld ?_
    (try simp only[Act.put,Yd,Ye,Yf])
    refine aN (i:=9) hHeld ?_
    (try simp only[Act.put,Yd,Ye,Yf])
    refine aN (i:=10) hHeld ?_
    (try simp only[Act.put,Yd,Ye,Yf])
    refine aN (i:=11) hHeld ?_
    (try simp only[Act.put,Yd,Ye,Yf])
    refine aN (i:=12) hHeld ?_
    (try simp only[Act.put,Yd,Ye,Yf])
    refine wpAnyH_done aC ?_ _;have Oa:=aI.max Bx.o;have Fu:=Hd (xT S9 Bp.length c9 Bp S0 m0 c0 Aq Wm Bx.o ((Db.o.below Cm.o).below Nx.o));generalize dD Bp Aq=sm at *;generalize Bp.length=mk at *;clear p0 p1 q0 t0 Jx Bx;go_wp2_with fail;refine Fu.o.mono ?_;rintro e w5 ⟨rfl,Bv⟩;have Ck:=Hd (aV Nx.o Bv);clear Bv Fu;cases sm with
    |false=>
     have HO:=Hd (show Au=false by rw[HC.o,Fi.o rfl];rfl);go_wp2_with fail;go_ret;exact⟨gF HO.o.symm,aV Bo.o Ck.o⟩
    |true=>
     have Dx:=Hd (Cf.o rfl);go_wp2_with fail;go_roundw;case rel=>exact⟨k+1,by omega,by go_num,Dx.o,aV Cm.o Ck.o⟩
     case measure=>simp[intOf];omega
  . obtain rfl:k=ql:=by omega
    have HO:=Hd (show Au=gX es (aB p i) q.x Aq by rw[HC.o,Dl.o fun j hj=>Cg.o j hj];rfl);have Nt:=Hd (Hc.o S0 m0 c0 Aq wr Bo.o (Db.o.below Ay) Jr.o);obtain⟨-,q1,q2,q3,q4,q5⟩:=Sx (Ff.o wr Ay);have q6:=Ff.o wr Ay 6;simp only[Ya,Yb,Yc]at q1 q2 q3 q4 q5 q6;clear Ay;generalize gX es (aB p i) q.x Aq=ft at *;go_wp2_with fail;refine Nt.o.mono ?_;rintro e w5 ⟨rfl,Bv⟩;have Ck:=Hd (aV Bo.o Bv);clear Bv Nt p0 p1 q0 q1 q2 q3 q4 q5 q6;exact aEm
theorem aVq(p:Pg)(E:Option Addr)(ec:Nat)(N:Option Addr)(nc:Nat)(w:World)(h:cJ w p E N)(ht:gU p):
 Calls Tryz.prog 8 #[.agg (aK p E ec N nc)] w fun e w'=>e=.returned (jS (iW p))/\Below w.heap.size w w':=by
 have HF:=Hd fun w1 hw=>kW w p E ec N nc w1 hw h;have Fr:=Hd fun w1 (a:Below w.heap.size w w1)=>aXv p E ec N nc w1 (h.below a) ht;have Hc:=Hd yE;have Cs:=Hd fun k r h0 hk hn h hr=>aVm (p:=p) (k:=k) (r:=r) h0 hk hn h hr;have Cj:=Hd fun h0 hn=>aYh (p:=p) h0 hn;have Gr:=Hd fun h0=>aVn (p:=p) h0;have Pa:=Hd fun i (hi:i<p.ns.length)=>(mH (ht.2.2 i hi)).1;have Bm:=Hd fun i s (hi:i<p.ns.length) w1 (hb:Below w.heap.size w w1)=>aI1 p E ec N nc i s w1 (h.below hb) hi (mH (ht.2.2 i hi)).1;have HQ:=Hd fun(hz:dS p=(0,0,0)) i j (hi:i<p.ns.length)(hj:j<(aB p i).eqs.length) BN cN A ca B cb w1 (hb:Below w.heap.size w w1)(hn:aP w1 BN ((aB p i).eqs[j]?.getD default).ns.length ((aB p i).eqs[j]?.getD default).ns)(hx:aH w1 ((aB p i).eqs[j]?.getD default).x A B)=>
  bFj p E ec N nc i _ BN cN A ca B cb w1 (h.below hb) hn hx hi (mH (ht.2.2 i hi)).1 (aCy (sZ (aJ6 hz)) hi hj).1 (uM ((ht.2.2 i hi).2.2.2.2.2 j hj).2.1)
 have Eg:=Hd h.2;have Qe:=aI.max h.2;clear h ht;unfold jS at Fr;generalize iW p=Bu at *;generalize dS p=cs at *;obtain⟨fa,fb,fc⟩:=cs;unfold aK at HF Fr HQ Bm⊢;generalize Qi:p.ns.length=pn at *;generalize Qg:p.es.length=pe at *;go_in
 go_upto_region 1 with(fail);generalize Ag:w.alloc _=w1;obtain⟨Aa,Pr,Av,Aq⟩:=HF.o w1 Ag;generalize Br:w1.alloc _=w2;obtain⟨Ad,Oe,hg2⟩:=lV Br;simp only[Pr]at Oe;have Ce:=Hd Oe;have Aj:=Hd (Aa.tr Ad);have Ny:=Hd fun W (b:Below w2.heap.size w2 W) j=>Aq W (Ad.tr b) j;have y0:=Ny.o w2 (Yg _ _) 0;have y1:=Ny.o w2 (Yg _ _) 1;simp only[Ya,Yb,Yc]at y0 y1;have Pj:=Hd (Fr.o w2 Aj.o);clear Ag Br Aq Aa Ad Av HF hg2 Oe Fr;go_wp2_with fail;refine Pj.o.mono ?_;rintro e w3 ⟨rfl,Ak⟩;have Ax:=Hd (Aj.o.tr Ak);have Px:=Hd (Ce.o.below Ak);have Gj:=Hd fun W (b:Below w3.heap.size w3 W) j=>Ny.o W (Ak.tr b) j;clear Ak y0 y1 Ny Pj Ce;simp only[aF];go_upto_region 2 with(fail);generalize Jy:w3.alloc _=w8;have Hn:Below w3.heap.size w3 w8:=aE5;have On:F3 30 w8 w3.heap.size fa fb fc:=aE6;obtain⟨z0,z1,z2,-,-,-⟩:=Sx On.cell;simp only[aF,List.getElem?_toArray,Yz,Zb]at z0 z1 z2;have Jq:=Hd (Ax.o.tr Hn);have Je:=Hd (Px.o.below Hn);have Jx:=Hd fun W (b:Below w8.heap.size w8 W) j=>Gj.o W (Hn.tr b) j;clear Jy Hn On Gj;by_cases hz:((fa,fb,fc):Fl)=(0,0,0)
 . have Py:=hz;injection hz with ha Iv;injection Iv with hb hc;subst ha hb hc;go_wp2_with fail;clear Py z0 z1 z2;go_loopw [4] (fun c wr=>∃k:Nat,k<=pn/\c=.int .i64 k/\(∀a,a<k->fU p a=(0,0,0))/\Below w8.heap.size w8 wr) (fun c _=>pn-(intOf c).toNat)
   case atStart=>exact⟨0,Yq _,rfl,fun a ha=>absurd ha aA,Yg _ _⟩
   case round=>
    obtain⟨k,hk,rfl,Bc,Ay⟩:=hrel;have Cg:=Hd Bc;have Cm:=Hd Ay;have Fb:=Hd (Jq.o.tr Ay);have Db:=Hd (Je.o.below Ay);have y0:=Jx.o wr Ay 0;have y1:=Jx.o wr Ay 1;simp only[Ya,Yb,Yc]at y0 y1;clear Bc Ay;by_cases Ah:k<pn
    . obtain⟨nb,no,A1,c1,A2,c2,A3,c3,A4,c4,rfl,Nu,Ap,d0,d1,d2,d3,d4⟩:=iR Eg.o Ah;have Eb:aB p k=p.ns[k]?.getD default:=rfl;have Nx:=Hd fun w1 (hb:Below w.heap.size w w1)=>tE (aB p k) A1 c1 A2 c2 A3 c3 A4 c4 w1 (Ap.below hb) (Pa.o k Ah);have Ok:=Hd (show gN w A4 (aB p k).eqs.length (aB p k).eqs from Ap.2.2.2);have Oy:=Hd fun j=>HQ.o pF k j Ah;have Pi:=Hd fun s=>Bm.o k s Ah;have Nw:=Hd fun j (hj:j<(aB p k).all.length)(h:jH p k ((aB p k).all[j]?.getD default)=false)=>Cs.o k _ pF Ah Cg.o (aVl hj h) rfl;have Nt:=Hd fun j h0 (hj:j<(aB p k).eqs.length) hn (h:lY p k ((aB p k).eqs[j]?.getD default)=false)=>Cs.o k _ pF Ah Cg.o (aYf h0 hj hn h) rfl;have Jz:=Hd fun h0 h1=>dC (P:=fun a=>fU p a=(0,0,0)) Cg.o (aYg (p:=p) (i:=k) h0 h1);have Ph:=Hd fun d=>(show jH p k d=(cR p.es (aB p k) d.nm).isSome from rfl);rw[Eb]at Nx Ok Oy Pi Nw Nt Jz Ph;unfold uT at Nx;clear Ap Eb Pa HQ Cs Cg Bm
      have HD:=Hd (show ∀ w1,Below w.heap.size w w1->w1.cell? ⟨nb,no+k*5,none⟩=some (.string (p.ns[k]?.getD default).nm)/\w1.cell? ⟨nb,no+k*5+1,none⟩=some (.slice A1 (p.ns[k]?.getD default).ins.length c1)/\w1.cell? ⟨nb,no+k*5+2,none⟩=some (.slice A2 (p.ns[k]?.getD default).outs.length c2)/\w1.cell? ⟨nb,no+k*5+3,none⟩=some (.slice A3 (p.ns[k]?.getD default).vars.length c3)/\w1.cell? ⟨nb,no+k*5+4,none⟩=some (.slice A4 (p.ns[k]?.getD default).eqs.length c4) from
       fun w1 hb=>⟨(hb.cell (p:=⟨nb,no+k*5,none⟩) Nu).trans d0,(hb.cell (p:=⟨nb,no+k*5+1,none⟩) Nu).trans d1,(hb.cell (p:=⟨nb,no+k*5+2,none⟩) Nu).trans d2,(hb.cell (p:=⟨nb,no+k*5+3,none⟩) Nu).trans d3,(hb.cell (p:=⟨nb,no+k*5+4,none⟩) Nu).trans d4⟩)
      clear d0 d1 d2 d3 d4;generalize p.ns[k]?.getD default=nd at *;unfold bK at Nx;obtain⟨d0,d1,d2,d3,d4⟩:=HD.o wr Fb.o;have Ov:=Hd (Nx.o wr Fb.o);generalize nd.all=al at *;generalize Qc:al.length=an at *;generalize jH p k=on at *;generalize lY p k=Oj at *;go_wp2_with fail;refine Ov.o.mono ?_;rintro e w5 ⟨LA,LC,rfl,Ou,Bv⟩;have Oq:=Hd Ou;have Og:=Hd (Cm.o.tr Bv);have Ck:=Hd (Fb.o.tr Bv);have Qa:=Hd (Db.o.below Bv);clear Ou Bv y0 y1 d0 d1 d2 d3 d4 Ov Nx Db;generalize wr=wo at *;have Qd:=aI.max Oq.o;go_wp2_with fail;go_loopw [6] (fun c wr=>∃j:Nat,j<=an/\c=.int .i64 j/\(∀a,a<j->on (al[a]?.getD default)=true)/\Below w5.heap.size w5 wr) (fun c _=>an-(intOf c).toNat)
      case atStart=>exact⟨0,Yq _,rfl,fun a ha=>absurd ha aA,Yg _ _⟩
      case round=>
       obtain⟨j,hj,rfl,Oa,Bx⟩:=hrel;have Pp:=Hd Oa;have Pv:=Hd Bx;have Nv:=Og.o.tr Bx;have Od:=Hd Nv;have Oi:=Hd (Ck.o.tr Bx);have Ox:=Hd (Qa.o.below Bx);have y0:=Jx.o wr Nv 0;have y1:=Jx.o wr Nv 1;simp only[Ya,Yb,Yc]at y0 y1;by_cases Oz:j<an
       . obtain⟨lb,lo,Pq,Pm,Ow⟩:=aI.at_ Oq.o aA;have s0:=(Bx.cell (p:=⟨lb,lo+j*6,none⟩) Pm).trans (Ow j Oz 0 _ rfl);subst Pq;have Qb:=Hd (Nw.o j Oz);have Pn:=Hd fun hz=>dC (P:=fun a=>on (al[a]?.getD default)=true) Pp.o hz;have Pe:=Hd (Ph.o (al[j]?.getD default));clear Oa Bx Nv Ow Pm;generalize al[j]?.getD default=d at *;have Om:=Hd fun W (hb:Below wr.heap.size wr W)=>Pi.o d.nm W (Oi.o.tr hb);generalize d.nm=Pf at *;generalize (cR p.es nd Pf).isSome=Pw at *;generalize eY p k Pf=Of at *;generalize on d=od at *;go_upto_region 11 with(fail);have HK:=Hd fun Wz (Mi:Below wr.heap.size wr Wz)=>And.intro True.intro (And.intro ((Mi.cell (Yi _ _ y0)).trans y0) (And.intro ((Mi.cell (Yi _ _ y1)).trans y1) (And.intro ((Mi.cell (Yi _ _ s0)).trans s0) (True.intro))));refine wp_region_held_drew (S:=fun Wz=>Below wr.heap.size wr Wz) aC ?_ (fun hHeld=>?_);· exact(Yg wr.heap.size wr).drew
         refine aN (i:=0) hHeld ?_
         (try simp only[Act.put,Yd,Ye,Yf])
         refine aN (i:=1) hHeld ?_
         (try simp only[Act.put,Yd,Ye,Yf])
         refine aN (i:=2) hHeld ?_
         (try simp only[Act.put,Yd,Ye,Yf])
         refine aN (i:=3) hHeld ?_
         (try simp only[Act.put,Yd,Ye,Yf])
         refine aN (i:=4) hHeld ?_
         (try simp only[Act.put,Yd,Ye,Yf])
         refine aN (i:=5) hHeld ?_
         (try simp only[Act.put,Yd,Ye,Yf])
         refine aN (i:=6) hHeld ?_
         (try simp only[Act.put,Yd,Ye,Yf])
         refine Xf (rs:=[7]) aC aG ?_;refine Zk aX (fun K hK=>?_) Zl;go_simp
         (go_at_call 21;(with_reducible refine(Om.o _ ?hx).mono ?_);(case hx=>exact hHeld);rintro e Wm ⟨⟨S9,c9,rfl,Pk⟩,hq⟩;have Nz:=Hd (hHeld.tr hq);have Po:=Hd Pk;clear Pk;clear hq)
         go_wp2_with fail;refine hK.out _ _ ?_ (fun hHeld=>?_);· exact Nz.o
         clear hK K
         (try simp only[Act.put,Yd,Ye,Yf])
         refine aN (i:=8) hHeld ?_
         (try simp only[Act.put,Yd,Ye,Yf])
         refine aN (i:=9) hHeld ?_
         (try simp only[Act.put,Yd,Ye,Yf])
         refine aN (i:=10) hHeld ?_
         (try simp only[Act.put,Yd,Ye,Yf])
         refine aN (i:=11) hHeld ?_
         (try simp only[Act.put,Yd,Ye,Yf])
         refine aN (i:=12) hHeld ?_
         (try simp only[Act.put,Yd,Ye,Yf])
         refine wpAnyH_done aC ?_ _;have Fq:=Hd (Pv.o.tr Nz.o);have Ob:=Hd (Oi.o.tr Nz.o);have Le:=Hd (Ox.o.below Nz.o);clear y0 y1 s0 Om Po;generalize Of.length=mk at *;cases Pw with
         |true=>
          have Dg:=Hd (Pn.o Pe.o);go_wp2_with fail;go_roundw;case rel=>exact⟨j+1,by omega,by go_num,Dg.o,Fq.o⟩
          case measure=>simp[intOf];omega
         |false=>
          have HR:=Hd (Qb.o Pe.o);go_wp2_with fail;refine(Hc.o k (-1) 8 Wm).mono ?_;rintro e wz ⟨rfl,Ej⟩;have Es:=Hd (Le.o.below Ej);have Hk:=Hd (Ob.o.tr Ej);clear Ej;go_wp2_with (refine Zv rfl _ _ _ rfl (w.heap.size+1) _ rfl rfl _ _ Es.o eT rfl fI ?_);exact Zu (fC (p:=2) rfl _ _ (w.heap.size+1) k (-1) 8 rfl (Es.o.set _ _ _)) rfl ⟨by rw[HR.o];rfl,Xc Hk.o (Nat.le_succ _) _⟩
       . have Kz:j=an:=by omega
         subst Kz;have Dl:=Hd Oa;have Qf:=aI.max Ok.o;generalize Qh:nd.eqs.length=en at *;clear Oa Bx Nv y0 y1;generalize wr=wi at *;go_wp2_with fail;go_loopw [9] (fun c wr=>∃q:Nat,q<=en/\c=.int .i64 q/\(∀a,a<q->Oj (nd.eqs[a]?.getD default)=true)/\Below wi.heap.size wi wr) (fun c _=>en-(intOf c).toNat)
         case atStart=>exact⟨0,Yq _,rfl,fun a ha=>absurd ha aA,Yg _ _⟩
         case round=>
          obtain⟨q,hq,rfl,Lf,Ge⟩:=hrel;have Kp:=Hd Lf;have Kw:=Od.o.tr Ge;have Mj:=Hd Kw;have Ji:=Hd Ge;have Gt:=Oi.o.tr Ge;have Pb:=Hd Gt;have Db:=Hd (Ox.o.below Ge);have y0:=Jx.o wr Kw 0;have y1:=Jx.o wr Kw 1;simp only[Ya,Yb,Yc]at y0 y1;have d4:=(HD.o wr Gt).2.2.2.2;by_cases Oc:q<en
          . obtain⟨qb,qo,Pz,Bp,Ot⟩:=aI.at_ Ok.o aA;obtain⟨BN,cN,A',ca,B',cb,Fc,Pd,e0,e1,e2,e3,e4,e5,e6⟩:=(Ot q Oc).seven;subst Pz;have u0:=(Gt.cell (p:=⟨qb,qo+q*7,none⟩) Bp).trans e0;have u1:=(Gt.cell (p:=⟨qb,qo+q*7+1,none⟩) Bp).trans e1;have u2:=(Gt.cell (p:=⟨qb,qo+q*7+2,none⟩) Bp).trans e2;have u3:=(Gt.cell (p:=⟨qb,qo+q*7+3,none⟩) Bp).trans e3;have u4:=(Gt.cell (p:=⟨qb,qo+q*7+4,none⟩) Bp).trans e4;have u5:=(Gt.cell (p:=⟨qb,qo+q*7+5,none⟩) Bp).trans e5;have u6:=(Gt.cell (p:=⟨qb,qo+q*7+6,none⟩) Bp).trans e6;have Pc:=Hd fun w1 (hb:Below w.heap.size w w1)=>Oy.o q Oc BN cN A' ca B' cb w1 hb (Fc.below hb) (Pd.below hb);have Oo:=Hd fun W (hb:Below wr.heap.size wr W)=>Pc.o W (Pb.o.tr hb);have Pu:=Hd (Nt.o q Dl.o Oc Kp.o);have Lq:=Hd fun hz=>dC (P:=fun a=>Oj (nd.eqs[a]?.getD default)=true) Kp.o hz;clear e0 e1 e2 e3 e4 e5 e6 Fc Pd Ot Bp Lf Ge Kw Gt Kp Pc;generalize nd.eqs[q]?.getD default=qq at *;unfold dW at Oo;generalize Oj qq=bm at *;go_wp2_with fail;go_upto_region 17 with(fail);have l0:=fun d os=>Zs y0 d os;have l1:=fun d os=>Zs y1 d os;have l2:=fun d os=>Zs d4 d os;have l3:=fun d os=>Zs u0 d os;have l4:=fun d os=>Zs u1 d os;have l5:=fun d os=>Zs u2 d os;have l6:=fun d os=>Zs u3 d os;have l7:=fun d os=>Zs u4 d os;have l8:=fun d os=>Zs u5 d os;have l9:=fun d os=>Zs u6 d os;have Ps:=Hd fun d os=>Zt wr d os;have Ol:=fun d os=>Zi (Oo.o (grow (redrawn wr d) os) (Zt wr d os));refine Xa aC aC ?_;repeat (go_big_quiet_step (first|with_reducible exact Ol _ _))
            refine Xg ?_;intro _ Cy;obtain⟨⟨dq,Bj⟩,Bl⟩:=Cy;subst Bl;have Hk:=Hd (Ps.o dq Bj);clear l0 l1 l2 l3 l4 l5 l6 l7 l8 l9 Ol y0 y1 d4 u0 u1 u2 u3 u4 u5 u6;have Ob:=Hd (Pb.o.tr Hk.o);have Ml:=Hd (Ji.o.tr Hk.o);have Le:=Hd (Db.o.below Hk.o);cases bm with
            |true=>
             exact aM8
            |false=>
             have HR:=Hd (Pu.o rfl);go_wp2_with fail;refine(Hc.o k q 8 _).mono ?_;rintro e wz ⟨rfl,Ej⟩;have Es:=Hd (Le.o.below Ej);have Oh:=Hd (Ob.o.tr Ej);clear Ej;go_wp2_with (refine Zv rfl _ _ _ rfl (w.heap.size+1) _ rfl rfl _ _ Es.o eT rfl fI ?_);exact Zu (fC (p:=2) rfl _ _ (w.heap.size+1) k q 8 rfl (Es.o.set _ _ _)) rfl ⟨by rw[HR.o];rfl,Xc Oh.o (Nat.le_succ _) _⟩
          . exact aL9
    . exact aQ6
 . exact aP4
end
end Go.Proofs.YtkbpdoomhfkngaaGreat
