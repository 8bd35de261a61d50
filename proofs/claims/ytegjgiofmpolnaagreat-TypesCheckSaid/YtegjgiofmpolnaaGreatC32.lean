/- Parts of the proof: TqD, TqE, TqG, ScJ, PgZ. Conditions: each theorem's own. -/
import Derived.Test.YtegjgiofmpolnaaGreatC23
import Derived.Test.YtegjgiofmpolnaaGreatC31
namespace Go.Proofs.YtegjgiofmpolnaaGreat
set_option linter.unusedVariables false
set_option linter.unusedSimpArgs false
set_option maxRecDepth 100000
set_option maxHeartbeats 40000000
section
open Go.RowKit Go.Sort Go.BigFrame
theorem uB{p:Pg}(h:dE p=(0,0,0)):dO p=0:=by
 unfold dE at h
 split at h
 . assumption
 . have:=congrArg (·.2.1) h
   simp at this
theorem rQ{p:Pg}{i:Nat}(ht:gI p) (h0:dO p=0) (hi:i<p.ns.length):(∀ s d,aW (aA p i) s=some d->bH p.es.length d.k d.e d.l=true)/\∀ j,j<(aA p i).eqs.length->jE ((aA p i).eqs[j]?.getD default).x:=by
 have hx:aA p i∈p.ns:=by
  unfold aA;rw [Yk hi];exact Zg hi
 unfold dO pI at h0
 split at h0 <;> try (rename_i he;exact absurd h0 he)
 split at h0 <;> try (cases h0;done)
 split at h0 <;> try (cases h0;done)
 split at h0 <;> try (cases h0;done)
 split at h0 <;> try (cases h0;done)
 rename_i hr
 have h1:=Zf.1 hr _ hx;unfold gH at h1;simp only [Ys] at h1;refine⟨fun s d hd=>?_,fun k hk=>?_⟩
 . unfold aW at hd;have h2:=Zf.1 h1.1.1.1.1 d (List.mem_of_find?_eq_some hd);unfold dZ at h2;simp only [Ys] at h2;simp only [h2]
 . have hm:(aA p i).eqs[k]?.getD default∈(aA p i).eqs:=by
    rw [Yk hk];exact Zg hk
   have h3:=Zf.1 h1.1.1.2 _ hm;unfold gK at h3;simp only [Ys] at h3;have h4:=h3.1.2;unfold bB at h4;simp only [Ys] at h4;have hq:=(ht.2.2 i hi).2.2.2.2.2 k hk;exact⟨tD hq.2.1,fun z hz=>⟨sW hq.2.1 z hz,Zf.1 h4.2 z hz⟩⟩
theorem aFj(p:Pg) (E:Option Addr) (ec:Nat) (N:Option Addr) (nc:Nat) (i:Nat) (x:Ex) (A:Option Addr) (ca:Nat) (B:Option Addr) (cb:Nat) (w:World) (h:cW w p E N) (hx:aJ w x A B) (ht:gI p) (h0:dO p=0) (hi:i<p.ns.length) (hg:jE x):
 Calls Tryz.prog 14 #[.agg (aP p E ec N nc),.int .i64 i,.agg (aE x A ca B cb)] w (aZ w (cG p i x)):=
 aEr p E ec N nc i x A ca B cb w hi (aQ.max h.2) _ fun w1 hb=>aR0 p E ec N nc i hi (aQ.max h.2) (nY (ht.2.2 i hi)).1 (rQ ht h0 hi).1 (aTc p E ec N nc i) x A ca B cb w1 (h.below hb) (hx.below hb) hg
theorem aSm(p:Pg) (E:Option Addr) (ec:Nat) (N:Option Addr) (nc:Nat) (i:Nat) (q:Qn) (BN:Option Addr) (cN:Nat) (A:Option Addr) (ca:Nat) (B:Option Addr) (cb:Nat) (w:World) (h:cW w p E N) (hn:aN w BN q.ns.length q.ns) (hx:aJ w q.x A B) (ht:gI p) (h0:dO p=0) (hi:i<p.ns.length) (hg:jE q.x) (Ac:q.ns.length<=1000):
 Calls Tryz.prog 31 #[.agg (aP p E ec N nc),.int .i64 i,.agg (eM q BN cN A ca B cb)] w fun e w'=>e=.returned (.bool (iT p i q))/\Below w.heap.size w w':=by
 have Aa:q.x.subs.length<=1000000:=by
  have h1:=tG q.x.subs;have h2:=kG q.x;have h3:=hg.1;omega
 exact aPx p E ec N nc i q BN cN A ca B cb w h hn hi (nY (ht.2.2 i hi)).1 (qG hg.self.2) Ac (fun j hj=>Yp (mC (ht.2.2 j hj).2.1).2 (by decide))
  (fun w1 hb=>aFj p E ec N nc i q.x A ca B cb w1 (h.below hb) (hx.below hb) ht h0 hi hg)
  (fun w1 hb=>aCj p E ec N nc i q.x A ca B cb w1 (hx.below hb) q.x.subs.length rfl Aa (q.x.subs.map (cG p i)) (by simp) _ rfl (fun k hk A' Af B' Ad w2 Ab Ae=>by
   rw [rX hk];exact aFj p E ec N nc i (aU q.x k) A' Af B' Ad w2 (h.below (hb.trans (Ab.mono hb.size))) (Ae.below Ab) ht h0 hi (hg.sub hk))) _ rfl
theorem aK8(p:Pg) (E:Option Addr) (ec:Nat) (N:Option Addr) (nc:Nat) (w:World) (h:cW w p E N) (ht:gI p):
 Calls Tryz.prog 9 #[.agg (aP p E ec N nc)] w fun e w'=>e=.returned (kW (gL p))/\Below w.heap.size w w' :=
 aIo p E ec N nc w h ht fun hs i j hi hj BN cN A ca B cb w1 hb hn hx=>
  aSm p E ec N nc i _ BN cN A ca B cb w1 (h.below hb) hn hx ht (uB hs) hi ((rQ ht (uB hs) hi).2 j hj) (Yp ((ht.2.2 i hi).2.2.2.2.2 j hj).1 (by decide))
end
section
open Go.RowKit Go.Sort Go.BigFrame
theorem aK9(p:Pg) (E:Option Addr) (ec:Nat) (N:Option Addr) (nc:Nat) (w:World) (h:cW w p E N)
 (Ab:∀ w,Calls Tryz.prog 7 #[] w fun e w'=>e=.returned (.bool true)/\Below w.heap.size w w')
 (Ap:∀ w,cW w p E N->gI p->Calls Tryz.prog 8 #[.agg (aP p E ec N nc)] w fun e w'=>e=.returned (kW (gL p))/\Below w.heap.size w w'):
 Calls Tryz.prog 3 #[.agg (aP p E ec N nc)] w fun e w'=>e=.returned (.bool true)/\Below w.heap.size w w':=by
 have HF:=Hd fun w1 hw=>kH w p E ec N nc w1 hw h;have Ak:=Hd fun w1 a=>aH0 p E ec N nc w1 a;have HC:=Hd fun w1 a b=>Ap w1 a b;have HR:=Hd fun w1 a b=>aK8 p E ec N nc w1 a b;have Ai:=Hd Ab;clear Ab Ap;unfold aP at Ak HC HR ⊢;unfold kW aC at HC HR;generalize (gL p).1=ra at *;generalize (gL p).2.1=rb at *;generalize (gL p).2.2=rc at *
 go_enter Tryz.func3,Tryz.ntmps3
 go_upto_region 1 with(fail)
 generalize Am:w.alloc _=w1;obtain⟨Al,hg,Ag,Aa⟩:=HF.o w1 Am;have Au:=Hd Al;have Ac:=Hd Aa;have Ah:=Hd Ag;simp only [aP] at Ac;have q0:=Ac.o w1 (Yg _ _) 0;have q1:=Ac.o w1 (Yg _ _) 1;simp only [Ya,Yb,Yc] at q0 q1;clear Am Aa Al HF h Ag
 go_wp2_with fail
 refine(Ak.o w1 Ah.o).mono ?_;rintro e w2 ⟨b,rfl,ht,Ad⟩;have Ao:=Hd (eN Au.o Ad);have Aj:=Hd (Ah.o.below Ad);have q0:=Ac.o w2 Ad 0;have q1:=Ac.o w2 Ad 1;simp only [Ya,Yb,Yc] at q0 q1;clear Ad
 cases b with
 | false=>
  go_wp2_with fail
  refine(Ai.o w2).mono ?_;rintro e w3 ⟨rfl,An⟩;have Af:=Hd (eN Ao.o An);clear An
  go_wp2_with fail
  go_ret
  exact⟨rfl,Af.o⟩
 | true=>
  have HT:=Hd (ht rfl);clear ht
  go_upto_region 3 with(fail)
  have l0:=fun d os=>Zr q0 d os;have l1:=fun d os=>Zr q1 d os;have Ar:=Hd fun d os=>Zs w2 d os;have cA:=fun d os=>Zh (HC.o (grow (redrawn w2 d) os) (Aj.o.below (Zs w2 d os)) HT.o);have cC:=fun d os=>Zh (HR.o (grow (redrawn w2 d) os) (Aj.o.below (Zs w2 d os)) HT.o);have cD:=fun d os=>Zh (Ai.o (grow (redrawn w2 d) os));refine Zz (by kernel_rfl) (by kernel_rfl) ?_
  repeat (go_big_quiet_step (first | with_reducible exact cA _ _ | with_reducible exact cC _ _ | with_reducible exact cD _ _))
  refine Xf ?_;intro _ As;obtain⟨⟨dq,Aq⟩,Ae⟩:=As;subst Ae;have Af:=Hd (eN Ao.o (Ar.o dq Aq));clear cA cC cD l0 l1 q0 q1
  go_wp2_with fail
  go_ret
  exact⟨rfl,Af.o⟩
end
section
open Go.RowKit Go.Sort Go.BigFrame
theorem aBp{x:Ex}(ht:kO x=true) (hr:bB x=true):jE x:=by
 unfold bB at hr;simp only [Ys] at hr;exact⟨tD ht,fun z hz=>⟨sW ht z hz,Zf.1 hr.2 z hz⟩⟩
end
section
open Go.RowKit Go.Sort Go.BigFrame
theorem aIw{p:Pg}{i:Nat}{a:Int}(h:jV p i a 0):dU p i=(0,0,0):=by unfold jV at h;rw [h,if_pos rfl]
theorem aCq{p:Pg}{i:Nat}{a e:Int}(h:jV p i a e) (he:e≠0):dU p i=((i:Int),a,e)/\dU p i≠(0,0,0):=by
 unfold jV at h;rw [if_neg he] at h;exact⟨h,fun h'=>by rw [h] at h';injection h' with _ h';injection h' with _ h';exact he h'⟩
theorem aQt{l:List Nd}{k:Nat}(h:k<l.length):(l.take (k+1)).map Nd.nm=(l.take k).map Nd.nm++[(l[k]?.getD default).nm]:=by
 rw [List.map_take,List.map_take,xG h]
theorem aQu(p:Pg) (E:Option Addr) (ec:Nat) (N:Option Addr) (nc:Nat) (w:World) (h:cW w p E N) (ht:gI p):
 Calls Tryz.prog 22 #[.agg (aP p E ec N nc)] w fun e w'=>e=.returned (kW (dE p))/\Below w.heap.size w w':=by
 have Fa:=@run_makeMap Tryz.prog;have HF:=Hd fun w1 hw=>jR (w:=w) (w1:=w1) (o:=.cells (aP p E ec N nc) 25) hw;have HH:=Hd h;have Cb:=Hd fun w1 (a:Below w.heap.size w w1)=>aQp p E ec N nc w1 (h.below a) ht;have Cd:=Hd fun i (hi:i<p.ns.length) bn A1 c1 A2 c2 A3 c3 A4 c4 w1 (a:cJ w1 (aA p i) A1 A2 A3 A4)=>aNy E p.es.length ec bn (aA p i) A1 c1 A2 c2 A3 c3 A4 c4 w1 a (nY (ht.2.2 i hi)).1 (fun d hd=>((ht.2.2 i hi:jC (aA p i)).ok.2.1 d hd).1);have Bb:=Hd fun(h0:dO p=0) i (hi:i<p.ns.length) bn bv bd mn mv A1 c1 A2 c2 A3 c3 A4 c4 w1 hb Bg hr hN hV hD Be Cc=>aSl p i E ec bn bv bd mn mv A1 c1 A2 c2 A3 c3 A4 c4 w w1 hb Bg h.1 hr hN hV hD Be Cc (aQs ht h0 hi);have Ai:=Hd fun k h0 hk hn h=>aBa (p:=p) (k:=k) h0 hk hn h;have Ah:=Hd fun h0 hn=>aCf (p:=p) h0 hn;have Aa:=Hd fun(h0:¬ dO p=0)=>(show dE p=(0,-1,dO p) by unfold dE;rw [if_neg h0]);have Ea:=Hd fun k (hk:k<p.ns.length)=>aQt (l:=p.ns) (k:=k) hk;have Ep:=Hd fun i (hi:i<p.ns.length)=>(show jC (aA p i) from ht.2.2 i hi);have Fc:=aQ.max h.2;have Ew:=ht.2.1;clear h ht;generalize dE p=Ek at *;generalize dO p=ck at *;unfold vD at Cd;unfold vE at Bb;unfold aP at HF Cb ⊢;generalize Ct:p.ns.length=pn at *;generalize Dv:p.es.length=ne at *;have Er:=Hd Ct;clear Ct Dv
 go_enter Tryz.func22,Tryz.ntmps22
 go_upto_region 1 with(fail)
 generalize Dd:w.alloc _=w1;obtain⟨Bj,Cg,Dl⟩:=HF.o w1 Dd;generalize Dn:w1.alloc _=w2;obtain⟨Bn,Br,Dy⟩:=jA Dn;simp only [Cg] at Br;have Af:=(Bn.block w.heap.size (by omega)).trans Dl;have HZ:=Hd Af;have Cm:=Hd Br;have Bx:=Hd (Bj.trans (Bn.mono Bj.size));have Cv:=Hd (show w.heap.size+1<w2.heap.size by omega);have y0:=bU Af 0;have y1:=bU Af 1;simp only [Ya,Yb,Yc] at y0 y1;have Db:=Hd (Cb.o w2 Bx.o);clear Dd Dn Bj Bn HF Dy Cg Br Dl Af Cb
 go_wp2_with fail
 refine Db.o.mono ?_;rintro e w3 ⟨rfl,Av⟩;have Bp:=Hd (Bx.o.trans (Av.mono Bx.o.size));have Ba:=Hd (Cm.o.below Av);have Bk:=Hd ((Av.block w.heap.size (by have:=Cv.o;omega)).trans HZ.o);have Ay:=Hd (Yr Cv.o Av.size);clear Av y0 y1 Db Cm HZ
 by_cases h0:ck=0
 . have Ei:(ck != 0)=false:=by rw [h0];rfl
   have Bd:=Hd (Bb.o h0);have Aq:=Hd fun k=>Ai.o k h0;have Ao:=Hd (Ah.o h0);clear Bb Ai Ah Aa;have z1:=bU Bk.o 1;simp only [Ya,Yb,Yc] at z1
   go_upto_region 5 with(fail)
   generalize Bf:w3.alloc _=w4;obtain⟨Al,Et,-⟩:=jR Bf;have Cj:=yI Bf;have El:=Hd Cj;have Cl:=Hd (Bp.o.trans (Al.mono Bp.o.size));have Es:=Hd (Ba.o.below Al);have Eb:=Hd ((Al.block w.heap.size (by have:=Ay.o;omega)).trans Bk.o);have Eg:=Hd (Yr Ay.o Al.size);have z4:=(Al.cell (p:=⟨w.heap.size,1,none⟩) (by have:=Ay.o;show w.heap.size<w3.heap.size;omega)).trans z1;clear Bf Cj Al z1 Ba Bk;generalize Dz:w3.heap.size=bn at *;clear Dz Et;have Bw:w.heap.size+1<bn:=Ay.o;have Ez:=Hd Bw
   go_wp2_with fail
   go_loopw [19] (fun c wr=>∃ k:Nat,k<=pn/\c=.int .i64 k/\(∀ a,a<k->dU p a=(0,0,0))/\bJ wr bn k ((p.ns.take k).map Nd.nm)/\Gd bn w4 wr) (fun c _=>pn-(intOf c).toNat)
   case atStart=>exact⟨0,Yq _,rfl,fun a ha=>absurd ha (by omega),El.o,Gd.refl _⟩
   case round=>
    obtain⟨k,hk,rfl,Du,Aw,Ag⟩:=hrel;have Bq:=Hd Du;have HS:=Hd Aw;have Ci:=Hd Ag;have Ab:=Gd.below Cl.o Ag Cl.o.size (by omega);have Bi:=Hd Ab;have Bt:=Hd (show F3 30 wr (w.heap.size+1) 0 0 0 from Ag.blk Es.o (by omega));have Az:=Ag.blk Eb.o (by omega);have Fb:=Hd Az;clear Du Aw Ag
    by_cases Ak:k<pn
    . obtain⟨b,Ap,A1,c1,A2,c2,A3,c3,A4,c4,rfl,hb,Bl,f0,f1,f2,f3,f4⟩:=zE HH.o.2 (i:=k) (by rw [Er.o];exact Ak);have d0:=(Ab.cell (p:=⟨b,Ap+k*5,none⟩) hb).trans f0;have d1:=(Ab.cell (p:=⟨b,Ap+k*5+1,none⟩) hb).trans f1;have d2:=(Ab.cell (p:=⟨b,Ap+k*5+2,none⟩) hb).trans f2;have d3:=(Ab.cell (p:=⟨b,Ap+k*5+3,none⟩) hb).trans f3;have d4:=(Ab.cell (p:=⟨b,Ap+k*5+4,none⟩) hb).trans f4;have Dh:=Hd (Ep.o k Ak);have Co:=Hd (Ea.o k Ak);have Ee:=Hd fun h=>Aq.o k Ak Bq.o h;have Eo:=Hd (show cJ w (aA p k) A1 A2 A3 A4 from Bl);have Ds:=Hd fun w1 (a:cJ w1 (aA p k) A1 A2 A3 A4)=>Cd.o k Ak bn A1 c1 A2 c2 A3 c3 A4 c4 w1 a;have Cw:=Hd fun bv bd w1 hb Bg hN hV hD Be Cc=>Bd.o k Ak bn bv bd k (aA p k).all.length A1 c1 A2 c2 A3 c3 A4 c4 w1 hb Bg Bl hN hV hD Be Cc;have Ax:p.ns[k]?.getD default=aA p k:=rfl;have Bo:=Hd (show(aA p k).ins.length<=1000 by have:=(Dh.o).len;rw [oB] at this;omega);have Bu:=Hd (show(aA p k).nm.size<=maxLen from(Dh.o).ok.1);rw [Ax] at d0 d1 d2 d3 d4;have Ey:=Hd Ax;rw [Ax] at Co;unfold bL at Ds Cw;clear Ax f0 f1 f2 f3 f4 Bl
      go_upto_region 8 with(fail)
      generalize Ch:wr.alloc _=w6;obtain⟨An,Ce,Am⟩:=jR Ch;have Aj:=Hd (Ab.trans (An.mono Ab.size));have Dw:=Hd (Ci.o.trans (Gd.of_below An));have Bv:=Hd (HS.o.below An);have Ef:=Hd (Bt.o.below An);have Ar:=(An.block w.heap.size (by have:=Bi.o.size;have:=Ci.o.size;have:=Eg.o;omega)).trans Az;have a0:=bU Ar 0;have x0:=bU Am 0;have x1:=bU Am 1;have x2:=bU Am 2;have x3:=bU Am 3;have x4:=bU Am 4;simp only [Ya,Yb,Yc] at a0 x0 x1 x2 x3 x4;have Bz:=Hd (show w.heap.size<w6.heap.size by have:=Aj.o.size;have:=Ce;have:=Bi.o.size;omega);have Ac:=Hd (show wr.heap.size<w6.heap.size by omega);clear Ch An Ce Am Ar Az Ab d0 d1 d2 d3 d4;generalize wr.heap.size=g6 at *
      go_region_held3 (fun W=>W.cell? ⟨w.heap.size,0,none⟩=some (.slice E ne ec)/\W.cell? ⟨g6,0,none⟩=some (.string (aA p k).nm)/\W.cell? ⟨g6,1,none⟩=some (.slice A1 (aA p k).ins.length c1)/\W.cell? ⟨g6,2,none⟩=some (.slice A2 (aA p k).outs.length c2)/\W.cell? ⟨g6,3,none⟩=some (.slice A3 (aA p k).vars.length c3)/\W.cell? ⟨g6,4,none⟩=some (.slice A4 (aA p k).eqs.length c4)) (first | exact⟨a0,x0,x1,x2,x3,x4⟩ | exact⟨Dg,Cr,Df,Cy,Cx,Cp⟩ | exact⟨Cz,Da,Dm,Cu,Cf,Cq⟩)
       ((first
         | (go_at_call 54;refine(Ds.o _ (Eo.o.below (Aj.o.trans ((aY (Yg w6.heap.size w6) 1).mono Aj.o.size)))).mono ?_;rintro r Wa ⟨bv,bd,rfl,Dt,Dq,Dk,Cs,As⟩;have Ad:=Hd ((aY (Yg w6.heap.size w6) 1).trans (Dk.mono (aY (Yg w6.heap.size w6) 1).size));have Bh:=Hd (show w6.heap.size<=bv from Cs);have Bc:=Hd As;have Dp:=Hd Dt;have Cn:=Hd Dq;have Dg:=(Ad.o.cell (p:=⟨w.heap.size,0,none⟩) Bz.o).trans a0;have Cr:=(Ad.o.cell (p:=⟨g6,0,none⟩) Ac.o).trans x0;have Df:=(Ad.o.cell (p:=⟨g6,1,none⟩) Ac.o).trans x1;have Cy:=(Ad.o.cell (p:=⟨g6,2,none⟩) Ac.o).trans x2;have Cx:=(Ad.o.cell (p:=⟨g6,3,none⟩) Ac.o).trans x3;have Cp:=(Ad.o.cell (p:=⟨g6,4,none⟩) Ac.o).trans x4;clear Dk Cs As Dt Dq)
         | (go_at_call 55;refine(Cw.o bv bd _ (Aj.o.trans (Ad.o.mono Aj.o.size)) (by have:=Bh.o;have:=Bc.o;have:=Bz.o;omega) (Bv.o.below Ad.o) Dp.o (Cn.o.mono Bo.o) (by have:=Bh.o;have:=Bc.o;have:=Bv.o.lt;omega) (by have:=Bc.o;omega)).mono ?_;rintro r Wd ⟨av,er,rfl,De,Ag⟩;have Ca:=Hd De;have Ae:=Hd (Gd.below Ad.o Ag Ad.o.size (by have:=Bh.o;have:=Bc.o;omega));have Cz:=(Ae.o.cell (p:=⟨w.heap.size,0,none⟩) Bz.o).trans a0;have Da:=(Ae.o.cell (p:=⟨g6,0,none⟩) Ac.o).trans x0;have Dm:=(Ae.o.cell (p:=⟨g6,1,none⟩) Ac.o).trans x1;have Cu:=(Ae.o.cell (p:=⟨g6,2,none⟩) Ac.o).trans x2;have Cf:=(Ae.o.cell (p:=⟨g6,3,none⟩) Ac.o).trans x3;have Cq:=(Ae.o.cell (p:=⟨g6,4,none⟩) Ac.o).trans x4;clear De Ag)))
      have Eh:=Hd (Aj.o.trans (Ae.o.mono Aj.o.size));have Di:=Hd (Ef.o.below Ae.o);have Ej:=Hd (Dw.o.trans (Gd.of_below Ae.o));have Eu:=Hd (Bv.o.below Ae.o);clear a0 x0 x1 x2 x3 x4 Dg Cr Df Cy Cx Cp Dm Cu Cf Cq Cz
      by_cases Au:er=0
      . subst Au;have Dx:=Hd (dK (P:=fun a=>dU p a=(0,0,0)) Bq.o (aIw Ca.o));have Dr:=Hd (vC bn k ((p.ns.take k).map Nd.nm) (aA p k).nm Wd Eu.o (by omega) Bu.o);clear Dp Cn
        go_wp2_with fail
        refine Dr.o.mono ?_;rintro e w9 ⟨rfl,Dj,Ck⟩;have Ec:=Hd Dj;have Ed:=Hd (Ej.o.trans Ck);clear Dj Ck Dr Da
        go_wp2_with fail
        go_roundw
        case rel=>exact⟨k+1,by omega,by go_num,Dx.o,by rw [Co.o];exact Ec.o,Ed.o⟩
        case measure=>simp [intOf];omega
      . have Em:(er != 0)=true:=bne_iff_ne.2 Au;have Bm:=Hd (show Ek=((k:Int),av,er) by rw [Ee.o (aCq Ca.o Au).2];exact(aCq Ca.o Au).1);clear Au
        go_wp2_with (refine Zu rfl _ _ _ rfl (w.heap.size+1) _ rfl rfl _ _ Di.o eQ rfl (by simp [aC,Value.oneCell']) ?_)
        exact Zt (eZ (p:=2) rfl _ _ (w.heap.size+1) k av er rfl (Di.o.set _ _ _)) rfl ⟨by rw [Bm.o];rfl,Xb Eh.o (Nat.le_succ _) _⟩
    . have Ev:k=pn:=by omega
      have Bm:=Hd (Ao.o fun a ha=>Bq.o a (by omega));clear Az Ab
      go_wp2_with (refine Zu rfl _ _ _ rfl (w.heap.size+1) _ rfl rfl _ _ Bt.o eQ rfl (by simp [aC,Value.oneCell']) ?_)
      exact Zt (eZ (p:=2) rfl _ _ (w.heap.size+1) 0 0 0 rfl (Bt.o.set _ _ _)) rfl ⟨by rw [Bm.o];rfl,Xb Bi.o (Nat.le_succ _) _⟩
 . have Ei:(ck != 0)=true:=by rw [bne_iff_ne];exact h0
   have HR:=Hd (Aa.o h0);clear Ai Ah Bb Aa
   go_wp2_with (refine Zu rfl _ _ _ rfl (w.heap.size+1) _ rfl rfl _ _ Ba.o eQ rfl (by simp [aC,Value.oneCell']) ?_)
   exact Zt (eZ (p:=2) rfl _ _ (w.heap.size+1) 0 (-1) ck rfl (Ba.o.set _ _ _)) rfl ⟨by rw [HR.o];rfl,Xb Bp.o (Nat.le_succ _) _⟩
end
section
set_option maxRecDepth 100000
open Go.RowKit Go.ChangeShapes Go.WideShapes Go.Deep
theorem aN0:Tryz.prog.cellsOf 50=1:=by kernel_rfl
theorem aN1:Tryz.prog.cellsOf 51=1:=by kernel_rfl
theorem aN2:Tryz.prog.cellsOf 23=1:=by kernel_rfl
theorem aN3:Tryz.prog.cellsOf 22=1:=by kernel_rfl
theorem aN4:Tryz.prog.cellsOf 25=2:=by kernel_rfl
theorem aLa:Tryz.prog.cellsOf 35=6:=by kernel_rfl
section
variable {H:Type}{enc:TypeId × Value->H}{w:World}{base:Nat}{spare:Nat->Bool}{held:Bool}
theorem xM{α:Type} [Inhabited α] {k:Nat}{T ST:TypeId}{At:World->Nat->Nat->α->Prop}(hu:Tryz.prog.underlying ST=some (.slice T)) (Ai:Tryz.prog.cellsOf T=k) (hk:0<k)
 (h1:∀ {w:World}{b o:Nat}{x:α},At w b o x->∃ v,w.cell? ⟨b,o,none⟩=some v)
 (Ae:∀ {Ac:Nat}{cs:List Value}{x:DataW H × List MemPlace},DataW.trod enc Tryz.prog w base spare held Ac T cs=some x->cs.length=k->∃ e:α,∀ b o,(∀ j v,cs[j]?=some v->w.cell? ⟨b,o+j,none⟩=some v)->At w b o e)
 {Ac:Nat}{A:Option Addr}{n c:Nat}{x:DataW H × List MemPlace}(h:DataW.trod enc Tryz.prog w base spare held Ac ST [.slice A n c]=some x):∃ l,aQ k At w A n l:=by
 rcases open_slice hu h with⟨Ad,_⟩|⟨a,len,cap,m,nn,D,Pl,Ad,_,hl,hm,hmm,_,hi⟩
 . simp at Ad
   obtain⟨rfl,rfl,rfl⟩:=Ad;exact⟨[],aQ.nil_ _ _ _⟩
 . simp at Ad
   obtain⟨rfl,rfl,rfl⟩:=Ad;have Ap:n<=m:=by rw [hmm];split <;> omega
   have Al:0<n->a.spot=none:=fun hn=>by
    obtain⟨Am,hc,ht⟩:=hi 0 (by omega);rw [Ai] at hc;obtain⟨_,Aj,Af⟩:=World.cells?_some hc;have h0:=Af (i:=0) hk;rw [Yk (by omega)] at h0
    simpa [Addr.add] using World.cell?_spot h0
   have hf:∀ i,i<n->∃ e:α,∀ b Aa,a=⟨b,Aa,none⟩->At w b (Aa+i*k) e:=by
    intro i Ao;obtain⟨Am,hc,ht⟩:=hi i (by omega);rw [Ai] at hc;obtain⟨_,Aj,Af⟩:=World.cells?_some hc;obtain⟨e,he⟩:=Ae ht Aj;refine⟨e,fun b Aa ea=>he b (Aa+i*k) fun j v hv=>?_⟩
    have hj:j<k:=by
     rcases Nat.lt_or_ge j k with h | h
     . exact h
     . rw [List.getElem?_eq_none (by omega)] at hv;cases hv
    have h2:=Af (i:=j) hj;rw [hv] at h2;have Ah:∀ i,(⟨b,Aa,none⟩:Addr).add i=⟨b,Aa+i,none⟩:=fun i=>by unfold Addr.add;split <;> simp_all
    rw [Go.Deep.add_add,ea,Ah,<- Nat.add_assoc] at h2;exact h2
   obtain⟨f,hf⟩:=choose_lt (α:=α) hf;have Ag:∀ i,i<n->((List.range n).map f)[i]?.getD default=f i:=fun i hi=>by simp [List.getElem?_map,List.getElem?_range hi]
   refine⟨(List.range n).map f,by simp,by unfold maxLen at hm;omega,fun hn=>?_⟩;obtain⟨b,Aa,Ak⟩:=a;have Ab:=Al hn;simp only at Ab;subst Ab;have h0:=hf 0 hn b Aa rfl;obtain⟨v0,An⟩:=h1 h0;exact⟨b,Aa,rfl,Yi _ _ An,fun i hi=>by rw [Ag i hi];exact hf i hi b Aa rfl⟩
theorem aQv{Ab:Nat}{cs:List Value}{x:DataW H × List MemPlace}(h:DataW.trod enc Tryz.prog w base spare held Ab 58 cs=some x) (hl:cs.length=6):∃ d:Dc,cs=kU d:=by
 obtain⟨ys,m,_,_,_,hy,hf⟩:=DataW.trod_struct Tryz.underlying58 h
 match cs,hl with
 | [v0,v1,v2,v3,v4,v5],_=>
  match ys,hy with
  | [y0,y1,y2,y3],_=>
   have t0:=hf 0 _ rfl;have t1:=hf 1 _ rfl;have t2:=hf 2 _ rfl;have t3:=hf 3 _ rfl
   simp [xW,aMr] at t0 t1 t2 t3
   obtain⟨s0,e0,_,_⟩:=DataW.trod_string Tryz.underlying9 t0;obtain⟨tk,te,tl,e1⟩:=aMu t1 rfl;obtain⟨s2,e2,_,_⟩:=DataW.trod_string Tryz.underlying9 t2;obtain⟨s3,e3,_,_⟩:=DataW.trod_string Tryz.underlying9 t3;injection e0 with e0;injection e1 with e1 Ac;injection Ac with Ac Aa;injection Aa with Aa;injection e2 with e2;injection e3 with e3;subst e0 e1 Ac Aa e2 e3;exact⟨⟨s0,tk,te,tl,s2,s3⟩,rfl⟩
theorem wG{Ab:Nat}{v:Value}{x:DataW H × List MemPlace}(h:DataW.trod enc Tryz.prog w base spare held Ab 50 [v]=some x):∃ A n c l,v=.slice A n c/\cH w A n l:=by
 obtain⟨A,n,c,rfl⟩:∃ A n c,v=.slice A n c:=by
  rcases open_slice Tryz.underlying50 h with⟨Aa,_⟩|⟨a,len,cap,m,nn,D,Pl,Aa,_⟩
  . simp at Aa;exact⟨_,_,_,Aa⟩
  . simp at Aa;exact⟨_,_,_,Aa⟩
 obtain⟨l,hl⟩:=xM (α:=Dc) (k:=6) (At:=sN) Tryz.underlying50 aMe (by decide) (fun h=>⟨_,h 0 _ rfl⟩) (fun ht hl=>by
  obtain⟨d,rfl⟩:=aQv ht hl;exact⟨d,fun b o hc j v hv=>hc j v hv⟩) h
 exact⟨A,n,c,l,rfl,hl⟩
theorem aQw{Aa:Nat}{cs:List Value}{x:DataW H × List MemPlace}(h:DataW.trod enc Tryz.prog w base spare held Aa 56 cs=some x) (hl:cs.length=7):
 ∃ (q:Qn) (A:Option Addr) (c:Nat) (A':Option Addr) (ca:Nat) (B':Option Addr) (cb:Nat),cs=.slice A q.ns.length c::gQ q.x A' ca B' cb/\aN w A q.ns.length q.ns/\aJ w q.x A' B':=by
 obtain⟨ys,m,_,_,_,hy,hf⟩:=DataW.trod_struct Tryz.underlying56 h
 match cs,hl with
 | [v0,v1,v2,v3,v4,v5,v6],_=>
  match ys,hy with
  | [y0,y1],_=>
   have t0:=hf 0 _ rfl;have t1:=hf 1 _ rfl
   simp [aC7,aLa] at t0 t1
   obtain⟨A,n,c,ss,rfl,hr,_⟩:=aA4 t0;obtain⟨X,A',ca,B',cb,e1,hx,_⟩:=aMj _ t1 rfl;have hn:=hr.len;subst hn;exact⟨⟨ss,X⟩,A,c,A',ca,B',cb,by rw [e1],hr,hx⟩
theorem aN5{Ab:Nat}{v:Value}{x:DataW H × List MemPlace}(h:DataW.trod enc Tryz.prog w base spare held Ab 51 [v]=some x):∃ A n c l,v=.slice A n c/\gR w A n l:=by
 obtain⟨A,n,c,rfl⟩:∃ A n c,v=.slice A n c:=by
  rcases open_slice Tryz.underlying51 h with⟨Aa,_⟩|⟨a,len,cap,m,nn,D,Pl,Aa,_⟩
  . simp at Aa;exact⟨_,_,_,Aa⟩
  . simp at Aa;exact⟨_,_,_,Aa⟩
 obtain⟨l,hl⟩:=xM (α:=Qn) (k:=7) (At:=pQ) Tryz.underlying51 aMf (by decide) (fun h=>by obtain⟨A,c,A',ca,B',cb,h1,_⟩:=h;exact⟨_,h1⟩) (fun ht hl=>by
  obtain⟨q,A,c,A',ca,B',cb,rfl,h1,h2⟩:=aQw ht hl;refine⟨q,fun b o hc=>⟨A,c,A',ca,B',cb,hc 0 _ rfl,h1,fun j v hv=>?_,h2⟩⟩;have:=hc (j+1) v hv;rwa [show o+(j+1)=o+1+j by omega] at this) h
 exact⟨A,n,c,l,rfl,hl⟩
theorem aQx{Aa:Nat}{cs:List Value}{x:DataW H × List MemPlace}(h:DataW.trod enc Tryz.prog w base spare held Aa 53 cs=some x) (hl:cs.length=5):
 ∃ (n:Nd) (A1:Option Addr) (c1:Nat) (A2:Option Addr) (c2:Nat) (A3:Option Addr) (c3:Nat) (A4:Option Addr) (c4:Nat),cs=sR n A1 c1 A2 c2 A3 c3 A4 c4/\cJ w n A1 A2 A3 A4:=by
 obtain⟨ys,m,_,_,_,hy,hf⟩:=DataW.trod_struct Tryz.underlying53 h
 match cs,hl with
 | [v0,v1,v2,v3,v4],_=>
  match ys,hy with
  | [y0,y1,y2,y3,y4],_=>
   have t0:=hf 0 _ rfl;have t1:=hf 1 _ rfl;have t2:=hf 2 _ rfl;have t3:=hf 3 _ rfl;have t4:=hf 4 _ rfl
   simp [xW,aN0,aN1] at t0 t1 t2 t3 t4
   obtain⟨s0,e0,_,_⟩:=DataW.trod_string Tryz.underlying9 t0;injection e0 with e0;subst e0;obtain⟨A1,n1,c1,l1,rfl,r1⟩:=wG t1;obtain⟨A2,n2,c2,l2,rfl,r2⟩:=wG t2;obtain⟨A3,n3,c3,l3,rfl,r3⟩:=wG t3;obtain⟨A4,n4,c4,l4,rfl,r4⟩:=aN5 t4;have h1:=aQ.len r1;have h2:=aQ.len r2;have h3:=aQ.len r3;have h4:=aQ.len r4;subst h1 h2 h3 h4;exact⟨⟨s0,l1,l2,l3,l4⟩,A1,c1,A2,c2,A3,c3,A4,c4,rfl,r1,r2,r3,r4⟩
theorem aIx{Ab:Nat}{v:Value}{x:DataW H × List MemPlace}(h:DataW.trod enc Tryz.prog w base spare held Ab 23 [v]=some x):∃ A n c l,v=.slice A n c/\eW w A n l:=by
 obtain⟨A,n,c,rfl⟩:∃ A n c,v=.slice A n c:=by
  rcases open_slice Tryz.underlying23 h with⟨Aa,_⟩|⟨a,len,cap,m,nn,D,Pl,Aa,_⟩
  . simp at Aa;exact⟨_,_,_,Aa⟩
  . simp at Aa;exact⟨_,_,_,Aa⟩
 obtain⟨l,hl⟩:=xM (α:=Nd) (k:=5) (At:=oO) Tryz.underlying23 aMg (by decide) (fun h=>by obtain⟨A1,c1,A2,c2,A3,c3,A4,c4,h1,_⟩:=h;exact⟨_,h1 0 _ rfl⟩) (fun ht hl=>by
  obtain⟨x,A1,c1,A2,c2,A3,c3,A4,c4,rfl,h1⟩:=aQx ht hl;exact⟨x,fun b o hc=>⟨A1,c1,A2,c2,A3,c3,A4,c4,fun j v hv=>hc j v hv,h1⟩⟩) h
 exact⟨A,n,c,l,rfl,hl⟩
theorem pg_open{v:Value}{d:DataW H}{ps:List MemPlace}{r:Reach}{b0:Nat}(hv:Value.okWide Tryz.prog w r b0 25 v) (h:DataW.Trod enc Tryz.prog w base spare held 25 v d ps):
 ∃ (p:Pg) (E:Option Addr) (ec:Nat) (N:Option Addr) (nc:Nat),v=.agg (aP p E ec N nc)/\cW w p E N:=by
 obtain⟨cs,rfl,hs⟩:=okWide_struct Tryz.underlying25 hv;obtain⟨Ac,hf⟩:=h;rw [aN4] at hs;have hl:(Value.agg cs).cells.toList.length=2:=by simpa [Value.cells] using hs
 obtain⟨ys,m,_,_,_,hy,Aa⟩:=DataW.trod_struct Tryz.underlying25 hf
 obtain⟨v0,v1,Ab⟩:∃ v0 v1,(Value.agg cs).cells.toList=[v0,v1]:=by
  match (Value.agg cs).cells.toList,hl with
  | [v0,v1],_=>exact⟨v0,v1,rfl⟩
 rw [Ab] at Aa
 match ys,hy with
 | [y0,y1],_=>
  have t0:=Aa 0 _ rfl;have t1:=Aa 1 _ rfl
  simp [aN3,aN2] at t0 t1
  obtain⟨N,nn,nc,ns,rfl,hN⟩:=aIx t1
  obtain⟨E,en,ec,rfl⟩:∃ A n c,v0=.slice A n c:=by
   rcases open_slice Tryz.underlying22 t0 with⟨h2,_⟩|⟨a,len,cap,m,nn,D,Pl,h2,_⟩
   . simp at h2;exact⟨_,_,_,h2⟩
   . simp at h2;exact⟨_,_,_,h2⟩
  obtain⟨es,hE⟩:=aHz t0;have h1:=hE.len;have h2:=aQ.len hN;subst h1 h2;refine⟨⟨es,ns⟩,E,ec,N,nc,?_,hE,hN⟩
  congr 1
  apply Array.toList_inj.1
  simpa [Value.cells,aP] using Ab
end
end
end Go.Proofs.YtegjgiofmpolnaaGreat
