/- Parts of the proof: TqC. Conditions: each theorem's own. -/
import Derived.Test.YtegjgiofmpolnaaGreatC14
import Derived.Test.YtegjgiofmpolnaaGreatC22
namespace Go.Proofs.YtegjgiofmpolnaaGreat
set_option linter.unusedVariables false
set_option linter.unusedSimpArgs false
set_option maxRecDepth 100000
set_option maxHeartbeats 40000000
section
open Go.RowKit Go.Sort Go.BigFrame
theorem aIl{p:Pg}{i j:Nat}(hj:j<(aA p i).all.length) (h:iU p i ((aA p i).all[j]?.getD default)=false):fE p i=((i:Int),-1,7):=by
 unfold fE;rw [if_pos];refine Bool.eq_false_iff.2 fun ha=>?_;have:=Zf.1 ha ((aA p i).all[j]) (Zg hj);rw [Yk hj,Yt,this] at h
 cases h
theorem aBk{p:Pg}{i:Nat}(h0:∀ a,a<(aA p i).all.length->iU p i ((aA p i).all[a]?.getD default)=true):fE p i=eH ((0,0,0):Fl) (jZ p i) (aA p i).eqs.length:=by
 unfold fE;rw [if_neg];refine fun hf=>?_
 have:(aA p i).all.all (iU p i)=true:=Zf.2 fun x hx=>by
  obtain⟨j,hj,rfl⟩:=Zi hx;have:=h0 j hj;rwa [Yk hj,Yt] at this
 rw [this] at hf
 cases hf
theorem aKp{p:Pg}{i j:Nat}(h0:∀ a,a<(aA p i).all.length->iU p i ((aA p i).all[a]?.getD default)=true) (hj:j<(aA p i).eqs.length) (hn:∀ a,a<j->iT p i ((aA p i).eqs[a]?.getD default)=true) (h:iT p i ((aA p i).eqs[j]?.getD default)=false):fE p i=((i:Int),(j:Int),7):=by
 rw [aBk h0,mP hj (fun a ha=>by unfold jZ;rw [if_pos (hn a ha)])]
 . unfold jZ;rw [h];rfl
 . unfold jZ;rw [h];intro hh;have:=congrArg (·.2.2) hh;exact absurd this (by simp)
theorem aKq{p:Pg}{i:Nat}(h0:∀ a,a<(aA p i).all.length->iU p i ((aA p i).all[a]?.getD default)=true) (h1:∀ a,a<(aA p i).eqs.length->iT p i ((aA p i).eqs[a]?.getD default)=true):fE p i=(0,0,0):=by
 rw [aBk h0];exact lX fun a ha=>by unfold jZ;rw [if_pos (h1 a ha)]
theorem aIm{p:Pg}{k:Nat}{r:Fl}(h0:dE p=(0,0,0)) (hk:k<p.ns.length) (hn:∀ a,a<k->fE p a=(0,0,0)) (h:fE p k=r) (hr:r.2.2=7):gL p=r:=by
 unfold gL;rw [if_pos h0,mP hk hn]
 . exact h
 . rw [h];intro hh;rw [hh] at hr
   cases hr
theorem aKr{p:Pg}(h0:dE p=(0,0,0)) (hn:∀ a,a<p.ns.length->fE p a=(0,0,0)):gL p=(0,0,0):=by
 unfold gL;rw [if_pos h0];exact lX hn
theorem aIn{p:Pg}(h0:¬ dE p=(0,0,0)):gL p=dE p:=by
 unfold gL;rw [if_neg h0]
theorem aPy(o:Option (Int × Int × Int)):nI o=.tuple #[.agg (aC (mI o).1 (mI o).2.1 0),.int .i64 ((o.map (·.2.2)).getD 0),.bool o.isSome]:=by cases o <;> rfl
theorem aPz(o:Option (Int × Int × Int)):mI o=((mI o).1,(mI o).2.1,0):=by cases o <;> rfl
theorem aIo(p:Pg) (E:Option Addr) (ec:Nat) (N:Option Addr) (nc:Nat) (w:World) (h:cW w p E N) (ht:gI p)
 (hq:dE p=(0,0,0)->∀ i j,i<p.ns.length->j<(aA p i).eqs.length->∀ BN cN A ca B cb w1,Below w.heap.size w w1->aN w1 BN ((aA p i).eqs[j]?.getD default).ns.length ((aA p i).eqs[j]?.getD default).ns->aJ w1 ((aA p i).eqs[j]?.getD default).x A B ->
  Calls Tryz.prog 31 #[.agg (aP p E ec N nc),.int .i64 i,.agg (eM ((aA p i).eqs[j]?.getD default) BN cN A ca B cb)] w1 fun e w'=>e=.returned (.bool (iT p i ((aA p i).eqs[j]?.getD default)))/\Below w1.heap.size w1 w'):
 Calls Tryz.prog 9 #[.agg (aP p E ec N nc)] w fun e w'=>e=.returned (kW (gL p))/\Below w.heap.size w w':=by
 have HF:=Hd fun w1 hw=>kH w p E ec N nc w1 hw h;have Cb:=Hd fun w1 (a:Below w.heap.size w w1)=>aH5 p E ec N nc w1 (h.below a) ht;have Db:=Hd xH;have Al:=Hd fun k r h0 hk hn h hr=>aIm (p:=p) (k:=k) (r:=r) h0 hk hn h hr;have Eu:=Hd fun h0 hn=>aKr (p:=p) h0 hn;have Bf:=Hd fun h0=>aIn (p:=p) h0;have Co:=Hd fun i (hi:i<p.ns.length)=>(nY (ht.2.2 i hi)).1;have Ew:=Hd fun w1 (a:Below w.heap.size w w1)=>(show bV w1 E p.es.length p.es from(h.below a).1);have Ev:=Hd h.2;have HQ:=Hd hq;have Fq:=aQ.max h.2;clear h ht hq;unfold kW at Cb;generalize gL p=Fo at *;generalize dE p=cs at *;obtain⟨fa,fb,fc⟩:=cs;unfold aP at HF Cb HQ ⊢;generalize Fj:p.ns.length=pn at *;generalize Fg:p.es.length=pe at *
 go_enter Tryz.func9,Tryz.ntmps9
 go_upto_region 1 with(fail)
 generalize Dr:w.alloc _=w1;obtain⟨Cd,Eh,Fe,Ae⟩:=HF.o w1 Dr;generalize Dy:w1.alloc _=w2;obtain⟨Az,Cp,Em⟩:=jA Dy;simp only [Eh] at Cp;have Di:=Hd Cp;have Cu:=Hd (Cd.trans (Az.mono Cd.size));have Bw:=Hd fun W (b:Below w2.heap.size w2 W) j=>Ae W (Az.trans (b.mono Az.size)) j;have y0:=Bw.o w2 (Yg _ _) 0;have y1:=Bw.o w2 (Yg _ _) 1;simp only [Ya,Yb,Yc] at y0 y1;have Dq:=Hd (Cb.o w2 Cu.o);clear Dr Dy Ae Cd Az Fe HF Em Cp Cb
 go_wp2_with fail
 refine Dq.o.mono ?_;rintro e w3 ⟨rfl,Bk⟩;have Dj:=Hd (Cu.o.trans (Bk.mono Cu.o.size));have Et:=Hd (Di.o.below Bk);have Dp:=Hd fun W (b:Below w3.heap.size w3 W) j=>Bw.o W (Bk.trans (b.mono Bk.size)) j;clear Bk y0 y1 Bw Dq Di;simp only [aC]
 go_upto_region 2 with(fail)
 generalize Cr:w3.alloc _=w8;have Ax:Below w3.heap.size w3 w8:=by rw [<- Cr];exact(Yg _ _).alloc (Yh _) _
 have Df:F3 30 w8 w3.heap.size fa fb fc:=by rw [<- Cr];exact F3.new _ _ _ _ _
 obtain⟨z0,z1,z2,-,-,-⟩:=Sx Df.cell;simp only [aC,List.getElem?_toArray,Yz,Zb] at z0 z1 z2;have Ba:=Hd (Dj.o.trans (Ax.mono Dj.o.size));have An:=Hd (Et.o.below Ax);have Ao:=Hd fun W (b:Below w8.heap.size w8 W) j=>Dp.o W (Ax.trans (b.mono Ax.size)) j;clear Cr Ax Df Dp
 by_cases hz:((fa,fb,fc):Fl)=(0,0,0)
 . have Ep:=hz;injection hz with ha Ek;injection Ek with hb hc;subst ha hb hc
   go_wp2_with fail
   clear Ep z0 z1 z2
   go_loopw [4] (fun c wr=>∃ k:Nat,k<=pn/\c=.int .i64 k/\(∀ a,a<k->fE p a=(0,0,0))/\Below w8.heap.size w8 wr) (fun c _=>pn-(intOf c).toNat)
   case atStart=>exact⟨0,Yq _,rfl,fun a ha=>absurd ha (by omega),Yg _ _⟩
   case round=>
    obtain⟨k,hk,rfl,Ed,Ap⟩:=hrel;have Bb:=Hd Ed;have Dd:=Hd Ap;have Au:=Hd (Ba.o.trans (Ap.mono Ba.o.size));have As:=Hd (An.o.below Ap);have y0:=Ao.o wr Ap 0;have y1:=Ao.o wr Ap 1;simp only [Ya,Yb,Yc] at y0 y1;clear Ed Ap
    by_cases Aq:k<pn
    . obtain⟨nb,no,A1,c1,A2,c2,A3,c3,A4,c4,rfl,Av,Bq,d0,d1,d2,d3,d4⟩:=iN Ev.o Aq;have Cw:aA p k=p.ns[k]?.getD default:=rfl;have Bl:=Hd fun w1 (hb:Below w.heap.size w w1)=>rT (aA p k) A1 c1 A2 c2 A3 c3 A4 c4 w1 (Bq.below hb) (Co.o k Aq);have Bi:=Hd fun s w1 (hb:Below w.heap.size w w1)=>oY (aA p k) A1 c1 A2 c2 A3 c3 A4 c4 s w1 (Bq.below hb) (Co.o k Aq);have Cv:=Hd (show gR w A4 (aA p k).eqs.length (aA p k).eqs from Bq.2.2.2);have Dm:=Hd fun j=>HQ.o (by first | exact rfl | trivial) k j Aq;have Bm:=Hd fun j (hj:j<(aA p k).all.length) (h:iU p k ((aA p k).all[j]?.getD default)=false)=>Al.o k _ (by first | exact rfl | trivial) Aq Bb.o (aIl hj h) rfl;have Be:=Hd fun j h0 (hj:j<(aA p k).eqs.length) hn (h:iT p k ((aA p k).eqs[j]?.getD default)=false)=>Al.o k _ (by first | exact rfl | trivial) Aq Bb.o (aKp h0 hj hn h) rfl;have Ds:=Hd fun h0 h1=>dK (P:=fun a=>fE p a=(0,0,0)) Bb.o (aKq (p:=p) (i:=k) h0 h1);have Dv:=Hd fun d=>(show iU p k d=((d.on.toList==[]) || decide (fZ (aW (aA p k) d.on)=mI (cU p.es d.ct))) from rfl);rw [Cw] at Bl Bi Cv Dm Bm Be Ds Dv;unfold mB nG at Bi;unfold tJ at Bl;clear Bq Cw Co HQ Al Bb
      have HD:=Hd (show ∀ w1,Below w.heap.size w w1->w1.cell? ⟨nb,no+k*5,none⟩=some (.string (p.ns[k]?.getD default).nm)/\w1.cell? ⟨nb,no+k*5+1,none⟩=some (.slice A1 (p.ns[k]?.getD default).ins.length c1)/\w1.cell? ⟨nb,no+k*5+2,none⟩=some (.slice A2 (p.ns[k]?.getD default).outs.length c2)/\w1.cell? ⟨nb,no+k*5+3,none⟩=some (.slice A3 (p.ns[k]?.getD default).vars.length c3)/\w1.cell? ⟨nb,no+k*5+4,none⟩=some (.slice A4 (p.ns[k]?.getD default).eqs.length c4) from
       fun w1 hb=>⟨(hb.cell (p:=⟨nb,no+k*5,none⟩) Av).trans d0,(hb.cell (p:=⟨nb,no+k*5+1,none⟩) Av).trans d1,(hb.cell (p:=⟨nb,no+k*5+2,none⟩) Av).trans d2,(hb.cell (p:=⟨nb,no+k*5+3,none⟩) Av).trans d3,(hb.cell (p:=⟨nb,no+k*5+4,none⟩) Av).trans d4⟩)
      clear d0 d1 d2 d3 d4;generalize p.ns[k]?.getD default=nd at *;unfold bL at Bi Bl;unfold bC at Bi;obtain⟨d0,d1,d2,d3,d4⟩:=HD.o wr Au.o;have Dn:=Hd (Bl.o wr Au.o);generalize nd.all=al at *;generalize Fu:al.length=an at *;generalize iU p k=on at *;generalize iT p k=Cf at *
      go_wp2_with fail
      refine Dn.o.mono ?_;rintro e w5 ⟨LA,LC,rfl,Dk,Bu⟩;have Ea:=Hd Dk;have Bn:=Hd (Dd.o.trans (Bu.mono Dd.o.size));have Dg:=Hd (Au.o.trans (Bu.mono Au.o.size));have El:=Hd (As.o.below Bu);clear Dk Bu y0 y1 d0 d1 d2 d3 d4 Dn Bl As;generalize wr=wo at *;have Fk:=aQ.max Ea.o
      go_wp2_with fail
      go_loopw [6] (fun c wr=>∃ j:Nat,j<=an/\c=.int .i64 j/\(∀ a,a<j->on (al[a]?.getD default)=true)/\Below w5.heap.size w5 wr) (fun c _=>an-(intOf c).toNat)
      case atStart=>exact⟨0,Yq _,rfl,fun a ha=>absurd ha (by omega),Yg _ _⟩
      case round=>
       obtain⟨j,hj,rfl,Bx,Ag⟩:=hrel;have Fb:=Hd Bx;have Ct:=Hd Ag;have Ay:=Bn.o.trans (Ag.mono Bn.o.size);have Af:=Hd Ay;have Ai:=Hd (Dg.o.trans (Ag.mono Dg.o.size));have Dw:=Hd (El.o.below Ag);have y0:=Ao.o wr Ay 0;have y1:=Ao.o wr Ay 1;simp only [Ya,Yb,Yc] at y0 y1
       by_cases Cs:j<an
       . obtain⟨lb,lo,Er,Ck,Cg⟩:=aQ.at_ Ea.o (by omega);have s4:=(Ag.cell (p:=⟨lb,lo+j*6+4,none⟩) Ck).trans (Cg j Cs 4 _ rfl);have s5:=(Ag.cell (p:=⟨lb,lo+j*6+5,none⟩) Ck).trans (Cg j Cs 5 _ rfl);subst Er;have Br:=Hd (Bm.o j Cs);have Bh:=Hd fun hz=>dK (P:=fun a=>on (al[a]?.getD default)=true) Fb.o hz;have Bv:=Hd (Dv.o (al[j]?.getD default));clear Bx Ag Ay Cg Ck;generalize al[j]?.getD default=d at *
         by_cases he:d.on.toList=[]
         . have Aj:=Hd (Bh.o (by rw [Bv.o,he];rfl));have Fs:(d.on.toList==[])=true:=by rw [he];rfl
           have Fa:d.on.toList.isEmpty=true:=by rw [he];rfl
           clear he Bh Bv Br;generalize d.on=Cx at *
           go_wp2_with fail
           go_roundw
           case rel=>exact⟨j+1,by omega,by go_num,Aj.o,Ct.o⟩
           case measure=>simp [intOf];omega
         . have Du:(d.on.toList==[])=false:=by simpa using he
           have Fa:d.on.toList.isEmpty=false:=by cases hh:d.on.toList with | nil=>exact absurd hh he | cons a b=>rfl
           have Bp:=Hd (show on d=decide (fZ (aW nd d.on)=mI (cU p.es d.ct)) by rw [Bv.o,Du];rfl);have Cy:=Hd (Bi.o d.on);have Ca:=Hd fun w1 (hb:Below w.heap.size w w1)=>tX E pe ec p.es d.ct w1 (Ew.o w1 hb);clear he Du Bv;simp only [aPy] at Ca;rw [xK (fun _=>rfl),aPz] at Bp;generalize d.on=Cx at *;generalize d.ct=Fd at *;generalize aW nd Cx=od at *;generalize od.isSome=ds at *;generalize od.getD default=dd at *;generalize cU p.es Fd=ar at *;generalize (mI ar).1=a0 at *;generalize (mI ar).2.1=a1 at *;generalize (ar.map (·.2.2)).getD 0=a2 at *;generalize ar.isSome=Fp at *;have Cc:=Hd (show((dd.k,dd.e,dd.l):T3)=(a0,a1,0)->on d=true from fun h=>by rw [Bp.o,h];simp);have Ch:=Hd (show ¬ ((dd.k,dd.e,dd.l):T3)=(a0,a1,0)->on d=false from fun h=>by rw [Bp.o,Zy h]);clear Bp;obtain⟨d0,d1,d2,d3,d4⟩:=HD.o wr Ai.o;have Ce:=Hd s5;clear s5;unfold aC at Ca
           go_wp2_with fail
           go_upto_region 12 with(fail)
           refine lO (l:=[_,_,_,_,_,_,_,_,_,_,_,_,_,_,_,_,_]) 14 15 _ _ (d:=7) (tx:=56) (T:=58) (zc:=pT) (by kernel_rfl) rfl rfl (by kernel_rfl) rfl (by simp) (fun a W=>by rfl) rfl (by kernel_rfl) ?_
           repeat
            first
            | refine lW rfl ?_
            | (apply lV rfl rfl (by simp)
               case h1=>
                intro wb hb;have Ab:=cI hb;have l0:=fun d os=>Zr ((Ab.cell (Yi _ _ y1)).trans y1) d os;have l1:=fun d os=>Zr ((Ab.cell (Yi _ _ s4)).trans s4) d os;have l2:=fun d os=>Zr ((Ab.cell (Yi _ _ d0)).trans d0) d os;have l3:=fun d os=>Zr ((Ab.cell (Yi _ _ d1)).trans d1) d os;have l4:=fun d os=>Zr ((Ab.cell (Yi _ _ d2)).trans d2) d os;have l5:=fun d os=>Zr ((Ab.cell (Yi _ _ d3)).trans d3) d os;have l6:=fun d os=>Zr ((Ab.cell (Yi _ _ d4)).trans d4) d os;have h3:=Ai.o.trans (Ab.mono Ai.o.size);have cA:=fun d os=>Zh (Cy.o (grow (redrawn wb d) os) (h3.trans ((Zs wb d os).mono h3.size)));clear h3 Ab
                go_big_quiet_step (with_reducible exact cA _ _)
                refine Xf ?_;simp only [List.getElem?_toArray,Zb,Yz];exact rfl
               simp only [Act.put,Yd,Ye,Yf])
           refine⟨bC dd,rfl,rfl,by simp [bC,Value.oneCell'],fun W g hW hg hz=>?_⟩;have Aa:=cI hW;have Fm:=Hd Aa;have k1:=gV (d:=dd) hz 1;have k2:=gV (d:=dd) hz 2;have k3:=gV (d:=dd) hz 3;simp only [bC,List.getElem?_toArray,Yz,Zb] at k1 k2 k3;have Bt:=Hd (Ai.o.trans (Aa.mono Ai.o.size));have Bd:=Hd (Ct.o.trans (Aa.mono Ct.o.size));have De:=Af.o.trans (Aa.mono Af.o.size);have x0:=Ao.o W De 0;simp only [Ya,Yb,Yc] at x0;have s5:=(Aa.cell (Yi _ _ Ce.o)).trans Ce.o;have Dt:=Hd (Dw.o.below Aa);clear hW hg hz Aa De y0 y1 s4 d0 d1 d2 d3 d4 Cy Ce
           show Exit.then _ _ .normal _ W
           simp only [Act.put,Yd,Ye,Yf]
           go_upto_region 13 with(fail)
           refine lO (l:=[_,_,_,_,_,_,_,_,_,_,_,_,_,_,_,_]) 12 13 _ _ (d:=9) (tx:=67) (T:=38) (zc:=aC 0 0 0) (by kernel_rfl) rfl rfl (by kernel_rfl) rfl (by simp) (fun a W=>by rfl) rfl (by kernel_rfl) ?_
           repeat
            first
            | refine lW rfl ?_
            | (apply lV rfl rfl (by simp)
               case h1=>
                intro wb hb;have Ab:=cI hb;have l0:=fun d os=>Zr ((Ab.cell (Yi _ _ x0)).trans x0) d os;have l1:=fun d os=>Zr ((Ab.cell (Yi _ _ s5)).trans s5) d os;have h3:=Bt.o.trans (Ab.mono Bt.o.size);have cA:=fun d os=>Zh (Ca.o (grow (redrawn wb d) os) (h3.trans ((Zs wb d os).mono h3.size)));clear h3 Ab
                go_big_quiet_step (with_reducible exact cA _ _)
                refine Xf ?_;simp only [List.getElem?_toArray,Zb,Yz];exact rfl
               simp only [Act.put,Yd,Ye,Yf])
           refine⟨aC a0 a1 0,rfl,rfl,by simp [aC,Value.oneCell'],fun W2 g2 hW hg hz=>?_⟩;have Aa:=cI hW;have HZ:=Hd (show F3 38 W2 g2 a0 a1 0 from hz);obtain⟨f0,f1,f2,-,-,-⟩:=Sx HZ.o.cell;simp only [aC,List.getElem?_toArray,Yz,Zb] at f0 f1 f2;have m1:=(Aa.cell (Yi _ _ k1)).trans k1;have m2:=(Aa.cell (Yi _ _ k2)).trans k2;have m3:=(Aa.cell (Yi _ _ k3)).trans k3;have Dx:=Hd (Bt.o.trans (Aa.mono Bt.o.size));have Cj:=Hd (Bd.o.trans (Aa.mono Bd.o.size));have Eo:=Hd (Dt.o.below Aa);clear hW hg hz Aa x0 s5 k1 k2 k3 Ca HZ Dt;generalize dd.k=e0 at *;generalize dd.e=e1 at *;generalize dd.l=e2 at *
           show Exit.then _ _ .normal _ W2
           simp only [Act.put,Yd,Ye,Yf];rcases iC e0 e1 e2 a0 a1 0 with⟨rfl,rfl,rfl,he⟩|⟨h1,he⟩|⟨rfl,h1,he⟩|⟨rfl,rfl,h1,he⟩
           . have Aj:=Hd (Bh.o (Cc.o rfl));clear Cc Ch Bh Br he
             go_wp2_with fail
             go_roundw
             case rel=>exact⟨j+1,by omega,by go_num,Aj.o,Cj.o⟩
             case measure=>simp [intOf];omega
           all_goals
            have HR:=Hd (Br.o (Ch.o he));clear Cc Ch Bh Br he
            go_wp2_with fail
            refine(Db.o k (-1) 7 W2).mono ?_;rintro e wz ⟨rfl,Am⟩;have Bj:=Hd (Eo.o.below Am);have Cm:=Hd (Dx.o.trans (Am.mono Dx.o.size));clear Am
            go_wp2_with (refine Zu rfl _ _ _ rfl (w.heap.size+1) _ rfl rfl _ _ Bj.o eQ rfl (by simp [aC,Value.oneCell']) ?_)
            exact Zt (eZ (p:=2) rfl _ _ (w.heap.size+1) k (-1) 7 rfl (Bj.o.set _ _ _)) rfl ⟨by rw [HR.o];rfl,Xb Cm.o (Nat.le_succ _) _⟩
       . have Ff:j=an:=by omega
         subst Ff;have Bg:=Hd Bx;have Fi:=aQ.max Cv.o;generalize Fh:nd.eqs.length=en at *;clear Bx Ag Ay y0 y1;generalize wr=wi at *
         go_wp2_with fail
         go_loopw [12] (fun c wr=>∃ q:Nat,q<=en/\c=.int .i64 q/\(∀ a,a<q->Cf (nd.eqs[a]?.getD default)=true)/\Below wi.heap.size wi wr) (fun c _=>en-(intOf c).toNat)
         case atStart=>exact⟨0,Yq _,rfl,fun a ha=>absurd ha (by omega),Yg _ _⟩
         case round=>
          obtain⟨q,hq,rfl,Cq,Ar⟩:=hrel;have Bo:=Hd Cq;have Bc:=Af.o.trans (Ar.mono Af.o.size);have Ak:=Hd Bc;have Ec:=Hd Ar;have Ad:=Ai.o.trans (Ar.mono Ai.o.size);have Bz:=Hd Ad;have As:=Hd (Dw.o.below Ar);have y0:=Ao.o wr Bc 0;have y1:=Ao.o wr Bc 1;simp only [Ya,Yb,Yc] at y0 y1;have d4:=(HD.o wr Ad).2.2.2.2
          by_cases Cn:q<en
          . obtain⟨qb,qo,Ey,Ah,Dl⟩:=aQ.at_ Cv.o (by omega);obtain⟨BN,cN,A',ca,B',cb,Dz,Cz,e0,e1,e2,e3,e4,e5,e6⟩:=(Dl q Cn).seven;subst Ey;have u0:=(Ad.cell (p:=⟨qb,qo+q*7,none⟩) Ah).trans e0;have u1:=(Ad.cell (p:=⟨qb,qo+q*7+1,none⟩) Ah).trans e1;have u2:=(Ad.cell (p:=⟨qb,qo+q*7+2,none⟩) Ah).trans e2;have u3:=(Ad.cell (p:=⟨qb,qo+q*7+3,none⟩) Ah).trans e3;have u4:=(Ad.cell (p:=⟨qb,qo+q*7+4,none⟩) Ah).trans e4;have u5:=(Ad.cell (p:=⟨qb,qo+q*7+5,none⟩) Ah).trans e5;have u6:=(Ad.cell (p:=⟨qb,qo+q*7+6,none⟩) Ah).trans e6;have Eb:=Hd fun w1 (hb:Below w.heap.size w w1)=>Dm.o q Cn BN cN A' ca B' cb w1 hb (Dz.below hb) (Cz.below hb);have Eg:=Hd (Be.o q Bg.o Cn Bo.o);have Ei:=Hd fun hz=>dK (P:=fun a=>Cf (nd.eqs[a]?.getD default)=true) Bo.o hz;clear e0 e1 e2 e3 e4 e5 e6 Dz Cz Dl Ah Cq Ar Bc Ad Bo;generalize nd.eqs[q]?.getD default=qq at *;unfold eM at Eb;generalize Cf qq=bm at *
            go_wp2_with fail
            go_upto_region 19 with(fail)
            have l0:=fun d os=>Zr y0 d os;have l1:=fun d os=>Zr y1 d os;have l2:=fun d os=>Zr d4 d os;have m0:=fun d os=>Zr u0 d os;have m1:=fun d os=>Zr u1 d os;have m2:=fun d os=>Zr u2 d os;have m3:=fun d os=>Zr u3 d os;have m4:=fun d os=>Zr u4 d os;have m5:=fun d os=>Zr u5 d os;have m6:=fun d os=>Zr u6 d os;have Dh:=Hd fun d os=>Zs wr d os;have cA:=fun d os=>Zh (Eb.o (grow (redrawn wr d) os) (Bz.o.trans ((Zs wr d os).mono Bz.o.size)));refine Zz (by kernel_rfl) (by kernel_rfl) ?_
            repeat (go_big_quiet_step (with_reducible exact cA _ _))
            refine Xf ?_;intro _ Es;obtain⟨⟨Ee,Ci⟩,Aw⟩:=Es;have Ac:=Dh.o Ee Ci;rw [<- Aw] at Ac;clear cA l0 l1 l2 m0 m1 m2 m3 m4 m5 m6 Aw y0 y1 d4 u0 u1 u2 u3 u4 u5 u6 Dh
            rename_i w9
            have Ez:=Hd (Ak.o.trans (Ac.mono Ak.o.size));have Da:=Hd (Bz.o.trans (Ac.mono Bz.o.size));have Cl:=Hd (Ec.o.trans (Ac.mono Ec.o.size));have Fc:=Hd (As.o.below Ac);clear Ac
            cases bm with
            | true=>
             have Aj:=Hd (Ei.o rfl)
             go_wp2_with fail
             go_roundw
             case rel=>exact⟨q+1,by omega,by go_num,Aj.o,Cl.o⟩
             case measure=>simp [intOf];omega
            | false=>
             have HR:=Hd (Eg.o rfl)
             go_wp2_with fail
             refine(Db.o k q 7 w9).mono ?_;rintro e wz ⟨rfl,Am⟩;have Bj:=Hd (Fc.o.below Am);have Cm:=Hd (Da.o.trans (Am.mono Da.o.size));clear Am
             go_wp2_with (refine Zu rfl _ _ _ rfl (w.heap.size+1) _ rfl rfl _ _ Bj.o eQ rfl (by simp [aC,Value.oneCell']) ?_)
             exact Zt (eZ (p:=2) rfl _ _ (w.heap.size+1) k q 7 rfl (Bj.o.set _ _ _)) rfl ⟨by rw [HR.o];rfl,Xb Cm.o (Nat.le_succ _) _⟩
          . have Ej:q=en:=by omega
            subst Ej;have Aj:=Hd (Ds.o Bg.o Bo.o);clear Cq Ar Bc Ad
            go_wp2_with fail
            go_roundw
            case rel=>exact⟨k+1,by omega,by go_num,Aj.o,Ak.o⟩
            case measure=>simp [intOf];omega
    . have Ef:k=pn:=by omega
      subst Ef;have HR:=Hd (Eu.o (by first | exact rfl | trivial) Bb.o)
      go_wp2_with (refine Zu rfl _ _ _ rfl (w.heap.size+1) _ rfl rfl _ _ As.o eQ rfl (by simp [aC,Value.oneCell']) ?_)
      exact Zt (eZ (p:=2) rfl _ _ (w.heap.size+1) 0 0 0 rfl (As.o.set _ _ _)) rfl ⟨by rw [HR.o];rfl,Xb Au.o (Nat.le_succ _) _⟩
 . have HR:=Hd (Bf.o hz);rcases aFs hz with ha | ⟨ha,hb⟩|⟨ha,hb,hc⟩
   . have Fr:(fa==0)=false:=by rw [bne_iff_ne] at ha;exact Xa.2 ha
     clear hz
     go_wp2_with (refine Zu rfl _ _ _ rfl (w.heap.size+1) _ rfl rfl _ _ An.o eQ rfl (by simp [aC,Value.oneCell']) ?_)
     exact Zt (eZ (p:=2) rfl _ _ (w.heap.size+1) fa fb fc rfl (An.o.set _ _ _)) rfl ⟨by rw [HR.o];rfl,Xb Ba.o (Nat.le_succ _) _⟩
   . have Az:(fb==0)=false:=by rw [bne_iff_ne] at hb;exact Xa.2 hb
     subst ha;clear hz
     go_wp2_with (refine Zu rfl _ _ _ rfl (w.heap.size+1) _ rfl rfl _ _ An.o eQ rfl (by simp [aC,Value.oneCell']) ?_)
     exact Zt (eZ (p:=2) rfl _ _ (w.heap.size+1) 0 fb fc rfl (An.o.set _ _ _)) rfl ⟨by rw [HR.o];rfl,Xb Ba.o (Nat.le_succ _) _⟩
   . have Ft:(fc==0)=false:=by rw [bne_iff_ne] at hc;exact Xa.2 hc
     subst ha hb;clear hz
     go_wp2_with (refine Zu rfl _ _ _ rfl (w.heap.size+1) _ rfl rfl _ _ An.o eQ rfl (by simp [aC,Value.oneCell']) ?_)
     exact Zt (eZ (p:=2) rfl _ _ (w.heap.size+1) 0 0 fc rfl (An.o.set _ _ _)) rfl ⟨by rw [HR.o];rfl,Xb Ba.o (Nat.le_succ _) _⟩
end
end Go.Proofs.YtegjgiofmpolnaaGreat
