/- Parts of the proof: ScF, ScG, ScP, ScN. Conditions: each theorem's own. -/
import Derived.Test.YtegjgiofmpolnaaGreatC13
namespace Go.Proofs.YtegjgiofmpolnaaGreat
set_option linter.unusedVariables false
set_option linter.unusedSimpArgs false
set_option maxRecDepth 100000
set_option maxHeartbeats 40000000
section
open Go.RowKit Go.Sort Go.BigFrame
def kW(f:Fl):Value:=.agg (aC f.1 f.2.1 f.2.2)
theorem aM0{p:Pg}{i:Nat}(h:(aA p i).all.all (jP p (aA p i))=false):dU p i=((i:Int),-1,5):=by
 unfold dU;rw [if_pos h]
theorem aDe{p:Pg}{i j:Nat}(h:eB p i j=0):gC p i j=(0,0,0):=by
 unfold gC;rw [if_pos h]
theorem aRt{p:Pg}{i j:Nat}(h:eB p i j≠0):gC p i j=((i:Int),(j:Int),eB p i j)/\gC p i j≠(0,0,0):=by
 have h1:gC p i j=((i:Int),(j:Int),eB p i j):=by unfold gC;rw [if_neg h]
 refine⟨h1,fun e=>?_⟩;rw [h1] at e;injection e with _ e;injection e with _ e;exact h e
theorem aM1{p:Pg}{i k:Nat}(h:(aA p i).all.all (jP p (aA p i))=true) (hk:k<(aA p i).eqs.length) (hn:∀ a,a<k->eB p i a=0) (he:eB p i k≠0):dU p i=((i:Int),(k:Int),eB p i k):=by
 unfold dU;obtain⟨h1,h2⟩:=aRt he;rw [if_neg (by rw [h];simp),mP (f:=gC p i) hk (fun a ha=>aDe (hn a ha)) h2,if_neg h2,h1]
theorem aJ3{p:Pg}{i:Nat}(h:(aA p i).all.all (jP p (aA p i))=true) (hn:∀ a,a<(aA p i).eqs.length->eB p i a=0):
 dU p i=if((aA p i).all.drop (aA p i).ins.length).all (fun d=>decide (0<eX (aA p i) d.nm (aA p i).eqs.length))=true then(0,0,0) else((i:Int),-1,5):=by
 unfold dU;rw [if_neg (by rw [h];simp),lX (f:=gC p i) fun a ha=>aDe (hn a ha),if_pos rfl]
theorem aG8{α:Type} [Inhabited α] {f:α->Bool}{l:List α}{m k:Nat}(hm:m<=k) (hk:k<l.length) (hf:f (l[k]?.getD default)=false):(l.drop m).all f=false:=by
 rw [List.all_eq_false];refine⟨l[k],?_,?_⟩
 . rw [List.mem_drop_iff_getElem];exact⟨k-m,by omega,by congr 1;omega⟩
 . rw [Yk hk,Yt] at hf;rw [hf]
   simp
theorem aGu{α:Type} [Inhabited α] {f:α->Bool}{l:List α}{m:Nat}(h:∀ k,m<=k->k<l.length->f (l[k]?.getD default)=true):(l.drop m).all f=true:=by
 rw [Zf];intro x hx;rw [List.mem_drop_iff_getElem] at hx;obtain⟨k,hk,rfl⟩:=hx;have:=h (m+k) (by omega) (by omega);rwa [Yk (by omega),Yt] at this
theorem aJ4(p:Pg) (E:Option Addr) (ec:Nat) (N:Option Addr) (nc:Nat) (i:Nat) (w:World) (h:cW w p E N) (hi:i<p.ns.length) (hn:(aA p i).all.length<=1000) (hq:oP (aA p i)) (hx:∀ j,j<(aA p i).eqs.length->bG ((aA p i).eqs[j]?.getD default).x<=1000000):
 Calls Tryz.prog 39 #[.agg (aP p E ec N nc),.int .i64 i] w fun e w'=>e=.returned (kW (dU p i))/\Below w.heap.size w w':=by
 have HF:=Hd fun w1 hw=>kH w p E ec N nc w1 hw h;obtain⟨bn,on,A1,c1,A2,c2,A3,c3,A4,c4,e0,Bh,Aq,d0,d1,d2,d3,d4⟩:=iN h.2 hi;subst e0;rw [show(p.ns[i]?.getD default)=aA p i from rfl] at Aq d0 d1 d2 d3 d4;have Cm:=Hd fun s w1 (a:Below w.heap.size w w1)=>yB (aA p i) A1 c1 A2 c2 A3 c3 A4 c4 s w1 (Aq.below a) hn;have Di:=Hd fun s w1 (a:Below w.heap.size w w1)=>aCd p E ec (some ⟨bn,on,none⟩) nc s w1 (h.below a);have Cs:=Hd fun s w1 (a:Below w.heap.size w w1)=>zV (aA p i) A1 c1 A2 c2 A3 c3 A4 c4 s (aA p i).eqs.length w1 (Aq.below a) (Yh _) hq;have Cl:=Hd fun j (hj:j<(aA p i).eqs.length) w1 (a:Below w.heap.size w w1)=>aPk p E ec (some ⟨bn,on,none⟩) nc i j w1 (h.below a) hi hj hn hq (hx j hj);have Cy:=Hd fun w1 (a:Below w.heap.size w w1)=>rT (aA p i) A1 c1 A2 c2 A3 c3 A4 c4 w1 (Aq.below a) hn;have Bq:=Hd xH;have Co:=Hd fun w1 (a:Below w.heap.size w w1)=>And.intro ((a.cell (p:=⟨bn,on+i*5,none⟩) Bh).trans d0) (And.intro ((a.cell (p:=⟨bn,on+i*5+1,none⟩) Bh).trans d1) (And.intro ((a.cell (p:=⟨bn,on+i*5+2,none⟩) Bh).trans d2) (And.intro ((a.cell (p:=⟨bn,on+i*5+3,none⟩) Bh).trans d3) ((a.cell (p:=⟨bn,on+i*5+4,none⟩) Bh).trans d4))));have Bz:=Hd fun w1 w2 hw (a:Below w.heap.size w w1)=>iB w1 (aA p i) A1 c1 A2 c2 A3 c3 A4 c4 w2 hw (Aq.below a);have Dd:=Hd fun h=>aM0 (p:=p) (i:=i) h;have Dr:=Hd fun k h hk hn he=>aM1 (p:=p) (i:=i) (k:=k) h hk hn he;have Ce:=Hd fun h hn=>aJ3 (p:=p) (i:=i) h hn;have Ek:=Hd fun s=>yC (s:=s) hq (aA p i).eqs.length;have Ey:=aQ.max h.2;have Ep:=aQ.max Aq.2.2.2;have Dv:=aQ.max Aq.1;have Et:=hq.1;have Ez:(aA p i).ins.length<=(aA p i).all.length:=by rw [oB];omega
 have Du:=Hd (show ∀ d,jP p (aA p i) d=((d.on.toList==[]) || (fS (aA p i) d.on && cM p.es d.ct)) from fun d=>rfl);clear h Aq d0 d1 d2 d3 d4 hx hq;generalize dU p i=Bm at *;generalize jP p (aA p i)=Bn at *;unfold aP at HF Di Cl ⊢;unfold bL at Cm Cs Bz Cy;generalize Eg:aA p i=y at *;clear Eg;generalize eB p i=eS at *;generalize Er:p.ns.length=pn at *;generalize Em:y.eqs.length=nq at *;generalize Eo:y.ins.length=n1 at *;generalize Fc:y.all.length=na at *;generalize Ef:y.all=ys at *;clear Ef
 go_enter Tryz.func39,Tryz.ntmps39
 go_upto_region 1 with(fail)
 generalize Db:w.alloc _=w1;obtain⟨Ca,Dp,Ej,Ah⟩:=HF.o w1 Db;generalize Df:w1.alloc _=w2;obtain⟨Bg,Ch,Dt⟩:=jA Df;simp only [Dp] at Ch;have Cp:=Hd Ch;have Bw:=Hd (Ca.trans (Bg.mono Ca.size));have q1:=Ah w2 Bg 1;simp only [Ya,Yb,Yc] at q1;have Da:=Hd fun W (b:Below w2.heap.size w2 W) j=>Ah W (Bg.trans (b.mono Bg.size)) j;obtain⟨d0,d1,d2,d3,d4⟩:=Co.o w2 Bw.o;have Fb:(i:Int)<(pn:Int):=by omega
 have Eu:(0:Int)<=(i:Int):=by omega
 have Ew:i<=9223372036854775807:=by omega
 clear Db Df Ah Ca Bg Ej HF Dt Ch
 go_upto_region 2 with(fail)
 generalize Ai:w2.alloc _=w3;obtain⟨Bp,Dx,-,Ac⟩:=Bz.o w2 w3 Ai Bw.o;have Cf:=Hd (Bw.o.trans (Bp.mono Bw.o.size));have Cx:=Hd (Cp.o.below Bp);have Cw:=Hd fun W (b:Below w3.heap.size w3 W) j=>Da.o W (Bp.trans (b.mono Bp.size)) j;have n0:=Ac w3 (Yg _ _) 0;have Bo:=Ac w3 (Yg _ _) 1;obtain⟨-,-,n2,n3,n4,-⟩:=Sx (Ac w3 (Yg _ _));simp only [Ya,Yb,Yc] at n0 Bo n2 n3 n4;have Dj:=Hd Ac;have Cb:=Hd (Cy.o w3 Cf.o);unfold tJ at Cb;clear Ai Ac Bp Dx Bz Co d0 d1 d2 d3 d4 q1 Da Cp
 go_wp2_with fail
 refine Cb.o.mono ?_;rintro e w4 ⟨AD,cD,rfl,Br,As⟩;have Ba:=Hd (Cf.o.trans (As.mono Cf.o.size));have Ck:=Hd (Cx.o.below As);have Bv:=Hd fun W (b:Below w4.heap.size w4 W) j=>Cw.o W (As.trans (b.mono As.size)) j;have Bb:=Hd fun W (b:Below w4.heap.size w4 W) j=>Dj.o W (As.trans (b.mono As.size)) j;have Cn:=Hd Br;have Fa:=aQ.len Br;have El:=aQ.max Br;clear Br As n0 Bo n2 n3 n4 Cb Cw Dj Cx
 go_wp2_with fail
 go_loopw [7] (fun c wr=>∃ k:Nat,k<=na/\c=.int .i64 k/\(ys.take k).all Bn=true/\Below w4.heap.size w4 wr) (fun c _=>na-(intOf c).toNat)
 case atStart=>exact⟨0,Yq _,rfl,by simp,Yg _ _⟩
 case round=>
  obtain⟨k,hk,rfl,Dl,Am⟩:=hrel;have Cq:=Hd Dl;have Bd:=Hd Am;have Ap:=Hd (Ba.o.trans (Am.mono Ba.o.size));have De:=Hd (Ck.o.below Am);clear Dl
  by_cases Dq:k<na
  . obtain⟨b5,o5,rfl,Dz,Bi⟩:=aQ.at_ (Cn.o.below Am) (by omega);obtain⟨z0,z1,z2,z3,z4,z5⟩:=(Bi k Dq).six;have Cu:=Hd (mO (f:=Bn) (l:=ys) (k:=k) Cq.o (by omega));have Dg:=Hd (kX (f:=Bn) (l:=ys) (k:=k) (by omega));have Bu:=Hd (Du.o (ys[k]?.getD default));obtain⟨n0,n1,n2,n3,n4,-⟩:=Sx (Bb.o wr Am);have y0:=Bv.o wr Am 0;have y1:=Bv.o wr Am 1;simp only [Ya,Yb,Yc] at n0 n1 n2 n3 n4 y0 y1;have Ec:(k:Int)<(na:Int):=by omega
    have Dy:(0:Int)<=(k:Int):=by omega
    clear Bi Am;generalize Bn (ys[k]?.getD default)=ob at *;generalize (ys[k]?.getD default).on=Bj at *;generalize (ys[k]?.getD default).ct=Dk at *;generalize Cz:fS y Bj=iv at *;generalize Cr:cM p.es Dk=av at *;have Bc:=Hd fun W (b:Below wr.heap.size wr W)=>Cm.o Bj W (Ap.o.trans (b.mono Ap.o.size));have Cd:=Hd fun W (b:Below wr.heap.size wr W)=>Di.o Dk W (Ap.o.trans (b.mono Ap.o.size));rw [Cz] at Bc;rw [Cr] at Cd;clear Cz Cr;have Dh:(Bj.toList != [])=!(Bj.toList==[]):=rfl
    go_upto_region 6 with(fail)
    cases ho:(Bj.toList==[]) with
    | true=>
     rw [ho] at Dh;have HT:=Hd (Cu.o (by rw [Bu.o,ho];rfl));have An:=Hd fun d os=>Zs wr d os;have l0:=fun d os=>Zr n0 d os;have l1:=fun d os=>Zr n1 d os;have l2:=fun d os=>Zr n2 d os;have l3:=fun d os=>Zr n3 d os;have l4:=fun d os=>Zr n4 d os;have l5:=fun d os=>Zr y0 d os;have l6:=fun d os=>Zr y1 d os;have l7:=fun d os=>Zr z4 d os;have l8:=fun d os=>Zr z5 d os;have cA:=fun d os=>Zh (Bc.o (grow (redrawn wr d) os) (Zs wr d os));refine Zz (by kernel_rfl) (by kernel_rfl) ?_
     repeat (go_big_quiet_step (first | with_reducible exact cA _ _))
     refine Xf ?_;intro _ Ai;obtain⟨⟨Al,Ad⟩,Ab⟩:=Ai;have Aa:=An.o Al Ad;rw [<- Ab] at Aa;clear l0 l1 l2 l3 l4 l5 l6 l7 l8 cA Ab
     rename_i w7
     have Af:=Hd (Bd.o.trans (Aa.mono Bd.o.size));clear Aa z0 z1 z2 z3 z4 z5 n0 n1 n2 n3 n4 y0 y1
     go_wp2_with fail
     go_roundw
     case rel=>exact⟨k+1,by omega,by go_num,HT.o,Af.o⟩
     case measure=>simp [intOf];omega
    | false=>
     rw [ho] at Dh
     cases iv with
     | false=>
      have An:=Hd fun d os=>Zs wr d os;have l0:=fun d os=>Zr n0 d os;have l1:=fun d os=>Zr n1 d os;have l2:=fun d os=>Zr n2 d os;have l3:=fun d os=>Zr n3 d os;have l4:=fun d os=>Zr n4 d os;have l5:=fun d os=>Zr y0 d os;have l6:=fun d os=>Zr y1 d os;have l7:=fun d os=>Zr z4 d os;have l8:=fun d os=>Zr z5 d os;have cA:=fun d os=>Zh (Bc.o (grow (redrawn wr d) os) (Zs wr d os));refine Zz (by kernel_rfl) (by kernel_rfl) ?_
      repeat (go_big_quiet_step (first | with_reducible exact cA _ _))
      refine Xf ?_;intro _ Ai;obtain⟨⟨Al,Ad⟩,Ab⟩:=Ai;have Aa:=An.o Al Ad;rw [<- Ab] at Aa;clear l0 l1 l2 l3 l4 l5 l6 l7 l8 cA Ab
      rename_i w7
      have Af:=Hd (Ap.o.trans (Aa.mono Ap.o.size));have Az:=Hd (De.o.below Aa);clear Aa z0 z1 z2 z3 z4 z5 n0 n1 n2 n3 n4 y0 y1;have HR:=Hd (show Bm=((i:Int),-1,5) from Dd.o (Dg.o (by rw [Bu.o,ho];rfl)))
      go_wp2_with fail
      refine(Bq.o (i) (-1) (5) w7).mono ?_;rintro e wz ⟨rfl,Ag⟩;have Aj:=Hd ((Az.o).below Ag);have Au:=Hd ((Af.o).trans (Ag.mono (Af.o).size));clear Ag
      go_wp2_with (refine Zu rfl _ _ _ rfl (w.heap.size+1) _ rfl rfl _ _ Aj.o eQ rfl (by simp [aC,Value.oneCell']) ?_)
      exact Zt (eZ (p:=4) rfl _ _ (w.heap.size+1) (i) (-1) (5) rfl (Aj.o.set _ _ _)) rfl ⟨by rw [HR.o];rfl,Xb Au.o (Nat.le_succ _) _⟩
     | true=>
      cases av with
      | true=>
       have HT:=Hd (Cu.o (by rw [Bu.o,ho];rfl));have An:=Hd fun d os=>Zs wr d os;have l0:=fun d os=>Zr n0 d os;have l1:=fun d os=>Zr n1 d os;have l2:=fun d os=>Zr n2 d os;have l3:=fun d os=>Zr n3 d os;have l4:=fun d os=>Zr n4 d os;have l5:=fun d os=>Zr y0 d os;have l6:=fun d os=>Zr y1 d os;have l7:=fun d os=>Zr z4 d os;have l8:=fun d os=>Zr z5 d os;have cA:=fun d os=>Zh (Bc.o (grow (redrawn wr d) os) (Zs wr d os));have cB:=fun d os=>Zh (Cd.o (grow (redrawn wr d) os) (Zs wr d os));refine Zz (by kernel_rfl) (by kernel_rfl) ?_
       repeat (go_big_quiet_step (first | with_reducible exact cA _ _ | with_reducible exact cB _ _))
       refine Xf ?_;intro _ Ai;obtain⟨⟨Al,Ad⟩,Ab⟩:=Ai;have Aa:=An.o Al Ad;rw [<- Ab] at Aa;clear l0 l1 l2 l3 l4 l5 l6 l7 l8 cA cB Ab
       rename_i w7
       have Af:=Hd (Bd.o.trans (Aa.mono Bd.o.size));clear Aa z0 z1 z2 z3 z4 z5 n0 n1 n2 n3 n4 y0 y1
       go_wp2_with fail
       go_roundw
       case rel=>exact⟨k+1,by omega,by go_num,HT.o,Af.o⟩
       case measure=>simp [intOf];omega
      | false=>
       have An:=Hd fun d os=>Zs wr d os;have l0:=fun d os=>Zr n0 d os;have l1:=fun d os=>Zr n1 d os;have l2:=fun d os=>Zr n2 d os;have l3:=fun d os=>Zr n3 d os;have l4:=fun d os=>Zr n4 d os;have l5:=fun d os=>Zr y0 d os;have l6:=fun d os=>Zr y1 d os;have l7:=fun d os=>Zr z4 d os;have l8:=fun d os=>Zr z5 d os;have cA:=fun d os=>Zh (Bc.o (grow (redrawn wr d) os) (Zs wr d os));have cB:=fun d os=>Zh (Cd.o (grow (redrawn wr d) os) (Zs wr d os));refine Zz (by kernel_rfl) (by kernel_rfl) ?_
       repeat (go_big_quiet_step (first | with_reducible exact cA _ _ | with_reducible exact cB _ _))
       refine Xf ?_;intro _ Ai;obtain⟨⟨Al,Ad⟩,Ab⟩:=Ai;have Aa:=An.o Al Ad;rw [<- Ab] at Aa;clear l0 l1 l2 l3 l4 l5 l6 l7 l8 cA cB Ab
       rename_i w7
       have Af:=Hd (Ap.o.trans (Aa.mono Ap.o.size));have Az:=Hd (De.o.below Aa);clear Aa z0 z1 z2 z3 z4 z5 n0 n1 n2 n3 n4 y0 y1;have HR:=Hd (show Bm=((i:Int),-1,5) from Dd.o (Dg.o (by rw [Bu.o,ho];rfl)))
       go_wp2_with fail
       refine(Bq.o (i) (-1) (5) w7).mono ?_;rintro e wz ⟨rfl,Ag⟩;have Aj:=Hd ((Az.o).below Ag);have Au:=Hd ((Af.o).trans (Ag.mono (Af.o).size));clear Ag
       go_wp2_with (refine Zu rfl _ _ _ rfl (w.heap.size+1) _ rfl rfl _ _ Aj.o eQ rfl (by simp [aC,Value.oneCell']) ?_)
       exact Zt (eZ (p:=4) rfl _ _ (w.heap.size+1) (i) (-1) (5) rfl (Aj.o.set _ _ _)) rfl ⟨by rw [HR.o];rfl,Xb Au.o (Nat.le_succ _) _⟩
  . have Dm:k=na:=by omega
    subst Dm
    have Bk:=Hd (show ys.all Bn=true by
     have h1:=Cq.o;rwa [Yx (by omega)] at h1)
    clear Am;generalize wr=wo at *
    go_wp2_with fail
    go_loopw [8] (fun c wr=>∃ m:Nat,m<=nq/\c=.int .i64 m/\(∀ a,a<m->eS a=0)/\Below w4.heap.size w4 wr) (fun c _=>nq-(intOf c).toNat)
    case atStart=>exact⟨0,Yq _,rfl,fun a ha=>absurd ha (by omega),Bd.o⟩
    case round=>
     obtain⟨m,hm,rfl,Bl,Ae⟩:=hrel;have Aw:=Hd Bl;have Ax:=Hd Ae;have Av:=Hd (Ba.o.trans (Ae.mono Ba.o.size));have Cj:=Hd (Ck.o.below Ae);have n4:=Bb.o wr Ae 4;have Bo:=Bb.o wr Ae 1;have y0:=Bv.o wr Ae 0;have y1:=Bv.o wr Ae 1;simp only [Ya,Yb,Yc] at n4 Bo y0 y1;clear Bl Ae
     by_cases Ct:m<nq
     . have Cv:=Hd (Cl.o m Ct wr Av.o);have Dn:=Hd fun hz=>dK (P:=fun a=>eS a=0) Aw.o hz;have Eb:=Hd fun he=>Dr.o m Bk.o Ct Aw.o he;generalize eS m=em at *
       go_wp2_with fail
       refine Cv.o.mono ?_;rintro e w7 ⟨rfl,Bt⟩;have Af:=Hd (Av.o.trans (Bt.mono Av.o.size));have Ar:=Hd (Ax.o.trans (Bt.mono Ax.o.size));have Az:=Hd (Cj.o.below Bt);clear Bt n4 Bo y0 y1 Cv
       by_cases hz:em=0
       . have Bx:=Hd (Dn.o hz);have Ci:(em != 0)=false:=by rw [hz];rfl
         go_wp2_with fail
         go_roundw
         case rel=>exact⟨m+1,by omega,by go_num,Bx.o,Ar.o⟩
         case measure=>simp [intOf];omega
       . have HR:=Hd (show Bm=((i:Int),(m:Int),em) from Eb.o hz);have Ci:(em != 0)=true:=by rw [bne_iff_ne];exact hz
         go_wp2_with fail
         refine(Bq.o (i) (m) (em) w7).mono ?_;rintro e wz ⟨rfl,Ag⟩;have Aj:=Hd ((Az.o).below Ag);have Au:=Hd ((Af.o).trans (Ag.mono (Af.o).size));clear Ag
         go_wp2_with (refine Zu rfl _ _ _ rfl (w.heap.size+1) _ rfl rfl _ _ Aj.o eQ rfl (by simp [aC,Value.oneCell']) ?_)
         exact Zt (eZ (p:=4) rfl _ _ (w.heap.size+1) (i) (m) (em) rfl (Aj.o.set _ _ _)) rfl ⟨by rw [HR.o];rfl,Xb Au.o (Nat.le_succ _) _⟩
     . have Eh:m=nq:=by omega
       subst Eh;have Be:=Hd (Ce.o Bk.o Aw.o);generalize wr=Es at *
       go_wp2_with fail
       go_loopw [10] (fun c wr=>∃ u:Nat,n1<=u/\u<=k/\c=.int .i64 u/\(∀ a,n1<=a->a<u->0<eX y (ys[a]?.getD default).nm m)/\Below w4.heap.size w4 wr) (fun c _=>k-(intOf c).toNat)
       case atStart=>exact⟨n1,Yh _,by omega,rfl,fun a h1 h2=>absurd h1 (by omega),Ax.o⟩
       case round=>
        obtain⟨u,Ed,hu,rfl,Ao,Aa⟩:=hrel;have Cg:=Hd Ao;have Bf:=Hd Aa;have Ak:=Hd (Ba.o.trans (Aa.mono Ba.o.size));have Ay:=Hd (Ck.o.below Aa)
        by_cases Ea:u<k
        . obtain⟨b5,o5,rfl,Dz,Bi⟩:=aQ.at_ (Cn.o.below Aa) (by omega);obtain⟨z0,z1,z2,z3,z4,z5⟩:=(Bi u Ea).six;have n0:=Bb.o wr Aa 0;have m1:=Bb.o wr Aa 1;obtain⟨-,-,n2,n3,n4,-⟩:=Sx (Bb.o wr Aa);simp only [Ya,Yb,Yc] at n0 m1 n2 n3 n4;have Ec:(u:Int)<(k:Int):=by omega
          have Dy:(0:Int)<=(u:Int):=by omega
          have Ei:=Hd fun W (b:Below wr.heap.size wr W)=>Cs.o (ys[u]?.getD default).nm W (Ak.o.trans (b.mono Ak.o.size))
          have Ee:=Hd fun(h0:eX y (ys[u]?.getD default).nm m=0)=>(show Bm=((i:Int),-1,5) by
           rw [Be.o,aG8 (k:=u) Ed (by omega) (by rw [h0];rfl)];rfl)
          have Cc:=Hd fun(h0:0<eX y (ys[u]?.getD default).nm m)=>(show ∀ a,n1<=a->a<u+1->0<eX y (ys[a]?.getD default).nm m from fun a h1 h2=>by
           by_cases ha:a<u
           . exact Cg.o a h1 ha
           . obtain rfl:a=u:=by omega
             exact h0)
          clear Bi Aa Ao;generalize Ds:eX y (ys[u]?.getD default).nm m=du at *;clear Ds;generalize (ys[u]?.getD default).nm=Ev at *
          go_upto_region 17 with(fail)
          have An:=Hd fun d os=>Zs wr d os;have l0:=fun d os=>Zr n0 d os;have l1:=fun d os=>Zr m1 d os;have l2:=fun d os=>Zr n2 d os;have l3:=fun d os=>Zr n3 d os;have l4:=fun d os=>Zr n4 d os;have l5:=fun d os=>Zr z0 d os;have cA:=fun d os=>Zh (Ei.o (grow (redrawn wr d) os) (Zs wr d os));refine Zz (by kernel_rfl) (by kernel_rfl) ?_
          repeat (go_big_quiet_step (first | with_reducible exact cA _ _))
          refine Xf ?_;intro _ Ai;obtain⟨⟨Al,Ad⟩,Ab⟩:=Ai;have Aa:=An.o Al Ad;rw [<- Ab] at Aa;clear l0 l1 l2 l3 l4 l5 cA Ab
          rename_i w7
          have Af:=Hd (Ak.o.trans (Aa.mono Ak.o.size));have Ar:=Hd (Bf.o.trans (Aa.mono Bf.o.size));have Az:=Hd (Ay.o.below Aa);clear Aa z0 z1 z2 z3 z4 z5 n0 m1 n2 n3 n4
          by_cases hz:du=0
          . have HR:=Hd (Ee.o hz);have Ci:((du:Int)==0)=true:=by rw [hz];rfl
            go_wp2_with fail
            refine(Bq.o (i) (-1) (5) w7).mono ?_;rintro e wz ⟨rfl,Ag⟩;have Aj:=Hd ((Az.o).below Ag);have Au:=Hd ((Af.o).trans (Ag.mono (Af.o).size));clear Ag
            go_wp2_with (refine Zu rfl _ _ _ rfl (w.heap.size+1) _ rfl rfl _ _ Aj.o eQ rfl (by simp [aC,Value.oneCell']) ?_)
            exact Zt (eZ (p:=4) rfl _ _ (w.heap.size+1) (i) (-1) (5) rfl (Aj.o.set _ _ _)) rfl ⟨by rw [HR.o];rfl,Xb Au.o (Nat.le_succ _) _⟩
          . have Bx:=Hd (Cc.o (by omega));have Ci:((du:Int)==0)=false:=by rw [Xa];omega
            go_wp2_with fail
            go_roundw
            case rel=>exact⟨u+1,by omega,by omega,by go_num,Bx.o,Ar.o⟩
            case measure=>simp [intOf];omega
        . have Dw:u=k:=by omega
          subst Dw
          have HR:=Hd (show Bm=(0,0,0) by
           rw [Be.o,aGu (f:=fun d:Dc=>decide (0<eX y d.nm m)) (l:=ys) (m:=n1) fun a h1 h2=>Zx (Ao a h1 (by omega))];rfl)
          clear Ao Aa
          go_wp2_with (refine Zu rfl _ _ _ rfl (w.heap.size+1) _ rfl rfl _ _ Ay.o eQ rfl (by simp [aC,Value.oneCell']) ?_)
          exact Zt (eZ (p:=4) rfl _ _ (w.heap.size+1) 0 0 0 rfl (Ay.o.set _ _ _)) rfl ⟨by rw [HR.o];rfl,Xb Ak.o (Nat.le_succ _) _⟩
end
section
open Go.RowKit Go.Sort
theorem nY{n:Nd}(h:jC n):n.all.length<=1000/\oP n/\∀ j,j<n.eqs.length->bG (n.eqs[j]?.getD default).x<=1000000:=by
 have h1:=(mC h.1).2;have h2:=(mC h.2.1).2;have h3:=(mC h.2.2.1).2;have h4:=h.2.2.2.1;refine⟨by rw [oB];omega,⟨by omega,fun q hq=>?_⟩,fun j hj=>tD (h.2.2.2.2.2 j hj).2.1⟩;obtain⟨j,hj,rfl⟩:=Zi hq;have:=(h.2.2.2.2.2 j hj).1;rw [Yk hj,Yt] at this;omega
theorem aBa{p:Pg}{k:Nat}(h0:dO p=0) (hk:k<p.ns.length) (hn:∀ a,a<k->dU p a=(0,0,0)) (h:dU p k≠(0,0,0)):dE p=dU p k:=by
 unfold dE;rw [if_pos h0];exact mP hk hn h
theorem aCf{p:Pg}(h0:dO p=0) (hn:∀ a,a<p.ns.length->dU p a=(0,0,0)):dE p=(0,0,0):=by
 unfold dE;rw [if_pos h0];exact lX hn
theorem aFs{a b c:Int}(h:¬ ((a,b,c):Fl)=(0,0,0)):(a != 0)=true\/(a=0/\(b != 0)=true)\/(a=0/\b=0/\(c != 0)=true):=by
 by_cases ha:a=0
 . by_cases hb:b=0
   . by_cases hc:c=0
     . subst ha hb hc;exact absurd rfl h
     . exact .inr (.inr ⟨ha,hb,bne_iff_ne.2 hc⟩)
   . exact .inr (.inl ⟨ha,bne_iff_ne.2 hb⟩)
 . exact .inl (bne_iff_ne.2 ha)
theorem aH5(p:Pg) (E:Option Addr) (ec:Nat) (N:Option Addr) (nc:Nat) (w:World) (h:cW w p E N) (ht:gI p):
 Calls Tryz.prog 12 #[.agg (aP p E ec N nc)] w fun e w'=>e=.returned (kW (dE p))/\Below w.heap.size w w':=by
 have HF:=Hd fun w1 hw=>kH w p E ec N nc w1 hw h;have Bk:=Hd fun w1 (a:Below w.heap.size w w1)=>aMw p E ec N nc w1 (h.below a) ht;have An:=Hd fun i (hi:i<p.ns.length) w1 (a:Below w.heap.size w w1)=>aJ4 p E ec N nc i w1 (h.below a) hi (nY (ht.2.2 i hi)).1 (nY (ht.2.2 i hi)).2.1 (nY (ht.2.2 i hi)).2.2;have Bn:=Hd xH;have Aq:=Hd fun k h0 hk hn h=>aBa (p:=p) (k:=k) h0 hk hn h;have Bw:=Hd fun h0 hn=>aCf (p:=p) h0 hn;have Af:=Hd fun(h0:¬ dO p=0)=>(show dE p=(0,-1,dO p) by unfold dE;rw [if_neg h0]);have Cc:=aQ.max h.2;clear h ht;generalize dE p=Bx at *;generalize dO p=ck at *;unfold aP at HF Bk An ⊢;unfold kW at An;generalize dU p=nS at *;generalize Cb:p.ns.length=pn at *
 go_enter Tryz.func12,Tryz.ntmps12
 go_upto_region 1 with(fail)
 generalize Bh:w.alloc _=w1;obtain⟨Am,Bq,Ca,Aa⟩:=HF.o w1 Bh;generalize Bi:w1.alloc _=w2;obtain⟨Ad,Au,Bt⟩:=jA Bi;simp only [Bq] at Au;have Bc:=Hd Au;have Ax:=Hd (Am.trans (Ad.mono Am.size));have Al:=Hd fun W (b:Below w2.heap.size w2 W) j=>Aa W (Ad.trans (b.mono Ad.size)) j;have y0:=Al.o w2 (Yg _ _) 0;have y1:=Al.o w2 (Yg _ _) 1;simp only [Ya,Yb,Yc] at y0 y1;have Bg:=Hd (Bk.o w2 Ax.o);clear Bh Bi Aa Am Ad Ca HF Bt Au
 go_wp2_with fail
 refine Bg.o.mono ?_;rintro e w3 ⟨rfl,Ag⟩;have Aj:=Hd (Ax.o.trans (Ag.mono Ax.o.size));have Bf:=Hd (Bc.o.below Ag);have Be:=Hd fun W (b:Below w3.heap.size w3 W) j=>Al.o W (Ag.trans (b.mono Ag.size)) j;clear Ag y0 y1 Al Bg Bc
 by_cases h0:ck=0
 . have Bu:(ck != 0)=false:=by rw [h0];rfl
   go_wp2_with fail
   go_loopw [4] (fun c wr=>∃ k:Nat,k<=pn/\c=.int .i64 k/\(∀ a,a<k->nS a=(0,0,0))/\Below w3.heap.size w3 wr) (fun c _=>pn-(intOf c).toNat)
   case atStart=>exact⟨0,Yq _,rfl,fun a ha=>absurd ha (by omega),Yg _ _⟩
   case round=>
    obtain⟨k,hk,rfl,Bl,Ab⟩:=hrel;have Ap:=Hd Bl;have Az:=Hd Ab;have Ah:=Hd (Aj.o.trans (Ab.mono Aj.o.size));have Aw:=Hd (Bf.o.below Ab);have y0:=Be.o wr Ab 0;have y1:=Be.o wr Ab 1;simp only [Ya,Yb,Yc] at y0 y1;clear Bl Ab
    by_cases Bb:k<pn
    . have Bd:=Hd (An.o k Bb wr Ah.o);have Bp:=Hd fun hz=>dK (P:=fun a=>nS a=(0,0,0)) Ap.o hz;have HH:=Hd (Aq.o k h0 Bb Ap.o);generalize nS k=f at *;obtain⟨fa,fb,fc⟩:=f
      go_wp2_with fail
      refine Bd.o.mono ?_;rintro e w7 ⟨rfl,Ak⟩;have Ay:=Hd (Ah.o.trans (Ak.mono Ah.o.size));have Ae:=Hd (Az.o.trans (Ak.mono Az.o.size));have Bz:=Hd (Aw.o.below Ak);clear Ak y0 y1 Bd;simp only [aC]
      go_upto_region 8 with(fail)
      generalize Av:w7.alloc _=w8;have Ai:Below w7.heap.size w7 w8:=by rw [<- Av];exact(Yg _ _).alloc (Yh _) _
      have Ba:F3 30 w8 w7.heap.size fa fb fc:=by rw [<- Av];exact F3.new _ _ _ _ _
      obtain⟨z0,z1,z2,-,-,-⟩:=Sx Ba.cell;simp only [aC,List.getElem?_toArray,Yz,Zb] at z0 z1 z2;have Ao:=Hd (Ay.o.trans (Ai.mono Ay.o.size));have As:=Hd (Ae.o.trans (Ai.mono Ae.o.size));have Ac:=Hd (Bz.o.below Ai);clear Av Ai Ba
      by_cases hz:((fa,fb,fc):Fl)=(0,0,0)
      . have Bo:=Hd (Bp.o hz);injection hz with ha Br;injection Br with hb hc;subst ha hb hc
        go_wp2_with fail
        go_roundw
        case rel=>exact⟨k+1,by omega,by go_num,Bo.o,As.o⟩
        case measure=>simp [intOf];omega
      . have HR:=Hd (show Bx=(fa,fb,fc) from HH.o hz);rcases aFs hz with ha | ⟨ha,hb⟩|⟨ha,hb,hc⟩
        . have Cd:(fa==0)=false:=by rw [bne_iff_ne] at ha;exact Xa.2 ha
          clear hz
          go_wp2_with (refine Zu rfl _ _ _ rfl (w.heap.size+1) _ rfl rfl _ _ Ac.o eQ rfl (by simp [aC,Value.oneCell']) ?_)
          exact Zt (eZ (p:=2) rfl _ _ (w.heap.size+1) fa fb fc rfl (Ac.o.set _ _ _)) rfl ⟨by rw [HR.o];rfl,Xb Ao.o (Nat.le_succ _) _⟩
        . have Ad:(fb==0)=false:=by rw [bne_iff_ne] at hb;exact Xa.2 hb
          subst ha;clear hz
          go_wp2_with (refine Zu rfl _ _ _ rfl (w.heap.size+1) _ rfl rfl _ _ Ac.o eQ rfl (by simp [aC,Value.oneCell']) ?_)
          exact Zt (eZ (p:=2) rfl _ _ (w.heap.size+1) 0 fb fc rfl (Ac.o.set _ _ _)) rfl ⟨by rw [HR.o];rfl,Xb Ao.o (Nat.le_succ _) _⟩
        . have Ce:(fc==0)=false:=by rw [bne_iff_ne] at hc;exact Xa.2 hc
          subst ha hb;clear hz
          go_wp2_with (refine Zu rfl _ _ _ rfl (w.heap.size+1) _ rfl rfl _ _ Ac.o eQ rfl (by simp [aC,Value.oneCell']) ?_)
          exact Zt (eZ (p:=2) rfl _ _ (w.heap.size+1) 0 0 fc rfl (Ac.o.set _ _ _)) rfl ⟨by rw [HR.o];rfl,Xb Ao.o (Nat.le_succ _) _⟩
    . have Bm:k=pn:=by omega
      subst Bm;have HR:=Hd (Bw.o h0 Ap.o)
      go_wp2_with (refine Zu rfl _ _ _ rfl (w.heap.size+1) _ rfl rfl _ _ Aw.o eQ rfl (by simp [aC,Value.oneCell']) ?_)
      exact Zt (eZ (p:=2) rfl _ _ (w.heap.size+1) 0 0 0 rfl (Aw.o.set _ _ _)) rfl ⟨by rw [HR.o];rfl,Xb Ah.o (Nat.le_succ _) _⟩
 . have Bu:(ck != 0)=true:=by rw [bne_iff_ne];exact h0
   have HR:=Hd (Af.o h0)
   go_wp2_with fail
   refine(Bn.o 0 (-1) ck w3).mono ?_;rintro e wz ⟨rfl,Ar⟩;have Bj:=Hd (Bf.o.below Ar);have Bv:=Hd (Aj.o.trans (Ar.mono Aj.o.size));clear Ar
   go_wp2_with (refine Zu rfl _ _ _ rfl (w.heap.size+1) _ rfl rfl _ _ Bj.o eQ rfl (by simp [aC,Value.oneCell']) ?_)
   exact Zt (eZ (p:=2) rfl _ _ (w.heap.size+1) 0 (-1) ck rfl (Bj.o.set _ _ _)) rfl ⟨by rw [HR.o];rfl,Xb Bv.o (Nat.le_succ _) _⟩
end
section
theorem yW{s t:ByteArray}:bQ s t=true↔t.data.toList=s.data.toList:=by simp [bQ]
theorem aJ5{s:ByteArray}{l:List ByteArray}(h:l.any (bQ s)=false):jY s l=0:=by
 unfold jY;rw [List.length_eq_zero_iff,List.filter_eq_nil_iff];intro x hx;have:=List.any_eq_false.1 h x hx
 simpa using this
end
section
def pJ(vs Aa:List ByteArray) (es:List En) (e:Ex):Bool:=
 if e.k==3 then vs.any (bQ e.s)
 else if e.k==11 || e.k==12 then vs.any (bQ e.s) && !(e.arms.any fun a=>!cM es a)
 else if e.k==4 then cM es e.s
 else if e.k==13 then Aa.any (bQ e.s)
 else !(e.k==17)
def mV(vs ds:List ByteArray) (s:ByteArray):Int:=if vs.any (bQ s)=false then 5 else if ds.any (bQ s)=true then 6 else 0
def fH(n:Nd) (j:Nat):List ByteArray:=bD n.ins++(n.eqs.take j).flatMap Qn.ns
def lL(vs:List ByteArray) (es:List En) (d:Dc):Bool:=!(d.on.toList==[]) && (!vs.any (bQ d.on) || !cM es d.ct)
theorem yD(n:Nd) (s:ByteArray):fS n s=(bD n.all).any (bQ s):=by
 unfold fS aW bD;rw [List.any_map,Zm,List.find?_isSome,List.any_eq_true];rfl
theorem aJ6(n:Nd) (s:ByteArray):lC n s=(bD n.ins).any (bQ s):=by
 unfold lC bD;rw [List.any_map];rfl
theorem aEo(s:ByteArray) (l:List ByteArray):decide (0<jY s l)=l.any (bQ s):=by
 cases h:l.any (bQ s) with
 | false=>rw [aJ5 h];rfl
 | true=>
  obtain⟨x,hx,hn⟩:=List.any_eq_true.1 h;refine Zx ?_;unfold jY;exact List.length_pos_of_mem (List.mem_filter.2 ⟨hx,hn⟩)
theorem aDf{α:Type}(f:α->Bool):∀ (l:List α) (o:Nat),bE f l o=-1\/(o:Int)<=bE f l o
 | [],o=>.inl rfl
 | a::l,o=>by
  rw [bE]
  cases f a with
  | true=>exact .inr (by simp)
  | false=>
   rcases aDf f l (o+1) with h | h
   . exact .inl (by simpa using h)
   . exact .inr (by simp only [Yy,if_false];omega)
theorem aBb{α:Type}(f:α->Bool):∀ (l:List α) (i o:Nat),(decide (0<=bE f l o) && decide (bE f l o<((o+i:Nat):Int)))=(l.take i).any f
 | [],i,o=>by simp [bE]
 | a::l,0,o=>by
  rcases aDf f (a::l) o with h | h
  . rw [h];simp
  . rw [show decide (bE f (a::l) o<((o+0:Nat):Int))=false from Zy (by omega)]
    simp
 | a::l,i+1,o=>by
  rw [bE,List.take_succ_cons,List.any_cons]
  cases h:f a with
  | true=>
   simp only [if_true,Bool.true_or,Ys,decide_eq_true_eq];omega
  | false=>
   simp only [Yy,if_false,Bool.false_or];rw [<- aBb f l i (o+1),show o+1+i=o+(i+1) by omega]
theorem aJ7(p:Pg) (i:Nat) (s:ByteArray):(decide (0<=cQ p s) && decide (cQ p s<(i:Int)))=((p.ns.take i).map Nd.nm).any (bQ s):=by
 unfold cQ;have:=aBb (fun n:Nd=>n.nm.data.toList==s.data.toList) p.ns i 0;rw [Nat.zero_add] at this;rw [this,List.any_map];rfl
theorem aJ8{e:Ex}(h:bA e=true) (h1:(e.k==11)=false) (h2:(e.k==12)=false):e.arms=[]:=by
 unfold bA at h;simp only [Ys] at h;have ha:dS e=true:=h.1.1.1.2;unfold dS at ha;simp only [h1,h2,Ys,Yy,if_false] at ha;exact List.length_eq_zero_iff.1 (by simpa using ha.2)
theorem aM2{p:Pg}{i:Nat}{e:Ex}(h:bA e=true):pJ (bD (aA p i).all) ((p.ns.take i).map Nd.nm) p.es e=kP p i e:=by
 have hA:=aJ8 h;unfold pJ kP;rw [<- yD,aJ7];rw [show(!(e.arms.any fun a=>!cM p.es a))=e.arms.all (cM p.es) by rw [<- List.not_all_eq_any_not,Bool.not_not]]
 by_cases h3:e.k=3
 . rw [hA (by rw [h3];rfl) (by rw [h3];rfl),h3]
   cases fS (aA p i) e.s <;> rfl
 . by_cases Ac:e.k=11
   . rw [Ac]
     cases fS (aA p i) e.s <;> cases e.arms.all (cM p.es) <;> rfl
   . by_cases Aa:e.k=12
     . rw [Aa]
       cases fS (aA p i) e.s <;> cases e.arms.all (cM p.es) <;> rfl
     . have b3:(e.k==3)=false:=Xa.2 h3;have Ab:(e.k==11)=false:=Xa.2 Ac;have Ad:(e.k==12)=false:=Xa.2 Aa;rw [hA Ab Ad];simp only [b3,Ab,Ad,Bool.false_or,Bool.false_and,Yy,if_false,List.all_nil,Bool.true_eq_false]
theorem aDg(n:Nd) (j:Nat) (ns:List ByteArray) (k:Nat):jU n j ns k=mV (bD n.all) (fH n j++ns.take k) (ns[k]?.getD ByteArray.empty):=by
 unfold jU mV fH eX;rw [yD,aJ6,aEo];generalize ns[k]?.getD ByteArray.empty=s;rw [List.any_append,List.any_append]
 cases (bD n.all).any (bQ s) <;> cases (bD n.ins).any (bQ s) <;> cases ((n.eqs.take j).flatMap Qn.ns).any (bQ s) <;> cases (ns.take k).any (bQ s) <;> rfl
theorem aFc(p:Pg) (n:Nd) (d:Dc):lL (bD n.all) p.es d=!jP p n d:=by
 unfold lL jP;rw [yD]
 cases (d.on.toList==[]) <;> cases (bD n.all).any (bQ d.on) <;> cases cM p.es d.ct <;> rfl
theorem aJ9{n:Nd}{j:Nat}(h:j<n.eqs.length):fH n (j+1)=fH n j++(n.eqs[j]?.getD default).ns:=by
 unfold fH;rw [List.take_add_one,Yk h,List.flatMap_append,Yw]
 simp
theorem aKa(n:Nd):fH n 0=bD n.ins:=by simp [fH]
def jV(p:Pg) (i:Nat) (a e:Int):Prop:=dU p i=if e=0 then((0,0,0):Fl) else((i:Int),a,e)
theorem aKb{p:Pg}{i:Nat}(h:(aA p i).vars.any (lL (bD (aA p i).all) p.es)=true):jV p i (-1) 5:=by
 unfold jV dU;rw [if_pos,if_neg (by decide)];obtain⟨d,hd,ho⟩:=List.any_eq_true.1 h;rw [aFc,Bool.not_eq_true'] at ho;rw [List.all_eq_false];exact⟨d,by unfold Nd.all;exact List.mem_append_right _ hd,by rw [ho];decide⟩
theorem aDh{p:Pg}{n:Nd}(hp:jS n=true) (h:n.vars.any (lL (bD n.all) p.es)=false):n.all.all (jP p n)=true:=by
 rw [Zf];intro d hd;unfold Nd.all at hd;rcases Zn.1 hd with hd | hd
 . have:=Zf.1 hp d hd;unfold gB at this;unfold jP;rw [Zc,this];rfl
 . have:=List.any_eq_false.1 h d hd;rw [aFc] at this
   simpa using this
theorem aM3{p:Pg}{i k:Nat}(hp:jS (aA p i)=true) (h:(aA p i).vars.any (lL (bD (aA p i).all) p.es)=false) (hk:k<(aA p i).eqs.length) (hn:∀ j,j<k->eB p i j=0) (he:eB p i k≠0):jV p i k (eB p i k):=by
 unfold jV dU;rw [if_neg (by rw [aDh hp h];decide),if_neg he];have h1:eH ((0,0,0):Fl) (gC p i) (aA p i).eqs.length=gC p i k:=mP hk (fun j hj=>by unfold gC;rw [if_pos (hn j hj)]) (by unfold gC;rw [if_neg he];intro e;injection e with _ e;injection e with _ e;exact he e);have h2:gC p i k=((i:Int),(k:Int),eB p i k):=by unfold gC;rw [if_neg he]
 rw [h1,h2,if_neg (by intro e;injection e with _ e;injection e with _ e;exact he e)]
theorem aH6{n:Nd}(h:bP (bD n.all)=true){d:Dc}(hd:d∈n.outs++n.vars):(bD n.ins).any (bQ d.nm)=false:=by
 unfold bP sF at h;have h:=of_decide_eq_true h;rw [List.any_eq_false];intro s hs hn;have e:n.all=n.ins++(n.outs++n.vars):=by unfold Nd.all;rw [Yw]
 rw [e] at h;unfold bD at h hs;rw [Zp,Zp,List.nodup_append] at h;exact h.2.2 _ (List.mem_map.2 ⟨s,hs,rfl⟩) _ (List.mem_map.2 ⟨d.nm,List.mem_map.2 ⟨d,hd,rfl⟩,rfl⟩) (yW.1 hn)
theorem aM4{n:Nd}(h:bP (bD n.all)=true):(n.outs.any (fun d=>!(fH n n.eqs.length).any (bQ d.nm)) || n.vars.any (fun d=>!(fH n n.eqs.length).any (bQ d.nm)))=!((n.all.drop n.ins.length).all fun d=>decide (0<eX n d.nm n.eqs.length)):=by
 have e:n.all.drop n.ins.length=n.outs++n.vars:=by unfold Nd.all;rw [Yw,List.drop_left]
 rw [e,<- List.any_append,List.not_all_eq_any_not];rw [Zm,List.any_eq_true,List.any_eq_true]
 have Aa:∀ d∈n.outs++n.vars,(fH n n.eqs.length).any (bQ d.nm)=decide (0<eX n d.nm n.eqs.length):=fun d hd=>by
  unfold fH eX;rw [List.any_append,aH6 h hd,aEo,Bool.false_or]
 exact⟨fun⟨d,hd,hn⟩=>⟨d,hd,by rw [<- Aa d hd];exact hn⟩,fun⟨d,hd,hn⟩=>⟨d,hd,by rw [Aa d hd];exact hn⟩⟩
theorem aKc{p:Pg}{i:Nat}(hp:jS (aA p i)=true) (ho:bP (bD (aA p i).all)=true) (h:(aA p i).vars.any (lL (bD (aA p i).all) p.es)=false) (hn:∀ j,j<(aA p i).eqs.length->eB p i j=0)
 {b:Bool}(hb:((aA p i).outs.any (fun d=>!(fH (aA p i) (aA p i).eqs.length).any (bQ d.nm)) || (aA p i).vars.any (fun d=>!(fH (aA p i) (aA p i).eqs.length).any (bQ d.nm)))=b):jV p i (-1) (if b=true then 5 else 0):=by
 rw [aM4 ho] at hb;unfold jV dU;rw [if_neg (by rw [aDh hp h];decide),if_pos (lX fun j hj=>by unfold gC;rw [if_pos (hn j hj)])]
 cases b with
 | true=>
  rw [Bool.not_eq_true'] at hb;rw [if_neg (by rw [hb];decide)];rfl
 | false=>
  rw [Bool.not_eq_false'] at hb;rw [if_pos hb];rfl
end
end Go.Proofs.YtegjgiofmpolnaaGreat
