/- Parts of the proof: ScD, ScE. Conditions: each theorem's own. -/
import Derived.Test.YtegjgiofmpolnaaGreatC12
namespace Go.Proofs.YtegjgiofmpolnaaGreat
set_option linter.unusedVariables false
set_option linter.unusedSimpArgs false
set_option maxRecDepth 100000
set_option maxHeartbeats 40000000
section
open Go.RowKit Go.Sort Go.BigFrame
theorem Zh:type_of% @Calls.regrown_of:=@Calls.regrown_of
theorem Zr:type_of% @cell_regrown:=@cell_regrown
theorem Zz:type_of% @wp_region_quiet_below:=@wp_region_quiet_below
theorem Xf:type_of% @wpQuiet_nil:=@wpQuiet_nil
end
section
open Go.RowKit Go.Sort Go.BigFrame
theorem iN{w:World}{A:Option Addr}{n i:Nat}{l:List Nd}(h:eW w A n l) (hi:i<n):
 ∃ b Aa A1 c1 A2 c2 A3 c3 A4 c4,A=some ⟨b,Aa,none⟩/\b<w.heap.size/\cJ w (l[i]?.getD default) A1 A2 A3 A4 /\
 w.cell? ⟨b,Aa+i*5,none⟩=some (.string (l[i]?.getD default).nm)/\w.cell? ⟨b,Aa+i*5+1,none⟩=some (.slice A1 (l[i]?.getD default).ins.length c1)/\w.cell? ⟨b,Aa+i*5+2,none⟩=some (.slice A2 (l[i]?.getD default).outs.length c2)/\w.cell? ⟨b,Aa+i*5+3,none⟩=some (.slice A3 (l[i]?.getD default).vars.length c3)/\w.cell? ⟨b,Aa+i*5+4,none⟩=some (.slice A4 (l[i]?.getD default).eqs.length c4):=by
 obtain⟨b,Aa,e,hb,hc⟩:=aQ.at_ h (by omega);obtain⟨A1,c1,A2,c2,A3,c3,A4,c4,h1,h2⟩:=hc i hi;obtain⟨d0,d1,d2,d3,d4⟩:=tS h1;exact⟨b,Aa,A1,c1,A2,c2,A3,c3,A4,c4,e,hb,h2,d0,d1,d2,d3,d4⟩
theorem uP{arms:List ByteArray}{j:Nat}:arms[j]?.getD default=arms[j]?.getD ByteArray.empty:=rfl
def zD(p:Pg) (i:Nat) (k:Int) (s:ByteArray):Bool:=
 if(k==4)=true then cM p.es s else if(k==13)=true then decide (0<=cQ p s) && decide (cQ p s<(i:Int)) else !(k==17)
theorem aMz(p:Pg) (i:Nat) (e:Ex):kP p i e=(if((e.k==3 || e.k==11 || e.k==12) && !fS (aA p i) e.s)=true then false else if e.arms.all (cM p.es)=false then false else zD p i e.k e.s):=rfl
theorem aJ2(p:Pg) (E:Option Addr) (ec:Nat) (N:Option Addr) (nc:Nat) (i:Nat) (x:Ex) (A:Option Addr) (ca:Nat) (B:Option Addr) (cb:Nat) (w:World) (h:cW w p E N) (hi:i<p.ns.length) (hr:aJ w x A B) (hn:(aA p i).all.length<=1000):
 Calls Tryz.prog 110 #[.agg (aP p E ec N nc),.int .i64 i,.agg (aE x A ca B cb)] w fun e w'=>e=.returned (.bool (kP p i x))/\Below w.heap.size w w':=by
 have HF:=Hd fun w1 hw=>kH w p E ec N nc w1 hw h;have Bu:=Hd fun w1 w2 hw (hb:Below w.heap.size w w1)=>eC w1 x A ca B cb w2 hw (hr.below hb);obtain⟨bn,on,A1,c1,A2,c2,A3,c3,A4,c4,e0,Bn,Bx,d0,d1,d2,d3,d4⟩:=iN h.2 hi;have Bv:=Hd fun w1 (a:Below w.heap.size w w1)=>yB (p.ns[i]?.getD default) A1 c1 A2 c2 A3 c3 A4 c4 x.s w1 (Bx.below a) hn;have Bj:=Hd fun s w1 (a:Below w.heap.size w w1)=>aCd p E ec N nc s w1 (h.below a);have Cf:=Hd fun w1 (a:Below w.heap.size w w1)=>aEl p E ec N nc x.s w1 (h.below a);have Ca:=Hd fun w1 (a:Below w.heap.size w w1)=>And.intro ((a.cell (p:=⟨bn,on+i*5,none⟩) Bn).trans d0) (And.intro ((a.cell (p:=⟨bn,on+i*5+1,none⟩) Bn).trans d1) (And.intro ((a.cell (p:=⟨bn,on+i*5+2,none⟩) Bn).trans d2) (And.intro ((a.cell (p:=⟨bn,on+i*5+3,none⟩) Bn).trans d3) ((a.cell (p:=⟨bn,on+i*5+4,none⟩) Bn).trans d4))));have Bt:=Hd fun w1 w2 hw (a:Below w.heap.size w w1)=>iB w1 (p.ns[i]?.getD default) A1 c1 A2 c2 A3 c3 A4 c4 w2 hw (Bx.below a);have Bq:=Hd fun w1 (a:Below w.heap.size w w1)=>(hr.below a).arms;have HP:=Hd (aMz p i x);have Bi:=Hd (show zD p i x.k x.s=if(x.k==4)=true then cM p.es x.s else if(x.k==13)=true then decide (0<=cQ p x.s) && decide (cQ p x.s<(i:Int)) else !(x.k==17) from rfl);have Cx:=aQ.max h.2;have Cu:=hr.arms.max;subst e0;clear h hr Bx hn d0 d1 d2 d3 d4;generalize kP p i x=Ak at *;generalize zD p i x.k x.s=pe at *;rw [show fS (aA p i) x.s=fS (p.ns[i]?.getD default) x.s from rfl] at HP;generalize fS (p.ns[i]?.getD default) x.s=iv at *;generalize Cc:cM p.es x.s=av at *;generalize cQ p x.s=fn at *;unfold aP at HF Bj Cf ⊢;unfold aE at Bu ⊢;unfold bL at Bv Bt;generalize p.ns[i]?.getD default=y at *;generalize Ct:p.ns.length=pn at *;generalize x.k=k at *;generalize x.s=xs at *;have Cn:=Hd Cc;clear Cc;generalize Cz:x.arms.length=na at *;generalize x.arms=arms at *
 go_enter Tryz.func110,Tryz.ntmps110
 go_upto_region 1 with(fail)
 generalize Ce:w.alloc _=w1;obtain⟨Bp,Ch,Cq,Al⟩:=HF.o w1 Ce;generalize Cg:w1.alloc _=w2;obtain⟨Bm,Cs,Co,Ai⟩:=Bu.o w1 w2 Cg Bp;simp only [Ch] at Ai;have Br:=Hd (Bp.trans (Bm.mono Bp.size));have q1:=Al w2 Bm 1;simp only [Ya,Yb,Yc] at q1;obtain⟨d0,d1,d2,d3,d4⟩:=Ca.o w2 Br.o;have Cy:(i:Int)<(pn:Int):=by omega
 have Cv:(0:Int)<=(i:Int):=by omega
 have Cw:i<=9223372036854775807:=by omega
 have Cb:=Hd fun W (b:Below w2.heap.size w2 W) j=>Al W (Bm.trans (b.mono Bm.size)) j;have Cd:=Hd Ai;clear Ce Cg Al Ai Bp Bm Cq Co HF Bu
 go_upto_region 2 with(fail)
 generalize Ay:w2.alloc _=w3;obtain⟨Bk,Cl,-,Aw⟩:=Bt.o w2 w3 Ay Br.o;have Ae:=Hd (Br.o.trans (Bk.mono Br.o.size));have Ba:=Hd fun W (b:Below w3.heap.size w3 W) j=>Cb.o W (Bk.trans (b.mono Bk.size)) j;have Am:=Hd fun W (b:Below w3.heap.size w3 W) j=>Cd.o W (Bk.trans (b.mono Bk.size)) j;have Cj:=Hd Aw;clear Ay Bk Cl Aw Cb Cd Bt Ca d0 d1 d2 d3 d4 q1;have x0:=Am.o w3 (Yg _ _) 0;have x2:=Am.o w3 (Yg _ _) 2;obtain⟨n0,n1,n2,n3,n4,-⟩:=Sx (Cj.o w3 (Yg _ _));simp only [Ya,Yb,Yc] at x0 x2 n0 n1 n2 n3 n4;have Bg:=Hd (Bv.o w3 Ae.o);clear Bv
 by_cases Aq:(k==3 || k==11 || k==12)=true
 . have hk:k=3\/k=11\/k=12:=by simpa [or_assoc] using Aq
   cases iv with
   | false=>
    have HR:=Hd (show Ak=false by rw [HP.o,Aq];rfl);rcases hk with hk | hk | hk
    . subst hk
      go_wp2_with fail
      refine Bg.o.mono ?_;rintro e w4 ⟨rfl,Ag⟩;have Bl:=Hd (Ae.o.trans (Ag.mono Ae.o.size));clear Ag x0 x2 n0 n1 n2 n3 n4
      go_wp2_with fail
      go_ret
      exact⟨cR HR.o.symm,Bl.o⟩
    . subst hk
      go_wp2_with fail
      refine Bg.o.mono ?_;rintro e w4 ⟨rfl,Ag⟩;have Bl:=Hd (Ae.o.trans (Ag.mono Ae.o.size));clear Ag x0 x2 n0 n1 n2 n3 n4
      go_wp2_with fail
      go_ret
      exact⟨cR HR.o.symm,Bl.o⟩
    . subst hk
      go_wp2_with fail
      refine Bg.o.mono ?_;rintro e w4 ⟨rfl,Ag⟩;have Bl:=Hd (Ae.o.trans (Ag.mono Ae.o.size));clear Ag x0 x2 n0 n1 n2 n3 n4
      go_wp2_with fail
      go_ret
      exact⟨cR HR.o.symm,Bl.o⟩
   | true=>
    have Az:=Hd (show ¬ ((k==3 || k==11 || k==12) && !true)=true by simp);rcases hk with hk | hk | hk
    . subst hk
      go_wp2_with fail
      refine Bg.o.mono ?_;rintro e w4 ⟨rfl,Ag⟩;have Bf:=Hd Ag;clear Ag x0 x2 n0 n1 n2 n3 n4
      go_wp2_with fail
      go_loopw [8] (fun c wr=>∃ j:Nat,j<=na/\c=.int .i64 j/\(arms.take j).all (cM p.es)=true/\Below w3.heap.size w3 wr) (fun c _=>na-(intOf c).toNat)
      case atStart=>exact⟨0,Yq _,rfl,by simp,Bf.o⟩
      case round=>
       obtain⟨j,hj,rfl,Af,Aa⟩:=hrel;have Be:=Hd Af;have Ao:=Hd Aa;have x4:=Am.o wr Aa 4;have x0:=Am.o wr Aa 0;have x2:=Am.o wr Aa 2;have y0:=Ba.o wr Aa 0;have y1:=Ba.o wr Aa 1;simp only [Ya,Yb,Yc] at x4 x0 x2 y0 y1;have Ac:=Hd (Ae.o.trans (Aa.mono Ae.o.size))
       by_cases Au:j<na
       . obtain⟨b5,o5,rfl,Bw,Ar⟩:=(Bq.o wr Ac.o).at_ (i:=j) Au;have a0:=Ar j Au;have Ap:j<arms.length:=by omega
         have As:=Hd (mO (f:=cM p.es) Be.o Ap);have Av:=Hd (kX (f:=cM p.es) Ap);rw [uP] at As Av;have Ax:=Hd fun W (b:Below wr.heap.size wr W)=>Bj.o (arms[j]?.getD ByteArray.empty) W (Ac.o.trans (b.mono Ac.o.size));clear Ar Af Aa;generalize arms[j]?.getD ByteArray.empty=am at *;generalize cM p.es am=bm at *
         go_upto_region 7 with(fail)
         have Bc:=Hd fun d os=>Zs wr d os;have l0:=fun d os=>Zr y0 d os;have l1:=fun d os=>Zr y1 d os;have l4:=fun d os=>Zr x4 d os;have la:=fun d os=>Zr a0 d os;have cA:=fun d os=>Zh (Ax.o (grow (redrawn wr d) os) (Zs wr d os));refine Zz (by kernel_rfl) (by kernel_rfl) ?_
         repeat (go_big_quiet_step (with_reducible exact cA _ _))
         refine Xf ?_;intro _ Ay;obtain⟨⟨Bb,Aj⟩,Ad⟩:=Ay;have Ab:=Bc.o Bb Aj;rw [<- Ad] at Ab;clear cA l0 l1 l4 la Ad x4 x0 x2 y0 y1 a0
         rename_i w9
         have Ah:=Hd (Ao.o.trans (Ab.mono Ao.o.size));clear Ab
         cases bm with
         | true=>
          have Bd:=Hd (As.o rfl)
          go_wp2_with fail
          go_roundw
          case rel=>exact⟨j+1,by omega,by go_num,Bd.o,Ah.o⟩
          case measure=>simp [intOf];omega
         | false=>
          have HR:=Hd (show Ak=false by rw [HP.o,if_neg Az.o,if_pos (Av.o rfl)])
          go_wp2_with fail
          go_ret
          exact⟨cR HR.o.symm,Ae.o.trans (Ah.o.mono Ae.o.size)⟩
       . have Bh:j=na:=by omega
         subst Bh;have HR:=Hd (show Ak=pe by rw [HP.o,if_neg Az.o,if_neg];rw [Yx (by omega)] at Af;rw [Af];simp);clear Af Aa;have An:=Hd (show Ak=true by rw [HR.o,Bi.o];rfl)
         go_wp2_with fail
         go_ret
         exact⟨cR An.o.symm,Ac.o⟩
    . subst hk
      go_wp2_with fail
      refine Bg.o.mono ?_;rintro e w4 ⟨rfl,Ag⟩;have Bf:=Hd Ag;clear Ag x0 x2 n0 n1 n2 n3 n4
      go_wp2_with fail
      go_loopw [8] (fun c wr=>∃ j:Nat,j<=na/\c=.int .i64 j/\(arms.take j).all (cM p.es)=true/\Below w3.heap.size w3 wr) (fun c _=>na-(intOf c).toNat)
      case atStart=>exact⟨0,Yq _,rfl,by simp,Bf.o⟩
      case round=>
       obtain⟨j,hj,rfl,Af,Aa⟩:=hrel;have Be:=Hd Af;have Ao:=Hd Aa;have x4:=Am.o wr Aa 4;have x0:=Am.o wr Aa 0;have x2:=Am.o wr Aa 2;have y0:=Ba.o wr Aa 0;have y1:=Ba.o wr Aa 1;simp only [Ya,Yb,Yc] at x4 x0 x2 y0 y1;have Ac:=Hd (Ae.o.trans (Aa.mono Ae.o.size))
       by_cases Au:j<na
       . obtain⟨b5,o5,rfl,Bw,Ar⟩:=(Bq.o wr Ac.o).at_ (i:=j) Au;have a0:=Ar j Au;have Ap:j<arms.length:=by omega
         have As:=Hd (mO (f:=cM p.es) Be.o Ap);have Av:=Hd (kX (f:=cM p.es) Ap);rw [uP] at As Av;have Ax:=Hd fun W (b:Below wr.heap.size wr W)=>Bj.o (arms[j]?.getD ByteArray.empty) W (Ac.o.trans (b.mono Ac.o.size));clear Ar Af Aa;generalize arms[j]?.getD ByteArray.empty=am at *;generalize cM p.es am=bm at *
         go_upto_region 7 with(fail)
         have Bc:=Hd fun d os=>Zs wr d os;have l0:=fun d os=>Zr y0 d os;have l1:=fun d os=>Zr y1 d os;have l4:=fun d os=>Zr x4 d os;have la:=fun d os=>Zr a0 d os;have cA:=fun d os=>Zh (Ax.o (grow (redrawn wr d) os) (Zs wr d os));refine Zz (by kernel_rfl) (by kernel_rfl) ?_
         repeat (go_big_quiet_step (with_reducible exact cA _ _))
         refine Xf ?_;intro _ Ay;obtain⟨⟨Bb,Aj⟩,Ad⟩:=Ay;have Ab:=Bc.o Bb Aj;rw [<- Ad] at Ab;clear cA l0 l1 l4 la Ad x4 x0 x2 y0 y1 a0
         rename_i w9
         have Ah:=Hd (Ao.o.trans (Ab.mono Ao.o.size));clear Ab
         cases bm with
         | true=>
          have Bd:=Hd (As.o rfl)
          go_wp2_with fail
          go_roundw
          case rel=>exact⟨j+1,by omega,by go_num,Bd.o,Ah.o⟩
          case measure=>simp [intOf];omega
         | false=>
          have HR:=Hd (show Ak=false by rw [HP.o,if_neg Az.o,if_pos (Av.o rfl)])
          go_wp2_with fail
          go_ret
          exact⟨cR HR.o.symm,Ae.o.trans (Ah.o.mono Ae.o.size)⟩
       . have Bh:j=na:=by omega
         subst Bh;have HR:=Hd (show Ak=pe by rw [HP.o,if_neg Az.o,if_neg];rw [Yx (by omega)] at Af;rw [Af];simp);clear Af Aa;have An:=Hd (show Ak=true by rw [HR.o,Bi.o];rfl)
         go_wp2_with fail
         go_ret
         exact⟨cR An.o.symm,Ac.o⟩
    . subst hk
      go_wp2_with fail
      refine Bg.o.mono ?_;rintro e w4 ⟨rfl,Ag⟩;have Bf:=Hd Ag;clear Ag x0 x2 n0 n1 n2 n3 n4
      go_wp2_with fail
      go_loopw [8] (fun c wr=>∃ j:Nat,j<=na/\c=.int .i64 j/\(arms.take j).all (cM p.es)=true/\Below w3.heap.size w3 wr) (fun c _=>na-(intOf c).toNat)
      case atStart=>exact⟨0,Yq _,rfl,by simp,Bf.o⟩
      case round=>
       obtain⟨j,hj,rfl,Af,Aa⟩:=hrel;have Be:=Hd Af;have Ao:=Hd Aa;have x4:=Am.o wr Aa 4;have x0:=Am.o wr Aa 0;have x2:=Am.o wr Aa 2;have y0:=Ba.o wr Aa 0;have y1:=Ba.o wr Aa 1;simp only [Ya,Yb,Yc] at x4 x0 x2 y0 y1;have Ac:=Hd (Ae.o.trans (Aa.mono Ae.o.size))
       by_cases Au:j<na
       . obtain⟨b5,o5,rfl,Bw,Ar⟩:=(Bq.o wr Ac.o).at_ (i:=j) Au;have a0:=Ar j Au;have Ap:j<arms.length:=by omega
         have As:=Hd (mO (f:=cM p.es) Be.o Ap);have Av:=Hd (kX (f:=cM p.es) Ap);rw [uP] at As Av;have Ax:=Hd fun W (b:Below wr.heap.size wr W)=>Bj.o (arms[j]?.getD ByteArray.empty) W (Ac.o.trans (b.mono Ac.o.size));clear Ar Af Aa;generalize arms[j]?.getD ByteArray.empty=am at *;generalize cM p.es am=bm at *
         go_upto_region 7 with(fail)
         have Bc:=Hd fun d os=>Zs wr d os;have l0:=fun d os=>Zr y0 d os;have l1:=fun d os=>Zr y1 d os;have l4:=fun d os=>Zr x4 d os;have la:=fun d os=>Zr a0 d os;have cA:=fun d os=>Zh (Ax.o (grow (redrawn wr d) os) (Zs wr d os));refine Zz (by kernel_rfl) (by kernel_rfl) ?_
         repeat (go_big_quiet_step (with_reducible exact cA _ _))
         refine Xf ?_;intro _ Ay;obtain⟨⟨Bb,Aj⟩,Ad⟩:=Ay;have Ab:=Bc.o Bb Aj;rw [<- Ad] at Ab;clear cA l0 l1 l4 la Ad x4 x0 x2 y0 y1 a0
         rename_i w9
         have Ah:=Hd (Ao.o.trans (Ab.mono Ao.o.size));clear Ab
         cases bm with
         | true=>
          have Bd:=Hd (As.o rfl)
          go_wp2_with fail
          go_roundw
          case rel=>exact⟨j+1,by omega,by go_num,Bd.o,Ah.o⟩
          case measure=>simp [intOf];omega
         | false=>
          have HR:=Hd (show Ak=false by rw [HP.o,if_neg Az.o,if_pos (Av.o rfl)])
          go_wp2_with fail
          go_ret
          exact⟨cR HR.o.symm,Ae.o.trans (Ah.o.mono Ae.o.size)⟩
       . have Bh:j=na:=by omega
         subst Bh;have HR:=Hd (show Ak=pe by rw [HP.o,if_neg Az.o,if_neg];rw [Yx (by omega)] at Af;rw [Af];simp);clear Af Aa;have An:=Hd (show Ak=true by rw [HR.o,Bi.o];rfl)
         go_wp2_with fail
         go_ret
         exact⟨cR An.o.symm,Ac.o⟩
 . have Az:=Hd (show ¬ ((k==3 || k==11 || k==12) && !iv)=true by rw [Bool.not_eq_true] at Aq;rw [Aq];simp);have Cr:(k==3)=false:=by rw [Bool.not_eq_true,Bool.or_eq_false_iff,Bool.or_eq_false_iff] at Aq;exact Aq.1.1
   have Cm:(k==11)=false:=by rw [Bool.not_eq_true,Bool.or_eq_false_iff,Bool.or_eq_false_iff] at Aq;exact Aq.1.2
   have Ck:(k==12)=false:=by rw [Bool.not_eq_true,Bool.or_eq_false_iff,Bool.or_eq_false_iff] at Aq;exact Aq.2
   have Bf:=Hd (Yg w3.heap.size w3);clear Bg Aq n0 n1 n2 n3 n4 x2
   go_wp2_with fail
   clear x0
   go_loopw [8] (fun c wr=>∃ j:Nat,j<=na/\c=.int .i64 j/\(arms.take j).all (cM p.es)=true/\Below w3.heap.size w3 wr) (fun c _=>na-(intOf c).toNat)
   case atStart=>exact⟨0,Yq _,rfl,by simp,Bf.o⟩
   case round=>
    obtain⟨j,hj,rfl,Af,Aa⟩:=hrel;have Be:=Hd Af;have Ao:=Hd Aa;have x4:=Am.o wr Aa 4;have x0:=Am.o wr Aa 0;have x2:=Am.o wr Aa 2;have y0:=Ba.o wr Aa 0;have y1:=Ba.o wr Aa 1;simp only [Ya,Yb,Yc] at x4 x0 x2 y0 y1;have Ac:=Hd (Ae.o.trans (Aa.mono Ae.o.size))
    by_cases Au:j<na
    . obtain⟨b5,o5,rfl,Bw,Ar⟩:=(Bq.o wr Ac.o).at_ (i:=j) Au;have a0:=Ar j Au;have Ap:j<arms.length:=by omega
      have As:=Hd (mO (f:=cM p.es) Be.o Ap);have Av:=Hd (kX (f:=cM p.es) Ap);rw [uP] at As Av;have Ax:=Hd fun W (b:Below wr.heap.size wr W)=>Bj.o (arms[j]?.getD ByteArray.empty) W (Ac.o.trans (b.mono Ac.o.size));clear Ar Af Aa;generalize arms[j]?.getD ByteArray.empty=am at *;generalize cM p.es am=bm at *
      go_upto_region 7 with(fail)
      have Bc:=Hd fun d os=>Zs wr d os;have l0:=fun d os=>Zr y0 d os;have l1:=fun d os=>Zr y1 d os;have l4:=fun d os=>Zr x4 d os;have la:=fun d os=>Zr a0 d os;have cA:=fun d os=>Zh (Ax.o (grow (redrawn wr d) os) (Zs wr d os));refine Zz (by kernel_rfl) (by kernel_rfl) ?_
      repeat (go_big_quiet_step (with_reducible exact cA _ _))
      refine Xf ?_;intro _ Ay;obtain⟨⟨Bb,Aj⟩,Ad⟩:=Ay;have Ab:=Bc.o Bb Aj;rw [<- Ad] at Ab;clear cA l0 l1 l4 la Ad x4 x0 x2 y0 y1 a0
      rename_i w9
      have Ah:=Hd (Ao.o.trans (Ab.mono Ao.o.size));clear Ab
      cases bm with
      | true=>
       have Bd:=Hd (As.o rfl)
       go_wp2_with fail
       go_roundw
       case rel=>exact⟨j+1,by omega,by go_num,Bd.o,Ah.o⟩
       case measure=>simp [intOf];omega
      | false=>
       have HR:=Hd (show Ak=false by rw [HP.o,if_neg Az.o,if_pos (Av.o rfl)])
       go_wp2_with fail
       go_ret
       exact⟨cR HR.o.symm,Ae.o.trans (Ah.o.mono Ae.o.size)⟩
    . have Bh:j=na:=by omega
      subst Bh;have HR:=Hd (show Ak=pe by rw [HP.o,if_neg Az.o,if_neg];rw [Yx (by omega)] at Af;rw [Af];simp);clear Af Aa
      cases k4:(k==4) with
      | true=>
       have An:=Hd (show Ak=av by rw [HR.o,Bi.o,if_pos k4]);have Ax:=Hd (Bj.o xs wr Ac.o);rw [Cn.o] at Ax
       go_wp2_with fail
       refine Ax.o.mono ?_;rintro e w9 ⟨rfl,Bo⟩;have Ah:=Hd (Ac.o.trans (Bo.mono Ac.o.size));clear Bo
       go_wp2_with fail
       go_ret
       exact⟨cR An.o.symm,Ah.o⟩
      | false=>
       cases Bz:(k==13) with
       | true=>
        have An:=Hd (show Ak=(decide (0<=fn) && decide (fn<(i:Int))) by rw [HR.o,Bi.o,if_neg (by rw [k4];simp),if_pos Bz]);have Cp:=Hd (Cf.o wr Ac.o)
        go_wp2_with fail
        refine Cp.o.mono ?_;rintro e w9 ⟨rfl,Bo⟩;have Ah:=Hd (Ac.o.trans (Bo.mono Ac.o.size));clear Bo
        by_cases f0:0<=fn
        . have g0:decide (0<=fn)=true:=Zx f0;rw [g0,Bool.true_and] at An
          go_wp2_with fail
          go_ret
          exact⟨cR An.o.symm,Ah.o⟩
        . have g0:decide (0<=fn)=false:=Zy f0;rw [g0,Bool.false_and] at An
          go_wp2_with fail
          go_ret
          exact⟨cR An.o.symm,Ah.o⟩
       | false=>
        have An:=Hd (show Ak=!(k==17) by rw [HR.o,Bi.o,if_neg (by rw [k4];simp),if_neg (by rw [Bz];simp)]);have Ci:(k != 17)=!(k==17):=rfl
        go_wp2_with fail
        go_ret
        exact⟨cR An.o.symm,Ac.o⟩
end
section
open Go.RowKit Go.Sort Go.BigFrame
theorem qF{a b:Int}(h:a=b):Ending.returned (.int .i64 a)=.returned (.int .i64 b):=by rw [h]
theorem aEn{p:Pg}{i j k:Nat}(hk:k<((aA p i).eqs[j]?.getD default).ns.length) (hn:∀ a,a<k->jU (aA p i) j ((aA p i).eqs[j]?.getD default).ns a=0) (h:jU (aA p i) j ((aA p i).eqs[j]?.getD default).ns k≠0):
 eB p i j=jU (aA p i) j ((aA p i).eqs[j]?.getD default).ns k:=by
 unfold eB;rw [mP hk hn h,if_neg h]
theorem aCe{p:Pg}{i j:Nat}(hn:∀ a,a<((aA p i).eqs[j]?.getD default).ns.length->jU (aA p i) j ((aA p i).eqs[j]?.getD default).ns a=0):
 eB p i j=if(bI ((aA p i).eqs[j]?.getD default).x).all (kP p i)=true then 0 else 5:=by
 unfold eB;rw [lX hn,if_pos rfl]
theorem aG7{s:ByteArray}{ns:List ByteArray}{k:Nat}(hk:k<=ns.length) (h:∀ a,a<k->((ns[a]?.getD ByteArray.empty).toList==s.toList)=false):(ns.take k).any (bQ s)=false:=by
 rw [List.any_eq_false];intro x hx;obtain⟨a,ha,rfl⟩:=Zi hx;rw [List.length_take] at ha;have:=h a (by omega);rw [Yk (by omega),Zc,Zc] at this;rw [List.getElem_take]
 simpa [bQ] using this
theorem aGt{s:ByteArray}{ns:List ByteArray}{k a:Nat}(hk:k<=ns.length) (ha:a<k) (h:((ns[a]?.getD ByteArray.empty).toList==s.toList)=true):(ns.take k).any (bQ s)=true:=by
 refine List.any_eq_true.2 ⟨ns[a],?_,?_⟩
 . rw [List.mem_take_iff_getElem];exact⟨a,by omega,rfl⟩
 . rw [Yk (by omega),Zc,Zc] at h;exact h
theorem aPk(p:Pg) (E:Option Addr) (ec:Nat) (N:Option Addr) (nc:Nat) (i j:Nat) (w:World) (h:cW w p E N) (hi:i<p.ns.length) (hj:j<(aA p i).eqs.length) (hn:(aA p i).all.length<=1000) (hq:oP (aA p i)) (hx:bG ((aA p i).eqs[j]?.getD default).x<=1000000):
 Calls Tryz.prog 73 #[.agg (aP p E ec N nc),.int .i64 i,.int .i64 j] w fun e w'=>e=.returned (.int .i64 (eB p i j))/\Below w.heap.size w w':=by
 have HF:=Hd fun w1 hw=>kH w p E ec N nc w1 hw h;obtain⟨bn,on,A1,c1,A2,c2,A3,c3,A4,c4,e0,Be,As,d0,d1,d2,d3,d4⟩:=iN h.2 hi;subst e0;rw [show(p.ns[i]?.getD default)=aA p i from rfl] at As d0 d1 d2 d3 d4;have Cs:=Hd fun s w1 (a:Below w.heap.size w w1)=>yB (aA p i) A1 c1 A2 c2 A3 c3 A4 c4 s w1 (As.below a) hn;have Cz:=Hd fun s w1 (a:Below w.heap.size w w1)=>aH2 (aA p i) A1 c1 A2 c2 A3 c3 A4 c4 s w1 (As.below a);have Cx:=Hd fun s w1 (a:Below w.heap.size w w1)=>zV (aA p i) A1 c1 A2 c2 A3 c3 A4 c4 s j w1 (As.below a) (Nat.le_of_lt hj) hq;have Bt:=Hd fun x A ca B cb w1 (a:Below w.heap.size w w1) (r:aJ w1 x A B)=>aJ2 p E ec (some ⟨bn,on,none⟩) nc i x A ca B cb w1 (h.below a) hi r hn;have Ct:=Hd fun w1 (a:Below w.heap.size w w1)=>And.intro ((a.cell (p:=⟨bn,on+i*5,none⟩) Be).trans d0) (And.intro ((a.cell (p:=⟨bn,on+i*5+1,none⟩) Be).trans d1) (And.intro ((a.cell (p:=⟨bn,on+i*5+2,none⟩) Be).trans d2) (And.intro ((a.cell (p:=⟨bn,on+i*5+3,none⟩) Be).trans d3) ((a.cell (p:=⟨bn,on+i*5+4,none⟩) Be).trans d4))));have Bv:=Hd fun w1 w2 hw (a:Below w.heap.size w w1)=>iB w1 (aA p i) A1 c1 A2 c2 A3 c3 A4 c4 w2 hw (As.below a);obtain⟨bq,oq,e1,Aw,Cm⟩:=aQ.at_ As.2.2.2 (by omega);obtain⟨AN,cN,AA,cA,AB,cB,r1,r2,g0,g1,g2,g3,g4,g5,g6⟩:=(Cm j hj).seven;subst e1;have Cp:=Hd fun w1 (a:Below w.heap.size w w1)=>And.intro ((a.cell (p:=⟨bq,oq+j*7,none⟩) Aw).trans g0) (And.intro ((a.cell (p:=⟨bq,oq+j*7+1,none⟩) Aw).trans g1) (And.intro ((a.cell (p:=⟨bq,oq+j*7+2,none⟩) Aw).trans g2) (And.intro ((a.cell (p:=⟨bq,oq+j*7+3,none⟩) Aw).trans g3) (And.intro ((a.cell (p:=⟨bq,oq+j*7+4,none⟩) Aw).trans g4) (And.intro ((a.cell (p:=⟨bq,oq+j*7+5,none⟩) Aw).trans g5) ((a.cell (p:=⟨bq,oq+j*7+6,none⟩) Aw).trans g6))))));have Bu:=Hd fun w1 w2 hw (a:Below w.heap.size w w1)=>xD w1 ((aA p i).eqs[j]?.getD default) AN cN AA cA AB cB w2 hw (r1.below a) (r2.below a);have Cv:=Hd fun w1 (a:Below w.heap.size w w1)=>r1.below a;have Cu:=Hd fun w1 (a:Below w.heap.size w w1)=>wX ((aA p i).eqs[j]?.getD default).x AA cA AB cB w w1 r2 a hx;have Ec:=Hd fun k hk hn h=>aEn (p:=p) (i:=i) (j:=j) (k:=k) hk hn h;have Eb:=Hd fun hn=>aCe (p:=p) (i:=i) (j:=j) hn;have Dg:=Hd (pV ((aA p i).eqs[j]?.getD default).x);have Fk:=aQ.max h.2;have Fa:=aQ.max As.2.2.2;have Ev:=r1.max;have Ew:=r1.len;have Ey:=Hd fun s=>yC (s:=s) hq j;have Fd:=hq.1
 clear h As hn d0 d1 d2 d3 d4 Cm r1 r2 g0 g1 g2 g3 g4 g5 g6 hx hq;generalize eB p i j=Ay at *;unfold aP at HF Bt ⊢;unfold bL at Cs Cz Cx Bv;unfold eM at Bu;unfold aE at Bt Cu;have Ei:=Hd (show ∀ k,jU (aA p i) j ((aA p i).eqs[j]?.getD default).ns k=if fS (aA p i) ((((aA p i).eqs[j]?.getD default).ns)[k]?.getD ByteArray.empty)=false then 5 else if(lC (aA p i) ((((aA p i).eqs[j]?.getD default).ns)[k]?.getD ByteArray.empty) || decide (0<eX (aA p i) ((((aA p i).eqs[j]?.getD default).ns)[k]?.getD ByteArray.empty) j))=true then 6 else if(((aA p i).eqs[j]?.getD default).ns.take k).any (bQ ((((aA p i).eqs[j]?.getD default).ns)[k]?.getD ByteArray.empty))=true then 6 else 0 from fun k=>rfl);generalize jU (aA p i) j ((aA p i).eqs[j]?.getD default).ns=nS at *;generalize Er:(aA p i).eqs[j]?.getD default=q at *;clear Er;generalize El:aA p i=y at *;clear El;generalize Fb:p.ns.length=pn at *;generalize Ez:y.eqs.length=nq at *;generalize Fp:q.ns.length=nn at *
 go_enter Tryz.func73,Tryz.ntmps73
 go_upto_region 1 with(fail)
 generalize De:w.alloc _=w1;obtain⟨Bx,Dq,Es,Af⟩:=HF.o w1 De;have q1:=Af w1 (Yg _ _) 1;simp only [Ya,Yb,Yc] at q1;have Ck:=Hd Bx;have Cw:=Hd Af;obtain⟨d0,d1,d2,d3,d4⟩:=Ct.o w1 Bx;have Fo:(i:Int)<(pn:Int):=by omega
 have Fe:(0:Int)<=(i:Int):=by omega
 have Fi:i<=9223372036854775807:=by omega
 have Fh:(j:Int)<(nq:Int):=by omega
 have Eu:(0:Int)<=(j:Int):=by omega
 clear De Af Bx Es HF Dq
 go_upto_region 2 with(fail)
 generalize Dh:w1.alloc _=w2;obtain⟨Bo,Dv,-,Ae⟩:=Bv.o w1 w2 Dh Ck.o;have Br:=Hd (Ck.o.trans (Bo.mono Ck.o.size));have Bk:=Hd fun W (b:Below w2.heap.size w2 W) j=>Cw.o W (Bo.trans (b.mono Bo.size)) j;have n4:=Ae w2 (Yg _ _) 4;simp only [Ya,Yb,Yc] at n4;have Dd:=Hd Ae;obtain⟨g0,g1,g2,g3,g4,g5,g6⟩:=Cp.o w2 Br.o;clear Dh Ae Bo Dv Bv Ct d0 d1 d2 d3 d4 q1 Cw
 go_upto_region 3 with(fail)
 generalize Ah:w2.alloc _=w3;obtain⟨Az,Dy,-,-,Al⟩:=Bu.o w2 w3 Ah Br.o;have Bp:=Hd (Br.o.trans (Az.mono Br.o.size));have Da:=Hd fun W (b:Below w3.heap.size w3 W) j=>Bk.o W (Az.trans (b.mono Az.size)) j;have Cr:=Hd fun W (b:Below w3.heap.size w3 W) j=>Dd.o W (Az.trans (b.mono Az.size)) j;have Bc:=Hd Al;clear Ah Al Az Dy Bu Cp g0 g1 g2 g3 g4 g5 g6 n4 Bk Dd
 go_wp2_with fail
 go_loopw [9] (fun c wr=>∃ k:Nat,k<=nn/\c=.int .i64 k/\(∀ a,a<k->nS a=0)/\Below w3.heap.size w3 wr) (fun c _=>nn-(intOf c).toNat)
 case atStart=>exact⟨0,Yq _,rfl,fun a ha=>absurd ha (by omega),Yg _ _⟩
 case round=>
  obtain⟨k,hk,rfl,Dk,Bb⟩:=hrel;have Ce:=Hd Dk;have Ax:=Hd Bb;have Ar:=Hd (Bp.o.trans (Bb.mono Bp.o.size));have x0:=Bc.o wr Bb 0;obtain⟨n0,n1,n2,n3,n4,-⟩:=Sx (Cr.o wr Bb);simp only [Ya,Yb,Yc] at x0 n0 n1 n2 n3 n4;clear Dk Bb
  by_cases Bm:k<nn
  . obtain⟨b5,o5,rfl,Bh,Cy⟩:=(Cv.o wr Ar.o).at_ (i:=k) Bm;have a0:=Cy k Bm;have Bq:=Hd (Ei.o k);have Bn:=Hd (Ec.o k Bm Ce.o);have Eo:=Hd fun hz=>dK (P:=fun a=>nS a=0) Ce.o hz;have Bz:=Hd fun W (b:Below wr.heap.size wr W)=>(Cv.o W (Ar.o.trans (b.mono Ar.o.size)));have Ea:=Hd fun W (b:Below wr.heap.size wr W)=>(b.cell (p:=⟨b5,o5+k,none⟩) Bh).trans a0;have Bw:=Hd fun W b=>Cx.o (q.ns[k]?.getD ByteArray.empty) W b;have Eh:k<=q.ns.length:=by omega
    clear Cy;generalize Co:q.ns[k]?.getD ByteArray.empty=nm at *;have Cb:=Hd Co;clear Co;generalize Db:fS y nm=iv at *;have Ee:=Hd Db;clear Db;generalize Bj:lC y nm=Et at *;have Cd:=Hd Bj;clear Bj;generalize Eg:eX y nm j=df at *;clear Eg;generalize Dp:nS k=sk at *;clear Dp;have Cn:=Hd fun W (b:Below wr.heap.size wr W)=>Cs.o nm W (Ar.o.trans (b.mono Ar.o.size));rw [Ee.o] at Cn
    go_upto_region 6 with(fail)
    have An:=Hd fun d os=>Zs wr d os;have l0:=fun d os=>Zr n0 d os;have l1:=fun d os=>Zr n1 d os;have l2:=fun d os=>Zr n2 d os;have l3:=fun d os=>Zr n3 d os;have l4:=fun d os=>Zr n4 d os;have lx:=fun d os=>Zr x0 d os;have la:=fun d os=>Zr a0 d os;have cA:=fun d os=>Zh (Cn.o (grow (redrawn wr d) os) (Zs wr d os));refine Zz (by kernel_rfl) (by kernel_rfl) ?_
    repeat (go_big_quiet_step (with_reducible exact cA _ _))
    refine Xf ?_;intro _ Ah;obtain⟨⟨Am,Ad⟩,Ab⟩:=Ah;have Aa:=An.o Am Ad;rw [<- Ab] at Aa;clear cA l0 l1 l2 l3 l4 lx la Ab
    rename_i w4
    have Bd:=Hd (Ax.o.trans (Aa.mono Ax.o.size));have Ao:=Hd Aa;clear Aa;have Dm:=Hd fun W (b:Below w4.heap.size w4 W)=>Ea.o W (Ao.o.trans (b.mono Ao.o.size));have Ap:=Hd (Bp.o.trans (Bd.o.mono Bp.o.size));clear x0 n0 n1 n2 n3 n4 a0
    cases iv with
    | false=>
     have HR:=Hd (show Ay=5 by
      have h5:sk=5:=by rw [Bq.o,if_pos rfl]
      rw [Bn.o (by rw [h5];decide),h5])
     go_wp2_with fail
     go_ret
     exact⟨qF HR.o.symm,Ap.o⟩
    | true=>
     have a0:=Dm.o w4 (Yg _ _);have x0:=Bc.o w4 Bd.o 0;obtain⟨n0,n1,n2,n3,n4,-⟩:=Sx (Cr.o w4 Bd.o);simp only [Ya,Yb,Yc] at x0 n0 n1 n2 n3 n4;have Cl:=Hd fun W (b:Below w4.heap.size w4 W)=>Cz.o nm W (Ap.o.trans (b.mono Ap.o.size));have Dx:=Hd fun W (b:Below w4.heap.size w4 W)=>Bw.o W (Ap.o.trans (b.mono Ap.o.size));rw [Cd.o] at Cl
     go_upto_region 8 with(fail)
     cases Et with
     | true=>
      have An:=Hd fun d os=>Zs w4 d os;have l0:=fun d os=>Zr n0 d os;have l1:=fun d os=>Zr n1 d os;have l2:=fun d os=>Zr n2 d os;have l3:=fun d os=>Zr n3 d os;have l4:=fun d os=>Zr n4 d os;have l5:=fun d os=>Zr x0 d os;have l6:=fun d os=>Zr a0 d os;have cB:=fun d os=>Zh (Cl.o (grow (redrawn w4 d) os) (Zs w4 d os));refine Zz (by kernel_rfl) (by kernel_rfl) ?_
      repeat (go_big_quiet_step (first | with_reducible exact cB _ _))
      refine Xf ?_;intro _ Ah;obtain⟨⟨Am,Ad⟩,Ab⟩:=Ah;have Aa:=An.o Am Ad;rw [<- Ab] at Aa;clear l0 l1 l2 l3 l4 l5 l6 cB Ab
      rename_i w5
      have Av:=Hd (Ap.o.trans (Aa.mono Ap.o.size));clear Aa x0 n0 n1 n2 n3 n4 a0
      have HR:=Hd (show Ay=6 by
       have h5:sk=6:=by rw [Bq.o];rfl
       rw [Bn.o (by rw [h5];decide),h5])
      go_wp2_with fail
      go_ret
      exact⟨qF HR.o.symm,Av.o⟩
     | false=>
      have An:=Hd fun d os=>Zs w4 d os;have l0:=fun d os=>Zr n0 d os;have l1:=fun d os=>Zr n1 d os;have l2:=fun d os=>Zr n2 d os;have l3:=fun d os=>Zr n3 d os;have l4:=fun d os=>Zr n4 d os;have l5:=fun d os=>Zr x0 d os;have l6:=fun d os=>Zr a0 d os;have cB:=fun d os=>Zh (Cl.o (grow (redrawn w4 d) os) (Zs w4 d os));have cC:=fun d os=>Zh (Dx.o (grow (redrawn w4 d) os) (Zs w4 d os));refine Zz (by kernel_rfl) (by kernel_rfl) ?_
      repeat (go_big_quiet_step (first | with_reducible exact cB _ _ | with_reducible exact cC _ _))
      refine Xf ?_;intro _ Ah;obtain⟨⟨Am,Ad⟩,Ab⟩:=Ah;have Aa:=An.o Am Ad;rw [<- Ab] at Aa;clear l0 l1 l2 l3 l4 l5 l6 cB cC Ab
      rename_i w5
      have Bg:=Hd (Ao.o.trans (Aa.mono Ao.o.size));have Av:=Hd (Bd.o.trans (Aa.mono Bd.o.size));have Aq:=Hd (Ap.o.trans (Aa.mono Ap.o.size));clear Aa x0 n0 n1 n2 n3 n4 a0
      by_cases hd:0<df
      . have dd:decide ((0:Int)<(df:Int))=true:=Zx (by omega)
        have HR:=Hd (show Ay=6 by
         have h5:sk=6:=by rw [Bq.o,Zx hd];rfl
         rw [Bn.o (by rw [h5];decide),h5])
        go_wp2_with fail
        go_ret
        exact⟨qF HR.o.symm,Aq.o⟩
      . have dd:decide ((0:Int)<(df:Int))=false:=Zy (by omega);have Bf:=Hd (show sk=if(q.ns.take k).any (bQ nm)=true then 6 else 0 by rw [Bq.o,Zy hd];rfl)
        go_wp2_with fail
        generalize wr=wo at *
        go_loopw [10] (fun c wr=>∃ m:Nat,m<=k/\c=.int .i64 m/\(∀ a,a<m->((q.ns[a]?.getD ByteArray.empty).toList==nm.toList)=false)/\Below w5.heap.size w5 wr) (fun c _=>k-(intOf c).toNat)
        case atStart=>exact⟨0,Yq _,rfl,fun a ha=>absurd ha (by omega),Yg _ _⟩
        case round=>
         obtain⟨m,hm,rfl,Aj,Ac⟩:=hrel;have Ak:=Hd Aj;have Cf:=Hd (Bg.o.trans (Ac.mono Bg.o.size));have Ai:=Hd Ac;have Bl:=Hd (Av.o.trans (Ac.mono Av.o.size));clear Aj Ac
         by_cases Du:m<k
         . obtain⟨b6,o6,e6,Ef,Ag⟩:=(Bz.o wr Cf.o).at_ (i:=m) (by omega);have a1:=Ag m (by omega);have a0:=Ag k Bm;rw [Cb.o] at a0;injection e6 with e6;injection e6 with e6 e7 _;subst e6 e7;have x0:=Bc.o wr Bl.o 0;simp only [List.getElem?_toArray,Yz] at x0;have Ca:=Hd fun hz=>dK (P:=fun a=>((q.ns[a]?.getD ByteArray.empty).toList==nm.toList)=false) Ak.o hz;have Cc:=Hd fun hz=>aGt (s:=nm) (ns:=q.ns) (k:=k) (a:=m) (by omega) Du hz;have Ej:(m:Int)<(nn:Int):=by omega
           have Ff:(k:Int)<(nn:Int):=by omega
           have Em:(0:Int)<=(m:Int):=by omega
           have Fc:(0:Int)<=(k:Int):=by omega
           clear Ag;generalize q.ns[m]?.getD ByteArray.empty=am at *
           go_upto_region 13 with(fail)
           have An:=Hd fun d os=>Zs wr d os;have l0:=fun d os=>Zr x0 d os;have l1:=fun d os=>Zr a0 d os;have l2:=fun d os=>Zr a1 d os;refine Zz (by kernel_rfl) (by kernel_rfl) ?_
           repeat (go_big_quiet_step (fail))
           refine Xf ?_;intro _ Ah;obtain⟨⟨Am,Ad⟩,Ab⟩:=Ah;have Aa:=An.o Am Ad;rw [<- Ab] at Aa;clear l0 l1 l2 Ab
           rename_i w7
           have Ba:=Hd (Ai.o.trans (Aa.mono Ai.o.size));clear Aa x0 a0 a1
           cases hx:(am.toList==nm.toList) with
           | true=>
            have HR:=Hd (show Ay=6 by
             have h5:sk=6:=by rw [Bf.o,if_pos (Cc.o hx)]
             rw [Bn.o (by rw [h5];decide),h5])
            go_wp2_with fail
            go_ret
            exact⟨qF HR.o.symm,Aq.o.trans (Ba.o.mono Aq.o.size)⟩
           | false=>
            have Dn:=Hd (Ca.o hx)
            go_wp2_with fail
            go_roundw
            case rel=>exact⟨m+1,by omega,by go_num,Dn.o,Ba.o⟩
            case measure=>simp [intOf];omega
         . have Ci:m=k:=by omega
           subst Ci;have HZ:=Hd (Eo.o (by rw [Bf.o,aG7 (by omega) Ak.o];rfl))
           go_wp2_with fail
           go_roundw
           case rel=>exact⟨m+1,by omega,by go_num,HZ.o,Bl.o⟩
           case measure=>simp [intOf];omega
  . have Dl:k=nn:=by omega
    subst Dl;have Di:=Hd (Eb.o Ce.o);obtain⟨-,x1,x2,x3,x4,x5⟩:=Sx (Bc.o wr Ax.o);have x6:=Bc.o wr Ax.o 6;simp only [Ya,Yb,Yc] at x1 x2 x3 x4 x5 x6;have Ch:=Hd (Cu.o wr Ar.o);unfold aD9 at Ch;clear n0 n1 n2 n3 n4
    go_wp2_with fail
    refine Ch.o.mono ?_;rintro e w5 ⟨AP,cP,cs,rfl,Au,Dj,Bh,-⟩;have Aq:=Hd (Ar.o.trans (Bh.mono Ar.o.size));have Av:=Hd (Ax.o.trans (Bh.mono Ax.o.size));have Ed:=Hd (Au.rd Dj Aq.o);have Fj:=Au.2.1;clear Au Dj Bh x0 x1 x2 x3 x4 x5 x6 Ch;generalize Fg:bG q.x=np at *;generalize bI q.x=ps at *
    go_wp2_with fail
    generalize wr=wo at *
    go_loopw [12] (fun c wr=>∃ m:Nat,m<=np/\c=.int .i64 m/\(ps.take m).all (kP p i)=true/\Below w5.heap.size w5 wr) (fun c _=>np-(intOf c).toNat)
    case atStart=>exact⟨0,Yq _,rfl,by simp,Yg _ _⟩
    case round=>
     obtain⟨m,hm,rfl,Aj,Ac⟩:=hrel;have Ak:=Hd Aj;have Bl:=Hd (Av.o.trans (Ac.mono Av.o.size));have Cj:=Hd (Aq.o.trans (Ac.mono Aq.o.size));have Ai:=Hd Ac;have Ek:=Hd (Ed.o.below Ac);clear Aj Ac
     by_cases Cg:m<np
     . have Bi:m<ps.length:=by rw [Dg.o];exact Cg
       obtain⟨b6,o6,rfl,Ef,Ag⟩:=Ek.o.at_ Cg;obtain⟨pA,Ds,pB,Dw,Df,Cq⟩:=Ag m Cg;obtain⟨z0,z1,z2,z3,z4,z5⟩:=eG Df;have y0:=Da.o wr Bl.o 0;have y1:=Da.o wr Bl.o 1;simp only [Ya,Yb,Yc] at y0 y1;have Dz:=Hd (mO (f:=kP p i) Ak.o Bi);have Ep:=Hd (kX (f:=kP p i) Bi);have Dt:=Hd fun W (b:Below wr.heap.size wr W)=>Bt.o (ps[m]?.getD default) pA Ds pB Dw W (Cj.o.trans (b.mono Cj.o.size)) (Cq.below b);have Ej:(m:Int)<(np:Int):=by omega
       have Em:(0:Int)<=(m:Int):=by omega
       clear Ag Df Cq;generalize kP p i (ps[m]?.getD default)=bm at *;generalize ps[m]?.getD default=pe at *
       go_upto_region 19 with(fail)
       have An:=Hd fun d os=>Zs wr d os;have l0:=fun d os=>Zr y0 d os;have l1:=fun d os=>Zr y1 d os;have l2:=fun d os=>Zr z0 d os;have l3:=fun d os=>Zr z1 d os;have l4:=fun d os=>Zr z2 d os;have l5:=fun d os=>Zr z3 d os;have l6:=fun d os=>Zr z4 d os;have l7:=fun d os=>Zr z5 d os;have cA:=fun d os=>Zh (Dt.o (grow (redrawn wr d) os) (Zs wr d os));refine Zz (by kernel_rfl) (by kernel_rfl) ?_
       repeat (go_big_quiet_step (first | with_reducible exact cA _ _))
       refine Xf ?_;intro _ Ah;obtain⟨⟨Am,Ad⟩,Ab⟩:=Ah;have Aa:=An.o Am Ad;rw [<- Ab] at Aa;clear l0 l1 l2 l3 l4 l5 l6 l7 cA Ab
       rename_i w7
       have Ba:=Hd (Ai.o.trans (Aa.mono Ai.o.size));clear Aa y0 y1 z0 z1 z2 z3 z4 z5
       cases bm with
       | true=>
        have Dr:=Hd (Dz.o rfl)
        go_wp2_with fail
        go_roundw
        case rel=>exact⟨m+1,by omega,by go_num,Dr.o,Ba.o⟩
        case measure=>simp [intOf];omega
       | false=>
        have HR:=Hd (show Ay=5 by rw [Di.o,Ep.o rfl];rfl)
        go_wp2_with fail
        go_ret
        exact⟨qF HR.o.symm,Aq.o.trans (Ba.o.mono Aq.o.size)⟩
     . have Fm:m=np:=by omega
       have HR:=Hd (show Ay=0 by
        have h1:=Ak.o;rw [Yx (by rw [Dg.o];omega)] at h1;rw [Di.o,h1];rfl)
       go_wp2_with fail
       go_ret
       exact⟨qF HR.o.symm,Cj.o⟩
end
end Go.Proofs.YtegjgiofmpolnaaGreat
