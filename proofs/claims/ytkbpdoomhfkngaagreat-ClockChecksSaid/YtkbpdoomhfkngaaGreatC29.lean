/- A part of the proof. Conditions: each theorem's own. -/
import Derived.Test.YtkbpdoomhfkngaaGreatC28
namespace Go.Proofs.YtkbpdoomhfkngaaGreat
set_option linter.unusedVariables false
set_option linter.unusedSimpArgs false
set_option maxRecDepth 100000
set_option maxHeartbeats 40000000
section
open Go.RowKit Go.Sort Go.BigFrame
theorem bBl(p:Pg)(x:Nd)(r:Rm)(y:Ex)(A:Option Addr)(ca:Nat)(B:Option Addr)(cb:Nat)(S:Option Addr)(m sc:Nat)(ts:List T3)(w:World)(h:dF w p x r)(hS:aR w S m ts)(hk:y.k=7)(hm:3<=m)(ht:fV (aD ts 0)=true)(o:Option T3)(ho:(if aD ts 1=aD ts 2 then some (aD ts 1)else none)=o):
 Calls Tryz.prog 115 #[.agg (aY p x r),.agg (aE y A ca B cb),.slice S m sc] w (bF w o):=by
 have HF:=Hd fun w0 hw=>gO (w:=w) (w1:=w0) (cs:=aY p x r) (ds:=aE y A ca B cb) (T:=69) (U:=52) (V:=41) hw;obtain⟨sb,so,rfl,Az,Ob⟩:=hS.at_ (i:=0) aA;obtain⟨a0,a1,a2⟩:=Ob 0 aA;obtain⟨b0,b1,b2⟩:=Ob 1 aA;obtain⟨c0,c1,c2⟩:=Ob 2 aA;simp only[Nat.zero_mul,Nat.add_zero,Nat.one_mul]at a0 a1 a2 b0 b1 b2 c0 c1 c2;have Gz:=Hd tA;have Bp:=Hd fun(ad:Option Addr) w1 (hr:aR w1 ad 1 [aD ts 0])=>mB 2 0 0 ad 1 1 [aD ts 0] w1 hr;rw[show eP (2,0,0) [aD ts 0]=fV (aD ts 0)from pW _ _]at Bp;unfold aF at Bp Gz;rw[ht]at Bp;have Oa:=Hd fun(ad:Option Addr) w1 (hr:aR w1 ad 1 [aD ts 2])=>mB (aD ts 1).1 (aD ts 1).2.1 (aD ts 1).2.2 ad 1 1 [aD ts 2] w1 hr;have Oe:eP ((aD ts 1).1,(aD ts 1).2.1,(aD ts 1).2.2) [aD ts 2]=decide (aD ts 2=aD ts 1):=pW _ _;rw[Oe]at Oa;have Ir:(if decide (aD ts 2=aD ts 1)=true then some (aD ts 1)else none)=o:=by
  rw[<-ho];by_cases he:aD ts 1=aD ts 2;· exact aEp
  . rw[if_neg he,if_neg (by simpa using fun e=>he e.symm)]
 unfold aF at Oa;generalize decide (aD ts 2=aD ts 1)=ab at *;have Oo:(0:Int)<(m:Int):=aA;have Ot:(1:Int)<(m:Int):=aA;have Oq:(2:Int)<(m:Int):=aA;generalize On:aD ts 0=tx at *;generalize Ok:aD ts 1=ty at *;generalize Ol:aD ts 2=tz at *;obtain⟨x0,x1,x2⟩:=tx;obtain⟨y0,y1,y2⟩:=ty;obtain⟨z0,z1,z2⟩:=tz;dsimp only at a0 a1 a2 b0 b1 b2 c0 c1 c2;have HO:=Hd Ir.symm;clear ho Ir h Oe ht;unfold aY aE at *;rw[hk]at HF⊢;clear hS Ob;go_in
 go_upto_region 1 with(fail);generalize Ai:((w.alloc _).alloc _).alloc _=w0;obtain⟨Ae,Al,Bf,As,hR⟩:=HF.o w0 Ai;have Af:=Hd Ae;have HR:=Hd hR;have r0:=As w0 (Yg _ _) 0;simp only[Ya,Yb,Yc]at r0;have a0:=(Ae.cell (p:=⟨sb,so,none⟩) Az).trans a0;have a1:=(Ae.cell (p:=⟨sb,so+1,none⟩) Az).trans a1;have a2:=(Ae.cell (p:=⟨sb,so+2,none⟩) Az).trans a2;have b0:=(Ae.cell (p:=⟨sb,so+3,none⟩) Az).trans b0;have b1:=(Ae.cell (p:=⟨sb,so+3+1,none⟩) Az).trans b1;have b2:=(Ae.cell (p:=⟨sb,so+3+2,none⟩) Az).trans b2;have c0:=(Ae.cell (p:=⟨sb,so+2*3,none⟩) Az).trans c0;have c1:=(Ae.cell (p:=⟨sb,so+2*3+1,none⟩) Az).trans c1;have c2:=(Ae.cell (p:=⟨sb,so+2*3+2,none⟩) Az).trans c2;have Oi:0<m:=aA;have Oj:1<m:=aA;have Om:2<m:=aA;have An:sb≠w.heap.size+1+1:=aA;have Oc:sb<w0.heap.size:=Yr Az Af.o.size;have Ez:w.heap.size≠w.heap.size+1+1:=aA;have Ba:w.heap.size+1≠w.heap.size+1+1:=aA;clear Ai Al Bf As hR HF;have Ab:=Hd Oc;cases ab with
 |false=>
  have HO:=Hd (show o=none from HO.o);have Cc:=Hd fun w1=>iO y0 y1 y2 false w1;unfold bF aF at Cc;simp only[Yy,if_false,if_true,Option.getD_none,Yt,Option.isSome_none,Option.isSome_some]at Cc;go_upto_region 7 with(fail)
  go_region_held3 (fun W=>W.cell? ⟨sb,so,none⟩=some (.int .i64 x0)/\W.cell? ⟨sb,so+1,none⟩=some (.int .i64 x1)/\W.cell? ⟨sb,so+2,none⟩=some (.int .i64 x2)/\W.cell? ⟨sb,so+3,none⟩=some (.int .i64 y0)/\W.cell? ⟨sb,so+3+1,none⟩=some (.int .i64 y1)/\W.cell? ⟨sb,so+3+2,none⟩=some (.int .i64 y2)/\W.cell? ⟨sb,so+2*3,none⟩=some (.int .i64 z0)/\W.cell? ⟨sb,so+2*3+1,none⟩=some (.int .i64 z1)/\W.cell? ⟨sb,so+2*3+2,none⟩=some (.int .i64 z2)) (first|with_reducible exact⟨a0,a1,a2,b0,b1,b2,c0,c1,c2⟩|with_reducible exact⟨(bJ _ _).trans a0,(bJ _ _).trans a1,(bJ _ _).trans a2,(bJ _ _).trans b0,(bJ _ _).trans b1,(bJ _ _).trans b2,(bJ _ _).trans c0,(bJ _ _).trans c1,(bJ _ _).trans c2⟩|with_reducible exact⟨(bI _ _ _ Ab.o).trans a0,(bI _ _ _ Ab.o).trans a1,(bI _ _ _ Ab.o).trans a2,(bI _ _ _ Ab.o).trans b0,(bI _ _ _ Ab.o).trans b1,(bI _ _ _ Ab.o).trans b2,(bI _ _ _ Ab.o).trans c0,(bI _ _ _ Ab.o).trans c1,(bI _ _ _ Ab.o).trans c2⟩|with_reducible exact⟨(Yj _ _ _ Ab.o).trans a0,(Yj _ _ _ Ab.o).trans a1,(Yj _ _ _ Ab.o).trans a2,(Yj _ _ _ Ab.o).trans b0,(Yj _ _ _ Ab.o).trans b1,(Yj _ _ _ Ab.o).trans b2,(Yj _ _ _ Ab.o).trans c0,(Yj _ _ _ Ab.o).trans c1,(Yj _ _ _ Ab.o).trans c2⟩|with_reducible exact⟨Hs,Hu,Ie,Ic,Ii,Hz,Ht,Hx,Ib⟩|with_reducible exact⟨(Yj _ _ _ (Yr Ab.o Cl.o.size)).trans Hs,(Yj _ _ _ (Yr Ab.o Cl.o.size)).trans Hu,(Yj _ _ _ (Yr Ab.o Cl.o.size)).trans Ie,(Yj _ _ _ (Yr Ab.o Cl.o.size)).trans Ic,(Yj _ _ _ (Yr Ab.o Cl.o.size)).trans Ii,(Yj _ _ _ (Yr Ab.o Cl.o.size)).trans Hz,(Yj _ _ _ (Yr Ab.o Cl.o.size)).trans Ht,(Yj _ _ _ (Yr Ab.o Cl.o.size)).trans Hx,(Yj _ _ _ (Yr Ab.o Cl.o.size)).trans Ib⟩|with_reducible exact⟨Em,El,Ek,Dt,Dr,Ds,Fs,Fv,Fx⟩|with_reducible exact⟨(Yj _ _ _ (Yr Ab.o Bd.o.size)).trans Em,(Yj _ _ _ (Yr Ab.o Bd.o.size)).trans El,(Yj _ _ _ (Yr Ab.o Bd.o.size)).trans Ek,(Yj _ _ _ (Yr Ab.o Bd.o.size)).trans Dt,(Yj _ _ _ (Yr Ab.o Bd.o.size)).trans Dr,(Yj _ _ _ (Yr Ab.o Bd.o.size)).trans Ds,(Yj _ _ _ (Yr Ab.o Bd.o.size)).trans Fs,(Yj _ _ _ (Yr Ab.o Bd.o.size)).trans Fv,(Yj _ _ _ (Yr Ab.o Bd.o.size)).trans Fx⟩|with_reducible exact⟨Nt,Bx,Nw,Jx,Nv,Ny,Nz,Nu,Nx⟩|with_reducible exact⟨(Yj _ _ _ (Yr Ab.o Aq.o.size)).trans Nt,(Yj _ _ _ (Yr Ab.o Aq.o.size)).trans Bx,(Yj _ _ _ (Yr Ab.o Aq.o.size)).trans Nw,(Yj _ _ _ (Yr Ab.o Aq.o.size)).trans Jx,(Yj _ _ _ (Yr Ab.o Aq.o.size)).trans Nv,(Yj _ _ _ (Yr Ab.o Aq.o.size)).trans Ny,(Yj _ _ _ (Yr Ab.o Aq.o.size)).trans Nz,(Yj _ _ _ (Yr Ab.o Aq.o.size)).trans Nu,(Yj _ _ _ (Yr Ab.o Aq.o.size)).trans Nx⟩|with_reducible exact⟨Dj,Dm,Dp,Cw,Cv,Cx,Ep,Er,Et⟩|with_reducible exact⟨(Yj _ _ _ (Yr Ab.o Aw.o.size)).trans Dj,(Yj _ _ _ (Yr Ab.o Aw.o.size)).trans Dm,(Yj _ _ _ (Yr Ab.o Aw.o.size)).trans Dp,(Yj _ _ _ (Yr Ab.o Aw.o.size)).trans Cw,(Yj _ _ _ (Yr Ab.o Aw.o.size)).trans Cv,(Yj _ _ _ (Yr Ab.o Aw.o.size)).trans Cx,(Yj _ _ _ (Yr Ab.o Aw.o.size)).trans Ep,(Yj _ _ _ (Yr Ab.o Aw.o.size)).trans Er,(Yj _ _ _ (Yr Ab.o Aw.o.size)).trans Et⟩|with_reducible exact⟨(bC An).trans Dj,(bC An).trans Dm,(bC An).trans Dp,(bC An).trans Cw,(bC An).trans Cv,(bC An).trans Cx,(bC An).trans Ep,(bC An).trans Er,(bC An).trans Et⟩)
   ((first
     |(go_at_call 120;refine(Gz.o 2 _).mono ?_;rintro e Wg ⟨rfl,hq⟩;have Cl:=Hd (show Below w0.heap.size w0 Wg from by first|exact(bG (Yg w0.heap.size w0) 1).trans (hq.mono (Yh _))|exact(((Yg w0.heap.size w0).alloc (Yh _) (.cells #[.int .i64 x0,.int .i64 x1,.int .i64 x2] 41)).drew).trans (hq.mono aG));have Od:=Hd hq;have Hs:=(Cl.o.cell (p:=⟨sb,so,none⟩) Ab.o).trans a0;have Hu:=(Cl.o.cell (p:=⟨sb,so+1,none⟩) Ab.o).trans a1;have Ie:=(Cl.o.cell (p:=⟨sb,so+2,none⟩) Ab.o).trans a2;have Ic:=(Cl.o.cell (p:=⟨sb,so+3,none⟩) Ab.o).trans b0;have Ii:=(Cl.o.cell (p:=⟨sb,so+3+1,none⟩) Ab.o).trans b1;have Hz:=(Cl.o.cell (p:=⟨sb,so+3+2,none⟩) Ab.o).trans b2;have Ht:=(Cl.o.cell (p:=⟨sb,so+2*3,none⟩) Ab.o).trans c0;have Hx:=(Cl.o.cell (p:=⟨sb,so+2*3+1,none⟩) Ab.o).trans c1;have Ib:=(Cl.o.cell (p:=⟨sb,so+2*3+2,none⟩) Ab.o).trans c2;clear hq)
     |(go_at_call 119;(with_reducible refine(Bp.o _ _ ?hx).mono ?_);(case hx=>(first|exact aR.lit Wg x0 x1 x2 41|exact((aR.lit w0 x0 x1 x2 41).drew).below Od.o));rintro e Wl ⟨rfl,hq⟩;have Bd:=Hd (show Below w0.heap.size w0 Wl from by first|exact(Cl.o.alloc Cl.o.size (.cells #[.int .i64 x0,.int .i64 x1,.int .i64 x2] 41)).trans (hq.mono aAm)|exact Cl.o.tr hq);have Og:=Hd hq;have Em:=(Bd.o.cell (p:=⟨sb,so,none⟩) Ab.o).trans a0;have El:=(Bd.o.cell (p:=⟨sb,so+1,none⟩) Ab.o).trans a1;have Ek:=(Bd.o.cell (p:=⟨sb,so+2,none⟩) Ab.o).trans a2;have Dt:=(Bd.o.cell (p:=⟨sb,so+3,none⟩) Ab.o).trans b0;have Dr:=(Bd.o.cell (p:=⟨sb,so+3+1,none⟩) Ab.o).trans b1;have Ds:=(Bd.o.cell (p:=⟨sb,so+3+2,none⟩) Ab.o).trans b2;have Fs:=(Bd.o.cell (p:=⟨sb,so+2*3,none⟩) Ab.o).trans c0;have Fv:=(Bd.o.cell (p:=⟨sb,so+2*3+1,none⟩) Ab.o).trans c1;have Fx:=(Bd.o.cell (p:=⟨sb,so+2*3+2,none⟩) Ab.o).trans c2;clear hq)
     |(go_at_call 119;(with_reducible refine(Oa.o _ _ ?hx).mono ?_);(case hx=>(first|exact aR.lit Wl z0 z1 z2 41));rintro e Wm ⟨rfl,hq⟩;have Aq:=Hd (show Below w0.heap.size w0 Wm from by first|exact(Bd.o.alloc Bd.o.size (.cells #[.int .i64 z0,.int .i64 z1,.int .i64 z2] 41)).trans (hq.mono (by have:=Bd.o.size;simp;omega)));have Of:=Hd hq;have Nt:=(Aq.o.cell (p:=⟨sb,so,none⟩) Ab.o).trans a0;have Bx:=(Aq.o.cell (p:=⟨sb,so+1,none⟩) Ab.o).trans a1;have Nw:=(Aq.o.cell (p:=⟨sb,so+2,none⟩) Ab.o).trans a2;have Jx:=(Aq.o.cell (p:=⟨sb,so+3,none⟩) Ab.o).trans b0;have Nv:=(Aq.o.cell (p:=⟨sb,so+3+1,none⟩) Ab.o).trans b1;have Ny:=(Aq.o.cell (p:=⟨sb,so+3+2,none⟩) Ab.o).trans b2;have Nz:=(Aq.o.cell (p:=⟨sb,so+2*3,none⟩) Ab.o).trans c0;have Nu:=(Aq.o.cell (p:=⟨sb,so+2*3+1,none⟩) Ab.o).trans c1;have Nx:=(Aq.o.cell (p:=⟨sb,so+2*3+2,none⟩) Ab.o).trans c2;clear hq)
     |(go_at_call 145;refine(Cc.o _).mono ?_;rintro e Wn ⟨rfl,hq⟩;have Aw:=Hd (show Below w0.heap.size w0 Wn from by first|exact Aq.o.tr hq);have Oh:=Hd hq;have Dj:=(Aw.o.cell (p:=⟨sb,so,none⟩) Ab.o).trans a0;have Dm:=(Aw.o.cell (p:=⟨sb,so+1,none⟩) Ab.o).trans a1;have Dp:=(Aw.o.cell (p:=⟨sb,so+2,none⟩) Ab.o).trans a2;have Cw:=(Aw.o.cell (p:=⟨sb,so+3,none⟩) Ab.o).trans b0;have Cv:=(Aw.o.cell (p:=⟨sb,so+3+1,none⟩) Ab.o).trans b1;have Cx:=(Aw.o.cell (p:=⟨sb,so+3+2,none⟩) Ab.o).trans b2;have Ep:=(Aw.o.cell (p:=⟨sb,so+2*3,none⟩) Ab.o).trans c0;have Er:=(Aw.o.cell (p:=⟨sb,so+2*3+1,none⟩) Ab.o).trans c1;have Et:=(Aw.o.cell (p:=⟨sb,so+2*3+2,none⟩) Ab.o).trans c2;have Dn:=Hd (HR.o.below Aw.o);have s0:=Dn.o.cell 0;have s1:=Dn.o.cell 1;have s2:=Dn.o.cell 2;have fz:∀j,Wn.frozen? ⟨w.heap.size+1+1,j,none⟩=false:=(fun j=>frozen_of_row Wn _ j _ _ Dn.o);simp only[aF,List.getElem?_toArray,Yz,Zb]at s0 s1 s2;clear hq)))
  all_goals exact aA0
 |true=>
  have HO:=Hd (show o=some (y0,y1,y2)from HO.o);have Cc:=Hd fun w1=>iO y0 y1 y2 true w1;unfold bF aF at Cc;simp only[Yy,if_false,if_true,Option.getD_none,Yt,Option.isSome_none,Option.isSome_some]at Cc;go_upto_region 7 with(fail)
  go_region_held3 (fun W=>W.cell? ⟨sb,so,none⟩=some (.int .i64 x0)/\W.cell? ⟨sb,so+1,none⟩=some (.int .i64 x1)/\W.cell? ⟨sb,so+2,none⟩=some (.int .i64 x2)/\W.cell? ⟨sb,so+3,none⟩=some (.int .i64 y0)/\W.cell? ⟨sb,so+3+1,none⟩=some (.int .i64 y1)/\W.cell? ⟨sb,so+3+2,none⟩=some (.int .i64 y2)/\W.cell? ⟨sb,so+2*3,none⟩=some (.int .i64 z0)/\W.cell? ⟨sb,so+2*3+1,none⟩=some (.int .i64 z1)/\W.cell? ⟨sb,so+2*3+2,none⟩=some (.int .i64 z2)) (first|with_reducible exact⟨a0,a1,a2,b0,b1,b2,c0,c1,c2⟩|with_reducible exact⟨(bJ _ _).trans a0,(bJ _ _).trans a1,(bJ _ _).trans a2,(bJ _ _).trans b0,(bJ _ _).trans b1,(bJ _ _).trans b2,(bJ _ _).trans c0,(bJ _ _).trans c1,(bJ _ _).trans c2⟩|with_reducible exact⟨(bI _ _ _ Ab.o).trans a0,(bI _ _ _ Ab.o).trans a1,(bI _ _ _ Ab.o).trans a2,(bI _ _ _ Ab.o).trans b0,(bI _ _ _ Ab.o).trans b1,(bI _ _ _ Ab.o).trans b2,(bI _ _ _ Ab.o).trans c0,(bI _ _ _ Ab.o).trans c1,(bI _ _ _ Ab.o).trans c2⟩|with_reducible exact⟨(Yj _ _ _ Ab.o).trans a0,(Yj _ _ _ Ab.o).trans a1,(Yj _ _ _ Ab.o).trans a2,(Yj _ _ _ Ab.o).trans b0,(Yj _ _ _ Ab.o).trans b1,(Yj _ _ _ Ab.o).trans b2,(Yj _ _ _ Ab.o).trans c0,(Yj _ _ _ Ab.o).trans c1,(Yj _ _ _ Ab.o).trans c2⟩|with_reducible exact⟨Hs,Hu,Ie,Ic,Ii,Hz,Ht,Hx,Ib⟩|with_reducible exact⟨(Yj _ _ _ (Yr Ab.o Cl.o.size)).trans Hs,(Yj _ _ _ (Yr Ab.o Cl.o.size)).trans Hu,(Yj _ _ _ (Yr Ab.o Cl.o.size)).trans Ie,(Yj _ _ _ (Yr Ab.o Cl.o.size)).trans Ic,(Yj _ _ _ (Yr Ab.o Cl.o.size)).trans Ii,(Yj _ _ _ (Yr Ab.o Cl.o.size)).trans Hz,(Yj _ _ _ (Yr Ab.o Cl.o.size)).trans Ht,(Yj _ _ _ (Yr Ab.o Cl.o.size)).trans Hx,(Yj _ _ _ (Yr Ab.o Cl.o.size)).trans Ib⟩|with_reducible exact⟨Em,El,Ek,Dt,Dr,Ds,Fs,Fv,Fx⟩|with_reducible exact⟨(Yj _ _ _ (Yr Ab.o Bd.o.size)).trans Em,(Yj _ _ _ (Yr Ab.o Bd.o.size)).trans El,(Yj _ _ _ (Yr Ab.o Bd.o.size)).trans Ek,(Yj _ _ _ (Yr Ab.o Bd.o.size)).trans Dt,(Yj _ _ _ (Yr Ab.o Bd.o.size)).trans Dr,(Yj _ _ _ (Yr Ab.o Bd.o.size)).trans Ds,(Yj _ _ _ (Yr Ab.o Bd.o.size)).trans Fs,(Yj _ _ _ (Yr Ab.o Bd.o.size)).trans Fv,(Yj _ _ _ (Yr Ab.o Bd.o.size)).trans Fx⟩|with_reducible exact⟨Nt,Bx,Nw,Jx,Nv,Ny,Nz,Nu,Nx⟩|with_reducible exact⟨(Yj _ _ _ (Yr Ab.o Aq.o.size)).trans Nt,(Yj _ _ _ (Yr Ab.o Aq.o.size)).trans Bx,(Yj _ _ _ (Yr Ab.o Aq.o.size)).trans Nw,(Yj _ _ _ (Yr Ab.o Aq.o.size)).trans Jx,(Yj _ _ _ (Yr Ab.o Aq.o.size)).trans Nv,(Yj _ _ _ (Yr Ab.o Aq.o.size)).trans Ny,(Yj _ _ _ (Yr Ab.o Aq.o.size)).trans Nz,(Yj _ _ _ (Yr Ab.o Aq.o.size)).trans Nu,(Yj _ _ _ (Yr Ab.o Aq.o.size)).trans Nx⟩|with_reducible exact⟨Dj,Dm,Dp,Cw,Cv,Cx,Ep,Er,Et⟩|with_reducible exact⟨(Yj _ _ _ (Yr Ab.o Aw.o.size)).trans Dj,(Yj _ _ _ (Yr Ab.o Aw.o.size)).trans Dm,(Yj _ _ _ (Yr Ab.o Aw.o.size)).trans Dp,(Yj _ _ _ (Yr Ab.o Aw.o.size)).trans Cw,(Yj _ _ _ (Yr Ab.o Aw.o.size)).trans Cv,(Yj _ _ _ (Yr Ab.o Aw.o.size)).trans Cx,(Yj _ _ _ (Yr Ab.o Aw.o.size)).trans Ep,(Yj _ _ _ (Yr Ab.o Aw.o.size)).trans Er,(Yj _ _ _ (Yr Ab.o Aw.o.size)).trans Et⟩|with_reducible exact⟨(bC An).trans Dj,(bC An).trans Dm,(bC An).trans Dp,(bC An).trans Cw,(bC An).trans Cv,(bC An).trans Cx,(bC An).trans Ep,(bC An).trans Er,(bC An).trans Et⟩)
   ((first
     |(go_at_call 120;refine(Gz.o 2 _).mono ?_;rintro e Wg ⟨rfl,hq⟩;have Cl:=Hd (show Below w0.heap.size w0 Wg from by first|exact(bG (Yg w0.heap.size w0) 1).trans (hq.mono (Yh _))|exact(((Yg w0.heap.size w0).alloc (Yh _) (.cells #[.int .i64 x0,.int .i64 x1,.int .i64 x2] 41)).drew).trans (hq.mono aG));have Od:=Hd hq;have Hs:=(Cl.o.cell (p:=⟨sb,so,none⟩) Ab.o).trans a0;have Hu:=(Cl.o.cell (p:=⟨sb,so+1,none⟩) Ab.o).trans a1;have Ie:=(Cl.o.cell (p:=⟨sb,so+2,none⟩) Ab.o).trans a2;have Ic:=(Cl.o.cell (p:=⟨sb,so+3,none⟩) Ab.o).trans b0;have Ii:=(Cl.o.cell (p:=⟨sb,so+3+1,none⟩) Ab.o).trans b1;have Hz:=(Cl.o.cell (p:=⟨sb,so+3+2,none⟩) Ab.o).trans b2;have Ht:=(Cl.o.cell (p:=⟨sb,so+2*3,none⟩) Ab.o).trans c0;have Hx:=(Cl.o.cell (p:=⟨sb,so+2*3+1,none⟩) Ab.o).trans c1;have Ib:=(Cl.o.cell (p:=⟨sb,so+2*3+2,none⟩) Ab.o).trans c2;clear hq)
     |(go_at_call 119;(with_reducible refine(Bp.o _ _ ?hx).mono ?_);(case hx=>(first|exact aR.lit Wg x0 x1 x2 41|exact((aR.lit w0 x0 x1 x2 41).drew).below Od.o));rintro e Wl ⟨rfl,hq⟩;have Bd:=Hd (show Below w0.heap.size w0 Wl from by first|exact(Cl.o.alloc Cl.o.size (.cells #[.int .i64 x0,.int .i64 x1,.int .i64 x2] 41)).trans (hq.mono aAm)|exact Cl.o.tr hq);have Og:=Hd hq;have Em:=(Bd.o.cell (p:=⟨sb,so,none⟩) Ab.o).trans a0;have El:=(Bd.o.cell (p:=⟨sb,so+1,none⟩) Ab.o).trans a1;have Ek:=(Bd.o.cell (p:=⟨sb,so+2,none⟩) Ab.o).trans a2;have Dt:=(Bd.o.cell (p:=⟨sb,so+3,none⟩) Ab.o).trans b0;have Dr:=(Bd.o.cell (p:=⟨sb,so+3+1,none⟩) Ab.o).trans b1;have Ds:=(Bd.o.cell (p:=⟨sb,so+3+2,none⟩) Ab.o).trans b2;have Fs:=(Bd.o.cell (p:=⟨sb,so+2*3,none⟩) Ab.o).trans c0;have Fv:=(Bd.o.cell (p:=⟨sb,so+2*3+1,none⟩) Ab.o).trans c1;have Fx:=(Bd.o.cell (p:=⟨sb,so+2*3+2,none⟩) Ab.o).trans c2;clear hq)
     |(go_at_call 119;(with_reducible refine(Oa.o _ _ ?hx).mono ?_);(case hx=>(first|exact aR.lit Wl z0 z1 z2 41));rintro e Wm ⟨rfl,hq⟩;have Aq:=Hd (show Below w0.heap.size w0 Wm from by first|exact(Bd.o.alloc Bd.o.size (.cells #[.int .i64 z0,.int .i64 z1,.int .i64 z2] 41)).trans (hq.mono (by have:=Bd.o.size;simp;omega)));have Of:=Hd hq;have Nt:=(Aq.o.cell (p:=⟨sb,so,none⟩) Ab.o).trans a0;have Bx:=(Aq.o.cell (p:=⟨sb,so+1,none⟩) Ab.o).trans a1;have Nw:=(Aq.o.cell (p:=⟨sb,so+2,none⟩) Ab.o).trans a2;have Jx:=(Aq.o.cell (p:=⟨sb,so+3,none⟩) Ab.o).trans b0;have Nv:=(Aq.o.cell (p:=⟨sb,so+3+1,none⟩) Ab.o).trans b1;have Ny:=(Aq.o.cell (p:=⟨sb,so+3+2,none⟩) Ab.o).trans b2;have Nz:=(Aq.o.cell (p:=⟨sb,so+2*3,none⟩) Ab.o).trans c0;have Nu:=(Aq.o.cell (p:=⟨sb,so+2*3+1,none⟩) Ab.o).trans c1;have Nx:=(Aq.o.cell (p:=⟨sb,so+2*3+2,none⟩) Ab.o).trans c2;clear hq)
     |(go_at_call 145;refine(Cc.o _).mono ?_;rintro e Wn ⟨rfl,hq⟩;have Aw:=Hd (show Below w0.heap.size w0 Wn from by first|exact Aq.o.tr hq);have Oh:=Hd hq;have Dj:=(Aw.o.cell (p:=⟨sb,so,none⟩) Ab.o).trans a0;have Dm:=(Aw.o.cell (p:=⟨sb,so+1,none⟩) Ab.o).trans a1;have Dp:=(Aw.o.cell (p:=⟨sb,so+2,none⟩) Ab.o).trans a2;have Cw:=(Aw.o.cell (p:=⟨sb,so+3,none⟩) Ab.o).trans b0;have Cv:=(Aw.o.cell (p:=⟨sb,so+3+1,none⟩) Ab.o).trans b1;have Cx:=(Aw.o.cell (p:=⟨sb,so+3+2,none⟩) Ab.o).trans b2;have Ep:=(Aw.o.cell (p:=⟨sb,so+2*3,none⟩) Ab.o).trans c0;have Er:=(Aw.o.cell (p:=⟨sb,so+2*3+1,none⟩) Ab.o).trans c1;have Et:=(Aw.o.cell (p:=⟨sb,so+2*3+2,none⟩) Ab.o).trans c2;have Dn:=Hd (HR.o.below Aw.o);have s0:=Dn.o.cell 0;have s1:=Dn.o.cell 1;have s2:=Dn.o.cell 2;have fz:∀j,Wn.frozen? ⟨w.heap.size+1+1,j,none⟩=false:=(fun j=>frozen_of_row Wn _ j _ _ Dn.o);simp only[aF,List.getElem?_toArray,Yz,Zb]at s0 s1 s2;clear hq)))
  all_goals exact aQz
theorem bBm(p:Pg)(x:Nd)(r:Rm)(y:Ex)(A:Option Addr)(ca:Nat)(B:Option Addr)(cb:Nat)(S:Option Addr)(m sc:Nat)(ts:List T3)(w:World)(h:dF w p x r)(hS:aR w S m ts)(hk:y.k=7)(hm:3<=m)(ht:fV (aD ts 0)=false)(o:Option T3)(ho:none=o):
 Calls Tryz.prog 115 #[.agg (aY p x r),.agg (aE y A ca B cb),.slice S m sc] w (bF w o):=by
 have HF:=Hd fun w0 hw=>gO (w:=w) (w1:=w0) (cs:=aY p x r) (ds:=aE y A ca B cb) (T:=69) (U:=52) (V:=41) hw;obtain⟨sb,so,rfl,Az,Bp⟩:=hS.at_ (i:=0) aA;obtain⟨a0,a1,a2⟩:=Bp 0 aA;obtain⟨b0,b1,b2⟩:=Bp 1 aA;obtain⟨c0,c1,c2⟩:=Bp 2 aA;simp only[Nat.zero_mul,Nat.add_zero,Nat.one_mul]at a0 a1 a2 b0 b1 b2 c0 c1 c2;have Gz:=Hd tA;have Aq:=Hd fun(ad:Option Addr) w1 (hr:aR w1 ad 1 [aD ts 0])=>mB 2 0 0 ad 1 1 [aD ts 0] w1 hr;rw[show eP (2,0,0) [aD ts 0]=fV (aD ts 0)from pW _ _]at Aq;unfold aF at Aq Gz;rw[ht]at Aq;have Ob:(0:Int)<(m:Int):=aA;have Od:(1:Int)<(m:Int):=aA;have Oc:(2:Int)<(m:Int):=aA;generalize Oa:aD ts 0=tx at *;generalize Nx:aD ts 1=ty at *;generalize Ny:aD ts 2=tz at *;obtain⟨x0,x1,x2⟩:=tx;obtain⟨y0,y1,y2⟩:=ty;obtain⟨z0,z1,z2⟩:=tz;dsimp only at a0 a1 a2 b0 b1 b2 c0 c1 c2;have HO:=Hd ho.symm;clear ho h ht;unfold aY aE at *;rw[hk]at HF⊢;clear hS Bp;go_in
 go_upto_region 1 with(fail);generalize Ai:((w.alloc _).alloc _).alloc _=w0;obtain⟨Ae,Al,Bf,As,hR⟩:=HF.o w0 Ai;have Af:=Hd Ae;have HR:=Hd hR;have r0:=As w0 (Yg _ _) 0;simp only[Ya,Yb,Yc]at r0;have a0:=(Ae.cell (p:=⟨sb,so,none⟩) Az).trans a0;have a1:=(Ae.cell (p:=⟨sb,so+1,none⟩) Az).trans a1;have a2:=(Ae.cell (p:=⟨sb,so+2,none⟩) Az).trans a2;have b0:=(Ae.cell (p:=⟨sb,so+3,none⟩) Az).trans b0;have b1:=(Ae.cell (p:=⟨sb,so+3+1,none⟩) Az).trans b1;have b2:=(Ae.cell (p:=⟨sb,so+3+2,none⟩) Az).trans b2;have c0:=(Ae.cell (p:=⟨sb,so+2*3,none⟩) Az).trans c0;have c1:=(Ae.cell (p:=⟨sb,so+2*3+1,none⟩) Az).trans c1;have c2:=(Ae.cell (p:=⟨sb,so+2*3+2,none⟩) Az).trans c2;have Nv:0<m:=aA;have Nw:1<m:=aA;have Nz:2<m:=aA;have An:sb≠w.heap.size+1+1:=aA;have Bx:sb<w0.heap.size:=Yr Az Af.o.size;have Ez:w.heap.size≠w.heap.size+1+1:=aA;have Ba:w.heap.size+1≠w.heap.size+1+1:=aA;clear Ai Al Bf As hR HF;have Ab:=Hd Bx;have HO:=Hd (show o=none from HO.o);have Cc:=Hd fun w1=>iO y0 y1 y2 false w1;unfold bF aF at Cc;simp only[Yy,if_false,if_true,Option.getD_none,Yt,Option.isSome_none,Option.isSome_some]at Cc;go_upto_region 7 with(fail);refine wp_region_held_drew (S:=(fun W=>W.cell? ⟨sb,so,none⟩=some (.int .i64 x0)/\W.cell? ⟨sb,so+1,none⟩=some (.int .i64 x1)/\W.cell? ⟨sb,so+2,none⟩=some (.int .i64 x2)/\W.cell? ⟨sb,so+3,none⟩=some (.int .i64 y0)/\W.cell? ⟨sb,so+3+1,none⟩=some (.int .i64 y1)/\W.cell? ⟨sb,so+3+2,none⟩=some (.int .i64 y2)/\W.cell? ⟨sb,so+2*3,none⟩=some (.int .i64 z0)/\W.cell? ⟨sb,so+2*3+1,none⟩=some (.int .i64 z1)/\W.cell? ⟨sb,so+2*3+2,none⟩=some (.int .i64 z2))) aC ?_ (fun hHeld=>?_);· exact nD
 refine Zw (i:=0) (oi:=?oi1) (v:=?v1) ?h1x1 aC ?h3x1 aC ?h5x1 (Or.inl ⟨?h6x1,?h7x1⟩) hHeld ?h8x1;case h1x1=>
  exact eD
 case h3x1=>kernel_rfl
 case h5x1=>exact fun _ _ _ h=>h
 case h6x1=>rfl
 case h7x1=>
  exact jI
 (try simp only[Act.put,Yd,Ye,Yf])
 refine Zw (i:=1) (oi:=?oi2) (v:=?v2) ?h1x2 aC ?h3x2 aC ?h5x2 (Or.inl ⟨?h6x2,?h7x2⟩) hHeld ?h8x2;case h1x2=>
  exact eD
 case h3x2=>kernel_rfl
 case h5x2=>exact fun _ _ _ h=>h
 case h6x2=>rfl
 case h7x2=>
  exact jI
 (try simp only[Act.put,Yd,Ye,Yf])
 refine Zw (i:=2) (oi:=?oi3) (v:=?v3) ?h1x3 aC ?h3x3 aC ?h5x3 (Or.inl ⟨?h6x3,?h7x3⟩) hHeld ?h8x3;case h1x3=>
  exact eD
 case h3x3=>kernel_rfl
 case h5x3=>exact fun _ _ _ h=>h
 case h6x3=>rfl
 case h7x3=>
  exact jI
 (try simp only[Act.put,Yd,Ye,Yf])
 refine Zw (i:=4) (oi:=?oi4) (v:=?v4) ?h1x4 aC ?h3x4 aC ?h5x4 (Or.inl ⟨?h6x4,?h7x4⟩) hHeld ?h8x4;case h1x4=>
  exact eD
 case h3x4=>kernel_rfl
 case h5x4=>exact fun _ _ _ h=>h
 case h6x4=>rfl
 case h7x4=>
  exact jI
 (try simp only[Act.put,Yd,Ye,Yf])
 refine Zw (i:=5) (oi:=?oi5) (v:=?v5) ?h1x5 aC ?h3x5 aC ?h5x5 (Or.inl ⟨?h6x5,?h7x5⟩) hHeld ?h8x5;case h1x5=>
  exact eD
 case h3x5=>kernel_rfl
 case h5x5=>exact fun _ _ _ h=>h
 case h6x5=>rfl
 case h7x5=>
  exact jI
 (try simp only[Act.put,Yd,Ye,Yf])
 refine Zw (i:=6) (oi:=?oi6) (v:=?v6) ?h1x6 aC ?h3x6 aC ?h5x6 (Or.inl ⟨?h6x6,?h7x6⟩) hHeld ?h8x6;case h1x6=>
  exact eD
 case h3x6=>kernel_rfl
 case h5x6=>exact fun _ _ _ h=>h
 case h6x6=>rfl
 case h7x6=>
  exact jI
 (try simp only[Act.put,Yd,Ye,Yf])
 refine Xf (rs:=[3,7]) aC aG ?_;refine Zk aX (fun K hK=>?_) ?_
 . go_simp
   (go_at_call 120;refine(Gz.o 2 _).mono ?_;rintro e Wg ⟨rfl,hq⟩;have Cl:=Hd (show Below w0.heap.size w0 Wg from by first|exact(bG (Yg w0.heap.size w0) 1).trans (hq.mono (Yh _))|exact(((Yg w0.heap.size w0).alloc (Yh _) (.cells #[.int .i64 x0,.int .i64 x1,.int .i64 x2] 41)).drew).trans (hq.mono aG));have Jx:=Hd hq;have Hs:=(Cl.o.cell (p:=⟨sb,so,none⟩) Ab.o).trans a0;have Hu:=(Cl.o.cell (p:=⟨sb,so+1,none⟩) Ab.o).trans a1;have Ie:=(Cl.o.cell (p:=⟨sb,so+2,none⟩) Ab.o).trans a2;have Ic:=(Cl.o.cell (p:=⟨sb,so+3,none⟩) Ab.o).trans b0;have Ii:=(Cl.o.cell (p:=⟨sb,so+3+1,none⟩) Ab.o).trans b1;have Hz:=(Cl.o.cell (p:=⟨sb,so+3+2,none⟩) Ab.o).trans b2;have Ht:=(Cl.o.cell (p:=⟨sb,so+2*3,none⟩) Ab.o).trans c0;have Hx:=(Cl.o.cell (p:=⟨sb,so+2*3+1,none⟩) Ab.o).trans c1;have Ib:=(Cl.o.cell (p:=⟨sb,so+2*3+2,none⟩) Ab.o).trans c2;clear hq)
   go_wp2_with fail;refine hK.out _ _ ?_ (fun hHeld=>?_);· exact nD
   clear hK K
   (try simp only[Act.put,Yd,Ye,Yf])
   refine Xf (rs:=[7]) aC aG ?_;refine Zk aX (fun K hK=>?_) ?_
   . go_simp;refine hK.out _ _ ?_ (fun hHeld=>?_);· exact nD
     clear hK K
     (try simp only[Act.put,Yd,Ye,Yf])
     refine Xf (rs:=[8]) aC aG ?_;refine Zk aX (fun K hK=>?_) ?_
     . go_simp
       (go_at_call 119;(with_reducible refine(Aq.o _ _ ?hx).mono ?_);(case hx=>(first|exact aR.lit Wg x0 x1 x2 41|exact((aR.lit w0 x0 x1 x2 41).drew).below Jx.o));rintro e Wl ⟨rfl,hq⟩;have Bd:=Hd (show Below w0.heap.size w0 Wl from by first|exact(Cl.o.alloc Cl.o.size (.cells #[.int .i64 x0,.int .i64 x1,.int .i64 x2] 41)).trans (hq.mono aAm)|exact Cl.o.tr hq);have Nt:=Hd hq;have Em:=(Bd.o.cell (p:=⟨sb,so,none⟩) Ab.o).trans a0;have El:=(Bd.o.cell (p:=⟨sb,so+1,none⟩) Ab.o).trans a1;have Ek:=(Bd.o.cell (p:=⟨sb,so+2,none⟩) Ab.o).trans a2;have Dt:=(Bd.o.cell (p:=⟨sb,so+3,none⟩) Ab.o).trans b0;have Dr:=(Bd.o.cell (p:=⟨sb,so+3+1,none⟩) Ab.o).trans b1;have Ds:=(Bd.o.cell (p:=⟨sb,so+3+2,none⟩) Ab.o).trans b2;have Fs:=(Bd.o.cell (p:=⟨sb,so+2*3,none⟩) Ab.o).trans c0;have Fv:=(Bd.o.cell (p:=⟨sb,so+2*3+1,none⟩) Ab.o).trans c1;have Fx:=(Bd.o.cell (p:=⟨sb,so+2*3+2,none⟩) Ab.o).trans c2;clear hq)
       go_wp2_with fail;refine hK.out _ _ ?_ (fun hHeld=>?_);· exact nD
       clear hK K
       (try simp only[Act.put,Yd,Ye,Yf])
       refine Zw (i:=9) (oi:=?oi7) (v:=?v7) ?h1x7 aC ?h3x7 aC ?h5x7 (Or.inl ⟨?h6x7,?h7x7⟩) hHeld ?h8x7;case h1x7=>
        exact eD
       case h3x7=>kernel_rfl
       case h5x7=>exact fun _ _ _ h=>h
       case h6x7=>rfl
       case h7x7=>
        exact jI
       (try simp only[Act.put,Yd,Ye,Yf])
       refine Zw (i:=10) (oi:=?oi8) (v:=undef) ?h1x8 aC ?h3x8 aC ?h5x8 (Or.inr ⟨?h6x8,rfl⟩) hHeld ?h8x8;case h1x8=>
        exact eD
       case h3x8=>kernel_rfl
       case h5x8=>exact fun _ _ _ h=>h
       case h6x8=>rfl
       (try simp only[Act.put,Yd,Ye,Yf])
       refine Zw (i:=11) (oi:=?oi9) (v:=undef) ?h1x9 aC ?h3x9 aC ?h5x9 (Or.inr ⟨?h6x9,rfl⟩) hHeld ?h8x9;case h1x9=>
        exact eD
       case h3x9=>kernel_rfl
       case h5x9=>exact fun _ _ _ h=>h
       case h6x9=>rfl
       (try simp only[Act.put,Yd,Ye,Yf])
       refine Zw (i:=12) (oi:=?oi10) (v:=undef) ?h1x10 aC ?h3x10 aC ?h5x10 (Or.inr ⟨?h6x10,rfl⟩) hHeld ?h8x10;case h1x10=>
        exact eD
       case h3x10=>kernel_rfl
       case h5x10=>exact fun _ _ _ h=>h
       case h6x10=>rfl
       (try simp only[Act.put,Yd,Ye,Yf])
       refine Zw (i:=13) (oi:=?oi11) (v:=undef) ?h1x11 aC ?h3x11 aC ?h5x11 (Or.inr ⟨?h6x11,rfl⟩) hHeld ?h8x11;case h1x11=>
        exact eD
       case h3x11=>kernel_rfl
       case h5x11=>exact fun _ _ _ h=>h
       case h6x11=>rfl
       (try simp only[Act.put,Yd,Ye,Yf])
       refine Zw (i:=14) (oi:=?oi12) (v:=undef) ?h1x12 aC ?h3x12 aC ?h5x12 (Or.inr ⟨?h6x12,rfl⟩) hHeld ?h8x12;case h1x12=>
        exact eD
       case h3x12=>kernel_rfl
       case h5x12=>exact fun _ _ _ h=>h
       case h6x12=>rfl
       (try simp only[Act.put,Yd,Ye,Yf])
       refine Zw (i:=15) (oi:=?oi13) (v:=undef) ?h1x13 aC ?h3x13 aC ?h5x13 (Or.inr ⟨?h6x13,rfl⟩) hHeld ?h8x13;case h1x13=>
        exact eD
       case h3x13=>kernel_rfl
       case h5x13=>exact fun _ _ _ h=>h
       case h6x13=>rfl
       (try simp only[Act.put,Yd,Ye,Yf])
       refine Zw (i:=16) (oi:=?oi14) (v:=undef) ?h1x14 aC ?h3x14 aC ?h5x14 (Or.inr ⟨?h6x14,rfl⟩) hHeld ?h8x14;case h1x14=>
        exact eD
       case h3x14=>kernel_rfl
       case h5x14=>exact fun _ _ _ h=>h
       case h6x14=>rfl
       (try simp only[Act.put,Yd,Ye,Yf])
       refine Zw (i:=17) (oi:=?oi15) (v:=undef) ?h1x15 aC ?h3x15 aC ?h5x15 (Or.inr ⟨?h6x15,rfl⟩) hHeld ?h8x15;case h1x15=>
        exact eD
       case h3x15=>kernel_rfl
       case h5x15=>exact fun _ _ _ h=>h
       case h6x15=>rfl
       (try simp only[Act.put,Yd,Ye,Yf])
       refine Zw (i:=18) (oi:=?oi16) (v:=?v16) ?h1x16 aC ?h3x16 aC ?h5x16 (Or.inl ⟨?h6x16,?h7x16⟩) hHeld ?h8x16;case h1x16=>
        exact eD
       case h3x16=>kernel_rfl
       case h5x16=>exact fun _ _ _ h=>h
       case h6x16=>rfl
       case h7x16=>
        exact jI
       (try simp only[Act.put,Yd,Ye,Yf])
       refine Xf (rs:=[19]) aC aG ?_;refine Zk aX (fun K hK=>?_) ?_
       . go_simp
         (go_at_call 145;refine(Cc.o _).mono ?_;rintro e Wn ⟨rfl,hq⟩;have Aw:=Hd (show Below w0.heap.size w0 Wn from by first|exact Bd.o.tr hq);have Nu:=Hd hq;have Dj:=(Aw.o.cell (p:=⟨sb,so,none⟩) Ab.o).trans a0;have Dm:=(Aw.o.cell (p:=⟨sb,so+1,none⟩) Ab.o).trans a1;have Dp:=(Aw.o.cell (p:=⟨sb,so+2,none⟩) Ab.o).trans a2;have Cw:=(Aw.o.cell (p:=⟨sb,so+3,none⟩) Ab.o).trans b0;have Cv:=(Aw.o.cell (p:=⟨sb,so+3+1,none⟩) Ab.o).trans b1;have Cx:=(Aw.o.cell (p:=⟨sb,so+3+2,none⟩) Ab.o).trans b2;have Ep:=(Aw.o.cell (p:=⟨sb,so+2*3,none⟩) Ab.o).trans c0;have Er:=(Aw.o.cell (p:=⟨sb,so+2*3+1,none⟩) Ab.o).trans c1;have Et:=(Aw.o.cell (p:=⟨sb,so+2*3+2,none⟩) Ab.o).trans c2;have Dn:=Hd (HR.o.below Aw.o);have s0:=Dn.o.cell 0;have s1:=Dn.o.cell 1;have s2:=Dn.o.cell 2;have fz:∀j,Wn.frozen? ⟨w.heap.size+1+1,j,none⟩=false:=(fun j=>frozen_of_row Wn _ j _ _ Dn.o);simp only[aF,List.getElem?_toArray,Yz,Zb]at s0 s1 s2;clear hq)
         go_wp2_with fail;refine hK.out _ _ ?_ (fun hHeld=>?_);· exact nD
         clear hK K
         (try simp only[Act.put,Yd,Ye,Yf])
         refine Zw (i:=20) (oi:=?oi17) (v:=?v17) ?h1x17 aC ?h3x17 aC ?h5x17 (Or.inl ⟨?h6x17,?h7x17⟩) hHeld ?h8x17;case h1x17=>
          exact eD
         case h3x17=>kernel_rfl
         case h5x17=>exact fun _ _ _ h=>h
         case h6x17=>rfl
         case h7x17=>
          exact jI
         (try simp only[Act.put,Yd,Ye,Yf])
         refine Zw (i:=21) (oi:=?oi18) (v:=?v18) ?h1x18 aC ?h3x18 aC ?h5x18 (Or.inl ⟨?h6x18,?h7x18⟩) hHeld ?h8x18;case h1x18=>
          exact eD
         case h3x18=>kernel_rfl
         case h5x18=>exact fun _ _ _ h=>h
         case h6x18=>rfl
         case h7x18=>
          exact jI
         (try simp only[Act.put,Yd,Ye,Yf])
         refine Xf (rs:=[22]) aC aG ?_;refine Zk aX (fun K hK=>?_) ?_
         . go_simp;refine hK.out _ _ ?_ (fun hHeld=>?_);· exact nD
           clear hK K
           (try simp only[Act.put,Yd,Ye,Yf])
           refine Zw (i:=23) (oi:=?oi19) (v:=?v19) ?h1x19 aC ?h3x19 aC ?h5x19 (Or.inl ⟨?h6x19,?h7x19⟩) hHeld ?h8x19;case h1x19=>
            exact eD
           case h3x19=>kernel_rfl
           case h5x19=>exact fun _ _ _ h=>h
           case h6x19=>rfl
           case h7x19=>
            exact jI
           exact aQs
         exact Zl
       exact Zl
     exact Zl
   exact Zl
 refine Zk aX (fun K hK=>?_) ?_
 . go_simp;refine hK.out _ _ ?_ (fun hHeld=>?_);· exact nD
   clear hK K
   (try simp only[Act.put,Yd,Ye,Yf])
   refine Xf (rs:=[3]) aC aG ?_;refine Zk aX (fun K hK=>?_) ?_
   . go_simp
     (go_at_call 120;refine(Gz.o 2 _).mono ?_;rintro e Wg ⟨rfl,hq⟩;have Cl:=Hd (show Below w0.heap.size w0 Wg from by first|exact(bG (Yg w0.heap.size w0) 1).trans (hq.mono (Yh _))|exact(((Yg w0.heap.size w0).alloc (Yh _) (.cells #[.int .i64 x0,.int .i64 x1,.int .i64 x2] 41)).drew).trans (hq.mono aG));have Jx:=Hd hq;have Hs:=(Cl.o.cell (p:=⟨sb,so,none⟩) Ab.o).trans a0;have Hu:=(Cl.o.cell (p:=⟨sb,so+1,none⟩) Ab.o).trans a1;have Ie:=(Cl.o.cell (p:=⟨sb,so+2,none⟩) Ab.o).trans a2;have Ic:=(Cl.o.cell (p:=⟨sb,so+3,none⟩) Ab.o).trans b0;have Ii:=(Cl.o.cell (p:=⟨sb,so+3+1,none⟩) Ab.o).trans b1;have Hz:=(Cl.o.cell (p:=⟨sb,so+3+2,none⟩) Ab.o).trans b2;have Ht:=(Cl.o.cell (p:=⟨sb,so+2*3,none⟩) Ab.o).trans c0;have Hx:=(Cl.o.cell (p:=⟨sb,so+2*3+1,none⟩) Ab.o).trans c1;have Ib:=(Cl.o.cell (p:=⟨sb,so+2*3+2,none⟩) Ab.o).trans c2;clear hq)
     go_wp2_with fail;refine hK.out _ _ ?_ (fun hHeld=>?_);· exact nD
     clear hK K
     (try simp only[Act.put,Yd,Ye,Yf])
     refine Xf (rs:=[8]) aC aG ?_;refine Zk aX (fun K hK=>?_) ?_
     . go_simp
       (go_at_call 119;(with_reducible refine(Aq.o _ _ ?hx).mono ?_);(case hx=>(first|exact aR.lit Wg x0 x1 x2 41|exact((aR.lit w0 x0 x1 x2 41).drew).below Jx.o));rintro e Wl ⟨rfl,hq⟩;have Bd:=Hd (show Below w0.heap.size w0 Wl from by first|exact(Cl.o.alloc Cl.o.size (.cells #[.int .i64 x0,.int .i64 x1,.int .i64 x2] 41)).trans (hq.mono aAm)|exact Cl.o.tr hq);have Nt:=Hd hq;have Em:=(Bd.o.cell (p:=⟨sb,so,none⟩) Ab.o).trans a0;have El:=(Bd.o.cell (p:=⟨sb,so+1,none⟩) Ab.o).trans a1;have Ek:=(Bd.o.cell (p:=⟨sb,so+2,none⟩) Ab.o).trans a2;have Dt:=(Bd.o.cell (p:=⟨sb,so+3,none⟩) Ab.o).trans b0;have Dr:=(Bd.o.cell (p:=⟨sb,so+3+1,none⟩) Ab.o).trans b1;have Ds:=(Bd.o.cell (p:=⟨sb,so+3+2,none⟩) Ab.o).trans b2;have Fs:=(Bd.o.cell (p:=⟨sb,so+2*3,none⟩) Ab.o).trans c0;have Fv:=(Bd.o.cell (p:=⟨sb,so+2*3+1,none⟩) Ab.o).trans c1;have Fx:=(Bd.o.cell (p:=⟨sb,so+2*3+2,none⟩) Ab.o).trans c2;clear hq)
       go_wp2_with fail;refine hK.out _ _ ?_ (fun hHeld=>?_);· exact nD
       clear hK K
       (try simp only[Act.put,Yd,Ye,Yf])
       refine Zw (i:=9) (oi:=?oi20) (v:=?v20) ?h1x20 aC ?h3x20 aC ?h5x20 (Or.inl ⟨?h6x20,?h7x20⟩) hHeld ?h8x20;case h1x20=>
        exact eD
       case h3x20=>kernel_rfl
       case h5x20=>exact fun _ _ _ h=>h
       case h6x20=>rfl
       case h7x20=>
        exact jI
       (try simp only[Act.put,Yd,Ye,Yf])
       refine Zw (i:=10) (oi:=?oi21) (v:=undef) ?h1x21 aC ?h3x21 aC ?h5x21 (Or.inr ⟨?h6x21,rfl⟩) hHeld ?h8x21;case h1x21=>
        exact eD
       case h3x21=>kernel_rfl
       case h5x21=>exact fun _ _ _ h=>h
       case h6x21=>rfl
       (try simp only[Act.put,Yd,Ye,Yf])
       refine Zw (i:=11) (oi:=?oi22) (v:=undef) ?h1x22 aC ?h3x22 aC ?h5x22 (Or.inr ⟨?h6x22,rfl⟩) hHeld ?h8x22;case h1x22=>
        exact eD
       case h3x22=>kernel_rfl
       case h5x22=>exact fun _ _ _ h=>h
       case h6x22=>rfl
       (try simp only[Act.put,Yd,Ye,Yf])
       refine Zw (i:=12) (oi:=?oi23) (v:=undef) ?h1x23 aC ?h3x23 aC ?h5x23 (Or.inr ⟨?h6x23,rfl⟩) hHeld ?h8x23;case h1x23=>
        exact eD
       case h3x23=>kernel_rfl
       case h5x23=>exact fun _ _ _ h=>h
       case h6x23=>rfl
       (try simp only[Act.put,Yd,Ye,Yf])
       refine Zw (i:=13) (oi:=?oi24) (v:=undef) ?h1x24 aC ?h3x24 aC ?h5x24 (Or.inr ⟨?h6x24,rfl⟩) hHeld ?h8x24;case h1x24=>
        exact eD
       case h3x24=>kernel_rfl
       case h5x24=>exact fun _ _ _ h=>h
       case h6x24=>rfl
       (try simp only[Act.put,Yd,Ye,Yf])
       refine Zw (i:=14) (oi:=?oi25) (v:=undef) ?h1x25 aC ?h3x25 aC ?h5x25 (Or.inr ⟨?h6x25,rfl⟩) hHeld ?h8x25;case h1x25=>
        exact eD
       case h3x25=>kernel_rfl
       case h5x25=>exact fun _ _ _ h=>h
       case h6x25=>rfl
       (try simp only[Act.put,Yd,Ye,Yf])
       refine Zw (i:=15) (oi:=?oi26) (v:=undef) ?h1x26 aC ?h3x26 aC ?h5x26 (Or.inr ⟨?h6x26,rfl⟩) hHeld ?h8x26;case h1x26=>
        exact eD
       case h3x26=>kernel_rfl
       case h5x26=>exact fun _ _ _ h=>h
       case h6x26=>rfl
       (try simp only[Act.put,Yd,Ye,Yf])
       refine Zw (i:=16) (oi:=?oi27) (v:=undef) ?h1x27 aC ?h3x27 aC ?h5x27 (Or.inr ⟨?h6x27,rfl⟩) hHeld ?h8x27;case h1x27=>
        exact eD
       case h3x27=>kernel_rfl
       case h5x27=>exact fun _ _ _ h=>h
       case h6x27=>rfl
       (try simp only[Act.put,Yd,Ye,Yf])
       refine Zw (i:=17) (oi:=?oi28) (v:=undef) ?h1x28 aC ?h3x28 aC ?h5x28 (Or.inr ⟨?h6x28,rfl⟩) hHeld ?h8x28;case h1x28=>
        exact eD
       case h3x28=>kernel_rfl
       case h5x28=>exact fun _ _ _ h=>h
       case h6x28=>rfl
       (try simp only[Act.put,Yd,Ye,Yf])
       refine Zw (i:=18) (oi:=?oi29) (v:=?v29) ?h1x29 aC ?h3x29 aC ?h5x29 (Or.inl ⟨?h6x29,?h7x29⟩) hHeld ?h8x29;case h1x29=>
        exact eD
       case h3x29=>kernel_rfl
       case h5x29=>exact fun _ _ _ h=>h
       case h6x29=>rfl
       case h7x29=>
        exact jI
       (try simp only[Act.put,Yd,Ye,Yf])
       refine Xf (rs:=[19]) aC aG ?_;refine Zk aX (fun K hK=>?_) ?_
       . go_simp
         (go_at_call 145;refine(Cc.o _).mono ?_;rintro e Wn ⟨rfl,hq⟩;have Aw:=Hd (show Below w0.heap.size w0 Wn from by first|exact Bd.o.tr hq);have Nu:=Hd hq;have Dj:=(Aw.o.cell (p:=⟨sb,so,none⟩) Ab.o).trans a0;have Dm:=(Aw.o.cell (p:=⟨sb,so+1,none⟩) Ab.o).trans a1;have Dp:=(Aw.o.cell (p:=⟨sb,so+2,none⟩) Ab.o).trans a2;have Cw:=(Aw.o.cell (p:=⟨sb,so+3,none⟩) Ab.o).trans b0;have Cv:=(Aw.o.cell (p:=⟨sb,so+3+1,none⟩) Ab.o).trans b1;have Cx:=(Aw.o.cell (p:=⟨sb,so+3+2,none⟩) Ab.o).trans b2;have Ep:=(Aw.o.cell (p:=⟨sb,so+2*3,none⟩) Ab.o).trans c0;have Er:=(Aw.o.cell (p:=⟨sb,so+2*3+1,none⟩) Ab.o).trans c1;have Et:=(Aw.o.cell (p:=⟨sb,so+2*3+2,none⟩) Ab.o).trans c2;have Dn:=Hd (HR.o.below Aw.o);have s0:=Dn.o.cell 0;have s1:=Dn.o.cell 1;have s2:=Dn.o.cell 2;have fz:∀j,Wn.frozen? ⟨w.heap.size+1+1,j,none⟩=false:=(fun j=>frozen_of_row Wn _ j _ _ Dn.o);simp only[aF,List.getElem?_toArray,Yz,Zb]at s0 s1 s2;clear hq)
         go_wp2_with fail;refine hK.out _ _ ?_ (fun hHeld=>?_);· exact nD
         clear hK K
         (try simp only[Act.put,Yd,Ye,Yf])
         refine Zw (i:=20) (oi:=?oi30) (v:=?v30) ?h1x30 aC ?h3x30 aC ?h5x30 (Or.inl ⟨?h6x30,?h7x30⟩) hHeld ?h8x30;case h1x30=>
          exact eD
         case h3x30=>kernel_rfl
         case h5x30=>exact fun _ _ _ h=>h
         case h6x30=>rfl
         case h7x30=>
          exact jI
         (try simp only[Act.put,Yd,Ye,Yf])
         refine Zw (i:=21) (oi:=?oi31) (v:=?v31) ?h1x31 aC ?h3x31 aC ?h5x31 (Or.inl ⟨?h6x31,?h7x31⟩) hHeld ?h8x31;case h1x31=>
          exact eD
         case h3x31=>kernel_rfl
         case h5x31=>exact fun _ _ _ h=>h
         case h6x31=>rfl
         case h7x31=>
          exact jI
         (try simp only[Act.put,Yd,Ye,Yf])
         refine Xf (rs:=[22]) aC aG ?_;refine Zk aX (fun K hK=>?_) ?_
         . go_simp;refine hK.out _ _ ?_ (fun hHeld=>?_);· exact nD
           clear hK K
           (try simp only[Act.put,Yd,Ye,Yf])
           refine Zw (i:=23) (oi:=?oi32) (v:=?v32) ?h1x32 aC ?h3x32 aC ?h5x32 (Or.inl ⟨?h6x32,?h7x32⟩) hHeld ?h8x32;case h1x32=>
            exact eD
           case h3x32=>kernel_rfl
           case h5x32=>exact fun _ _ _ h=>h
           case h6x32=>rfl
           case h7x32=>
            exact jI
           exact aQs
         exact Zl
       exact Zl
     exact Zl
   exact Zl
 exact Zl
end
end Go.Proofs.YtkbpdoomhfkngaaGreat
