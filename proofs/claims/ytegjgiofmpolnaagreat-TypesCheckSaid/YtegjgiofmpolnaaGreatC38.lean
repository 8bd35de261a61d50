/- Parts of the proof: TrJ, TrK. Conditions: each theorem's own. -/
import Derived.Test.YtegjgiofmpolnaaGreatC37
namespace Go.Proofs.YtegjgiofmpolnaaGreat
set_option linter.unusedVariables false
set_option linter.unusedSimpArgs false
set_option maxRecDepth 100000
set_option maxHeartbeats 40000000
section
open Go.RowKit Go.Sort Go.BigFrame
def uR(p:Pg) (y:Ex) (ts:List T3):Option T3:=match fB p y ts with | none=>none | some j=>if(aA p j).outs.length=1 then some (aO ((aA p j).outs[0]?.getD default)) else none
theorem aOh(p:Pg) (x:Nd) (r:Rm) (y:Ex) (A:Option Addr) (ca:Nat) (B:Option Addr) (cb:Nat) (S:Option Addr) (m sc:Nat) (ts:List T3) (w:World) (h:cY w p x r) (hS:aM w S m ts) (hl:oQ S m sc) (hn:y.n=0\/y.n=1) (An:y.n<=m) (Ac:∀ j,j<p.ns.length->(aA p j).ins.length<=1000/\(aA p j).outs.length<=1000):
 Calls Tryz.prog 121 #[.agg (aT p x r),.agg (aE y A ca B cb),.slice S m sc] w (aZ w (uR p y ts)):=by
 have HF:=Hd fun w0 hw=>fL (w:=w) (w1:=w0) (cs:=aT p x r) (ds:=aE y A ca B cb) (T:=60) (U:=35) (V:=38) hw;have Ai:=Hd fun w1 (hb:Below w.heap.size w w1)=>aFl p x r y A ca B cb S m sc ts w1 (h.below hb) (hS.below hb) hl hn An Ac;have Ad:=Hd (show uR p y ts=match fB p y ts with | none=>none | some j=>if(aA p j).outs.length=1 then some (aO ((aA p j).outs[0]?.getD default)) else none from rfl);clear h hS hl hn An Ac;generalize uR p y ts=o at *;generalize fB p y ts=cp at *;unfold iO at Ai;unfold aT aE at *
 go_enter Tryz.func121,Tryz.ntmps121
 go_upto_region 1 with(fail)
 generalize Al:((w.alloc _).alloc _).alloc _=w0;obtain⟨Ar,As,Aj,Af,hR⟩:=HF.o w0 Al;have Aq:=Hd Ar;have HR:=Hd hR;obtain⟨q0,q1,q2,q3,q4,q5⟩:=Sx (Aj w0 (Yg _ _));have q6:=Aj w0 (Yg _ _) 6;obtain⟨r0,r1,r2,r3,r4,r5⟩:=Sx (Af w0 (Yg _ _));simp only [Ya,Yb,Yc] at q0 q1 q2 q3 q4 q5 q6 r0 r1 r2 r3 r4 r5;clear Al Ar As Aj Af hR HF
 go_wp2_with fail
 refine(Ai.o w0 Aq.o).mono ?_;rintro e w1 ⟨T1,n1,c1,us,rfl,Am,Ah⟩;have Ak:=Hd (aR Aq.o Ah);have Ab:=Hd (HR.o.below Ah);have HU:=Hd Am;clear Ah Am Ai q0 q1 q2 q3 q4 q5 q6 r0 r1 r2 r3 r4 r5
 cases cp with
 | none=>
  have HO:=Hd (show o=none from Ad.o)
  go_wp2_with (refine Zu rfl _ _ _ rfl (w.heap.size+1+1) _ rfl rfl _ _ Ab.o bM rfl (by simp [Value.oneCell']) ?_)
  exact Zt (aL (p:=6) (u:=7) rfl _ _ (w.heap.size+1+1) 0 0 0 rfl (Ab.o.set 0 0 0)) rfl (gE HO.o ⟨rfl,Xb Ak.o (by omega) _⟩)
 | some j=>
  obtain⟨Ae,Ag⟩:=HU.o _ rfl;have Aa:=Ag.len
  by_cases h1:n1=1
  . subst h1;have Ao:(aA p j).outs.length=1:=by rw [<- Ae,List.length_map] at Aa;exact Aa
    have HO:=Hd (show o=some (aB us 0) by
     rw [Ad.o];simp only;rw [if_pos Ao,<- Ae];unfold aB;rw [List.getElem?_map,Yk (by omega)];rfl)
    obtain⟨sb,so,rfl,Au,Ap⟩:=Ag.at_ (i:=0) (by omega);obtain⟨a0,a1,a2⟩:=Ap 0 (by omega);simp only [Nat.zero_mul,Nat.add_zero] at a0 a1 a2;clear Ae Ag Aa Ao Ap HU Ad;generalize aB us 0=tx at *;obtain⟨x0,x1,x2⟩:=tx
    dsimp only at a0 a1 a2
    go_wp2_with (refine Zu rfl _ _ _ rfl (w.heap.size+1+1) _ rfl rfl _ _ Ab.o bM rfl (by simp [Value.oneCell']) ?_)
    exact Zt (aL (p:=6) (u:=7) rfl _ _ (w.heap.size+1+1) x0 x1 x2 rfl (Ab.o.set x0 x1 x2)) rfl (kI HO.o ⟨rfl,Xb Ak.o (by omega) _⟩)
  . have HO:=Hd (show o=none by
     rw [Ad.o];simp only;rw [if_neg (by rw [<- Ae,List.length_map] at Aa;omega)])
    have hd:((n1:Int) != 1)=true:=by rw [bne_iff_ne];omega
    clear Ae Ag Aa HU Ad
    go_wp2_with (refine Zu rfl _ _ _ rfl (w.heap.size+1+1) _ rfl rfl _ _ Ab.o bM rfl (by simp [Value.oneCell']) ?_)
    exact Zt (aL (p:=6) (u:=7) rfl _ _ (w.heap.size+1+1) 0 0 0 rfl (Ab.o.set 0 0 0)) rfl (gE HO.o ⟨rfl,Xb Ak.o (by omega) _⟩)
theorem aOi(p:Pg) (x:Nd) (r:Rm) (y:Ex) (A:Option Addr) (ca:Nat) (B:Option Addr) (cb:Nat) (S:Option Addr) (m sc:Nat) (ts:List T3) (w:World) (h:cY w p x r) (hS:aM w S m ts) (hk:y.k=13) (hl:oQ S m sc) (hn:y.n=0\/y.n=1) (Ag:y.n<=m) (Ab:∀ j,j<p.ns.length->(aA p j).ins.length<=1000/\(aA p j).outs.length<=1000) (o:Option T3) (ho:uR p y ts=o):
 Calls Tryz.prog 80 #[.agg (aT p x r),.agg (aE y A ca B cb),.slice S m sc] w (aZ w o):=by
 have HF:=Hd fun w0 hw=>fL (w:=w) (w1:=w0) (cs:=aT p x r) (ds:=aE y A ca B cb) (T:=60) (U:=35) (V:=38) hw;have Aa:=Hd fun w1 (hb:Below w.heap.size w w1)=>aOh p x r y A ca B cb S m sc ts w1 (h.below hb) (hS.below hb) hl hn Ag Ab;have HZ:=Hd (show ∀ e w',(e=.returned (.tuple #[.agg (aC (o.getD (0,0,0)).1 (o.getD (0,0,0)).2.1 (o.getD (0,0,0)).2.2),.bool o.isSome])/\Below w.heap.size w w')->aZ w o e w' from fun e w' h=>h);rw [ho] at Aa;generalize aZ w o=Ak at *;unfold aZ at Aa;generalize o.isSome=os at *;generalize (o.getD (0,0,0)).1=x0 at *;generalize (o.getD (0,0,0)).2.1=x1 at *;generalize (o.getD (0,0,0)).2.2=x2 at *;unfold aC at Aa HZ;clear ho h hl hn Ag Ab;unfold aT aE at *;rw [hk] at HF Aa ⊢;clear hS
 go_enter Tryz.func80,Tryz.ntmps80
 go_upto_region 1 with(fail)
 generalize Af:((w.alloc _).alloc _).alloc _=w0;obtain⟨Aj,Al,Ae,Ac,hR⟩:=HF.o w0 Af;have Ai:=Hd Aj;have HR:=Hd hR;obtain⟨q0,q1,q2,q3,q4,q5⟩:=Sx (Ae w0 (Yg _ _));have q6:=Ae w0 (Yg _ _) 6;obtain⟨r0,r1,r2,r3,r4,r5⟩:=Sx (Ac w0 (Yg _ _));simp only [Ya,Yb,Yc] at q0 q1 q2 q3 q4 q5 q6 r0 r1 r2 r3 r4 r5;have An:w.heap.size≠w.heap.size+1+1:=by omega
 have Ao:w.heap.size+1≠w.heap.size+1+1:=by omega
 clear Af Al Ae Ac HF
 go_wp2_with fail
 refine(Aa.o w0 Ai.o).mono ?_;rintro e w1 ⟨rfl,Ad⟩;have Am:=Hd (aR Ai.o Ad);have Ah:=Hd (HR.o.below Ad);clear Ad Aa
 go_wp2_with (refine Zu rfl _ _ _ rfl (w.heap.size+1+1) _ rfl rfl _ _ Ah.o bM rfl (by simp [Value.oneCell']) ?_)
 exact Zt (aL (p:=6) (u:=7) rfl _ _ (w.heap.size+1+1) x0 x1 x2 rfl (Ah.o.set x0 x1 x2)) rfl (HZ.o _ _ ⟨rfl,Xb Am.o (by omega) _⟩)
theorem aOj(p:Pg) (x:Nd) (r:Rm) (y:Ex) (A:Option Addr) (ca:Nat) (B:Option Addr) (cb:Nat) (S:Option Addr) (m sc:Nat) (ts:List T3) (w:World) (h:cY w p x r) (hS:aM w S m ts) (hk:y.k=17) (o:Option T3) (ho:none=o):
 Calls Tryz.prog 80 #[.agg (aT p x r),.agg (aE y A ca B cb),.slice S m sc] w (aZ w o):=by
 have HF:=Hd fun w0 hw=>fL (w:=w) (w1:=w0) (cs:=aT p x r) (ds:=aE y A ca B cb) (T:=60) (U:=35) (V:=38) hw;have HO:=Hd ho.symm;clear ho h;unfold aT aE at *;rw [hk] at HF ⊢;clear hS
 go_enter Tryz.func80,Tryz.ntmps80
 go_upto_region 1 with(fail)
 generalize Ab:((w.alloc _).alloc _).alloc _=w0;obtain⟨Ac,Ad,Af,Aa,hR⟩:=HF.o w0 Ab;have Ae:=Hd Ac;have HR:=Hd hR;have r0:=Aa w0 (Yg _ _) 0;simp only [Ya,Yb,Yc] at r0;have Ag:w.heap.size≠w.heap.size+1+1:=by omega
 have Ah:w.heap.size+1≠w.heap.size+1+1:=by omega
 clear Ab Ad Af Aa hR HF
 go_wp2_with (refine Zu rfl _ _ _ rfl (w.heap.size+1+1) _ rfl rfl _ _ HR.o bM rfl (by simp [Value.oneCell']) ?_)
 exact Zt (aL (p:=6) (u:=7) rfl _ _ (w.heap.size+1+1) 0 0 0 rfl (HR.o.set 0 0 0)) rfl (gE HO.o ⟨rfl,Xb Ae.o (by omega) _⟩)
theorem aQ5{ts:List T3}(h:0<ts.length):dV ((aB ts 0).1,(aB ts 0).2.1,0) ts=(dH ts && decide ((aB ts 0).2.2=0)):=by
 by_cases hz:(aB ts 0).2.2=0
 . rw [Zx hz,Bool.and_true,aLb]
   congr 1
   rw [<- hz]
 . rw [Zy hz,Bool.and_false];exact aEw h fun e=>hz (by rw [e])
theorem aOk(p:Pg) (x:Nd) (r:Rm) (y:Ex) (A:Option Addr) (ca:Nat) (B:Option Addr) (cb:Nat) (S:Option Addr) (m sc:Nat) (ts:List T3) (w:World) (h:cY w p x r) (hS:aM w S m ts) (hk:y.k=14) (hm:1<=m) (o:Option T3) (ho:(if(dH ts && decide ((aB ts 0).2.2=0))=true then some ((aB ts 0).1,(aB ts 0).2.1,(ts.length:Int)) else none)=o):
 Calls Tryz.prog 80 #[.agg (aT p x r),.agg (aE y A ca B cb),.slice S m sc] w (aZ w o):=by
 have HF:=Hd fun w0 hw=>fL (w:=w) (w1:=w0) (cs:=aT p x r) (ds:=aE y A ca B cb) (T:=60) (U:=35) (V:=38) hw;have Au:=hS;have Aq:=hS.len;have Bj:=hS.max;obtain⟨sb,so,rfl,Ag,Ar⟩:=hS.at_ (i:=0) (by omega);obtain⟨a0,a1,a2⟩:=Ar 0 (by omega);simp only [Nat.zero_mul,Nat.add_zero] at a0 a1 a2;rw [<- aQ5 (by omega),Aq] at ho;have Am:=Hd fun w1 (hb:Below w.heap.size w w1)=>kS (aB ts 0).1 (aB ts 0).2.1 0 (some ⟨sb,so,none⟩) m sc ts w1 (Au.below hb);have An:=Hd fun w1=>zC (aB ts 0).1 (aB ts 0).2.1 (m:Int) w1;unfold aC at Am;unfold aK at An;generalize dV ((aB ts 0).1,(aB ts 0).2.1,0) ts=al at *;generalize Bf:aB ts 0=tx at *;obtain⟨x0,x1,x2⟩:=tx
 dsimp only at a0 a1 a2
 have HO:=Hd ho.symm;clear ho h Au Aq;unfold aT aE at *;rw [hk] at HF ⊢;clear hS Ar
 go_enter Tryz.func80,Tryz.ntmps80
 go_upto_region 1 with(fail)
 generalize Ap:((w.alloc _).alloc _).alloc _=w0;obtain⟨Ah,Bb,Be,Ae,hR⟩:=HF.o w0 Ap;have Aa:=Hd Ah;have HR:=Hd hR;have r0:=Ae w0 (Yg _ _) 0;simp only [Ya,Yb,Yc] at r0;have a0:=(Ah.cell (p:=⟨sb,so,none⟩) Ag).trans a0;have a1:=(Ah.cell (p:=⟨sb,so+1,none⟩) Ag).trans a1;have a2:=(Ah.cell (p:=⟨sb,so+2,none⟩) Ag).trans a2;have Bk:0<m:=by omega
 have Bl:sb≠w.heap.size+1+1:=by omega
 have Bc:sb<w0.heap.size:=Yr Ag Aa.o.size;have Bi:w.heap.size≠w.heap.size+1+1:=by omega
 have Bm:w.heap.size+1≠w.heap.size+1+1:=by omega
 clear Ap Bb Be Ae hR HF
 go_upto_region 23 with(fail)
 generalize Av:w0.alloc _=w1;obtain⟨Ai,Af,Bg⟩:=gM Av;have Ba:=Hd (aR Aa.o Ai);have Ay:=Hd (HR.o.below Ai);have Bh:=HR.o.lt;have q2:=Af.cell 2;simp only [aC,List.getElem?_toArray,Yz,Zb] at q2;have fz:=frozen_of_row w1 w0.heap.size 2 _ _ Af;have Ak:=Hd Af;have Az:=Hd (show w.heap.size+1+1≠w0.heap.size by omega);have Bd:w.heap.size<=w0.heap.size:=Aa.o.size;clear Av Ai Af a0 a1 a2
 go_upto_region 24 with(fail)
 generalize hg:w0.heap.size=g at *;generalize Ao:w1.setCell ⟨g,2,none⟩ (.int .i64 (m:Int))=w2;rw [Xd _ _ _ _ _ _ _ Ak.o,show(aC x0 x1 x2).setIfInBounds 2 (.int .i64 (m:Int))=aC x0 x1 m from rfl] at Ao
 have h2:F3 38 w2 g x0 x1 m/\F3 38 w2 (w.heap.size+1+1) 0 0 0/\Below w.heap.size w w2:=by
  rw [<- Ao];exact⟨Ak.o.set _ _ _,(setRow_other _ _ _ _ Az.o).trans Ay.o,Xb Ba.o Bd _⟩
 obtain⟨Ax,Aw,As⟩:=h2;have HR:=Hd Aw;have Aa:=Hd As;obtain⟨d0,d1,d2,-,-,-⟩:=Sx Ax.cell;simp only [aC,List.getElem?_toArray,Yz,Zb] at d0 d1 d2;have Ac:g≠w.heap.size+1+1:=Ne.symm Az.o;have Ab:=Hd fun(so:Bool) w1=>gZ x0 x1 m so w1;unfold aZ aC at Ab;clear Ao Ax Aw As q2 fz Ak Ay Ba
 cases al with
 | false=>
  have HO:=Hd (show o=none from HO.o);have Ad:=Hd fun w1=>Ab.o false w1;simp only [Yy,if_false,if_true,Option.getD_none,Yt,Option.isSome_none,Option.isSome_some] at Ad;refine bZ (l1:=[_,_,_,_,_,_,_,_]) (os:=_) (l2:=[_]) (p:=6) (tx:=168) (r:=w.heap.size+1+1) (T:=38) (zc:=aC 0 0 0) (by kernel_rfl) (by kernel_rfl) rfl HR.o rfl bW ?_
  repeat
   apply bR rfl (by simp)
   case h1=>
    intro wb hb;have l0:=fun d os=>Zr (aD hb Ac d0) d os;have l1:=fun d os=>Zr (aD hb Ac d1) d os;have l2:=fun d os=>Zr (aD hb Ac d2) d os;have cA:=fun d os=>Zh (An.o (grow (redrawn wb d) os));have cB:=fun d os=>Zh (Am.o (grow (redrawn wb d) os) (aR (bF hb Aa.o (Yh _) (by omega)) (Zs wb d os)));have cC:=fun d os=>Zh (Ad.o (grow (redrawn wb d) os))
    go_big_quiet_step (first | with_reducible exact cA _ _ | with_reducible exact cB _ _ | with_reducible exact cC _ _)
    refine Xf ?_;simp only [List.getElem?_toArray,Zb,Yz];exact rfl
   simp only [Act.put,Yd,Ye,Yf]
  refine⟨aC 0 0 0,rfl,rfl,by simp [aC,Value.oneCell'],fun W hB hz=>?_⟩;have Aj:=Hd (bF hB Aa.o (Yh _) (by omega));have Al:=Hd hz;clear hB hz
  go_wp2_with fail
  exact Zt (aL (p:=6) (u:=7) rfl _ _ (w.heap.size+1+1) 0 0 0 rfl Al.o) rfl (gE HO.o ⟨rfl,Aj.o⟩)
 | true=>
  have HO:=Hd (show o=some (x0,x1,(m:Int)) from HO.o);have Ad:=Hd fun w1=>Ab.o true w1;simp only [Yy,if_false,if_true,Option.getD_none,Yt,Option.isSome_none,Option.isSome_some] at Ad;refine bZ (l1:=[_,_,_,_,_,_,_,_]) (os:=_) (l2:=[_]) (p:=6) (tx:=168) (r:=w.heap.size+1+1) (T:=38) (zc:=aC 0 0 0) (by kernel_rfl) (by kernel_rfl) rfl HR.o rfl bW ?_
  repeat
   apply bR rfl (by simp)
   case h1=>
    intro wb hb;have l0:=fun d os=>Zr (aD hb Ac d0) d os;have l1:=fun d os=>Zr (aD hb Ac d1) d os;have l2:=fun d os=>Zr (aD hb Ac d2) d os;have cA:=fun d os=>Zh (An.o (grow (redrawn wb d) os));have cB:=fun d os=>Zh (Am.o (grow (redrawn wb d) os) (aR (bF hb Aa.o (Yh _) (by omega)) (Zs wb d os)));have cC:=fun d os=>Zh (Ad.o (grow (redrawn wb d) os))
    go_big_quiet_step (first | with_reducible exact cA _ _ | with_reducible exact cB _ _ | with_reducible exact cC _ _)
    refine Xf ?_;simp only [List.getElem?_toArray,Zb,Yz];exact rfl
   simp only [Act.put,Yd,Ye,Yf]
  refine⟨aC x0 x1 m,rfl,rfl,by simp [aC,Value.oneCell'],fun W hB hz=>?_⟩;have Aj:=Hd (bF hB Aa.o (Yh _) (by omega));have Al:=Hd hz;clear hB hz
  go_wp2_with fail
  exact Zt (aL (p:=6) (u:=7) rfl _ _ (w.heap.size+1+1) x0 x1 m rfl Al.o) rfl (kI HO.o ⟨rfl,Aj.o⟩)
end
section
open Go.RowKit Go.Sort Go.BigFrame
theorem aI(w:World) (p:Addr):w.drew.cell? p=w.cell? p:=rfl
theorem aH(w:World) (o:Obj) (p:Addr) (h:p.block<w.heap.size):(w.alloc o).drew.cell? p=w.cell? p:=Yj w o p h
theorem aQ6(p:Pg) (x:Nd) (r:Rm) (y:Ex) (A:Option Addr) (ca:Nat) (B:Option Addr) (cb:Nat) (S:Option Addr) (m sc:Nat) (ts:List T3) (w:World) (h:cY w p x r) (hS:aM w S m ts) (hk:y.k=9) (hm:2<=m) (o:Option T3) (ho:(if aB ts 0=aB ts 1 then some (aB ts 0) else none)=o):
 Calls Tryz.prog 80 #[.agg (aT p x r),.agg (aE y A ca B cb),.slice S m sc] w (aZ w o):=by
 have HF:=Hd fun w0 hw=>fL (w:=w) (w1:=w0) (cs:=aT p x r) (ds:=aE y A ca B cb) (T:=60) (U:=35) (V:=38) hw;obtain⟨sb,so,rfl,As,Az⟩:=hS.at_ (i:=0) (by omega);obtain⟨a0,a1,a2⟩:=Az 0 (by omega);obtain⟨b0,b1,b2⟩:=Az 1 (by omega);simp only [Nat.zero_mul,Nat.add_zero,Nat.one_mul] at a0 a1 a2 b0 b1 b2;have Ax:=Hd fun(ad:Option Addr) w1 (hr:aM w1 ad 1 [aB ts 1])=>kS (aB ts 0).1 (aB ts 0).2.1 (aB ts 0).2.2 ad 1 1 [aB ts 1] w1 hr;have Be:dV ((aB ts 0).1,(aB ts 0).2.1,(aB ts 0).2.2) [aB ts 1]=decide (aB ts 1=aB ts 0):=nZ _ _;rw [Be] at Ax
 have Bf:(if decide (aB ts 1=aB ts 0)=true then some (aB ts 0) else none)=o:=by
  rw [<- ho]
  by_cases he:aB ts 0=aB ts 1
  . rw [if_pos he,if_pos (Zx he.symm)]
  . rw [if_neg he,if_neg (by simpa using fun e=>he e.symm)]
 unfold aC at Ax;generalize decide (aB ts 1=aB ts 0)=ab at *;have Bo:(0:Int)<(m:Int):=by omega
 have Bn:(1:Int)<(m:Int):=by omega
 generalize Bk:aB ts 0=tx at *;generalize Bm:aB ts 1=ty at *;obtain⟨x0,x1,x2⟩:=tx;obtain⟨y0,y1,y2⟩:=ty
 dsimp only at a0 a1 a2 b0 b1 b2
 have HO:=Hd Bf.symm;clear ho Bf h Be;unfold aT aE at *;rw [hk] at HF ⊢;clear hS Az
 go_enter Tryz.func80,Tryz.ntmps80
 go_upto_region 1 with(fail)
 generalize Bd:((w.alloc _).alloc _).alloc _=w0;obtain⟨Av,Bg,Bh,Aw,hR⟩:=HF.o w0 Bd;have Ba:=Hd Av;have HR:=Hd hR;have r0:=Aw w0 (Yg _ _) 0;simp only [Ya,Yb,Yc] at r0;have a0:=(Av.cell (p:=⟨sb,so,none⟩) As).trans a0;have a1:=(Av.cell (p:=⟨sb,so+1,none⟩) As).trans a1;have a2:=(Av.cell (p:=⟨sb,so+2,none⟩) As).trans a2;have b0:=(Av.cell (p:=⟨sb,so+3,none⟩) As).trans b0;have b1:=(Av.cell (p:=⟨sb,so+3+1,none⟩) As).trans b1;have b2:=(Av.cell (p:=⟨sb,so+3+2,none⟩) As).trans b2;have Bq:0<m:=by omega
 have Bl:1<m:=by omega
 have Ak:sb≠w.heap.size+1+1:=by omega
 have Bc:sb<w0.heap.size:=Yr As Ba.o.size;have Bp:w.heap.size≠w.heap.size+1+1:=by omega
 have Br:w.heap.size+1≠w.heap.size+1+1:=by omega
 clear Bd Bg Bh Aw hR HF;have Aa:=Hd Bc
 cases ab with
 | false=>
  have HO:=Hd (show o=none from HO.o);have Au:=Hd fun w1=>gZ x0 x1 x2 false w1;unfold aZ aC at Au;simp only [Yy,if_false,if_true,Option.getD_none,Yt,Option.isSome_none,Option.isSome_some] at Au
  go_upto_region 12 with(fail)
  go_region_held3 (fun W=>W.cell? ⟨sb,so,none⟩=some (.int .i64 x0)/\W.cell? ⟨sb,so+1,none⟩=some (.int .i64 x1)/\W.cell? ⟨sb,so+2,none⟩=some (.int .i64 x2)/\W.cell? ⟨sb,so+3,none⟩=some (.int .i64 y0)/\W.cell? ⟨sb,so+3+1,none⟩=some (.int .i64 y1)/\W.cell? ⟨sb,so+3+2,none⟩=some (.int .i64 y2)) (first | with_reducible exact⟨a0,a1,a2,b0,b1,b2⟩ | with_reducible exact⟨(aI _ _).trans a0,(aI _ _).trans a1,(aI _ _).trans a2,(aI _ _).trans b0,(aI _ _).trans b1,(aI _ _).trans b2⟩ | with_reducible exact⟨(aH _ _ _ Aa.o).trans a0,(aH _ _ _ Aa.o).trans a1,(aH _ _ _ Aa.o).trans a2,(aH _ _ _ Aa.o).trans b0,(aH _ _ _ Aa.o).trans b1,(aH _ _ _ Aa.o).trans b2⟩ | with_reducible exact⟨(Yj _ _ _ Aa.o).trans a0,(Yj _ _ _ Aa.o).trans a1,(Yj _ _ _ Aa.o).trans a2,(Yj _ _ _ Aa.o).trans b0,(Yj _ _ _ Aa.o).trans b1,(Yj _ _ _ Aa.o).trans b2⟩ | with_reducible exact⟨Am,Al,Ap,Aq,Ao,An⟩ | with_reducible exact⟨(Yj _ _ _ (Yr Aa.o Ac.o.size)).trans Am,(Yj _ _ _ (Yr Aa.o Ac.o.size)).trans Al,(Yj _ _ _ (Yr Aa.o Ac.o.size)).trans Ap,(Yj _ _ _ (Yr Aa.o Ac.o.size)).trans Aq,(Yj _ _ _ (Yr Aa.o Ac.o.size)).trans Ao,(Yj _ _ _ (Yr Aa.o Ac.o.size)).trans An⟩ | with_reducible exact⟨Ae,Af,Ad,Ai,Ah,Ag⟩ | with_reducible exact⟨(Yj _ _ _ (Yr Aa.o Ab.o.size)).trans Ae,(Yj _ _ _ (Yr Aa.o Ab.o.size)).trans Af,(Yj _ _ _ (Yr Aa.o Ab.o.size)).trans Ad,(Yj _ _ _ (Yr Aa.o Ab.o.size)).trans Ai,(Yj _ _ _ (Yr Aa.o Ab.o.size)).trans Ah,(Yj _ _ _ (Yr Aa.o Ab.o.size)).trans Ag⟩ | with_reducible exact⟨(aG Ak).trans Ae,(aG Ak).trans Af,(aG Ak).trans Ad,(aG Ak).trans Ai,(aG Ak).trans Ah,(aG Ak).trans Ag⟩)
   ((first
     | (go_at_call 87;refine(Ax.o _ _ (by exact(aM.lit w0 y0 y1 y2 38).drew)).mono ?_;rintro e Wl ⟨rfl,hq⟩;have Ac:=Hd (show Below w0.heap.size w0 Wl from by first | exact(((Yg w0.heap.size w0).alloc (Yh _) (.cells #[.int .i64 y0,.int .i64 y1,.int .i64 y2] 38)).drew).trans (hq.mono (by simp)));have Bj:=Hd hq;have Am:=(Ac.o.cell (p:=⟨sb,so,none⟩) Aa.o).trans a0;have Al:=(Ac.o.cell (p:=⟨sb,so+1,none⟩) Aa.o).trans a1;have Ap:=(Ac.o.cell (p:=⟨sb,so+2,none⟩) Aa.o).trans a2;have Aq:=(Ac.o.cell (p:=⟨sb,so+3,none⟩) Aa.o).trans b0;have Ao:=(Ac.o.cell (p:=⟨sb,so+3+1,none⟩) Aa.o).trans b1;have An:=(Ac.o.cell (p:=⟨sb,so+3+2,none⟩) Aa.o).trans b2;clear hq)
     | (go_at_call 118;refine(Au.o Wl).mono ?_;rintro e Wn ⟨rfl,hq⟩;have Ab:=Hd (show Below w0.heap.size w0 Wn from by first | exact Ac.o.trans (hq.mono Ac.o.size));have Bi:=Hd hq;have Ae:=(Ab.o.cell (p:=⟨sb,so,none⟩) Aa.o).trans a0;have Af:=(Ab.o.cell (p:=⟨sb,so+1,none⟩) Aa.o).trans a1;have Ad:=(Ab.o.cell (p:=⟨sb,so+2,none⟩) Aa.o).trans a2;have Ai:=(Ab.o.cell (p:=⟨sb,so+3,none⟩) Aa.o).trans b0;have Ah:=(Ab.o.cell (p:=⟨sb,so+3+1,none⟩) Aa.o).trans b1;have Ag:=(Ab.o.cell (p:=⟨sb,so+3+2,none⟩) Aa.o).trans b2;have Aj:=Hd (HR.o.below Ab.o);have z0:=Aj.o.cell 0;have z1:=Aj.o.cell 1;have z2:=Aj.o.cell 2;have fz:∀ j,Wn.frozen? ⟨w.heap.size+1+1,j,none⟩=false:=(fun j=>frozen_of_row Wn _ j _ _ Aj.o);simp only [aC,List.getElem?_toArray,Yz,Zb] at z0 z1 z2;clear hq)))
  all_goals
   generalize Ar:World.setCell _ _ _=wz;rw [fX Aj.o] at Ar;have Ay:=Hd (show F3 38 wz (w.heap.size+1+1) 0 0 0 by rw [<- Ar];exact Aj.o.set _ _ _);have Bb:=Hd (show Below w.heap.size w wz by rw [<- Ar];exact Xb (aR Ba.o Ab.o) (by omega) _);clear Ar
   go_wp2_with fail
   exact Zt (aL (p:=6) (u:=7) rfl _ _ (w.heap.size+1+1) 0 0 0 rfl Ay.o) rfl (gE HO.o ⟨rfl,Bb.o⟩)
 | true=>
  have HO:=Hd (show o=some (x0,x1,x2) from HO.o);have Au:=Hd fun w1=>gZ x0 x1 x2 true w1;unfold aZ aC at Au;simp only [Yy,if_false,if_true,Option.getD_none,Yt,Option.isSome_none,Option.isSome_some] at Au
  go_upto_region 12 with(fail)
  go_region_held3 (fun W=>W.cell? ⟨sb,so,none⟩=some (.int .i64 x0)/\W.cell? ⟨sb,so+1,none⟩=some (.int .i64 x1)/\W.cell? ⟨sb,so+2,none⟩=some (.int .i64 x2)/\W.cell? ⟨sb,so+3,none⟩=some (.int .i64 y0)/\W.cell? ⟨sb,so+3+1,none⟩=some (.int .i64 y1)/\W.cell? ⟨sb,so+3+2,none⟩=some (.int .i64 y2)) (first | with_reducible exact⟨a0,a1,a2,b0,b1,b2⟩ | with_reducible exact⟨(aI _ _).trans a0,(aI _ _).trans a1,(aI _ _).trans a2,(aI _ _).trans b0,(aI _ _).trans b1,(aI _ _).trans b2⟩ | with_reducible exact⟨(aH _ _ _ Aa.o).trans a0,(aH _ _ _ Aa.o).trans a1,(aH _ _ _ Aa.o).trans a2,(aH _ _ _ Aa.o).trans b0,(aH _ _ _ Aa.o).trans b1,(aH _ _ _ Aa.o).trans b2⟩ | with_reducible exact⟨(Yj _ _ _ Aa.o).trans a0,(Yj _ _ _ Aa.o).trans a1,(Yj _ _ _ Aa.o).trans a2,(Yj _ _ _ Aa.o).trans b0,(Yj _ _ _ Aa.o).trans b1,(Yj _ _ _ Aa.o).trans b2⟩ | with_reducible exact⟨Am,Al,Ap,Aq,Ao,An⟩ | with_reducible exact⟨(Yj _ _ _ (Yr Aa.o Ac.o.size)).trans Am,(Yj _ _ _ (Yr Aa.o Ac.o.size)).trans Al,(Yj _ _ _ (Yr Aa.o Ac.o.size)).trans Ap,(Yj _ _ _ (Yr Aa.o Ac.o.size)).trans Aq,(Yj _ _ _ (Yr Aa.o Ac.o.size)).trans Ao,(Yj _ _ _ (Yr Aa.o Ac.o.size)).trans An⟩ | with_reducible exact⟨Ae,Af,Ad,Ai,Ah,Ag⟩ | with_reducible exact⟨(Yj _ _ _ (Yr Aa.o Ab.o.size)).trans Ae,(Yj _ _ _ (Yr Aa.o Ab.o.size)).trans Af,(Yj _ _ _ (Yr Aa.o Ab.o.size)).trans Ad,(Yj _ _ _ (Yr Aa.o Ab.o.size)).trans Ai,(Yj _ _ _ (Yr Aa.o Ab.o.size)).trans Ah,(Yj _ _ _ (Yr Aa.o Ab.o.size)).trans Ag⟩ | with_reducible exact⟨(aG Ak).trans Ae,(aG Ak).trans Af,(aG Ak).trans Ad,(aG Ak).trans Ai,(aG Ak).trans Ah,(aG Ak).trans Ag⟩)
   ((first
     | (go_at_call 87;refine(Ax.o _ _ (by exact(aM.lit w0 y0 y1 y2 38).drew)).mono ?_;rintro e Wl ⟨rfl,hq⟩;have Ac:=Hd (show Below w0.heap.size w0 Wl from by first | exact(((Yg w0.heap.size w0).alloc (Yh _) (.cells #[.int .i64 y0,.int .i64 y1,.int .i64 y2] 38)).drew).trans (hq.mono (by simp)));have Bj:=Hd hq;have Am:=(Ac.o.cell (p:=⟨sb,so,none⟩) Aa.o).trans a0;have Al:=(Ac.o.cell (p:=⟨sb,so+1,none⟩) Aa.o).trans a1;have Ap:=(Ac.o.cell (p:=⟨sb,so+2,none⟩) Aa.o).trans a2;have Aq:=(Ac.o.cell (p:=⟨sb,so+3,none⟩) Aa.o).trans b0;have Ao:=(Ac.o.cell (p:=⟨sb,so+3+1,none⟩) Aa.o).trans b1;have An:=(Ac.o.cell (p:=⟨sb,so+3+2,none⟩) Aa.o).trans b2;clear hq)
     | (go_at_call 118;refine(Au.o Wl).mono ?_;rintro e Wn ⟨rfl,hq⟩;have Ab:=Hd (show Below w0.heap.size w0 Wn from by first | exact Ac.o.trans (hq.mono Ac.o.size));have Bi:=Hd hq;have Ae:=(Ab.o.cell (p:=⟨sb,so,none⟩) Aa.o).trans a0;have Af:=(Ab.o.cell (p:=⟨sb,so+1,none⟩) Aa.o).trans a1;have Ad:=(Ab.o.cell (p:=⟨sb,so+2,none⟩) Aa.o).trans a2;have Ai:=(Ab.o.cell (p:=⟨sb,so+3,none⟩) Aa.o).trans b0;have Ah:=(Ab.o.cell (p:=⟨sb,so+3+1,none⟩) Aa.o).trans b1;have Ag:=(Ab.o.cell (p:=⟨sb,so+3+2,none⟩) Aa.o).trans b2;have Aj:=Hd (HR.o.below Ab.o);have z0:=Aj.o.cell 0;have z1:=Aj.o.cell 1;have z2:=Aj.o.cell 2;have fz:∀ j,Wn.frozen? ⟨w.heap.size+1+1,j,none⟩=false:=(fun j=>frozen_of_row Wn _ j _ _ Aj.o);simp only [aC,List.getElem?_toArray,Yz,Zb] at z0 z1 z2;clear hq)))
  all_goals
   generalize Ar:World.setCell _ _ _=wz;rw [fX Aj.o] at Ar;have Ay:=Hd (show F3 38 wz (w.heap.size+1+1) x0 x1 x2 by rw [<- Ar];exact Aj.o.set _ _ _);have Bb:=Hd (show Below w.heap.size w wz by rw [<- Ar];exact Xb (aR Ba.o Ab.o) (by omega) _);clear Ar
   go_wp2_with fail
   exact Zt (aL (p:=6) (u:=7) rfl _ _ (w.heap.size+1+1) x0 x1 x2 rfl Ay.o) rfl (kI HO.o ⟨rfl,Bb.o⟩)
end
end Go.Proofs.YtegjgiofmpolnaaGreat
