/- Parts of the proof: TrH, TrI. Conditions: each theorem's own. -/
import Derived.Test.YtegjgiofmpolnaaGreatC29
import Derived.Test.YtegjgiofmpolnaaGreatC36
namespace Go.Proofs.YtegjgiofmpolnaaGreat
set_option linter.unusedVariables false
set_option linter.unusedSimpArgs false
set_option maxRecDepth 100000
set_option maxHeartbeats 40000000
section
open Go.RowKit Go.Sort Go.BigFrame
theorem aFl(p:Pg) (x:Nd) (r:Rm) (y:Ex) (A:Option Addr) (ca:Nat) (B:Option Addr) (cb:Nat) (S:Option Addr) (m sc:Nat) (ts:List T3) (w:World) (h:cY w p x r) (hS:aM w S m ts) (hl:oQ S m sc) (hn:y.n=0\/y.n=1) (Ab:y.n<=m) (Aa:∀ j,j<p.ns.length->(aA p j).ins.length<=1000/\(aA p j).outs.length<=1000):
 Calls Tryz.prog 102 #[.agg (aT p x r),.agg (aE y A ca B cb),.slice S m sc] w (iO w ((fB p y ts).map fun j=>(aA p j).outs.map aO)):=by
 rw [<- aQ1 hn (by rw [hS.len];exact Ab)];obtain⟨q,hq,Ac⟩:∃ q:Nat,y.n=(q:Int)/\q<=1:=⟨y.n.toNat,by omega,by omega⟩;rcases hl.2.2 with⟨rfl,rfl,rfl⟩|⟨b,off,rfl⟩
 . exact aLk p x r y A ca B cb ts w h hS (by rw [hq] at Ab ⊢;congr 1;omega) Aa
 . exact aI2 p x r y A ca B cb b off m (m-q) q sc ts w h hS (by omega) hl.1 hl.2.1 hq Ac Aa
theorem aM.drew{w:World}{A:Option Addr}{n:Nat}{l:List T3}(h:aM w A n l):aM w.drew A n l:=h.below (Below.drew (Yg _ _))
def mX(ts:List T3):Bool:=decide (0<(aB ts 0).2.2) && kM (aB ts 1)
theorem xO(S:Option Addr) (m sc:Nat) (ts:List T3) (w:World) (hS:aM w S m ts) (hm:2<=m):
 Calls Tryz.prog 123 #[.slice S m sc] w fun e w'=>e=.returned (.bool (mX ts))/\Below w.heap.size w w':=by
 obtain⟨sb,so,rfl,Ak,Ag⟩:=hS.at_ (i:=0) (by omega);obtain⟨a0,a1,a2⟩:=Ag 0 (by omega);obtain⟨b0,b1,b2⟩:=Ag 1 (by omega);simp only [Nat.zero_mul,Nat.add_zero,Nat.one_mul] at a0 a1 a2 b0 b1 b2;have HO:=Hd (show mX ts=(decide (0<(aB ts 0).2.2) && dV (1,0,0) [aB ts 1]) by rw [nZ];rfl);have Ai:=Hd qI;have Ah:=Hd fun(ad:Option Addr) w1 (hr:aM w1 ad 1 [aB ts 1])=>kS 1 0 0 ad 1 1 [aB ts 1] w1 hr;unfold aC at Ai Ah;generalize mX ts=Aj at *;have Ao:0<m:=by omega
 have An:1<m:=by omega
 have Ar:(0:Int)<(m:Int):=by omega
 have Ap:(1:Int)<(m:Int):=by omega
 generalize Am:aB ts 0=tx at *;generalize Aq:aB ts 1=ty at *;obtain⟨x0,x1,x2⟩:=tx;obtain⟨y0,y1,y2⟩:=ty
 dsimp only at a0 a1 a2 b0 b1 b2
 have Aa:=Hd Ak;clear hS Ag hm;generalize dV (1,0,0) [(y0,y1,y2)]=ab at *
 by_cases hz:0<x2
 . have hd:decide (0<x2)=true:=Zx hz;have HO:=Hd (show Aj=ab by rw [HO.o,hd,Bool.true_and]);have HL:=Hd (fun(w1:World)=>aM.lit w1 y0 y1 y2 38)
   go_enter Tryz.func123,Tryz.ntmps123
   go_wp2_with fail
   go_region_held3 (fun W=>W.cell? ⟨sb,so+2,none⟩=some (.int .i64 x2)/\W.cell? ⟨sb,so+3,none⟩=some (.int .i64 y0)/\W.cell? ⟨sb,so+3+1,none⟩=some (.int .i64 y1)/\W.cell? ⟨sb,so+3+2,none⟩=some (.int .i64 y2))
    (first | exact⟨a2,b0,b1,b2⟩ | exact⟨k0,k1,k2,k3⟩ | exact⟨m0,m1,m2,m3⟩ | exact⟨(Yj _ _ _ Aa.o).trans a2,(Yj _ _ _ Aa.o).trans b0,(Yj _ _ _ Aa.o).trans b1,(Yj _ _ _ Aa.o).trans b2⟩ | exact⟨(Yj _ _ _ Ae.o).trans k0,(Yj _ _ _ Ae.o).trans k1,(Yj _ _ _ Ae.o).trans k2,(Yj _ _ _ Ae.o).trans k3⟩)
    ((first
      | (go_at_call 119;refine(Ai.o 1 _).mono ?_;rintro e Wa ⟨rfl,Ad⟩;have Ab:=Hd (show Below w.heap.size w Wa from by first | exact(aY (Yg w.heap.size w) 1).trans (Ad.mono (Yh _)) | exact(((Yg w.heap.size w).alloc (Yh _) (.cells #[.int .i64 y0,.int .i64 y1,.int .i64 y2] 38)).drew).trans (Ad.mono (by simp)));have Ae:=Hd (Yr Aa.o Ab.o.size);have k0:=(Ab.o.cell (p:=⟨sb,so+2,none⟩) Aa.o).trans a2;have k1:=(Ab.o.cell (p:=⟨sb,so+3,none⟩) Aa.o).trans b0;have k2:=(Ab.o.cell (p:=⟨sb,so+3+1,none⟩) Aa.o).trans b1;have k3:=(Ab.o.cell (p:=⟨sb,so+3+2,none⟩) Aa.o).trans b2;have Al:=Hd Ad;clear Ad)
      | (go_at_call 87;refine(Ah.o _ _ (by first | exact aM.lit Wa y0 y1 y2 38 | exact((aM.lit w y0 y1 y2 38).drew).below Al.o)).mono ?_;rintro e Wb ⟨rfl,Af⟩;have Ac:=Hd (show Below w.heap.size w Wb from by first | exact Ab.o.trans (Af.mono Ab.o.size) | exact(Ab.o.alloc Ab.o.size (.cells #[.int .i64 y0,.int .i64 y1,.int .i64 y2] 38)).trans (Af.mono (by have:=Ab.o.size;simp;omega)));have m0:=(Ac.o.cell (p:=⟨sb,so+2,none⟩) Aa.o).trans a2;have m1:=(Ac.o.cell (p:=⟨sb,so+3,none⟩) Aa.o).trans b0;have m2:=(Ac.o.cell (p:=⟨sb,so+3+1,none⟩) Aa.o).trans b1;have m3:=(Ac.o.cell (p:=⟨sb,so+3+2,none⟩) Aa.o).trans b2;clear Af)))
   all_goals
    go_wp2_with fail
    go_ret
    exact⟨aF HO.o.symm,Ac.o⟩
 . have hd:decide (0<x2)=false:=Zy hz;have HO:=Hd (show Aj=false by rw [HO.o,hd];rfl)
   go_enter Tryz.func123,Tryz.ntmps123
   go_wp2_with fail
   go_quiet (fail)
   go_wp2_with fail
   go_ret
   exact⟨aF HO.o.symm,aY (Yg _ _) _⟩
end
section
open Go.RowKit Go.Sort Go.BigFrame
theorem kI{w:World}{o:Option T3}{a b c:Int}(h:o=some (a,b,c)){e:Ending}{w':World}(h2:e=.returned (.tuple #[.agg (aC a b c),.bool true])/\Below w.heap.size w w'):aZ w o e w':=by subst h;exact h2
theorem gE{w:World}{o:Option T3}(h:o=none){e:Ending}{w':World}(h2:e=.returned (.tuple #[.agg (aC 0 0 0),.bool false])/\Below w.heap.size w w'):aZ w o e w':=by subst h;exact h2
theorem aQ3(p:Pg) (x:Nd) (r:Rm) (y:Ex) (A:Option Addr) (ca:Nat) (B:Option Addr) (cb:Nat) (S:Option Addr) (m sc:Nat) (ts:List T3) (w:World) (h:cY w p x r) (hS:aM w S m ts) (hk:y.k=5) (hm:1<=m) (o:Option T3) (ho:nJ (cX y.op (aB ts 0).1 (aB ts 0).2.1 (aB ts 0).2.2)=o):
 Calls Tryz.prog 80 #[.agg (aT p x r),.agg (aE y A ca B cb),.slice S m sc] w (aZ w o):=by
 have HF:=Hd fun w0 hw=>fL (w:=w) (w1:=w0) (cs:=aT p x r) (ds:=aE y A ca B cb) (T:=60) (U:=35) (V:=38) hw;obtain⟨sb,so,rfl,Ad,Ai⟩:=hS.at_ (i:=0) (by omega);obtain⟨a0,a1,a2⟩:=Ai 0 (by omega);simp only [Nat.zero_mul,Nat.add_zero] at a0 a1 a2;have HU:=Hd fun w1=>aRq y.op (aB ts 0).1 (aB ts 0).2.1 (aB ts 0).2.2 w1;generalize hu:cX y.op (aB ts 0).1 (aB ts 0).2.1 (aB ts 0).2.2=uo at *;generalize Am:aB ts 0=tx at *;obtain⟨x0,x1,x2⟩:=tx
 dsimp only at a0 a1 a2
 unfold aK at HU;have HO:=Hd ho.symm;clear ho hu h;unfold aT aE at *;rw [hk] at HF ⊢;clear hS Ai
 go_enter Tryz.func80,Tryz.ntmps80
 go_upto_region 1 with(fail)
 generalize Ah:((w.alloc _).alloc _).alloc _=w0;obtain⟨Ac,An,Al,Aa,hR⟩:=HF.o w0 Ah;have Ag:=Hd Ac;have HR:=Hd hR;have r0:=Aa w0 (Yg _ _) 0;have r3:=Aa w0 (Yg _ _) 3;simp only [Ya,Yb,Yc] at r0 r3;have a0:=(Ac.cell (p:=⟨sb,so,none⟩) Ad).trans a0;have a1:=(Ac.cell (p:=⟨sb,so+1,none⟩) Ad).trans a1;have a2:=(Ac.cell (p:=⟨sb,so+2,none⟩) Ad).trans a2;have Ap:0<m:=by omega
 have Ab:sb≠w.heap.size+1+1:=by omega
 have Ak:sb<w0.heap.size:=Yr Ad Ag.o.size;have Ao:w.heap.size≠w.heap.size+1+1:=by omega
 have Aj:w.heap.size+1≠w.heap.size+1+1:=by omega
 clear Ah Al Aa hR HF
 cases uo with
 | none=>
  simp only [kV,aK,Option.isSome_none] at HU;have HO:=Hd (show o=none from HO.o)
  go_upto_region 3 with(fail)
  refine bZ (l1:=[_,_,_,_,_,_,_,_]) (os:=_) (l2:=[_]) (p:=6) (tx:=22) (r:=w.heap.size+1+1) (T:=38) (zc:=aC 0 0 0) (by kernel_rfl) (by kernel_rfl) rfl HR.o rfl bW ?_
  repeat
   apply bR rfl (by simp)
   case h1=>
    intro wb hb;have l0:=fun d os=>Zr (aD hb Ab a0) d os;have l1:=fun d os=>Zr (aD hb Ab a1) d os;have l2:=fun d os=>Zr (aD hb Ab a2) d os;have l3:=fun d os=>Zr (aD hb Aj r3) d os;have cA:=fun d os=>Zh (HU.o (grow (redrawn wb d) os))
    go_big_quiet_step (first | with_reducible exact cA _ _)
    refine Xf ?_;simp only [List.getElem?_toArray,Zb,Yz];exact rfl
   simp only [Act.put,Yd,Ye,Yf]
  refine⟨aC 0 0 0,rfl,rfl,by simp [aC,Value.oneCell'],fun W hB hz=>?_⟩;have Ae:=Hd (bF hB Ag.o (Yh _) (by omega));have Af:=Hd hz;clear hB hz
  go_wp2_with fail
  exact Zt (aL (p:=6) (u:=7) rfl _ _ (w.heap.size+1+1) 0 0 0 rfl Af.o) rfl (gE HO.o ⟨rfl,Ae.o⟩)
 | some uk=>
  simp only [kV,aK,Option.isSome_some] at HU;have HO:=Hd (show o=some (uk,0,0) from HO.o)
  go_upto_region 3 with(fail)
  refine bZ (l1:=[_,_,_,_,_,_,_,_]) (os:=_) (l2:=[_]) (p:=6) (tx:=22) (r:=w.heap.size+1+1) (T:=38) (zc:=aC 0 0 0) (by kernel_rfl) (by kernel_rfl) rfl HR.o rfl bW ?_
  repeat
   apply bR rfl (by simp)
   case h1=>
    intro wb hb;have l0:=fun d os=>Zr (aD hb Ab a0) d os;have l1:=fun d os=>Zr (aD hb Ab a1) d os;have l2:=fun d os=>Zr (aD hb Ab a2) d os;have l3:=fun d os=>Zr (aD hb Aj r3) d os;have cA:=fun d os=>Zh (HU.o (grow (redrawn wb d) os))
    go_big_quiet_step (first | with_reducible exact cA _ _)
    refine Xf ?_;simp only [List.getElem?_toArray,Zb,Yz];exact rfl
   simp only [Act.put,Yd,Ye,Yf]
  refine⟨aC uk 0 0,rfl,rfl,by simp [aC,Value.oneCell'],fun W hB hz=>?_⟩;have Ae:=Hd (bF hB Ag.o (Yh _) (by omega));have Af:=Hd hz;clear hB hz
  go_wp2_with fail
  exact Zt (aL (p:=6) (u:=7) rfl _ _ (w.heap.size+1+1) uk 0 0 rfl Af.o) rfl (kI HO.o ⟨rfl,Ae.o⟩)
theorem aQ4(p:Pg) (x:Nd) (r:Rm) (y:Ex) (A:Option Addr) (ca:Nat) (B:Option Addr) (cb:Nat) (S:Option Addr) (m sc:Nat) (ts:List T3) (w:World) (h:cY w p x r) (hS:aM w S m ts) (hk:y.k=6) (hm:2<=m) (o:Option T3) (ho:nJ (iF y.op (aV 1 (aB ts 0).1 (aB ts 0).2.1 (aB ts 0).2.2 && aV 1 (aB ts 1).1 (aB ts 1).2.1 (aB ts 1).2.2) (aV 2 (aB ts 0).1 (aB ts 0).2.1 (aB ts 0).2.2 && aV 2 (aB ts 1).1 (aB ts 1).2.1 (aB ts 1).2.2) (fA (aB ts 0).1 (aB ts 0).2.1 (aB ts 0).2.2 (aB ts 1).1 (aB ts 1).2.1 (aB ts 1).2.2))=o):
 Calls Tryz.prog 80 #[.agg (aT p x r),.agg (aE y A ca B cb),.slice S m sc] w (aZ w o):=by
 have HF:=Hd fun w0 hw=>fL (w:=w) (w1:=w0) (cs:=aT p x r) (ds:=aE y A ca B cb) (T:=60) (U:=35) (V:=38) hw;obtain⟨sb,so,rfl,Ab,Ae⟩:=hS.at_ (i:=0) (by omega);obtain⟨a0,a1,a2⟩:=Ae 0 (by omega);obtain⟨b0,b1,b2⟩:=Ae 1 (by omega);simp only [Nat.zero_mul,Nat.add_zero,Nat.one_mul] at a0 a1 a2 b0 b1 b2;have HU:=Hd fun w1=>aP8 y.op (aB ts 0).1 (aB ts 0).2.1 (aB ts 0).2.2 (aB ts 1).1 (aB ts 1).2.1 (aB ts 1).2.2 w1;generalize hu:iF y.op _ _ _=uo at *;generalize Am:aB ts 0=tx at *;generalize Ao:aB ts 1=ty at *;obtain⟨x0,x1,x2⟩:=tx;obtain⟨y0,y1,y2⟩:=ty
 dsimp only at a0 a1 a2 b0 b1 b2
 unfold aK at HU;have HO:=Hd ho.symm;clear ho hu h;unfold aT aE at *;rw [hk] at HF ⊢;clear hS Ae
 go_enter Tryz.func80,Tryz.ntmps80
 go_upto_region 1 with(fail)
 generalize Ai:((w.alloc _).alloc _).alloc _=w0;obtain⟨Ac,Ap,Al,Ad,hR⟩:=HF.o w0 Ai;have Ah:=Hd Ac;have HR:=Hd hR;have r0:=Ad w0 (Yg _ _) 0;have r3:=Ad w0 (Yg _ _) 3;simp only [Ya,Yb,Yc] at r0 r3;have a0:=(Ac.cell (p:=⟨sb,so,none⟩) Ab).trans a0;have a1:=(Ac.cell (p:=⟨sb,so+1,none⟩) Ab).trans a1;have a2:=(Ac.cell (p:=⟨sb,so+2,none⟩) Ab).trans a2;have b0:=(Ac.cell (p:=⟨sb,so+3,none⟩) Ab).trans b0;have b1:=(Ac.cell (p:=⟨sb,so+3+1,none⟩) Ab).trans b1;have b2:=(Ac.cell (p:=⟨sb,so+3+2,none⟩) Ab).trans b2;have Ar:0<m:=by omega
 have An:1<m:=by omega
 have Aa:sb≠w.heap.size+1+1:=by omega
 have Ak:sb<w0.heap.size:=Yr Ab Ah.o.size;have Aq:w.heap.size≠w.heap.size+1+1:=by omega
 have Aj:w.heap.size+1≠w.heap.size+1+1:=by omega
 clear Ai Al Ad hR HF
 cases uo with
 | none=>
  simp only [kV,aK,Option.isSome_none] at HU;have HO:=Hd (show o=none from HO.o)
  go_upto_region 5 with(fail)
  refine bZ (l1:=[_,_,_,_,_,_,_,_,_,_,_]) (os:=_) (l2:=[_]) (p:=6) (tx:=35) (r:=w.heap.size+1+1) (T:=38) (zc:=aC 0 0 0) (by kernel_rfl) (by kernel_rfl) rfl HR.o rfl bW ?_
  repeat
   apply bR rfl (by simp)
   case h1=>
    intro wb hb;have l0:=fun d os=>Zr (aD hb Aa a0) d os;have l1:=fun d os=>Zr (aD hb Aa a1) d os;have l2:=fun d os=>Zr (aD hb Aa a2) d os;have l3:=fun d os=>Zr (aD hb Aa b0) d os;have l4:=fun d os=>Zr (aD hb Aa b1) d os;have l5:=fun d os=>Zr (aD hb Aa b2) d os;have l6:=fun d os=>Zr (aD hb Aj r3) d os;have cA:=fun d os=>Zh (HU.o (grow (redrawn wb d) os))
    go_big_quiet_step (first | with_reducible exact cA _ _)
    refine Xf ?_;simp only [List.getElem?_toArray,Zb,Yz];exact rfl
   simp only [Act.put,Yd,Ye,Yf]
  refine⟨aC 0 0 0,rfl,rfl,by simp [aC,Value.oneCell'],fun W hB hz=>?_⟩;have Af:=Hd (bF hB Ah.o (Yh _) (by omega));have Ag:=Hd hz;clear hB hz
  go_wp2_with fail
  exact Zt (aL (p:=6) (u:=7) rfl _ _ (w.heap.size+1+1) 0 0 0 rfl Ag.o) rfl (gE HO.o ⟨rfl,Af.o⟩)
 | some uk=>
  simp only [kV,aK,Option.isSome_some] at HU;have HO:=Hd (show o=some (uk,0,0) from HO.o)
  go_upto_region 5 with(fail)
  refine bZ (l1:=[_,_,_,_,_,_,_,_,_,_,_]) (os:=_) (l2:=[_]) (p:=6) (tx:=35) (r:=w.heap.size+1+1) (T:=38) (zc:=aC 0 0 0) (by kernel_rfl) (by kernel_rfl) rfl HR.o rfl bW ?_
  repeat
   apply bR rfl (by simp)
   case h1=>
    intro wb hb;have l0:=fun d os=>Zr (aD hb Aa a0) d os;have l1:=fun d os=>Zr (aD hb Aa a1) d os;have l2:=fun d os=>Zr (aD hb Aa a2) d os;have l3:=fun d os=>Zr (aD hb Aa b0) d os;have l4:=fun d os=>Zr (aD hb Aa b1) d os;have l5:=fun d os=>Zr (aD hb Aa b2) d os;have l6:=fun d os=>Zr (aD hb Aj r3) d os;have cA:=fun d os=>Zh (HU.o (grow (redrawn wb d) os))
    go_big_quiet_step (first | with_reducible exact cA _ _)
    refine Xf ?_;simp only [List.getElem?_toArray,Zb,Yz];exact rfl
   simp only [Act.put,Yd,Ye,Yf]
  refine⟨aC uk 0 0,rfl,rfl,by simp [aC,Value.oneCell'],fun W hB hz=>?_⟩;have Af:=Hd (bF hB Ah.o (Yh _) (by omega));have Ag:=Hd hz;clear hB hz
  go_wp2_with fail
  exact Zt (aL (p:=6) (u:=7) rfl _ _ (w.heap.size+1+1) uk 0 0 rfl Ag.o) rfl (kI HO.o ⟨rfl,Af.o⟩)
theorem aOd(p:Pg) (x:Nd) (r:Rm) (y:Ex) (A:Option Addr) (ca:Nat) (B:Option Addr) (cb:Nat) (S:Option Addr) (m sc:Nat) (ts:List T3) (w:World) (h:cY w p x r) (hS:aM w S m ts) (hk:y.k=10) (hm:1<=m) (o:Option T3) (ho:some (aB ts 0)=o):
 Calls Tryz.prog 80 #[.agg (aT p x r),.agg (aE y A ca B cb),.slice S m sc] w (aZ w o):=by
 have HF:=Hd fun w0 hw=>fL (w:=w) (w1:=w0) (cs:=aT p x r) (ds:=aE y A ca B cb) (T:=60) (U:=35) (V:=38) hw;obtain⟨sb,so,rfl,Ac,Ae⟩:=hS.at_ (i:=0) (by omega);obtain⟨a0,a1,a2⟩:=Ae 0 (by omega);simp only [Nat.zero_mul,Nat.add_zero] at a0 a1 a2;generalize Ai:aB ts 0=tx at *;obtain⟨x0,x1,x2⟩:=tx
 dsimp only at a0 a1 a2
 have HO:=Hd ho.symm;clear ho h;unfold aT aE at *;rw [hk] at HF ⊢;clear hS Ae
 go_enter Tryz.func80,Tryz.ntmps80
 go_upto_region 1 with(fail)
 generalize Ad:((w.alloc _).alloc _).alloc _=w0;obtain⟨Ab,Ak,Ah,Aa,hR⟩:=HF.o w0 Ad;have Af:=Hd Ab;have HR:=Hd hR;have r0:=Aa w0 (Yg _ _) 0;simp only [Ya,Yb,Yc] at r0;have a0:=(Ab.cell (p:=⟨sb,so,none⟩) Ac).trans a0;have a1:=(Ab.cell (p:=⟨sb,so+1,none⟩) Ac).trans a1;have a2:=(Ab.cell (p:=⟨sb,so+2,none⟩) Ac).trans a2;have Am:0<m:=by omega
 have Aj:sb≠w.heap.size+1+1:=by omega
 have Ag:sb<w0.heap.size:=Yr Ac Af.o.size;have Al:w.heap.size≠w.heap.size+1+1:=by omega
 have An:w.heap.size+1≠w.heap.size+1+1:=by omega
 clear Ad Ah Aa hR HF
 go_wp2_with (refine Zu rfl _ _ _ rfl (w.heap.size+1+1) _ rfl rfl _ _ HR.o bM rfl (by simp [Value.oneCell']) ?_)
 exact Zt (aL (p:=6) (u:=7) rfl _ _ (w.heap.size+1+1) x0 x1 x2 rfl (HR.o.set x0 x1 x2)) rfl (kI HO.o ⟨rfl,Xb Af.o (by omega) _⟩)
theorem aOe(p:Pg) (x:Nd) (r:Rm) (y:Ex) (A:Option Addr) (ca:Nat) (B:Option Addr) (cb:Nat) (S:Option Addr) (m sc:Nat) (ts:List T3) (w:World) (h:cY w p x r) (hS:aM w S m ts) (hr:aJ w y A B) (hk:y.k=11) (hm:1<=m) (o:Option T3) (ho:(if eR p.es x y.s y.arms=true then some (aB ts 0) else none)=o):
 Calls Tryz.prog 80 #[.agg (aT p x r),.agg (aE y A ca B cb),.slice S m sc] w (aZ w o):=by
 have HF:=Hd fun w0 hw=>fL (w:=w) (w1:=w0) (cs:=aT p x r) (ds:=aE y A ca B cb) (T:=60) (U:=35) (V:=38) hw;obtain⟨sb,so,rfl,Af,Am⟩:=hS.at_ (i:=0) (by omega);obtain⟨a0,a1,a2⟩:=Am 0 (by omega);simp only [Nat.zero_mul,Nat.add_zero] at a0 a1 a2;have An:=Hd fun w1 (hb:Below w.heap.size w w1)=>yK p x r y.s A y.arms.length ca y.arms w1 (h.below hb) (hr.below hb).arms;generalize Ar:aB ts 0=tx at *;obtain⟨x0,x1,x2⟩:=tx
 dsimp only at a0 a1 a2
 have HO:=Hd ho.symm;clear ho h hr;generalize eR p.es x y.s y.arms=tb at *;unfold aT aE at *;rw [hk] at HF ⊢;clear hS Am
 go_enter Tryz.func80,Tryz.ntmps80
 go_upto_region 1 with(fail)
 generalize Al:((w.alloc _).alloc _).alloc _=w0;obtain⟨Ag,As,Ak,Ae,hR⟩:=HF.o w0 Al;have Ad:=Hd Ag;have HR:=Hd hR;obtain⟨q0,q1,q2,q3,q4,q5⟩:=Sx (Ak w0 (Yg _ _));have q6:=Ak w0 (Yg _ _) 6;obtain⟨r0,-,r2,-,r4,-⟩:=Sx (Ae w0 (Yg _ _));simp only [Ya,Yb,Yc] at q0 q1 q2 q3 q4 q5 q6 r0 r2 r4;have a0:=(Ag.cell (p:=⟨sb,so,none⟩) Af).trans a0;have a1:=(Ag.cell (p:=⟨sb,so+1,none⟩) Af).trans a1;have a2:=(Ag.cell (p:=⟨sb,so+2,none⟩) Af).trans a2;have Au:0<m:=by omega
 have Ac:sb≠w.heap.size+1+1:=by omega
 have Ap:sb<w0.heap.size:=Yr Af Ad.o.size;have Aa:w.heap.size≠w.heap.size+1+1:=by omega
 have Ah:w.heap.size+1≠w.heap.size+1+1:=by omega
 clear Al Ak Ae hR HF
 cases tb with
 | false=>
  have HO:=Hd (show o=none from HO.o);have Ab:=Hd fun w1=>gZ x0 x1 x2 false w1;unfold aZ aC at Ab;simp only [Yy,if_false,if_true,Option.getD_none,Yt,Option.isSome_none,Option.isSome_some] at Ab
  go_upto_region 16 with(fail)
  refine bZ (l1:=[_,_,_,_,_,_,_,_,_,_,_,_]) (os:=_) (l2:=[_]) (p:=6) (tx:=123) (r:=w.heap.size+1+1) (T:=38) (zc:=aC 0 0 0) (by kernel_rfl) (by kernel_rfl) rfl HR.o rfl bW ?_
  repeat
   apply bR rfl (by simp)
   case h1=>
    intro wb hb;have l0:=fun d os=>Zr (aD hb Ac a0) d os;have l1:=fun d os=>Zr (aD hb Ac a1) d os;have l2:=fun d os=>Zr (aD hb Ac a2) d os;have l3:=fun d os=>Zr (aD hb Aa q0) d os;have l4:=fun d os=>Zr (aD hb Aa q1) d os;have l5:=fun d os=>Zr (aD hb Aa q2) d os;have l6:=fun d os=>Zr (aD hb Aa q3) d os;have l7:=fun d os=>Zr (aD hb Aa q4) d os;have l8:=fun d os=>Zr (aD hb Aa q5) d os;have l9:=fun d os=>Zr (aD hb Aa q6) d os;have Aq:=fun d os=>Zr (aD hb Ah r2) d os;have Ao:=fun d os=>Zr (aD hb Ah r4) d os;have cA:=fun d os=>Zh (An.o (grow (redrawn wb d) os) (aR (bF hb Ad.o (Yh _) (by omega)) (Zs wb d os)));have cO:=fun d os=>Zh (Ab.o (grow (redrawn wb d) os))
    go_big_quiet_step (first | with_reducible exact cA _ _ | with_reducible exact cO _ _)
    refine Xf ?_;simp only [List.getElem?_toArray,Zb,Yz];exact rfl
   simp only [Act.put,Yd,Ye,Yf]
  refine⟨aC 0 0 0,rfl,rfl,by simp [aC,Value.oneCell'],fun W hB hz=>?_⟩;have Ai:=Hd (bF hB Ad.o (Yh _) (by omega));have Aj:=Hd hz;clear hB hz
  go_wp2_with fail
  exact Zt (aL (p:=6) (u:=7) rfl _ _ (w.heap.size+1+1) 0 0 0 rfl Aj.o) rfl (gE HO.o ⟨rfl,Ai.o⟩)
 | true=>
  have HO:=Hd (show o=some (x0,x1,x2) from HO.o);have Ab:=Hd fun w1=>gZ x0 x1 x2 true w1;unfold aZ aC at Ab;simp only [Yy,if_false,if_true,Option.getD_none,Yt,Option.isSome_none,Option.isSome_some] at Ab
  go_upto_region 16 with(fail)
  refine bZ (l1:=[_,_,_,_,_,_,_,_,_,_,_,_]) (os:=_) (l2:=[_]) (p:=6) (tx:=123) (r:=w.heap.size+1+1) (T:=38) (zc:=aC 0 0 0) (by kernel_rfl) (by kernel_rfl) rfl HR.o rfl bW ?_
  repeat
   apply bR rfl (by simp)
   case h1=>
    intro wb hb;have l0:=fun d os=>Zr (aD hb Ac a0) d os;have l1:=fun d os=>Zr (aD hb Ac a1) d os;have l2:=fun d os=>Zr (aD hb Ac a2) d os;have l3:=fun d os=>Zr (aD hb Aa q0) d os;have l4:=fun d os=>Zr (aD hb Aa q1) d os;have l5:=fun d os=>Zr (aD hb Aa q2) d os;have l6:=fun d os=>Zr (aD hb Aa q3) d os;have l7:=fun d os=>Zr (aD hb Aa q4) d os;have l8:=fun d os=>Zr (aD hb Aa q5) d os;have l9:=fun d os=>Zr (aD hb Aa q6) d os;have Aq:=fun d os=>Zr (aD hb Ah r2) d os;have Ao:=fun d os=>Zr (aD hb Ah r4) d os;have cA:=fun d os=>Zh (An.o (grow (redrawn wb d) os) (aR (bF hb Ad.o (Yh _) (by omega)) (Zs wb d os)));have cO:=fun d os=>Zh (Ab.o (grow (redrawn wb d) os))
    go_big_quiet_step (first | with_reducible exact cA _ _ | with_reducible exact cO _ _)
    refine Xf ?_;simp only [List.getElem?_toArray,Zb,Yz];exact rfl
   simp only [Act.put,Yd,Ye,Yf]
  refine⟨aC x0 x1 x2,rfl,rfl,by simp [aC,Value.oneCell'],fun W hB hz=>?_⟩;have Ai:=Hd (bF hB Ad.o (Yh _) (by omega));have Aj:=Hd hz;clear hB hz
  go_wp2_with fail
  exact Zt (aL (p:=6) (u:=7) rfl _ _ (w.heap.size+1+1) x0 x1 x2 rfl Aj.o) rfl (kI HO.o ⟨rfl,Ai.o⟩)
theorem aOf(p:Pg) (x:Nd) (r:Rm) (y:Ex) (A:Option Addr) (ca:Nat) (B:Option Addr) (cb:Nat) (S:Option Addr) (m sc:Nat) (ts:List T3) (w:World) (h:cY w p x r) (hS:aM w S m ts) (hr:aJ w y A B) (hk:y.k=12) (hm:1<=m) (As:0<y.arms.length) (Av:∀ d,aW x y.s=some d->bH p.es.length d.k d.e d.l=true) (o:Option T3) (ho:(if(dH ts && pF p.es x y.s y.arms)=true then some (aB ts 0) else none)=o):
 Calls Tryz.prog 80 #[.agg (aT p x r),.agg (aE y A ca B cb),.slice S m sc] w (aZ w o):=by
 have HF:=Hd fun w0 hw=>fL (w:=w) (w1:=w0) (cs:=aT p x r) (ds:=aE y A ca B cb) (T:=60) (U:=35) (V:=38) hw;have Aq:=hS;obtain⟨sb,so,rfl,Aj,Ao⟩:=hS.at_ (i:=0) (by omega);obtain⟨a0,a1,a2⟩:=Ao 0 (by omega);simp only [Nat.zero_mul,Nat.add_zero] at a0 a1 a2;have Am:=Hd fun w1 (hb:Below w.heap.size w w1)=>aOc p x r y.s A y.arms.length ca y.arms w1 (h.below hb) (hr.below hb).arms As Av;have Ah:=Hd fun w1 (hb:Below w.heap.size w w1)=>kS (aB ts 0).1 (aB ts 0).2.1 (aB ts 0).2.2 (some ⟨sb,so,none⟩) m sc ts w1 (Aq.below hb);rw [show dV ((aB ts 0).1,(aB ts 0).2.1,(aB ts 0).2.2) ts=dH ts from rfl] at Ah;unfold aC at Ah;generalize Aw:aB ts 0=tx at *;obtain⟨x0,x1,x2⟩:=tx
 dsimp only at a0 a1 a2
 have HO:=Hd ho.symm;clear ho h hr Aq;generalize pF p.es x y.s y.arms=tb at *;generalize dH ts=al at *;unfold aT aE at *;rw [hk] at HF ⊢;clear hS Ao
 go_enter Tryz.func80,Tryz.ntmps80
 go_upto_region 1 with(fail)
 generalize An:((w.alloc _).alloc _).alloc _=w0;obtain⟨Ak,Ax,Al,Ai,hR⟩:=HF.o w0 An;have Ac:=Hd Ak;have HR:=Hd hR;obtain⟨q0,q1,q2,q3,q4,q5⟩:=Sx (Al w0 (Yg _ _));have q6:=Al w0 (Yg _ _) 6;obtain⟨r0,-,r2,-,r4,-⟩:=Sx (Ai w0 (Yg _ _));simp only [Ya,Yb,Yc] at q0 q1 q2 q3 q4 q5 q6 r0 r2 r4;have a0:=(Ak.cell (p:=⟨sb,so,none⟩) Aj).trans a0;have a1:=(Ak.cell (p:=⟨sb,so+1,none⟩) Aj).trans a1;have a2:=(Ak.cell (p:=⟨sb,so+2,none⟩) Aj).trans a2;have Ay:0<m:=by omega
 have Ad:sb≠w.heap.size+1+1:=by omega
 have Au:sb<w0.heap.size:=Yr Aj Ac.o.size;have Aa:w.heap.size≠w.heap.size+1+1:=by omega
 have Ae:w.heap.size+1≠w.heap.size+1+1:=by omega
 clear An Al Ai hR HF
 cases al with
 | false=>
  clear Am;have HO:=Hd (show o=none from HO.o);have Ab:=Hd fun w1=>gZ x0 x1 x2 false w1;unfold aZ aC at Ab;simp only [Yy,if_false,Option.getD_none,Option.isSome_none] at Ab
  go_upto_region 18 with(fail)
  refine bZ (l1:=[_,_,_,_,_,_,_,_,_,_,_,_,_,_,_,_,_,_,_]) (os:=_) (l2:=[_]) (p:=6) (tx:=144) (r:=w.heap.size+1+1) (T:=38) (zc:=aC 0 0 0) (by kernel_rfl) (by kernel_rfl) rfl HR.o rfl bW ?_
  repeat
   apply bR rfl (by simp)
   case h1=>
    intro wb hb;have l0:=fun d os=>Zr (aD hb Ad a0) d os;have l1:=fun d os=>Zr (aD hb Ad a1) d os;have l2:=fun d os=>Zr (aD hb Ad a2) d os;have l3:=fun d os=>Zr (aD hb Aa q0) d os;have l4:=fun d os=>Zr (aD hb Aa q1) d os;have l5:=fun d os=>Zr (aD hb Aa q2) d os;have l6:=fun d os=>Zr (aD hb Aa q3) d os;have l7:=fun d os=>Zr (aD hb Aa q4) d os;have l8:=fun d os=>Zr (aD hb Aa q5) d os;have l9:=fun d os=>Zr (aD hb Aa q6) d os;have Ar:=fun d os=>Zr (aD hb Ae r2) d os;have Ap:=fun d os=>Zr (aD hb Ae r4) d os;have cB:=fun d os=>Zh (Ah.o (grow (redrawn wb d) os) (aR (bF hb Ac.o (Yh _) (by omega)) (Zs wb d os)));have cO:=fun d os=>Zh (Ab.o (grow (redrawn wb d) os))
    go_big_quiet_step (first | with_reducible exact cB _ _ | with_reducible exact cO _ _)
    refine Xf ?_;simp only [List.getElem?_toArray,Zb,Yz];exact rfl
   simp only [Act.put,Yd,Ye,Yf]
  refine⟨aC 0 0 0,rfl,rfl,by simp [aC,Value.oneCell'],fun W hB hz=>?_⟩;have Af:=Hd (bF hB Ac.o (Yh _) (by omega));have Ag:=Hd hz;clear hB hz
  go_wp2_with fail
  exact Zt (aL (p:=6) (u:=7) rfl _ _ (w.heap.size+1+1) 0 0 0 rfl Ag.o) rfl (gE HO.o ⟨rfl,Af.o⟩)
 | true=>
  cases tb with
  | false=>
   have HO:=Hd (show o=none from HO.o);have Ab:=Hd fun w1=>gZ x0 x1 x2 false w1;unfold aZ aC at Ab;simp only [Yy,if_false,if_true,Option.getD_none,Yt,Option.isSome_none,Option.isSome_some] at Ab
   go_upto_region 18 with(fail)
   refine bZ (l1:=[_,_,_,_,_,_,_,_,_,_,_,_,_,_,_,_,_,_,_]) (os:=_) (l2:=[_]) (p:=6) (tx:=144) (r:=w.heap.size+1+1) (T:=38) (zc:=aC 0 0 0) (by kernel_rfl) (by kernel_rfl) rfl HR.o rfl bW ?_
   repeat
    apply bR rfl (by simp)
    case h1=>
     intro wb hb;have l0:=fun d os=>Zr (aD hb Ad a0) d os;have l1:=fun d os=>Zr (aD hb Ad a1) d os;have l2:=fun d os=>Zr (aD hb Ad a2) d os;have l3:=fun d os=>Zr (aD hb Aa q0) d os;have l4:=fun d os=>Zr (aD hb Aa q1) d os;have l5:=fun d os=>Zr (aD hb Aa q2) d os;have l6:=fun d os=>Zr (aD hb Aa q3) d os;have l7:=fun d os=>Zr (aD hb Aa q4) d os;have l8:=fun d os=>Zr (aD hb Aa q5) d os;have l9:=fun d os=>Zr (aD hb Aa q6) d os;have Ar:=fun d os=>Zr (aD hb Ae r2) d os;have Ap:=fun d os=>Zr (aD hb Ae r4) d os;have cB:=fun d os=>Zh (Ah.o (grow (redrawn wb d) os) (aR (bF hb Ac.o (Yh _) (by omega)) (Zs wb d os)));have cA:=fun d os=>Zh (Am.o (grow (redrawn wb d) os) (aR (bF hb Ac.o (Yh _) (by omega)) (Zs wb d os)));have cO:=fun d os=>Zh (Ab.o (grow (redrawn wb d) os))
     go_big_quiet_step (first | with_reducible exact cB _ _ | with_reducible exact cA _ _ | with_reducible exact cO _ _)
     refine Xf ?_;simp only [List.getElem?_toArray,Zb,Yz];exact rfl
    simp only [Act.put,Yd,Ye,Yf]
   refine⟨aC 0 0 0,rfl,rfl,by simp [aC,Value.oneCell'],fun W hB hz=>?_⟩;have Af:=Hd (bF hB Ac.o (Yh _) (by omega));have Ag:=Hd hz;clear hB hz
   go_wp2_with fail
   exact Zt (aL (p:=6) (u:=7) rfl _ _ (w.heap.size+1+1) 0 0 0 rfl Ag.o) rfl (gE HO.o ⟨rfl,Af.o⟩)
  | true=>
   have HO:=Hd (show o=some (x0,x1,x2) from HO.o);have Ab:=Hd fun w1=>gZ x0 x1 x2 true w1;unfold aZ aC at Ab;simp only [Yy,if_false,if_true,Option.getD_none,Yt,Option.isSome_none,Option.isSome_some] at Ab
   go_upto_region 18 with(fail)
   refine bZ (l1:=[_,_,_,_,_,_,_,_,_,_,_,_,_,_,_,_,_,_,_]) (os:=_) (l2:=[_]) (p:=6) (tx:=144) (r:=w.heap.size+1+1) (T:=38) (zc:=aC 0 0 0) (by kernel_rfl) (by kernel_rfl) rfl HR.o rfl bW ?_
   repeat
    apply bR rfl (by simp)
    case h1=>
     intro wb hb;have l0:=fun d os=>Zr (aD hb Ad a0) d os;have l1:=fun d os=>Zr (aD hb Ad a1) d os;have l2:=fun d os=>Zr (aD hb Ad a2) d os;have l3:=fun d os=>Zr (aD hb Aa q0) d os;have l4:=fun d os=>Zr (aD hb Aa q1) d os;have l5:=fun d os=>Zr (aD hb Aa q2) d os;have l6:=fun d os=>Zr (aD hb Aa q3) d os;have l7:=fun d os=>Zr (aD hb Aa q4) d os;have l8:=fun d os=>Zr (aD hb Aa q5) d os;have l9:=fun d os=>Zr (aD hb Aa q6) d os;have Ar:=fun d os=>Zr (aD hb Ae r2) d os;have Ap:=fun d os=>Zr (aD hb Ae r4) d os;have cB:=fun d os=>Zh (Ah.o (grow (redrawn wb d) os) (aR (bF hb Ac.o (Yh _) (by omega)) (Zs wb d os)));have cA:=fun d os=>Zh (Am.o (grow (redrawn wb d) os) (aR (bF hb Ac.o (Yh _) (by omega)) (Zs wb d os)));have cO:=fun d os=>Zh (Ab.o (grow (redrawn wb d) os))
     go_big_quiet_step (first | with_reducible exact cB _ _ | with_reducible exact cA _ _ | with_reducible exact cO _ _)
     refine Xf ?_;simp only [List.getElem?_toArray,Zb,Yz];exact rfl
    simp only [Act.put,Yd,Ye,Yf]
   refine⟨aC x0 x1 x2,rfl,rfl,by simp [aC,Value.oneCell'],fun W hB hz=>?_⟩;have Af:=Hd (bF hB Ac.o (Yh _) (by omega));have Ag:=Hd hz;clear hB hz
   go_wp2_with fail
   exact Zt (aL (p:=6) (u:=7) rfl _ _ (w.heap.size+1+1) x0 x1 x2 rfl Ag.o) rfl (kI HO.o ⟨rfl,Af.o⟩)
theorem aOg(p:Pg) (x:Nd) (r:Rm) (y:Ex) (A:Option Addr) (ca:Nat) (B:Option Addr) (cb:Nat) (S:Option Addr) (m sc:Nat) (ts:List T3) (w:World) (h:cY w p x r) (hS:aM w S m ts) (hk:y.k=15) (hm:2<=m) (o:Option T3) (ho:(if mX ts=true then some (jG (aB ts 0)) else none)=o):
 Calls Tryz.prog 80 #[.agg (aT p x r),.agg (aE y A ca B cb),.slice S m sc] w (aZ w o):=by
 have HF:=Hd fun w0 hw=>fL (w:=w) (w1:=w0) (cs:=aT p x r) (ds:=aE y A ca B cb) (T:=60) (U:=35) (V:=38) hw;have As:=hS;obtain⟨sb,so,rfl,Ak,Au⟩:=hS.at_ (i:=0) (by omega);obtain⟨a0,a1,a2⟩:=Au 0 (by omega);simp only [Nat.zero_mul,Nat.add_zero] at a0 a1 a2;have Ar:=Hd fun w1 (hb:Below w.heap.size w w1)=>xO (some ⟨sb,so,none⟩) m sc ts w1 (As.below hb) hm;have Aa:=Hd fun w1=>zC (aB ts 0).1 (aB ts 0).2.1 (aB ts 0).2.2 w1;unfold aK at Aa;unfold jG at ho;generalize Ax:aB ts 0=tx at *;obtain⟨x0,x1,x2⟩:=tx
 dsimp only at a0 a1 a2
 have HO:=Hd ho.symm;clear ho h As;generalize mX ts=al at *;have Ac:=Hd fun(so:Bool) w1=>gZ x0 x1 0 so w1;unfold aZ aC at Ac;unfold aT aE at *;rw [hk] at HF ⊢;clear hS Au
 go_enter Tryz.func80,Tryz.ntmps80
 go_upto_region 1 with(fail)
 generalize Aq:((w.alloc _).alloc _).alloc _=w0;obtain⟨Aj,Az,Aw,Ah,hR⟩:=HF.o w0 Aq;have Ap:=Hd Aj;have HR:=Hd hR;have r0:=Ah w0 (Yg _ _) 0;simp only [Ya,Yb,Yc] at r0;have a0:=(Aj.cell (p:=⟨sb,so,none⟩) Ak).trans a0;have a1:=(Aj.cell (p:=⟨sb,so+1,none⟩) Ak).trans a1;have a2:=(Aj.cell (p:=⟨sb,so+2,none⟩) Ak).trans a2;have Bb:0<m:=by omega
 have Ay:sb≠w.heap.size+1+1:=by omega
 have Av:sb<w0.heap.size:=Yr Ak Ap.o.size;have Ba:w.heap.size≠w.heap.size+1+1:=by omega
 have Bc:w.heap.size+1≠w.heap.size+1+1:=by omega
 clear Aq Aw Ah hR HF
 cases al with
 | false=>
  have HO:=Hd (show o=none from HO.o);have Af:=Hd fun w1=>Ac.o false w1;simp only [Yy,if_false,if_true,Option.getD_none,Yt,Option.isSome_none,Option.isSome_some] at Af
  go_wp2_with fail
  refine(Aa.o w0).mono ?_;rintro e w1 ⟨rfl,Ad⟩;have Ai:=Hd (aR Ap.o Ad);have Al:=Hd (HR.o.below Ad);clear Ad a0 a1 a2
  go_wp2_with fail
  refine(Ar.o w1 Ai.o).mono ?_;rintro e w2 ⟨rfl,Ab⟩;have Ao:=Hd (aR Ai.o Ab);have Am:=Hd (Al.o.below Ab);clear Ab
  go_wp2_with fail
  refine(Af.o w2).mono ?_;rintro e w3 ⟨rfl,Ae⟩;have An:=Hd (aR Ao.o Ae);have Ag:=Hd (Am.o.below Ae);clear Ae
  go_wp2_with (refine Zu rfl _ _ _ rfl (w.heap.size+1+1) _ rfl rfl _ _ Ag.o bM rfl (by simp [Value.oneCell']) ?_)
  exact Zt (aL (p:=6) (u:=7) rfl _ _ (w.heap.size+1+1) 0 0 0 rfl (Ag.o.set _ _ _)) rfl (gE HO.o ⟨rfl,Xb An.o (by omega) _⟩)
 | true=>
  have HO:=Hd (show o=some (x0,x1,0) from HO.o);have Af:=Hd fun w1=>Ac.o true w1;simp only [Yy,if_false,if_true,Option.getD_none,Yt,Option.isSome_none,Option.isSome_some] at Af
  go_wp2_with fail
  refine(Aa.o w0).mono ?_;rintro e w1 ⟨rfl,Ad⟩;have Ai:=Hd (aR Ap.o Ad);have Al:=Hd (HR.o.below Ad);clear Ad a0 a1 a2
  go_wp2_with fail
  refine(Ar.o w1 Ai.o).mono ?_;rintro e w2 ⟨rfl,Ab⟩;have Ao:=Hd (aR Ai.o Ab);have Am:=Hd (Al.o.below Ab);clear Ab
  go_wp2_with fail
  refine(Af.o w2).mono ?_;rintro e w3 ⟨rfl,Ae⟩;have An:=Hd (aR Ao.o Ae);have Ag:=Hd (Am.o.below Ae);clear Ae
  go_wp2_with (refine Zu rfl _ _ _ rfl (w.heap.size+1+1) _ rfl rfl _ _ Ag.o bM rfl (by simp [Value.oneCell']) ?_)
  exact Zt (aL (p:=6) (u:=7) rfl _ _ (w.heap.size+1+1) x0 x1 0 rfl (Ag.o.set _ _ _)) rfl (kI HO.o ⟨rfl,Xb An.o (by omega) _⟩)
theorem aLl(p:Pg) (x:Nd) (r:Rm) (y:Ex) (A:Option Addr) (ca:Nat) (B:Option Addr) (cb:Nat) (S:Option Addr) (m sc:Nat) (ts:List T3) (w:World) (h:cY w p x r) (hS:aM w S m ts) (hk:y.k=16) (hm:3<=m) (o:Option T3) (ho:none=o) (Ai:mX ts=false):
 Calls Tryz.prog 80 #[.agg (aT p x r),.agg (aE y A ca B cb),.slice S m sc] w (aZ w o):=by
 have HF:=Hd fun w0 hw=>fL (w:=w) (w1:=w0) (cs:=aT p x r) (ds:=aE y A ca B cb) (T:=60) (U:=35) (V:=38) hw;have Aj:=hS;obtain⟨sb,so,rfl,Aa,Ae⟩:=hS.at_ (i:=0) (by omega);obtain⟨a0,a1,a2⟩:=Ae 0 (by omega);obtain⟨b0,b1,b2⟩:=Ae 1 (by omega);obtain⟨c0,c1,c2⟩:=Ae 2 (by omega);simp only [Nat.zero_mul,Nat.add_zero,Nat.one_mul] at a0 a1 a2 b0 b1 b2 c0 c1 c2;have Ak:=Hd fun w1 (hb:Below w.heap.size w w1)=>xO (some ⟨sb,so,none⟩) m sc ts w1 (Aj.below hb) (by omega);rw [Ai] at Ak;generalize Ap:aB ts 0=tx at *;generalize As:aB ts 1=ty at *;generalize Aq:aB ts 2=tz at *;obtain⟨x0,x1,x2⟩:=tx;obtain⟨y0,y1,y2⟩:=ty;obtain⟨z0,z1,z2⟩:=tz
 dsimp only at a0 a1 a2 b0 b1 b2 c0 c1 c2
 have HO:=Hd ho.symm;clear ho h Aj Ai;have Ag:=Hd fun w1=>gZ x0 x1 x2 false w1;unfold aZ aC at Ag;simp only [Yy,if_false,Option.getD_none,Option.isSome_none] at Ag;unfold aT aE at *;rw [hk] at HF ⊢;clear hS Ae
 go_enter Tryz.func80,Tryz.ntmps80
 go_upto_region 1 with(fail)
 generalize Ah:((w.alloc _).alloc _).alloc _=w0;obtain⟨Ab,Au,Ao,Ad,hR⟩:=HF.o w0 Ah;have Af:=Hd Ab;have HR:=Hd hR;have r0:=Ad w0 (Yg _ _) 0;simp only [Ya,Yb,Yc] at r0;have a0:=(Ab.cell (p:=⟨sb,so,none⟩) Aa).trans a0;have a1:=(Ab.cell (p:=⟨sb,so+1,none⟩) Aa).trans a1;have a2:=(Ab.cell (p:=⟨sb,so+2,none⟩) Aa).trans a2;have b0:=(Ab.cell (p:=⟨sb,so+3,none⟩) Aa).trans b0;have b1:=(Ab.cell (p:=⟨sb,so+3+1,none⟩) Aa).trans b1;have b2:=(Ab.cell (p:=⟨sb,so+3+2,none⟩) Aa).trans b2;have c0:=(Ab.cell (p:=⟨sb,so+2*3,none⟩) Aa).trans c0;have c1:=(Ab.cell (p:=⟨sb,so+2*3+1,none⟩) Aa).trans c1;have c2:=(Ab.cell (p:=⟨sb,so+2*3+2,none⟩) Aa).trans c2;have Aw:0<m:=by omega
 have Ar:1<m:=by omega
 have Ax:2<m:=by omega
 have Ac:sb≠w.heap.size+1+1:=by omega
 have An:sb<w0.heap.size:=Yr Aa Af.o.size;have Av:w.heap.size≠w.heap.size+1+1:=by omega
 have Ay:w.heap.size+1≠w.heap.size+1+1:=by omega
 clear Ah Ao Ad hR HF
 go_upto_region 28 with(fail)
 refine bZ (l1:=[_,_,_,_,_,_,_,_,_,_,_,_,_,_,_,_,_,_,_]) (os:=_) (l2:=[_]) (p:=6) (tx:=200) (r:=w.heap.size+1+1) (T:=38) (zc:=aC 0 0 0) (by kernel_rfl) (by kernel_rfl) rfl HR.o rfl bW ?_
 repeat
  apply bR rfl (by simp)
  case h1=>
   intro wb hb;have l0:=fun d os=>Zr (aD hb Ac a0) d os;have l1:=fun d os=>Zr (aD hb Ac a1) d os;have l2:=fun d os=>Zr (aD hb Ac a2) d os;have l3:=fun d os=>Zr (aD hb Ac b0) d os;have l4:=fun d os=>Zr (aD hb Ac b1) d os;have l5:=fun d os=>Zr (aD hb Ac b2) d os;have l6:=fun d os=>Zr (aD hb Ac c0) d os;have l7:=fun d os=>Zr (aD hb Ac c1) d os;have l8:=fun d os=>Zr (aD hb Ac c2) d os;have cB:=fun d os=>Zh (Ak.o (grow (redrawn wb d) os) (aR (bF hb Af.o (Yh _) (by omega)) (Zs wb d os)));have cO:=fun d os=>Zh (Ag.o (grow (redrawn wb d) os))
   go_big_quiet_step (first | with_reducible exact cB _ _ | with_reducible exact cO _ _)
   refine Xf ?_;simp only [List.getElem?_toArray,Zb,Yz];exact rfl
  simp only [Act.put,Yd,Ye,Yf]
 refine⟨aC 0 0 0,rfl,rfl,by simp [aC,Value.oneCell'],fun W hB hz=>?_⟩;have Al:=Hd (bF hB Af.o (Yh _) (by omega));have Am:=Hd hz;clear hB hz
 go_wp2_with fail
 exact Zt (aL (p:=6) (u:=7) rfl _ _ (w.heap.size+1+1) 0 0 0 rfl Am.o) rfl (gE HO.o ⟨rfl,Al.o⟩)
end
end Go.Proofs.YtegjgiofmpolnaaGreat
