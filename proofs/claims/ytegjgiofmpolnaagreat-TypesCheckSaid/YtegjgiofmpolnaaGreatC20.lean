/- Parts of the proof: TpK, TpL, TpN, TpO, TpP. Conditions: each theorem's own. -/
import Derived.Test.YtegjgiofmpolnaaGreatC19
namespace Go.Proofs.YtegjgiofmpolnaaGreat
set_option linter.unusedVariables false
set_option linter.unusedSimpArgs false
set_option maxRecDepth 100000
set_option maxHeartbeats 40000000
section
open Go.RowKit Go.Sort Go.BigFrame
theorem aIi(x:Ex) (A:Option Addr) (ca:Nat) (B:Option Addr) (cb:Nat) (S:Option Addr) (m sc:Nat) (ts:List T3) (w:World) (hS:aM w S m ts) (hk:x.k=15) (hm:2<=m):
 Calls Tryz.prog 82 #[.agg (aE x A ca B cb),.slice S m sc] w (eV w (if(decide (0<(aB ts 0).2.2) && kM (aB ts 1))=true then some (jG (aB ts 0)) else none)):=by
 have HF:=Hd fun w0 h=>mW (w:=w) (w0:=w0) (x:=x) (A:=A) (ca:=ca) (B:=B) (cb:=cb) (T:=35) (U:=38) h;obtain⟨sb,so,rfl,Ae,Aj⟩:=hS.at_ (i:=0) (by omega);obtain⟨a0,a1,a2⟩:=Aj 0 (by omega);obtain⟨b0,b1,b2⟩:=Aj 1 (by omega);simp only [Nat.zero_mul,Nat.add_zero,Nat.one_mul] at a0 a1 a2 b0 b1 b2;have An:=hS.len;have Ao:=Hd fun w1 (hb:Below w.heap.size w w1)=>hS.below hb;unfold aE at HF ⊢;rw [hk] at HF ⊢;clear hS Aj hk;generalize aB ts 0=u at *;generalize aB ts 1=v at *;obtain⟨u0,u1,u2⟩:=u;obtain⟨v0,v1,v2⟩:=v;have Ah:=Hd (aDk u0 u1 u2);have HW:=Hd (aBc v0 v1 v2)
 dsimp only [jG] at a0 a1 a2 b0 b1 b2 ⊢
 unfold aC at Ah HW;generalize kM (v0,v1,v2)=ww at *;generalize hO:(if(decide (0<u2) && ww)=true then some ((u0,u1,0):T3) else none)=o;have Ac:=Hd hO;clear hO
 go_enter Tryz.func82,Tryz.ntmps82
 go_upto_region 1 with(fail)
 generalize Ak:(w.alloc _).alloc _=w0;obtain⟨hR,Ab,Ad,Am⟩:=HF.o w0 Ak;have HR:=Hd hR;have Ai:=Hd Ad;have q0:=Ab w0 (Yg _ _) 0;have q3:=Ab w0 (Yg _ _) 3;simp only [Ya,Yb,Yc] at q0 q3;have a0:=(Ad.cell (p:=⟨sb,so,none⟩) Ae).trans a0;have a1:=(Ad.cell (p:=⟨sb,so+1,none⟩) Ae).trans a1;have a2:=(Ad.cell (p:=⟨sb,so+2,none⟩) Ae).trans a2;have b0:=(Ad.cell (p:=⟨sb,so+3,none⟩) Ae).trans b0;have b1:=(Ad.cell (p:=⟨sb,so+3+1,none⟩) Ae).trans b1;have b2:=(Ad.cell (p:=⟨sb,so+3+2,none⟩) Ae).trans b2;have Aq:0<m:=by omega
 have Ap:1<m:=by omega
 clear Ak hR Ab Ad Am HF hm
 go_upto_region 13 with(fail)
 have Al:sb<w0.heap.size:=Yr Ae Ai.o.size;have Aa:sb≠w.heap.size+1:=by omega
 clear q3
 cases hp:decide (0<u2) with
 | false=>
  rw [hp] at Ac;refine bZ (l1:=[_,_,_,_,_,_,_,_,_,_,_,_,_,_,_]) (os:=_) (l2:=[_]) (p:=4) (tx:=73) (r:=w.heap.size+1) (T:=38) (zc:=aC 0 0 0) (by kernel_rfl) (by kernel_rfl) rfl HR.o rfl bW ?_
  repeat
   apply bR rfl (by simp)
   case h1=>
    intro wb hb;have l0:=fun d os=>Zr (aD hb Aa a0) d os;have l1:=fun d os=>Zr (aD hb Aa a1) d os;have l2:=fun d os=>Zr (aD hb Aa a2) d os;have l3:=fun d os=>Zr (aD hb Aa b0) d os;have l4:=fun d os=>Zr (aD hb Aa b1) d os;have l5:=fun d os=>Zr (aD hb Aa b2) d os;have cA:=fun d os=>Zh (Ah.o (grow (redrawn wb d) os));have cB:=fun d os=>Zh (HW.o (grow (redrawn wb d) os))
    go_big_quiet_step (first | with_reducible exact cA _ _ | with_reducible exact cB _ _)
    refine Xf ?_;simp only [List.getElem?_toArray,Zb,Yz];exact rfl
   simp only [Act.put,Yd,Ye,Yf]
  refine⟨aC u0 u1 0,rfl,rfl,by simp [aC,Value.oneCell'],fun W hB hz=>?_⟩;have Af:=Hd (bF hB Ai.o (Yh _) (Nat.le_succ _));have Ag:=Hd hz;clear hB hz
  go_wp2_with fail
  exact Zt (aL (p:=4) (u:=5) rfl _ _ (w.heap.size+1) u0 u1 0 rfl Ag.o) rfl ⟨u0,u1,0,(by rw [show o=none by(rw [<- Ac.o];rfl)];rfl),fun t ht=>(by rw [show o=none by(rw [<- Ac.o];rfl)] at ht;cases ht),Af.o⟩
 | true=>
  rw [hp] at Ac
  cases ww with
  | false=>
   refine bZ (l1:=[_,_,_,_,_,_,_,_,_,_,_,_,_,_,_]) (os:=_) (l2:=[_]) (p:=4) (tx:=73) (r:=w.heap.size+1) (T:=38) (zc:=aC 0 0 0) (by kernel_rfl) (by kernel_rfl) rfl HR.o rfl bW ?_
   repeat
    apply bR rfl (by simp)
    case h1=>
     intro wb hb;have l0:=fun d os=>Zr (aD hb Aa a0) d os;have l1:=fun d os=>Zr (aD hb Aa a1) d os;have l2:=fun d os=>Zr (aD hb Aa a2) d os;have l3:=fun d os=>Zr (aD hb Aa b0) d os;have l4:=fun d os=>Zr (aD hb Aa b1) d os;have l5:=fun d os=>Zr (aD hb Aa b2) d os;have cA:=fun d os=>Zh (Ah.o (grow (redrawn wb d) os));have cB:=fun d os=>Zh (HW.o (grow (redrawn wb d) os))
     go_big_quiet_step (first | with_reducible exact cA _ _ | with_reducible exact cB _ _)
     refine Xf ?_;simp only [List.getElem?_toArray,Zb,Yz];exact rfl
    simp only [Act.put,Yd,Ye,Yf]
   refine⟨aC u0 u1 0,rfl,rfl,by simp [aC,Value.oneCell'],fun W hB hz=>?_⟩;have Af:=Hd (bF hB Ai.o (Yh _) (Nat.le_succ _));have Ag:=Hd hz;clear hB hz
   go_wp2_with fail
   exact Zt (aL (p:=4) (u:=5) rfl _ _ (w.heap.size+1) u0 u1 0 rfl Ag.o) rfl ⟨u0,u1,0,(by rw [show o=none by(rw [<- Ac.o];rfl)];rfl),fun t ht=>(by rw [show o=none by(rw [<- Ac.o];rfl)] at ht;cases ht),Af.o⟩
  | true=>
   refine bZ (l1:=[_,_,_,_,_,_,_,_,_,_,_,_,_,_,_]) (os:=_) (l2:=[_]) (p:=4) (tx:=73) (r:=w.heap.size+1) (T:=38) (zc:=aC 0 0 0) (by kernel_rfl) (by kernel_rfl) rfl HR.o rfl bW ?_
   repeat
    apply bR rfl (by simp)
    case h1=>
     intro wb hb;have l0:=fun d os=>Zr (aD hb Aa a0) d os;have l1:=fun d os=>Zr (aD hb Aa a1) d os;have l2:=fun d os=>Zr (aD hb Aa a2) d os;have l3:=fun d os=>Zr (aD hb Aa b0) d os;have l4:=fun d os=>Zr (aD hb Aa b1) d os;have l5:=fun d os=>Zr (aD hb Aa b2) d os;have cA:=fun d os=>Zh (Ah.o (grow (redrawn wb d) os));have cB:=fun d os=>Zh (HW.o (grow (redrawn wb d) os))
     go_big_quiet_step (first | with_reducible exact cA _ _ | with_reducible exact cB _ _)
     refine Xf ?_;simp only [List.getElem?_toArray,Zb,Yz];exact rfl
    simp only [Act.put,Yd,Ye,Yf]
   refine⟨aC u0 u1 0,rfl,rfl,by simp [aC,Value.oneCell'],fun W hB hz=>?_⟩;have Af:=Hd (bF hB Ai.o (Yh _) (Nat.le_succ _));have Ag:=Hd hz;clear hB hz
   go_wp2_with fail
   exact Zt (aL (p:=4) (u:=5) rfl _ _ (w.heap.size+1) u0 u1 0 rfl Ag.o) rfl ⟨u0,u1,0,(by rw [show o=some (u0,u1,0) by(rw [<- Ac.o];rfl)];rfl),fun t ht=>(by rw [show o=some (u0,u1,0) by(rw [<- Ac.o];rfl)] at ht;exact(Option.some.inj ht).symm),Af.o⟩
end
section
open Go.RowKit Go.Sort Go.BigFrame
theorem aIj(x:Ex) (A:Option Addr) (ca:Nat) (B:Option Addr) (cb:Nat) (S:Option Addr) (m sc:Nat) (ts:List T3) (w:World) (hS:aM w S m ts) (hk:x.k=16) (hm:3<=m) (o:Option T3) (ho:(if(decide (0<(aB ts 0).2.2) && (kM (aB ts 1) && decide (aB ts 2=jG (aB ts 0))))=true then some (aB ts 0) else none)=o):
 Calls Tryz.prog 82 #[.agg (aE x A ca B cb),.slice S m sc] w (eV w o):=by
 have HF:=Hd fun w0 h=>mW (w:=w) (w0:=w0) (x:=x) (A:=A) (ca:=ca) (B:=B) (cb:=cb) (T:=35) (U:=38) h;obtain⟨sb,so,rfl,Ag,Ak⟩:=hS.at_ (i:=0) (by omega);obtain⟨a0,a1,a2⟩:=Ak 0 (by omega);obtain⟨b0,b1,b2⟩:=Ak 1 (by omega);obtain⟨c0,c1,c2⟩:=Ak 2 (by omega);simp only [Nat.zero_mul,Nat.add_zero,Nat.one_mul] at a0 a1 a2 b0 b1 b2 c0 c1 c2;have Ao:=hS.len;have Aq:=Hd fun w1 (hb:Below w.heap.size w w1)=>hS.below hb;unfold aE at HF ⊢;rw [hk] at HF ⊢;clear hS Ak hk;generalize aB ts 0=u at *;generalize aB ts 1=v at *;generalize aB ts 2=z at *;obtain⟨u0,u1,u2⟩:=u;obtain⟨v0,v1,v2⟩:=v;obtain⟨z0,z1,z2⟩:=z;have Ai:=Hd (aDk u0 u1 u2);have HW:=Hd (aBc v0 v1 v2)
 dsimp only [jG] at a0 a1 a2 b0 b1 b2 c0 c1 c2 ho ⊢
 unfold aC at Ai HW;generalize kM (v0,v1,v2)=ww at *;have Ab:=Hd ho;clear ho
 go_enter Tryz.func82,Tryz.ntmps82
 go_upto_region 1 with(fail)
 generalize Al:(w.alloc _).alloc _=w0;obtain⟨hR,Ae,Af,Am⟩:=HF.o w0 Al;have HR:=Hd hR;have Ah:=Hd Af;have q0:=Ae w0 (Yg _ _) 0;have q3:=Ae w0 (Yg _ _) 3;simp only [Ya,Yb,Yc] at q0 q3;have a0:=(Af.cell (p:=⟨sb,so,none⟩) Ag).trans a0;have a1:=(Af.cell (p:=⟨sb,so+1,none⟩) Ag).trans a1;have a2:=(Af.cell (p:=⟨sb,so+2,none⟩) Ag).trans a2;have b0:=(Af.cell (p:=⟨sb,so+3,none⟩) Ag).trans b0;have b1:=(Af.cell (p:=⟨sb,so+3+1,none⟩) Ag).trans b1;have b2:=(Af.cell (p:=⟨sb,so+3+2,none⟩) Ag).trans b2;have c0:=(Af.cell (p:=⟨sb,so+2*3,none⟩) Ag).trans c0;have c1:=(Af.cell (p:=⟨sb,so+2*3+1,none⟩) Ag).trans c1;have c2:=(Af.cell (p:=⟨sb,so+2*3+2,none⟩) Ag).trans c2;have Ar:0<m:=by omega
 have Ap:1<m:=by omega
 have As:2<m:=by omega
 clear Al hR Ae Af Am HF hm
 go_upto_region 14 with(fail)
 have An:sb<w0.heap.size:=Yr Ag Ah.o.size;have Aa:sb≠w.heap.size+1:=by omega
 clear q3
 cases hp:decide (0<u2) with
 | false=>
  rw [hp] at Ab;refine bZ (l1:=[_,_,_,_,_,_,_,_,_,_,_,_,_,_,_,_,_,_,_,_,_,_,_,_]) (os:=_) (l2:=[_]) (p:=4) (tx:=87) (r:=w.heap.size+1) (T:=38) (zc:=aC 0 0 0) (by kernel_rfl) (by kernel_rfl) rfl HR.o rfl bW ?_
  repeat
   apply bR rfl (by simp)
   case h1=>
    intro wb hb;have l0:=fun d os=>Zr (aD hb Aa a0) d os;have l1:=fun d os=>Zr (aD hb Aa a1) d os;have l2:=fun d os=>Zr (aD hb Aa a2) d os;have l3:=fun d os=>Zr (aD hb Aa b0) d os;have l4:=fun d os=>Zr (aD hb Aa b1) d os;have l5:=fun d os=>Zr (aD hb Aa b2) d os;have l6:=fun d os=>Zr (aD hb Aa c0) d os;have l7:=fun d os=>Zr (aD hb Aa c1) d os;have l8:=fun d os=>Zr (aD hb Aa c2) d os;have cA:=fun d os=>Zh (Ai.o (grow (redrawn wb d) os));have cB:=fun d os=>Zh (HW.o (grow (redrawn wb d) os))
    go_big_quiet_step (first | with_reducible exact cA _ _ | with_reducible exact cB _ _)
    refine Xf ?_;simp only [List.getElem?_toArray,Zb,Yz];exact rfl
   simp only [Act.put,Yd,Ye,Yf]
  refine⟨aC u0 u1 u2,rfl,rfl,by simp [aC,Value.oneCell'],fun W hB hz=>?_⟩;have Ac:=Hd (bF hB Ah.o (Yh _) (Nat.le_succ _));have Ad:=Hd hz;clear hB hz
  go_wp2_with fail
  exact Zt (aL (p:=4) (u:=5) rfl _ _ (w.heap.size+1) u0 u1 u2 rfl Ad.o) rfl ⟨u0,u1,u2,(by rw [show o=none by(rw [<- Ab.o];rfl)];rfl),fun t ht=>(by rw [show o=none by(rw [<- Ab.o];rfl)] at ht;cases ht),Ac.o⟩
 | true=>
  rw [hp] at Ab
  cases ww with
  | false=>
   refine bZ (l1:=[_,_,_,_,_,_,_,_,_,_,_,_,_,_,_,_,_,_,_,_,_,_,_,_]) (os:=_) (l2:=[_]) (p:=4) (tx:=87) (r:=w.heap.size+1) (T:=38) (zc:=aC 0 0 0) (by kernel_rfl) (by kernel_rfl) rfl HR.o rfl bW ?_
   repeat
    apply bR rfl (by simp)
    case h1=>
     intro wb hb;have l0:=fun d os=>Zr (aD hb Aa a0) d os;have l1:=fun d os=>Zr (aD hb Aa a1) d os;have l2:=fun d os=>Zr (aD hb Aa a2) d os;have l3:=fun d os=>Zr (aD hb Aa b0) d os;have l4:=fun d os=>Zr (aD hb Aa b1) d os;have l5:=fun d os=>Zr (aD hb Aa b2) d os;have l6:=fun d os=>Zr (aD hb Aa c0) d os;have l7:=fun d os=>Zr (aD hb Aa c1) d os;have l8:=fun d os=>Zr (aD hb Aa c2) d os;have cA:=fun d os=>Zh (Ai.o (grow (redrawn wb d) os));have cB:=fun d os=>Zh (HW.o (grow (redrawn wb d) os))
     go_big_quiet_step (first | with_reducible exact cA _ _ | with_reducible exact cB _ _)
     refine Xf ?_;simp only [List.getElem?_toArray,Zb,Yz];exact rfl
    simp only [Act.put,Yd,Ye,Yf]
   refine⟨aC u0 u1 u2,rfl,rfl,by simp [aC,Value.oneCell'],fun W hB hz=>?_⟩;have Ac:=Hd (bF hB Ah.o (Yh _) (Nat.le_succ _));have Ad:=Hd hz;clear hB hz
   go_wp2_with fail
   exact Zt (aL (p:=4) (u:=5) rfl _ _ (w.heap.size+1) u0 u1 u2 rfl Ad.o) rfl ⟨u0,u1,u2,(by rw [show o=none by(rw [<- Ab.o];rfl)];rfl),fun t ht=>(by rw [show o=none by(rw [<- Ab.o];rfl)] at ht;cases ht),Ac.o⟩
  | true=>
   rcases iC z0 z1 z2 u0 u1 0 with⟨rfl,rfl,rfl,he⟩|⟨h1,he⟩|⟨rfl,h1,he⟩|⟨rfl,rfl,h1,he⟩
   . clear he;refine bZ (l1:=[_,_,_,_,_,_,_,_,_,_,_,_,_,_,_,_,_,_,_,_,_,_,_,_]) (os:=_) (l2:=[_]) (p:=4) (tx:=87) (r:=w.heap.size+1) (T:=38) (zc:=aC 0 0 0) (by kernel_rfl) (by kernel_rfl) rfl HR.o rfl bW ?_
     repeat
      apply bR rfl (by simp)
      case h1=>
       intro wb hb;have l0:=fun d os=>Zr (aD hb Aa a0) d os;have l1:=fun d os=>Zr (aD hb Aa a1) d os;have l2:=fun d os=>Zr (aD hb Aa a2) d os;have l3:=fun d os=>Zr (aD hb Aa b0) d os;have l4:=fun d os=>Zr (aD hb Aa b1) d os;have l5:=fun d os=>Zr (aD hb Aa b2) d os;have l6:=fun d os=>Zr (aD hb Aa c0) d os;have l7:=fun d os=>Zr (aD hb Aa c1) d os;have l8:=fun d os=>Zr (aD hb Aa c2) d os;have cA:=fun d os=>Zh (Ai.o (grow (redrawn wb d) os));have cB:=fun d os=>Zh (HW.o (grow (redrawn wb d) os))
       go_big_quiet_step (first | with_reducible exact cA _ _ | with_reducible exact cB _ _)
       refine Xf ?_;simp only [List.getElem?_toArray,Zb,Yz];exact rfl
      simp only [Act.put,Yd,Ye,Yf]
     refine⟨aC _ _ u2,rfl,rfl,by simp [aC,Value.oneCell'],fun W hB hz=>?_⟩;have Ac:=Hd (bF hB Ah.o (Yh _) (Nat.le_succ _));have Ad:=Hd hz;clear hB hz
     go_wp2_with fail
     exact Zt (aL (p:=4) (u:=5) rfl _ _ (w.heap.size+1) z0 z1 u2 rfl Ad.o) rfl ⟨z0,z1,u2,(by rw [show o=some (z0,z1,u2) by(rw [<- Ab.o];simp)];rfl),fun t ht=>(by rw [show o=some (z0,z1,u2) by(rw [<- Ab.o];simp)] at ht;exact(Option.some.inj ht).symm),Ac.o⟩
   . have HE:=Hd he;have Aj:=h1;simp only [Xa,ne_eq] at Aj;clear he;refine bZ (l1:=[_,_,_,_,_,_,_,_,_,_,_,_,_,_,_,_,_,_,_,_,_,_,_,_]) (os:=_) (l2:=[_]) (p:=4) (tx:=87) (r:=w.heap.size+1) (T:=38) (zc:=aC 0 0 0) (by kernel_rfl) (by kernel_rfl) rfl HR.o rfl bW ?_
     repeat
      apply bR rfl (by simp)
      case h1=>
       intro wb hb;have l0:=fun d os=>Zr (aD hb Aa a0) d os;have l1:=fun d os=>Zr (aD hb Aa a1) d os;have l2:=fun d os=>Zr (aD hb Aa a2) d os;have l3:=fun d os=>Zr (aD hb Aa b0) d os;have l4:=fun d os=>Zr (aD hb Aa b1) d os;have l5:=fun d os=>Zr (aD hb Aa b2) d os;have l6:=fun d os=>Zr (aD hb Aa c0) d os;have l7:=fun d os=>Zr (aD hb Aa c1) d os;have l8:=fun d os=>Zr (aD hb Aa c2) d os;have cA:=fun d os=>Zh (Ai.o (grow (redrawn wb d) os));have cB:=fun d os=>Zh (HW.o (grow (redrawn wb d) os))
       go_big_quiet_step (first | with_reducible exact cA _ _ | with_reducible exact cB _ _)
       refine Xf ?_;simp only [List.getElem?_toArray,Zb,Yz];exact rfl
      simp only [Act.put,Yd,Ye,Yf]
     refine⟨aC _ _ u2,rfl,rfl,by simp [aC,Value.oneCell'],fun W hB hz=>?_⟩;have Ac:=Hd (bF hB Ah.o (Yh _) (Nat.le_succ _));have Ad:=Hd hz;clear hB hz
     go_wp2_with fail
     exact Zt (aL (p:=4) (u:=5) rfl _ _ (w.heap.size+1) _ _ u2 rfl Ad.o) rfl ⟨_,_,u2,(by rw [show o=none by(rw [<- Ab.o];(exact if_neg (fun h=>HE.o (of_decide_eq_true (by rw [Bool.true_and,Bool.true_and] at h;exact h)))))];rfl),fun t ht=>(by rw [show o=none by(rw [<- Ab.o];(exact if_neg (fun h=>HE.o (of_decide_eq_true (by rw [Bool.true_and,Bool.true_and] at h;exact h)))))] at ht;cases ht),Ac.o⟩
   . have HE:=Hd he;have Aj:=h1;simp only [Xa,ne_eq] at Aj;clear he;refine bZ (l1:=[_,_,_,_,_,_,_,_,_,_,_,_,_,_,_,_,_,_,_,_,_,_,_,_]) (os:=_) (l2:=[_]) (p:=4) (tx:=87) (r:=w.heap.size+1) (T:=38) (zc:=aC 0 0 0) (by kernel_rfl) (by kernel_rfl) rfl HR.o rfl bW ?_
     repeat
      apply bR rfl (by simp)
      case h1=>
       intro wb hb;have l0:=fun d os=>Zr (aD hb Aa a0) d os;have l1:=fun d os=>Zr (aD hb Aa a1) d os;have l2:=fun d os=>Zr (aD hb Aa a2) d os;have l3:=fun d os=>Zr (aD hb Aa b0) d os;have l4:=fun d os=>Zr (aD hb Aa b1) d os;have l5:=fun d os=>Zr (aD hb Aa b2) d os;have l6:=fun d os=>Zr (aD hb Aa c0) d os;have l7:=fun d os=>Zr (aD hb Aa c1) d os;have l8:=fun d os=>Zr (aD hb Aa c2) d os;have cA:=fun d os=>Zh (Ai.o (grow (redrawn wb d) os));have cB:=fun d os=>Zh (HW.o (grow (redrawn wb d) os))
       go_big_quiet_step (first | with_reducible exact cA _ _ | with_reducible exact cB _ _)
       refine Xf ?_;simp only [List.getElem?_toArray,Zb,Yz];exact rfl
      simp only [Act.put,Yd,Ye,Yf]
     refine⟨aC _ _ u2,rfl,rfl,by simp [aC,Value.oneCell'],fun W hB hz=>?_⟩;have Ac:=Hd (bF hB Ah.o (Yh _) (Nat.le_succ _));have Ad:=Hd hz;clear hB hz
     go_wp2_with fail
     exact Zt (aL (p:=4) (u:=5) rfl _ _ (w.heap.size+1) _ _ u2 rfl Ad.o) rfl ⟨_,_,u2,(by rw [show o=none by(rw [<- Ab.o];(exact if_neg (fun h=>HE.o (of_decide_eq_true (by rw [Bool.true_and,Bool.true_and] at h;exact h)))))];rfl),fun t ht=>(by rw [show o=none by(rw [<- Ab.o];(exact if_neg (fun h=>HE.o (of_decide_eq_true (by rw [Bool.true_and,Bool.true_and] at h;exact h)))))] at ht;cases ht),Ac.o⟩
   . have HE:=Hd he;have Aj:=h1;simp only [Xa,ne_eq] at Aj;clear he;refine bZ (l1:=[_,_,_,_,_,_,_,_,_,_,_,_,_,_,_,_,_,_,_,_,_,_,_,_]) (os:=_) (l2:=[_]) (p:=4) (tx:=87) (r:=w.heap.size+1) (T:=38) (zc:=aC 0 0 0) (by kernel_rfl) (by kernel_rfl) rfl HR.o rfl bW ?_
     repeat
      apply bR rfl (by simp)
      case h1=>
       intro wb hb;have l0:=fun d os=>Zr (aD hb Aa a0) d os;have l1:=fun d os=>Zr (aD hb Aa a1) d os;have l2:=fun d os=>Zr (aD hb Aa a2) d os;have l3:=fun d os=>Zr (aD hb Aa b0) d os;have l4:=fun d os=>Zr (aD hb Aa b1) d os;have l5:=fun d os=>Zr (aD hb Aa b2) d os;have l6:=fun d os=>Zr (aD hb Aa c0) d os;have l7:=fun d os=>Zr (aD hb Aa c1) d os;have l8:=fun d os=>Zr (aD hb Aa c2) d os;have cA:=fun d os=>Zh (Ai.o (grow (redrawn wb d) os));have cB:=fun d os=>Zh (HW.o (grow (redrawn wb d) os))
       go_big_quiet_step (first | with_reducible exact cA _ _ | with_reducible exact cB _ _)
       refine Xf ?_;simp only [List.getElem?_toArray,Zb,Yz];exact rfl
      simp only [Act.put,Yd,Ye,Yf]
     refine⟨aC _ _ u2,rfl,rfl,by simp [aC,Value.oneCell'],fun W hB hz=>?_⟩;have Ac:=Hd (bF hB Ah.o (Yh _) (Nat.le_succ _));have Ad:=Hd hz;clear hB hz
     go_wp2_with fail
     exact Zt (aL (p:=4) (u:=5) rfl _ _ (w.heap.size+1) _ _ u2 rfl Ad.o) rfl ⟨_,_,u2,(by rw [show o=none by(rw [<- Ab.o];(exact if_neg (fun h=>HE.o (of_decide_eq_true (by rw [Bool.true_and,Bool.true_and] at h;exact h)))))];rfl),fun t ht=>(by rw [show o=none by(rw [<- Ab.o];(exact if_neg (fun h=>HE.o (of_decide_eq_true (by rw [Bool.true_and,Bool.true_and] at h;exact h)))))] at ht;cases ht),Ac.o⟩
end
section
open Go.RowKit Go.Sort Go.BigFrame
theorem aIk(x:Ex) (A:Option Addr) (ca:Nat) (B:Option Addr) (cb:Nat) (S:Option Addr) (m sc:Nat) (ts:List T3) (w:World) (hS:aM w S m ts) (hk:x.k=14) (hm:1<=m) (o:Option T3) (ho:(if(dH ts && decide ((aB ts 0).2.2=0))=true then some ((aB ts 0).1,(aB ts 0).2.1,(ts.length:Int)) else none)=o):
 Calls Tryz.prog 82 #[.agg (aE x A ca B cb),.slice S m sc] w (eV w o):=by
 have HF:=Hd fun w0 h=>mW (w:=w) (w0:=w0) (x:=x) (A:=A) (ca:=ca) (B:=B) (cb:=cb) (T:=35) (U:=38) h;obtain⟨sb,so,rfl,Am,As⟩:=hS.at_ (i:=0) (by omega);obtain⟨a0,a1,a2⟩:=As 0 (by omega);simp only [Nat.zero_mul,Nat.add_zero,Nat.one_mul] at a0 a1 a2;have Bf:=hS.len;have Bk:=Hd fun w1 (hb:Below w.heap.size w w1)=>hS.below hb;have Ad:=Hd fun w1 (hb:Below w.heap.size w w1)=>aDl (some ⟨sb,so,none⟩) m sc ts w1 (hS.below hb);unfold aE at HF ⊢;rw [hk] at HF ⊢;clear hS As hk;rw [Bf] at ho;generalize dH ts=al at *;generalize aB ts 0=u at *;obtain⟨u0,u1,u2⟩:=u
 dsimp only at a0 a1 a2 ho
 have Ae:=Hd ho;clear ho
 go_enter Tryz.func82,Tryz.ntmps82
 go_upto_region 1 with(fail)
 generalize Ar:(w.alloc _).alloc _=w0;obtain⟨hR,Aa,Aj,Bg⟩:=HF.o w0 Ar;have HR:=Hd hR;have Al:=Hd Aj;have q0:=Aa w0 (Yg _ _) 0;have q3:=Aa w0 (Yg _ _) 3;simp only [Ya,Yb,Yc] at q0 q3;have a0:=(Aj.cell (p:=⟨sb,so,none⟩) Am).trans a0;have a1:=(Aj.cell (p:=⟨sb,so+1,none⟩) Am).trans a1;have a2:=(Aj.cell (p:=⟨sb,so+2,none⟩) Am).trans a2;have Bl:0<m:=by omega
 clear Ar hR Aa Aj Bg HF hm
 go_upto_region 9 with(fail)
 have Bh:sb<w0.heap.size:=Yr Am Al.o.size;clear q0 q3
 go_upto_region 10 with(refine Zu rfl _ _ _ rfl w0.heap.size _ rfl rfl _ _ (Zw _ _) bW rfl (by simp [Value.oneCell']) ?_)
 generalize Ao:World.setRow _ _ _=w1;generalize hG:w0.heap.size=G at *
 have h1:F3 38 w1 G u0 u1 u2/\F3 38 w1 (w.heap.size+1) 0 0 0/\Below w.heap.size w w1/\Below G w0 w1:=by
  have Au:=HR.o.lt;have Aw:=Al.o.size;have hA:Below G w0 (w0.alloc (.cells #[.int .i64 0,.int .i64 0,.int .i64 0] 38)):=(Yg _ _).alloc (by omega) _;have hS:Below G w0 w1:=by rw [<- Ao];exact Xb hA (Yh _) _
  refine⟨?_,?_,Al.o.trans (hS.mono (by omega)),hS⟩
  . rw [<- Ao];exact Xc _ _ _ _ _ _ (by rw [<- hG];exact Zw _ _)
  . exact HR.o.below (by rw [hG];exact hS)
 obtain⟨Ak,Bc,Ax,Ai⟩:=h1;have Aw:=Al.o.size;have Au:=HR.o.lt;have Ab:G≠w.heap.size+1:=by omega
 have Aq:sb≠w.heap.size+1:=by omega
 have Ap:sb≠G:=by omega
 have Bm:w.heap.size<=G:=by omega
 have a2:=(Ai.cell (p:=⟨sb,so+2,none⟩) (by omega)).trans a2;have q2:=Ak.cell 2;simp only [aC,List.getElem?_toArray,Yz,Zb] at q2;have fz:=frozen_of_row w1 G 2 _ _ Ak;have Bi:=Hd Bc;have Bj:=Hd Ax;have Av:=Hd Ak;clear Ao Bc Ax Ak Ai hG Au Aw a0 a1
 go_upto_region 11 with(fail)
 generalize Bd:w1.setCell ⟨G,2,none⟩ (.int .i64 _)=w2
 have h2:F3 38 w2 G u0 u1 m/\F3 38 w2 (w.heap.size+1) 0 0 0/\Below w.heap.size w w2/\w2.cell? ⟨sb,so+2,none⟩=some (.int .i64 u2):=by
  rw [<- Bd,Xd _ _ _ _ _ _ _ Av.o,show(aC u0 u1 u2).setIfInBounds 2 (.int .i64 m)=aC u0 u1 m from rfl];refine⟨Xc _ _ _ _ _ _ Av.o,(setRow_other _ _ _ _ (by omega)).trans Bi.o,Xb Bj.o (by omega) _,?_⟩;rw [<- a2];unfold World.cell?;rw [show(w1.setRow G (aC u0 u1 m)).heap[(⟨sb,so+2,none⟩:Addr).block]?=w1.heap[(⟨sb,so+2,none⟩:Addr).block]? from setRow_other _ _ _ _ Ap]
 obtain⟨Bb,Az,Ay,Ba⟩:=h2;obtain⟨g0,g1,g2,-,-,-⟩:=Sx Bb.cell;simp only [aC,List.getElem?_toArray,Yz,Zb] at g0 g1 g2;have An:=Hd Az;have Af:=Hd Ay;clear Bd Az Ay Bb q2 fz a2;have a2:=Ba;clear Ba
 cases al with
 | false=>
  refine bZ (l1:=[_,_,_,_,_,_,_,_,_,_]) (os:=_) (l2:=[_]) (p:=4) (tx:=58) (r:=w.heap.size+1) (T:=38) (zc:=aC 0 0 0) (by kernel_rfl) (by kernel_rfl) rfl An.o rfl bW ?_
  repeat
   apply bR rfl (by simp)
   case h1=>
    intro wb hb;have Ac:=bF hb Af.o (Yh _) (Nat.le_succ _);have l0:=fun d os=>Zr (aD hb Ab g0) d os;have l1:=fun d os=>Zr (aD hb Ab g1) d os;have l2:=fun d os=>Zr (aD hb Ab g2) d os;have l3:=fun d os=>Zr (aD hb Aq a2) d os;have cA:=fun d os=>Zh (Ad.o (grow (redrawn wb d) os) (Ac.trans ((Zs wb d os).mono Ac.size)))
    go_big_quiet_step (first | with_reducible exact cA _ _)
    refine Xf ?_;simp only [List.getElem?_toArray,Zb,Yz];exact rfl
   simp only [Act.put,Yd,Ye,Yf]
  refine⟨aC u0 u1 (m:Int),rfl,rfl,by simp [aC,Value.oneCell'],fun W hB hz=>?_⟩;have Ag:=Hd (bF hB Af.o (Yh _) (Nat.le_succ _));have Ah:=Hd hz;clear hB hz
  go_wp2_with fail
  exact Zt (aL (p:=4) (u:=5) rfl _ _ (w.heap.size+1) u0 u1 (m:Int) rfl Ah.o) rfl ⟨u0,u1,(m:Int),(by rw [show o=none by(rw [<- Ae.o];rfl)];rfl),fun t ht=>(by rw [show o=none by(rw [<- Ae.o];rfl)] at ht;cases ht),Ag.o⟩
 | true=>
  cases hd:decide (u2=0) with
  | false=>
   have Be:(u2==0)=false:=by simpa using hd
   refine bZ (l1:=[_,_,_,_,_,_,_,_,_,_]) (os:=_) (l2:=[_]) (p:=4) (tx:=58) (r:=w.heap.size+1) (T:=38) (zc:=aC 0 0 0) (by kernel_rfl) (by kernel_rfl) rfl An.o rfl bW ?_
   repeat
    apply bR rfl (by simp)
    case h1=>
     intro wb hb;have Ac:=bF hb Af.o (Yh _) (Nat.le_succ _);have l0:=fun d os=>Zr (aD hb Ab g0) d os;have l1:=fun d os=>Zr (aD hb Ab g1) d os;have l2:=fun d os=>Zr (aD hb Ab g2) d os;have l3:=fun d os=>Zr (aD hb Aq a2) d os;have cA:=fun d os=>Zh (Ad.o (grow (redrawn wb d) os) (Ac.trans ((Zs wb d os).mono Ac.size)))
     go_big_quiet_step (first | with_reducible exact cA _ _)
     refine Xf ?_;simp only [List.getElem?_toArray,Zb,Yz];exact rfl
    simp only [Act.put,Yd,Ye,Yf]
   refine⟨aC u0 u1 (m:Int),rfl,rfl,by simp [aC,Value.oneCell'],fun W hB hz=>?_⟩;have Ag:=Hd (bF hB Af.o (Yh _) (Nat.le_succ _));have Ah:=Hd hz;clear hB hz
   go_wp2_with fail
   exact Zt (aL (p:=4) (u:=5) rfl _ _ (w.heap.size+1) u0 u1 (m:Int) rfl Ah.o) rfl ⟨u0,u1,(m:Int),(by rw [show o=none by(rw [<- Ae.o];rw [hd];rfl)];rfl),fun t ht=>(by rw [show o=none by(rw [<- Ae.o];rw [hd];rfl)] at ht;cases ht),Ag.o⟩
  | true=>
   have Be:u2=0:=of_decide_eq_true hd;subst Be;refine bZ (l1:=[_,_,_,_,_,_,_,_,_,_]) (os:=_) (l2:=[_]) (p:=4) (tx:=58) (r:=w.heap.size+1) (T:=38) (zc:=aC 0 0 0) (by kernel_rfl) (by kernel_rfl) rfl An.o rfl bW ?_
   repeat
    apply bR rfl (by simp)
    case h1=>
     intro wb hb;have Ac:=bF hb Af.o (Yh _) (Nat.le_succ _);have l0:=fun d os=>Zr (aD hb Ab g0) d os;have l1:=fun d os=>Zr (aD hb Ab g1) d os;have l2:=fun d os=>Zr (aD hb Ab g2) d os;have l3:=fun d os=>Zr (aD hb Aq a2) d os;have cA:=fun d os=>Zh (Ad.o (grow (redrawn wb d) os) (Ac.trans ((Zs wb d os).mono Ac.size)))
     go_big_quiet_step (first | with_reducible exact cA _ _)
     refine Xf ?_;simp only [List.getElem?_toArray,Zb,Yz];exact rfl
    simp only [Act.put,Yd,Ye,Yf]
   refine⟨aC u0 u1 (m:Int),rfl,rfl,by simp [aC,Value.oneCell'],fun W hB hz=>?_⟩;have Ag:=Hd (bF hB Af.o (Yh _) (Nat.le_succ _));have Ah:=Hd hz;clear hB hz
   go_wp2_with fail
   exact Zt (aL (p:=4) (u:=5) rfl _ _ (w.heap.size+1) u0 u1 (m:Int) rfl Ah.o) rfl ⟨u0,u1,(m:Int),(by rw [show o=some (u0,u1,(m:Int)) by(rw [<- Ae.o];rfl)];rfl),fun t ht=>(by rw [show o=some (u0,u1,(m:Int)) by(rw [<- Ae.o];rfl)] at ht;exact(Option.some.inj ht).symm),Ag.o⟩
end
section
open Go.RowKit
def mE(k:Int):Nat:=if(k==5)=true then 1 else if(k==6)=true then 2 else if(k==7)=true then 3 else if(k==14)=true then 1 else if(k==15)=true then 2 else 3
theorem aKm(x:Ex) (A:Option Addr) (ca:Nat) (B:Option Addr) (cb:Nat) (S:Option Addr) (m sc:Nat) (ts:List T3) (w:World) (hS:aM w S m ts)
 (hk:x.k=5\/x.k=6\/x.k=7\/x.k=14\/x.k=15\/x.k=16) (hm:mE x.k<=m):
 Calls Tryz.prog 82 #[.agg (aE x A ca B cb),.slice S m sc] w (eV w (fW x ts)):=by
 rcases hk with hk | hk | hk | hk | hk | hk
 . have h:=aKh x A ca B cb S m sc ts w hS hk (by rw [hk] at hm;exact hm);unfold fW;rw [hk];exact h
 . have h:=aKi x A ca B cb S m sc ts w hS hk (by rw [hk] at hm;exact hm);unfold fW;rw [hk];exact h
 . have h:=aKj x A ca B cb S m sc ts w hS hk (by rw [hk] at hm;exact hm);unfold fW;rw [hk];exact h
 . have h:=aIk x A ca B cb S m sc ts w hS hk (by rw [hk] at hm;exact hm) _ rfl;unfold fW;rw [hk];exact h
 . have h:=aIi x A ca B cb S m sc ts w hS hk (by rw [hk] at hm;exact hm);unfold fW;rw [hk];exact h
 . have h:=aIj x A ca B cb S m sc ts w hS hk (by rw [hk] at hm;exact hm) _ rfl;unfold fW;rw [hk];exact h
end
section
open Go.RowKit Go.Sort Go.BigFrame
def qV(od:Option Dc) (f:Dc->Bool) (t:T3):Option T3:=match od with | none=>none | some d=>if f d=true then some t else none
theorem aPt{od:Option Dc}{f:Dc->Bool}{t:T3}(h:od.isSome=false):qV od f t=none:=by cases od;rfl;cases h
theorem aPu{od:Option Dc}{f:Dc->Bool}{t:T3}{dd:Dc}(h:od.isSome=true) (hd:od.getD default=dd):qV od f t=if f dd=true then some t else none:=by
 subst hd
 cases od with
 | none=>cases h
 | some d=>rfl
theorem aKn(p:Pg) (E:Option Addr) (ec:Nat) (N:Option Addr) (nc:Nat) (i:Nat) (x:Ex) (A:Option Addr) (ca:Nat) (B:Option Addr) (cb:Nat) (S:Option Addr) (m sc:Nat) (ts:List T3) (w:World) (h:cW w p E N) (hr:aJ w x A B) (hS:aM w S m ts) (hk:x.k=12) (hm:1<=m) (hi:i<p.ns.length) (Bq:(aA p i).all.length<=1000) (Bf:∀ d,aW (aA p i) x.s=some d->bH p.es.length d.k d.e d.l=true) (o:Option T3) (ho:qV (aW (aA p i) x.s) (fun d=>dH ts && jK p.es (aO d) x.arms) (aB ts 0)=o):
 Calls Tryz.prog 81 #[.agg (aP p E ec N nc),.int .i64 i,.agg (aE x A ca B cb),.slice S m sc] w (eV w o):=by
 have HF:=Hd fun w0 h=>lA (w:=w) (w0:=w0) (p:=p) (E:=E) (ec:=ec) (N:=N) (nc:=nc) (x:=x) (A:=A) (ca:=ca) (B:=B) (cb:=cb) (T:=25) (U:=35) (V:=38) h;obtain⟨nb,no,A1,c1,A2,c2,A3,c3,A4,c4,rfl,Ak,Bb,d0,d1,d2,d3,d4⟩:=iN h.2 hi;have Aj:=Hd fun w1 (hb:Below w.heap.size w w1)=>oY (aA p i) A1 c1 A2 c2 A3 c3 A4 c4 x.s w1 (Bb.below hb) Bq;obtain⟨sb,so,rfl,Aw,Ba⟩:=hS.at_ (i:=0) (by omega);obtain⟨a0,a1,a2⟩:=Ba 0 (by omega);simp only [Nat.zero_mul,Nat.add_zero] at a0 a1 a2
 have Bc:=Hd (show ∀ w1,Below w.heap.size w w1->w1.cell? ⟨sb,so,none⟩=some (.int .i64 (aB ts 0).1)/\w1.cell? ⟨sb,so+1,none⟩=some (.int .i64 (aB ts 0).2.1)/\w1.cell? ⟨sb,so+2,none⟩=some (.int .i64 (aB ts 0).2.2) from
  fun w1 hb=>⟨(hb.cell (p:=⟨sb,so,none⟩) Aw).trans a0,(hb.cell (p:=⟨sb,so+1,none⟩) Aw).trans a1,(hb.cell (p:=⟨sb,so+2,none⟩) Aw).trans a2⟩)
 have Am:=Hd fun w1 (hb:Below w.heap.size w w1)=>aDl (some ⟨sb,so,none⟩) m sc ts w1 (hS.below hb);have An:=Hd fun d (hd:aW (aA p i) x.s=some d) w1 (hb:Below w.heap.size w w1)=>aKf E p.es.length ec p.es d.k d.e d.l A x.arms.length ca x.arms w1 (h.1.below hb) (hr.arms.below hb) (Bf d hd);have Bg:=Hd (show(fun d=>dH ts && jK p.es (aO d) x.arms)=(fun d:Dc=>dH ts && jK p.es (d.k,d.e,d.l) x.arms) from rfl);rw [Bg.o] at ho;clear Bg Bf;clear a0 a1 a2 Ba hS;generalize dH ts=al at *;generalize aB ts 0=tx at *;obtain⟨x0,x1,x2⟩:=tx
 dsimp only at Bc
 unfold aA at Aj ho An;unfold mB nG at Aj;generalize Br:aW (p.ns[i]?.getD default) x.s=od at *;generalize Bj:p.ns[i]?.getD default=nd at *;unfold bL at Aj;unfold aE at HF ⊢;unfold aP at HF ⊢;rw [hk] at HF ⊢
 have HD:=Hd (show ∀ w1,Below w.heap.size w w1->w1.cell? ⟨nb,no+i*5,none⟩=some (.string nd.nm)/\w1.cell? ⟨nb,no+i*5+1,none⟩=some (.slice A1 nd.ins.length c1)/\w1.cell? ⟨nb,no+i*5+2,none⟩=some (.slice A2 nd.outs.length c2)/\w1.cell? ⟨nb,no+i*5+3,none⟩=some (.slice A3 nd.vars.length c3)/\w1.cell? ⟨nb,no+i*5+4,none⟩=some (.slice A4 nd.eqs.length c4) from
  fun w1 hb=>⟨(hb.cell (p:=⟨nb,no+i*5,none⟩) Ak).trans d0,(hb.cell (p:=⟨nb,no+i*5+1,none⟩) Ak).trans d1,(hb.cell (p:=⟨nb,no+i*5+2,none⟩) Ak).trans d2,(hb.cell (p:=⟨nb,no+i*5+3,none⟩) Ak).trans d3,(hb.cell (p:=⟨nb,no+i*5+4,none⟩) Ak).trans d4⟩)
 clear d0 d1 d2 d3 d4 Bb hk h hr;generalize Bi:od.getD default=dd at *;generalize Az:od.isSome=ds at *;unfold bC at Aj;unfold aC at An;have HO:=Hd (show qV od (fun d=>al && jK p.es (d.k,d.e,d.l) x.arms) (x0,x1,x2)=o from ho);have Bh:=Hd Bi;have As:=Hd Az;clear ho Bi Az Bj
 go_enter Tryz.func81,Tryz.ntmps81
 go_upto_region 1 with(fail)
 generalize Ay:((w.alloc _).alloc _).alloc _=w0;obtain⟨Ax,Bm,hp,hx,hR⟩:=HF.o w0 Ay;have Af:=Hd Ax;have HR:=Hd hR;have HP:=Hd hp;have HX:=Hd hx;have q0:=hx w0 (Yg _ _) 0;have q2:=hx w0 (Yg _ _) 2;have p1:=hp w0 (Yg _ _) 1;simp only [Ya,Yb,Yc] at q0 q2 p1;obtain⟨d0,d1,d2,d3,d4⟩:=HD.o w0 Ax;have HQ:=Hd (show ∀ w1,Below w0.heap.size w0 w1->w1.cell? ⟨w.heap.size,1,none⟩=some (.slice (some ⟨nb,no,none⟩) p.ns.length nc)/\w1.cell? ⟨w.heap.size+1,2,none⟩=some (.string x.s)/\w1.cell? ⟨nb,no+i*5,none⟩=some (.string nd.nm)/\w1.cell? ⟨nb,no+i*5+1,none⟩=some (.slice A1 nd.ins.length c1)/\w1.cell? ⟨nb,no+i*5+2,none⟩=some (.slice A2 nd.outs.length c2)/\w1.cell? ⟨nb,no+i*5+3,none⟩=some (.slice A3 nd.vars.length c3)/\w1.cell? ⟨nb,no+i*5+4,none⟩=some (.slice A4 nd.eqs.length c4) from fun w1 hb=>⟨HP.o w1 hb 1,HX.o w1 hb 2,HD.o w1 (Af.o.trans (hb.mono Af.o.size))⟩);clear Ay Ax Bm hp hx hR HF
 go_upto_region 5 with(fail)
 go_cut [10,11] (fun Bp Bo wx=>Bo=.bool ds/\∃ g,Bp=.pointer (some ⟨g,0,none⟩)/\w0.heap.size<=g/\jO wx g dd/\Below w0.heap.size w0 wx)
 case first=>
  have HL:=Hd (show ∀ wb,bY w0 wb->_ from fun wb hb=>HQ.o wb (cI hb));have Bk:=Hd (show ∀ wb,bY w0 wb->∀ d os,_ from fun wb hb d os=>Zh (Aj.o (grow (redrawn wb d) os) ((Af.o.trans ((cI hb).mono Af.o.size)).trans ((Zs wb d os).mono (Af.o.trans ((cI hb).mono Af.o.size)).size))));refine vN (l1:=[_,_,_,_,_,_,_,_,_,_,_]) (oa:=_) (os:=_) (l2:=[_]) (d:=10) (tx:=45) (T:=58) (zc:=pT) (by kernel_rfl) (by kernel_rfl) rfl (by simp) (fun a W=>by rfl) rfl (by kernel_rfl) ?_
  repeat
   apply bR rfl (by simp)
   case h1=>
    intro wb hb;obtain⟨m0,m1,m2,m3,m4,m5,m6⟩:=HL.o wb hb;have l0:=fun d os=>Zr m0 d os;have l1:=fun d os=>Zr m1 d os;have l2:=fun d os=>Zr m2 d os;have l3:=fun d os=>Zr m3 d os;have l4:=fun d os=>Zr m4 d os;have l5:=fun d os=>Zr m5 d os;have l6:=fun d os=>Zr m6 d os;have cA:=Bk.o wb hb
    go_big_quiet_step (with_reducible exact cA _ _)
    exact Xf rfl
   simp only [Act.put,Yd,Ye,Yf]
  refine⟨bC dd,rfl,rfl,by simp [bC,Value.oneCell'],fun W g hW hg hz=>?_⟩;have Aa:=Hd (cI hW);have HZ:=Hd hz;have HG:=Hd hg;clear hW hg hz
  go_wp2_with fail
  go_meet
  case rel=>exact⟨rfl,g,rfl,HG.o,HZ.o,Aa.o⟩
 case rest=>
  obtain⟨rfl,g,rfl,hg,hz,Ai⟩:=hcut;generalize wc=wx at *;have HZ:=Hd hz;have HG:=Hd hg;have Bu:=Hd Ai;have q0:=HX.o wx Ai 0;have Ar:=Hd (fun W h=>HX.o W h 4);have Au:=Hd (fun W h=>HP.o W h 0);simp only [Ya,Yb,Yc] at Ar Au;simp only [Ya,Yb,Yc] at q0;have Aq:=Af.o.trans (Ai.mono Af.o.size);obtain⟨a0,a1,a2⟩:=Bc.o wx Aq;have p0:=Au.o wx Ai;have q4:=Ar.o wx Ai;have Bd:F3 38 wx (w.heap.size+1+1) 0 0 0:=HR.o.below Ai;have Bl:=HR.o.lt;have Ab:sb≠w.heap.size+1+1:=by omega
  have Ad:g≠w.heap.size+1+1:=by have:=HG.o;omega
  have Ao:w.heap.size≠w.heap.size+1+1:=by omega
  have Ap:w.heap.size+1≠w.heap.size+1+1:=by omega
  have k1:=gV HZ.o 1;have k2:=gV HZ.o 2;have k3:=gV HZ.o 3;simp only [bC,List.getElem?_toArray,Yz,Zb] at k1 k2 k3;have Al:=Hd Bd;have Aa:=Hd Aq;have Ac:=Hd (show w.heap.size<=w.heap.size+1+1 by omega);clear hz hg Ai Aj HD HQ d0 d1 d2 d3 d4 p1 q2 Bd Aq Bl Ar Au
  go_upto_region 10 with(fail)
  have Bt:0<m:=hm
  cases ds with
  | false=>
   have Ae:=Hd (show o=none by rw [<- HO.o];exact aPt As.o);refine bZ (l1:=[_,_,_,_,_,_,_,_,_,_,_,_,_,_,_,_,_]) (os:=_) (l2:=[_]) (p:=8) (tx:=79) (r:=w.heap.size+1+1) (T:=38) (zc:=aC 0 0 0) (by kernel_rfl) (by kernel_rfl) rfl Al.o rfl bW ?_
   repeat
    apply bR rfl (by simp)
    case h1=>
     intro wb hb;have l0:=fun d os=>Zr (aD hb Ab a0) d os;have l1:=fun d os=>Zr (aD hb Ab a1) d os;have l2:=fun d os=>Zr (aD hb Ab a2) d os;have l3:=fun d os=>Zr (aD hb Ad k1) d os;have l4:=fun d os=>Zr (aD hb Ad k2) d os;have l5:=fun d os=>Zr (aD hb Ad k3) d os;have l6:=fun d os=>Zr (aD hb Ao p0) d os;have l7:=fun d os=>Zr (aD hb Ap q4) d os;have hW:=fun d os=>(bF hb Aa.o (Yh _) Ac.o).trans ((Zs wb d os).mono (bF hb Aa.o (Yh _) Ac.o).size);have cA:=fun d os=>Zh (Am.o (grow (redrawn wb d) os) (hW d os));clear hW
     go_big_quiet_step (with_reducible exact cA _ _)
     refine Xf ?_;simp only [List.getElem?_toArray,Zb,Yz];exact rfl
    simp only [Act.put,Yd,Ye,Yf]
   refine⟨aC x0 x1 x2,rfl,rfl,by simp [aC,Value.oneCell'],fun W hB hz=>?_⟩;have Ag:=Hd (bF hB Aa.o (Yh _) Ac.o);have Ah:=Hd hz;clear hB hz
   go_wp2_with fail
   exact Zt (aL (p:=8) (u:=9) rfl _ _ (w.heap.size+1+1) x0 x1 x2 rfl Ah.o) rfl ⟨x0,x1,x2,(by rw [Ae.o];rfl),fun t ht=>(by rw [Ae.o] at ht;cases ht),Ag.o⟩
  | true=>
   have Av:=Hd (aPu (f:=fun d=>al && jK p.es (d.k,d.e,d.l) x.arms) (t:=(x0,x1,x2)) As.o Bh.o);have Be:=Hd (fun w1 hb=>An.o dd (by have h1:=As.o;have h2:=Bh.o;cases od with | none=>cases h1 | some d=>exact congrArg some h2) w1 hb);clear An;generalize jK p.es (dd.k,dd.e,dd.l) x.arms=Bn at *
   cases al with
   | false=>
    have Ae:=Hd (show o=none by rw [<- HO.o,Av.o];rfl);refine bZ (l1:=[_,_,_,_,_,_,_,_,_,_,_,_,_,_,_,_,_]) (os:=_) (l2:=[_]) (p:=8) (tx:=79) (r:=w.heap.size+1+1) (T:=38) (zc:=aC 0 0 0) (by kernel_rfl) (by kernel_rfl) rfl Al.o rfl bW ?_
    repeat
     apply bR rfl (by simp)
     case h1=>
      intro wb hb;have l0:=fun d os=>Zr (aD hb Ab a0) d os;have l1:=fun d os=>Zr (aD hb Ab a1) d os;have l2:=fun d os=>Zr (aD hb Ab a2) d os;have l3:=fun d os=>Zr (aD hb Ad k1) d os;have l4:=fun d os=>Zr (aD hb Ad k2) d os;have l5:=fun d os=>Zr (aD hb Ad k3) d os;have l6:=fun d os=>Zr (aD hb Ao p0) d os;have l7:=fun d os=>Zr (aD hb Ap q4) d os;have hW:=fun d os=>(bF hb Aa.o (Yh _) Ac.o).trans ((Zs wb d os).mono (bF hb Aa.o (Yh _) Ac.o).size);have cA:=fun d os=>Zh (Am.o (grow (redrawn wb d) os) (hW d os));clear hW
      go_big_quiet_step (with_reducible exact cA _ _)
      refine Xf ?_;simp only [List.getElem?_toArray,Zb,Yz];exact rfl
     simp only [Act.put,Yd,Ye,Yf]
    refine⟨aC x0 x1 x2,rfl,rfl,by simp [aC,Value.oneCell'],fun W hB hz=>?_⟩;have Ag:=Hd (bF hB Aa.o (Yh _) Ac.o);have Ah:=Hd hz;clear hB hz
    go_wp2_with fail
    exact Zt (aL (p:=8) (u:=9) rfl _ _ (w.heap.size+1+1) x0 x1 x2 rfl Ah.o) rfl ⟨x0,x1,x2,(by rw [Ae.o];rfl),fun t ht=>(by rw [Ae.o] at ht;cases ht),Ag.o⟩
   | true=>
    cases Bn with
    | false=>
     have Ae:=Hd (show o=none by rw [<- HO.o,Av.o];rfl);refine bZ (l1:=[_,_,_,_,_,_,_,_,_,_,_,_,_,_,_,_,_]) (os:=_) (l2:=[_]) (p:=8) (tx:=79) (r:=w.heap.size+1+1) (T:=38) (zc:=aC 0 0 0) (by kernel_rfl) (by kernel_rfl) rfl Al.o rfl bW ?_
     repeat
      apply bR rfl (by simp)
      case h1=>
       intro wb hb;have l0:=fun d os=>Zr (aD hb Ab a0) d os;have l1:=fun d os=>Zr (aD hb Ab a1) d os;have l2:=fun d os=>Zr (aD hb Ab a2) d os;have l3:=fun d os=>Zr (aD hb Ad k1) d os;have l4:=fun d os=>Zr (aD hb Ad k2) d os;have l5:=fun d os=>Zr (aD hb Ad k3) d os;have l6:=fun d os=>Zr (aD hb Ao p0) d os;have l7:=fun d os=>Zr (aD hb Ap q4) d os;have hW:=fun d os=>(bF hb Aa.o (Yh _) Ac.o).trans ((Zs wb d os).mono (bF hb Aa.o (Yh _) Ac.o).size);have cA:=fun d os=>Zh (Am.o (grow (redrawn wb d) os) (hW d os));have cB:=fun d os=>Zh (Be.o (grow (redrawn wb d) os) (hW d os));clear hW
       go_big_quiet_step (first | with_reducible exact cA _ _ | with_reducible exact cB _ _)
       refine Xf ?_;simp only [List.getElem?_toArray,Zb,Yz];exact rfl
      simp only [Act.put,Yd,Ye,Yf]
     refine⟨aC x0 x1 x2,rfl,rfl,by simp [aC,Value.oneCell'],fun W hB hz=>?_⟩;have Ag:=Hd (bF hB Aa.o (Yh _) Ac.o);have Ah:=Hd hz;clear hB hz
     go_wp2_with fail
     exact Zt (aL (p:=8) (u:=9) rfl _ _ (w.heap.size+1+1) x0 x1 x2 rfl Ah.o) rfl ⟨x0,x1,x2,(by rw [Ae.o];rfl),fun t ht=>(by rw [Ae.o] at ht;cases ht),Ag.o⟩
    | true=>
     have Ae:=Hd (show o=some (x0,x1,x2) by rw [<- HO.o,Av.o];rfl);refine bZ (l1:=[_,_,_,_,_,_,_,_,_,_,_,_,_,_,_,_,_]) (os:=_) (l2:=[_]) (p:=8) (tx:=79) (r:=w.heap.size+1+1) (T:=38) (zc:=aC 0 0 0) (by kernel_rfl) (by kernel_rfl) rfl Al.o rfl bW ?_
     repeat
      apply bR rfl (by simp)
      case h1=>
       intro wb hb;have l0:=fun d os=>Zr (aD hb Ab a0) d os;have l1:=fun d os=>Zr (aD hb Ab a1) d os;have l2:=fun d os=>Zr (aD hb Ab a2) d os;have l3:=fun d os=>Zr (aD hb Ad k1) d os;have l4:=fun d os=>Zr (aD hb Ad k2) d os;have l5:=fun d os=>Zr (aD hb Ad k3) d os;have l6:=fun d os=>Zr (aD hb Ao p0) d os;have l7:=fun d os=>Zr (aD hb Ap q4) d os;have hW:=fun d os=>(bF hb Aa.o (Yh _) Ac.o).trans ((Zs wb d os).mono (bF hb Aa.o (Yh _) Ac.o).size);have cA:=fun d os=>Zh (Am.o (grow (redrawn wb d) os) (hW d os));have cB:=fun d os=>Zh (Be.o (grow (redrawn wb d) os) (hW d os));clear hW
       go_big_quiet_step (first | with_reducible exact cA _ _ | with_reducible exact cB _ _)
       refine Xf ?_;simp only [List.getElem?_toArray,Zb,Yz];exact rfl
      simp only [Act.put,Yd,Ye,Yf]
     refine⟨aC x0 x1 x2,rfl,rfl,by simp [aC,Value.oneCell'],fun W hB hz=>?_⟩;have Ag:=Hd (bF hB Aa.o (Yh _) Ac.o);have Ah:=Hd hz;clear hB hz
     go_wp2_with fail
     exact Zt (aL (p:=8) (u:=9) rfl _ _ (w.heap.size+1+1) x0 x1 x2 rfl Ah.o) rfl ⟨x0,x1,x2,(by rw [Ae.o];rfl),fun t ht=>(by rw [Ae.o] at ht;injection ht with ht;exact ht.symm),Ag.o⟩
end
end Go.Proofs.YtegjgiofmpolnaaGreat
