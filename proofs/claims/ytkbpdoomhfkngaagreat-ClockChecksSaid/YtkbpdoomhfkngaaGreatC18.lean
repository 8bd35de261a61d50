/- A part of the proof. Conditions: each theorem's own. -/
import Derived.Test.YtkbpdoomhfkngaaGreatC11
import Derived.Test.YtkbpdoomhfkngaaGreatC17
namespace Go.Proofs.YtkbpdoomhfkngaaGreat
set_option linter.unusedVariables false
set_option linter.unusedSimpArgs false
set_option maxRecDepth 100000
set_option maxHeartbeats 40000000
section
open Go.RowKit Go.Sort Go.BigFrame
theorem F3.regrown{T:TypeId}{W:World}{g:Nat}{a b c:Int}(h:F3 T W g a b c)(d:Nat)(os:Array Obj):F3 T (grow (redrawn W d) os) g a b c:=h.below (Zt W d os)
theorem bGj(op:Int)(t:T3)(w:World):Calls Tryz.prog 160 #[.int .i64 op,.agg (aF t.1 t.2.1 t.2.2)] w fun r w'=>r=.returned (.tuple #[.agg (aF ((dE op t.1 t.2.1 t.2.2).getD 0) 0 0),.bool (pI (dE op t.1 t.2.1 t.2.2)).isSome])/\Below w.heap.size w w':=
 (bC4 op t.1 t.2.1 t.2.2 w).mono fun r w' ⟨h,hb⟩=>⟨by rw[h];cases dE op t.1 t.2.1 t.2.2<;>rfl,hb⟩
def wU(op:Int)(t u:T3):Option Int:=iT op (bB 1 t.1 t.2.1 t.2.2 && bB 1 u.1 u.2.1 u.2.2) (bB 2 t.1 t.2.1 t.2.2 && bB 2 u.1 u.2.1 u.2.2) (fR t.1 t.2.1 t.2.2 u.1 u.2.1 u.2.2)
theorem bD1(op:Int)(t u:T3)(w:World):Calls Tryz.prog 161 #[.int .i64 op,.agg (aF t.1 t.2.1 t.2.2),.agg (aF u.1 u.2.1 u.2.2)] w fun r w'=>r=.returned (.tuple #[.agg (aF ((wU op t u).getD 0) 0 0),.bool (pI (wU op t u)).isSome])/\Below w.heap.size w w':=
 (aZn op t.1 t.2.1 t.2.2 u.1 u.2.1 u.2.2 w).mono fun r w' ⟨h,hb⟩=>⟨by rw[h];unfold wU;cases iT op _ _ _<;>rfl,hb⟩
theorem aIp{o:Option Int}{t:T3}(h:pI o=some t):t=(o.getD 0,0,0):=by
 cases o with
 |none=>cases h
 |some k=>exact(Option.some.inj h).symm
theorem aXk(x:Ex)(A:Option Addr)(ca:Nat)(B:Option Addr)(cb:Nat)(S:Option Addr)(m sc:Nat)(ts:List T3)(w:World)(hS:aR w S m ts)(hk:x.k=5)(hm:1<=m):
 Calls Tryz.prog 129 #[.agg (aE x A ca B cb),.slice S m sc] w (fO w (pI (dE x.op (aD ts 0).1 (aD ts 0).2.1 (aD ts 0).2.2))):=by
 have HF:=Hd fun w0 h=>oP (w:=w) (w0:=w0) (x:=x) (A:=A) (ca:=ca) (B:=B) (cb:=cb) (T:=52) (U:=41) h;obtain⟨sb,so,rfl,Az,Aq⟩:=hS.at_ (i:=0) aA;obtain⟨a0,a1,a2⟩:=Aq 0 aA;simp only[Nat.zero_mul,Nat.add_zero,Nat.one_mul]at a0 a1 a2;have Bx:=hS.len;have HC:=Hd fun w1=>bGj x.op (aD ts 0) w1;unfold aE at HF⊢;rw[hk]at HF⊢;clear hS Aq hk;generalize hu:aD ts 0=u at *;obtain⟨u0,u1,u2⟩:=u;dsimp only at a0 a1 a2 HC;unfold aF at HC;go_in
 go_upto_region 1 with(fail);generalize Ai:(w.alloc _).alloc _=w0;obtain⟨hR,hcell,Ae,Al⟩:=HF.o w0 Ai;have HR:=Hd hR;have Af:=Hd Ae;have q0:=hcell w0 (Yg _ _) 0;have q3:=hcell w0 (Yg _ _) 3;simp only[Ya,Yb,Yc]at q0 q3;have a0:=(Ae.cell (p:=⟨sb,so,none⟩) Az).trans a0;have a1:=(Ae.cell (p:=⟨sb,so+1,none⟩) Az).trans a1;have a2:=(Ae.cell (p:=⟨sb,so+2,none⟩) Az).trans a2;have Bp:0<m:=aA;clear Ai hR hcell Ae Al HF hm;go_upto_region 3 with(fail);have l0:=fun d os=>Zs q3 d os;have l1:=fun d os=>Zs a0 d os;have l2:=fun d os=>Zs a1 d os;have l3:=fun d os=>Zs a2 d os;have cA:=fun d os=>Zi (HC.o (grow (redrawn w0 d) os));refine kE (l1:=[_,_,_,_,_,_,_,_]) (l2:=[_,_]) aC aC aC aC aC ?_;repeat (go_big_quiet_step (first|with_reducible exact cA _ _))
 refine Xg ?_;intro _ Cy;obtain⟨⟨dq,Bj⟩,Bl⟩:=Cy;subst Bl;have Bi:=Hd (HR.o.regrown dq Bj);have Ac:=Hd (Af.o.trans ((Zt w0 dq Bj).mono Af.o.size));clear cA l0 l1 l2 l3;generalize grow (redrawn w0 dq) Bj=wq at *;go_wp2_with (refine Zv rfl _ _ _ rfl (w.heap.size+1) _ rfl rfl _ _ Bi.o cW rfl aQ ?_);exact Zu (bA (p:=4) (u:=5) rfl _ _ (w.heap.size+1) _ 0 0 rfl (Bi.o.set _ 0 0)) rfl ⟨_,0,0,rfl,fun t ht=>aIp ht,Xc Ac.o aA _⟩
theorem aXl(x:Ex)(A:Option Addr)(ca:Nat)(B:Option Addr)(cb:Nat)(S:Option Addr)(m sc:Nat)(ts:List T3)(w:World)(hS:aR w S m ts)(hk:x.k=6)(hm:2<=m):
 Calls Tryz.prog 129 #[.agg (aE x A ca B cb),.slice S m sc] w (fO w (pI (wU x.op (aD ts 0) (aD ts 1)))):=by
 have HF:=Hd fun w0 h=>oP (w:=w) (w0:=w0) (x:=x) (A:=A) (ca:=ca) (B:=B) (cb:=cb) (T:=52) (U:=41) h;obtain⟨sb,so,rfl,Az,Aq⟩:=hS.at_ (i:=0) aA;obtain⟨a0,a1,a2⟩:=Aq 0 aA;obtain⟨b0,b1,b2⟩:=Aq 1 aA;simp only[Nat.zero_mul,Nat.add_zero,Nat.one_mul]at a0 a1 a2 b0 b1 b2;have Bx:=hS.len;have HC:=Hd fun w1=>bD1 x.op (aD ts 0) (aD ts 1) w1;unfold aE at HF⊢;rw[hk]at HF⊢;clear hS Aq hk;generalize aD ts 0=u at *;generalize aD ts 1=v at *;obtain⟨u0,u1,u2⟩:=u;obtain⟨v0,v1,v2⟩:=v;dsimp only at a0 a1 a2 b0 b1 b2 HC;unfold aF at HC;generalize wU x.op (u0,u1,u2) (v0,v1,v2)=o at *;go_in
 go_upto_region 1 with(fail);generalize Ai:(w.alloc _).alloc _=w0;obtain⟨hR,hcell,Ae,Al⟩:=HF.o w0 Ai;have HR:=Hd hR;have Af:=Hd Ae;have q0:=hcell w0 (Yg _ _) 0;have q3:=hcell w0 (Yg _ _) 3;simp only[Ya,Yb,Yc]at q0 q3;have a0:=(Ae.cell (p:=⟨sb,so,none⟩) Az).trans a0;have a1:=(Ae.cell (p:=⟨sb,so+1,none⟩) Az).trans a1;have a2:=(Ae.cell (p:=⟨sb,so+2,none⟩) Az).trans a2;have b0:=(Ae.cell (p:=⟨sb,so+3,none⟩) Az).trans b0;have b1:=(Ae.cell (p:=⟨sb,so+3+1,none⟩) Az).trans b1;have b2:=(Ae.cell (p:=⟨sb,so+3+2,none⟩) Az).trans b2;have Bp:0<m:=aA;have Jx:1<m:=aA;clear Ai hR hcell Ae Al HF hm;go_upto_region 5 with(fail);have l0:=fun d os=>Zs q3 d os;have l1:=fun d os=>Zs a0 d os;have l2:=fun d os=>Zs a1 d os;have l3:=fun d os=>Zs a2 d os;have l4:=fun d os=>Zs b0 d os;have l5:=fun d os=>Zs b1 d os;have l6:=fun d os=>Zs b2 d os;have cA:=fun d os=>Zi (HC.o (grow (redrawn w0 d) os));refine kE (l1:=[_,_,_,_,_,_,_,_,_,_,_]) (l2:=[_,_]) aC aC aC aC aC ?_;repeat (go_big_quiet_step (first|with_reducible exact cA _ _))
 refine Xg ?_;intro _ Cy;obtain⟨⟨dq,Bj⟩,Bl⟩:=Cy;subst Bl;have Bi:=Hd (HR.o.regrown dq Bj);have Ac:=Hd (Af.o.trans ((Zt w0 dq Bj).mono Af.o.size));clear cA l0 l1 l2 l3 l4 l5 l6;generalize grow (redrawn w0 dq) Bj=wq at *;go_wp2_with (refine Zv rfl _ _ _ rfl (w.heap.size+1) _ rfl rfl _ _ Bi.o cW rfl aQ ?_);exact Zu (bA (p:=4) (u:=5) rfl _ _ (w.heap.size+1) _ 0 0 rfl (Bi.o.set _ 0 0)) rfl ⟨_,0,0,rfl,fun t ht=>aIp ht,Xc Ac.o aA _⟩
theorem dI:(Tryz.prog.info? 41).map (·.size)=some (aF 0 0 0).size:=aC
theorem aXm(x:Ex)(A:Option Addr)(ca:Nat)(B:Option Addr)(cb:Nat)(S:Option Addr)(m sc:Nat)(ts:List T3)(w:World)(hS:aR w S m ts)(hk:x.k=7)(hm:3<=m):
 Calls Tryz.prog 129 #[.agg (aE x A ca B cb),.slice S m sc] w (fO w (if(fV (aD ts 0) && decide (aD ts 1=aD ts 2))=true then some (aD ts 1)else none)):=by
 have HF:=Hd fun w0 h=>oP (w:=w) (w0:=w0) (x:=x) (A:=A) (ca:=ca) (B:=B) (cb:=cb) (T:=52) (U:=41) h;obtain⟨sb,so,rfl,Az,Aq⟩:=hS.at_ (i:=0) aA;obtain⟨a0,a1,a2⟩:=Aq 0 aA;obtain⟨b0,b1,b2⟩:=Aq 1 aA;obtain⟨c0,c1,c2⟩:=Aq 2 aA;simp only[Nat.zero_mul,Nat.add_zero,Nat.one_mul]at a0 a1 a2 b0 b1 b2 c0 c1 c2;have Nt:=hS.len;unfold aE at HF⊢;rw[hk]at HF⊢;clear hS Aq hk;generalize aD ts 0=u at *;generalize aD ts 1=v at *;generalize aD ts 2=z at *;obtain⟨u0,u1,u2⟩:=u;obtain⟨v0,v1,v2⟩:=v;obtain⟨z0,z1,z2⟩:=z;have HT:=Hd (aBq u0 u1 u2);dsimp only at a0 a1 a2 b0 b1 b2 c0 c1 c2;unfold aF at HT;generalize fV (u0,u1,u2)=tt at *;generalize hO:(if(tt && decide ((v0,v1,v2)=(z0,z1,z2)))=true then some ((v0,v1,v2):T3)else none)=o;have HO:=Hd hO;clear hO;go_in
 go_upto_region 1 with(fail);generalize Ai:(w.alloc _).alloc _=w0;obtain⟨hR,hcell,Ae,Al⟩:=HF.o w0 Ai;have HR:=Hd hR;have Af:=Hd Ae;have q0:=hcell w0 (Yg _ _) 0;have q3:=hcell w0 (Yg _ _) 3;simp only[Ya,Yb,Yc]at q0 q3;have a0:=(Ae.cell (p:=⟨sb,so,none⟩) Az).trans a0;have a1:=(Ae.cell (p:=⟨sb,so+1,none⟩) Az).trans a1;have a2:=(Ae.cell (p:=⟨sb,so+2,none⟩) Az).trans a2;have b0:=(Ae.cell (p:=⟨sb,so+3,none⟩) Az).trans b0;have b1:=(Ae.cell (p:=⟨sb,so+3+1,none⟩) Az).trans b1;have b2:=(Ae.cell (p:=⟨sb,so+3+2,none⟩) Az).trans b2;have c0:=(Ae.cell (p:=⟨sb,so+2*3,none⟩) Az).trans c0;have c1:=(Ae.cell (p:=⟨sb,so+2*3+1,none⟩) Az).trans c1;have c2:=(Ae.cell (p:=⟨sb,so+2*3+2,none⟩) Az).trans c2;have Jx:0<m:=aA;have Nv:1<m:=aA;have Nu:2<m:=aA;clear Ai hR hcell Ae Al HF hm;go_upto_region 7 with(fail);clear q3;have Bp:sb<w0.heap.size:=Yr Az Af.o.size;have An:sb≠w.heap.size+1:=aA;have Bx:w.heap.size+1≠sb:=aA;have Bp:sb<w0.heap.size:=Yr Az Af.o.size;have An:sb≠w.heap.size+1:=aA;cases tt with
 |false=>
  refine dL (l1:=[_,_,_,_,_,_,_,_,_,_,_,_,_,_,_,_]) (os:=_) (l2:=[_]) (p:=4) (tx:=36) (r:=w.heap.size+1) (T:=41) (zc:=aF 0 0 0) aC aC rfl HR.o rfl dI ?_
  repeat
   apply dH rfl aG;case h1=>
    exact aQe
   simp only[Act.put,Yd,Ye,Yf]
  refine⟨aF v0 v1 v2,rfl,rfl,by simp[aF,Value.oneCell'],fun W hB hz=>?_⟩;have Be:=Hd (dG hB Af.o (Yh _) (Nat.le_succ _));have Dq:=Hd hz;clear hB hz;go_wp2_with fail;exact Zu (bA (p:=4) (u:=5) rfl _ _ (w.heap.size+1) v0 v1 v2 rfl Dq.o) rfl ⟨v0,v1,v2,(by rw[<-HO.o];rfl),fun t ht=>(by rw[<-HO.o]at ht;cases ht),Be.o⟩
 |true=>
  rcases jD v0 v1 v2 z0 z1 z2 with⟨rfl,rfl,rfl,he⟩|⟨h1,he⟩|⟨rfl,h1,he⟩|⟨rfl,rfl,h1,he⟩
  . clear he;refine dL (l1:=[_,_,_,_,_,_,_,_,_,_,_,_,_,_,_,_]) (os:=_) (l2:=[_]) (p:=4) (tx:=36) (r:=w.heap.size+1) (T:=41) (zc:=aF 0 0 0) aC aC rfl HR.o rfl dI ?_
    repeat
     apply dH rfl aG;case h1=>
      exact aQe
     simp only[Act.put,Yd,Ye,Yf]
    refine⟨aF v0 v1 v2,rfl,rfl,by simp[aF,Value.oneCell'],fun W hB hz=>?_⟩;have Be:=Hd (dG hB Af.o (Yh _) (Nat.le_succ _));have Dq:=Hd hz;clear hB hz;go_wp2_with fail;exact Zu (bA (p:=4) (u:=5) rfl _ _ (w.heap.size+1) v0 v1 v2 rfl Dq.o) rfl ⟨v0,v1,v2,(by rw[show o=some (v0,v1,v2)by(rw[<-HO.o];simp)];rfl),fun t ht=>(by rw[show o=some (v0,v1,v2)by(rw[<-HO.o];simp)]at ht;exact(Option.some.inj ht).symm),Be.o⟩
  . exact fK8
  . exact fK8
  . exact fK8
theorem aU0(x:Ex)(A:Option Addr)(ca:Nat)(B:Option Addr)(cb:Nat)(S:Option Addr)(m sc:Nat)(ts:List T3)(w:World)(hS:aR w S m ts)(hk:x.k=15)(hm:2<=m):
 Calls Tryz.prog 129 #[.agg (aE x A ca B cb),.slice S m sc] w (fO w (if(decide (0<(aD ts 0).2.2) && lU (aD ts 1))=true then some (kU (aD ts 0))else none)):=by
 have HF:=Hd fun w0 h=>oP (w:=w) (w0:=w0) (x:=x) (A:=A) (ca:=ca) (B:=B) (cb:=cb) (T:=52) (U:=41) h;obtain⟨sb,so,rfl,Az,Aq⟩:=hS.at_ (i:=0) aA;obtain⟨a0,a1,a2⟩:=Aq 0 aA;obtain⟨b0,b1,b2⟩:=Aq 1 aA;simp only[Nat.zero_mul,Nat.add_zero,Nat.one_mul]at a0 a1 a2 b0 b1 b2;have Jx:=hS.len;unfold aE at HF⊢;rw[hk]at HF⊢;clear hS Aq hk;generalize aD ts 0=u at *;generalize aD ts 1=v at *;obtain⟨u0,u1,u2⟩:=u;obtain⟨v0,v1,v2⟩:=v;have Fk:=Hd (aJs u0 u1 u2);have HW:=Hd (aHl v0 v1 v2);dsimp only[kU]at a0 a1 a2 b0 b1 b2⊢;unfold aF at Fk HW;generalize lU (v0,v1,v2)=ww at *;generalize hO:(if(decide (0<u2) && ww)=true then some ((u0,u1,0):T3)else none)=o;have Co:=Hd hO;clear hO;go_in
 go_upto_region 1 with(fail);generalize Ai:(w.alloc _).alloc _=w0;obtain⟨hR,hcell,Ae,Al⟩:=HF.o w0 Ai;have HR:=Hd hR;have Af:=Hd Ae;have q0:=hcell w0 (Yg _ _) 0;have q3:=hcell w0 (Yg _ _) 3;simp only[Ya,Yb,Yc]at q0 q3;have a0:=(Ae.cell (p:=⟨sb,so,none⟩) Az).trans a0;have a1:=(Ae.cell (p:=⟨sb,so+1,none⟩) Az).trans a1;have a2:=(Ae.cell (p:=⟨sb,so+2,none⟩) Az).trans a2;have b0:=(Ae.cell (p:=⟨sb,so+3,none⟩) Az).trans b0;have b1:=(Ae.cell (p:=⟨sb,so+3+1,none⟩) Az).trans b1;have b2:=(Ae.cell (p:=⟨sb,so+3+2,none⟩) Az).trans b2;have Bx:0<m:=aA;have Nt:1<m:=aA;clear Ai hR hcell Ae Al HF hm;go_upto_region 13 with(fail);have Bp:sb<w0.heap.size:=Yr Az Af.o.size;have An:sb≠w.heap.size+1:=aA;clear q3;cases hp:decide (0<u2)with
 |false=>
  rw[hp]at Co;exact aP0
 |true=>
  rw[hp]at Co;cases ww with
  |false=>
   exact aP0
  |true=>
   refine dL (l1:=[_,_,_,_,_,_,_,_,_,_,_,_,_,_,_]) (os:=_) (l2:=[_]) (p:=4) (tx:=73) (r:=w.heap.size+1) (T:=41) (zc:=aF 0 0 0) aC aC rfl HR.o rfl dI ?_
   repeat
    apply dH rfl aG;case h1=>
     intro wb hb;have l0:=fun d os=>Zs (aJ hb An a0) d os;have l1:=fun d os=>Zs (aJ hb An a1) d os;have l2:=fun d os=>Zs (aJ hb An a2) d os;have l3:=fun d os=>Zs (aJ hb An b0) d os;have l4:=fun d os=>Zs (aJ hb An b1) d os;have l5:=fun d os=>Zs (aJ hb An b2) d os;exact aQ9
    simp only[Act.put,Yd,Ye,Yf]
   refine⟨aF u0 u1 0,rfl,rfl,by simp[aF,Value.oneCell'],fun W hB hz=>?_⟩;have Be:=Hd (dG hB Af.o (Yh _) (Nat.le_succ _));have Dq:=Hd hz;clear hB hz;go_wp2_with fail;exact Zu (bA (p:=4) (u:=5) rfl _ _ (w.heap.size+1) u0 u1 0 rfl Dq.o) rfl ⟨u0,u1,0,(by rw[show o=some (u0,u1,0)by(rw[<-Co.o];rfl)];rfl),fun t ht=>(by rw[show o=some (u0,u1,0)by(rw[<-Co.o];rfl)]at ht;exact(Option.some.inj ht).symm),Be.o⟩
theorem aU1(x:Ex)(A:Option Addr)(ca:Nat)(B:Option Addr)(cb:Nat)(S:Option Addr)(m sc:Nat)(ts:List T3)(w:World)(hS:aR w S m ts)(hk:x.k=16)(hm:3<=m)(o:Option T3)(ho:(if(decide (0<(aD ts 0).2.2) && (lU (aD ts 1) && decide (aD ts 2=kU (aD ts 0))))=true then some (aD ts 0)else none)=o):
 Calls Tryz.prog 129 #[.agg (aE x A ca B cb),.slice S m sc] w (fO w o):=by
 have HF:=Hd fun w0 h=>oP (w:=w) (w0:=w0) (x:=x) (A:=A) (ca:=ca) (B:=B) (cb:=cb) (T:=52) (U:=41) h;obtain⟨sb,so,rfl,Az,Aq⟩:=hS.at_ (i:=0) aA;obtain⟨a0,a1,a2⟩:=Aq 0 aA;obtain⟨b0,b1,b2⟩:=Aq 1 aA;obtain⟨c0,c1,c2⟩:=Aq 2 aA;simp only[Nat.zero_mul,Nat.add_zero,Nat.one_mul]at a0 a1 a2 b0 b1 b2 c0 c1 c2;have Nt:=hS.len;unfold aE at HF⊢;rw[hk]at HF⊢;clear hS Aq hk;generalize aD ts 0=u at *;generalize aD ts 1=v at *;generalize aD ts 2=z at *;obtain⟨u0,u1,u2⟩:=u;obtain⟨v0,v1,v2⟩:=v;obtain⟨z0,z1,z2⟩:=z;have Fk:=Hd (aJs u0 u1 u2);have HW:=Hd (aHl v0 v1 v2);dsimp only[kU]at a0 a1 a2 b0 b1 b2 c0 c1 c2 ho⊢;unfold aF at Fk HW;generalize lU (v0,v1,v2)=ww at *;have Co:=Hd ho;clear ho;go_in
 go_upto_region 1 with(fail);generalize Ai:(w.alloc _).alloc _=w0;obtain⟨hR,hcell,Ae,Al⟩:=HF.o w0 Ai;have HR:=Hd hR;have Af:=Hd Ae;have q0:=hcell w0 (Yg _ _) 0;have q3:=hcell w0 (Yg _ _) 3;simp only[Ya,Yb,Yc]at q0 q3;have a0:=(Ae.cell (p:=⟨sb,so,none⟩) Az).trans a0;have a1:=(Ae.cell (p:=⟨sb,so+1,none⟩) Az).trans a1;have a2:=(Ae.cell (p:=⟨sb,so+2,none⟩) Az).trans a2;have b0:=(Ae.cell (p:=⟨sb,so+3,none⟩) Az).trans b0;have b1:=(Ae.cell (p:=⟨sb,so+3+1,none⟩) Az).trans b1;have b2:=(Ae.cell (p:=⟨sb,so+3+2,none⟩) Az).trans b2;have c0:=(Ae.cell (p:=⟨sb,so+2*3,none⟩) Az).trans c0;have c1:=(Ae.cell (p:=⟨sb,so+2*3+1,none⟩) Az).trans c1;have c2:=(Ae.cell (p:=⟨sb,so+2*3+2,none⟩) Az).trans c2;have Bx:0<m:=aA;have Jx:1<m:=aA;have Nu:2<m:=aA;clear Ai hR hcell Ae Al HF hm;go_upto_region 14 with(fail);have Bp:sb<w0.heap.size:=Yr Az Af.o.size;have An:sb≠w.heap.size+1:=aA;clear q3;cases hp:decide (0<u2)with
 |false=>
  rw[hp]at Co;exact fK7
 |true=>
  rw[hp]at Co;cases ww with
  |false=>
   exact fK7
  |true=>
   rcases jD z0 z1 z2 u0 u1 0 with⟨rfl,rfl,rfl,he⟩|⟨h1,he⟩|⟨rfl,h1,he⟩|⟨rfl,rfl,h1,he⟩
   . clear he;refine dL (l1:=[_,_,_,_,_,_,_,_,_,_,_,_,_,_,_,_,_,_,_,_,_,_,_,_]) (os:=_) (l2:=[_]) (p:=4) (tx:=87) (r:=w.heap.size+1) (T:=41) (zc:=aF 0 0 0) aC aC rfl HR.o rfl dI ?_
     repeat
      apply dH rfl aG;case h1=>
       intro wb hb;have l0:=fun d os=>Zs (aJ hb An a0) d os;have l1:=fun d os=>Zs (aJ hb An a1) d os;have l2:=fun d os=>Zs (aJ hb An a2) d os;have l3:=fun d os=>Zs (aJ hb An b0) d os;have l4:=fun d os=>Zs (aJ hb An b1) d os;have l5:=fun d os=>Zs (aJ hb An b2) d os;have l6:=fun d os=>Zs (aJ hb An c0) d os;have l7:=fun d os=>Zs (aJ hb An c1) d os;have l8:=fun d os=>Zs (aJ hb An c2) d os;exact aQ9
      simp only[Act.put,Yd,Ye,Yf]
     refine⟨aF _ _ u2,rfl,rfl,by simp[aF,Value.oneCell'],fun W hB hz=>?_⟩;have Be:=Hd (dG hB Af.o (Yh _) (Nat.le_succ _));have Dq:=Hd hz;clear hB hz;go_wp2_with fail;exact Zu (bA (p:=4) (u:=5) rfl _ _ (w.heap.size+1) z0 z1 u2 rfl Dq.o) rfl ⟨z0,z1,u2,(by rw[show o=some (z0,z1,u2)by(rw[<-Co.o];simp)];rfl),fun t ht=>(by rw[show o=some (z0,z1,u2)by(rw[<-Co.o];simp)]at ht;exact(Option.some.inj ht).symm),Be.o⟩
   . exact fK5
   . exact fK5
   . exact fK5
theorem aU2(x:Ex)(A:Option Addr)(ca:Nat)(B:Option Addr)(cb:Nat)(S:Option Addr)(m sc:Nat)(ts:List T3)(w:World)(hS:aR w S m ts)(hk:x.k=14)(hm:1<=m)(o:Option T3)(ho:(if(eA ts && decide ((aD ts 0).2.2=0))=true then some ((aD ts 0).1,(aD ts 0).2.1,(ts.length:Int))else none)=o):
 Calls Tryz.prog 129 #[.agg (aE x A ca B cb),.slice S m sc] w (fO w o):=by
 have HF:=Hd fun w0 h=>oP (w:=w) (w0:=w0) (x:=x) (A:=A) (ca:=ca) (B:=B) (cb:=cb) (T:=52) (U:=41) h;obtain⟨sb,so,rfl,Az,Nu⟩:=hS.at_ (i:=0) aA;obtain⟨a0,a1,a2⟩:=Nu 0 aA;simp only[Nat.zero_mul,Nat.add_zero,Nat.one_mul]at a0 a1 a2;have Oc:=hS.len;have Dl:=Hd fun w1 (hb:Below w.heap.size w w1)=>aJt (some ⟨sb,so,none⟩) m sc ts w1 (hS.below hb);unfold aE at HF⊢;rw[hk]at HF⊢;clear hS Nu hk;rw[Oc]at ho;generalize eA ts=al at *;generalize aD ts 0=u at *;obtain⟨u0,u1,u2⟩:=u;dsimp only at a0 a1 a2 ho;have Co:=Hd ho;clear ho;go_in
 go_upto_region 1 with(fail);generalize Ai:(w.alloc _).alloc _=w0;obtain⟨hR,hcell,Ae,Al⟩:=HF.o w0 Ai;have HR:=Hd hR;have Af:=Hd Ae;have q0:=hcell w0 (Yg _ _) 0;have q3:=hcell w0 (Yg _ _) 3;simp only[Ya,Yb,Yc]at q0 q3;have a0:=(Ae.cell (p:=⟨sb,so,none⟩) Az).trans a0;have a1:=(Ae.cell (p:=⟨sb,so+1,none⟩) Az).trans a1;have a2:=(Ae.cell (p:=⟨sb,so+2,none⟩) Az).trans a2;have Od:0<m:=aA;clear Ai hR hcell Ae Al HF hm;go_upto_region 9 with(fail);have Ob:sb<w0.heap.size:=Yr Az Af.o.size;clear q0 q3;go_upto_region 10 with(refine Zv rfl _ _ _ rfl w0.heap.size _ rfl rfl _ _ (Zx _ _) dI rfl aQ ?_);generalize Ag:World.setRow _ _ _=w1;generalize hG:w0.heap.size=G at *;have h1:F3 41 w1 G u0 u1 u2/\F3 41 w1 (w.heap.size+1) 0 0 0/\Below w.heap.size w w1/\Below G w0 w1:=by
  have Ah:=HR.o.lt;have Ny:=Af.o.size;have hA:Below G w0 (w0.alloc (.cells #[.int .i64 0,.int .i64 0,.int .i64 0] 41)):=(Yg _ _).alloc aA _;have hS:Below G w0 w1:=by rw[<-Ag];exact Xc hA (Yh _) _
  refine⟨?_,?_,Af.o.trans (hS.mono aA),hS⟩;· rw[<-Ag];exact Xd _ _ _ _ _ _ (by rw[<-hG];exact Zx _ _)
  . exact HR.o.below (by rw[hG];exact hS)
 obtain⟨Bp,Oa,Jx,Aq⟩:=h1;have Ny:=Af.o.size;have Ah:=HR.o.lt;have Nc:G≠w.heap.size+1:=aA;have An:sb≠w.heap.size+1:=aA;have Bx:sb≠G:=aA;have Oe:w.heap.size<=G:=aA;have a2:=(Aq.cell (p:=⟨sb,so+2,none⟩) aA).trans a2;have q2:=Bp.cell 2;simp only[aF,List.getElem?_toArray,Yz,Zb]at q2;have fz:=frozen_of_row w1 G 2 _ _ Bp;have Bi:=Hd Oa;have Ac:=Hd Jx;have Nw:=Hd Bp;clear Ag Oa Jx Bp Aq hG Ah Ny a0 a1;go_upto_region 11 with(fail);generalize Br:w1.setCell ⟨G,2,none⟩ (.int .i64 _)=w2;have h2:F3 41 w2 G u0 u1 m/\F3 41 w2 (w.heap.size+1) 0 0 0/\Below w.heap.size w w2/\w2.cell? ⟨sb,so+2,none⟩=some (.int .i64 u2):=by
  rw[<-Br,Xe _ _ _ _ _ _ _ Nw.o,show(aF u0 u1 u2).setIfInBounds 2 (.int .i64 m)=aF u0 u1 m from rfl];refine⟨Xd _ _ _ _ _ _ Nw.o,(setRow_other _ _ _ _ aA).trans Bi.o,Xc Ac.o aA _,?_⟩;rw[<-a2];unfold World.cell?;rw[show(w1.setRow G (aF u0 u1 m)).heap[(⟨sb,so+2,none⟩:Addr).block]?=w1.heap[(⟨sb,so+2,none⟩:Addr).block]? from setRow_other _ _ _ _ Bx]
 obtain⟨Fh,Nz,Nx,Nt⟩:=h2;obtain⟨g0,g1,g2,-,-,-⟩:=Sx Fh.cell;simp only[aF,List.getElem?_toArray,Yz,Zb]at g0 g1 g2;have Ce:=Hd Nz;have Aj:=Hd Nx;clear Br Nz Nx Fh q2 fz a2;have a2:=Nt;clear Nt;cases al with
 |false=>
  refine dL (l1:=[_,_,_,_,_,_,_,_,_,_]) (os:=_) (l2:=[_]) (p:=4) (tx:=58) (r:=w.heap.size+1) (T:=41) (zc:=aF 0 0 0) aC aC rfl Ce.o rfl dI ?_
  repeat
   apply dH rfl aG;case h1=>
    exact aFn
   simp only[Act.put,Yd,Ye,Yf]
  refine⟨aF u0 u1 (m:Int),rfl,rfl,by simp[aF,Value.oneCell'],fun W hB hz=>?_⟩;have Be:=Hd (dG hB Aj.o (Yh _) (Nat.le_succ _));have Dq:=Hd hz;clear hB hz;go_wp2_with fail;exact Zu (bA (p:=4) (u:=5) rfl _ _ (w.heap.size+1) u0 u1 (m:Int) rfl Dq.o) rfl ⟨u0,u1,(m:Int),(by rw[show o=none by(rw[<-Co.o];rfl)];rfl),fun t ht=>(by rw[show o=none by(rw[<-Co.o];rfl)]at ht;cases ht),Be.o⟩
 |true=>
  cases hd:decide (u2=0)with
  |false=>
   have Nv:(u2==0)=false:=by simpa using hd
   refine dL (l1:=[_,_,_,_,_,_,_,_,_,_]) (os:=_) (l2:=[_]) (p:=4) (tx:=58) (r:=w.heap.size+1) (T:=41) (zc:=aF 0 0 0) aC aC rfl Ce.o rfl dI ?_
   repeat
    apply dH rfl aG;case h1=>
     exact aFn
    simp only[Act.put,Yd,Ye,Yf]
   refine⟨aF u0 u1 (m:Int),rfl,rfl,by simp[aF,Value.oneCell'],fun W hB hz=>?_⟩;have Be:=Hd (dG hB Aj.o (Yh _) (Nat.le_succ _));have Dq:=Hd hz;clear hB hz;go_wp2_with fail;exact Zu (bA (p:=4) (u:=5) rfl _ _ (w.heap.size+1) u0 u1 (m:Int) rfl Dq.o) rfl ⟨u0,u1,(m:Int),(by rw[show o=none by(rw[<-Co.o];rw[hd];rfl)];rfl),fun t ht=>(by rw[show o=none by(rw[<-Co.o];rw[hd];rfl)]at ht;cases ht),Be.o⟩
  |true=>
   have Nv:u2=0:=of_decide_eq_true hd;subst Nv;refine dL (l1:=[_,_,_,_,_,_,_,_,_,_]) (os:=_) (l2:=[_]) (p:=4) (tx:=58) (r:=w.heap.size+1) (T:=41) (zc:=aF 0 0 0) aC aC rfl Ce.o rfl dI ?_
   repeat
    apply dH rfl aG;case h1=>
     exact aFn
    simp only[Act.put,Yd,Ye,Yf]
   refine⟨aF u0 u1 (m:Int),rfl,rfl,by simp[aF,Value.oneCell'],fun W hB hz=>?_⟩;have Be:=Hd (dG hB Aj.o (Yh _) (Nat.le_succ _));have Dq:=Hd hz;clear hB hz;go_wp2_with fail;exact Zu (bA (p:=4) (u:=5) rfl _ _ (w.heap.size+1) u0 u1 (m:Int) rfl Dq.o) rfl ⟨u0,u1,(m:Int),(by rw[show o=some (u0,u1,(m:Int))by(rw[<-Co.o];rfl)];rfl),fun t ht=>(by rw[show o=some (u0,u1,(m:Int))by(rw[<-Co.o];rfl)]at ht;exact(Option.some.inj ht).symm),Be.o⟩
end
section
open Go.RowKit
def rV(k:Int):Nat:=if(k==5)=true then 1 else if(k==6)=true then 2 else if(k==7)=true then 3 else if(k==14)=true then 1 else if(k==15)=true then 2 else 3
theorem aXn(x:Ex)(A:Option Addr)(ca:Nat)(B:Option Addr)(cb:Nat)(S:Option Addr)(m sc:Nat)(ts:List T3)(w:World)(hS:aR w S m ts)
 (hk:x.k=5\/x.k=6\/x.k=7\/x.k=14\/x.k=15\/x.k=16)(hm:rV x.k<=m):
 Calls Tryz.prog 129 #[.agg (aE x A ca B cb),.slice S m sc] w (fO w (mK x ts)):=by
 rcases hk with hk|hk|hk|hk|hk|hk
 . have h:=aXk x A ca B cb S m sc ts w hS hk nZ;exact tR
 . have h:=aXl x A ca B cb S m sc ts w hS hk nZ;exact tR
 . have h:=aXm x A ca B cb S m sc ts w hS hk nZ;exact tR
 . have h:=aU2 x A ca B cb S m sc ts w hS hk nZ _ rfl;exact tR
 . have h:=aU0 x A ca B cb S m sc ts w hS hk nZ;exact tR
 . have h:=aU1 x A ca B cb S m sc ts w hS hk nZ _ rfl;exact tR
end
section
open Go.RowKit Go.Sort Go.BigFrame
theorem aKz:(Tryz.prog.info? 2).map (fun i=>(i.zero,i.size,i.bytes))=some (some (.int .i64 0),1,8):=aC
theorem pP{w:World}{base:Nat}{e T:TypeId}{size:Nat}{v:Value}{n:Nat}{xs:List Value}{g:Nat}{cs:Array Value}(h:w.ownsRow base e size v n xs)(hg:w.heap[g]?=some (Obj.cells cs T))(hT:T≠e):some g≠v.ownBlock:=by
 rcases h.2 with⟨rfl,_⟩|⟨g',cap,cur,rfl,_,h2,_⟩;· intro e;cases e
 . intro he;have he:g=g':=by simpa[Value.ownBlock]using he
   subst he;rw[hg]at h2;have h2:=Option.some.inj h2;injection h2 with _ h3;exact hT h3
theorem gE{w w':World}{base:Nat}{e:TypeId}{size n:Nat}{v:Value}{xs:List Value}(h:w.ownsRow base e size v n xs)(hb:Below w.heap.size w w'):w'.ownsRow base e size v n xs:=by
 exact aD7
theorem aHm{W:World}{g r:Nat}{x y z a b c:Value}(hn:g≠r)(h:W.cell? ⟨g,0,none⟩=some a/\W.cell? ⟨g,1,none⟩=some b/\W.cell? ⟨g,2,none⟩=some c):
 (((W.setCell ⟨r,0,none⟩ x).setCell ⟨r,1,none⟩ y).setCell ⟨r,2,none⟩ z).cell? ⟨g,0,none⟩=some a/\(((W.setCell ⟨r,0,none⟩ x).setCell ⟨r,1,none⟩ y).setCell ⟨r,2,none⟩ z).cell? ⟨g,1,none⟩=some b/\(((W.setCell ⟨r,0,none⟩ x).setCell ⟨r,1,none⟩ y).setCell ⟨r,2,none⟩ z).cell? ⟨g,2,none⟩=some c:=by
 have k:∀ j,(((W.setCell ⟨r,0,none⟩ x).setCell ⟨r,1,none⟩ y).setCell ⟨r,2,none⟩ z).cell? ⟨g,j,none⟩=W.cell? ⟨g,j,none⟩:=fun j=>Ym (a:=⟨g,j,none⟩) (by
  rw[Below.heap_setCell _ _ _ _ uB,Below.heap_setCell _ _ _ _ uB,Below.heap_setCell _ _ _ _ uB])
 exact⟨(k 0).trans h.1,(k 1).trans h.2.1,(k 2).trans h.2.2⟩
theorem aF5{w w6 w9:World}{o:Obj}{row:Option Nat}(h:Below w.heap.size w w6)(hg:((w6.alloc o).drewN 1).grownBy w9 row)(hr:∀j,row=some j->w.heap.size<=j):Below w.heap.size w w9:=
 (bG (h.alloc h.size o) 1).grown hg (by have:=h.size;show w.heap.size<=(w6.alloc o).heap.size;rw[World.size_alloc];omega) hr
theorem aU3{w:World}{base:Nat}{e:TypeId}{size n:Nat}{v:Value}{xs:List Value}{r:Nat}(h:w.ownsRow base e size v n xs)(hn:some r≠v.ownBlock)(cs:Array Value):(w.setRow r cs).ownsRow base e size v n xs:=by
 refine⟨h.1,?_⟩;rcases h.2 with h2|⟨g,cap,cur,hv,hg,hh,hr⟩;· exact .inl h2
 . refine .inr ⟨g,cap,cur,hv,hg,(setRow_other _ _ _ _ (fun e=>hn ?_)).trans hh,hr⟩;rw[hv,<-e];rfl
theorem aJw{es:List En}{l:List Ex}:∀{k:Nat}{r:List Int × T3},iD es l k=some r->r.1.length=k
 |0,r,h=>by simp only[iD]at h;injection h with h;subst h;rfl
 |k+1,r,h=>by
  simp only[iD]at h;cases h1:iD es l k with
  |none=>rw[h1]at h;cases h
  |some r'=>
   rw[h1]at h;simp only at h;cases h2:dU es (l[k]?.getD default)with
   |none=>rw[h2]at h;cases h
   |some t=>
    rw[h2]at h;simp only at h;split at h;· cases h
    . injection h with h;subst h;simp[aJw h1]
theorem aIq{es:List En}{l:List Ex}:∀{k m:Nat},k<=m->iD es l k=none->iD es l m=none
 |k,0,h,hn=>by
  obtain rfl:k=0:=by omega
  exact hn
 |k,m+1,h,hn=>by
  by_cases e:k=m+1;· subst e;exact hn
  . simp only[iD,aIq (k:=k) (m:=m) aA hn]
theorem aBr{es:List En}{x:Ex}(h:(bH x && dQ x)=true)(hk:x.k=14):eG es x=(iD es x.subs x.subs.length).map fun r=>(r.1,(r.2.1,r.2.2.1,(x.subs.length:Int))):=by
 unfold eG;rw[if_neg (by rw[h];decide),if_pos uA]
theorem dK.of_own{w:World}{base:Nat}{v:Value}{n:Nat}{l:List Int}(h:w.ownsRow base 2 1 v n (l.map (Value.int .i64)))(hn:n<=1000):∃A c,v=.slice A n c/\dK w A n l/\n<=c/\c<=maxLen:=by
 have hl:l.length=n:=by simpa using h.1
 rcases h.2 with⟨rfl,rfl⟩|⟨g,cap,cur,rfl,hb,hg,hnc,hcm,hcs,ht⟩;· exact⟨none,0,rfl,⟨hl,by omega,fun h=>absurd h aA⟩,Yh _,by unfold maxLen;omega⟩
 . refine⟨_,cap,rfl,⟨hl,by omega,fun _=>⟨g,0,rfl,(Yl.1 hg).1,fun i hi=>?_⟩⟩,hnc,hcm⟩;show w.cell? ⟨g,0+i*1,none⟩=some (.int .i64 (l[i]?.getD default));have h1:(cur.toList.take (n*1))[i]?=(l.map (Value.int .i64))[i]?:=by rw[ht]
   have Aq:i<l.length:=aA;rw[List.getElem?_take,if_pos aA,List.getElem?_map,Array.getElem?_toList,Yk Aq]at h1;simp only[World.cell?,hg];rw[Yk Aq,show 0+i*1=i by omega];simpa using h1
theorem aTl(l:Option Addr)(n c:Nat)(es:List En)(x:Ex)(A:Option Addr)(ca:Nat)(B:Option Addr)(cb:Nat)(w:World)(hE:bU w l n es)(hr:aH w x A B)(hs:bD x<=1000000)(Qa:∀p∈bL x,cX p)(Ea:(bH x && dQ x)=true)(hk:x.k=14)(m:Nat)(Qe:x.subs.length=m)(oo:Option (List Int × T3))(Fw:iD es x.subs m=oo):
 Calls Tryz.prog 127 #[.slice l n c,.agg (aE x A ca B cb)] w (kL w (oo.map fun r=>(r.1,(r.2.1,r.2.2.1,(m:Int))))):=by
 have Oe:∀k,k<x.subs.length->cV (aM x k)=true:=fun k Od=>by
  simp only[Ys]at Ea
  have:=Ea.2
  unfold dQ at this;rw[if_pos uA]at this;exact Zg.1 this _ (by unfold aM;rw[Yk Od];exact Zh _)
 have Ou:x.subs.length<=60:=by
  simp only[Ys]at Ea;have h1:=Ea.1;exact aM6
 have HF:=Hd fun w0 h=>tM (w:=w) (w0:=w0) (x:=x) (A:=A) (ca:=ca) (B:=B) (cb:=cb) h;have Om:=Hd fun w1 (hb:Below w.heap.size w w1)=>xY x A ca B cb w1 (hr.below hb) hs Qa;have On:=Hd fun w1 (hb:Below w.heap.size w w1)=>xX x A ca B cb w1 (hr.below hb);have Oy:=Hd fun k (Od:k<x.subs.length)=>hr.sub Od;have Ok:=Hd fun k (Od:k<x.subs.length) A' Oz B' Oq w1 (hb:Below w.heap.size w w1)(Ap:aH w (aM x k) A' B')=>aJv l n c es (aM x k) A' Oz B' Oq w1 (hE.below hb) (Ap.below hb) (Oe k Od);have Qq:(x.k !=14)=false:=uA;simp only[Ys]at Ea;rw[Ea.1]at Om;rw[Ea.2]at On;clear hE hr hs Qa Ea Oe hk;have Pa:=Hd Fw;have Ab:=Hd (show ∀k,aM x k=x.subs[k]?.getD default from fun k=>rfl);have Gv:=Hd (fun k (hk:k<=x.subs.length) h=>aIq (es:=es) (l:=x.subs) (k:=k) (m:=x.subs.length) hk h);unfold aA3 at Ok;unfold aE at HF Om On Ok⊢;unfold aF at Ok;rw[Qe]at *;clear Fw;go_in
 go_upto_region 1 with(fail);generalize Ai:(w.alloc _).alloc _=w0;obtain⟨hR,hx,Ae,Al⟩:=HF.o w0 Ai;have HR:=Hd hR;have HX:=Hd hx;have Af:=Hd Ae;obtain⟨q0,q1,q2,q3,q4,q5⟩:=Sx (hx w0 (Yg _ _));simp only[Ya,Yb,Yc]at q0 q1 q2 q3 q4 q5;have Bi:=Hd (Om.o w0 Ae);clear Ai hR hx Ae Al HF Om;go_wp2_with fail;refine Bi.o.mono ?_;rintro e w1 ⟨rfl,Aa⟩;have Ew:=Hd (HR.o.below Aa);have Ac:=Hd (Af.o.tr Aa);have Ff:=Hd fun w' (h:Below w1.heap.size w1 w') j=>HX.o w' (Aa.tr h) j;obtain⟨r0,r1,r2,r3,r4,r5⟩:=Sx (HX.o w1 Aa);simp only[Ya,Yb,Yc]at r0 r1 r2 r3 r4 r5;have Pf:=Hd (On.o w1 Ac.o);clear Aa q0 q1 q2 q3 q4 q5 Bi On HX;go_wp2_with fail;refine Pf.o.mono ?_;rintro e w2 ⟨rfl,Ad⟩;have Es:=Hd (Ew.o.below Ad);have Aj:=Hd (Ac.o.tr Ad);have Pv:=Hd fun w' (h:Below w2.heap.size w2 w') j=>Ff.o w' (Ad.tr h) j;have s0:=Ff.o w2 Ad 0;simp only[Ya,Yb,Yc]at s0;have Pj:=World.ownsRow_lit (base:=w2.heap.size) (e:=2) (size:=1) w2 #[] 0 (Yh _) bS rfl;have Qb:=Es.o.lt;clear Ad r0 r1 r2 r3 r4 r5 Pf Ew Ff;go_upto_region 9 with(fail);generalize Cr:w2.alloc _=w3 at *;have Ak:Below w2.heap.size w2 w3:=by rw[<-Cr];exact(Yg _ _).alloc (Yh _) _
 have Pk:w3.heap.size=w2.heap.size+1:=by rw[<-Cr];simp
 generalize Pc:w3.alloc _=w4;obtain⟨Bk,Oo,Qm⟩:=lV Pc;have Og:=gE Pj Bk;rw[Pk]at Oo;have Oj:=Ak.trans (Bk.mono aA);have Fy:=Hd Og;have Iz:=Hd Oo;have Oi:=Hd Oj;clear Cr Pc Ak Pk Bk Oo Qm Og Oj Pj s0;obtain⟨i0,Pu,Li,Lh,Lb⟩:=info_parts aKz;have Ef:=Hd Qb;go_wp2_with fail;go_loopw [10,12] (fun v i wr=>∃(k:Nat)(vs:List Int)(t:T3),k<=m/\i=.int .i64 k/\iD es x.subs k=some (vs,t)/\wr.ownsRow w2.heap.size 2 1 v k (vs.map (Value.int .i64))/\F3 41 wr (w2.heap.size+1) t.1 t.2.1 t.2.2/\Below w2.heap.size w2 wr) (fun _ i _=>m-(intOf i).toNat)
 case atStart=>exact⟨0,[],(0,0,0),Yq _,rfl,rfl,Fy.o,Iz.o,Oi.o⟩
 case round=>
  obtain⟨k,vs,t,hk,rfl,Of,Bq,Ph,Ay⟩:=hrel;have Nw:=Hd Of;have Jx:=Hd Bq;have Gi:=Hd Ph;have Cm:=Hd Ay;have Cb:=Aj.o.tr Ay;have q5:=Pv.o wr Ay 5;have q0:=Pv.o wr Ay 0;simp only[Ya,Yb,Yc]at q5 q0;obtain⟨t0,t1,t2⟩:=t;dsimp only at Nw Gi;clear Of Bq Ph Fy Iz Oi;by_cases Ah:k<m
  . obtain⟨b,off,rfl,hb,Ca⟩:=Oy.o k Ah;obtain⟨A',Oz,B',Oq,Pw,Ap⟩:=Ca k Ah;obtain⟨c0,c1,c2,c3,c4,c5⟩:=dT (fT Pw hb fun p hp=>Cb.cell hp);have Pr:=Hd (Ok.o k Ah A' Oz B' Oq wr Cb Ap);have Cf:=Hd (show iD es x.subs (k+1)=(match dU es (aM x k)with|none=>none|some u=>if 0<k/\¬u.1=(t0,t1,t2)then none else some (vs++[u.2],u.1))by simp only[iD,Nw.o,<-Ab.o];rfl);have Oc:=Hd (Gv.o (k+1) aA);clear Ca Pw Ap Ay Cb;generalize dU es (aM x k)=o at *;generalize aM x k=y at *;generalize Pi:(o.map (·.2)).getD 0=ov at *;generalize Ps:(o.map (·.1.1)).getD 0=oa at *;generalize Pn:(o.map (·.1.2.1)).getD 0=ob at *;generalize Dk:(o.map (·.1.2.2)).getD 0=oc at *;generalize Pp:o.isSome=os at *;have HV:=Hd (show ∀r,o=some r->r=((oa,ob,oc),ov)from fun r h=>by subst h Pi Ps Pn Dk;rfl);have HS:=Hd Pp;clear Pi Ps Pn Dk Pp;go_wp2_with fail;refine Pr.o.mono ?_;rintro e w5 ⟨rfl,Bv⟩;have Oh:=Hd (gE Jx.o Bv);have Ox:=Hd (Gi.o.below Bv);have Ck:=Hd (Cm.o.tr Bv);clear Bv q0 q5 c0 c1 c2 c3 c4 c5 Pr Jx Gi;go_upto_region 13 with(fail);generalize Pb:w5.alloc _=w6;obtain⟨Ci,Pq,Qi⟩:=iB Pb;have Bp:=Hd (gE Oh.o Ci);have Ob:=Hd (Ox.o.below Ci);have Du:=Hd (Ck.o.tr Ci);have Ny:=Hd Pq;have Lv:=Hd (show w2.heap.size+1<w5.heap.size from Ox.o.lt);clear Pb Ci Pq Qi Oh Ox Ck;generalize w5.heap.size=g at *;obtain⟨f0,f1,f2,-,-,-⟩:=Sx Ny.o.cell;obtain⟨e0,e1,e2,-,-,-⟩:=Sx Ob.o.cell;simp only[aF,List.getElem?_toArray,Yz,Zb]at f0 f1 f2 e0 e1 e2;cases os with
    |false=>
     have HO:=Hd (show o=none by have:=HS.o;cases o with|none=>rfl|some r=>cases this);have Fe:=Hd (show oo=none by rw[<-Pa.o];exact Oc.o (by rw[Cf.o,HO.o]));have Db:=Hd (show F3 41 w6 (w.heap.size+1) 0 0 0 from(Du.o.block _ Ef.o).trans Es.o);have Nz:=Hd (Aj.o.tr Du.o);go_upto_region 14 with(fail);go_wp2_with (refine Zv rfl _ _ _ rfl (w.heap.size+1) _ rfl rfl _ _ Db.o cW rfl aQ ?_);exact Zu (jV (p:=5) (u:=4) (v:=6) rfl _ _ (w.heap.size+1) 0 0 0 rfl (Db.o.set _ _ _)) rfl ⟨none,0,0,0,0,0,[],by rw[Fe.o];rfl,dK.nil_ _,Yh _,by unfold maxLen;omega,⟨fun r h=>wG,fun _=>⟨rfl,rfl,rfl,rfl⟩⟩,Xc Nz.o aA _⟩
    |true=>
     have HO:=Hd (show o=some ((oa,ob,oc),ov)by have:=HS.o;cases h:o with|none=>rw[h]at this;cases this|some r=>rw[HV.o r h]);by_cases Mr:k=0
     . have My:=Hd (show iD es x.subs (k+1)=some (vs++[ov],(oa,ob,oc))by rw[Cf.o,HO.o];simp only;rw[if_neg aA]);have Ot:=Hd (show w2.heap.size<=w6.heap.size from Du.o.size);have Nv:=Ny.o.lt;have Qo:=Ob.o.lt;have a0:=(Yj w6 (.cells #[.int .i64 ov] 2) ⟨g,0,none⟩ Nv).trans f0;have a1:=(Yj w6 (.cells #[.int .i64 ov] 2) ⟨g,1,none⟩ Nv).trans f1;have a2:=(Yj w6 (.cells #[.int .i64 ov] 2) ⟨g,2,none⟩ Nv).trans f2;have n1:w2.heap.size+1≠g:=oA;have n2:g≠w2.heap.size+1:=oA;have Oc:=Hd n1;go_upto_region 15 with(fail);go_region_held3 (fun W=>W.cell? ⟨g,0,none⟩=some (.int .i64 oa)/\W.cell? ⟨g,1,none⟩=some (.int .i64 ob)/\W.cell? ⟨g,2,none⟩=some (.int .i64 oc)) (first|exact⟨f0,f1,f2⟩|exact⟨a0,a1,a2⟩|exact⟨b0,b1,b2⟩|exact aHm (Ne.symm Oc.o) ⟨b0,b1,b2⟩)
        ((first|(refine qO aX _ _ 146 aX w2.heap.size 2 i0 (.int .i64 0) 1 8 Tryz.underlying146 Pu Li Lh Lb rfl bS u10 k (vs.map (Value.int .i64)) aX (gE Bp.o (bG ((Yg w6.heap.size w6).alloc (Yh _) (.cells #[.int .i64 ov] 2)) 1)) (some ⟨w6.heap.size,0,none⟩) 1 1 [.int .i64 ov] aX rfl (fun h=>by cases h) (fun ad e j u hu=>by cases e;exact cell_one_new w6 (.int .i64 ov) 2 j u hu) aQ dP aA (by have:=Ot.o;simp;omega) ?_;intro A9 c9 w9 Bx Aq Nt;have Lw:=Hd Bx;have Nx:=Hd (show F3 41 w9 g oa ob oc from(Aq.block g aPk (pP Bp.o Ny.o bS)).trans (Ny.o.below (bG ((Yg w6.heap.size w6).alloc (Yh _) (.cells #[.int .i64 ov] 2)) 1)));have Kh:=Hd (show F3 41 w9 (w2.heap.size+1) t0 t1 t2 from(Aq.block (w2.heap.size+1) aPf (pP Bp.o Ob.o bS)).trans (Ob.o.below (bG ((Yg w6.heap.size w6).alloc (Yh _) (.cells #[.int .i64 ov] 2)) 1)));have Fq:=Hd (aF5 Du.o Aq (fun j hj=>(Bp.o.lt j hj).1));have b0:=Nx.o.cell 0;have b1:=Nx.o.cell 1;have b2:=Nx.o.cell 2;have d0:=Kh.o.cell 0;have d1:=Kh.o.cell 1;have d2:=Kh.o.cell 2;have fz:∀j,w9.frozen? ⟨w2.heap.size+1,j,none⟩=false:=(fun j=>frozen_of_row w9 _ j _ _ Kh.o);simp only[aF,List.getElem?_toArray,Yz,Zb]at b0 b1 b2 d0 d1 d2;clear Bx Aq Nt)))
       exact aQh
     . have Qr:(0:Int)<(k:Int):=by omega
       rcases jD oa ob oc t0 t1 t2 with⟨rfl,rfl,rfl,he⟩|⟨h1,he⟩|⟨rfl,h1,he⟩|⟨rfl,rfl,h1,he⟩
       . have My:=Hd (show iD es x.subs (k+1)=some (vs++[ov],(oa,ob,oc))by rw[Cf.o,HO.o];simp only;rw[if_neg aG]);have Ot:=Hd (show w2.heap.size<=w6.heap.size from Du.o.size);have Nv:=Ny.o.lt;have Qo:=Ob.o.lt;have a0:=(Yj w6 (.cells #[.int .i64 ov] 2) ⟨g,0,none⟩ Nv).trans f0;have a1:=(Yj w6 (.cells #[.int .i64 ov] 2) ⟨g,1,none⟩ Nv).trans f1;have a2:=(Yj w6 (.cells #[.int .i64 ov] 2) ⟨g,2,none⟩ Nv).trans f2;have n1:w2.heap.size+1≠g:=oA;have n2:g≠w2.heap.size+1:=oA;have Oc:=Hd n1;go_upto_region 15 with(fail);go_region_held3 (fun W=>W.cell? ⟨g,0,none⟩=some (.int .i64 oa)/\W.cell? ⟨g,1,none⟩=some (.int .i64 ob)/\W.cell? ⟨g,2,none⟩=some (.int .i64 oc)) (first|exact⟨f0,f1,f2⟩|exact⟨a0,a1,a2⟩|exact⟨b0,b1,b2⟩|exact aHm (Ne.symm Oc.o) ⟨b0,b1,b2⟩)
          ((first|(refine qO aX _ _ 146 aX w2.heap.size 2 i0 (.int .i64 0) 1 8 Tryz.underlying146 Pu Li Lh Lb rfl bS u10 k (vs.map (Value.int .i64)) aX (gE Bp.o (bG ((Yg w6.heap.size w6).alloc (Yh _) (.cells #[.int .i64 ov] 2)) 1)) (some ⟨w6.heap.size,0,none⟩) 1 1 [.int .i64 ov] aX rfl (fun h=>by cases h) (fun ad e j u hu=>by cases e;exact cell_one_new w6 (.int .i64 ov) 2 j u hu) aQ dP aA (by have:=Ot.o;simp;omega) ?_;intro A9 c9 w9 Bx Aq Nt;have Lw:=Hd Bx;have Nx:=Hd (show F3 41 w9 g oa ob oc from(Aq.block g aPk (pP Bp.o Ny.o bS)).trans (Ny.o.below (bG ((Yg w6.heap.size w6).alloc (Yh _) (.cells #[.int .i64 ov] 2)) 1)));have Kh:=Hd (show F3 41 w9 (w2.heap.size+1) oa ob oc from(Aq.block (w2.heap.size+1) aPf (pP Bp.o Ob.o bS)).trans (Ob.o.below (bG ((Yg w6.heap.size w6).alloc (Yh _) (.cells #[.int .i64 ov] 2)) 1)));have Fq:=Hd (aF5 Du.o Aq (fun j hj=>(Bp.o.lt j hj).1));have b0:=Nx.o.cell 0;have b1:=Nx.o.cell 1;have b2:=Nx.o.cell 2;have d0:=Kh.o.cell 0;have d1:=Kh.o.cell 1;have d2:=Kh.o.cell 2;have fz:∀j,w9.frozen? ⟨w2.heap.size+1,j,none⟩=false:=(fun j=>frozen_of_row w9 _ j _ _ Kh.o);simp only[aF,List.getElem?_toArray,Yz,Zb]at b0 b1 b2 d0 d1 d2;clear Bx Aq Nt)))
         exact aQh
       all_goals
        have Fe:=Hd (show oo=none by rw[<-Pa.o];exact Oc.o (by rw[Cf.o,HO.o];simp only;rw[if_pos ⟨by omega,he⟩]));clear he;have Db:=Hd (show F3 41 w6 (w.heap.size+1) 0 0 0 from(Du.o.block _ Ef.o).trans Es.o);have Nz:=Hd (Aj.o.tr Du.o);go_upto_region 14 with(fail);go_wp2_with (refine Zv rfl _ _ _ rfl (w.heap.size+1) _ rfl rfl _ _ Db.o cW rfl aQ ?_);exact Zu (jV (p:=5) (u:=4) (v:=6) rfl _ _ (w.heap.size+1) 0 0 0 rfl (Db.o.set _ _ _)) rfl ⟨none,0,0,0,0,0,[],by rw[Fe.o];rfl,dK.nil_ _,Yh _,by unfold maxLen;omega,⟨fun r h=>wG,fun _=>⟨rfl,rfl,rfl,rfl⟩⟩,Xc Nz.o aA _⟩
  . obtain rfl:k=m:=by omega
    obtain⟨S,c',rfl,Pe,Qj,Qf⟩:=dK.of_own Jx.o aA;have Nu:=Hd Pe;obtain⟨e0,e1,e2,-,-,-⟩:=Sx Gi.o.cell;simp only[aF,List.getElem?_toArray,Yz,Zb]at e0 e1 e2;have fz:=frozen_of_row wr (w2.heap.size+1) 2 _ _ Gi.o
    have Px:∀b o,S=some ⟨b,o,none⟩->0<k->some (w2.heap.size+1)≠some b:=fun b o e _=>by
     have:=pP Jx.o Gi.o bS
     rw[e]at this;exact this
    have Eg:=Hd Px;have Qk:=Hd (fun b o (e:S=some ⟨b,o,none⟩)=>(show w2.heap.size<=b from(Jx.o.lt b (by rw[e];rfl)).1));have Bm:=Hd ((Cm.o.block _ Ef.o).trans Es.o);clear Pe Px Ay Cb q0;go_upto_region 17 with(fail);generalize Oa:wr.setCell _ _=w7;rw[Xe _ _ _ _ _ _ _ Gi.o,show(aF t0 t1 t2).setIfInBounds 2 (.int .i64 (k:Int))=aF t0 t1 k from rfl]at Oa;have Pd:F3 41 w7 (w2.heap.size+1) t0 t1 k:=by rw[<-Oa];exact Gi.o.set _ _ _
    have Pz:F3 41 w7 (w.heap.size+1) 0 0 0:=by rw[<-Oa];exact(setRow_other _ _ _ _ aFh).trans Bm.o
    have Py:Below w2.heap.size w2 w7:=by rw[<-Oa];exact Xc Cm.o aA _
    have Pm:dK w7 S k vs:=⟨Nu.o.1,Nu.o.2.1,fun h0=>by
     obtain⟨b,o,e,hb,hc⟩:=Nu.o.2.2 h0;refine⟨b,o,e,by rw[<-Oa];simpa[World.setRow]using hb,fun i hi=>?_⟩;rw[<-Oa];exact(Ym (a:=⟨b,_,none⟩) (setRow_other _ _ _ _ (fun h=>Eg.o b o e h0 (congrArg some (show b=w2.heap.size+1 from h).symm)))).trans (hc i hi)⟩
    have Qd:=Hd Pd;have Ik:=Hd Pz;have Fg:=Hd (Aj.o.tr Py);have Qc:=Hd Pm;clear Oa Pd Pz Py Pm e0 e1 e2 fz q5;obtain⟨f0,f1,f2,-,-,-⟩:=Sx Qd.o.cell;obtain⟨r0,r1,r2,-,-,-⟩:=Sx Ik.o.cell;simp only[aF,List.getElem?_toArray,Yz,Zb]at f0 f1 f2 r0 r1 r2;have fz:∀j,w7.frozen? ⟨w.heap.size+1,j,none⟩=false:=fun j=>frozen_of_row w7 _ j _ _ Ik.o;have n1:w.heap.size+1≠w2.heap.size+1:=aFh;have n2:w2.heap.size+1≠w.heap.size+1:=aFh;generalize Qh:w2.heap.size+1=Qp at *;have Ov:=Hd (show oo=some (vs,(t0,t1,t2))by rw[<-Pa.o];exact Nw.o);go_region;have Ol:=Qc.o;generalize Jy:World.drew _=w8;obtain⟨hF,hB⟩:=tL Ik.o Fg.o aA Jy;rw[kN Ik.o]at Jy
    have Po:dK w8 S k vs:=⟨Ol.1,Ol.2.1,fun h0=>by
     obtain⟨b,o,e,hb,hc⟩:=Ol.2.2 h0;refine⟨b,o,e,by rw[<-Jy];simpa[World.setRow]using hb,fun i hi=>?_⟩;rw[<-Jy];have Ow:b≠w.heap.size+1:=by have:=Qk.o b o e;have:=Ef.o;omega
     exact(Ym (a:=⟨b,_,none⟩) (setRow_other _ _ _ _ Ow)).trans (hc i hi)⟩
    have Qg:=Hd hF;have Jq:=Hd hB;have Ql:=Hd Po;clear Jy hF hB Po Ol;go_wp2_with fail
    exact Zu (jV (p:=5) (u:=4) (v:=6) rfl _ _ (w.heap.size+1) t0 t1 k rfl Qg.o) rfl ⟨S,k,c',t0,t1,k,vs,by rw [Ov.o];rfl,Ql.o,Qj,Qf,⟨fun r h=>(by
     rw[Ov.o]at h;injection h with h;exact h.symm),fun h=>(by rw[Ov.o]at h;cases h)⟩,Jq.o⟩
end
end Go.Proofs.YtkbpdoomhfkngaaGreat
