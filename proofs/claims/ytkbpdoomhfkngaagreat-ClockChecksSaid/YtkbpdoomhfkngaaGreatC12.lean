/- A part of the proof. Conditions: each theorem's own. -/
import Derived.Test.YtkbpdoomhfkngaaGreatC10
import Derived.Test.YtkbpdoomhfkngaaGreatC11
namespace Go.Proofs.YtkbpdoomhfkngaaGreat
set_option linter.unusedVariables false
set_option linter.unusedSimpArgs false
set_option maxRecDepth 100000
set_option maxHeartbeats 40000000
section
open Go.RowKit Go.Sort
def eH(k n:Int)(s:ByteArray)(op:Int)(A:Option Addr)(len ca:Nat)(h:Bool)(lo hi:Int):Array Value:=
 #[.int .i64 k,.int .i64 n,.string s,.int .i64 op,.slice A len ca,.slice none 0 0,.bool h,.int .i64 lo,.int .i64 hi]
theorem gG:(Tryz.prog.info? 186).map (·.size)=some 9:=aC
theorem gQ{fn:Func}{p:Tmp}(h:fn.results=#[.cell p 186])(tmps:Array Value)(w:World)(g:Nat)(cs:Array Value)(hs:cs.size=9)
 (hp:tmps.getD p undef=.pointer (some ⟨g,0,none⟩))(hg:w.heap[g]?=some (Obj.cells cs 186)):(results fn tmps).run Tryz.prog w=.ok (.agg cs) w:=
 results_cell_row h tmps w g _ _ _ _ hp hg Tryz.underlying186 rfl (by rw[hs];exact gG)
theorem iN(w:World)(x:Ex)(A:Option Addr)(ca:Nat)(B:Option Addr)(cb:Nat)(w1:World)(h:(w.alloc (.cells (aE x A ca B cb) 52)).alloc (.cells (eH 0 0 ByteArray.empty 0 none 0 0 false 0 0) 186)=w1)(hr:aH w x A B):
 Below w.heap.size w w1/\w.heap.size+1<w1.heap.size/\aH w1 x A B/\(∀w',Below w1.heap.size w1 w'->∀j,w'.cell? ⟨w.heap.size,j,none⟩=(aE x A ca B cb)[j]?)/\w1.heap[w.heap.size+1]?=some (Obj.cells (eH 0 0 ByteArray.empty 0 none 0 0 false 0 0) 186):=by
 subst h;refine⟨((Yg _ _).alloc (Yh _) _).alloc aG _,by simp,(hr.alloc _).alloc _,fun w' hb j=>?_,?_⟩;· exact aNr
 . have:=World.alloc_heap_new (w.alloc (.cells (aE x A ca B cb) 52)) (.cells (eH 0 0 ByteArray.empty 0 none 0 0 false 0 0) 186)
   rwa[World.size_alloc]at this
def iG(w w':World)(e:Ending)(x:Ex):Prop:=∃n s op A' arms Aq h lo hi,e=.returned (.agg (eH 0 n s op A' arms.length Aq h lo hi))/\aP w' A' arms.length arms/\gY x n s op arms h lo hi=bO x/\Below w.heap.size w w'
theorem aLx(n:Int)(w:World):Calls Tryz.prog 189 #[.int .i64 n] w fun e w'=>e=.returned (.bool (jO n))/\Below w.heap.size w w':=
 (bG8 n w).mono fun e w' ⟨h1,h2⟩=>⟨h1,by rw[<-h2];exact Yg _ _⟩
theorem aJl{n:Int}(h:jO n=true):IntKind.i64.wrap (6+n)=6+n:=by
 unfold jO at h;simp at h;rcases h with rfl|rfl<;>first|decide|decide +kernel|(unfold wrap64;omega)|simp[wrap64]
variable (x:Ex) (A:Option Addr) (ca:Nat) (B:Option Addr) (cb:Nat) (w:World)
theorem bDf(hr:aH w x A B)(Bp:cX x)(hk:x.k=1):
 Calls Tryz.prog 183 #[.agg (aE x A ca B cb)] w fun e w'=>iG w w' e x:=by
 have HF:=Hd fun w1 h=>iN w x A ca B cb w1 h hr;have Aq:=Hd fun w2 (h:Below w.heap.size w w2)=>(hr.below h).arms;have Cq:=Aq;have Bx:=hr.subs.max;have Al:=Bp.1;clear hr;unfold aE at HF⊢;unfold eH at HF;rw[hk]at HF⊢;go_in
 go_upto_region 1 with(fail);generalize Ag:(w.alloc _).alloc _=w1;obtain⟨Aa,hg,Av,hcell,Ao⟩:=HF.o w1 Ag;have Ac:=Hd Aa;have Bm:=Hd Ao;have q0:=hcell w1 (Yg _ _) 0;have q1:=hcell w1 (Yg _ _) 1;clear hcell Ao Aa Av Ag HF;go_wp2_with (refine Zv rfl _ _ _ rfl (w.heap.size+1) _ rfl rfl _ _ Bm.o gG rfl aQ ?_);exact Zu (gQ rfl _ _ (w.heap.size+1) _ rfl rfl (Xd _ _ _ _ _ _ Bm.o)) rfl ⟨x.n,ByteArray.empty,0,none,[],0,_,0,0,rfl,aP.nil_ _,bHa x hk,Xc Ac.o (Nat.le_succ _) _⟩
theorem bDg(hr:aH w x A B)(Jx:cX x)(hk:x.k=2):
 Calls Tryz.prog 183 #[.agg (aE x A ca B cb)] w fun e w'=>iG w w' e x:=by
 have HF:=Hd fun w1 h=>iN w x A ca B cb w1 h hr;have Bx:=Hd fun w2 (h:Below w.heap.size w w2)=>(hr.below h).arms;have Cq:=Bx;have Nt:=hr.subs.max;have Al:=Jx.1;clear hr;unfold aE at HF⊢;unfold eH at HF;rw[hk]at HF⊢;go_in
 go_upto_region 1 with(fail);generalize Ag:(w.alloc _).alloc _=w1;obtain⟨Aa,hg,Av,hcell,Ao⟩:=HF.o w1 Ag;have Ac:=Hd Aa;have Bm:=Hd Ao;have q0:=hcell w1 (Yg _ _) 0;have q1:=hcell w1 (Yg _ _) 1;clear hcell Ao Aa Av Ag HF;go_wp2_with fail;have Aq:=Hd fun d os=>Ac.o.trans ((Zt w1 d os).mono Ac.o.size);have Bp:=Hd fun d os=>((Zt w1 d os).block _ hg).trans Bm.o;have l0:=fun d os=>Zs q0 d os;have l1:=fun d os=>Zs q1 d os;have cA:=fun d os=>Zi (aLx x.n (grow (redrawn w1 d) os));refine kE (l1:=[_,_,_,_,_,_,_]) (l2:=[_]) aC aC aC aC aC ?_;repeat (quiet_step (first|exact cA _ _))
 refine Xg ?_;intro _ Cy;obtain⟨⟨dq,Bj⟩,Bl⟩:=Cy;subst Bl;replace Ac:=Hd (Aq.o dq Bj);replace Bm:=Hd (Bp.o dq Bj);clear q0 q1 l0 l1 cA Aq Bp;generalize grow (redrawn w1 dq) Bj=wq at *;go_wp2_with (refine Zv rfl _ _ _ rfl (w.heap.size+1) _ rfl rfl _ _ Bm.o gG rfl aQ ?_);exact Zu (gQ rfl _ _ (w.heap.size+1) _ rfl rfl (Xd _ _ _ _ _ _ Bm.o)) rfl ⟨x.n,ByteArray.empty,0,none,[],0,_,0,0,rfl,aP.nil_ _,bHb x hk,Xc Ac.o (Nat.le_succ _) _⟩
theorem bDh(hr:aH w x A B)(Jx:cX x)(hk:x.k=3):
 Calls Tryz.prog 183 #[.agg (aE x A ca B cb)] w fun e w'=>iG w w' e x:=by
 have HF:=Hd fun w1 h=>iN w x A ca B cb w1 h hr;have Bx:=Hd fun w2 (h:Below w.heap.size w w2)=>(hr.below h).arms;have Cq:=Bx;have Nt:=hr.subs.max;have Al:=Jx.1;clear hr;unfold aE at HF⊢;unfold eH at HF;rw[hk]at HF⊢;go_in
 go_upto_region 1 with(fail);generalize Ag:(w.alloc _).alloc _=w1;obtain⟨Aa,hg,Av,hcell,Ao⟩:=HF.o w1 Ag;have Ac:=Hd Aa;have Bm:=Hd Ao;have q0:=hcell w1 (Yg _ _) 0;have q2:=hcell w1 (Yg _ _) 2;clear hcell Ao Aa Av Ag HF;go_wp2_with fail;have Aq:=Hd fun d os=>Ac.o.trans ((Zt w1 d os).mono Ac.o.size);have Bp:=Hd fun d os=>((Zt w1 d os).block _ hg).trans Bm.o;have l0:=fun d os=>Zs q0 d os;have l2:=fun d os=>Zs q2 d os;have cA:=fun d os=>Zi (jJ x.s (grow (redrawn w1 d) os) aA);refine kE (l1:=[_,_,_,_,_,_,_]) (l2:=[_]) aC aC aC aC aC ?_;repeat (quiet_step (first|exact cA _ _))
 refine Xg ?_;intro _ Cy;obtain⟨⟨dq,Bj⟩,Bl⟩:=Cy;subst Bl;replace Ac:=Hd (Aq.o dq Bj);replace Bm:=Hd (Bp.o dq Bj);clear q0 q2 l0 l2 cA Aq Bp;generalize grow (redrawn w1 dq) Bj=wq at *;go_wp2_with (refine Zv rfl _ _ _ rfl (w.heap.size+1) _ rfl rfl _ _ Bm.o gG rfl aQ ?_);exact Zu (gQ rfl _ _ (w.heap.size+1) _ rfl rfl (Xd _ _ _ _ _ _ Bm.o)) rfl ⟨0,x.s,0,none,[],0,_,0,0,rfl,aP.nil_ _,bHc x hk,Xc Ac.o (Nat.le_succ _) _⟩
theorem bDi(hr:aH w x A B)(Jx:cX x)(hk:x.k=4):
 Calls Tryz.prog 183 #[.agg (aE x A ca B cb)] w fun e w'=>iG w w' e x:=by
 have HF:=Hd fun w1 h=>iN w x A ca B cb w1 h hr;have Bx:=Hd fun w2 (h:Below w.heap.size w w2)=>(hr.below h).arms;have Cq:=Bx;have Nt:=hr.subs.max;have Al:=Jx.1;clear hr;unfold aE at HF⊢;unfold eH at HF;rw[hk]at HF⊢;go_in
 go_upto_region 1 with(fail);generalize Ag:(w.alloc _).alloc _=w1;obtain⟨Aa,hg,Av,hcell,Ao⟩:=HF.o w1 Ag;have Ac:=Hd Aa;have Bm:=Hd Ao;have q0:=hcell w1 (Yg _ _) 0;have q2:=hcell w1 (Yg _ _) 2;clear hcell Ao Aa Av Ag HF;go_wp2_with fail;have Aq:=Hd fun d os=>Ac.o.trans ((Zt w1 d os).mono Ac.o.size);have Bp:=Hd fun d os=>((Zt w1 d os).block _ hg).trans Bm.o;have l0:=fun d os=>Zs q0 d os;have l2:=fun d os=>Zs q2 d os;have cA:=fun d os=>Zi (vL x.s (grow (redrawn w1 d) os) aA);refine kE (l1:=[_,_,_,_,_,_,_]) (l2:=[_]) aC aC aC aC aC ?_;repeat (quiet_step (first|exact cA _ _))
 refine Xg ?_;intro _ Cy;obtain⟨⟨dq,Bj⟩,Bl⟩:=Cy;subst Bl;replace Ac:=Hd (Aq.o dq Bj);replace Bm:=Hd (Bp.o dq Bj);clear q0 q2 l0 l2 cA Aq Bp;generalize grow (redrawn w1 dq) Bj=wq at *;go_wp2_with (refine Zv rfl _ _ _ rfl (w.heap.size+1) _ rfl rfl _ _ Bm.o gG rfl aQ ?_);exact Zu (gQ rfl _ _ (w.heap.size+1) _ rfl rfl (Xd _ _ _ _ _ _ Bm.o)) rfl ⟨0,x.s,0,none,[],0,_,0,0,rfl,aP.nil_ _,bHd x hk,Xc Ac.o (Nat.le_succ _) _⟩
theorem aZ0(hr:aH w x A B)(Jx:cX x)(hk:x.k=17):
 Calls Tryz.prog 183 #[.agg (aE x A ca B cb)] w fun e w'=>iG w w' e x:=by
 have HF:=Hd fun w1 h=>iN w x A ca B cb w1 h hr;have Bx:=Hd fun w2 (h:Below w.heap.size w w2)=>(hr.below h).arms;have Cq:=Bx;have Nt:=hr.subs.max;have Al:=Jx.1;clear hr;unfold aE at HF⊢;unfold eH at HF;rw[hk]at HF⊢;go_in
 go_upto_region 1 with(fail);generalize Ag:(w.alloc _).alloc _=w1;obtain⟨Aa,hg,Av,hcell,Ao⟩:=HF.o w1 Ag;have Ac:=Hd Aa;have Bm:=Hd Ao;have q0:=hcell w1 (Yg _ _) 0;have q2:=hcell w1 (Yg _ _) 2;clear hcell Ao Aa Av Ag HF;go_wp2_with fail;have Aq:=Hd fun d os=>Ac.o.trans ((Zt w1 d os).mono Ac.o.size);have Bp:=Hd fun d os=>((Zt w1 d os).block _ hg).trans Bm.o;have l0:=fun d os=>Zs q0 d os;have l2:=fun d os=>Zs q2 d os;have cA:=fun d os=>Zi (bFq x.s (grow (redrawn w1 d) os) aA);refine kE (l1:=[_,_,_,_,_,_,_]) (l2:=[_]) aC aC aC aC aC ?_;repeat (quiet_step (first|exact cA _ _))
 refine Xg ?_;intro _ Cy;obtain⟨⟨dq,Bj⟩,Bl⟩:=Cy;subst Bl;replace Ac:=Hd (Aq.o dq Bj);replace Bm:=Hd (Bp.o dq Bj);clear q0 q2 l0 l2 cA Aq Bp;generalize grow (redrawn w1 dq) Bj=wq at *;go_wp2_with (refine Zv rfl _ _ _ rfl (w.heap.size+1) _ rfl rfl _ _ Bm.o gG rfl aQ ?_);exact Zu (gQ rfl _ _ (w.heap.size+1) _ rfl rfl (Xd _ _ _ _ _ _ Bm.o)) rfl ⟨0,x.s,0,none,[],0,_,0,0,rfl,aP.nil_ _,bF1 x hk,Xc Ac.o (Nat.le_succ _) _⟩
theorem bDj(hr:aH w x A B)(Aq:cX x)(hk:x.k=5):
 Calls Tryz.prog 183 #[.agg (aE x A ca B cb)] w fun e w'=>iG w w' e x:=by
 have HF:=Hd fun w1 h=>iN w x A ca B cb w1 h hr;have Bp:=Hd fun w2 (h:Below w.heap.size w w2)=>(hr.below h).arms;have Cq:=Bp;have Bx:=hr.subs.max;have Al:=Aq.1;clear hr;unfold aE at HF⊢;unfold eH at HF;rw[hk]at HF⊢;cases Eh:decide (1<=x.op)with
 |false=>
  have HE:=aO3 x hk;rw[Eh,Bool.false_and]at HE;exact aQm
 |true=>
  have HE:=aO3 x hk;rw[Eh,Bool.true_and]at HE;exact aQm
theorem bDk(hr:aH w x A B)(Aq:cX x)(hk:x.k=6):
 Calls Tryz.prog 183 #[.agg (aE x A ca B cb)] w fun e w'=>iG w w' e x:=by
 have HF:=Hd fun w1 h=>iN w x A ca B cb w1 h hr;have Bp:=Hd fun w2 (h:Below w.heap.size w w2)=>(hr.below h).arms;have Cq:=Bp;have Bx:=hr.subs.max;have Al:=Aq.1;clear hr;unfold aE at HF⊢;unfold eH at HF;rw[hk]at HF⊢;cases Eh:decide (3<=x.op)with
 |false=>
  have HE:=aO4 x hk;rw[Eh,Bool.false_and]at HE;exact aQn
 |true=>
  have HE:=aO4 x hk;rw[Eh,Bool.true_and]at HE;exact aQn
theorem bDl(hr:aH w x A B)(Bp:cX x)(hk:x.k=7):
 Calls Tryz.prog 183 #[.agg (aE x A ca B cb)] w fun e w'=>iG w w' e x:=by
 have HF:=Hd fun w1 h=>iN w x A ca B cb w1 h hr;have Aq:=Hd fun w2 (h:Below w.heap.size w w2)=>(hr.below h).arms;have Cq:=Aq;have Bx:=hr.subs.max;have Al:=Bp.1;clear hr;unfold aE at HF⊢;unfold eH at HF;rw[hk]at HF⊢;go_in
 go_upto_region 1 with(fail);generalize Ag:(w.alloc _).alloc _=w1;obtain⟨Aa,hg,Av,hcell,Ao⟩:=HF.o w1 Ag;have Ac:=Hd Aa;have Bm:=Hd Ao;have q0:=hcell w1 (Yg _ _) 0;clear hcell Ao Aa Av Ag HF;go_wp2_with (refine Zv rfl _ _ _ rfl (w.heap.size+1) _ rfl rfl _ _ Bm.o gG rfl aQ ?_);exact Zu (gQ rfl _ _ (w.heap.size+1) _ rfl rfl (Xd _ _ _ _ _ _ Bm.o)) rfl ⟨0,ByteArray.empty,0,none,[],0,_,3,3,rfl,aP.nil_ _,bHe x hk,Xc Ac.o (Nat.le_succ _) _⟩
theorem aZ1(hr:aH w x A B)(Bp:cX x)(hk:x.k=16):
 Calls Tryz.prog 183 #[.agg (aE x A ca B cb)] w fun e w'=>iG w w' e x:=by
 have HF:=Hd fun w1 h=>iN w x A ca B cb w1 h hr;have Aq:=Hd fun w2 (h:Below w.heap.size w w2)=>(hr.below h).arms;have Cq:=Aq;have Bx:=hr.subs.max;have Al:=Bp.1;clear hr;unfold aE at HF⊢;unfold eH at HF;rw[hk]at HF⊢;go_in
 go_upto_region 1 with(fail);generalize Ag:(w.alloc _).alloc _=w1;obtain⟨Aa,hg,Av,hcell,Ao⟩:=HF.o w1 Ag;have Ac:=Hd Aa;have Bm:=Hd Ao;have q0:=hcell w1 (Yg _ _) 0;clear hcell Ao Aa Av Ag HF;go_wp2_with (refine Zv rfl _ _ _ rfl (w.heap.size+1) _ rfl rfl _ _ Bm.o gG rfl aQ ?_);exact Zu (gQ rfl _ _ (w.heap.size+1) _ rfl rfl (Xd _ _ _ _ _ _ Bm.o)) rfl ⟨0,ByteArray.empty,0,none,[],0,_,3,3,rfl,aP.nil_ _,bF2 x hk,Xc Ac.o (Nat.le_succ _) _⟩
theorem bDm(hr:aH w x A B)(Nw:cX x)(hk:x.k=8):
 Calls Tryz.prog 183 #[.agg (aE x A ca B cb)] w fun e w'=>iG w w' e x:=by
 have HF:=Hd fun w1 h=>iN w x A ca B cb w1 h hr;have Jx:=Hd fun w2 (h:Below w.heap.size w w2)=>(hr.below h).arms;have Cq:=Jx;have Nx:=hr.subs.max;have Al:=Nw.1;clear hr;unfold aE at HF⊢;unfold eH at HF;rw[hk]at HF⊢;by_cases hn:0<x.subs.length
 . have HE:=aO5 x hk;have hd:decide (0<(x.subs.length:Int))=true:=Zy aA;rw[hd,Bool.true_and]at HE;go_in
   go_upto_region 1 with(fail);generalize Ag:(w.alloc _).alloc _=w1;obtain⟨Aa,hg,Av,hcell,Ao⟩:=HF.o w1 Ag;have Ac:=Hd Aa;have Bm:=Hd Ao;have q0:=hcell w1 (Yg _ _) 0;have q5:=hcell w1 (Yg _ _) 5;obtain⟨b,off,Nv,hb,Ca⟩:=Av.sub (i:=0) hn;subst Nv;obtain⟨A',Nt,B',Nu,Aq,Ap⟩:=Ca 0 hn;rw[Nat.zero_mul,Nat.add_zero]at Aq;obtain⟨d0,d1,d2,d3,d4,d5⟩:=dT Aq;have Bp:=Hd (yT (aM x 0) A' Nt B' Nu w1 Ap);have Bx:=Hd fun w2 (h:Below w1.heap.size w1 w2)=>(h.block _ hg).trans Ao;unfold aE at Bp;clear Ca Aq Ap;clear hcell Ao Aa Av Ag HF;go_wp2_with fail;refine Bp.o.mono ?_;rintro r w2 ⟨rfl,Ad⟩;replace Bm:=Hd (Bx.o w2 Ad);replace Ac:=Hd (Ac.o.tr Ad);clear Ad Bx;exact aRc
 . have HE:=aO5 x hk;have hd:decide (0<(x.subs.length:Int))=false:=Zz aA;rw[hd,Bool.false_and]at HE;go_in
   go_upto_region 1 with(fail);generalize Ag:(w.alloc _).alloc _=w1;obtain⟨Aa,hg,Av,hcell,Ao⟩:=HF.o w1 Ag;have Ac:=Hd Aa;have Bm:=Hd Ao;have q0:=hcell w1 (Yg _ _) 0;have q5:=hcell w1 (Yg _ _) 5;clear hcell Ao Aa Av Ag HF;exact aRc
theorem bDn(hr:aH w x A B)(Bp:cX x)(hk:x.k=9):
 Calls Tryz.prog 183 #[.agg (aE x A ca B cb)] w fun e w'=>iG w w' e x:=by
 have HF:=Hd fun w1 h=>iN w x A ca B cb w1 h hr;have Aq:=Hd fun w2 (h:Below w.heap.size w w2)=>(hr.below h).arms;have Cq:=Aq;have Bx:=hr.subs.max;have Al:=Bp.1;clear hr;unfold aE at HF⊢;unfold eH at HF;rw[hk]at HF⊢;go_in
 go_upto_region 1 with(fail);generalize Ag:(w.alloc _).alloc _=w1;obtain⟨Aa,hg,Av,hcell,Ao⟩:=HF.o w1 Ag;have Ac:=Hd Aa;have Bm:=Hd Ao;have q0:=hcell w1 (Yg _ _) 0;clear hcell Ao Aa Av Ag HF;go_wp2_with (refine Zv rfl _ _ _ rfl (w.heap.size+1) _ rfl rfl _ _ Bm.o gG rfl aQ ?_);exact Zu (gQ rfl _ _ (w.heap.size+1) _ rfl rfl (Xd _ _ _ _ _ _ Bm.o)) rfl ⟨0,ByteArray.empty,0,none,[],0,_,2,2,rfl,aP.nil_ _,bHf x hk,Xc Ac.o (Nat.le_succ _) _⟩
theorem aZ2(hr:aH w x A B)(Bp:cX x)(hk:x.k=15):
 Calls Tryz.prog 183 #[.agg (aE x A ca B cb)] w fun e w'=>iG w w' e x:=by
 have HF:=Hd fun w1 h=>iN w x A ca B cb w1 h hr;have Aq:=Hd fun w2 (h:Below w.heap.size w w2)=>(hr.below h).arms;have Cq:=Aq;have Bx:=hr.subs.max;have Al:=Bp.1;clear hr;unfold aE at HF⊢;unfold eH at HF;rw[hk]at HF⊢;go_in
 go_upto_region 1 with(fail);generalize Ag:(w.alloc _).alloc _=w1;obtain⟨Aa,hg,Av,hcell,Ao⟩:=HF.o w1 Ag;have Ac:=Hd Aa;have Bm:=Hd Ao;have q0:=hcell w1 (Yg _ _) 0;clear hcell Ao Aa Av Ag HF;go_wp2_with (refine Zv rfl _ _ _ rfl (w.heap.size+1) _ rfl rfl _ _ Bm.o gG rfl aQ ?_);exact Zu (gQ rfl _ _ (w.heap.size+1) _ rfl rfl (Xd _ _ _ _ _ _ Bm.o)) rfl ⟨0,ByteArray.empty,0,none,[],0,_,2,2,rfl,aP.nil_ _,bF3 x hk,Xc Ac.o (Nat.le_succ _) _⟩
theorem aZ3(hr:aH w x A B)(Bp:cX x)(hk:x.k=10):
 Calls Tryz.prog 183 #[.agg (aE x A ca B cb)] w fun e w'=>iG w w' e x:=by
 have HF:=Hd fun w1 h=>iN w x A ca B cb w1 h hr;have Aq:=Hd fun w2 (h:Below w.heap.size w w2)=>(hr.below h).arms;have Cq:=Aq;have Bx:=hr.subs.max;have Al:=Bp.1;clear hr;unfold aE at HF⊢;unfold eH at HF;rw[hk]at HF⊢;go_in
 go_upto_region 1 with(fail);generalize Ag:(w.alloc _).alloc _=w1;obtain⟨Aa,hg,Av,hcell,Ao⟩:=HF.o w1 Ag;have Ac:=Hd Aa;have Bm:=Hd Ao;have q0:=hcell w1 (Yg _ _) 0;clear hcell Ao Aa Av Ag HF;go_wp2_with (refine Zv rfl _ _ _ rfl (w.heap.size+1) _ rfl rfl _ _ Bm.o gG rfl aQ ?_);exact Zu (gQ rfl _ _ (w.heap.size+1) _ rfl rfl (Xd _ _ _ _ _ _ Bm.o)) rfl ⟨0,ByteArray.empty,0,none,[],0,_,1,1,rfl,aP.nil_ _,bF4 x hk,Xc Ac.o (Nat.le_succ _) _⟩
theorem aZ4(hr:aH w x A B)(Jx:cX x)(hk:x.k=11):
 Calls Tryz.prog 183 #[.agg (aE x A ca B cb)] w fun e w'=>iG w w' e x:=by
 have HF:=Hd fun w1 h=>iN w x A ca B cb w1 h hr;have Nt:=Hd fun w2 (h:Below w.heap.size w w2)=>(hr.below h).arms;have Cq:=Nt;have Bx:=Hd fun(m:Int) w2 (h:Below w.heap.size w w2)=>aLr A x.arms.length ca m x.arms w2 (hr.below h).arms Jx.2.1 Jx.2.2;have Nu:=hr.subs.max;have Al:=Jx.1;clear hr;unfold aE at HF⊢;unfold eH at HF;rw[hk]at HF⊢;cases Eh:bE x.s.data.toList with
 |false=>
  have HE:=aLs x hk;rw[Eh,Bool.false_and]at HE;have Fj:=Hd fun w1=>jJ x.s w1 aA;rw[Eh]at Fj;go_in
  go_upto_region 1 with(fail);generalize Ag:(w.alloc _).alloc _=w1;obtain⟨Aa,hg,Av,hcell,Ao⟩:=HF.o w1 Ag;have Ac:=Hd Aa;have Bm:=Hd Ao;obtain⟨q0,-,q2,-,q4,-⟩:=Sx (hcell w1 (Yg _ _));clear hcell Ao Aa Av Ag HF;go_wp2_with fail;have Aq:=Hd fun d os=>Ac.o.trans ((Zt w1 d os).mono Ac.o.size);have Bp:=Hd fun d os=>((Zt w1 d os).block _ hg).trans Bm.o;have l0:=fun d os=>Zs q0 d os;have l2:=fun d os=>Zs q2 d os;have l4:=fun d os=>Zs q4 d os;have cA:=fun d os=>Zi (Fj.o (grow (redrawn w1 d) os));refine kE (l1:=[_,_,_,_,_,_,_,_,_,_,_,_,_,_]) (l2:=[_]) aC aC aC aC aC ?_;repeat (quiet_step (first|exact cA _ _))
  refine Xg ?_;intro _ Cy;obtain⟨⟨dq,Bj⟩,Bl⟩:=Cy;subst Bl;replace Ac:=Hd (Aq.o dq Bj);replace Bm:=Hd (Bp.o dq Bj);clear q0 q2 q4 l0 l2 l4 cA Aq Bp;generalize grow (redrawn w1 dq) Bj=wq at *;go_wp2_with (refine Zv rfl _ _ _ rfl (w.heap.size+1) _ rfl rfl _ _ Bm.o gG rfl aQ ?_);exact Zu (gQ rfl _ _ (w.heap.size+1) _ rfl rfl (Xd _ _ _ _ _ _ Bm.o)) rfl ⟨0,x.s,0,A,x.arms,ca,false,1,1,rfl,Cq.o _ (Xc Ac.o (Nat.le_succ _) _),HE,Xc Ac.o (Nat.le_succ _) _⟩
 |true=>
  have HE:=aLs x hk;rw[Eh,Bool.true_and]at HE;have Fj:=Hd fun w1=>jJ x.s w1 aA;rw[Eh]at Fj;go_in
  go_upto_region 1 with(fail);generalize Ag:(w.alloc _).alloc _=w1;obtain⟨Aa,hg,Av,hcell,Ao⟩:=HF.o w1 Ag;have Ac:=Hd Aa;have Bm:=Hd Ao;obtain⟨q0,-,q2,-,q4,-⟩:=Sx (hcell w1 (Yg _ _));clear hcell Ao Aa Av Ag HF;go_wp2_with fail;have Aq:=Hd fun d os=>Ac.o.trans ((Zt w1 d os).mono Ac.o.size);have Bp:=Hd fun d os=>((Zt w1 d os).block _ hg).trans Bm.o;have l0:=fun d os=>Zs q0 d os;have l2:=fun d os=>Zs q2 d os;have l4:=fun d os=>Zs q4 d os;have cA:=fun d os=>Zi (Fj.o (grow (redrawn w1 d) os));have cB:=fun d os=>Zi (Bx.o 1 (grow (redrawn w1 d) os) (Aq.o d os));refine kE (l1:=[_,_,_,_,_,_,_,_,_,_,_,_,_,_]) (l2:=[_]) aC aC aC aC aC ?_;repeat (quiet_step (first|exact cA _ _|exact cB _ _))
  refine Xg ?_;intro _ Cy;obtain⟨⟨dq,Bj⟩,Bl⟩:=Cy;subst Bl;replace Ac:=Hd (Aq.o dq Bj);replace Bm:=Hd (Bp.o dq Bj);clear q0 q2 q4 l0 l2 l4 cA cB Aq Bp;generalize grow (redrawn w1 dq) Bj=wq at *;go_wp2_with (refine Zv rfl _ _ _ rfl (w.heap.size+1) _ rfl rfl _ _ Bm.o gG rfl aQ ?_);exact Zu (gQ rfl _ _ (w.heap.size+1) _ rfl rfl (Xd _ _ _ _ _ _ Bm.o)) rfl ⟨0,x.s,0,A,x.arms,ca,_,1,1,rfl,Cq.o _ (Xc Ac.o (Nat.le_succ _) _),HE,Xc Ac.o (Nat.le_succ _) _⟩
theorem aZ5(hr:aH w x A B)(Jx:cX x)(hk:x.k=12):
 Calls Tryz.prog 183 #[.agg (aE x A ca B cb)] w fun e w'=>iG w w' e x:=by
 have HF:=Hd fun w1 h=>iN w x A ca B cb w1 h hr;have Nt:=Hd fun w2 (h:Below w.heap.size w w2)=>(hr.below h).arms;have Cq:=Nt;have Bx:=Hd fun(m:Int) w2 (h:Below w.heap.size w w2)=>aLr A x.arms.length ca m x.arms w2 (hr.below h).arms Jx.2.1 Jx.2.2;have Nu:=hr.subs.max;have Al:=Jx.1;clear hr;unfold aE at HF⊢;unfold eH at HF;rw[hk]at HF⊢;cases Eh:bE x.s.data.toList with
 |false=>
  have HE:=aLt x hk;rw[Eh,Bool.false_and]at HE;have Fj:=Hd fun w1=>jJ x.s w1 aA;rw[Eh]at Fj;go_in
  go_upto_region 1 with(fail);generalize Ag:(w.alloc _).alloc _=w1;obtain⟨Aa,hg,Av,hcell,Ao⟩:=HF.o w1 Ag;have Ac:=Hd Aa;have Bm:=Hd Ao;obtain⟨q0,-,q2,-,q4,-⟩:=Sx (hcell w1 (Yg _ _));clear hcell Ao Aa Av Ag HF;go_wp2_with fail;have Aq:=Hd fun d os=>Ac.o.trans ((Zt w1 d os).mono Ac.o.size);have Bp:=Hd fun d os=>((Zt w1 d os).block _ hg).trans Bm.o;have l0:=fun d os=>Zs q0 d os;have l2:=fun d os=>Zs q2 d os;have l4:=fun d os=>Zs q4 d os;have cA:=fun d os=>Zi (Fj.o (grow (redrawn w1 d) os));refine kE (l1:=[_,_,_,_,_,_,_,_,_,_,_,_,_,_,_,_]) (l2:=[_]) aC aC aC aC aC ?_;repeat (quiet_step (first|exact cA _ _))
  refine Xg ?_;intro _ Cy;obtain⟨⟨dq,Bj⟩,Bl⟩:=Cy;subst Bl;replace Ac:=Hd (Aq.o dq Bj);replace Bm:=Hd (Bp.o dq Bj);clear q0 q2 q4 l0 l2 l4 cA Aq Bp;generalize grow (redrawn w1 dq) Bj=wq at *;go_wp2_with (refine Zv rfl _ _ _ rfl (w.heap.size+1) _ rfl rfl _ _ Bm.o gG rfl aQ ?_);exact Zu (gQ rfl _ _ (w.heap.size+1) _ rfl rfl (Xd _ _ _ _ _ _ Bm.o)) rfl ⟨0,x.s,0,A,x.arms,ca,false,_,_,rfl,Cq.o _ (Xc Ac.o (Nat.le_succ _) _),HE,Xc Ac.o (Nat.le_succ _) _⟩
 |true=>
  have HE:=aLt x hk;rw[Eh,Bool.true_and]at HE;have Fj:=Hd fun w1=>jJ x.s w1 aA;rw[Eh]at Fj;go_in
  go_upto_region 1 with(fail);generalize Ag:(w.alloc _).alloc _=w1;obtain⟨Aa,hg,Av,hcell,Ao⟩:=HF.o w1 Ag;have Ac:=Hd Aa;have Bm:=Hd Ao;obtain⟨q0,-,q2,-,q4,-⟩:=Sx (hcell w1 (Yg _ _));clear hcell Ao Aa Av Ag HF;go_wp2_with fail;have Aq:=Hd fun d os=>Ac.o.trans ((Zt w1 d os).mono Ac.o.size);have Bp:=Hd fun d os=>((Zt w1 d os).block _ hg).trans Bm.o;have l0:=fun d os=>Zs q0 d os;have l2:=fun d os=>Zs q2 d os;have l4:=fun d os=>Zs q4 d os;have cA:=fun d os=>Zi (Fj.o (grow (redrawn w1 d) os));have cB:=fun d os=>Zi (Bx.o 6 (grow (redrawn w1 d) os) (Aq.o d os));refine kE (l1:=[_,_,_,_,_,_,_,_,_,_,_,_,_,_,_,_]) (l2:=[_]) aC aC aC aC aC ?_;repeat (quiet_step (first|exact cA _ _|exact cB _ _))
  refine Xg ?_;intro _ Cy;obtain⟨⟨dq,Bj⟩,Bl⟩:=Cy;subst Bl;replace Ac:=Hd (Aq.o dq Bj);replace Bm:=Hd (Bp.o dq Bj);clear q0 q2 q4 l0 l2 l4 cA cB Aq Bp;generalize grow (redrawn w1 dq) Bj=wq at *;go_wp2_with (refine Zv rfl _ _ _ rfl (w.heap.size+1) _ rfl rfl _ _ Bm.o gG rfl aQ ?_);exact Zu (gQ rfl _ _ (w.heap.size+1) _ rfl rfl (Xd _ _ _ _ _ _ Bm.o)) rfl ⟨0,x.s,0,A,x.arms,ca,_,_,_,rfl,Cq.o _ (Xc Ac.o (Nat.le_succ _) _),HE,Xc Ac.o (Nat.le_succ _) _⟩
theorem aZ6(hr:aH w x A B)(Jx:cX x)(hk:x.k=13):
 Calls Tryz.prog 183 #[.agg (aE x A ca B cb)] w fun e w'=>iG w w' e x:=by
 have HF:=Hd fun w1 h=>iN w x A ca B cb w1 h hr;have Bx:=Hd fun w2 (h:Below w.heap.size w w2)=>(hr.below h).arms;have Cq:=Bx;have Nt:=hr.subs.max;have Al:=Jx.1;clear hr;unfold aE at HF⊢;unfold eH at HF;rw[hk]at HF⊢;cases Eh:bE x.s.data.toList with
 |false=>
  have HE:=aLu x (IntKind.i64.wrap (6+x.n)) hk (fun h=>aJl h);rw[Eh,Bool.false_and]at HE;have Fj:=Hd fun w1=>jJ x.s w1 aA;rw[Eh]at Fj;go_in
  go_upto_region 1 with(fail);generalize Ag:(w.alloc _).alloc _=w1;obtain⟨Aa,hg,Av,hcell,Ao⟩:=HF.o w1 Ag;have Ac:=Hd Aa;have Bm:=Hd Ao;obtain⟨q0,q1,q2,-,-,-⟩:=Sx (hcell w1 (Yg _ _));clear hcell Ao Aa Av Ag HF;go_wp2_with fail;have Aq:=Hd fun d os=>Ac.o.trans ((Zt w1 d os).mono Ac.o.size);have Bp:=Hd fun d os=>((Zt w1 d os).block _ hg).trans Bm.o;have l0:=fun d os=>Zs q0 d os;have l1:=fun d os=>Zs q1 d os;have l2:=fun d os=>Zs q2 d os;have cA:=fun d os=>Zi (Fj.o (grow (redrawn w1 d) os));refine kE (l1:=[_,_,_,_,_,_,_,_,_,_,_,_,_,_,_,_,_]) (l2:=[_]) aC aC aC aC aC ?_;repeat (quiet_step (first|exact cA _ _))
  refine Xg ?_;intro _ Cy;obtain⟨⟨dq,Bj⟩,Bl⟩:=Cy;subst Bl;replace Ac:=Hd (Aq.o dq Bj);replace Bm:=Hd (Bp.o dq Bj);clear q0 q1 q2 l0 l1 l2 cA Aq Bp;generalize grow (redrawn w1 dq) Bj=wq at *;go_wp2_with (refine Zv rfl _ _ _ rfl (w.heap.size+1) _ rfl rfl _ _ Bm.o gG rfl aQ ?_);exact Zu (gQ rfl _ _ (w.heap.size+1) _ rfl rfl (Xd _ _ _ _ _ _ Bm.o)) rfl ⟨x.n,x.s,0,none,[],0,false,_,_,rfl,aP.nil_ _,HE,Xc Ac.o (Nat.le_succ _) _⟩
 |true=>
  have HE:=aLu x (IntKind.i64.wrap (6+x.n)) hk (fun h=>aJl h);rw[Eh,Bool.true_and]at HE;have Fj:=Hd fun w1=>jJ x.s w1 aA;rw[Eh]at Fj;go_in
  go_upto_region 1 with(fail);generalize Ag:(w.alloc _).alloc _=w1;obtain⟨Aa,hg,Av,hcell,Ao⟩:=HF.o w1 Ag;have Ac:=Hd Aa;have Bm:=Hd Ao;obtain⟨q0,q1,q2,-,-,-⟩:=Sx (hcell w1 (Yg _ _));clear hcell Ao Aa Av Ag HF;go_wp2_with fail;have Aq:=Hd fun d os=>Ac.o.trans ((Zt w1 d os).mono Ac.o.size);have Bp:=Hd fun d os=>((Zt w1 d os).block _ hg).trans Bm.o;have l0:=fun d os=>Zs q0 d os;have l1:=fun d os=>Zs q1 d os;have l2:=fun d os=>Zs q2 d os;have cA:=fun d os=>Zi (Fj.o (grow (redrawn w1 d) os));have cB:=fun d os=>Zi (aLx x.n (grow (redrawn w1 d) os));refine kE (l1:=[_,_,_,_,_,_,_,_,_,_,_,_,_,_,_,_,_]) (l2:=[_]) aC aC aC aC aC ?_;repeat (quiet_step (first|exact cA _ _|exact cB _ _))
  refine Xg ?_;intro _ Cy;obtain⟨⟨dq,Bj⟩,Bl⟩:=Cy;subst Bl;replace Ac:=Hd (Aq.o dq Bj);replace Bm:=Hd (Bp.o dq Bj);clear q0 q1 q2 l0 l1 l2 cA cB Aq Bp;generalize grow (redrawn w1 dq) Bj=wq at *;go_wp2_with (refine Zv rfl _ _ _ rfl (w.heap.size+1) _ rfl rfl _ _ Bm.o gG rfl aQ ?_);exact Zu (gQ rfl _ _ (w.heap.size+1) _ rfl rfl (Xd _ _ _ _ _ _ Bm.o)) rfl ⟨x.n,x.s,0,none,[],0,_,_,_,rfl,aP.nil_ _,HE,Xc Ac.o (Nat.le_succ _) _⟩
theorem aZ7(hr:aH w x A B)(Bp:cX x)(hk:x.k=14):
 Calls Tryz.prog 183 #[.agg (aE x A ca B cb)] w fun e w'=>iG w w' e x:=by
 have HF:=Hd fun w1 h=>iN w x A ca B cb w1 h hr;have Aq:=Hd fun w2 (h:Below w.heap.size w w2)=>(hr.below h).arms;have Cq:=Aq;have Bx:=hr.subs.max;have Al:=Bp.1;clear hr;unfold aE at HF⊢;unfold eH at HF;rw[hk]at HF⊢;go_in
 go_upto_region 1 with(fail);generalize Ag:(w.alloc _).alloc _=w1;obtain⟨Aa,hg,Av,hcell,Ao⟩:=HF.o w1 Ag;have Ac:=Hd Aa;have Bm:=Hd Ao;have q0:=hcell w1 (Yg _ _) 0;clear hcell Ao Aa Av Ag HF;go_wp2_with (refine Zv rfl _ _ _ rfl (w.heap.size+1) _ rfl rfl _ _ Bm.o gG rfl aQ ?_);exact Zu (gQ rfl _ _ (w.heap.size+1) _ rfl rfl (Xd _ _ _ _ _ _ Bm.o)) rfl ⟨0,ByteArray.empty,0,none,[],0,_,1,8,rfl,aP.nil_ _,bF5 x hk,Xc Ac.o (Nat.le_succ _) _⟩
theorem aZ8(hr:aH w x A B)(Nw:cX x)(h1:x.k≠1)(h2:x.k≠2)(h3:x.k≠3)(h4:x.k≠4)(Bp:x.k≠17)(h5:x.k≠5)(h6:x.k≠6)(h7:x.k≠7)(Nu:x.k≠16)(h8:x.k≠8)(h9:x.k≠9)(Jx:x.k≠15)(Bx:x.k≠10)(Nt:x.k≠11)(Fo:x.k≠12)(Aq:x.k≠13)(Ja:x.k≠14)(hk:x.k<1\/17<x.k):
 Calls Tryz.prog 183 #[.agg (aE x A ca B cb)] w fun e w'=>iG w w' e x:=by
 have HF:=Hd fun w1 h=>iN w x A ca B cb w1 h hr;have Nv:=Hd fun w2 (h:Below w.heap.size w w2)=>(hr.below h).arms;have Cq:=Nv;have Od:=hr.subs.max;have Al:=Nw.1;clear hr;unfold aE at HF⊢;unfold eH at HF;generalize Oa:x.k=k at HF⊢h1 h2 h3 h4 Bp h5 h6 h7 Nu h8 h9 Jx Bx Nt Fo Aq Ja;have e1:(k==1)=false:=aAv;have e2:(k==2)=false:=aAw;have e3:(k==3)=false:=by simpa using h3
 have e4:(k==4)=false:=by simpa using h4
 have Og:(k==17)=false:=by simpa using Bp
 have e5:(k==5)=false:=pG;have e6:(k==6)=false:=by simpa using h6
 have e7:(k==7)=false:=by simpa using h7
 have Oc:(k==16)=false:=by simpa using Nu
 have e8:(k==8)=false:=by simpa using h8
 have e9:(k==9)=false:=by simpa using h9
 have Ob:(k==15)=false:=by simpa using Jx
 have Of:(k==10)=false:=by simpa using Bx
 have Nx:(k==11)=false:=by simpa using Nt
 have Nz:(k==12)=false:=by simpa using Fo
 have Oe:(k==13)=false:=by simpa using Aq
 have Ny:(k==14)=false:=by simpa using Ja
 go_in
 go_upto_region 1 with(fail);generalize Ag:(w.alloc _).alloc _=w1;obtain⟨Aa,hg,Av,hcell,Ao⟩:=HF.o w1 Ag;have Ac:=Hd Aa;have Bm:=Hd Ao;have q0:=hcell w1 (Yg _ _) 0;clear hcell Ao Aa Av Ag HF;go_wp2_with (refine Zv rfl _ _ _ rfl (w.heap.size+1) _ rfl rfl _ _ Bm.o gG rfl aQ ?_);exact Zu (gQ rfl _ _ (w.heap.size+1) _ rfl rfl (Xd _ _ _ _ _ _ Bm.o)) rfl ⟨0,ByteArray.empty,0,none,[],0,_,0,0,rfl,aP.nil_ _,bF6 x _ _ _ _ _ _ hk,Xc Ac.o (Nat.le_succ _) _⟩
theorem bDo(hr:aH w x A B)(Aq:cX x):
 Calls Tryz.prog 183 #[.agg (aE x A ca B cb)] w fun e w'=>iG w w' e x:=by
 by_cases h1:x.k=1;· exact bDf x A ca B cb w hr Aq h1
 by_cases h2:x.k=2;· exact bDg x A ca B cb w hr Aq h2
 by_cases h3:x.k=3;· exact bDh x A ca B cb w hr Aq h3
 by_cases h4:x.k=4;· exact bDi x A ca B cb w hr Aq h4
 by_cases Bx:x.k=17;· exact aZ0 x A ca B cb w hr Aq Bx
 by_cases h5:x.k=5;· exact bDj x A ca B cb w hr Aq h5
 by_cases h6:x.k=6;· exact bDk x A ca B cb w hr Aq h6
 by_cases h7:x.k=7;· exact bDl x A ca B cb w hr Aq h7
 by_cases Nv:x.k=16;· exact aZ1 x A ca B cb w hr Aq Nv
 by_cases h8:x.k=8;· exact bDm x A ca B cb w hr Aq h8
 by_cases h9:x.k=9;· exact bDn x A ca B cb w hr Aq h9
 by_cases Nt:x.k=15;· exact aZ2 x A ca B cb w hr Aq Nt
 by_cases Jx:x.k=10;· exact aZ3 x A ca B cb w hr Aq Jx
 by_cases Nu:x.k=11;· exact aZ4 x A ca B cb w hr Aq Nu
 by_cases Fo:x.k=12;· exact aZ5 x A ca B cb w hr Aq Fo
 by_cases Bp:x.k=13;· exact aZ6 x A ca B cb w hr Aq Bp
 by_cases Ja:x.k=14;· exact aZ7 x A ca B cb w hr Aq Ja
 exact aZ8 x A ca B cb w hr Aq h1 h2 h3 h4 Bx h5 h6 h7 Nv h8 h9 Nt Jx Nu Fo Bp Ja aA
end
section
open Go.RowKit Go.Sort
theorem aWp(w:World)(n:Int)(s:ByteArray)(op:Int)(A:Option Addr)(len ca:Nat)(h:Bool)(lo hi:Int)(w1:World)(e:w.alloc (.cells (eH 0 n s op A len ca h lo hi) 186)=w1):
 Below w.heap.size w w1/\w.heap.size<w1.heap.size/\w1.cell? ⟨w.heap.size,0,none⟩=some (.int .i64 0)/\w1.frozen? ⟨w.heap.size,0,none⟩=false/\
  ∀(k:Int)(w2:World),w1.setCell ⟨w.heap.size,0,none⟩ (.int .i64 k)=w2->Below w.heap.size w w2/\∀w3,Below w2.heap.size w2 w3->∀j,w3.cell? ⟨w.heap.size,j,none⟩=(eH k n s op A len ca h lo hi)[j]?:=by
 subst e;have hn:(w.alloc (.cells (eH 0 n s op A len ca h lo hi) 186)).heap[w.heap.size]?=some (Obj.cells (eH 0 n s op A len ca h lo hi) 186):=World.alloc_heap_new _ _;have hb:Below w.heap.size w (w.alloc (.cells (eH 0 n s op A len ca h lo hi) 186)):=(Yg _ _).alloc (Yh _) _
 have hc:∀j,(w.alloc (.cells (eH 0 n s op A len ca h lo hi) 186)).cell? ⟨w.heap.size,j,none⟩=(eH 0 n s op A len ca h lo hi)[j]?:=fun j=>by
  rw[Zp]
 refine⟨hb,by simp,by rw[hc];rfl,by simp only[World.frozen?,hn];rfl,fun k w2 e2=>?_⟩;subst e2;refine⟨hb.setCell (p:=⟨w.heap.size,0,none⟩) (Yh _) _,fun w3 h3 j=>?_⟩;rw[h3.cell (p:=⟨w.heap.size,j,none⟩) (by have:=(grownBy_setCell' (w.alloc (.cells (eH 0 n s op A len ca h lo hi) 186)) w.heap.size (.int .i64 k)).size;simp at this⊢)];cases j with
 |zero=>exact World.cell?_setCell_same' _ _ _ (by rw[hc];rfl)
 |succ j=>
  rw[World.cell?_setCell_other _ _ _ _ (by intro e;injection e with _ e;exact absurd e aG),hc];rfl
theorem bF9(k n:Int)(s:ByteArray)(op:Int)(arms:List ByteArray):(mD k n s op arms).k=k:=rfl
theorem bGa(k n:Int)(s:ByteArray)(op:Int)(arms:List ByteArray):(mD k n s op arms).n=n:=rfl
theorem bGb(k n:Int)(s:ByteArray)(op:Int)(arms:List ByteArray):(mD k n s op arms).s=s:=rfl
theorem bDp(k n:Int)(s:ByteArray)(op:Int)(arms:List ByteArray):(mD k n s op arms).op=op:=rfl
theorem aWq(k n:Int)(s:ByteArray)(op:Int)(arms:List ByteArray):(mD k n s op arms).arms=arms:=rfl
theorem aWr(k n:Int)(s:ByteArray)(op:Int)(arms:List ByteArray):(mD k n s op arms).subs=[]:=rfl
theorem bGc{w:World}{A:Option Addr}{arms:List ByteArray}(k n:Int)(s:ByteArray)(op:Int)(h:aP w A arms.length arms):aH w (mD k n s op arms) A none:=
 vK.2 ⟨h,eQ.nil_ _⟩
theorem bGd(x:Ex)(A:Option Addr)(ca:Nat)(B:Option Addr)(cb:Nat)(w:World)(hr:aH w x A B)(Oe:cX x):
 Calls Tryz.prog 168 #[.agg (aE x A ca B cb)] w fun e w'=>e=.returned (.bool (bO x))/\Below w.heap.size w w':=by
 have HF:=Hd fun w1 h=>fB w x A ca B cb w1 h hr;have Gx:=Hd fun w1 (h:Below w.heap.size w w1)=>bDo x A ca B cb w1 (hr.below h) Oe;have Nu:=Hd fun(n:Int)(s:ByteArray)(op:Int)(A':Option Addr)(arms:List ByteArray)(Nv:Nat)(w1:World)(h:Below w.heap.size w w1)(hA:aP w1 A' arms.length arms)=>aZa x A ca B cb (mD x.k n s op arms) A' Nv none 0 w1 (hr.below h) (bGc x.k n s op hA);have Oh:=hr.subs.max;clear hr;unfold aE at HF Gx Nu⊢;simp only[bF9,bGa,bGb,bDp,aWq,aWr,Zd]at Nu;generalize Jx:bO x=Bu;have Nx:=Hd Jx;clear Jx;generalize Bp:x.subs.length=len at *;have Iw:=Hd Bp;clear Bp;generalize x.arms.length=Og at *;go_in
 go_upto_region 1 with(fail);generalize Ag:w.alloc _=w1;obtain⟨Aa,hg,Av,hcell⟩:=HF.o w1 Ag;have Ac:=Hd Aa;have HC:=Hd hcell;obtain⟨q0,q1,q2,q3,q4,q5⟩:=Sx (hcell w1 (Yg _ _));have Oa:=Hd (Gx.o w1 Aa);clear hcell Aa Av Ag HF Gx;go_wp2_with fail;refine Oa.o.mono ?_;rintro r w2 ⟨n,s,op,A',arms,Nv,hh,lo,hi,rfl,Fc,Ao,Ad⟩;have Aj:=Hd (Ac.o.tr Ad);have Dh:=Hd Ad;have Ob:=Hd Fc;have HS:=Hd (show Bu=(hh && rK x (mD x.k n s op arms) && decide (lo<=(len:Int)) && decide ((len:Int)<=hi))by rw[<-Nx.o,<-Iw.o];exact Ao.symm);have Nw:=Hd fun w3 h=>aWp w2 n s op A' arms.length Nv hh lo hi w3 h;have Nz:=Hd fun w4 h hA=>Nu.o n s op A' arms Nv w4 h hA;clear q0 q1 q2 q3 q4 q5 Fc Ao Ad Nu;unfold eH at Nw⊢;generalize rK x (mD x.k n s op arms)=fb at *;go_upto_region 2 with(fail);generalize Cr:w2.alloc _=w3;obtain⟨Ak,Of,Oc,Od,Bx⟩:=Nw.o w3 Cr;have q0:=HC.o w3 (Dh.o.tr Ak) 0;have Nt:=Hd Bx;clear Bx Ak Cr Nw;go_upto_region 3 with(fail);generalize Ny:w3.setCell _ _=w4;obtain⟨Bk,Aq⟩:=Nt.o _ w4 Ny;have Be:=Hd (Aj.o.tr Bk);have Ev:=Hd (Dh.o.tr Bk);have Jc:=Hd Aq;have Iz:=Hd (Nz.o w4 Be.o (Ob.o.below Bk));obtain⟨q0,q1,q2,q3,q4,q5⟩:=Sx (HC.o w4 Ev.o);obtain⟨r0,r1,r2,r3,r4,r5⟩:=Sx (Aq w4 (Yg _ _));have r6:=Aq w4 (Yg _ _) 6;clear Aq Bk Ny Nt Oc Od Nz;cases hh with
 |false=>
  have HN:=Hd (show Bu=false by rw[HS.o];simp);exact aOx
 |true=>
  cases fb with
  |false=>
   have HN:=Hd (show Bu=false by rw[HS.o];simp);go_wp2_with fail;refine Iz.o.mono ?_;rintro r w5 ⟨rfl,Bv⟩;have Ck:=Hd (Be.o.tr Bv);clear Bv q0 q1 q2 q3 q4 q5 r0 r1 r2 r3 r4 r5 r6;go_wp2_with fail;go_ret;exact⟨aL HN.o.symm,Ck.o⟩
  |true=>
   cases Eh:decide (lo<=(len:Int))with
   |false=>
    have HN:=Hd (show Bu=false by rw[HS.o,Eh];simp);exact aRw
   |true=>
    have HN:=Hd (show Bu=decide ((len:Int)<=hi)by rw[HS.o,Eh];simp);exact aRw
end
section
open Go.RowKit Go.Shelf
attribute [local go_sem] Oper.semAt_some
theorem xB{B:Nat}{W W':World}(h:Below W.heap.size W W'):KeepsFrom B W W':=KeepsFrom.of_grownBy (uJ h) (fun j e=>by cases e)
theorem xL{W W':World}{B:Nat}{t:TypeId}{v:Value}(h:Boxed W B t v){n:Nat}(hb:Below n W W')(hn:B<n):Boxed W' B t v:=(hb.block B hn).trans h
theorem aHg{W:World}{Bs:Nat}{cs:Array Value}{B:Nat}{t:TypeId}{v:Value}(h:W.heap[Bs]?=some (Obj.cells cs 52))(hb:Boxed W B t v)(ht:t≠52)(u:Value):(W.setCell ⟨B,0,none⟩ u).heap[Bs]?=some (Obj.cells cs 52):=fQ.setCell hb ht u _ _ _ h
theorem aUo{x:Ex}{l:List Ex}(h:l <+:bL x)(hl:60<l.length):bH x=false:=by
 have:=h.length_le
 rw[sN]at this;simp[bH,show 60<bD x by omega]
theorem aWs{x z:Ex}{l:List Ex}(h:l <+:bL x)(hz:z∈l)(hp:bO z=false):bH x=false:=by
 have:(bL x).all bO=false:=by
  rw[List.all_eq_false];exact⟨z,h.subset hz,by simp[hp]⟩
 simp[bH,this]
theorem aWt{x:Ex}{l:List Ex}(h:l=bL x)(hl:l.length<=60)(hp:∀z∈l,bO z=true):bH x=decide ((iA x:Int)<=12):=by
 subst h;rw[sN]at hl
 have:(bL x).all bO=true:=Zg.2 hp
 have h2:(!decide (12<iA x))=decide ((iA x:Int)<=12):=by
  rw[Zn];simp;omega
 have h3:(!decide (60<bD x))=true:=dA;simp only[bH,this,h2,h3,Bool.true_and,Bool.and_true]
theorem aUp(n:Nat)(hn:6<=n)(x:Ex)(A:Option Addr)(ca:Nat)(B:Option Addr)(cb:Nat)(w:World)(hr:aH w x A B)(hs:bD x<=1000000)(Pa:∀p∈bL x,cX p):
 CallsIn Fence.wide n Tryz.prog 138 #[.agg (aE x A ca B cb)] w fun e w'=>e=.returned (.bool (bH x))/\Below w.heap.size w w':=by
 have h1:1<=n:=aA;have HF:=Hd fun w1 h=>fB w x A ca B cb w1 h hr;have HR:=Hd hr;have Ph:=Hd Pa;have Oi:=Hd fun w1 (h:Below w.heap.size w w1)=>aLj x A ca B cb w1 (hr.below h);have Ow:=Hd fun w1 (h:Below w.heap.size w w1)=>bC6 x A ca B cb w1 (hr.below h) hs;have Pp:=Hd fun(n Bs:Nat)(w0 w1:World) h hb Cp=>aG1 n Bs x A ca B cb w0 w1 h hb Cp;clear Pa;have Pu:=uL x;unfold aE at Oi Ow⊢;refine callsIn_of_wp_marks Tryz.func138 rfl trivial ?_ rfl;simp only[Tryz.ntmps138,List.size_toArray,Yo,Zd,Nat.reduceAdd,Nat.reduceSub,Array.replicate_succ,Array.replicate_zero,List.push_toArray,List.append_toArray,Ze,Yv];obtain⟨Aa,Om,Av,hcell⟩:=HF.o _ rfl;unfold aE at Aa Om Av hcell;have Oe:Below w.heap.size w (((w.alloc (.cells #[.int .i64 x.k,.int .i64 x.n,.string x.s,.int .i64 x.op,.slice A x.arms.length ca,.slice B x.subs.length cb] 52)).alloc (.cells #[.bool false] 4)).alloc (.cells #[.int .i64 0] 3)):=(Aa.alloc (Nat.le_of_lt Om) _).alloc dA _;have Ol:=((Yg (w.alloc (.cells #[.int .i64 x.k,.int .i64 x.n,.string x.s,.int .i64 x.op,.slice A x.arms.length ca,.slice B x.subs.length cb] 52)).heap.size (w.alloc (.cells #[.int .i64 x.k,.int .i64 x.n,.string x.s,.int .i64 x.op,.slice A x.arms.length ca,.slice B x.subs.length cb] 52))).alloc (Yh _) (.cells #[.bool false] 4)).alloc aG (.cells #[.int .i64 0] 3);obtain⟨q0,q1,q2,q3,q4,q5⟩:=Sx (hcell _ Ol);have Jx:(((w.alloc (.cells #[.int .i64 x.k,.int .i64 x.n,.string x.s,.int .i64 x.op,.slice A x.arms.length ca,.slice B x.subs.length cb] 52)).alloc (.cells #[.bool false] 4)).alloc (.cells #[.int .i64 0] 3)).heap[w.heap.size]?=some (Obj.cells (aE x A ca B cb) 52):=by
  rw[Ol.block _ aG];exact World.alloc_heap_new _ _
 have Ny:=Hd (Oi.o _ Oe);clear HF Aa Om Av hcell hr Oi Ol;gi_wp2_with fail;refine⟨trivial,(callsIn_wide.2 Ny.o).mono ?_⟩;rintro e w' ⟨rfl,rfl⟩;gi_wp2_with fail;have Oz:Boxed (((w.alloc (.cells #[.int .i64 x.k,.int .i64 x.n,.string x.s,.int .i64 x.op,.slice A x.arms.length ca,.slice B x.subs.length cb] 52)).alloc (.cells #[.bool false] 4)).alloc (.cells #[.int .i64 0] 3)) (w.heap.size+1) 4 (.bool false):=by
  have:=(Boxed.new (w.alloc (.cells #[.int .i64 x.k,.int .i64 x.n,.string x.s,.int .i64 x.op,.slice A x.arms.length ca,.slice B x.subs.length cb] 52)) 4 (.bool false)).alloc (.cells #[.int .i64 0] 3)
  rwa[World.size_alloc]at this
 have Ov:Boxed (((w.alloc (.cells #[.int .i64 x.k,.int .i64 x.n,.string x.s,.int .i64 x.op,.slice A x.arms.length ca,.slice B x.subs.length cb] 52)).alloc (.cells #[.bool false] 4)).alloc (.cells #[.int .i64 0] 3)) (w.heap.size+1+1) 3 (.int .i64 0):=by
  have:=Boxed.new ((w.alloc (.cells #[.int .i64 x.k,.int .i64 x.n,.string x.s,.int .i64 x.op,.slice A x.arms.length ca,.slice B x.subs.length cb] 52)).alloc (.cells #[.bool false] 4)) 3 (.int .i64 0)
  rwa[World.size_alloc,World.size_alloc]at this
 have Al:(((w.alloc (.cells #[.int .i64 x.k,.int .i64 x.n,.string x.s,.int .i64 x.op,.slice A x.arms.length ca,.slice B x.subs.length cb] 52)).alloc (.cells #[.bool false] 4)).alloc (.cells #[.int .i64 0] 3)).heap.size=w.heap.size+1+1+1:=aG;clear q0 q1 q2 q3 q4 q5 Ny;generalize ((w.alloc _).alloc _).alloc _=w2 at *;have Po:(w2.alloc (.cells #[.int .i64 x.k,.int .i64 x.n,.string x.s,.int .i64 x.op,.slice A x.arms.length ca,.slice B x.subs.length cb] 52)).heap[w.heap.size+1+1+1]?=some (Obj.cells (aE x A ca B cb) 52):=by
  rw[<-Al];exact World.alloc_heap_new _ _
 have Pk:(w2.alloc (.cells #[.int .i64 x.k,.int .i64 x.n,.string x.s,.int .i64 x.op,.slice A x.arms.length ca,.slice B x.subs.length cb] 52)).heap[w.heap.size]?=some (Obj.cells (aE x A ca B cb) 52):=(((Yg _ w2).alloc (Yh _) _).block _ aA).trans Jx;have Pq:=Oz.alloc (.cells #[.int .i64 x.k,.int .i64 x.n,.string x.s,.int .i64 x.op,.slice A x.arms.length ca,.slice B x.subs.length cb] 52);have Pn:=Ov.alloc (.cells #[.int .i64 x.k,.int .i64 x.n,.string x.s,.int .i64 x.op,.slice A x.arms.length ca,.slice B x.subs.length cb] 52);have Ou:=Oe.alloc Oe.size (.cells #[.int .i64 x.k,.int .i64 x.n,.string x.s,.int .i64 x.op,.slice A x.arms.length ca,.slice B x.subs.length cb] 52);have Pv:(w2.alloc (.cells #[.int .i64 x.k,.int .i64 x.n,.string x.s,.int .i64 x.op,.slice A x.arms.length ca,.slice B x.subs.length cb] 52)).heap.size=w.heap.size+4:=by simp[Al]
 clear Ov Oe Oz Jx;generalize w2.alloc _=W0 at *;clear Al;refine wpIn_rangeFunc_ownH rfl h1 (gf:=139) (lb:=#[.pointer (some ⟨w.heap.size+1+1+1,0,none⟩)]) rfl trivial (enters_of Tryz.func139 aC rfl)
  (Pp.o (n-1) (w.heap.size+1+1+1) w W0 HR.o Ou Po) (fun h k=>h.trans k) (aOz aA) (Yg _ _) (fun _=>rfl)
  (fun(Aq:List (iQ w x)) W=>((Boxed W (w.heap.size+1) 4 (.bool false)/\Boxed W (w.heap.size+1+1) 3 (.int .i64 (Aq.length:Nat)))/\W.heap[w.heap.size]?=some (Obj.cells (aE x A ca B cb) 52))/\(Aq.length<=60/\∀z∈eR Aq,bO z=true)/\Below w.heap.size w W)
  (fun c (Aq:List (iQ w x)) W=>(c=.ret/\(60<(eR Aq).length\/∃z∈eR Aq,bO z=false))/\Boxed W (w.heap.size+1) 4 (.bool false)/\Below w.heap.size w W)
  (OwnFrom.and (Own.from (fun s X Y row hs hg hr=>⟨⟨boxed_own _ _ (fun _=>_) () X Y row hs.1.1 hg hr,boxed_own _ _ (fun(Aq:List (iQ w x))=>Value.int .i64 (Aq.length:Nat)) s X Y row hs.1.2 hg hr⟩,aDn (β:=Unit) _ _ _ () X Y row hs.2 hg hr⟩) _) (OwnFrom.and (ownFrom_pure _ _) (ownFrom_below (Yh _) aA)))
  (fun c=>OwnFrom.and (ownFrom_pure _ _) (OwnFrom.and (Own.from (boxed_own _ _ (fun _=>_)) _) (ownFrom_below (Yh _) aA)))
  ⟨⟨⟨Pq,Pn⟩,Pk⟩,⟨Yq _,by simp[eR]⟩,Ou⟩
  (fun(y:iQ w x) a' W=>∃Bx:Nat,W.heap[Bx]?=some (Obj.cells (aE y.1.x y.1.A y.1.ca y.1.B y.1.cb) 52)/\a'={ tmps:=#[.agg #[.int .i64 x.k,.int .i64 x.n,.string x.s,.int .i64 x.op,.slice A x.arms.length ca,.slice B x.subs.length cb],.pointer (some ⟨w.heap.size,0,none⟩),.pointer (some ⟨w.heap.size+1,0,none⟩),.pointer (some ⟨w.heap.size+1+1,0,none⟩),.pointer (some ⟨Bx,0,none⟩),.agg #[.int .i64 x.k,.int .i64 x.n,.string x.s,.int .i64 x.op,.slice A x.arms.length ca,.slice B x.subs.length cb],.func (.func 139) #[] #[.pointer (some ⟨w.heap.size+1+1+1,0,none⟩)],.agg (aE y.1.x y.1.A y.1.ca y.1.B y.1.cb),undef,undef,undef,undef,undef,undef,undef,undef,undef,undef,undef,undef],defers:=[] })
  (fun y a' s X Y row hs hg hr=>by obtain⟨Bx,h2,h3⟩:=hs;exact⟨Bx,(aDn (β:=Unit) Bx _ _).from W0.heap.size () X Y row h2 hg hr,h3⟩)
  ?assign ?body ?done ?stop
 case assign=>
  rintro l Aq y W K ⟨⟨⟨Ay,Bp⟩,Jx⟩,Oa,hB⟩ hK;have hz:∀v:Value,(#[7]:Array Tmp).zip #[v]=#[(7,v)]:=fun v=>by first|rfl|simp
  simp only[wO,hz];unfold aE at hK⊢;gi_wp2;exact hK _ _ ((KeepsOthers.alloc _ _).from _) (iK.of_below ((Yg _ _).alloc (Yh _) _) hB.size) ⟨⟨⟨Ay.alloc _,Bp.alloc _⟩,fQ.alloc _ _ _ _ _ Jx⟩,Oa,hB.alloc hB.size _⟩ ⟨W.heap.size,World.alloc_heap_new _ _,rfl⟩
 case body=>
  rintro l Aq y a' W hl _ ⟨⟨⟨Ay,Bp⟩,Jx⟩,⟨Od,Oa⟩,hB⟩ ⟨Bx,Cp,rfl⟩ Ah;have Nu:∀W1,Below w.heap.size w W1->Calls Tryz.prog 168 #[.agg (aE y.1.x y.1.A y.1.ca y.1.B y.1.cb)] W1 fun e w'=>e=.returned (.bool (bO y.1.x))/\Below W1.heap.size W1 w':=fun W1 h=>
   bGd y.1.x y.1.A y.1.ca y.1.B y.1.cb W1 (y.2.1.below h) (Ph.o _ y.2.2)
  have e1:=Bp.cell;have f1:=Bp.frozen;have Of:=Bp.set (.int .i64 ((Aq.length:Int)+1));have Nt:=Ay.other (B':=w.heap.size+1+1) aA (.int .i64 ((Aq.length:Int)+1));have e2:=Of.cell;have e3:=Nt.cell;have f3:=Nt.frozen;have Nz:=aHg Cp Bp bS (.int .i64 ((Aq.length:Int)+1));have Nx:=aHg Jx Bp bS (.int .i64 ((Aq.length:Int)+1));have hcell:∀j,(W.setCell ⟨w.heap.size+1+1,0,none⟩ (.int .i64 ((Aq.length:Int)+1))).cell? ⟨Bx,j,none⟩=(aE y.1.x y.1.A y.1.ca y.1.B y.1.cb)[j]?:=fun j=>by simp only[World.cell?,Nz];rfl
  obtain⟨q0,q1,q2,q3,q4,q5⟩:=Sx hcell;have On:Below w.heap.size w (W.setCell ⟨w.heap.size+1+1,0,none⟩ (.int .i64 ((Aq.length:Int)+1))):=hB.setCell (p:=⟨w.heap.size+1+1,0,none⟩) aPs _;have Pb:=Hd (show Below w.heap.size W (W.setCell ⟨w.heap.size+1+1,0,none⟩ (.int .i64 ((Aq.length:Int)+1)))from(Yg _ _).setCell (p:=⟨w.heap.size+1+1,0,none⟩) aPs _);have Oj:=Hd (KeepsOthers.setCell W ⟨w.heap.size+1+1,0,none⟩ (.int .i64 ((Aq.length:Int)+1)));have Pm:=Hd (fQ.setCell Bp bS (.int .i64 ((Aq.length:Int)+1)));have Pd:(W.setCell ⟨w.heap.size+1+1,0,none⟩ (.int .i64 ((Aq.length:Int)+1))).heap.size=W.heap.size:=by simp[World.setCell]
  have Ob:=Hd (Nu _ On);have Ot:=Hd On;have Nv:=Hd Nt;have Oo:=Hd (show Boxed (W.setCell ⟨w.heap.size+1+1,0,none⟩ (.int .i64 ((Aq.length:Int)+1))) (w.heap.size+1+1) 3 (.int .i64 ((Aq++[y]).length:Nat))by simpa using Of);have Og:=Hd Nx;have Ox:=Hd (show eR (Aq++[y])=eR Aq++[y.1.x]by rw[yQ];rfl);have Ok:=Ay.lt;have Da:=Bp.lt;have Ps:=(Yl.1 Jx).1;clear hcell Nz Nx Cp Jx Nu On Of Nt;unfold aE at q0 q1 q2 q3 q4 q5 Ob⊢;by_cases Pr:60<=Aq.length
  . have hd:decide ((60:Int)<(Aq.length:Int)+1)=true:=Zy aA;have Oh:60<(eR (Aq++[y])).length:=by rw[aC5];simp;omega
    gi_wp2_with fail;first|refine⟨trivial,?_⟩|skip
    gi_wp2_with fail;exact⟨(Oj.o.from _).trans ((KeepsOthers.setCell _ _ _).from _),⟨rfl,.inl Oh⟩,Nv.o.set _,Ot.o.setCell (p:=⟨w.heap.size+1,0,none⟩) (Nat.le_succ _) _⟩
  . have hd:decide ((60:Int)<(Aq.length:Int)+1)=false:=Zz aA;cases hp:bO y.1.x with
    |true=>
     rw[hp]at Ob
     have Ch:=Hd (show ∀ z∈eR (Aq++[y]),bO z=true from fun z hz=>by
      rw[Ox.o]at hz;rcases Zo.1 hz with h|h;· exact Oa z h
      . obtain rfl:z=y.1.x:=by simpa using h
        exact hp)
     have Kj:1<=n-1-1:=aA;gi_wp2_with fail;refine⟨trivial,(CallsIn.inRound l (callsIn_wide.2 Ob.o)).mono ?_⟩;rintro e w3 ⟨rfl,Ak⟩;have Ax:=Hd Ak;clear Ak;gi_wp2_with fail;exact⟨(Oj.o.from _).trans (xB Ax.o),⟨Pb.o.trans (Ax.o.mono (by rw [Pd];omega)),Pm.o.trans (fQ.of_below Ax.o)⟩,
      ⟨⟨xL Nv.o Ax.o aA,xL Oo.o Ax.o aA⟩,fQ.of_below Ax.o _ _ _ Og.o⟩,⟨by simp;omega,Ch.o⟩,Ot.o.trans (Ax.o.mono aA)⟩
    |false=>
     rw[hp]at Ob;have Pj:=Hd (show ∃z∈eR (Aq++[y]),bO z=false from⟨y.1.x,by rw[Ox.o];simp,hp⟩);have Kj:1<=n-1-1:=aA;gi_wp2_with fail;refine⟨trivial,(CallsIn.inRound l (callsIn_wide.2 Ob.o)).mono ?_⟩;rintro e w3 ⟨rfl,Ak⟩;have Ax:=Hd Ak;have Bg:=xL Nv.o Ak aA;have e5:=Bg.cell;have f5:=Bg.frozen;have Nw:=Hd Bg;clear Ak Bg;gi_wp2_with fail;exact⟨((Oj.o.from _).trans (xB Ax.o)).trans ((KeepsOthers.setCell _ _ _).from _),⟨rfl,.inr Pj.o⟩,Nw.o.set _,(Ot.o.trans (Ax.o.mono aA)).setCell (p:=⟨w.heap.size+1,0,none⟩) (Nat.le_succ _) _⟩
 case done=>
  rintro D ys W hD Pi ⟨⟨⟨Ay,Bp⟩,Jx⟩,⟨Od,Oa⟩,hB⟩ hK;have hcell:∀j,W.cell? ⟨w.heap.size,j,none⟩=(aE x A ca B cb)[j]?:=fun j=>by simp only[World.cell?,Jx];rfl
  obtain⟨q0,q1,q2,q3,q4,q5⟩:=Sx hcell;unfold aE at q0 q1 q2 q3 q4 q5;have Pc:=Hd (Ow.o W hB);have Db:=Hd (aWt Pi (by rw[aC5];exact Od) Oa);have Ok:=Ay.lt;have Pe:=(Yl.1 hK).1;clear hcell;gi_wp2_with fail;refine⟨trivial,(callsIn_wide.2 Pc.o).mono ?_⟩;rintro e w3 ⟨rfl,Ak⟩;have Bg:=xL Ay Ak Ok;have e5:=Bg.cell;have f5:=Bg.frozen;have Nw:=Hd Bg;have Ax:=Hd (hB.tr Ak);have Pf:=(Ak.block D Pe).trans hK;clear Ak Bg q0 q1 q2 q3 q4 q5;gi_wp2_with fail;have Oy:=(KeepsOthers.setCell w3 ⟨w.heap.size+1,0,none⟩ (.bool (decide ((iA x:Int)<=12)))).same D _ Pf rfl;have k1:=((Nw.o.set (.bool (decide ((iA x:Int)<=12)))).kept (grownBy_putObj' _ D (.deferred none)) (fun e=>by cases e;omega)).cell;refine⟨by simp,.inl ⟨_,_,rfl,run_takeDeferred Oy,?_⟩⟩;refine⟨.bool (decide ((iA x:Int)<=12)),?_,by rw[Db.o],(Ax.o.setCell (p:=⟨w.heap.size+1,0,none⟩) (Nat.le_succ _) _).trans (belowK_b (w:=w) (Yh _) _ D _ _ aA Oy rfl rfl)⟩;simp[results,Tryz.f138,go_sem,k1]
 case stop=>
  rintro D c Aq W hD Oc ⟨⟨rfl,Oq⟩,hb,hB⟩ hK;have Db:=Hd (show bH x=false from Oq.elim (fun h=>aUo Oc h) (fun⟨z,hz,h⟩=>aWs Oc hz h));have Ok:=hb.lt;gi_wp2_with fail;have k1:=(hb.kept (grownBy_putObj' _ D (.deferred none)) (fun e=>by cases e;omega)).cell;refine⟨by simp,.inl ⟨_,_,rfl,run_takeDeferred hK,?_⟩⟩;refine⟨.bool false,?_,by rw[Db.o],hB.trans (belowK_b (w:=w) (Yh _) _ D _ _ aA hK rfl rfl)⟩;simp[results,Tryz.f138,go_sem,k1]
theorem yY(x:Ex)(A:Option Addr)(ca:Nat)(B:Option Addr)(cb:Nat)(w:World)(hr:aH w x A B)(hs:bD x<=1000000)(Aq:∀p∈bL x,cX p):
 Calls Tryz.prog 138 #[.agg (aE x A ca B cb)] w fun e w'=>e=.returned (.bool (bH x))/\Below w.heap.size w w':=
 callsIn_wide.1 (aUp 6 (Yh _) x A ca B cb w hr hs Aq)
end
end Go.Proofs.YtkbpdoomhfkngaaGreat
