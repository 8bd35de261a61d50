/- A part of the proof. Conditions: each theorem's own. -/
import Derived.Test.YtagkcjpoipcpkaaGreatDoorF04
import Derived.Test.YtagkcjpoipcpkaaGreatDoorF07
namespace Go.Proofs.YtagkcjpoipcpkaaGreatDoor
set_option linter.unusedVariables false
set_option linter.unusedSimpArgs false
set_option maxRecDepth 100000
set_option maxHeartbeats 40000000
section
open Go.RowKit Go.Sort
def fM(k n:Int)(s:BA)(op:Int)(A:OA)(len ca:Nat)(h:Bool)(lo hi:Int):Array Value:=
 #[.int .i64 k,.int .i64 n,.string s,.int .i64 op,.slice A len ca,.slice none 0 0,.bool h,.int .i64 lo,.int .i64 hi]
theorem jY:(Tryz.prog.info? 261).map (·.size)=some 9:=aE
theorem kK{fn:Func}{p:Tmp}(h:fn.results=#[.cell p 261])(tmps:AV)(w:World)(g:Nat)(cs:AV)(hs:cs.size=9)
 (hp:tmps.getD p undef=.pointer (some ⟨g,0,none⟩))(hg:w.heap[g]?=some (Obj.cells cs 261)):(results fn tmps).run Tryz.prog w=.ok (.agg cs) w:=
 results_cell_row h tmps w g _ _ _ _ hp hg Tryz.underlying261 rfl (by rw[hs];exact jY)
theorem lQ(w:World)(x:Ex)(A:OA)(ca:Nat)(B:OA)(cb:Nat)(w1:World)(h:(w.alloc (.cells (aJ x A ca B cb) 79)).alloc (.cells (fM 0 0 ByteArray.empty 0 none 0 0 false 0 0) 261)=w1)(hr:aM w x A B):
 Below w.heap.size w w1/\w.heap.size+1<w1.heap.size/\aM w1 x A B/\(∀w',Below w1.heap.size w1 w'->∀j,w'.cell? ⟨w.heap.size,j,none⟩=(aJ x A ca B cb)[j]?)/\w1.heap[w.heap.size+1]?=some (Obj.cells (fM 0 0 ByteArray.empty 0 none 0 0 false 0 0) 261):=by
 subst h;refine⟨((Yg _ _).alloc (Yh _) _).alloc aC _,by simp,(hr.alloc _).alloc _,fun w' hb j=>?_,?_⟩;· exact bCx
 . have:=World.alloc_heap_new (w.alloc (.cells (aJ x A ca B cb) 79)) (.cells (fM 0 0 ByteArray.empty 0 none 0 0 false 0 0) 261)
   rwa[World.size_alloc]at this
def lG(w w':World)(e:Ending)(x:Ex):Prop:=∃n s op A' Aa Ae h lo hi,e=.returned (.agg (fM 0 n s op A' Aa.length Ae h lo hi))/\aS w' A' Aa.length Aa/\kN x n s op Aa h lo hi=dA x/\Below w.heap.size w w'
theorem bA0(n:Int)(w:World):Calls Tryz.prog 249 #[.int .i64 n] w fun e w'=>e=.returned (.bool (oB n))/\Below w.heap.size w w':=
 (cB6 n w).mono fun e w' ⟨h1,h2⟩=>⟨h1,by rw[<-h2];exact Yg _ _⟩
theorem aW7{n:Int}(h:oB n=true):IntKind.i64.wrap (6+n)=6+n:=by
 unfold oB at h;simp at h;rcases h with rfl|rfl<;>first|decide|decide +kernel|(unfold wrap64;omega)|simp[wrap64]
variable (x:Ex) (A:OA) (ca:Nat) (B:OA) (cb:Nat) (w:World)
theorem bWg(hr:aM w x A B)(Ae:eS x)(hk:x.k=1):
 Calls Tryz.prog 231 #[.agg (aJ x A ca B cb)] w fun e w'=>lG w w' e x:=by
 have HF:=Hd fun w1 h=>lQ w x A ca B cb w1 h hr;have Aa:=Hd fun w2 (h:Below w.heap.size w w2)=>(hr.below h).arms;have Dx:=Aa;have Aq:=hr.subs.max;have Au:=Ae.1;clear hr;unfold aJ at HF⊢;unfold fM at HF;rw[hk]at HF⊢;go_in
 go_upto_region 1 with(fail);generalize Af:(w.alloc _).alloc _=w1;obtain⟨Ab,hg,Al,hcell,Ad⟩:=HF.o w1 Af;have Ac:=Hd Ab;have Bg:=Hd Ad;have q0:=hcell w1 (Yg _ _) 0;have q1:=hcell w1 (Yg _ _) 1;clear hcell Ad Ab Al Af HF;go_wp2_with (refine Zz rfl _ _ _ rfl (w.heap.size+1) _ rfl rfl _ _ Bg.o jY rfl eC ?_);exact Zy (kK rfl _ _ (w.heap.size+1) _ rfl rfl (Xh _ _ _ _ _ _ Bg.o)) rfl ⟨x.n,ByteArray.empty,0,none,[],0,_,0,0,rfl,aS.nil_ _,cB8 x hk,Xg Ac.o (Nat.le_succ _) _⟩
theorem bWh(hr:aM w x A B)(Bs:eS x)(hk:x.k=2):
 Calls Tryz.prog 231 #[.agg (aJ x A ca B cb)] w fun e w'=>lG w w' e x:=by
 have HF:=Hd fun w1 h=>lQ w x A ca B cb w1 h hr;have Aq:=Hd fun w2 (h:Below w.heap.size w w2)=>(hr.below h).arms;have Dx:=Aq;have Ct:=hr.subs.max;have Au:=Bs.1;clear hr;unfold aJ at HF⊢;unfold fM at HF;rw[hk]at HF⊢;go_in
 go_upto_region 1 with(fail);generalize Af:(w.alloc _).alloc _=w1;obtain⟨Ab,hg,Al,hcell,Ad⟩:=HF.o w1 Af;have Ac:=Hd Ab;have Bg:=Hd Ad;have q0:=hcell w1 (Yg _ _) 0;have q1:=hcell w1 (Yg _ _) 1;clear hcell Ad Ab Al Af HF;go_wp2_with fail;have Aa:=Hd fun d os=>Ac.o.trans ((Zx w1 d os).mono Ac.o.size);have Ae:=Hd fun d os=>((Zx w1 d os).block _ hg).trans Bg.o;have l0:=fun d os=>Zw q0 d os;have l1:=fun d os=>Zw q1 d os;have cA:=fun d os=>Zl (bA0 x.n (grow (redrawn w1 d) os));refine uD (l1:=[_,_,_,_,_,_,_]) (l2:=[_]) aE aE aE aE aE ?_;repeat (quiet_step (first|exact cA _ _))
 refine Xk ?_;intro _ Ch;obtain⟨⟨dq,Bj⟩,Az⟩:=Ch;subst Az;replace Ac:=Hd (Aa.o dq Bj);replace Bg:=Hd (Ae.o dq Bj);clear q0 q1 l0 l1 cA Aa Ae;generalize grow (redrawn w1 dq) Bj=wq at *;go_wp2_with (refine Zz rfl _ _ _ rfl (w.heap.size+1) _ rfl rfl _ _ Bg.o jY rfl eC ?_);exact Zy (kK rfl _ _ (w.heap.size+1) _ rfl rfl (Xh _ _ _ _ _ _ Bg.o)) rfl ⟨x.n,ByteArray.empty,0,none,[],0,_,0,0,rfl,aS.nil_ _,cB9 x hk,Xg Ac.o (Nat.le_succ _) _⟩
theorem bWi(hr:aM w x A B)(Bs:eS x)(hk:x.k=3):
 Calls Tryz.prog 231 #[.agg (aJ x A ca B cb)] w fun e w'=>lG w w' e x:=by
 have HF:=Hd fun w1 h=>lQ w x A ca B cb w1 h hr;have Aq:=Hd fun w2 (h:Below w.heap.size w w2)=>(hr.below h).arms;have Dx:=Aq;have Ct:=hr.subs.max;have Au:=Bs.1;clear hr;unfold aJ at HF⊢;unfold fM at HF;rw[hk]at HF⊢;go_in
 go_upto_region 1 with(fail);generalize Af:(w.alloc _).alloc _=w1;obtain⟨Ab,hg,Al,hcell,Ad⟩:=HF.o w1 Af;have Ac:=Hd Ab;have Bg:=Hd Ad;have q0:=hcell w1 (Yg _ _) 0;have q2:=hcell w1 (Yg _ _) 2;clear hcell Ad Ab Al Af HF;go_wp2_with fail;have Aa:=Hd fun d os=>Ac.o.trans ((Zx w1 d os).mono Ac.o.size);have Ae:=Hd fun d os=>((Zx w1 d os).block _ hg).trans Bg.o;have l0:=fun d os=>Zw q0 d os;have l2:=fun d os=>Zw q2 d os;have cA:=fun d os=>Zl (kR x.s (grow (redrawn w1 d) os) aA);refine uD (l1:=[_,_,_,_,_,_,_]) (l2:=[_]) aE aE aE aE aE ?_;repeat (quiet_step (first|exact cA _ _))
 refine Xk ?_;intro _ Ch;obtain⟨⟨dq,Bj⟩,Az⟩:=Ch;subst Az;replace Ac:=Hd (Aa.o dq Bj);replace Bg:=Hd (Ae.o dq Bj);clear q0 q2 l0 l2 cA Aa Ae;generalize grow (redrawn w1 dq) Bj=wq at *;go_wp2_with (refine Zz rfl _ _ _ rfl (w.heap.size+1) _ rfl rfl _ _ Bg.o jY rfl eC ?_);exact Zy (kK rfl _ _ (w.heap.size+1) _ rfl rfl (Xh _ _ _ _ _ _ Bg.o)) rfl ⟨0,x.s,0,none,[],0,_,0,0,rfl,aS.nil_ _,cCa x hk,Xg Ac.o (Nat.le_succ _) _⟩
theorem bWj(hr:aM w x A B)(Bs:eS x)(hk:x.k=4):
 Calls Tryz.prog 231 #[.agg (aJ x A ca B cb)] w fun e w'=>lG w w' e x:=by
 have HF:=Hd fun w1 h=>lQ w x A ca B cb w1 h hr;have Aq:=Hd fun w2 (h:Below w.heap.size w w2)=>(hr.below h).arms;have Dx:=Aq;have Ct:=hr.subs.max;have Au:=Bs.1;clear hr;unfold aJ at HF⊢;unfold fM at HF;rw[hk]at HF⊢;go_in
 go_upto_region 1 with(fail);generalize Af:(w.alloc _).alloc _=w1;obtain⟨Ab,hg,Al,hcell,Ad⟩:=HF.o w1 Af;have Ac:=Hd Ab;have Bg:=Hd Ad;have q0:=hcell w1 (Yg _ _) 0;have q2:=hcell w1 (Yg _ _) 2;clear hcell Ad Ab Al Af HF;go_wp2_with fail;have Aa:=Hd fun d os=>Ac.o.trans ((Zx w1 d os).mono Ac.o.size);have Ae:=Hd fun d os=>((Zx w1 d os).block _ hg).trans Bg.o;have l0:=fun d os=>Zw q0 d os;have l2:=fun d os=>Zw q2 d os;have cA:=fun d os=>Zl (wD x.s (grow (redrawn w1 d) os) aA);refine uD (l1:=[_,_,_,_,_,_,_]) (l2:=[_]) aE aE aE aE aE ?_;repeat (quiet_step (first|exact cA _ _))
 refine Xk ?_;intro _ Ch;obtain⟨⟨dq,Bj⟩,Az⟩:=Ch;subst Az;replace Ac:=Hd (Aa.o dq Bj);replace Bg:=Hd (Ae.o dq Bj);clear q0 q2 l0 l2 cA Aa Ae;generalize grow (redrawn w1 dq) Bj=wq at *;go_wp2_with (refine Zz rfl _ _ _ rfl (w.heap.size+1) _ rfl rfl _ _ Bg.o jY rfl eC ?_);exact Zy (kK rfl _ _ (w.heap.size+1) _ rfl rfl (Xh _ _ _ _ _ _ Bg.o)) rfl ⟨0,x.s,0,none,[],0,_,0,0,rfl,aS.nil_ _,cCb x hk,Xg Ac.o (Nat.le_succ _) _⟩
theorem bSn(hr:aM w x A B)(Bs:eS x)(hk:x.k=17):
 Calls Tryz.prog 231 #[.agg (aJ x A ca B cb)] w fun e w'=>lG w w' e x:=by
 have HF:=Hd fun w1 h=>lQ w x A ca B cb w1 h hr;have Aq:=Hd fun w2 (h:Below w.heap.size w w2)=>(hr.below h).arms;have Dx:=Aq;have Ct:=hr.subs.max;have Au:=Bs.1;clear hr;unfold aJ at HF⊢;unfold fM at HF;rw[hk]at HF⊢;go_in
 go_upto_region 1 with(fail);generalize Af:(w.alloc _).alloc _=w1;obtain⟨Ab,hg,Al,hcell,Ad⟩:=HF.o w1 Af;have Ac:=Hd Ab;have Bg:=Hd Ad;have q0:=hcell w1 (Yg _ _) 0;have q2:=hcell w1 (Yg _ _) 2;clear hcell Ad Ab Al Af HF;go_wp2_with fail;have Aa:=Hd fun d os=>Ac.o.trans ((Zx w1 d os).mono Ac.o.size);have Ae:=Hd fun d os=>((Zx w1 d os).block _ hg).trans Bg.o;have l0:=fun d os=>Zw q0 d os;have l2:=fun d os=>Zw q2 d os;have cA:=fun d os=>Zl (aOh x.s (grow (redrawn w1 d) os) aA);refine uD (l1:=[_,_,_,_,_,_,_]) (l2:=[_]) aE aE aE aE aE ?_;repeat (quiet_step (first|exact cA _ _))
 refine Xk ?_;intro _ Ch;obtain⟨⟨dq,Bj⟩,Az⟩:=Ch;subst Az;replace Ac:=Hd (Aa.o dq Bj);replace Bg:=Hd (Ae.o dq Bj);clear q0 q2 l0 l2 cA Aa Ae;generalize grow (redrawn w1 dq) Bj=wq at *;go_wp2_with (refine Zz rfl _ _ _ rfl (w.heap.size+1) _ rfl rfl _ _ Bg.o jY rfl eC ?_);exact Zy (kK rfl _ _ (w.heap.size+1) _ rfl rfl (Xh _ _ _ _ _ _ Bg.o)) rfl ⟨0,x.s,0,none,[],0,_,0,0,rfl,aS.nil_ _,bZq x hk,Xg Ac.o (Nat.le_succ _) _⟩
theorem bWk(hr:aM w x A B)(Aa:eS x)(hk:x.k=5):
 Calls Tryz.prog 231 #[.agg (aJ x A ca B cb)] w fun e w'=>lG w w' e x:=by
 have HF:=Hd fun w1 h=>lQ w x A ca B cb w1 h hr;have Ae:=Hd fun w2 (h:Below w.heap.size w w2)=>(hr.below h).arms;have Dx:=Ae;have Aq:=hr.subs.max;have Au:=Aa.1;clear hr;unfold aJ at HF⊢;unfold fM at HF;rw[hk]at HF⊢;cases Df:decide (1<=x.op)with
 |false=>
  have HE:=bE7 x hk;rw[Df,Bool.false_and]at HE;exact bGk
 |true=>
  have HE:=bE7 x hk;rw[Df,Bool.true_and]at HE;exact bGk
theorem bWl(hr:aM w x A B)(Aa:eS x)(hk:x.k=6):
 Calls Tryz.prog 231 #[.agg (aJ x A ca B cb)] w fun e w'=>lG w w' e x:=by
 have HF:=Hd fun w1 h=>lQ w x A ca B cb w1 h hr;have Ae:=Hd fun w2 (h:Below w.heap.size w w2)=>(hr.below h).arms;have Dx:=Ae;have Aq:=hr.subs.max;have Au:=Aa.1;clear hr;unfold aJ at HF⊢;unfold fM at HF;rw[hk]at HF⊢;cases Df:decide (3<=x.op)with
 |false=>
  have HE:=bE8 x hk;rw[Df,Bool.false_and]at HE;exact bGl
 |true=>
  have HE:=bE8 x hk;rw[Df,Bool.true_and]at HE;exact bGl
theorem bWm(hr:aM w x A B)(Ae:eS x)(hk:x.k=7):
 Calls Tryz.prog 231 #[.agg (aJ x A ca B cb)] w fun e w'=>lG w w' e x:=by
 have HF:=Hd fun w1 h=>lQ w x A ca B cb w1 h hr;have Aa:=Hd fun w2 (h:Below w.heap.size w w2)=>(hr.below h).arms;have Dx:=Aa;have Aq:=hr.subs.max;have Au:=Ae.1;clear hr;unfold aJ at HF⊢;unfold fM at HF;rw[hk]at HF⊢;go_in
 go_upto_region 1 with(fail);generalize Af:(w.alloc _).alloc _=w1;obtain⟨Ab,hg,Al,hcell,Ad⟩:=HF.o w1 Af;have Ac:=Hd Ab;have Bg:=Hd Ad;have q0:=hcell w1 (Yg _ _) 0;clear hcell Ad Ab Al Af HF;go_wp2_with (refine Zz rfl _ _ _ rfl (w.heap.size+1) _ rfl rfl _ _ Bg.o jY rfl eC ?_);exact Zy (kK rfl _ _ (w.heap.size+1) _ rfl rfl (Xh _ _ _ _ _ _ Bg.o)) rfl ⟨0,ByteArray.empty,0,none,[],0,_,3,3,rfl,aS.nil_ _,cCc x hk,Xg Ac.o (Nat.le_succ _) _⟩
theorem bSo(hr:aM w x A B)(Ae:eS x)(hk:x.k=16):
 Calls Tryz.prog 231 #[.agg (aJ x A ca B cb)] w fun e w'=>lG w w' e x:=by
 have HF:=Hd fun w1 h=>lQ w x A ca B cb w1 h hr;have Aa:=Hd fun w2 (h:Below w.heap.size w w2)=>(hr.below h).arms;have Dx:=Aa;have Aq:=hr.subs.max;have Au:=Ae.1;clear hr;unfold aJ at HF⊢;unfold fM at HF;rw[hk]at HF⊢;go_in
 go_upto_region 1 with(fail);generalize Af:(w.alloc _).alloc _=w1;obtain⟨Ab,hg,Al,hcell,Ad⟩:=HF.o w1 Af;have Ac:=Hd Ab;have Bg:=Hd Ad;have q0:=hcell w1 (Yg _ _) 0;clear hcell Ad Ab Al Af HF;go_wp2_with (refine Zz rfl _ _ _ rfl (w.heap.size+1) _ rfl rfl _ _ Bg.o jY rfl eC ?_);exact Zy (kK rfl _ _ (w.heap.size+1) _ rfl rfl (Xh _ _ _ _ _ _ Bg.o)) rfl ⟨0,ByteArray.empty,0,none,[],0,_,3,3,rfl,aS.nil_ _,bZr x hk,Xg Ac.o (Nat.le_succ _) _⟩
theorem bWn(hr:aM w x A B)(Hc:eS x)(hk:x.k=8):
 Calls Tryz.prog 231 #[.agg (aJ x A ca B cb)] w fun e w'=>lG w w' e x:=by
 have HF:=Hd fun w1 h=>lQ w x A ca B cb w1 h hr;have Ct:=Hd fun w2 (h:Below w.heap.size w w2)=>(hr.below h).arms;have Dx:=Ct;have Jx:=hr.subs.max;have Au:=Hc.1;clear hr;unfold aJ at HF⊢;unfold fM at HF;rw[hk]at HF⊢;by_cases hn:0<x.subs.length
 . have HE:=bE9 x hk;have hd:decide (0<(x.subs.length:Int))=true:=Xc aA;rw[hd,Bool.true_and]at HE;go_in
   go_upto_region 1 with(fail);generalize Af:(w.alloc _).alloc _=w1;obtain⟨Ab,hg,Al,hcell,Ad⟩:=HF.o w1 Af;have Ac:=Hd Ab;have Bg:=Hd Ad;have q0:=hcell w1 (Yg _ _) 0;have q5:=hcell w1 (Yg _ _) 5;obtain⟨b,off,Hb,hb,Ar⟩:=Al.sub (i:=0) hn;subst Hb;obtain⟨A',Fs,B',Ha,Aa,Bs⟩:=Ar 0 hn;rw[Nat.zero_mul,Nat.add_zero]at Aa;obtain⟨d0,d1,d2,d3,d4,d5⟩:=jW Aa;have Ae:=Hd (bVu (bI x 0) A' Fs B' Ha w1 Bs);have Aq:=Hd fun w2 (h:Below w1.heap.size w1 w2)=>(h.block _ hg).trans Ad;unfold aJ at Ae;clear Ar Aa Bs;clear hcell Ad Ab Al Af HF;go_wp2_with fail;refine Ae.o.mono ?_;rintro r w2 ⟨rfl,Ag⟩;replace Bg:=Hd (Aq.o w2 Ag);replace Ac:=Hd (Ac.o.tr Ag);clear Ag Aq;exact bG7
 . have HE:=bE9 x hk;have hd:decide (0<(x.subs.length:Int))=false:=Xd aA;rw[hd,Bool.false_and]at HE;go_in
   go_upto_region 1 with(fail);generalize Af:(w.alloc _).alloc _=w1;obtain⟨Ab,hg,Al,hcell,Ad⟩:=HF.o w1 Af;have Ac:=Hd Ab;have Bg:=Hd Ad;have q0:=hcell w1 (Yg _ _) 0;have q5:=hcell w1 (Yg _ _) 5;clear hcell Ad Ab Al Af HF;exact bG7
theorem bWo(hr:aM w x A B)(Ae:eS x)(hk:x.k=9):
 Calls Tryz.prog 231 #[.agg (aJ x A ca B cb)] w fun e w'=>lG w w' e x:=by
 have HF:=Hd fun w1 h=>lQ w x A ca B cb w1 h hr;have Aa:=Hd fun w2 (h:Below w.heap.size w w2)=>(hr.below h).arms;have Dx:=Aa;have Aq:=hr.subs.max;have Au:=Ae.1;clear hr;unfold aJ at HF⊢;unfold fM at HF;rw[hk]at HF⊢;go_in
 go_upto_region 1 with(fail);generalize Af:(w.alloc _).alloc _=w1;obtain⟨Ab,hg,Al,hcell,Ad⟩:=HF.o w1 Af;have Ac:=Hd Ab;have Bg:=Hd Ad;have q0:=hcell w1 (Yg _ _) 0;clear hcell Ad Ab Al Af HF;go_wp2_with (refine Zz rfl _ _ _ rfl (w.heap.size+1) _ rfl rfl _ _ Bg.o jY rfl eC ?_);exact Zy (kK rfl _ _ (w.heap.size+1) _ rfl rfl (Xh _ _ _ _ _ _ Bg.o)) rfl ⟨0,ByteArray.empty,0,none,[],0,_,2,2,rfl,aS.nil_ _,cCd x hk,Xg Ac.o (Nat.le_succ _) _⟩
theorem bSp(hr:aM w x A B)(Ae:eS x)(hk:x.k=15):
 Calls Tryz.prog 231 #[.agg (aJ x A ca B cb)] w fun e w'=>lG w w' e x:=by
 have HF:=Hd fun w1 h=>lQ w x A ca B cb w1 h hr;have Aa:=Hd fun w2 (h:Below w.heap.size w w2)=>(hr.below h).arms;have Dx:=Aa;have Aq:=hr.subs.max;have Au:=Ae.1;clear hr;unfold aJ at HF⊢;unfold fM at HF;rw[hk]at HF⊢;go_in
 go_upto_region 1 with(fail);generalize Af:(w.alloc _).alloc _=w1;obtain⟨Ab,hg,Al,hcell,Ad⟩:=HF.o w1 Af;have Ac:=Hd Ab;have Bg:=Hd Ad;have q0:=hcell w1 (Yg _ _) 0;clear hcell Ad Ab Al Af HF;go_wp2_with (refine Zz rfl _ _ _ rfl (w.heap.size+1) _ rfl rfl _ _ Bg.o jY rfl eC ?_);exact Zy (kK rfl _ _ (w.heap.size+1) _ rfl rfl (Xh _ _ _ _ _ _ Bg.o)) rfl ⟨0,ByteArray.empty,0,none,[],0,_,2,2,rfl,aS.nil_ _,bZs x hk,Xg Ac.o (Nat.le_succ _) _⟩
theorem bSq(hr:aM w x A B)(Ae:eS x)(hk:x.k=10):
 Calls Tryz.prog 231 #[.agg (aJ x A ca B cb)] w fun e w'=>lG w w' e x:=by
 have HF:=Hd fun w1 h=>lQ w x A ca B cb w1 h hr;have Aa:=Hd fun w2 (h:Below w.heap.size w w2)=>(hr.below h).arms;have Dx:=Aa;have Aq:=hr.subs.max;have Au:=Ae.1;clear hr;unfold aJ at HF⊢;unfold fM at HF;rw[hk]at HF⊢;go_in
 go_upto_region 1 with(fail);generalize Af:(w.alloc _).alloc _=w1;obtain⟨Ab,hg,Al,hcell,Ad⟩:=HF.o w1 Af;have Ac:=Hd Ab;have Bg:=Hd Ad;have q0:=hcell w1 (Yg _ _) 0;clear hcell Ad Ab Al Af HF;go_wp2_with (refine Zz rfl _ _ _ rfl (w.heap.size+1) _ rfl rfl _ _ Bg.o jY rfl eC ?_);exact Zy (kK rfl _ _ (w.heap.size+1) _ rfl rfl (Xh _ _ _ _ _ _ Bg.o)) rfl ⟨0,ByteArray.empty,0,none,[],0,_,1,1,rfl,aS.nil_ _,bZt x hk,Xg Ac.o (Nat.le_succ _) _⟩
theorem bSr(hr:aM w x A B)(Bs:eS x)(hk:x.k=11):
 Calls Tryz.prog 231 #[.agg (aJ x A ca B cb)] w fun e w'=>lG w w' e x:=by
 have HF:=Hd fun w1 h=>lQ w x A ca B cb w1 h hr;have Ct:=Hd fun w2 (h:Below w.heap.size w w2)=>(hr.below h).arms;have Dx:=Ct;have Hg:=Hd fun(m:Int) w2 (h:Below w.heap.size w w2)=>bAr A x.arms.length ca m x.arms w2 (hr.below h).arms Bs.2.1 Bs.2.2;have Fs:=hr.subs.max;have Au:=Bs.1;clear hr;unfold aJ at HF⊢;unfold fM at HF;rw[hk]at HF⊢;cases Df:aQ x.s.data.toList with
 |false=>
  have HE:=bAs x hk;rw[Df,Bool.false_and]at HE;have Aq:=Hd fun w1=>kR x.s w1 aA;rw[Df]at Aq;go_in
  go_upto_region 1 with(fail);generalize Af:(w.alloc _).alloc _=w1;obtain⟨Ab,hg,Al,hcell,Ad⟩:=HF.o w1 Af;have Ac:=Hd Ab;have Bg:=Hd Ad;obtain⟨q0,-,q2,-,q4,-⟩:=Sx (hcell w1 (Yg _ _));clear hcell Ad Ab Al Af HF;go_wp2_with fail;have Aa:=Hd fun d os=>Ac.o.trans ((Zx w1 d os).mono Ac.o.size);have Ae:=Hd fun d os=>((Zx w1 d os).block _ hg).trans Bg.o;have l0:=fun d os=>Zw q0 d os;have l2:=fun d os=>Zw q2 d os;have l4:=fun d os=>Zw q4 d os;have cA:=fun d os=>Zl (Aq.o (grow (redrawn w1 d) os));refine uD (l1:=[_,_,_,_,_,_,_,_,_,_,_,_,_,_]) (l2:=[_]) aE aE aE aE aE ?_;repeat (quiet_step (first|exact cA _ _))
  refine Xk ?_;intro _ Ch;obtain⟨⟨dq,Bj⟩,Az⟩:=Ch;subst Az;replace Ac:=Hd (Aa.o dq Bj);replace Bg:=Hd (Ae.o dq Bj);clear q0 q2 q4 l0 l2 l4 cA Aa Ae;generalize grow (redrawn w1 dq) Bj=wq at *;go_wp2_with (refine Zz rfl _ _ _ rfl (w.heap.size+1) _ rfl rfl _ _ Bg.o jY rfl eC ?_);exact Zy (kK rfl _ _ (w.heap.size+1) _ rfl rfl (Xh _ _ _ _ _ _ Bg.o)) rfl ⟨0,x.s,0,A,x.arms,ca,false,1,1,rfl,Dx.o _ (Xg Ac.o (Nat.le_succ _) _),HE,Xg Ac.o (Nat.le_succ _) _⟩
 |true=>
  have HE:=bAs x hk;rw[Df,Bool.true_and]at HE;have Aq:=Hd fun w1=>kR x.s w1 aA;rw[Df]at Aq;go_in
  go_upto_region 1 with(fail);generalize Af:(w.alloc _).alloc _=w1;obtain⟨Ab,hg,Al,hcell,Ad⟩:=HF.o w1 Af;have Ac:=Hd Ab;have Bg:=Hd Ad;obtain⟨q0,-,q2,-,q4,-⟩:=Sx (hcell w1 (Yg _ _));clear hcell Ad Ab Al Af HF;go_wp2_with fail;have Aa:=Hd fun d os=>Ac.o.trans ((Zx w1 d os).mono Ac.o.size);have Ae:=Hd fun d os=>((Zx w1 d os).block _ hg).trans Bg.o;have l0:=fun d os=>Zw q0 d os;have l2:=fun d os=>Zw q2 d os;have l4:=fun d os=>Zw q4 d os;have cA:=fun d os=>Zl (Aq.o (grow (redrawn w1 d) os));have cB:=fun d os=>Zl (Hg.o 1 (grow (redrawn w1 d) os) (Aa.o d os));refine uD (l1:=[_,_,_,_,_,_,_,_,_,_,_,_,_,_]) (l2:=[_]) aE aE aE aE aE ?_;repeat (quiet_step (first|exact cA _ _|exact cB _ _))
  refine Xk ?_;intro _ Ch;obtain⟨⟨dq,Bj⟩,Az⟩:=Ch;subst Az;replace Ac:=Hd (Aa.o dq Bj);replace Bg:=Hd (Ae.o dq Bj);clear q0 q2 q4 l0 l2 l4 cA cB Aa Ae;generalize grow (redrawn w1 dq) Bj=wq at *;go_wp2_with (refine Zz rfl _ _ _ rfl (w.heap.size+1) _ rfl rfl _ _ Bg.o jY rfl eC ?_);exact Zy (kK rfl _ _ (w.heap.size+1) _ rfl rfl (Xh _ _ _ _ _ _ Bg.o)) rfl ⟨0,x.s,0,A,x.arms,ca,_,1,1,rfl,Dx.o _ (Xg Ac.o (Nat.le_succ _) _),HE,Xg Ac.o (Nat.le_succ _) _⟩
theorem bSs(hr:aM w x A B)(Bs:eS x)(hk:x.k=12):
 Calls Tryz.prog 231 #[.agg (aJ x A ca B cb)] w fun e w'=>lG w w' e x:=by
 have HF:=Hd fun w1 h=>lQ w x A ca B cb w1 h hr;have Ct:=Hd fun w2 (h:Below w.heap.size w w2)=>(hr.below h).arms;have Dx:=Ct;have Hg:=Hd fun(m:Int) w2 (h:Below w.heap.size w w2)=>bAr A x.arms.length ca m x.arms w2 (hr.below h).arms Bs.2.1 Bs.2.2;have Fs:=hr.subs.max;have Au:=Bs.1;clear hr;unfold aJ at HF⊢;unfold fM at HF;rw[hk]at HF⊢;cases Df:aQ x.s.data.toList with
 |false=>
  have HE:=bAt x hk;rw[Df,Bool.false_and]at HE;have Aq:=Hd fun w1=>kR x.s w1 aA;rw[Df]at Aq;go_in
  go_upto_region 1 with(fail);generalize Af:(w.alloc _).alloc _=w1;obtain⟨Ab,hg,Al,hcell,Ad⟩:=HF.o w1 Af;have Ac:=Hd Ab;have Bg:=Hd Ad;obtain⟨q0,-,q2,-,q4,-⟩:=Sx (hcell w1 (Yg _ _));clear hcell Ad Ab Al Af HF;go_wp2_with fail;have Aa:=Hd fun d os=>Ac.o.trans ((Zx w1 d os).mono Ac.o.size);have Ae:=Hd fun d os=>((Zx w1 d os).block _ hg).trans Bg.o;have l0:=fun d os=>Zw q0 d os;have l2:=fun d os=>Zw q2 d os;have l4:=fun d os=>Zw q4 d os;have cA:=fun d os=>Zl (Aq.o (grow (redrawn w1 d) os));refine uD (l1:=[_,_,_,_,_,_,_,_,_,_,_,_,_,_,_,_]) (l2:=[_]) aE aE aE aE aE ?_;repeat (quiet_step (first|exact cA _ _))
  refine Xk ?_;intro _ Ch;obtain⟨⟨dq,Bj⟩,Az⟩:=Ch;subst Az;replace Ac:=Hd (Aa.o dq Bj);replace Bg:=Hd (Ae.o dq Bj);clear q0 q2 q4 l0 l2 l4 cA Aa Ae;generalize grow (redrawn w1 dq) Bj=wq at *;go_wp2_with (refine Zz rfl _ _ _ rfl (w.heap.size+1) _ rfl rfl _ _ Bg.o jY rfl eC ?_);exact Zy (kK rfl _ _ (w.heap.size+1) _ rfl rfl (Xh _ _ _ _ _ _ Bg.o)) rfl ⟨0,x.s,0,A,x.arms,ca,false,_,_,rfl,Dx.o _ (Xg Ac.o (Nat.le_succ _) _),HE,Xg Ac.o (Nat.le_succ _) _⟩
 |true=>
  have HE:=bAt x hk;rw[Df,Bool.true_and]at HE;have Aq:=Hd fun w1=>kR x.s w1 aA;rw[Df]at Aq;go_in
  go_upto_region 1 with(fail);generalize Af:(w.alloc _).alloc _=w1;obtain⟨Ab,hg,Al,hcell,Ad⟩:=HF.o w1 Af;have Ac:=Hd Ab;have Bg:=Hd Ad;obtain⟨q0,-,q2,-,q4,-⟩:=Sx (hcell w1 (Yg _ _));clear hcell Ad Ab Al Af HF;go_wp2_with fail;have Aa:=Hd fun d os=>Ac.o.trans ((Zx w1 d os).mono Ac.o.size);have Ae:=Hd fun d os=>((Zx w1 d os).block _ hg).trans Bg.o;have l0:=fun d os=>Zw q0 d os;have l2:=fun d os=>Zw q2 d os;have l4:=fun d os=>Zw q4 d os;have cA:=fun d os=>Zl (Aq.o (grow (redrawn w1 d) os));have cB:=fun d os=>Zl (Hg.o 6 (grow (redrawn w1 d) os) (Aa.o d os));refine uD (l1:=[_,_,_,_,_,_,_,_,_,_,_,_,_,_,_,_]) (l2:=[_]) aE aE aE aE aE ?_;repeat (quiet_step (first|exact cA _ _|exact cB _ _))
  refine Xk ?_;intro _ Ch;obtain⟨⟨dq,Bj⟩,Az⟩:=Ch;subst Az;replace Ac:=Hd (Aa.o dq Bj);replace Bg:=Hd (Ae.o dq Bj);clear q0 q2 q4 l0 l2 l4 cA cB Aa Ae;generalize grow (redrawn w1 dq) Bj=wq at *;go_wp2_with (refine Zz rfl _ _ _ rfl (w.heap.size+1) _ rfl rfl _ _ Bg.o jY rfl eC ?_);exact Zy (kK rfl _ _ (w.heap.size+1) _ rfl rfl (Xh _ _ _ _ _ _ Bg.o)) rfl ⟨0,x.s,0,A,x.arms,ca,_,_,_,rfl,Dx.o _ (Xg Ac.o (Nat.le_succ _) _),HE,Xg Ac.o (Nat.le_succ _) _⟩
theorem bSt(hr:aM w x A B)(Ct:eS x)(hk:x.k=13):
 Calls Tryz.prog 231 #[.agg (aJ x A ca B cb)] w fun e w'=>lG w w' e x:=by
 have HF:=Hd fun w1 h=>lQ w x A ca B cb w1 h hr;have Bs:=Hd fun w2 (h:Below w.heap.size w w2)=>(hr.below h).arms;have Dx:=Bs;have Fs:=hr.subs.max;have Au:=Ct.1;clear hr;unfold aJ at HF⊢;unfold fM at HF;rw[hk]at HF⊢;cases Df:aQ x.s.data.toList with
 |false=>
  have HE:=bAu x (IntKind.i64.wrap (6+x.n)) hk (fun h=>aW7 h);rw[Df,Bool.false_and]at HE;have Aq:=Hd fun w1=>kR x.s w1 aA;rw[Df]at Aq;go_in
  go_upto_region 1 with(fail);generalize Af:(w.alloc _).alloc _=w1;obtain⟨Ab,hg,Al,hcell,Ad⟩:=HF.o w1 Af;have Ac:=Hd Ab;have Bg:=Hd Ad;obtain⟨q0,q1,q2,-,-,-⟩:=Sx (hcell w1 (Yg _ _));clear hcell Ad Ab Al Af HF;go_wp2_with fail;have Aa:=Hd fun d os=>Ac.o.trans ((Zx w1 d os).mono Ac.o.size);have Ae:=Hd fun d os=>((Zx w1 d os).block _ hg).trans Bg.o;have l0:=fun d os=>Zw q0 d os;have l1:=fun d os=>Zw q1 d os;have l2:=fun d os=>Zw q2 d os;have cA:=fun d os=>Zl (Aq.o (grow (redrawn w1 d) os));refine uD (l1:=[_,_,_,_,_,_,_,_,_,_,_,_,_,_,_,_,_]) (l2:=[_]) aE aE aE aE aE ?_;repeat (quiet_step (first|exact cA _ _))
  refine Xk ?_;intro _ Ch;obtain⟨⟨dq,Bj⟩,Az⟩:=Ch;subst Az;replace Ac:=Hd (Aa.o dq Bj);replace Bg:=Hd (Ae.o dq Bj);clear q0 q1 q2 l0 l1 l2 cA Aa Ae;generalize grow (redrawn w1 dq) Bj=wq at *;go_wp2_with (refine Zz rfl _ _ _ rfl (w.heap.size+1) _ rfl rfl _ _ Bg.o jY rfl eC ?_);exact Zy (kK rfl _ _ (w.heap.size+1) _ rfl rfl (Xh _ _ _ _ _ _ Bg.o)) rfl ⟨x.n,x.s,0,none,[],0,false,_,_,rfl,aS.nil_ _,HE,Xg Ac.o (Nat.le_succ _) _⟩
 |true=>
  have HE:=bAu x (IntKind.i64.wrap (6+x.n)) hk (fun h=>aW7 h);rw[Df,Bool.true_and]at HE;have Aq:=Hd fun w1=>kR x.s w1 aA;rw[Df]at Aq;go_in
  go_upto_region 1 with(fail);generalize Af:(w.alloc _).alloc _=w1;obtain⟨Ab,hg,Al,hcell,Ad⟩:=HF.o w1 Af;have Ac:=Hd Ab;have Bg:=Hd Ad;obtain⟨q0,q1,q2,-,-,-⟩:=Sx (hcell w1 (Yg _ _));clear hcell Ad Ab Al Af HF;go_wp2_with fail;have Aa:=Hd fun d os=>Ac.o.trans ((Zx w1 d os).mono Ac.o.size);have Ae:=Hd fun d os=>((Zx w1 d os).block _ hg).trans Bg.o;have l0:=fun d os=>Zw q0 d os;have l1:=fun d os=>Zw q1 d os;have l2:=fun d os=>Zw q2 d os;have cA:=fun d os=>Zl (Aq.o (grow (redrawn w1 d) os));have cB:=fun d os=>Zl (bA0 x.n (grow (redrawn w1 d) os));refine uD (l1:=[_,_,_,_,_,_,_,_,_,_,_,_,_,_,_,_,_]) (l2:=[_]) aE aE aE aE aE ?_;repeat (quiet_step (first|exact cA _ _|exact cB _ _))
  refine Xk ?_;intro _ Ch;obtain⟨⟨dq,Bj⟩,Az⟩:=Ch;subst Az;replace Ac:=Hd (Aa.o dq Bj);replace Bg:=Hd (Ae.o dq Bj);clear q0 q1 q2 l0 l1 l2 cA cB Aa Ae;generalize grow (redrawn w1 dq) Bj=wq at *;go_wp2_with (refine Zz rfl _ _ _ rfl (w.heap.size+1) _ rfl rfl _ _ Bg.o jY rfl eC ?_);exact Zy (kK rfl _ _ (w.heap.size+1) _ rfl rfl (Xh _ _ _ _ _ _ Bg.o)) rfl ⟨x.n,x.s,0,none,[],0,_,_,_,rfl,aS.nil_ _,HE,Xg Ac.o (Nat.le_succ _) _⟩
theorem bSu(hr:aM w x A B)(Ae:eS x)(hk:x.k=14):
 Calls Tryz.prog 231 #[.agg (aJ x A ca B cb)] w fun e w'=>lG w w' e x:=by
 have HF:=Hd fun w1 h=>lQ w x A ca B cb w1 h hr;have Aa:=Hd fun w2 (h:Below w.heap.size w w2)=>(hr.below h).arms;have Dx:=Aa;have Aq:=hr.subs.max;have Au:=Ae.1;clear hr;unfold aJ at HF⊢;unfold fM at HF;rw[hk]at HF⊢;go_in
 go_upto_region 1 with(fail);generalize Af:(w.alloc _).alloc _=w1;obtain⟨Ab,hg,Al,hcell,Ad⟩:=HF.o w1 Af;have Ac:=Hd Ab;have Bg:=Hd Ad;have q0:=hcell w1 (Yg _ _) 0;clear hcell Ad Ab Al Af HF;go_wp2_with (refine Zz rfl _ _ _ rfl (w.heap.size+1) _ rfl rfl _ _ Bg.o jY rfl eC ?_);exact Zy (kK rfl _ _ (w.heap.size+1) _ rfl rfl (Xh _ _ _ _ _ _ Bg.o)) rfl ⟨0,ByteArray.empty,0,none,[],0,_,1,8,rfl,aS.nil_ _,bZu x hk,Xg Ac.o (Nat.le_succ _) _⟩
theorem bSv(hr:aM w x A B)(Ct:eS x)(h1:x.k≠1)(h2:x.k≠2)(h3:x.k≠3)(h4:x.k≠4)(Ae:x.k≠17)(h5:x.k≠5)(h6:x.k≠6)(h7:x.k≠7)(Fh:x.k≠16)(h8:x.k≠8)(h9:x.k≠9)(Ek:x.k≠15)(Aq:x.k≠10)(h11:x.k≠11)(Cy:x.k≠12)(Aa:x.k≠13)(Eh:x.k≠14)(hk:x.k<1\/17<x.k):
 Calls Tryz.prog 231 #[.agg (aJ x A ca B cb)] w fun e w'=>lG w w' e x:=by
 have HF:=Hd fun w1 h=>lQ w x A ca B cb w1 h hr;have Bs:=Hd fun w2 (h:Below w.heap.size w w2)=>(hr.below h).arms;have Dx:=Bs;have Ng:=hr.subs.max;have Au:=Ct.1;clear hr;unfold aJ at HF⊢;unfold fM at HF;generalize Hn:x.k=k at HF⊢h1 h2 h3 h4 Ae h5 h6 h7 Fh h8 h9 Ek Aq h11 Cy Aa Eh;have e1:(k==1)=false:=wV;have e2:(k==2)=false:=aGk;have e3:(k==3)=false:=by simpa using h3
 have e4:(k==4)=false:=by simpa using h4
 have Ni:(k==17)=false:=by simpa using Ae
 have e5:(k==5)=false:=aGl;have e6:(k==6)=false:=aJh;have e7:(k==7)=false:=by simpa using h7
 have Hc:(k==16)=false:=by simpa using Fh
 have e8:(k==8)=false:=by simpa using h8
 have e9:(k==9)=false:=by simpa using h9
 have Hb:(k==15)=false:=by simpa using Ek
 have Nh:(k==10)=false:=by simpa using Aq
 have Fs:(k==11)=false:=by simpa using h11
 have Nj:(k==12)=false:=by simpa using Cy
 have Jx:(k==13)=false:=by simpa using Aa
 have Ha:(k==14)=false:=by simpa using Eh
 go_in
 go_upto_region 1 with(fail);generalize Af:(w.alloc _).alloc _=w1;obtain⟨Ab,hg,Al,hcell,Ad⟩:=HF.o w1 Af;have Ac:=Hd Ab;have Bg:=Hd Ad;have q0:=hcell w1 (Yg _ _) 0;clear hcell Ad Ab Al Af HF;go_wp2_with (refine Zz rfl _ _ _ rfl (w.heap.size+1) _ rfl rfl _ _ Bg.o jY rfl eC ?_);exact Zy (kK rfl _ _ (w.heap.size+1) _ rfl rfl (Xh _ _ _ _ _ _ Bg.o)) rfl ⟨0,ByteArray.empty,0,none,[],0,_,0,0,rfl,aS.nil_ _,bZv x _ _ _ _ _ _ hk,Xg Ac.o (Nat.le_succ _) _⟩
theorem bWp(hr:aM w x A B)(Aa:eS x):
 Calls Tryz.prog 231 #[.agg (aJ x A ca B cb)] w fun e w'=>lG w w' e x:=by
 by_cases h1:x.k=1;· exact bWg x A ca B cb w hr Aa h1
 by_cases h2:x.k=2;· exact bWh x A ca B cb w hr Aa h2
 by_cases h3:x.k=3;· exact bWi x A ca B cb w hr Aa h3
 by_cases h4:x.k=4;· exact bWj x A ca B cb w hr Aa h4
 by_cases Aq:x.k=17;· exact bSn x A ca B cb w hr Aa Aq
 by_cases h5:x.k=5;· exact bWk x A ca B cb w hr Aa h5
 by_cases h6:x.k=6;· exact bWl x A ca B cb w hr Aa h6
 by_cases h7:x.k=7;· exact bWm x A ca B cb w hr Aa h7
 by_cases Fh:x.k=16;· exact bSo x A ca B cb w hr Aa Fh
 by_cases h8:x.k=8;· exact bWn x A ca B cb w hr Aa h8
 by_cases h9:x.k=9;· exact bWo x A ca B cb w hr Aa h9
 by_cases Ek:x.k=15;· exact bSp x A ca B cb w hr Aa Ek
 by_cases Bs:x.k=10;· exact bSq x A ca B cb w hr Aa Bs
 by_cases h11:x.k=11;· exact bSr x A ca B cb w hr Aa h11
 by_cases Cy:x.k=12;· exact bSs x A ca B cb w hr Aa Cy
 by_cases Ae:x.k=13;· exact bSt x A ca B cb w hr Aa Ae
 by_cases Eh:x.k=14;· exact bSu x A ca B cb w hr Aa Eh
 exact bSv x A ca B cb w hr Aa h1 h2 h3 h4 Aq h5 h6 h7 Fh h8 h9 Ek Bs h11 Cy Ae Eh aA
end
section
open Go.RowKit Go.Sort
theorem bOl(w:World)(n:Int)(s:BA)(op:Int)(A:OA)(len ca:Nat)(h:Bool)(lo hi:Int)(w1:World)(e:w.alloc (.cells (fM 0 n s op A len ca h lo hi) 261)=w1):
 Below w.heap.size w w1/\w.heap.size<w1.heap.size/\w1.cell? ⟨w.heap.size,0,none⟩=some (.int .i64 0)/\w1.frozen? ⟨w.heap.size,0,none⟩=false/\
  ∀(k:Int)(w2:World),w1.setCell ⟨w.heap.size,0,none⟩ (.int .i64 k)=w2->Below w.heap.size w w2/\∀w3,Below w2.heap.size w2 w3->∀j,w3.cell? ⟨w.heap.size,j,none⟩=(fM k n s op A len ca h lo hi)[j]?:=by
 subst e;have hn:(w.alloc (.cells (fM 0 n s op A len ca h lo hi) 261)).heap[w.heap.size]?=some (Obj.cells (fM 0 n s op A len ca h lo hi) 261):=World.alloc_heap_new _ _;have hb:Below w.heap.size w (w.alloc (.cells (fM 0 n s op A len ca h lo hi) 261)):=(Yg _ _).alloc (Yh _) _
 have hc:∀j,(w.alloc (.cells (fM 0 n s op A len ca h lo hi) 261)).cell? ⟨w.heap.size,j,none⟩=(fM 0 n s op A len ca h lo hi)[j]?:=fun j=>by
  rw[Zs]
 refine⟨hb,by simp,by rw[hc];rfl,by simp only[World.frozen?,hn];rfl,fun k w2 e2=>?_⟩;subst e2;refine⟨hb.setCell (p:=⟨w.heap.size,0,none⟩) (Yh _) _,fun w3 h3 j=>?_⟩;rw[h3.cell (p:=⟨w.heap.size,j,none⟩) (by have:=(grownBy_setCell' (w.alloc (.cells (fM 0 n s op A len ca h lo hi) 261)) w.heap.size (.int .i64 k)).size;simp at this⊢)];cases j with
 |zero=>exact World.cell?_setCell_same' _ _ _ (by rw[hc];rfl)
 |succ j=>
  rw[World.cell?_setCell_other _ _ _ _ (by intro e;injection e with _ e;exact absurd e aC),hc];rfl
theorem bZ5(k n:Int)(s:BA)(op:Int)(Aa:LB):(sN k n s op Aa).k=k:=rfl
theorem bZ6(k n:Int)(s:BA)(op:Int)(Aa:LB):(sN k n s op Aa).n=n:=rfl
theorem bZ7(k n:Int)(s:BA)(op:Int)(Aa:LB):(sN k n s op Aa).s=s:=rfl
theorem bWq(k n:Int)(s:BA)(op:Int)(Aa:LB):(sN k n s op Aa).op=op:=rfl
theorem bOm(k n:Int)(s:BA)(op:Int)(Aa:LB):(sN k n s op Aa).arms=Aa:=rfl
theorem bOn(k n:Int)(s:BA)(op:Int)(Aa:LB):(sN k n s op Aa).subs=[]:=rfl
theorem bZ8{w:World}{A:OA}{Aa:LB}(k n:Int)(s:BA)(op:Int)(h:aS w A Aa.length Aa):aM w (sN k n s op Aa) A none:=
 aAi.2 ⟨h,gK.nil_ _⟩
theorem bZ9(x:Ex)(A:OA)(ca:Nat)(B:OA)(cb:Nat)(w:World)(hr:aM w x A B)(Nn:eS x):
 Calls Tryz.prog 198 #[.agg (aJ x A ca B cb)] w fun e w'=>e=.returned (.bool (dA x))/\Below w.heap.size w w':=by
 have HF:=Hd fun w1 h=>gH w x A ca B cb w1 h hr;have Nh:=Hd fun w1 (h:Below w.heap.size w w1)=>bWp x A ca B cb w1 (hr.below h) Nn;have Ha:=Hd fun(n:Int)(s:BA)(op:Int)(A':OA)(Ae:LB)(Hb:Nat)(w1:World)(h:Below w.heap.size w w1)(hA:aS w1 A' Ae.length Ae)=>bRm x A ca B cb (sN x.k n s op Ae) A' Hb none 0 w1 (hr.below h) (bZ8 x.k n s op hA);have Np:=hr.subs.max;clear hr;unfold aJ at HF Nh Ha⊢;simp only[bZ5,bZ6,bZ7,bWq,bOm,bOn,Zg]at Ha;generalize Ct:dA x=res;have Ng:=Hd Ct;clear Ct;generalize Aq:x.subs.length=len at *;have Fe:=Hd Aq;clear Aq;generalize x.arms.length=No at *;go_in
 go_upto_region 1 with(fail);generalize Af:w.alloc _=w1;obtain⟨Ab,hg,Al,hcell⟩:=HF.o w1 Af;have Ac:=Hd Ab;have HC:=Hd hcell;obtain⟨q0,q1,q2,q3,q4,q5⟩:=Sx (hcell w1 (Yg _ _));have Nk:=Hd (Nh.o w1 Ab);clear hcell Ab Al Af HF Nh;go_wp2_with fail;refine Nk.o.mono ?_;rintro r w2 ⟨n,s,op,A',Ae,Hb,hh,lo,hi,rfl,Ki,Ad,Ag⟩;have Ai:=Hd (Ac.o.tr Ag);have Cj:=Hd Ag;have Nl:=Hd Ki;have HS:=Hd (show res=(hh && aAb x (sN x.k n s op Ae) && decide (lo<=(len:Int)) && decide ((len:Int)<=hi))by rw[<-Ng.o,<-Fe.o];exact Ad.symm);have Jx:=Hd fun w3 h=>bOl w2 n s op A' Ae.length Hb hh lo hi w3 h;have Nj:=Hd fun w4 h hA=>Ha.o n s op A' Ae Hb w4 h hA;clear q0 q1 q2 q3 q4 q5 Ki Ad Ag Ha;unfold fM at Jx⊢;generalize aAb x (sN x.k n s op Ae)=fb at *;go_upto_region 2 with(fail);generalize Em:w2.alloc _=w3;obtain⟨Ak,Ib,Ca,Nm,Bs⟩:=Jx.o w3 Em;have q0:=HC.o w3 (Cj.o.tr Ak) 0;have Fs:=Hd Bs;clear Bs Ak Em Jx;go_upto_region 3 with(fail);generalize Ni:w3.setCell _ _=w4;obtain⟨Hc,Aa⟩:=Fs.o _ w4 Ni;have Bd:=Hd (Ai.o.tr Hc);have Es:=Hd (Cj.o.tr Hc);have Fu:=Hd Aa;have Mm:=Hd (Nj.o w4 Bd.o (Nl.o.below Hc));obtain⟨q0,q1,q2,q3,q4,q5⟩:=Sx (HC.o w4 Es.o);obtain⟨r0,r1,r2,r3,r4,r5⟩:=Sx (Aa w4 (Yg _ _));have r6:=Aa w4 (Yg _ _) 6;clear Aa Hc Ni Fs Ca Nm Nj;cases hh with
 |false=>
  have HN:=Hd (show res=false by rw[HS.o];simp);exact bE2
 |true=>
  cases fb with
  |false=>
   have HN:=Hd (show res=false by rw[HS.o];simp);go_wp2_with fail;refine Mm.o.mono ?_;rintro r w5 ⟨rfl,Cs⟩;have Bl:=Hd (Bd.o.tr Cs);clear Cs q0 q1 q2 q3 q4 q5 r0 r1 r2 r3 r4 r5 r6;go_wp2_with fail;go_ret;exact⟨aO HN.o.symm,Bl.o⟩
  |true=>
   cases Df:decide (lo<=(len:Int))with
   |false=>
    have HN:=Hd (show res=false by rw[HS.o,Df];simp);exact bHo
   |true=>
    have HN:=Hd (show res=decide ((len:Int)<=hi)by rw[HS.o,Df];simp);exact bHo
end
section
open Go.RowKit Go.Shelf
attribute [local go_sem] Oper.semAt_some
theorem aSa{B:Nat}{W W':World}(h:Below W.heap.size W W'):KeepsFrom B W W':=KeepsFrom.of_grownBy (aR5 h) (fun j e=>by cases e)
theorem aHd{W W':World}{B:Nat}{t:TypeId}{v:Value}(h:Boxed W B t v){n:Nat}(hb:Below n W W')(hn:B<n):Boxed W' B t v:=(hb.block B hn).trans h
theorem aTw{W:World}{Bs:Nat}{cs:AV}{B:Nat}{t:TypeId}{v:Value}(h:W.heap[Bs]?=some (Obj.cells cs 79))(hb:Boxed W B t v)(ht:t≠79)(u:Value):(W.setCell ⟨B,0,none⟩ u).heap[Bs]?=some (Obj.cells cs 79):=jB.setCell hb ht u _ _ _ h
theorem bLy{x:Ex}{l:List Ex}(h:l <+:bP x)(hl:60<l.length):bJ x=false:=by
 have:=h.length_le
 rw[aEl]at this;simp[bJ,show 60<aT x by omega]
theorem bOo{x z:Ex}{l:List Ex}(h:l <+:bP x)(hz:z∈l)(hp:dA z=false):bJ x=false:=by
 have:(bP x).all dA=false:=by
  rw[List.all_eq_false];exact⟨z,h.subset hz,by simp[hp]⟩
 simp[bJ,this]
theorem bOp{x:Ex}{l:List Ex}(h:l=bP x)(hl:l.length<=60)(hp:∀z∈l,dA z=true):bJ x=decide ((gC x:Int)<=12):=by
 subst h;rw[aEl]at hl
 have:(bP x).all dA=true:=Zj.2 hp
 have h2:(!decide (12<gC x))=decide ((gC x:Int)<=12):=by
  rw[Zq];simp;omega
 have h3:(!decide (60<aT x))=true:=cP;simp only[bJ,this,h2,h3,Bool.true_and,Bool.and_true]
theorem bLz(n:Nat)(hn:6<=n)(x:Ex)(A:OA)(ca:Nat)(B:OA)(cb:Nat)(w:World)(hr:aM w x A B)(hs:aT x<=1000000)(Of:∀p∈bP x,eS p):
 CallsIn Fence.wide n Tryz.prog 166 #[.agg (aJ x A ca B cb)] w fun e w'=>e=.returned (.bool (bJ x))/\Below w.heap.size w w':=by
 have h1:1<=n:=aA;have HF:=Hd fun w1 h=>gH w x A ca B cb w1 h hr;have HR:=Hd hr;have Ol:=Hd Of;have Nq:=Hd fun w1 (h:Below w.heap.size w w1)=>bZp x A ca B cb w1 (hr.below h);have Ob:=Hd fun w1 (h:Below w.heap.size w w1)=>aYt x A ca B cb w1 (hr.below h) hs;have Ho:=Hd fun(n Bs:Nat)(w0 w1:World) h hb Dw=>bLj n Bs x A ca B cb w0 w1 h hb Dw;clear Of;have Li:=aEm x;unfold aJ at Nq Ob⊢;refine callsIn_of_wp_marks Tryz.func166 rfl trivial ?_ rfl;simp only[Tryz.ntmps166,List.size_toArray,Yq,Zg,Nat.reduceAdd,Nat.reduceSub,Array.replicate_succ,Array.replicate_zero,List.push_toArray,List.append_toArray,Zh,Yx];obtain⟨Ab,Nu,Al,hcell⟩:=HF.o _ rfl;unfold aJ at Ab Nu Al hcell;have Nn:Below w.heap.size w (((w.alloc (.cells #[.int .i64 x.k,.int .i64 x.n,.string x.s,.int .i64 x.op,.slice A x.arms.length ca,.slice B x.subs.length cb] 79)).alloc (.cells #[.bool false] 4)).alloc (.cells #[.int .i64 0] 3)):=(Ab.alloc (Nat.le_of_lt Nu) _).alloc cP _;have Nt:=((Yg (w.alloc (.cells #[.int .i64 x.k,.int .i64 x.n,.string x.s,.int .i64 x.op,.slice A x.arms.length ca,.slice B x.subs.length cb] 79)).heap.size (w.alloc (.cells #[.int .i64 x.k,.int .i64 x.n,.string x.s,.int .i64 x.op,.slice A x.arms.length ca,.slice B x.subs.length cb] 79))).alloc (Yh _) (.cells #[.bool false] 4)).alloc aC (.cells #[.int .i64 0] 3);obtain⟨q0,q1,q2,q3,q4,q5⟩:=Sx (hcell _ Nt);have Aq:(((w.alloc (.cells #[.int .i64 x.k,.int .i64 x.n,.string x.s,.int .i64 x.op,.slice A x.arms.length ca,.slice B x.subs.length cb] 79)).alloc (.cells #[.bool false] 4)).alloc (.cells #[.int .i64 0] 3)).heap[w.heap.size]?=some (Obj.cells (aJ x A ca B cb) 79):=by
  rw[Nt.block _ aC];exact World.alloc_heap_new _ _
 have Nh:=Hd (Nq.o _ Nn);clear HF Ab Nu Al hcell hr Nq Nt;gi_wp2_with fail;refine⟨trivial,(callsIn_wide.2 Nh.o).mono ?_⟩;rintro e w' ⟨rfl,rfl⟩;gi_wp2_with fail;have Oe:Boxed (((w.alloc (.cells #[.int .i64 x.k,.int .i64 x.n,.string x.s,.int .i64 x.op,.slice A x.arms.length ca,.slice B x.subs.length cb] 79)).alloc (.cells #[.bool false] 4)).alloc (.cells #[.int .i64 0] 3)) (w.heap.size+1) 4 (.bool false):=by
  have:=(Boxed.new (w.alloc (.cells #[.int .i64 x.k,.int .i64 x.n,.string x.s,.int .i64 x.op,.slice A x.arms.length ca,.slice B x.subs.length cb] 79)) 4 (.bool false)).alloc (.cells #[.int .i64 0] 3)
  rwa[World.size_alloc]at this
 have Oa:Boxed (((w.alloc (.cells #[.int .i64 x.k,.int .i64 x.n,.string x.s,.int .i64 x.op,.slice A x.arms.length ca,.slice B x.subs.length cb] 79)).alloc (.cells #[.bool false] 4)).alloc (.cells #[.int .i64 0] 3)) (w.heap.size+1+1) 3 (.int .i64 0):=by
  have:=Boxed.new ((w.alloc (.cells #[.int .i64 x.k,.int .i64 x.n,.string x.s,.int .i64 x.op,.slice A x.arms.length ca,.slice B x.subs.length cb] 79)).alloc (.cells #[.bool false] 4)) 3 (.int .i64 0)
  rwa[World.size_alloc,World.size_alloc]at this
 have Au:(((w.alloc (.cells #[.int .i64 x.k,.int .i64 x.n,.string x.s,.int .i64 x.op,.slice A x.arms.length ca,.slice B x.subs.length cb] 79)).alloc (.cells #[.bool false] 4)).alloc (.cells #[.int .i64 0] 3)).heap.size=w.heap.size+1+1+1:=aC;clear q0 q1 q2 q3 q4 q5 Nh;generalize ((w.alloc _).alloc _).alloc _=w2 at *;have Ot:(w2.alloc (.cells #[.int .i64 x.k,.int .i64 x.n,.string x.s,.int .i64 x.op,.slice A x.arms.length ca,.slice B x.subs.length cb] 79)).heap[w.heap.size+1+1+1]?=some (Obj.cells (aJ x A ca B cb) 79):=by
  rw[<-Au];exact World.alloc_heap_new _ _
 have On:(w2.alloc (.cells #[.int .i64 x.k,.int .i64 x.n,.string x.s,.int .i64 x.op,.slice A x.arms.length ca,.slice B x.subs.length cb] 79)).heap[w.heap.size]?=some (Obj.cells (aJ x A ca B cb) 79):=(((Yg _ w2).alloc (Yh _) _).block _ aA).trans Aq;have Ou:=Oe.alloc (.cells #[.int .i64 x.k,.int .i64 x.n,.string x.s,.int .i64 x.op,.slice A x.arms.length ca,.slice B x.subs.length cb] 79);have Oq:=Oa.alloc (.cells #[.int .i64 x.k,.int .i64 x.n,.string x.s,.int .i64 x.op,.slice A x.arms.length ca,.slice B x.subs.length cb] 79);have Nz:=Nn.alloc Nn.size (.cells #[.int .i64 x.k,.int .i64 x.n,.string x.s,.int .i64 x.op,.slice A x.arms.length ca,.slice B x.subs.length cb] 79);have Dg:(w2.alloc (.cells #[.int .i64 x.k,.int .i64 x.n,.string x.s,.int .i64 x.op,.slice A x.arms.length ca,.slice B x.subs.length cb] 79)).heap.size=w.heap.size+4:=by simp[Au]
 clear Oa Nn Oe Aq;generalize w2.alloc _=W0 at *;clear Au;refine wpIn_rangeFunc_ownH rfl h1 (gf:=229) (lb:=#[.pointer (some ⟨w.heap.size+1+1+1,0,none⟩)]) rfl trivial (enters_of Tryz.func229 aE rfl)
  (Ho.o (n-1) (w.heap.size+1+1+1) w W0 HR.o Nz Ot) (fun h k=>h.trans k) (cB5 aA) (Yg _ _) (fun _=>rfl)
  (fun(Aa:List (pD w x)) W=>((Boxed W (w.heap.size+1) 4 (.bool false)/\Boxed W (w.heap.size+1+1) 3 (.int .i64 (Aa.length:Nat)))/\W.heap[w.heap.size]?=some (Obj.cells (aJ x A ca B cb) 79))/\(Aa.length<=60/\∀z∈kG Aa,dA z=true)/\Below w.heap.size w W)
  (fun c (Aa:List (pD w x)) W=>(c=.ret/\(60<(kG Aa).length\/∃z∈kG Aa,dA z=false))/\Boxed W (w.heap.size+1) 4 (.bool false)/\Below w.heap.size w W)
  (OwnFrom.and (Own.from (fun s X Y Jx hs hg hr=>⟨⟨boxed_own _ _ (fun _=>_) () X Y Jx hs.1.1 hg hr,boxed_own _ _ (fun(Aa:List (pD w x))=>Value.int .i64 (Aa.length:Nat)) s X Y Jx hs.1.2 hg hr⟩,bAv (β:=Unit) _ _ _ () X Y Jx hs.2 hg hr⟩) _) (OwnFrom.and (ownFrom_pure _ _) (ownFrom_below (Yh _) aA)))
  (fun c=>OwnFrom.and (ownFrom_pure _ _) (OwnFrom.and (Own.from (boxed_own _ _ (fun _=>_)) _) (ownFrom_below (Yh _) aA)))
  ⟨⟨⟨Ou,Oq⟩,On⟩,⟨Ys _,by simp[kG]⟩,Nz⟩
  (fun(y:pD w x) a' W=>∃Bx:Nat,W.heap[Bx]?=some (Obj.cells (aJ y.1.x y.1.A y.1.ca y.1.B y.1.cb) 79)/\a'={ tmps:=#[.agg #[.int .i64 x.k,.int .i64 x.n,.string x.s,.int .i64 x.op,.slice A x.arms.length ca,.slice B x.subs.length cb],.pointer (some ⟨w.heap.size,0,none⟩),.pointer (some ⟨w.heap.size+1,0,none⟩),.pointer (some ⟨w.heap.size+1+1,0,none⟩),.pointer (some ⟨Bx,0,none⟩),.agg #[.int .i64 x.k,.int .i64 x.n,.string x.s,.int .i64 x.op,.slice A x.arms.length ca,.slice B x.subs.length cb],.func (.func 229) #[] #[.pointer (some ⟨w.heap.size+1+1+1,0,none⟩)],.agg (aJ y.1.x y.1.A y.1.ca y.1.B y.1.cb),undef,undef,undef,undef,undef,undef,undef,undef,undef,undef,undef,undef],defers:=[] })
  (fun y a' s X Y Jx hs hg hr=>by obtain⟨Bx,h2,h3⟩:=hs;exact⟨Bx,(bAv (β:=Unit) Bx _ _).from W0.heap.size () X Y Jx h2 hg hr,h3⟩)
  ?assign ?body ?done ?stop
 case assign=>
  rintro l Aa y W K ⟨⟨⟨Hb,Ae⟩,Aq⟩,Nj,hB⟩ hK;have hz:∀v:Value,(#[7]:Array Tmp).zip #[v]=#[(7,v)]:=fun v=>by first|rfl|simp
  simp only[aK1,hz];unfold aJ at hK⊢;gi_wp2;exact hK _ _ ((KeepsOthers.alloc _ _).from _) (nC.of_below ((Yg _ _).alloc (Yh _) _) hB.size) ⟨⟨⟨Hb.alloc _,Ae.alloc _⟩,jB.alloc _ _ _ _ _ Aq⟩,Nj,hB.alloc hB.size _⟩ ⟨W.heap.size,World.alloc_heap_new _ _,rfl⟩
 case body=>
  rintro l Aa y a' W hl _ ⟨⟨⟨Hb,Ae⟩,Aq⟩,⟨Nm,Nj⟩,hB⟩ ⟨Bx,Dw,rfl⟩ Ah;have Fs:∀W1,Below w.heap.size w W1->Calls Tryz.prog 198 #[.agg (aJ y.1.x y.1.A y.1.ca y.1.B y.1.cb)] W1 fun e w'=>e=.returned (.bool (dA y.1.x))/\Below W1.heap.size W1 w':=fun W1 h=>
   bZ9 y.1.x y.1.A y.1.ca y.1.B y.1.cb W1 (y.2.1.below h) (Ol.o _ y.2.2)
  have e1:=Ae.cell;have f1:=Ae.frozen;have Cv:=Ae.set (.int .i64 ((Aa.length:Int)+1));have Ct:=Hb.other (B':=w.heap.size+1+1) aA (.int .i64 ((Aa.length:Int)+1));have e2:=Cv.cell;have e3:=Ct.cell;have f3:=Ct.frozen;have Ni:=aTw Dw Ae aF (.int .i64 ((Aa.length:Int)+1));have Ng:=aTw Aq Ae aF (.int .i64 ((Aa.length:Int)+1));have hcell:∀j,(W.setCell ⟨w.heap.size+1+1,0,none⟩ (.int .i64 ((Aa.length:Int)+1))).cell? ⟨Bx,j,none⟩=(aJ y.1.x y.1.A y.1.ca y.1.B y.1.cb)[j]?:=fun j=>by simp only[World.cell?,Ni];rfl
  obtain⟨q0,q1,q2,q3,q4,q5⟩:=Sx hcell;have Nv:Below w.heap.size w (W.setCell ⟨w.heap.size+1+1,0,none⟩ (.int .i64 ((Aa.length:Int)+1))):=hB.setCell (p:=⟨w.heap.size+1+1,0,none⟩) bGe _;have Og:=Hd (show Below w.heap.size W (W.setCell ⟨w.heap.size+1+1,0,none⟩ (.int .i64 ((Aa.length:Int)+1)))from(Yg _ _).setCell (p:=⟨w.heap.size+1+1,0,none⟩) bGe _);have Nr:=Hd (KeepsOthers.setCell W ⟨w.heap.size+1+1,0,none⟩ (.int .i64 ((Aa.length:Int)+1)));have Oo:=Hd (jB.setCell Ae aF (.int .i64 ((Aa.length:Int)+1)));have Oi:(W.setCell ⟨w.heap.size+1+1,0,none⟩ (.int .i64 ((Aa.length:Int)+1))).heap.size=W.heap.size:=by simp[World.setCell]
  have Nk:=Hd (Fs _ Nv);have Ny:=Hd Nv;have Ha:=Hd Ct;have Nw:=Hd (show Boxed (W.setCell ⟨w.heap.size+1+1,0,none⟩ (.int .i64 ((Aa.length:Int)+1))) (w.heap.size+1+1) 3 (.int .i64 ((Aa++[y]).length:Nat))by simpa using Cv);have No:=Hd Ng;have Oc:=Hd (show kG (Aa++[y])=kG Aa++[y.1.x]by rw[aNv];rfl);have Ns:=Hb.lt;have Cq:=Ae.lt;have Ow:=(Ym.1 Aq).1;clear hcell Ni Ng Dw Aq Fs Nv Cv Ct;unfold aJ at q0 q1 q2 q3 q4 q5 Nk⊢;by_cases Ov:60<=Aa.length
  . have hd:decide ((60:Int)<(Aa.length:Int)+1)=true:=Xc aA;have Np:60<(kG (Aa++[y])).length:=by rw[aNw];simp;omega
    gi_wp2_with fail;first|refine⟨trivial,?_⟩|skip
    gi_wp2_with fail;exact⟨(Nr.o.from _).trans ((KeepsOthers.setCell _ _ _).from _),⟨rfl,.inl Np⟩,Ha.o.set _,Ny.o.setCell (p:=⟨w.heap.size+1,0,none⟩) (Nat.le_succ _) _⟩
  . have hd:decide ((60:Int)<(Aa.length:Int)+1)=false:=Xd aA;cases hp:dA y.1.x with
    |true=>
     rw[hp]at Nk
     have HAL:=Hd (show ∀ z∈kG (Aa++[y]),dA z=true from fun z hz=>by
      rw[Oc.o]at hz;rcases Zr.1 hz with h|h;· exact Nj z h
      . obtain rfl:z=y.1.x:=by simpa using h
        exact hp)
     have Jh:1<=n-1-1:=aA;gi_wp2_with fail;refine⟨trivial,(CallsIn.inRound l (callsIn_wide.2 Nk.o)).mono ?_⟩;rintro e w3 ⟨rfl,Ak⟩;have Aj:=Hd Ak;clear Ak;gi_wp2_with fail;exact⟨(Nr.o.from _).trans (aSa Aj.o),⟨Og.o.trans (Aj.o.mono (by rw [Oi];omega)),Oo.o.trans (jB.of_below Aj.o)⟩,
      ⟨⟨aHd Ha.o Aj.o aA,aHd Nw.o Aj.o aA⟩,jB.of_below Aj.o _ _ _ No.o⟩,⟨by simp;omega,HAL.o⟩,Ny.o.trans (Aj.o.mono aA)⟩
    |false=>
     rw[hp]at Nk;have Jy:=Hd (show ∃z∈kG (Aa++[y]),dA z=false from⟨y.1.x,by rw[Oc.o];simp,hp⟩);have Jh:1<=n-1-1:=aA;gi_wp2_with fail;refine⟨trivial,(CallsIn.inRound l (callsIn_wide.2 Nk.o)).mono ?_⟩;rintro e w3 ⟨rfl,Ak⟩;have Aj:=Hd Ak;have Dk:=aHd Ha.o Ak aA;have e5:=Dk.cell;have f5:=Dk.frozen;have Hc:=Hd Dk;clear Ak Dk;gi_wp2_with fail;exact⟨((Nr.o.from _).trans (aSa Aj.o)).trans ((KeepsOthers.setCell _ _ _).from _),⟨rfl,.inr Jy.o⟩,Hc.o.set _,(Ny.o.trans (Aj.o.mono aA)).setCell (p:=⟨w.heap.size+1,0,none⟩) (Nat.le_succ _) _⟩
 case done=>
  rintro D ys W hD Om ⟨⟨⟨Hb,Ae⟩,Aq⟩,⟨Nm,Nj⟩,hB⟩ hK;have hcell:∀j,W.cell? ⟨w.heap.size,j,none⟩=(aJ x A ca B cb)[j]?:=fun j=>by simp only[World.cell?,Aq];rfl
  obtain⟨q0,q1,q2,q3,q4,q5⟩:=Sx hcell;unfold aJ at q0 q1 q2 q3 q4 q5;have Oh:=Hd (Ob.o W hB);have Nx:=Hd (bOp Om (by rw[aNw];exact Nm) Nj);have Ns:=Hb.lt;have Oj:=(Ym.1 hK).1;clear hcell;gi_wp2_with fail;refine⟨trivial,(callsIn_wide.2 Oh.o).mono ?_⟩;rintro e w3 ⟨rfl,Ak⟩;have Dk:=aHd Hb Ak Ns;have e5:=Dk.cell;have f5:=Dk.frozen;have Hc:=Hd Dk;have Aj:=Hd (hB.tr Ak);have Ok:=(Ak.block D Oj).trans hK;clear Ak Dk q0 q1 q2 q3 q4 q5;gi_wp2_with fail;have Od:=(KeepsOthers.setCell w3 ⟨w.heap.size+1,0,none⟩ (.bool (decide ((gC x:Int)<=12)))).same D _ Ok rfl;have k1:=((Hc.o.set (.bool (decide ((gC x:Int)<=12)))).kept (grownBy_putObj' _ D (.deferred none)) (fun e=>by cases e;omega)).cell;refine⟨by simp,.inl ⟨_,_,rfl,run_takeDeferred Od,?_⟩⟩;refine⟨.bool (decide ((gC x:Int)<=12)),?_,by rw[Nx.o],(Aj.o.setCell (p:=⟨w.heap.size+1,0,none⟩) (Nat.le_succ _) _).trans (belowK_b (w:=w) (Yh _) _ D _ _ aA Od rfl rfl)⟩;simp[results,Tryz.f166,go_sem,k1]
 case stop=>
  rintro D c Aa W hD Nl ⟨⟨rfl,Ap⟩,hb,hB⟩ hK;have Nx:=Hd (show bJ x=false from Ap.elim (fun h=>bLy Nl h) (fun⟨z,hz,h⟩=>bOo Nl hz h));have Ns:=hb.lt;gi_wp2_with fail;have k1:=(hb.kept (grownBy_putObj' _ D (.deferred none)) (fun e=>by cases e;omega)).cell;refine⟨by simp,.inl ⟨_,_,rfl,run_takeDeferred hK,?_⟩⟩;refine⟨.bool false,?_,by rw[Nx.o],hB.trans (belowK_b (w:=w) (Yh _) _ D _ _ aA hK rfl rfl)⟩;simp[results,Tryz.f166,go_sem,k1]
theorem aY2(x:Ex)(A:OA)(ca:Nat)(B:OA)(cb:Nat)(w:World)(hr:aM w x A B)(hs:aT x<=1000000)(Aa:∀p∈bP x,eS p):
 Calls Tryz.prog 166 #[.agg (aJ x A ca B cb)] w fun e w'=>e=.returned (.bool (bJ x))/\Below w.heap.size w w':=
 callsIn_wide.1 (bLz 6 (Yh _) x A ca B cb w hr hs Aa)
end
end Go.Proofs.YtagkcjpoipcpkaaGreatDoor
