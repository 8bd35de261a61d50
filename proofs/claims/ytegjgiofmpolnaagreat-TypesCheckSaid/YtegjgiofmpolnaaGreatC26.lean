/- Parts of the proof: EyG. Conditions: each theorem's own. -/
import Derived.Laws.Tables
import Derived.RangeFuncRecord
import Derived.Test.YtegjgiofmpolnaaGreatC25
namespace Go.Proofs.YtegjgiofmpolnaaGreat
set_option linter.unusedVariables false
set_option linter.unusedSimpArgs false
set_option maxRecDepth 100000
set_option maxHeartbeats 40000000
section
open Go.RowKit Go.Sort
def dM(k n:Int) (s:ByteArray) (op:Int) (A:Option Addr) (Aa ca:Nat) (h:Bool) (lo hi:Int):Array Value:=
 #[.int .i64 k,.int .i64 n,.string s,.int .i64 op,.slice A Aa ca,.slice none 0 0,.bool h,.int .i64 lo,.int .i64 hi]
theorem eP:(Tryz.prog.info? 143).map (·.size)=some 9:=by kernel_rfl
theorem eY{fn:Func}{p:Tmp}(h:fn.results=#[.cell p 143]) (tmps:Array Value) (w:World) (g:Nat) (cs:Array Value) (hs:cs.size=9)
 (hp:tmps.getD p undef=.pointer (some ⟨g,0,none⟩)) (hg:w.heap[g]?=some (Obj.cells cs 143)):(results fn tmps).run Tryz.prog w=.ok (.agg cs) w:=
 results_cell_row h tmps w g _ _ _ _ hp hg Tryz.underlying143 rfl (by rw [hs];exact eP)
theorem gU(w:World) (x:Ex) (A:Option Addr) (ca:Nat) (B:Option Addr) (cb:Nat) (w1:World) (h:(w.alloc (.cells (aE x A ca B cb) 35)).alloc (.cells (dM 0 0 ByteArray.empty 0 none 0 0 false 0 0) 143)=w1) (hr:aJ w x A B):
 Below w.heap.size w w1/\w.heap.size+1<w1.heap.size/\aJ w1 x A B/\(∀ w',Below w1.heap.size w1 w'->∀ j,w'.cell? ⟨w.heap.size,j,none⟩=(aE x A ca B cb)[j]?)/\w1.heap[w.heap.size+1]?=some (Obj.cells (dM 0 0 ByteArray.empty 0 none 0 0 false 0 0) 143):=by
 subst h;refine⟨((Yg _ _).alloc (Yh _) _).alloc (by simp) _,by simp,(hr.alloc _).alloc _,fun w' hb j=>?_,?_⟩
 . rw [hb.cell (p:=⟨w.heap.size,j,none⟩) (by simp;omega),Yj _ _ _ (by simp),Zo]
 . have:=World.alloc_heap_new (w.alloc (.cells (aE x A ca B cb) 35)) (.cells (dM 0 0 ByteArray.empty 0 none 0 0 false 0 0) 143);rwa [World.size_alloc] at this
def gN(w w':World) (e:Ending) (x:Ex):Prop:=∃ n s op A' arms Aa h lo hi,e=.returned (.agg (dM 0 n s op A' arms.length Aa h lo hi))/\aN w' A' arms.length arms/\gA x n s op arms h lo hi=bA x/\Below w.heap.size w w'
theorem aFh(n:Int) (w:World):Calls Tryz.prog 158 #[.int .i64 n] w fun e w'=>e=.returned (.bool (eE n))/\Below w.heap.size w w' :=
 (aS3 n w).mono fun e w' ⟨h1,h2⟩=>⟨h1,by rw [<- h2];exact Yg _ _⟩
theorem aDu{n:Int}(h:eE n=true):IntKind.i64.wrap (6+n)=6+n:=by
 unfold eE at h
 simp at h
 rcases h with rfl | rfl <;> first | decide | decide +kernel | (unfold wrap64;omega) | simp [wrap64]
variable (x:Ex) (A:Option Addr) (ca:Nat) (B:Option Addr) (cb:Nat) (w:World)
theorem aP9(hr:aJ w x A B) (Ac:cL x) (hk:x.k=1):
 Calls Tryz.prog 113 #[.agg (aE x A ca B cb)] w fun e w'=>gN w w' e x:=by
 have HF:=Hd fun w1 h=>gU w x A ca B cb w1 h hr;have Ai:=Hd fun w2 (h:Below w.heap.size w w2)=>(hr.below h).arms;have Ak:=Ai;have Ag:=Hd fun(m:Int) w2 (h:Below w.heap.size w w2)=>gY A x.arms.length ca m x.arms w2 (hr.below h).arms Ac.2.1 Ac.2.2;have Am:=hr.subs.max;have Al:=Ac.1;clear hr;unfold aE at HF ⊢;unfold dM at HF;rw [hk] at HF ⊢
 go_enter Tryz.func113,Tryz.ntmps113
 go_upto_region 1 with(fail)
 generalize Ae:(w.alloc _).alloc _=w1;obtain⟨Ad,hg,Ah,Aa,Ab⟩:=HF.o w1 Ae;have Aj:=Hd Ad;have Af:=Hd Ab;have q0:=Aa w1 (Yg _ _) 0;have q1:=Aa w1 (Yg _ _) 1;clear Aa Ab Ad Ah Ae HF
 go_wp2_with (refine wpList_store_row rfl _ _ _ rfl (w.heap.size+1) _ rfl rfl _ _ Af.o eP rfl (by simp [Value.oneCell']) ?_)
 exact Zt (eY rfl _ _ (w.heap.size+1) _ rfl rfl (Xc _ _ _ _ _ _ Af.o)) rfl ⟨x.n,ByteArray.empty,0,none,[],0,_,0,0,rfl,aN.nil_ _,aS5 x hk,Xb Aj.o (Nat.le_succ _) _⟩
theorem aQa(hr:aJ w x A B) (Ag:cL x) (hk:x.k=2):
 Calls Tryz.prog 113 #[.agg (aE x A ca B cb)] w fun e w'=>gN w w' e x:=by
 have HF:=Hd fun w1 h=>gU w x A ca B cb w1 h hr;have Ao:=Hd fun w2 (h:Below w.heap.size w w2)=>(hr.below h).arms;have Ap:=Ao;have Al:=Hd fun(m:Int) w2 (h:Below w.heap.size w w2)=>gY A x.arms.length ca m x.arms w2 (hr.below h).arms Ag.2.1 Ag.2.2;have Ar:=hr.subs.max;have Aq:=Ag.1;clear hr;unfold aE at HF ⊢;unfold dM at HF;rw [hk] at HF ⊢
 go_enter Tryz.func113,Tryz.ntmps113
 go_upto_region 1 with(fail)
 generalize Ai:(w.alloc _).alloc _=w1;obtain⟨Ah,hg,An,Aa,Ab⟩:=HF.o w1 Ai;have Ac:=Hd Ah;have Ad:=Hd Ab;have q0:=Aa w1 (Yg _ _) 0;have q1:=Aa w1 (Yg _ _) 1;clear Aa Ab Ah An Ai HF
 go_wp2_with fail
 have Ak:=Hd fun d os=>Ac.o.trans ((Zs w1 d os).mono Ac.o.size);have Aj:=Hd fun d os=>((Zs w1 d os).block _ hg).trans Ad.o;have l0:=fun d os=>cell_regrown q0 d os;have l1:=fun d os=>cell_regrown q1 d os;have cA:=fun d os=>Calls.regrown_of (aFh x.n (grow (redrawn w1 d) os));refine iV (l1:=[_,_,_,_,_,_,_]) (l2:=[_]) (by kernel_rfl) (by kernel_rfl) (by kernel_rfl) (by kernel_rfl) (by kernel_rfl) ?_
 repeat (quiet_step (first | exact cA _ _))
 refine wpQuiet_nil ?_;intro _ Am;obtain⟨⟨dq,Af⟩,Ae⟩:=Am;subst Ae;replace Ac:=Hd (Ak.o dq Af);replace Ad:=Hd (Aj.o dq Af);clear q0 q1 l0 l1 cA Ak Aj;generalize grow (redrawn w1 dq) Af=wq at *
 go_wp2_with (refine wpList_store_row rfl _ _ _ rfl (w.heap.size+1) _ rfl rfl _ _ Ad.o eP rfl (by simp [Value.oneCell']) ?_)
 exact Zt (eY rfl _ _ (w.heap.size+1) _ rfl rfl (Xc _ _ _ _ _ _ Ad.o)) rfl ⟨x.n,ByteArray.empty,0,none,[],0,_,0,0,rfl,aN.nil_ _,aS6 x hk,Xb Ac.o (Nat.le_succ _) _⟩
theorem aQb(hr:aJ w x A B) (Ag:cL x) (hk:x.k=3):
 Calls Tryz.prog 113 #[.agg (aE x A ca B cb)] w fun e w'=>gN w w' e x:=by
 have HF:=Hd fun w1 h=>gU w x A ca B cb w1 h hr;have Ao:=Hd fun w2 (h:Below w.heap.size w w2)=>(hr.below h).arms;have Ap:=Ao;have Al:=Hd fun(m:Int) w2 (h:Below w.heap.size w w2)=>gY A x.arms.length ca m x.arms w2 (hr.below h).arms Ag.2.1 Ag.2.2;have Ar:=hr.subs.max;have Aq:=Ag.1;clear hr;unfold aE at HF ⊢;unfold dM at HF;rw [hk] at HF ⊢
 go_enter Tryz.func113,Tryz.ntmps113
 go_upto_region 1 with(fail)
 generalize Ai:(w.alloc _).alloc _=w1;obtain⟨Ah,hg,An,Aa,Ab⟩:=HF.o w1 Ai;have Ac:=Hd Ah;have Ad:=Hd Ab;have q0:=Aa w1 (Yg _ _) 0;have q2:=Aa w1 (Yg _ _) 2;clear Aa Ab Ah An Ai HF
 go_wp2_with fail
 have Ak:=Hd fun d os=>Ac.o.trans ((Zs w1 d os).mono Ac.o.size);have Aj:=Hd fun d os=>((Zs w1 d os).block _ hg).trans Ad.o;have l0:=fun d os=>cell_regrown q0 d os;have l2:=fun d os=>cell_regrown q2 d os;have cA:=fun d os=>Calls.regrown_of (iG x.s (grow (redrawn w1 d) os) (by omega));refine iV (l1:=[_,_,_,_,_,_,_]) (l2:=[_]) (by kernel_rfl) (by kernel_rfl) (by kernel_rfl) (by kernel_rfl) (by kernel_rfl) ?_
 repeat (quiet_step (first | exact cA _ _))
 refine wpQuiet_nil ?_;intro _ Am;obtain⟨⟨dq,Af⟩,Ae⟩:=Am;subst Ae;replace Ac:=Hd (Ak.o dq Af);replace Ad:=Hd (Aj.o dq Af);clear q0 q2 l0 l2 cA Ak Aj;generalize grow (redrawn w1 dq) Af=wq at *
 go_wp2_with (refine wpList_store_row rfl _ _ _ rfl (w.heap.size+1) _ rfl rfl _ _ Ad.o eP rfl (by simp [Value.oneCell']) ?_)
 exact Zt (eY rfl _ _ (w.heap.size+1) _ rfl rfl (Xc _ _ _ _ _ _ Ad.o)) rfl ⟨0,x.s,0,none,[],0,_,0,0,rfl,aN.nil_ _,aS7 x hk,Xb Ac.o (Nat.le_succ _) _⟩
theorem aQc(hr:aJ w x A B) (Ag:cL x) (hk:x.k=4):
 Calls Tryz.prog 113 #[.agg (aE x A ca B cb)] w fun e w'=>gN w w' e x:=by
 have HF:=Hd fun w1 h=>gU w x A ca B cb w1 h hr;have Ao:=Hd fun w2 (h:Below w.heap.size w w2)=>(hr.below h).arms;have Ap:=Ao;have Al:=Hd fun(m:Int) w2 (h:Below w.heap.size w w2)=>gY A x.arms.length ca m x.arms w2 (hr.below h).arms Ag.2.1 Ag.2.2;have Ar:=hr.subs.max;have Aq:=Ag.1;clear hr;unfold aE at HF ⊢;unfold dM at HF;rw [hk] at HF ⊢
 go_enter Tryz.func113,Tryz.ntmps113
 go_upto_region 1 with(fail)
 generalize Ai:(w.alloc _).alloc _=w1;obtain⟨Ah,hg,An,Aa,Ab⟩:=HF.o w1 Ai;have Ac:=Hd Ah;have Ad:=Hd Ab;have q0:=Aa w1 (Yg _ _) 0;have q2:=Aa w1 (Yg _ _) 2;clear Aa Ab Ah An Ai HF
 go_wp2_with fail
 have Ak:=Hd fun d os=>Ac.o.trans ((Zs w1 d os).mono Ac.o.size);have Aj:=Hd fun d os=>((Zs w1 d os).block _ hg).trans Ad.o;have l0:=fun d os=>cell_regrown q0 d os;have l2:=fun d os=>cell_regrown q2 d os;have cA:=fun d os=>Calls.regrown_of (sA x.s (grow (redrawn w1 d) os) (by omega));refine iV (l1:=[_,_,_,_,_,_,_]) (l2:=[_]) (by kernel_rfl) (by kernel_rfl) (by kernel_rfl) (by kernel_rfl) (by kernel_rfl) ?_
 repeat (quiet_step (first | exact cA _ _))
 refine wpQuiet_nil ?_;intro _ Am;obtain⟨⟨dq,Af⟩,Ae⟩:=Am;subst Ae;replace Ac:=Hd (Ak.o dq Af);replace Ad:=Hd (Aj.o dq Af);clear q0 q2 l0 l2 cA Ak Aj;generalize grow (redrawn w1 dq) Af=wq at *
 go_wp2_with (refine wpList_store_row rfl _ _ _ rfl (w.heap.size+1) _ rfl rfl _ _ Ad.o eP rfl (by simp [Value.oneCell']) ?_)
 exact Zt (eY rfl _ _ (w.heap.size+1) _ rfl rfl (Xc _ _ _ _ _ _ Ad.o)) rfl ⟨0,x.s,0,none,[],0,_,0,0,rfl,aN.nil_ _,aS8 x hk,Xb Ac.o (Nat.le_succ _) _⟩
theorem aNj(hr:aJ w x A B) (Ag:cL x) (hk:x.k=17):
 Calls Tryz.prog 113 #[.agg (aE x A ca B cb)] w fun e w'=>gN w w' e x:=by
 have HF:=Hd fun w1 h=>gU w x A ca B cb w1 h hr;have Ao:=Hd fun w2 (h:Below w.heap.size w w2)=>(hr.below h).arms;have Ap:=Ao;have Al:=Hd fun(m:Int) w2 (h:Below w.heap.size w w2)=>gY A x.arms.length ca m x.arms w2 (hr.below h).arms Ag.2.1 Ag.2.2;have Ar:=hr.subs.max;have Aq:=Ag.1;clear hr;unfold aE at HF ⊢;unfold dM at HF;rw [hk] at HF ⊢
 go_enter Tryz.func113,Tryz.ntmps113
 go_upto_region 1 with(fail)
 generalize Ai:(w.alloc _).alloc _=w1;obtain⟨Ah,hg,An,Aa,Ab⟩:=HF.o w1 Ai;have Ac:=Hd Ah;have Ad:=Hd Ab;have q0:=Aa w1 (Yg _ _) 0;have q2:=Aa w1 (Yg _ _) 2;clear Aa Ab Ah An Ai HF
 go_wp2_with fail
 have Ak:=Hd fun d os=>Ac.o.trans ((Zs w1 d os).mono Ac.o.size);have Aj:=Hd fun d os=>((Zs w1 d os).block _ hg).trans Ad.o;have l0:=fun d os=>cell_regrown q0 d os;have l2:=fun d os=>cell_regrown q2 d os;have cA:=fun d os=>Calls.regrown_of (aRi x.s (grow (redrawn w1 d) os) (by omega));refine iV (l1:=[_,_,_,_,_,_,_]) (l2:=[_]) (by kernel_rfl) (by kernel_rfl) (by kernel_rfl) (by kernel_rfl) (by kernel_rfl) ?_
 repeat (quiet_step (first | exact cA _ _))
 refine wpQuiet_nil ?_;intro _ Am;obtain⟨⟨dq,Af⟩,Ae⟩:=Am;subst Ae;replace Ac:=Hd (Ak.o dq Af);replace Ad:=Hd (Aj.o dq Af);clear q0 q2 l0 l2 cA Ak Aj;generalize grow (redrawn w1 dq) Af=wq at *
 go_wp2_with (refine wpList_store_row rfl _ _ _ rfl (w.heap.size+1) _ rfl rfl _ _ Ad.o eP rfl (by simp [Value.oneCell']) ?_)
 exact Zt (eY rfl _ _ (w.heap.size+1) _ rfl rfl (Xc _ _ _ _ _ _ Ad.o)) rfl ⟨0,x.s,0,none,[],0,_,0,0,rfl,aN.nil_ _,aR6 x hk,Xb Ac.o (Nat.le_succ _) _⟩
theorem aQd(hr:aJ w x A B) (Af:cL x) (hk:x.k=5):
 Calls Tryz.prog 113 #[.agg (aE x A ca B cb)] w fun e w'=>gN w w' e x:=by
 have HF:=Hd fun w1 h=>gU w x A ca B cb w1 h hr;have Ak:=Hd fun w2 (h:Below w.heap.size w w2)=>(hr.below h).arms;have Al:=Ak;have Aj:=Hd fun(m:Int) w2 (h:Below w.heap.size w w2)=>gY A x.arms.length ca m x.arms w2 (hr.below h).arms Af.2.1 Af.2.2;have An:=hr.subs.max;have Am:=Af.1;clear hr;unfold aE at HF ⊢;unfold dM at HF;rw [hk] at HF ⊢
 cases Ai:decide (1<=x.op) with
 | false=>
  have HE:=aFy x hk;rw [Ai,Bool.false_and] at HE
  go_enter Tryz.func113,Tryz.ntmps113
  go_upto_region 1 with(fail)
  generalize Ad:(w.alloc _).alloc _=w1;obtain⟨Ac,hg,Ag,Aa,Ab⟩:=HF.o w1 Ad;have Ah:=Hd Ac;have Ae:=Hd Ab;have q0:=Aa w1 (Yg _ _) 0;have q3:=Aa w1 (Yg _ _) 3;clear Aa Ab Ac Ag Ad HF
  go_wp2_with (refine wpList_store_row rfl _ _ _ rfl (w.heap.size+1) _ rfl rfl _ _ Ae.o eP rfl (by simp [Value.oneCell']) ?_)
  exact Zt (eY rfl _ _ (w.heap.size+1) _ rfl rfl (Xc _ _ _ _ _ _ Ae.o)) rfl ⟨0,ByteArray.empty,x.op,none,[],0,_,1,1,rfl,aN.nil_ _,HE,Xb Ah.o (Nat.le_succ _) _⟩
 | true=>
  have HE:=aFy x hk;rw [Ai,Bool.true_and] at HE
  go_enter Tryz.func113,Tryz.ntmps113
  go_upto_region 1 with(fail)
  generalize Ad:(w.alloc _).alloc _=w1;obtain⟨Ac,hg,Ag,Aa,Ab⟩:=HF.o w1 Ad;have Ah:=Hd Ac;have Ae:=Hd Ab;have q0:=Aa w1 (Yg _ _) 0;have q3:=Aa w1 (Yg _ _) 3;clear Aa Ab Ac Ag Ad HF
  go_wp2_with (refine wpList_store_row rfl _ _ _ rfl (w.heap.size+1) _ rfl rfl _ _ Ae.o eP rfl (by simp [Value.oneCell']) ?_)
  exact Zt (eY rfl _ _ (w.heap.size+1) _ rfl rfl (Xc _ _ _ _ _ _ Ae.o)) rfl ⟨0,ByteArray.empty,x.op,none,[],0,_,1,1,rfl,aN.nil_ _,HE,Xb Ah.o (Nat.le_succ _) _⟩
theorem aQe(hr:aJ w x A B) (Af:cL x) (hk:x.k=6):
 Calls Tryz.prog 113 #[.agg (aE x A ca B cb)] w fun e w'=>gN w w' e x:=by
 have HF:=Hd fun w1 h=>gU w x A ca B cb w1 h hr;have Ak:=Hd fun w2 (h:Below w.heap.size w w2)=>(hr.below h).arms;have Al:=Ak;have Aj:=Hd fun(m:Int) w2 (h:Below w.heap.size w w2)=>gY A x.arms.length ca m x.arms w2 (hr.below h).arms Af.2.1 Af.2.2;have An:=hr.subs.max;have Am:=Af.1;clear hr;unfold aE at HF ⊢;unfold dM at HF;rw [hk] at HF ⊢
 cases Ai:decide (3<=x.op) with
 | false=>
  have HE:=aFz x hk;rw [Ai,Bool.false_and] at HE
  go_enter Tryz.func113,Tryz.ntmps113
  go_upto_region 1 with(fail)
  generalize Ad:(w.alloc _).alloc _=w1;obtain⟨Ac,hg,Ag,Aa,Ab⟩:=HF.o w1 Ad;have Ah:=Hd Ac;have Ae:=Hd Ab;have q0:=Aa w1 (Yg _ _) 0;have q3:=Aa w1 (Yg _ _) 3;clear Aa Ab Ac Ag Ad HF
  go_wp2_with (refine wpList_store_row rfl _ _ _ rfl (w.heap.size+1) _ rfl rfl _ _ Ae.o eP rfl (by simp [Value.oneCell']) ?_)
  exact Zt (eY rfl _ _ (w.heap.size+1) _ rfl rfl (Xc _ _ _ _ _ _ Ae.o)) rfl ⟨0,ByteArray.empty,x.op,none,[],0,_,2,2,rfl,aN.nil_ _,HE,Xb Ah.o (Nat.le_succ _) _⟩
 | true=>
  have HE:=aFz x hk;rw [Ai,Bool.true_and] at HE
  go_enter Tryz.func113,Tryz.ntmps113
  go_upto_region 1 with(fail)
  generalize Ad:(w.alloc _).alloc _=w1;obtain⟨Ac,hg,Ag,Aa,Ab⟩:=HF.o w1 Ad;have Ah:=Hd Ac;have Ae:=Hd Ab;have q0:=Aa w1 (Yg _ _) 0;have q3:=Aa w1 (Yg _ _) 3;clear Aa Ab Ac Ag Ad HF
  go_wp2_with (refine wpList_store_row rfl _ _ _ rfl (w.heap.size+1) _ rfl rfl _ _ Ae.o eP rfl (by simp [Value.oneCell']) ?_)
  exact Zt (eY rfl _ _ (w.heap.size+1) _ rfl rfl (Xc _ _ _ _ _ _ Ae.o)) rfl ⟨0,ByteArray.empty,x.op,none,[],0,_,2,2,rfl,aN.nil_ _,HE,Xb Ah.o (Nat.le_succ _) _⟩
theorem aQf(hr:aJ w x A B) (Ac:cL x) (hk:x.k=7):
 Calls Tryz.prog 113 #[.agg (aE x A ca B cb)] w fun e w'=>gN w w' e x:=by
 have HF:=Hd fun w1 h=>gU w x A ca B cb w1 h hr;have Ai:=Hd fun w2 (h:Below w.heap.size w w2)=>(hr.below h).arms;have Ak:=Ai;have Ag:=Hd fun(m:Int) w2 (h:Below w.heap.size w w2)=>gY A x.arms.length ca m x.arms w2 (hr.below h).arms Ac.2.1 Ac.2.2;have Am:=hr.subs.max;have Al:=Ac.1;clear hr;unfold aE at HF ⊢;unfold dM at HF;rw [hk] at HF ⊢
 go_enter Tryz.func113,Tryz.ntmps113
 go_upto_region 1 with(fail)
 generalize Ae:(w.alloc _).alloc _=w1;obtain⟨Ad,hg,Ah,Aa,Ab⟩:=HF.o w1 Ae;have Aj:=Hd Ad;have Af:=Hd Ab;have q0:=Aa w1 (Yg _ _) 0;clear Aa Ab Ad Ah Ae HF
 go_wp2_with (refine wpList_store_row rfl _ _ _ rfl (w.heap.size+1) _ rfl rfl _ _ Af.o eP rfl (by simp [Value.oneCell']) ?_)
 exact Zt (eY rfl _ _ (w.heap.size+1) _ rfl rfl (Xc _ _ _ _ _ _ Af.o)) rfl ⟨0,ByteArray.empty,0,none,[],0,_,3,3,rfl,aN.nil_ _,aS9 x hk,Xb Aj.o (Nat.le_succ _) _⟩
theorem aNk(hr:aJ w x A B) (Ac:cL x) (hk:x.k=16):
 Calls Tryz.prog 113 #[.agg (aE x A ca B cb)] w fun e w'=>gN w w' e x:=by
 have HF:=Hd fun w1 h=>gU w x A ca B cb w1 h hr;have Ai:=Hd fun w2 (h:Below w.heap.size w w2)=>(hr.below h).arms;have Ak:=Ai;have Ag:=Hd fun(m:Int) w2 (h:Below w.heap.size w w2)=>gY A x.arms.length ca m x.arms w2 (hr.below h).arms Ac.2.1 Ac.2.2;have Am:=hr.subs.max;have Al:=Ac.1;clear hr;unfold aE at HF ⊢;unfold dM at HF;rw [hk] at HF ⊢
 go_enter Tryz.func113,Tryz.ntmps113
 go_upto_region 1 with(fail)
 generalize Ae:(w.alloc _).alloc _=w1;obtain⟨Ad,hg,Ah,Aa,Ab⟩:=HF.o w1 Ae;have Aj:=Hd Ad;have Af:=Hd Ab;have q0:=Aa w1 (Yg _ _) 0;clear Aa Ab Ad Ah Ae HF
 go_wp2_with (refine wpList_store_row rfl _ _ _ rfl (w.heap.size+1) _ rfl rfl _ _ Af.o eP rfl (by simp [Value.oneCell']) ?_)
 exact Zt (eY rfl _ _ (w.heap.size+1) _ rfl rfl (Xc _ _ _ _ _ _ Af.o)) rfl ⟨0,ByteArray.empty,0,none,[],0,_,3,3,rfl,aN.nil_ _,aR7 x hk,Xb Aj.o (Nat.le_succ _) _⟩
theorem aQg(hr:aJ w x A B) (Ai:cL x) (hk:x.k=8):
 Calls Tryz.prog 113 #[.agg (aE x A ca B cb)] w fun e w'=>gN w w' e x:=by
 have HF:=Hd fun w1 h=>gU w x A ca B cb w1 h hr;have Ar:=Hd fun w2 (h:Below w.heap.size w w2)=>(hr.below h).arms;have Av:=Ar;have Ao:=Hd fun(m:Int) w2 (h:Below w.heap.size w w2)=>gY A x.arms.length ca m x.arms w2 (hr.below h).arms Ai.2.1 Ai.2.2;have Ax:=hr.subs.max;have Aw:=Ai.1;clear hr;unfold aE at HF ⊢;unfold dM at HF;rw [hk] at HF ⊢
 by_cases hn:0<x.subs.length
 . have HE:=aF0 x hk;have hd:decide (0<(x.subs.length:Int))=true:=Zx (by omega);rw [hd,Bool.true_and] at HE
   go_enter Tryz.func113,Tryz.ntmps113
   go_upto_region 1 with(fail)
   generalize Af:(w.alloc _).alloc _=w1;obtain⟨Ae,hg,Ag,Aa,Ab⟩:=HF.o w1 Af;have Ac:=Hd Ae;have Ad:=Hd Ab;have q0:=Aa w1 (Yg _ _) 0;have q5:=Aa w1 (Yg _ _) 5;obtain⟨b,Au,Aq,hb,Am⟩:=Ag.sub (i:=0) hn;subst Aq;obtain⟨A',As,B',Ap,Aj,Al⟩:=Am 0 hn;rw [Nat.zero_mul,Nat.add_zero] at Aj;obtain⟨d0,d1,d2,d3,d4,d5⟩:=eG Aj;have An:=Hd (uJ (aU x 0) A' As B' Ap w1 Al);have Ak:=Hd fun w2 (h:Below w1.heap.size w1 w2)=>(h.block _ hg).trans Ab;unfold aE at An;clear Am Aj Al;clear Aa Ab Ae Ag Af HF
   go_wp2_with fail
   refine An.o.mono ?_;rintro r w2 ⟨rfl,Ah⟩;replace Ad:=Hd (Ak.o w2 Ah);replace Ac:=Hd (Ac.o.trans (Ah.mono Ac.o.size));clear Ah Ak
   go_wp2_with (refine wpList_store_row rfl _ _ _ rfl (w.heap.size+1) _ rfl rfl _ _ Ad.o eP rfl (by simp [Value.oneCell']) ?_)
   exact Zt (eY rfl _ _ (w.heap.size+1) _ rfl rfl (Xc _ _ _ _ _ _ Ad.o)) rfl ⟨0,ByteArray.empty,0,none,[],0,_,2,2,rfl,aN.nil_ _,HE,Xb Ac.o (Nat.le_succ _) _⟩
 . have HE:=aF0 x hk;have hd:decide (0<(x.subs.length:Int))=false:=Zy (by omega);rw [hd,Bool.false_and] at HE
   go_enter Tryz.func113,Tryz.ntmps113
   go_upto_region 1 with(fail)
   generalize Af:(w.alloc _).alloc _=w1;obtain⟨Ae,hg,Ag,Aa,Ab⟩:=HF.o w1 Af;have Ac:=Hd Ae;have Ad:=Hd Ab;have q0:=Aa w1 (Yg _ _) 0;have q5:=Aa w1 (Yg _ _) 5;clear Aa Ab Ae Ag Af HF
   go_wp2_with (refine wpList_store_row rfl _ _ _ rfl (w.heap.size+1) _ rfl rfl _ _ Ad.o eP rfl (by simp [Value.oneCell']) ?_)
   exact Zt (eY rfl _ _ (w.heap.size+1) _ rfl rfl (Xc _ _ _ _ _ _ Ad.o)) rfl ⟨0,ByteArray.empty,0,none,[],0,_,2,2,rfl,aN.nil_ _,HE,Xb Ac.o (Nat.le_succ _) _⟩
theorem aQh(hr:aJ w x A B) (Ac:cL x) (hk:x.k=9):
 Calls Tryz.prog 113 #[.agg (aE x A ca B cb)] w fun e w'=>gN w w' e x:=by
 have HF:=Hd fun w1 h=>gU w x A ca B cb w1 h hr;have Ai:=Hd fun w2 (h:Below w.heap.size w w2)=>(hr.below h).arms;have Ak:=Ai;have Ag:=Hd fun(m:Int) w2 (h:Below w.heap.size w w2)=>gY A x.arms.length ca m x.arms w2 (hr.below h).arms Ac.2.1 Ac.2.2;have Am:=hr.subs.max;have Al:=Ac.1;clear hr;unfold aE at HF ⊢;unfold dM at HF;rw [hk] at HF ⊢
 go_enter Tryz.func113,Tryz.ntmps113
 go_upto_region 1 with(fail)
 generalize Ae:(w.alloc _).alloc _=w1;obtain⟨Ad,hg,Ah,Aa,Ab⟩:=HF.o w1 Ae;have Aj:=Hd Ad;have Af:=Hd Ab;have q0:=Aa w1 (Yg _ _) 0;clear Aa Ab Ad Ah Ae HF
 go_wp2_with (refine wpList_store_row rfl _ _ _ rfl (w.heap.size+1) _ rfl rfl _ _ Af.o eP rfl (by simp [Value.oneCell']) ?_)
 exact Zt (eY rfl _ _ (w.heap.size+1) _ rfl rfl (Xc _ _ _ _ _ _ Af.o)) rfl ⟨0,ByteArray.empty,0,none,[],0,_,2,2,rfl,aN.nil_ _,aTa x hk,Xb Aj.o (Nat.le_succ _) _⟩
theorem aNl(hr:aJ w x A B) (Ac:cL x) (hk:x.k=15):
 Calls Tryz.prog 113 #[.agg (aE x A ca B cb)] w fun e w'=>gN w w' e x:=by
 have HF:=Hd fun w1 h=>gU w x A ca B cb w1 h hr;have Ai:=Hd fun w2 (h:Below w.heap.size w w2)=>(hr.below h).arms;have Ak:=Ai;have Ag:=Hd fun(m:Int) w2 (h:Below w.heap.size w w2)=>gY A x.arms.length ca m x.arms w2 (hr.below h).arms Ac.2.1 Ac.2.2;have Am:=hr.subs.max;have Al:=Ac.1;clear hr;unfold aE at HF ⊢;unfold dM at HF;rw [hk] at HF ⊢
 go_enter Tryz.func113,Tryz.ntmps113
 go_upto_region 1 with(fail)
 generalize Ae:(w.alloc _).alloc _=w1;obtain⟨Ad,hg,Ah,Aa,Ab⟩:=HF.o w1 Ae;have Aj:=Hd Ad;have Af:=Hd Ab;have q0:=Aa w1 (Yg _ _) 0;clear Aa Ab Ad Ah Ae HF
 go_wp2_with (refine wpList_store_row rfl _ _ _ rfl (w.heap.size+1) _ rfl rfl _ _ Af.o eP rfl (by simp [Value.oneCell']) ?_)
 exact Zt (eY rfl _ _ (w.heap.size+1) _ rfl rfl (Xc _ _ _ _ _ _ Af.o)) rfl ⟨0,ByteArray.empty,0,none,[],0,_,2,2,rfl,aN.nil_ _,aR8 x hk,Xb Aj.o (Nat.le_succ _) _⟩
theorem aNm(hr:aJ w x A B) (Ac:cL x) (hk:x.k=10):
 Calls Tryz.prog 113 #[.agg (aE x A ca B cb)] w fun e w'=>gN w w' e x:=by
 have HF:=Hd fun w1 h=>gU w x A ca B cb w1 h hr;have Ai:=Hd fun w2 (h:Below w.heap.size w w2)=>(hr.below h).arms;have Ak:=Ai;have Ag:=Hd fun(m:Int) w2 (h:Below w.heap.size w w2)=>gY A x.arms.length ca m x.arms w2 (hr.below h).arms Ac.2.1 Ac.2.2;have Am:=hr.subs.max;have Al:=Ac.1;clear hr;unfold aE at HF ⊢;unfold dM at HF;rw [hk] at HF ⊢
 go_enter Tryz.func113,Tryz.ntmps113
 go_upto_region 1 with(fail)
 generalize Ae:(w.alloc _).alloc _=w1;obtain⟨Ad,hg,Ah,Aa,Ab⟩:=HF.o w1 Ae;have Aj:=Hd Ad;have Af:=Hd Ab;have q0:=Aa w1 (Yg _ _) 0;clear Aa Ab Ad Ah Ae HF
 go_wp2_with (refine wpList_store_row rfl _ _ _ rfl (w.heap.size+1) _ rfl rfl _ _ Af.o eP rfl (by simp [Value.oneCell']) ?_)
 exact Zt (eY rfl _ _ (w.heap.size+1) _ rfl rfl (Xc _ _ _ _ _ _ Af.o)) rfl ⟨0,ByteArray.empty,0,none,[],0,_,1,1,rfl,aN.nil_ _,aR9 x hk,Xb Aj.o (Nat.le_succ _) _⟩
theorem aNn(hr:aJ w x A B) (Am:cL x) (hk:x.k=11):
 Calls Tryz.prog 113 #[.agg (aE x A ca B cb)] w fun e w'=>gN w w' e x:=by
 have HF:=Hd fun w1 h=>gU w x A ca B cb w1 h hr;have Ar:=Hd fun w2 (h:Below w.heap.size w w2)=>(hr.below h).arms;have Aq:=Ar;have An:=Hd fun(m:Int) w2 (h:Below w.heap.size w w2)=>gY A x.arms.length ca m x.arms w2 (hr.below h).arms Am.2.1 Am.2.2;have Au:=hr.subs.max;have As:=Am.1;clear hr;unfold aE at HF ⊢;unfold dM at HF;rw [hk] at HF ⊢
 cases Al:aX x.s.data.toList with
 | false=>
  have HE:=aFe x hk;rw [Al,Bool.false_and] at HE;have Ak:=Hd fun w1=>iG x.s w1 (by omega);rw [Al] at Ak
  go_enter Tryz.func113,Tryz.ntmps113
  go_upto_region 1 with(fail)
  generalize Ai:(w.alloc _).alloc _=w1;obtain⟨Ah,hg,Ap,Aa,Ac⟩:=HF.o w1 Ai;have Ab:=Hd Ah;have Ad:=Hd Ac;obtain⟨q0,-,q2,-,q4,-⟩:=Sx (Aa w1 (Yg _ _));clear Aa Ac Ah Ap Ai HF
  go_wp2_with fail
  have Ag:=Hd fun d os=>Ab.o.trans ((Zs w1 d os).mono Ab.o.size);have Aj:=Hd fun d os=>((Zs w1 d os).block _ hg).trans Ad.o;have l0:=fun d os=>cell_regrown q0 d os;have l2:=fun d os=>cell_regrown q2 d os;have l4:=fun d os=>cell_regrown q4 d os;have cA:=fun d os=>Calls.regrown_of (Ak.o (grow (redrawn w1 d) os));refine iV (l1:=[_,_,_,_,_,_,_,_,_,_,_,_,_,_]) (l2:=[_]) (by kernel_rfl) (by kernel_rfl) (by kernel_rfl) (by kernel_rfl) (by kernel_rfl) ?_
  repeat (quiet_step (first | exact cA _ _))
  refine wpQuiet_nil ?_;intro _ Ao;obtain⟨⟨dq,Af⟩,Ae⟩:=Ao;subst Ae;replace Ab:=Hd (Ag.o dq Af);replace Ad:=Hd (Aj.o dq Af);clear q0 q2 q4 l0 l2 l4 cA Ag Aj;generalize grow (redrawn w1 dq) Af=wq at *
  go_wp2_with (refine wpList_store_row rfl _ _ _ rfl (w.heap.size+1) _ rfl rfl _ _ Ad.o eP rfl (by simp [Value.oneCell']) ?_)
  exact Zt (eY rfl _ _ (w.heap.size+1) _ rfl rfl (Xc _ _ _ _ _ _ Ad.o)) rfl ⟨0,x.s,0,A,x.arms,ca,false,1,1,rfl,Aq.o _ (Xb Ab.o (Nat.le_succ _) _),HE,Xb Ab.o (Nat.le_succ _) _⟩
 | true=>
  have HE:=aFe x hk;rw [Al,Bool.true_and] at HE;have Ak:=Hd fun w1=>iG x.s w1 (by omega);rw [Al] at Ak
  go_enter Tryz.func113,Tryz.ntmps113
  go_upto_region 1 with(fail)
  generalize Ai:(w.alloc _).alloc _=w1;obtain⟨Ah,hg,Ap,Aa,Ac⟩:=HF.o w1 Ai;have Ab:=Hd Ah;have Ad:=Hd Ac;obtain⟨q0,-,q2,-,q4,-⟩:=Sx (Aa w1 (Yg _ _));clear Aa Ac Ah Ap Ai HF
  go_wp2_with fail
  have Ag:=Hd fun d os=>Ab.o.trans ((Zs w1 d os).mono Ab.o.size);have Aj:=Hd fun d os=>((Zs w1 d os).block _ hg).trans Ad.o;have l0:=fun d os=>cell_regrown q0 d os;have l2:=fun d os=>cell_regrown q2 d os;have l4:=fun d os=>cell_regrown q4 d os;have cA:=fun d os=>Calls.regrown_of (Ak.o (grow (redrawn w1 d) os));have cB:=fun d os=>Calls.regrown_of (An.o 1 (grow (redrawn w1 d) os) (Ag.o d os));refine iV (l1:=[_,_,_,_,_,_,_,_,_,_,_,_,_,_]) (l2:=[_]) (by kernel_rfl) (by kernel_rfl) (by kernel_rfl) (by kernel_rfl) (by kernel_rfl) ?_
  repeat (quiet_step (first | exact cA _ _ | exact cB _ _))
  refine wpQuiet_nil ?_;intro _ Ao;obtain⟨⟨dq,Af⟩,Ae⟩:=Ao;subst Ae;replace Ab:=Hd (Ag.o dq Af);replace Ad:=Hd (Aj.o dq Af);clear q0 q2 q4 l0 l2 l4 cA cB Ag Aj;generalize grow (redrawn w1 dq) Af=wq at *
  go_wp2_with (refine wpList_store_row rfl _ _ _ rfl (w.heap.size+1) _ rfl rfl _ _ Ad.o eP rfl (by simp [Value.oneCell']) ?_)
  exact Zt (eY rfl _ _ (w.heap.size+1) _ rfl rfl (Xc _ _ _ _ _ _ Ad.o)) rfl ⟨0,x.s,0,A,x.arms,ca,_,1,1,rfl,Aq.o _ (Xb Ab.o (Nat.le_succ _) _),HE,Xb Ab.o (Nat.le_succ _) _⟩
theorem aNo(hr:aJ w x A B) (Am:cL x) (hk:x.k=12):
 Calls Tryz.prog 113 #[.agg (aE x A ca B cb)] w fun e w'=>gN w w' e x:=by
 have HF:=Hd fun w1 h=>gU w x A ca B cb w1 h hr;have Ar:=Hd fun w2 (h:Below w.heap.size w w2)=>(hr.below h).arms;have Aq:=Ar;have An:=Hd fun(m:Int) w2 (h:Below w.heap.size w w2)=>gY A x.arms.length ca m x.arms w2 (hr.below h).arms Am.2.1 Am.2.2;have Au:=hr.subs.max;have As:=Am.1;clear hr;unfold aE at HF ⊢;unfold dM at HF;rw [hk] at HF ⊢
 cases Al:aX x.s.data.toList with
 | false=>
  have HE:=aFf x hk;rw [Al,Bool.false_and] at HE;have Ak:=Hd fun w1=>iG x.s w1 (by omega);rw [Al] at Ak
  go_enter Tryz.func113,Tryz.ntmps113
  go_upto_region 1 with(fail)
  generalize Ai:(w.alloc _).alloc _=w1;obtain⟨Ah,hg,Ap,Aa,Ac⟩:=HF.o w1 Ai;have Ab:=Hd Ah;have Ad:=Hd Ac;obtain⟨q0,-,q2,-,q4,-⟩:=Sx (Aa w1 (Yg _ _));clear Aa Ac Ah Ap Ai HF
  go_wp2_with fail
  have Ag:=Hd fun d os=>Ab.o.trans ((Zs w1 d os).mono Ab.o.size);have Aj:=Hd fun d os=>((Zs w1 d os).block _ hg).trans Ad.o;have l0:=fun d os=>cell_regrown q0 d os;have l2:=fun d os=>cell_regrown q2 d os;have l4:=fun d os=>cell_regrown q4 d os;have cA:=fun d os=>Calls.regrown_of (Ak.o (grow (redrawn w1 d) os));refine iV (l1:=[_,_,_,_,_,_,_,_,_,_,_,_,_,_,_,_]) (l2:=[_]) (by kernel_rfl) (by kernel_rfl) (by kernel_rfl) (by kernel_rfl) (by kernel_rfl) ?_
  repeat (quiet_step (first | exact cA _ _))
  refine wpQuiet_nil ?_;intro _ Ao;obtain⟨⟨dq,Af⟩,Ae⟩:=Ao;subst Ae;replace Ab:=Hd (Ag.o dq Af);replace Ad:=Hd (Aj.o dq Af);clear q0 q2 q4 l0 l2 l4 cA Ag Aj;generalize grow (redrawn w1 dq) Af=wq at *
  go_wp2_with (refine wpList_store_row rfl _ _ _ rfl (w.heap.size+1) _ rfl rfl _ _ Ad.o eP rfl (by simp [Value.oneCell']) ?_)
  exact Zt (eY rfl _ _ (w.heap.size+1) _ rfl rfl (Xc _ _ _ _ _ _ Ad.o)) rfl ⟨0,x.s,0,A,x.arms,ca,false,_,_,rfl,Aq.o _ (Xb Ab.o (Nat.le_succ _) _),HE,Xb Ab.o (Nat.le_succ _) _⟩
 | true=>
  have HE:=aFf x hk;rw [Al,Bool.true_and] at HE;have Ak:=Hd fun w1=>iG x.s w1 (by omega);rw [Al] at Ak
  go_enter Tryz.func113,Tryz.ntmps113
  go_upto_region 1 with(fail)
  generalize Ai:(w.alloc _).alloc _=w1;obtain⟨Ah,hg,Ap,Aa,Ac⟩:=HF.o w1 Ai;have Ab:=Hd Ah;have Ad:=Hd Ac;obtain⟨q0,-,q2,-,q4,-⟩:=Sx (Aa w1 (Yg _ _));clear Aa Ac Ah Ap Ai HF
  go_wp2_with fail
  have Ag:=Hd fun d os=>Ab.o.trans ((Zs w1 d os).mono Ab.o.size);have Aj:=Hd fun d os=>((Zs w1 d os).block _ hg).trans Ad.o;have l0:=fun d os=>cell_regrown q0 d os;have l2:=fun d os=>cell_regrown q2 d os;have l4:=fun d os=>cell_regrown q4 d os;have cA:=fun d os=>Calls.regrown_of (Ak.o (grow (redrawn w1 d) os));have cB:=fun d os=>Calls.regrown_of (An.o 6 (grow (redrawn w1 d) os) (Ag.o d os));refine iV (l1:=[_,_,_,_,_,_,_,_,_,_,_,_,_,_,_,_]) (l2:=[_]) (by kernel_rfl) (by kernel_rfl) (by kernel_rfl) (by kernel_rfl) (by kernel_rfl) ?_
  repeat (quiet_step (first | exact cA _ _ | exact cB _ _))
  refine wpQuiet_nil ?_;intro _ Ao;obtain⟨⟨dq,Af⟩,Ae⟩:=Ao;subst Ae;replace Ab:=Hd (Ag.o dq Af);replace Ad:=Hd (Aj.o dq Af);clear q0 q2 q4 l0 l2 l4 cA cB Ag Aj;generalize grow (redrawn w1 dq) Af=wq at *
  go_wp2_with (refine wpList_store_row rfl _ _ _ rfl (w.heap.size+1) _ rfl rfl _ _ Ad.o eP rfl (by simp [Value.oneCell']) ?_)
  exact Zt (eY rfl _ _ (w.heap.size+1) _ rfl rfl (Xc _ _ _ _ _ _ Ad.o)) rfl ⟨0,x.s,0,A,x.arms,ca,_,_,_,rfl,Aq.o _ (Xb Ab.o (Nat.le_succ _) _),HE,Xb Ab.o (Nat.le_succ _) _⟩
theorem aNp(hr:aJ w x A B) (Am:cL x) (hk:x.k=13):
 Calls Tryz.prog 113 #[.agg (aE x A ca B cb)] w fun e w'=>gN w w' e x:=by
 have HF:=Hd fun w1 h=>gU w x A ca B cb w1 h hr;have Aq:=Hd fun w2 (h:Below w.heap.size w w2)=>(hr.below h).arms;have Ar:=Aq;have Ap:=Hd fun(m:Int) w2 (h:Below w.heap.size w w2)=>gY A x.arms.length ca m x.arms w2 (hr.below h).arms Am.2.1 Am.2.2;have Au:=hr.subs.max;have As:=Am.1;clear hr;unfold aE at HF ⊢;unfold dM at HF;rw [hk] at HF ⊢
 cases Al:aX x.s.data.toList with
 | false=>
  have HE:=aFg x (IntKind.i64.wrap (6+x.n)) hk (fun h=>aDu h);rw [Al,Bool.false_and] at HE;have Aj:=Hd fun w1=>iG x.s w1 (by omega);rw [Al] at Aj
  go_enter Tryz.func113,Tryz.ntmps113
  go_upto_region 1 with(fail)
  generalize Ah:(w.alloc _).alloc _=w1;obtain⟨Ag,hg,Ao,Aa,Ab⟩:=HF.o w1 Ah;have Ac:=Hd Ag;have Ad:=Hd Ab;obtain⟨q0,q1,q2,-,-,-⟩:=Sx (Aa w1 (Yg _ _));clear Aa Ab Ag Ao Ah HF
  go_wp2_with fail
  have Ak:=Hd fun d os=>Ac.o.trans ((Zs w1 d os).mono Ac.o.size);have Ai:=Hd fun d os=>((Zs w1 d os).block _ hg).trans Ad.o;have l0:=fun d os=>cell_regrown q0 d os;have l1:=fun d os=>cell_regrown q1 d os;have l2:=fun d os=>cell_regrown q2 d os;have cA:=fun d os=>Calls.regrown_of (Aj.o (grow (redrawn w1 d) os));refine iV (l1:=[_,_,_,_,_,_,_,_,_,_,_,_,_,_,_,_,_]) (l2:=[_]) (by kernel_rfl) (by kernel_rfl) (by kernel_rfl) (by kernel_rfl) (by kernel_rfl) ?_
  repeat (quiet_step (first | exact cA _ _))
  refine wpQuiet_nil ?_;intro _ An;obtain⟨⟨dq,Af⟩,Ae⟩:=An;subst Ae;replace Ac:=Hd (Ak.o dq Af);replace Ad:=Hd (Ai.o dq Af);clear q0 q1 q2 l0 l1 l2 cA Ak Ai;generalize grow (redrawn w1 dq) Af=wq at *
  go_wp2_with (refine wpList_store_row rfl _ _ _ rfl (w.heap.size+1) _ rfl rfl _ _ Ad.o eP rfl (by simp [Value.oneCell']) ?_)
  exact Zt (eY rfl _ _ (w.heap.size+1) _ rfl rfl (Xc _ _ _ _ _ _ Ad.o)) rfl ⟨x.n,x.s,0,none,[],0,false,_,_,rfl,aN.nil_ _,HE,Xb Ac.o (Nat.le_succ _) _⟩
 | true=>
  have HE:=aFg x (IntKind.i64.wrap (6+x.n)) hk (fun h=>aDu h);rw [Al,Bool.true_and] at HE;have Aj:=Hd fun w1=>iG x.s w1 (by omega);rw [Al] at Aj
  go_enter Tryz.func113,Tryz.ntmps113
  go_upto_region 1 with(fail)
  generalize Ah:(w.alloc _).alloc _=w1;obtain⟨Ag,hg,Ao,Aa,Ab⟩:=HF.o w1 Ah;have Ac:=Hd Ag;have Ad:=Hd Ab;obtain⟨q0,q1,q2,-,-,-⟩:=Sx (Aa w1 (Yg _ _));clear Aa Ab Ag Ao Ah HF
  go_wp2_with fail
  have Ak:=Hd fun d os=>Ac.o.trans ((Zs w1 d os).mono Ac.o.size);have Ai:=Hd fun d os=>((Zs w1 d os).block _ hg).trans Ad.o;have l0:=fun d os=>cell_regrown q0 d os;have l1:=fun d os=>cell_regrown q1 d os;have l2:=fun d os=>cell_regrown q2 d os;have cA:=fun d os=>Calls.regrown_of (Aj.o (grow (redrawn w1 d) os));have cB:=fun d os=>Calls.regrown_of (aFh x.n (grow (redrawn w1 d) os));refine iV (l1:=[_,_,_,_,_,_,_,_,_,_,_,_,_,_,_,_,_]) (l2:=[_]) (by kernel_rfl) (by kernel_rfl) (by kernel_rfl) (by kernel_rfl) (by kernel_rfl) ?_
  repeat (quiet_step (first | exact cA _ _ | exact cB _ _))
  refine wpQuiet_nil ?_;intro _ An;obtain⟨⟨dq,Af⟩,Ae⟩:=An;subst Ae;replace Ac:=Hd (Ak.o dq Af);replace Ad:=Hd (Ai.o dq Af);clear q0 q1 q2 l0 l1 l2 cA cB Ak Ai;generalize grow (redrawn w1 dq) Af=wq at *
  go_wp2_with (refine wpList_store_row rfl _ _ _ rfl (w.heap.size+1) _ rfl rfl _ _ Ad.o eP rfl (by simp [Value.oneCell']) ?_)
  exact Zt (eY rfl _ _ (w.heap.size+1) _ rfl rfl (Xc _ _ _ _ _ _ Ad.o)) rfl ⟨x.n,x.s,0,none,[],0,_,_,_,rfl,aN.nil_ _,HE,Xb Ac.o (Nat.le_succ _) _⟩
theorem aNq(hr:aJ w x A B) (Ac:cL x) (hk:x.k=14):
 Calls Tryz.prog 113 #[.agg (aE x A ca B cb)] w fun e w'=>gN w w' e x:=by
 have HF:=Hd fun w1 h=>gU w x A ca B cb w1 h hr;have Ai:=Hd fun w2 (h:Below w.heap.size w w2)=>(hr.below h).arms;have Ak:=Ai;have Ag:=Hd fun(m:Int) w2 (h:Below w.heap.size w w2)=>gY A x.arms.length ca m x.arms w2 (hr.below h).arms Ac.2.1 Ac.2.2;have Am:=hr.subs.max;have Al:=Ac.1;clear hr;unfold aE at HF ⊢;unfold dM at HF;rw [hk] at HF ⊢
 go_enter Tryz.func113,Tryz.ntmps113
 go_upto_region 1 with(fail)
 generalize Ae:(w.alloc _).alloc _=w1;obtain⟨Ad,hg,Ah,Aa,Ab⟩:=HF.o w1 Ae;have Aj:=Hd Ad;have Af:=Hd Ab;have q0:=Aa w1 (Yg _ _) 0;clear Aa Ab Ad Ah Ae HF
 go_wp2_with (refine wpList_store_row rfl _ _ _ rfl (w.heap.size+1) _ rfl rfl _ _ Af.o eP rfl (by simp [Value.oneCell']) ?_)
 exact Zt (eY rfl _ _ (w.heap.size+1) _ rfl rfl (Xc _ _ _ _ _ _ Af.o)) rfl ⟨0,ByteArray.empty,0,none,[],0,_,1,8,rfl,aN.nil_ _,aSa x hk,Xb Aj.o (Nat.le_succ _) _⟩
theorem aNr(hr:aJ w x A B) (Ac:cL x) (h1:x.k≠1) (h2:x.k≠2) (h3:x.k≠3) (h4:x.k≠4) (Al:x.k≠17) (h5:x.k≠5) (h6:x.k≠6) (h7:x.k≠7) (Ag:x.k≠16) (h8:x.k≠8) (h9:x.k≠9) (Ak:x.k≠15) (Am:x.k≠10) (Ae:x.k≠11) (Af:x.k≠12) (Aj:x.k≠13) (Ad:x.k≠14) (hk:x.k<1\/17<x.k):
 Calls Tryz.prog 113 #[.agg (aE x A ca B cb)] w fun e w'=>gN w w' e x:=by
 have HF:=Hd fun w1 h=>gU w x A ca B cb w1 h hr;have Aq:=Hd fun w2 (h:Below w.heap.size w w2)=>(hr.below h).arms;have Ax:=Aq;have Ao:=Hd fun(m:Int) w2 (h:Below w.heap.size w w2)=>gY A x.arms.length ca m x.arms w2 (hr.below h).arms Ac.2.1 Ac.2.2;have Bc:=hr.subs.max;have Ba:=Ac.1;clear hr;unfold aE at HF ⊢;unfold dM at HF;generalize Av:x.k=k at HF ⊢ h1 h2 h3 h4 Al h5 h6 h7 Ag h8 h9 Ak Am Ae Af Aj Ad;have e1:(k==1)=false:=by simpa using h1
 have e2:(k==2)=false:=by simpa using h2
 have e3:(k==3)=false:=by simpa using h3
 have e4:(k==4)=false:=by simpa using h4
 have Bd:(k==17)=false:=by simpa using Al
 have e5:(k==5)=false:=by simpa using h5
 have e6:(k==6)=false:=by simpa using h6
 have e7:(k==7)=false:=by simpa using h7
 have Au:(k==16)=false:=by simpa using Ag
 have e8:(k==8)=false:=by simpa using h8
 have e9:(k==9)=false:=by simpa using h9
 have Be:(k==15)=false:=by simpa using Ak
 have As:(k==10)=false:=by simpa using Am
 have Aw:(k==11)=false:=by simpa using Ae
 have Ay:(k==12)=false:=by simpa using Af
 have Az:(k==13)=false:=by simpa using Aj
 have Bb:(k==14)=false:=by simpa using Ad
 go_enter Tryz.func113,Tryz.ntmps113
 go_upto_region 1 with(fail)
 generalize Ai:(w.alloc _).alloc _=w1;obtain⟨Ah,hg,Ap,Aa,Ab⟩:=HF.o w1 Ai;have Ar:=Hd Ah;have An:=Hd Ab;have q0:=Aa w1 (Yg _ _) 0;clear Aa Ab Ah Ap Ai HF
 go_wp2_with (refine wpList_store_row rfl _ _ _ rfl (w.heap.size+1) _ rfl rfl _ _ An.o eP rfl (by simp [Value.oneCell']) ?_)
 exact Zt (eY rfl _ _ (w.heap.size+1) _ rfl rfl (Xc _ _ _ _ _ _ An.o)) rfl ⟨0,ByteArray.empty,0,none,[],0,_,0,0,rfl,aN.nil_ _,aSb x _ _ _ _ _ _ hk,Xb Ar.o (Nat.le_succ _) _⟩
theorem aQi(hr:aJ w x A B) (Aa:cL x):
 Calls Tryz.prog 113 #[.agg (aE x A ca B cb)] w fun e w'=>gN w w' e x:=by
 by_cases h1:x.k=1
 . exact aP9 x A ca B cb w hr Aa h1
 by_cases h2:x.k=2
 . exact aQa x A ca B cb w hr Aa h2
 by_cases h3:x.k=3
 . exact aQb x A ca B cb w hr Aa h3
 by_cases h4:x.k=4
 . exact aQc x A ca B cb w hr Aa h4
 by_cases Ah:x.k=17
 . exact aNj x A ca B cb w hr Aa Ah
 by_cases h5:x.k=5
 . exact aQd x A ca B cb w hr Aa h5
 by_cases h6:x.k=6
 . exact aQe x A ca B cb w hr Aa h6
 by_cases h7:x.k=7
 . exact aQf x A ca B cb w hr Aa h7
 by_cases Ae:x.k=16
 . exact aNk x A ca B cb w hr Aa Ae
 by_cases h8:x.k=8
 . exact aQg x A ca B cb w hr Aa h8
 by_cases h9:x.k=9
 . exact aQh x A ca B cb w hr Aa h9
 by_cases Af:x.k=15
 . exact aNl x A ca B cb w hr Aa Af
 by_cases Ai:x.k=10
 . exact aNm x A ca B cb w hr Aa Ai
 by_cases Ac:x.k=11
 . exact aNn x A ca B cb w hr Aa Ac
 by_cases Ad:x.k=12
 . exact aNo x A ca B cb w hr Aa Ad
 by_cases Ag:x.k=13
 . exact aNp x A ca B cb w hr Aa Ag
 by_cases Ab:x.k=14
 . exact aNq x A ca B cb w hr Aa Ab
 exact aNr x A ca B cb w hr Aa h1 h2 h3 h4 Ah h5 h6 h7 Ae h8 h9 Af Ai Ac Ad Ag Ab (by omega)
end
end Go.Proofs.YtegjgiofmpolnaaGreat
