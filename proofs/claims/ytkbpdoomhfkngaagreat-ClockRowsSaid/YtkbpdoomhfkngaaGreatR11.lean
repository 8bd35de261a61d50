/- Parts of the proof: EyG. Conditions: each theorem's own. -/
import Derived.Laws.ResultCell
import Derived.Laws.Tables
import Derived.RangeFuncRecord
import Derived.Test.YtkbpdoomhfkngaaGreatR09
import Derived.Test.YtkbpdoomhfkngaaGreatR10
namespace Go.Proofs.YtkbpdoomhfkngaaGreat
set_option linter.unusedVariables false
set_option linter.unusedSimpArgs false
set_option maxRecDepth 100000
set_option maxHeartbeats 40000000
section
open Go.RowKit Go.Sort
def rowA(k n:Int) (s:ByteArray) (op:Int) (A:Option Addr) (len ca:Nat) (h:Bool) (lo hi:Int):Array Value:=
 #[.int .i64 k,.int .i64 n,.string s,.int .i64 op,.slice A len ca,.slice none 0 0,.bool h,.int .i64 lo,.int .i64 hi]
theorem row_info:(Tryz.prog.info? 186).map (·.size)=some 9:=by kernel_rfl
theorem res_row{fn:Func}{p:Tmp}(h:fn.results=#[.cell p 186]) (tmps:Array Value) (w:World) (g:Nat) (cs:Array Value) (hs:cs.size=9)
 (hp:tmps.getD p undef=.pointer (some ⟨g,0,none⟩)) (hg:w.heap[g]?=some (Obj.cells cs 186)):(results fn tmps).run Tryz.prog w=.ok (.agg cs) w:=
 results_cell_row h tmps w g _ _ _ _ hp hg Tryz.underlying186 rfl (by rw [hs];exact row_info)
theorem boxr_facts(w:World) (x:Ex) (A:Option Addr) (ca:Nat) (B:Option Addr) (cb:Nat) (w1:World) (h:(w.alloc (.cells (exA x A ca B cb) 52)).alloc (.cells (rowA 0 0 ByteArray.empty 0 none 0 0 false 0 0) 186)=w1) (hr:rdX w x A B):
 Below w.heap.size w w1∧w.heap.size+1<w1.heap.size∧rdX w1 x A B∧(∀ w',Below w1.heap.size w1 w'→∀ j,w'.cell? ⟨w.heap.size,j,none⟩=(exA x A ca B cb)[j]?)∧w1.heap[w.heap.size+1]?=some (Obj.cells (rowA 0 0 ByteArray.empty 0 none 0 0 false 0 0) 186):=by
 subst h;refine⟨((Below.refl _ _).alloc (Nat.le_refl _) _).alloc (by simp) _,by simp,(hr.alloc _).alloc _,fun w' hb j=>?_,?_⟩
 · rw [hb.cell (p:=⟨w.heap.size,j,none⟩) (by simp;omega),World.cell?_alloc_lt _ _ _ (by simp),World.cell?_alloc_new]
 · have:=World.alloc_heap_new (w.alloc (.cells (exA x A ca B cb) 52)) (.cells (rowA 0 0 ByteArray.empty 0 none 0 0 false 0 0) 186);rwa [World.size_alloc] at this
def RowAt(w w':World) (e:Ending) (x:Ex):Prop:=∃ n s op A' arms ca' h lo hi,e=.returned (.agg (rowA 0 n s op A' arms.length ca' h lo hi))∧RdT w' A' arms.length arms∧rowB x n s op arms h lo hi=partX x∧Below w.heap.size w w'
theorem exBitB(n:Int) (w:World):Calls Tryz.prog 189 #[.int .i64 n] w fun e w'=>e=.returned (.bool (bitB n))∧Below w.heap.size w w' :=
 (exBit n w).mono fun e w' ⟨h1,h2⟩=>⟨h1,by rw [← h2];exact Below.refl _ _⟩
theorem wrap_bit{n:Int}(h:bitB n=true):IntKind.i64.wrap (6+n)=6+n:=by
 unfold bitB at h
 simp at h
 rcases h with rfl | rfl <;> first | decide | decide +kernel | (unfold wrap64;omega) | simp [wrap64]
variable (x:Ex) (A:Option Addr) (ca:Nat) (B:Option Addr) (cb:Nat) (w:World)
theorem asked_1(hr:rdX w x A B) (hsh:ShortP x) (hk:x.k=1):
 Calls Tryz.prog 183 #[.agg (exA x A ca B cb)] w fun e w'=>RowAt w w' e x:=by
 have HF:=Hd fun w1 h=>boxr_facts w x A ca B cb w1 h hr;have HRX:=Hd fun w2 (h:Below w.heap.size w w2)=>(hr.below h).arms;have HAR:=HRX;have HARM:=Hd fun(m:Int) w2 (h:Below w.heap.size w w2)=>exArms A x.arms.length ca m x.arms w2 (hr.below h).arms hsh.2.1 hsh.2.2;have hmx:=hr.subs.max;have hsz:=hsh.1;clear hr;unfold exA at HF ⊢;unfold rowA at HF;rw [hk] at HF ⊢
 go_enter Tryz.func183,Tryz.ntmps183
 go_upto_region 1 with(fail)
 generalize hw1:(w.alloc _).alloc _=w1;obtain⟨hb1,hg,hr1,hcell,hrow⟩:=HF.out w1 hw1;have HB1:=Hd hb1;have HRW:=Hd hrow;have q0:=hcell w1 (Below.refl _ _) 0;have q1:=hcell w1 (Below.refl _ _) 1;clear hcell hrow hb1 hr1 hw1 HF
 go_wp2_with (refine wpList_store_row rfl _ _ _ rfl (w.heap.size+1) _ rfl rfl _ _ HRW.out row_info rfl (by simp [Value.oneCell']) ?_)
 exact bodyPost_ret (res_row rfl _ _ (w.heap.size+1) _ rfl rfl (setRow_heap _ _ _ _ _ _ HRW.out)) rfl ⟨x.n,ByteArray.empty,0,none,[],0,_,0,0,rfl,RdT.nil_ _,row_1 x hk,below_setRow HB1.out (Nat.le_succ _) _⟩
theorem asked_2(hr:rdX w x A B) (hsh:ShortP x) (hk:x.k=2):
 Calls Tryz.prog 183 #[.agg (exA x A ca B cb)] w fun e w'=>RowAt w w' e x:=by
 have HF:=Hd fun w1 h=>boxr_facts w x A ca B cb w1 h hr;have HRX:=Hd fun w2 (h:Below w.heap.size w w2)=>(hr.below h).arms;have HAR:=HRX;have HARM:=Hd fun(m:Int) w2 (h:Below w.heap.size w w2)=>exArms A x.arms.length ca m x.arms w2 (hr.below h).arms hsh.2.1 hsh.2.2;have hmx:=hr.subs.max;have hsz:=hsh.1;clear hr;unfold exA at HF ⊢;unfold rowA at HF;rw [hk] at HF ⊢
 go_enter Tryz.func183,Tryz.ntmps183
 go_upto_region 1 with(fail)
 generalize hw1:(w.alloc _).alloc _=w1;obtain⟨hb1,hg,hr1,hcell,hrow⟩:=HF.out w1 hw1;have HB1:=Hd hb1;have HRW:=Hd hrow;have q0:=hcell w1 (Below.refl _ _) 0;have q1:=hcell w1 (Below.refl _ _) 1;clear hcell hrow hb1 hr1 hw1 HF
 go_wp2_with fail
 have HBQ:=Hd fun d os=>HB1.out.trans ((below_regrown w1 d os).mono HB1.out.size);have HRQ:=Hd fun d os=>((below_regrown w1 d os).block _ hg).trans HRW.out;have l0:=fun d os=>cell_regrown q0 d os;have l1:=fun d os=>cell_regrown q1 d os;have cA:=fun d os=>Calls.regrown_of (exBitB x.n (grow (redrawn w1 d) os));refine wp_region_quiet_tail (l1:=[_,_,_,_,_,_,_]) (l2:=[_]) (by kernel_rfl) (by kernel_rfl) (by kernel_rfl) (by kernel_rfl) (by kernel_rfl) ?_
 repeat (quiet_step (first | exact cA _ _))
 refine wpQuiet_nil ?_;intro _ hw';obtain⟨⟨dq,osq⟩,hw''⟩:=hw';subst hw'';replace HB1:=Hd (HBQ.out dq osq);replace HRW:=Hd (HRQ.out dq osq);clear q0 q1 l0 l1 cA HBQ HRQ;generalize grow (redrawn w1 dq) osq=wq at *
 go_wp2_with (refine wpList_store_row rfl _ _ _ rfl (w.heap.size+1) _ rfl rfl _ _ HRW.out row_info rfl (by simp [Value.oneCell']) ?_)
 exact bodyPost_ret (res_row rfl _ _ (w.heap.size+1) _ rfl rfl (setRow_heap _ _ _ _ _ _ HRW.out)) rfl ⟨x.n,ByteArray.empty,0,none,[],0,_,0,0,rfl,RdT.nil_ _,row_2 x hk,below_setRow HB1.out (Nat.le_succ _) _⟩
theorem asked_3(hr:rdX w x A B) (hsh:ShortP x) (hk:x.k=3):
 Calls Tryz.prog 183 #[.agg (exA x A ca B cb)] w fun e w'=>RowAt w w' e x:=by
 have HF:=Hd fun w1 h=>boxr_facts w x A ca B cb w1 h hr;have HRX:=Hd fun w2 (h:Below w.heap.size w w2)=>(hr.below h).arms;have HAR:=HRX;have HARM:=Hd fun(m:Int) w2 (h:Below w.heap.size w w2)=>exArms A x.arms.length ca m x.arms w2 (hr.below h).arms hsh.2.1 hsh.2.2;have hmx:=hr.subs.max;have hsz:=hsh.1;clear hr;unfold exA at HF ⊢;unfold rowA at HF;rw [hk] at HF ⊢
 go_enter Tryz.func183,Tryz.ntmps183
 go_upto_region 1 with(fail)
 generalize hw1:(w.alloc _).alloc _=w1;obtain⟨hb1,hg,hr1,hcell,hrow⟩:=HF.out w1 hw1;have HB1:=Hd hb1;have HRW:=Hd hrow;have q0:=hcell w1 (Below.refl _ _) 0;have q2:=hcell w1 (Below.refl _ _) 2;clear hcell hrow hb1 hr1 hw1 HF
 go_wp2_with fail
 have HBQ:=Hd fun d os=>HB1.out.trans ((below_regrown w1 d os).mono HB1.out.size);have HRQ:=Hd fun d os=>((below_regrown w1 d os).block _ hg).trans HRW.out;have l0:=fun d os=>cell_regrown q0 d os;have l2:=fun d os=>cell_regrown q2 d os;have cA:=fun d os=>Calls.regrown_of (idLow x.s (grow (redrawn w1 d) os) (by omega));refine wp_region_quiet_tail (l1:=[_,_,_,_,_,_,_]) (l2:=[_]) (by kernel_rfl) (by kernel_rfl) (by kernel_rfl) (by kernel_rfl) (by kernel_rfl) ?_
 repeat (quiet_step (first | exact cA _ _))
 refine wpQuiet_nil ?_;intro _ hw';obtain⟨⟨dq,osq⟩,hw''⟩:=hw';subst hw'';replace HB1:=Hd (HBQ.out dq osq);replace HRW:=Hd (HRQ.out dq osq);clear q0 q2 l0 l2 cA HBQ HRQ;generalize grow (redrawn w1 dq) osq=wq at *
 go_wp2_with (refine wpList_store_row rfl _ _ _ rfl (w.heap.size+1) _ rfl rfl _ _ HRW.out row_info rfl (by simp [Value.oneCell']) ?_)
 exact bodyPost_ret (res_row rfl _ _ (w.heap.size+1) _ rfl rfl (setRow_heap _ _ _ _ _ _ HRW.out)) rfl ⟨0,x.s,0,none,[],0,_,0,0,rfl,RdT.nil_ _,row_3 x hk,below_setRow HB1.out (Nat.le_succ _) _⟩
theorem asked_4(hr:rdX w x A B) (hsh:ShortP x) (hk:x.k=4):
 Calls Tryz.prog 183 #[.agg (exA x A ca B cb)] w fun e w'=>RowAt w w' e x:=by
 have HF:=Hd fun w1 h=>boxr_facts w x A ca B cb w1 h hr;have HRX:=Hd fun w2 (h:Below w.heap.size w w2)=>(hr.below h).arms;have HAR:=HRX;have HARM:=Hd fun(m:Int) w2 (h:Below w.heap.size w w2)=>exArms A x.arms.length ca m x.arms w2 (hr.below h).arms hsh.2.1 hsh.2.2;have hmx:=hr.subs.max;have hsz:=hsh.1;clear hr;unfold exA at HF ⊢;unfold rowA at HF;rw [hk] at HF ⊢
 go_enter Tryz.func183,Tryz.ntmps183
 go_upto_region 1 with(fail)
 generalize hw1:(w.alloc _).alloc _=w1;obtain⟨hb1,hg,hr1,hcell,hrow⟩:=HF.out w1 hw1;have HB1:=Hd hb1;have HRW:=Hd hrow;have q0:=hcell w1 (Below.refl _ _) 0;have q2:=hcell w1 (Below.refl _ _) 2;clear hcell hrow hb1 hr1 hw1 HF
 go_wp2_with fail
 have HBQ:=Hd fun d os=>HB1.out.trans ((below_regrown w1 d os).mono HB1.out.size);have HRQ:=Hd fun d os=>((below_regrown w1 d os).block _ hg).trans HRW.out;have l0:=fun d os=>cell_regrown q0 d os;have l2:=fun d os=>cell_regrown q2 d os;have cA:=fun d os=>Calls.regrown_of (idHigh x.s (grow (redrawn w1 d) os) (by omega));refine wp_region_quiet_tail (l1:=[_,_,_,_,_,_,_]) (l2:=[_]) (by kernel_rfl) (by kernel_rfl) (by kernel_rfl) (by kernel_rfl) (by kernel_rfl) ?_
 repeat (quiet_step (first | exact cA _ _))
 refine wpQuiet_nil ?_;intro _ hw';obtain⟨⟨dq,osq⟩,hw''⟩:=hw';subst hw'';replace HB1:=Hd (HBQ.out dq osq);replace HRW:=Hd (HRQ.out dq osq);clear q0 q2 l0 l2 cA HBQ HRQ;generalize grow (redrawn w1 dq) osq=wq at *
 go_wp2_with (refine wpList_store_row rfl _ _ _ rfl (w.heap.size+1) _ rfl rfl _ _ HRW.out row_info rfl (by simp [Value.oneCell']) ?_)
 exact bodyPost_ret (res_row rfl _ _ (w.heap.size+1) _ rfl rfl (setRow_heap _ _ _ _ _ _ HRW.out)) rfl ⟨0,x.s,0,none,[],0,_,0,0,rfl,RdT.nil_ _,row_4 x hk,below_setRow HB1.out (Nat.le_succ _) _⟩
theorem asked_17(hr:rdX w x A B) (hsh:ShortP x) (hk:x.k=17):
 Calls Tryz.prog 183 #[.agg (exA x A ca B cb)] w fun e w'=>RowAt w w' e x:=by
 have HF:=Hd fun w1 h=>boxr_facts w x A ca B cb w1 h hr;have HRX:=Hd fun w2 (h:Below w.heap.size w w2)=>(hr.below h).arms;have HAR:=HRX;have HARM:=Hd fun(m:Int) w2 (h:Below w.heap.size w w2)=>exArms A x.arms.length ca m x.arms w2 (hr.below h).arms hsh.2.1 hsh.2.2;have hmx:=hr.subs.max;have hsz:=hsh.1;clear hr;unfold exA at HF ⊢;unfold rowA at HF;rw [hk] at HF ⊢
 go_enter Tryz.func183,Tryz.ntmps183
 go_upto_region 1 with(fail)
 generalize hw1:(w.alloc _).alloc _=w1;obtain⟨hb1,hg,hr1,hcell,hrow⟩:=HF.out w1 hw1;have HB1:=Hd hb1;have HRW:=Hd hrow;have q0:=hcell w1 (Below.refl _ _) 0;have q2:=hcell w1 (Below.refl _ _) 2;clear hcell hrow hb1 hr1 hw1 HF
 go_wp2_with fail
 have HBQ:=Hd fun d os=>HB1.out.trans ((below_regrown w1 d os).mono HB1.out.size);have HRQ:=Hd fun d os=>((below_regrown w1 d os).block _ hg).trans HRW.out;have l0:=fun d os=>cell_regrown q0 d os;have l2:=fun d os=>cell_regrown q2 d os;have cA:=fun d os=>Calls.regrown_of (idPath x.s (grow (redrawn w1 d) os) (by omega));refine wp_region_quiet_tail (l1:=[_,_,_,_,_,_,_]) (l2:=[_]) (by kernel_rfl) (by kernel_rfl) (by kernel_rfl) (by kernel_rfl) (by kernel_rfl) ?_
 repeat (quiet_step (first | exact cA _ _))
 refine wpQuiet_nil ?_;intro _ hw';obtain⟨⟨dq,osq⟩,hw''⟩:=hw';subst hw'';replace HB1:=Hd (HBQ.out dq osq);replace HRW:=Hd (HRQ.out dq osq);clear q0 q2 l0 l2 cA HBQ HRQ;generalize grow (redrawn w1 dq) osq=wq at *
 go_wp2_with (refine wpList_store_row rfl _ _ _ rfl (w.heap.size+1) _ rfl rfl _ _ HRW.out row_info rfl (by simp [Value.oneCell']) ?_)
 exact bodyPost_ret (res_row rfl _ _ (w.heap.size+1) _ rfl rfl (setRow_heap _ _ _ _ _ _ HRW.out)) rfl ⟨0,x.s,0,none,[],0,_,0,0,rfl,RdT.nil_ _,row_17 x hk,below_setRow HB1.out (Nat.le_succ _) _⟩
theorem asked_5(hr:rdX w x A B) (hsh:ShortP x) (hk:x.k=5):
 Calls Tryz.prog 183 #[.agg (exA x A ca B cb)] w fun e w'=>RowAt w w' e x:=by
 have HF:=Hd fun w1 h=>boxr_facts w x A ca B cb w1 h hr;have HRX:=Hd fun w2 (h:Below w.heap.size w w2)=>(hr.below h).arms;have HAR:=HRX;have HARM:=Hd fun(m:Int) w2 (h:Below w.heap.size w w2)=>exArms A x.arms.length ca m x.arms w2 (hr.below h).arms hsh.2.1 hsh.2.2;have hmx:=hr.subs.max;have hsz:=hsh.1;clear hr;unfold exA at HF ⊢;unfold rowA at HF;rw [hk] at HF ⊢
 cases hlo:decide (1≤x.op) with
 | false=>
  have HE:=row_5 x hk;rw [hlo,Bool.false_and] at HE
  go_enter Tryz.func183,Tryz.ntmps183
  go_upto_region 1 with(fail)
  generalize hw1:(w.alloc _).alloc _=w1;obtain⟨hb1,hg,hr1,hcell,hrow⟩:=HF.out w1 hw1;have HB1:=Hd hb1;have HRW:=Hd hrow;have q0:=hcell w1 (Below.refl _ _) 0;have q3:=hcell w1 (Below.refl _ _) 3;clear hcell hrow hb1 hr1 hw1 HF
  go_wp2_with (refine wpList_store_row rfl _ _ _ rfl (w.heap.size+1) _ rfl rfl _ _ HRW.out row_info rfl (by simp [Value.oneCell']) ?_)
  exact bodyPost_ret (res_row rfl _ _ (w.heap.size+1) _ rfl rfl (setRow_heap _ _ _ _ _ _ HRW.out)) rfl ⟨0,ByteArray.empty,x.op,none,[],0,_,1,1,rfl,RdT.nil_ _,HE,below_setRow HB1.out (Nat.le_succ _) _⟩
 | true=>
  have HE:=row_5 x hk;rw [hlo,Bool.true_and] at HE
  go_enter Tryz.func183,Tryz.ntmps183
  go_upto_region 1 with(fail)
  generalize hw1:(w.alloc _).alloc _=w1;obtain⟨hb1,hg,hr1,hcell,hrow⟩:=HF.out w1 hw1;have HB1:=Hd hb1;have HRW:=Hd hrow;have q0:=hcell w1 (Below.refl _ _) 0;have q3:=hcell w1 (Below.refl _ _) 3;clear hcell hrow hb1 hr1 hw1 HF
  go_wp2_with (refine wpList_store_row rfl _ _ _ rfl (w.heap.size+1) _ rfl rfl _ _ HRW.out row_info rfl (by simp [Value.oneCell']) ?_)
  exact bodyPost_ret (res_row rfl _ _ (w.heap.size+1) _ rfl rfl (setRow_heap _ _ _ _ _ _ HRW.out)) rfl ⟨0,ByteArray.empty,x.op,none,[],0,_,1,1,rfl,RdT.nil_ _,HE,below_setRow HB1.out (Nat.le_succ _) _⟩
theorem asked_6(hr:rdX w x A B) (hsh:ShortP x) (hk:x.k=6):
 Calls Tryz.prog 183 #[.agg (exA x A ca B cb)] w fun e w'=>RowAt w w' e x:=by
 have HF:=Hd fun w1 h=>boxr_facts w x A ca B cb w1 h hr;have HRX:=Hd fun w2 (h:Below w.heap.size w w2)=>(hr.below h).arms;have HAR:=HRX;have HARM:=Hd fun(m:Int) w2 (h:Below w.heap.size w w2)=>exArms A x.arms.length ca m x.arms w2 (hr.below h).arms hsh.2.1 hsh.2.2;have hmx:=hr.subs.max;have hsz:=hsh.1;clear hr;unfold exA at HF ⊢;unfold rowA at HF;rw [hk] at HF ⊢
 cases hlo:decide (3≤x.op) with
 | false=>
  have HE:=row_6 x hk;rw [hlo,Bool.false_and] at HE
  go_enter Tryz.func183,Tryz.ntmps183
  go_upto_region 1 with(fail)
  generalize hw1:(w.alloc _).alloc _=w1;obtain⟨hb1,hg,hr1,hcell,hrow⟩:=HF.out w1 hw1;have HB1:=Hd hb1;have HRW:=Hd hrow;have q0:=hcell w1 (Below.refl _ _) 0;have q3:=hcell w1 (Below.refl _ _) 3;clear hcell hrow hb1 hr1 hw1 HF
  go_wp2_with (refine wpList_store_row rfl _ _ _ rfl (w.heap.size+1) _ rfl rfl _ _ HRW.out row_info rfl (by simp [Value.oneCell']) ?_)
  exact bodyPost_ret (res_row rfl _ _ (w.heap.size+1) _ rfl rfl (setRow_heap _ _ _ _ _ _ HRW.out)) rfl ⟨0,ByteArray.empty,x.op,none,[],0,_,2,2,rfl,RdT.nil_ _,HE,below_setRow HB1.out (Nat.le_succ _) _⟩
 | true=>
  have HE:=row_6 x hk;rw [hlo,Bool.true_and] at HE
  go_enter Tryz.func183,Tryz.ntmps183
  go_upto_region 1 with(fail)
  generalize hw1:(w.alloc _).alloc _=w1;obtain⟨hb1,hg,hr1,hcell,hrow⟩:=HF.out w1 hw1;have HB1:=Hd hb1;have HRW:=Hd hrow;have q0:=hcell w1 (Below.refl _ _) 0;have q3:=hcell w1 (Below.refl _ _) 3;clear hcell hrow hb1 hr1 hw1 HF
  go_wp2_with (refine wpList_store_row rfl _ _ _ rfl (w.heap.size+1) _ rfl rfl _ _ HRW.out row_info rfl (by simp [Value.oneCell']) ?_)
  exact bodyPost_ret (res_row rfl _ _ (w.heap.size+1) _ rfl rfl (setRow_heap _ _ _ _ _ _ HRW.out)) rfl ⟨0,ByteArray.empty,x.op,none,[],0,_,2,2,rfl,RdT.nil_ _,HE,below_setRow HB1.out (Nat.le_succ _) _⟩
theorem asked_7(hr:rdX w x A B) (hsh:ShortP x) (hk:x.k=7):
 Calls Tryz.prog 183 #[.agg (exA x A ca B cb)] w fun e w'=>RowAt w w' e x:=by
 have HF:=Hd fun w1 h=>boxr_facts w x A ca B cb w1 h hr;have HRX:=Hd fun w2 (h:Below w.heap.size w w2)=>(hr.below h).arms;have HAR:=HRX;have HARM:=Hd fun(m:Int) w2 (h:Below w.heap.size w w2)=>exArms A x.arms.length ca m x.arms w2 (hr.below h).arms hsh.2.1 hsh.2.2;have hmx:=hr.subs.max;have hsz:=hsh.1;clear hr;unfold exA at HF ⊢;unfold rowA at HF;rw [hk] at HF ⊢
 go_enter Tryz.func183,Tryz.ntmps183
 go_upto_region 1 with(fail)
 generalize hw1:(w.alloc _).alloc _=w1;obtain⟨hb1,hg,hr1,hcell,hrow⟩:=HF.out w1 hw1;have HB1:=Hd hb1;have HRW:=Hd hrow;have q0:=hcell w1 (Below.refl _ _) 0;clear hcell hrow hb1 hr1 hw1 HF
 go_wp2_with (refine wpList_store_row rfl _ _ _ rfl (w.heap.size+1) _ rfl rfl _ _ HRW.out row_info rfl (by simp [Value.oneCell']) ?_)
 exact bodyPost_ret (res_row rfl _ _ (w.heap.size+1) _ rfl rfl (setRow_heap _ _ _ _ _ _ HRW.out)) rfl ⟨0,ByteArray.empty,0,none,[],0,_,3,3,rfl,RdT.nil_ _,row_7 x hk,below_setRow HB1.out (Nat.le_succ _) _⟩
theorem asked_16(hr:rdX w x A B) (hsh:ShortP x) (hk:x.k=16):
 Calls Tryz.prog 183 #[.agg (exA x A ca B cb)] w fun e w'=>RowAt w w' e x:=by
 have HF:=Hd fun w1 h=>boxr_facts w x A ca B cb w1 h hr;have HRX:=Hd fun w2 (h:Below w.heap.size w w2)=>(hr.below h).arms;have HAR:=HRX;have HARM:=Hd fun(m:Int) w2 (h:Below w.heap.size w w2)=>exArms A x.arms.length ca m x.arms w2 (hr.below h).arms hsh.2.1 hsh.2.2;have hmx:=hr.subs.max;have hsz:=hsh.1;clear hr;unfold exA at HF ⊢;unfold rowA at HF;rw [hk] at HF ⊢
 go_enter Tryz.func183,Tryz.ntmps183
 go_upto_region 1 with(fail)
 generalize hw1:(w.alloc _).alloc _=w1;obtain⟨hb1,hg,hr1,hcell,hrow⟩:=HF.out w1 hw1;have HB1:=Hd hb1;have HRW:=Hd hrow;have q0:=hcell w1 (Below.refl _ _) 0;clear hcell hrow hb1 hr1 hw1 HF
 go_wp2_with (refine wpList_store_row rfl _ _ _ rfl (w.heap.size+1) _ rfl rfl _ _ HRW.out row_info rfl (by simp [Value.oneCell']) ?_)
 exact bodyPost_ret (res_row rfl _ _ (w.heap.size+1) _ rfl rfl (setRow_heap _ _ _ _ _ _ HRW.out)) rfl ⟨0,ByteArray.empty,0,none,[],0,_,3,3,rfl,RdT.nil_ _,row_16 x hk,below_setRow HB1.out (Nat.le_succ _) _⟩
theorem asked_8(hr:rdX w x A B) (hsh:ShortP x) (hk:x.k=8):
 Calls Tryz.prog 183 #[.agg (exA x A ca B cb)] w fun e w'=>RowAt w w' e x:=by
 have HF:=Hd fun w1 h=>boxr_facts w x A ca B cb w1 h hr;have HRX:=Hd fun w2 (h:Below w.heap.size w w2)=>(hr.below h).arms;have HAR:=HRX;have HARM:=Hd fun(m:Int) w2 (h:Below w.heap.size w w2)=>exArms A x.arms.length ca m x.arms w2 (hr.below h).arms hsh.2.1 hsh.2.2;have hmx:=hr.subs.max;have hsz:=hsh.1;clear hr;unfold exA at HF ⊢;unfold rowA at HF;rw [hk] at HF ⊢
 by_cases hn:0<x.subs.length
 · have HE:=row_8 x hk;have hd:decide (0<(x.subs.length:Int))=true:=decide_eq_true (by omega);rw [hd,Bool.true_and] at HE
   go_enter Tryz.func183,Tryz.ntmps183
   go_upto_region 1 with(fail)
   generalize hw1:(w.alloc _).alloc _=w1;obtain⟨hb1,hg,hr1,hcell,hrow⟩:=HF.out w1 hw1;have HB1:=Hd hb1;have HRW:=Hd hrow;have q0:=hcell w1 (Below.refl _ _) 0;have q5:=hcell w1 (Below.refl _ _) 5;obtain⟨b,off,hBB,hb,hat⟩:=hr1.sub (i:=0) hn;subst hBB;obtain⟨A',ca',B',cb',hrg,hrd⟩:=hat 0 hn;rw [Nat.zero_mul,Nat.add_zero] at hrg;obtain⟨d0,d1,d2,d3,d4,d5⟩:=rangeAt_six hrg;have HCN:=Hd (exConst (subX x 0) A' ca' B' cb' w1 hrd);have HRB:=Hd fun w2 (h:Below w1.heap.size w1 w2)=>(h.block _ hg).trans hrow;unfold exA at HCN;clear hat hrg hrd;clear hcell hrow hb1 hr1 hw1 HF
   go_wp2_with fail
   refine HCN.out.mono ?_;rintro r w2 ⟨rfl,hb2⟩;replace HRW:=Hd (HRB.out w2 hb2);replace HB1:=Hd (HB1.out.trans (hb2.mono HB1.out.size));clear hb2 HRB
   go_wp2_with (refine wpList_store_row rfl _ _ _ rfl (w.heap.size+1) _ rfl rfl _ _ HRW.out row_info rfl (by simp [Value.oneCell']) ?_)
   exact bodyPost_ret (res_row rfl _ _ (w.heap.size+1) _ rfl rfl (setRow_heap _ _ _ _ _ _ HRW.out)) rfl ⟨0,ByteArray.empty,0,none,[],0,_,2,2,rfl,RdT.nil_ _,HE,below_setRow HB1.out (Nat.le_succ _) _⟩
 · have HE:=row_8 x hk;have hd:decide (0<(x.subs.length:Int))=false:=decide_eq_false (by omega);rw [hd,Bool.false_and] at HE
   go_enter Tryz.func183,Tryz.ntmps183
   go_upto_region 1 with(fail)
   generalize hw1:(w.alloc _).alloc _=w1;obtain⟨hb1,hg,hr1,hcell,hrow⟩:=HF.out w1 hw1;have HB1:=Hd hb1;have HRW:=Hd hrow;have q0:=hcell w1 (Below.refl _ _) 0;have q5:=hcell w1 (Below.refl _ _) 5;clear hcell hrow hb1 hr1 hw1 HF
   go_wp2_with (refine wpList_store_row rfl _ _ _ rfl (w.heap.size+1) _ rfl rfl _ _ HRW.out row_info rfl (by simp [Value.oneCell']) ?_)
   exact bodyPost_ret (res_row rfl _ _ (w.heap.size+1) _ rfl rfl (setRow_heap _ _ _ _ _ _ HRW.out)) rfl ⟨0,ByteArray.empty,0,none,[],0,_,2,2,rfl,RdT.nil_ _,HE,below_setRow HB1.out (Nat.le_succ _) _⟩
theorem asked_9(hr:rdX w x A B) (hsh:ShortP x) (hk:x.k=9):
 Calls Tryz.prog 183 #[.agg (exA x A ca B cb)] w fun e w'=>RowAt w w' e x:=by
 have HF:=Hd fun w1 h=>boxr_facts w x A ca B cb w1 h hr;have HRX:=Hd fun w2 (h:Below w.heap.size w w2)=>(hr.below h).arms;have HAR:=HRX;have HARM:=Hd fun(m:Int) w2 (h:Below w.heap.size w w2)=>exArms A x.arms.length ca m x.arms w2 (hr.below h).arms hsh.2.1 hsh.2.2;have hmx:=hr.subs.max;have hsz:=hsh.1;clear hr;unfold exA at HF ⊢;unfold rowA at HF;rw [hk] at HF ⊢
 go_enter Tryz.func183,Tryz.ntmps183
 go_upto_region 1 with(fail)
 generalize hw1:(w.alloc _).alloc _=w1;obtain⟨hb1,hg,hr1,hcell,hrow⟩:=HF.out w1 hw1;have HB1:=Hd hb1;have HRW:=Hd hrow;have q0:=hcell w1 (Below.refl _ _) 0;clear hcell hrow hb1 hr1 hw1 HF
 go_wp2_with (refine wpList_store_row rfl _ _ _ rfl (w.heap.size+1) _ rfl rfl _ _ HRW.out row_info rfl (by simp [Value.oneCell']) ?_)
 exact bodyPost_ret (res_row rfl _ _ (w.heap.size+1) _ rfl rfl (setRow_heap _ _ _ _ _ _ HRW.out)) rfl ⟨0,ByteArray.empty,0,none,[],0,_,2,2,rfl,RdT.nil_ _,row_9 x hk,below_setRow HB1.out (Nat.le_succ _) _⟩
theorem asked_15(hr:rdX w x A B) (hsh:ShortP x) (hk:x.k=15):
 Calls Tryz.prog 183 #[.agg (exA x A ca B cb)] w fun e w'=>RowAt w w' e x:=by
 have HF:=Hd fun w1 h=>boxr_facts w x A ca B cb w1 h hr;have HRX:=Hd fun w2 (h:Below w.heap.size w w2)=>(hr.below h).arms;have HAR:=HRX;have HARM:=Hd fun(m:Int) w2 (h:Below w.heap.size w w2)=>exArms A x.arms.length ca m x.arms w2 (hr.below h).arms hsh.2.1 hsh.2.2;have hmx:=hr.subs.max;have hsz:=hsh.1;clear hr;unfold exA at HF ⊢;unfold rowA at HF;rw [hk] at HF ⊢
 go_enter Tryz.func183,Tryz.ntmps183
 go_upto_region 1 with(fail)
 generalize hw1:(w.alloc _).alloc _=w1;obtain⟨hb1,hg,hr1,hcell,hrow⟩:=HF.out w1 hw1;have HB1:=Hd hb1;have HRW:=Hd hrow;have q0:=hcell w1 (Below.refl _ _) 0;clear hcell hrow hb1 hr1 hw1 HF
 go_wp2_with (refine wpList_store_row rfl _ _ _ rfl (w.heap.size+1) _ rfl rfl _ _ HRW.out row_info rfl (by simp [Value.oneCell']) ?_)
 exact bodyPost_ret (res_row rfl _ _ (w.heap.size+1) _ rfl rfl (setRow_heap _ _ _ _ _ _ HRW.out)) rfl ⟨0,ByteArray.empty,0,none,[],0,_,2,2,rfl,RdT.nil_ _,row_15 x hk,below_setRow HB1.out (Nat.le_succ _) _⟩
theorem asked_10(hr:rdX w x A B) (hsh:ShortP x) (hk:x.k=10):
 Calls Tryz.prog 183 #[.agg (exA x A ca B cb)] w fun e w'=>RowAt w w' e x:=by
 have HF:=Hd fun w1 h=>boxr_facts w x A ca B cb w1 h hr;have HRX:=Hd fun w2 (h:Below w.heap.size w w2)=>(hr.below h).arms;have HAR:=HRX;have HARM:=Hd fun(m:Int) w2 (h:Below w.heap.size w w2)=>exArms A x.arms.length ca m x.arms w2 (hr.below h).arms hsh.2.1 hsh.2.2;have hmx:=hr.subs.max;have hsz:=hsh.1;clear hr;unfold exA at HF ⊢;unfold rowA at HF;rw [hk] at HF ⊢
 go_enter Tryz.func183,Tryz.ntmps183
 go_upto_region 1 with(fail)
 generalize hw1:(w.alloc _).alloc _=w1;obtain⟨hb1,hg,hr1,hcell,hrow⟩:=HF.out w1 hw1;have HB1:=Hd hb1;have HRW:=Hd hrow;have q0:=hcell w1 (Below.refl _ _) 0;clear hcell hrow hb1 hr1 hw1 HF
 go_wp2_with (refine wpList_store_row rfl _ _ _ rfl (w.heap.size+1) _ rfl rfl _ _ HRW.out row_info rfl (by simp [Value.oneCell']) ?_)
 exact bodyPost_ret (res_row rfl _ _ (w.heap.size+1) _ rfl rfl (setRow_heap _ _ _ _ _ _ HRW.out)) rfl ⟨0,ByteArray.empty,0,none,[],0,_,1,1,rfl,RdT.nil_ _,row_10 x hk,below_setRow HB1.out (Nat.le_succ _) _⟩
theorem asked_11(hr:rdX w x A B) (hsh:ShortP x) (hk:x.k=11):
 Calls Tryz.prog 183 #[.agg (exA x A ca B cb)] w fun e w'=>RowAt w w' e x:=by
 have HF:=Hd fun w1 h=>boxr_facts w x A ca B cb w1 h hr;have HRX:=Hd fun w2 (h:Below w.heap.size w w2)=>(hr.below h).arms;have HAR:=HRX;have HARM:=Hd fun(m:Int) w2 (h:Below w.heap.size w w2)=>exArms A x.arms.length ca m x.arms w2 (hr.below h).arms hsh.2.1 hsh.2.2;have hmx:=hr.subs.max;have hsz:=hsh.1;clear hr;unfold exA at HF ⊢;unfold rowA at HF;rw [hk] at HF ⊢
 cases hlo:lowB x.s.data.toList with
 | false=>
  have HE:=row_11 x hk;rw [hlo,Bool.false_and] at HE;have HLW:=Hd fun w1=>idLow x.s w1 (by omega);rw [hlo] at HLW
  go_enter Tryz.func183,Tryz.ntmps183
  go_upto_region 1 with(fail)
  generalize hw1:(w.alloc _).alloc _=w1;obtain⟨hb1,hg,hr1,hcell,hrow⟩:=HF.out w1 hw1;have HB1:=Hd hb1;have HRW:=Hd hrow;obtain⟨q0,-,q2,-,q4,-⟩:=Sx (hcell w1 (Below.refl _ _));clear hcell hrow hb1 hr1 hw1 HF
  go_wp2_with fail
  have HBQ:=Hd fun d os=>HB1.out.trans ((below_regrown w1 d os).mono HB1.out.size);have HRQ:=Hd fun d os=>((below_regrown w1 d os).block _ hg).trans HRW.out;have l0:=fun d os=>cell_regrown q0 d os;have l2:=fun d os=>cell_regrown q2 d os;have l4:=fun d os=>cell_regrown q4 d os;have cA:=fun d os=>Calls.regrown_of (HLW.out (grow (redrawn w1 d) os));refine wp_region_quiet_tail (l1:=[_,_,_,_,_,_,_,_,_,_,_,_,_,_]) (l2:=[_]) (by kernel_rfl) (by kernel_rfl) (by kernel_rfl) (by kernel_rfl) (by kernel_rfl) ?_
  repeat (quiet_step (first | exact cA _ _))
  refine wpQuiet_nil ?_;intro _ hw';obtain⟨⟨dq,osq⟩,hw''⟩:=hw';subst hw'';replace HB1:=Hd (HBQ.out dq osq);replace HRW:=Hd (HRQ.out dq osq);clear q0 q2 q4 l0 l2 l4 cA HBQ HRQ;generalize grow (redrawn w1 dq) osq=wq at *
  go_wp2_with (refine wpList_store_row rfl _ _ _ rfl (w.heap.size+1) _ rfl rfl _ _ HRW.out row_info rfl (by simp [Value.oneCell']) ?_)
  exact bodyPost_ret (res_row rfl _ _ (w.heap.size+1) _ rfl rfl (setRow_heap _ _ _ _ _ _ HRW.out)) rfl ⟨0,x.s,0,A,x.arms,ca,false,1,1,rfl,HAR.out _ (below_setRow HB1.out (Nat.le_succ _) _),HE,below_setRow HB1.out (Nat.le_succ _) _⟩
 | true=>
  have HE:=row_11 x hk;rw [hlo,Bool.true_and] at HE;have HLW:=Hd fun w1=>idLow x.s w1 (by omega);rw [hlo] at HLW
  go_enter Tryz.func183,Tryz.ntmps183
  go_upto_region 1 with(fail)
  generalize hw1:(w.alloc _).alloc _=w1;obtain⟨hb1,hg,hr1,hcell,hrow⟩:=HF.out w1 hw1;have HB1:=Hd hb1;have HRW:=Hd hrow;obtain⟨q0,-,q2,-,q4,-⟩:=Sx (hcell w1 (Below.refl _ _));clear hcell hrow hb1 hr1 hw1 HF
  go_wp2_with fail
  have HBQ:=Hd fun d os=>HB1.out.trans ((below_regrown w1 d os).mono HB1.out.size);have HRQ:=Hd fun d os=>((below_regrown w1 d os).block _ hg).trans HRW.out;have l0:=fun d os=>cell_regrown q0 d os;have l2:=fun d os=>cell_regrown q2 d os;have l4:=fun d os=>cell_regrown q4 d os;have cA:=fun d os=>Calls.regrown_of (HLW.out (grow (redrawn w1 d) os));have cB:=fun d os=>Calls.regrown_of (HARM.out 1 (grow (redrawn w1 d) os) (HBQ.out d os));refine wp_region_quiet_tail (l1:=[_,_,_,_,_,_,_,_,_,_,_,_,_,_]) (l2:=[_]) (by kernel_rfl) (by kernel_rfl) (by kernel_rfl) (by kernel_rfl) (by kernel_rfl) ?_
  repeat (quiet_step (first | exact cA _ _ | exact cB _ _))
  refine wpQuiet_nil ?_;intro _ hw';obtain⟨⟨dq,osq⟩,hw''⟩:=hw';subst hw'';replace HB1:=Hd (HBQ.out dq osq);replace HRW:=Hd (HRQ.out dq osq);clear q0 q2 q4 l0 l2 l4 cA cB HBQ HRQ;generalize grow (redrawn w1 dq) osq=wq at *
  go_wp2_with (refine wpList_store_row rfl _ _ _ rfl (w.heap.size+1) _ rfl rfl _ _ HRW.out row_info rfl (by simp [Value.oneCell']) ?_)
  exact bodyPost_ret (res_row rfl _ _ (w.heap.size+1) _ rfl rfl (setRow_heap _ _ _ _ _ _ HRW.out)) rfl ⟨0,x.s,0,A,x.arms,ca,_,1,1,rfl,HAR.out _ (below_setRow HB1.out (Nat.le_succ _) _),HE,below_setRow HB1.out (Nat.le_succ _) _⟩
theorem asked_12(hr:rdX w x A B) (hsh:ShortP x) (hk:x.k=12):
 Calls Tryz.prog 183 #[.agg (exA x A ca B cb)] w fun e w'=>RowAt w w' e x:=by
 have HF:=Hd fun w1 h=>boxr_facts w x A ca B cb w1 h hr;have HRX:=Hd fun w2 (h:Below w.heap.size w w2)=>(hr.below h).arms;have HAR:=HRX;have HARM:=Hd fun(m:Int) w2 (h:Below w.heap.size w w2)=>exArms A x.arms.length ca m x.arms w2 (hr.below h).arms hsh.2.1 hsh.2.2;have hmx:=hr.subs.max;have hsz:=hsh.1;clear hr;unfold exA at HF ⊢;unfold rowA at HF;rw [hk] at HF ⊢
 cases hlo:lowB x.s.data.toList with
 | false=>
  have HE:=row_12 x hk;rw [hlo,Bool.false_and] at HE;have HLW:=Hd fun w1=>idLow x.s w1 (by omega);rw [hlo] at HLW
  go_enter Tryz.func183,Tryz.ntmps183
  go_upto_region 1 with(fail)
  generalize hw1:(w.alloc _).alloc _=w1;obtain⟨hb1,hg,hr1,hcell,hrow⟩:=HF.out w1 hw1;have HB1:=Hd hb1;have HRW:=Hd hrow;obtain⟨q0,-,q2,-,q4,-⟩:=Sx (hcell w1 (Below.refl _ _));clear hcell hrow hb1 hr1 hw1 HF
  go_wp2_with fail
  have HBQ:=Hd fun d os=>HB1.out.trans ((below_regrown w1 d os).mono HB1.out.size);have HRQ:=Hd fun d os=>((below_regrown w1 d os).block _ hg).trans HRW.out;have l0:=fun d os=>cell_regrown q0 d os;have l2:=fun d os=>cell_regrown q2 d os;have l4:=fun d os=>cell_regrown q4 d os;have cA:=fun d os=>Calls.regrown_of (HLW.out (grow (redrawn w1 d) os));refine wp_region_quiet_tail (l1:=[_,_,_,_,_,_,_,_,_,_,_,_,_,_,_,_]) (l2:=[_]) (by kernel_rfl) (by kernel_rfl) (by kernel_rfl) (by kernel_rfl) (by kernel_rfl) ?_
  repeat (quiet_step (first | exact cA _ _))
  refine wpQuiet_nil ?_;intro _ hw';obtain⟨⟨dq,osq⟩,hw''⟩:=hw';subst hw'';replace HB1:=Hd (HBQ.out dq osq);replace HRW:=Hd (HRQ.out dq osq);clear q0 q2 q4 l0 l2 l4 cA HBQ HRQ;generalize grow (redrawn w1 dq) osq=wq at *
  go_wp2_with (refine wpList_store_row rfl _ _ _ rfl (w.heap.size+1) _ rfl rfl _ _ HRW.out row_info rfl (by simp [Value.oneCell']) ?_)
  exact bodyPost_ret (res_row rfl _ _ (w.heap.size+1) _ rfl rfl (setRow_heap _ _ _ _ _ _ HRW.out)) rfl ⟨0,x.s,0,A,x.arms,ca,false,_,_,rfl,HAR.out _ (below_setRow HB1.out (Nat.le_succ _) _),HE,below_setRow HB1.out (Nat.le_succ _) _⟩
 | true=>
  have HE:=row_12 x hk;rw [hlo,Bool.true_and] at HE;have HLW:=Hd fun w1=>idLow x.s w1 (by omega);rw [hlo] at HLW
  go_enter Tryz.func183,Tryz.ntmps183
  go_upto_region 1 with(fail)
  generalize hw1:(w.alloc _).alloc _=w1;obtain⟨hb1,hg,hr1,hcell,hrow⟩:=HF.out w1 hw1;have HB1:=Hd hb1;have HRW:=Hd hrow;obtain⟨q0,-,q2,-,q4,-⟩:=Sx (hcell w1 (Below.refl _ _));clear hcell hrow hb1 hr1 hw1 HF
  go_wp2_with fail
  have HBQ:=Hd fun d os=>HB1.out.trans ((below_regrown w1 d os).mono HB1.out.size);have HRQ:=Hd fun d os=>((below_regrown w1 d os).block _ hg).trans HRW.out;have l0:=fun d os=>cell_regrown q0 d os;have l2:=fun d os=>cell_regrown q2 d os;have l4:=fun d os=>cell_regrown q4 d os;have cA:=fun d os=>Calls.regrown_of (HLW.out (grow (redrawn w1 d) os));have cB:=fun d os=>Calls.regrown_of (HARM.out 6 (grow (redrawn w1 d) os) (HBQ.out d os));refine wp_region_quiet_tail (l1:=[_,_,_,_,_,_,_,_,_,_,_,_,_,_,_,_]) (l2:=[_]) (by kernel_rfl) (by kernel_rfl) (by kernel_rfl) (by kernel_rfl) (by kernel_rfl) ?_
  repeat (quiet_step (first | exact cA _ _ | exact cB _ _))
  refine wpQuiet_nil ?_;intro _ hw';obtain⟨⟨dq,osq⟩,hw''⟩:=hw';subst hw'';replace HB1:=Hd (HBQ.out dq osq);replace HRW:=Hd (HRQ.out dq osq);clear q0 q2 q4 l0 l2 l4 cA cB HBQ HRQ;generalize grow (redrawn w1 dq) osq=wq at *
  go_wp2_with (refine wpList_store_row rfl _ _ _ rfl (w.heap.size+1) _ rfl rfl _ _ HRW.out row_info rfl (by simp [Value.oneCell']) ?_)
  exact bodyPost_ret (res_row rfl _ _ (w.heap.size+1) _ rfl rfl (setRow_heap _ _ _ _ _ _ HRW.out)) rfl ⟨0,x.s,0,A,x.arms,ca,_,_,_,rfl,HAR.out _ (below_setRow HB1.out (Nat.le_succ _) _),HE,below_setRow HB1.out (Nat.le_succ _) _⟩
theorem asked_13(hr:rdX w x A B) (hsh:ShortP x) (hk:x.k=13):
 Calls Tryz.prog 183 #[.agg (exA x A ca B cb)] w fun e w'=>RowAt w w' e x:=by
 have HF:=Hd fun w1 h=>boxr_facts w x A ca B cb w1 h hr;have HRX:=Hd fun w2 (h:Below w.heap.size w w2)=>(hr.below h).arms;have HAR:=HRX;have HARM:=Hd fun(m:Int) w2 (h:Below w.heap.size w w2)=>exArms A x.arms.length ca m x.arms w2 (hr.below h).arms hsh.2.1 hsh.2.2;have hmx:=hr.subs.max;have hsz:=hsh.1;clear hr;unfold exA at HF ⊢;unfold rowA at HF;rw [hk] at HF ⊢
 cases hlo:lowB x.s.data.toList with
 | false=>
  have HE:=row_13 x (IntKind.i64.wrap (6+x.n)) hk (fun h=>wrap_bit h);rw [hlo,Bool.false_and] at HE;have HLW:=Hd fun w1=>idLow x.s w1 (by omega);rw [hlo] at HLW
  go_enter Tryz.func183,Tryz.ntmps183
  go_upto_region 1 with(fail)
  generalize hw1:(w.alloc _).alloc _=w1;obtain⟨hb1,hg,hr1,hcell,hrow⟩:=HF.out w1 hw1;have HB1:=Hd hb1;have HRW:=Hd hrow;obtain⟨q0,q1,q2,-,-,-⟩:=Sx (hcell w1 (Below.refl _ _));clear hcell hrow hb1 hr1 hw1 HF
  go_wp2_with fail
  have HBQ:=Hd fun d os=>HB1.out.trans ((below_regrown w1 d os).mono HB1.out.size);have HRQ:=Hd fun d os=>((below_regrown w1 d os).block _ hg).trans HRW.out;have l0:=fun d os=>cell_regrown q0 d os;have l1:=fun d os=>cell_regrown q1 d os;have l2:=fun d os=>cell_regrown q2 d os;have cA:=fun d os=>Calls.regrown_of (HLW.out (grow (redrawn w1 d) os));refine wp_region_quiet_tail (l1:=[_,_,_,_,_,_,_,_,_,_,_,_,_,_,_,_,_]) (l2:=[_]) (by kernel_rfl) (by kernel_rfl) (by kernel_rfl) (by kernel_rfl) (by kernel_rfl) ?_
  repeat (quiet_step (first | exact cA _ _))
  refine wpQuiet_nil ?_;intro _ hw';obtain⟨⟨dq,osq⟩,hw''⟩:=hw';subst hw'';replace HB1:=Hd (HBQ.out dq osq);replace HRW:=Hd (HRQ.out dq osq);clear q0 q1 q2 l0 l1 l2 cA HBQ HRQ;generalize grow (redrawn w1 dq) osq=wq at *
  go_wp2_with (refine wpList_store_row rfl _ _ _ rfl (w.heap.size+1) _ rfl rfl _ _ HRW.out row_info rfl (by simp [Value.oneCell']) ?_)
  exact bodyPost_ret (res_row rfl _ _ (w.heap.size+1) _ rfl rfl (setRow_heap _ _ _ _ _ _ HRW.out)) rfl ⟨x.n,x.s,0,none,[],0,false,_,_,rfl,RdT.nil_ _,HE,below_setRow HB1.out (Nat.le_succ _) _⟩
 | true=>
  have HE:=row_13 x (IntKind.i64.wrap (6+x.n)) hk (fun h=>wrap_bit h);rw [hlo,Bool.true_and] at HE;have HLW:=Hd fun w1=>idLow x.s w1 (by omega);rw [hlo] at HLW
  go_enter Tryz.func183,Tryz.ntmps183
  go_upto_region 1 with(fail)
  generalize hw1:(w.alloc _).alloc _=w1;obtain⟨hb1,hg,hr1,hcell,hrow⟩:=HF.out w1 hw1;have HB1:=Hd hb1;have HRW:=Hd hrow;obtain⟨q0,q1,q2,-,-,-⟩:=Sx (hcell w1 (Below.refl _ _));clear hcell hrow hb1 hr1 hw1 HF
  go_wp2_with fail
  have HBQ:=Hd fun d os=>HB1.out.trans ((below_regrown w1 d os).mono HB1.out.size);have HRQ:=Hd fun d os=>((below_regrown w1 d os).block _ hg).trans HRW.out;have l0:=fun d os=>cell_regrown q0 d os;have l1:=fun d os=>cell_regrown q1 d os;have l2:=fun d os=>cell_regrown q2 d os;have cA:=fun d os=>Calls.regrown_of (HLW.out (grow (redrawn w1 d) os));have cB:=fun d os=>Calls.regrown_of (exBitB x.n (grow (redrawn w1 d) os));refine wp_region_quiet_tail (l1:=[_,_,_,_,_,_,_,_,_,_,_,_,_,_,_,_,_]) (l2:=[_]) (by kernel_rfl) (by kernel_rfl) (by kernel_rfl) (by kernel_rfl) (by kernel_rfl) ?_
  repeat (quiet_step (first | exact cA _ _ | exact cB _ _))
  refine wpQuiet_nil ?_;intro _ hw';obtain⟨⟨dq,osq⟩,hw''⟩:=hw';subst hw'';replace HB1:=Hd (HBQ.out dq osq);replace HRW:=Hd (HRQ.out dq osq);clear q0 q1 q2 l0 l1 l2 cA cB HBQ HRQ;generalize grow (redrawn w1 dq) osq=wq at *
  go_wp2_with (refine wpList_store_row rfl _ _ _ rfl (w.heap.size+1) _ rfl rfl _ _ HRW.out row_info rfl (by simp [Value.oneCell']) ?_)
  exact bodyPost_ret (res_row rfl _ _ (w.heap.size+1) _ rfl rfl (setRow_heap _ _ _ _ _ _ HRW.out)) rfl ⟨x.n,x.s,0,none,[],0,_,_,_,rfl,RdT.nil_ _,HE,below_setRow HB1.out (Nat.le_succ _) _⟩
theorem asked_14(hr:rdX w x A B) (hsh:ShortP x) (hk:x.k=14):
 Calls Tryz.prog 183 #[.agg (exA x A ca B cb)] w fun e w'=>RowAt w w' e x:=by
 have HF:=Hd fun w1 h=>boxr_facts w x A ca B cb w1 h hr;have HRX:=Hd fun w2 (h:Below w.heap.size w w2)=>(hr.below h).arms;have HAR:=HRX;have HARM:=Hd fun(m:Int) w2 (h:Below w.heap.size w w2)=>exArms A x.arms.length ca m x.arms w2 (hr.below h).arms hsh.2.1 hsh.2.2;have hmx:=hr.subs.max;have hsz:=hsh.1;clear hr;unfold exA at HF ⊢;unfold rowA at HF;rw [hk] at HF ⊢
 go_enter Tryz.func183,Tryz.ntmps183
 go_upto_region 1 with(fail)
 generalize hw1:(w.alloc _).alloc _=w1;obtain⟨hb1,hg,hr1,hcell,hrow⟩:=HF.out w1 hw1;have HB1:=Hd hb1;have HRW:=Hd hrow;have q0:=hcell w1 (Below.refl _ _) 0;clear hcell hrow hb1 hr1 hw1 HF
 go_wp2_with (refine wpList_store_row rfl _ _ _ rfl (w.heap.size+1) _ rfl rfl _ _ HRW.out row_info rfl (by simp [Value.oneCell']) ?_)
 exact bodyPost_ret (res_row rfl _ _ (w.heap.size+1) _ rfl rfl (setRow_heap _ _ _ _ _ _ HRW.out)) rfl ⟨0,ByteArray.empty,0,none,[],0,_,1,8,rfl,RdT.nil_ _,row_14 x hk,below_setRow HB1.out (Nat.le_succ _) _⟩
theorem asked_no(hr:rdX w x A B) (hsh:ShortP x) (h1:x.k≠1) (h2:x.k≠2) (h3:x.k≠3) (h4:x.k≠4) (h17:x.k≠17) (h5:x.k≠5) (h6:x.k≠6) (h7:x.k≠7) (h16:x.k≠16) (h8:x.k≠8) (h9:x.k≠9) (h15:x.k≠15) (h10:x.k≠10) (h11:x.k≠11) (h12:x.k≠12) (h13:x.k≠13) (h14:x.k≠14) (hk:x.k<1∨17<x.k):
 Calls Tryz.prog 183 #[.agg (exA x A ca B cb)] w fun e w'=>RowAt w w' e x:=by
 have HF:=Hd fun w1 h=>boxr_facts w x A ca B cb w1 h hr;have HRX:=Hd fun w2 (h:Below w.heap.size w w2)=>(hr.below h).arms;have HAR:=HRX;have HARM:=Hd fun(m:Int) w2 (h:Below w.heap.size w w2)=>exArms A x.arms.length ca m x.arms w2 (hr.below h).arms hsh.2.1 hsh.2.2;have hmx:=hr.subs.max;have hsz:=hsh.1;clear hr;unfold exA at HF ⊢;unfold rowA at HF;generalize hkk:x.k=k at HF ⊢ h1 h2 h3 h4 h17 h5 h6 h7 h16 h8 h9 h15 h10 h11 h12 h13 h14;have e1:(k==1)=false:=by simpa using h1
 have e2:(k==2)=false:=by simpa using h2
 have e3:(k==3)=false:=by simpa using h3
 have e4:(k==4)=false:=by simpa using h4
 have e17:(k==17)=false:=by simpa using h17
 have e5:(k==5)=false:=by simpa using h5
 have e6:(k==6)=false:=by simpa using h6
 have e7:(k==7)=false:=by simpa using h7
 have e16:(k==16)=false:=by simpa using h16
 have e8:(k==8)=false:=by simpa using h8
 have e9:(k==9)=false:=by simpa using h9
 have e15:(k==15)=false:=by simpa using h15
 have e10:(k==10)=false:=by simpa using h10
 have e11:(k==11)=false:=by simpa using h11
 have e12:(k==12)=false:=by simpa using h12
 have e13:(k==13)=false:=by simpa using h13
 have e14:(k==14)=false:=by simpa using h14
 go_enter Tryz.func183,Tryz.ntmps183
 go_upto_region 1 with(fail)
 generalize hw1:(w.alloc _).alloc _=w1;obtain⟨hb1,hg,hr1,hcell,hrow⟩:=HF.out w1 hw1;have HB1:=Hd hb1;have HRW:=Hd hrow;have q0:=hcell w1 (Below.refl _ _) 0;clear hcell hrow hb1 hr1 hw1 HF
 go_wp2_with (refine wpList_store_row rfl _ _ _ rfl (w.heap.size+1) _ rfl rfl _ _ HRW.out row_info rfl (by simp [Value.oneCell']) ?_)
 exact bodyPost_ret (res_row rfl _ _ (w.heap.size+1) _ rfl rfl (setRow_heap _ _ _ _ _ _ HRW.out)) rfl ⟨0,ByteArray.empty,0,none,[],0,_,0,0,rfl,RdT.nil_ _,row_no x _ _ _ _ _ _ hk,below_setRow HB1.out (Nat.le_succ _) _⟩
theorem exAsked(hr:rdX w x A B) (hsh:ShortP x):
 Calls Tryz.prog 183 #[.agg (exA x A ca B cb)] w fun e w'=>RowAt w w' e x:=by
 by_cases h1:x.k=1
 · exact asked_1 x A ca B cb w hr hsh h1
 by_cases h2:x.k=2
 · exact asked_2 x A ca B cb w hr hsh h2
 by_cases h3:x.k=3
 · exact asked_3 x A ca B cb w hr hsh h3
 by_cases h4:x.k=4
 · exact asked_4 x A ca B cb w hr hsh h4
 by_cases h17:x.k=17
 · exact asked_17 x A ca B cb w hr hsh h17
 by_cases h5:x.k=5
 · exact asked_5 x A ca B cb w hr hsh h5
 by_cases h6:x.k=6
 · exact asked_6 x A ca B cb w hr hsh h6
 by_cases h7:x.k=7
 · exact asked_7 x A ca B cb w hr hsh h7
 by_cases h16:x.k=16
 · exact asked_16 x A ca B cb w hr hsh h16
 by_cases h8:x.k=8
 · exact asked_8 x A ca B cb w hr hsh h8
 by_cases h9:x.k=9
 · exact asked_9 x A ca B cb w hr hsh h9
 by_cases h15:x.k=15
 · exact asked_15 x A ca B cb w hr hsh h15
 by_cases h10:x.k=10
 · exact asked_10 x A ca B cb w hr hsh h10
 by_cases h11:x.k=11
 · exact asked_11 x A ca B cb w hr hsh h11
 by_cases h12:x.k=12
 · exact asked_12 x A ca B cb w hr hsh h12
 by_cases h13:x.k=13
 · exact asked_13 x A ca B cb w hr hsh h13
 by_cases h14:x.k=14
 · exact asked_14 x A ca B cb w hr hsh h14
 exact asked_no x A ca B cb w hr hsh h1 h2 h3 h4 h17 h5 h6 h7 h16 h8 h9 h15 h10 h11 h12 h13 h14 (by omega)
end
end Go.Proofs.YtkbpdoomhfkngaaGreat
