/- Parts of the proof: TrV, TrW, TrX, TrY. Conditions: each theorem's own. -/
import Derived.Test.YtegjgiofmpolnaaGreatO29
import Derived.Test.YtegjgiofmpolnaaGreatO43
namespace Go.Proofs.YtegjgiofmpolnaaGreat
set_option linter.unusedVariables false
set_option linter.unusedSimpArgs false
set_option maxRecDepth 100000
set_option maxHeartbeats 40000000
section
open Go.RowKit Go.Sort Go.BigFrame
theorem check_en{p:Pg}(h:checkN p=0):enumsN p.es=0:=by
 unfold checkN at h
 split at h
 · assumption
 · exact h
theorem few_nodes{p:Pg}(ht:TinyP p):∀ j,j<p.ns.length→(ndAt p j).ins.length≤1000∧(ndAt p j).outs.length≤1000:=fun j hj=>by
 have h1:=(tiny_few (ht.2.2 j hj)).1;rw [all_len] at h1;unfold ndAt;omega
theorem trOf(p:Pg) (E:Option Addr) (ec:Nat) (N:Option Addr) (nc:Nat) (i:Int) (x:Ex) (A:Option Addr) (ca:Nat) (B:Option Addr) (cb:Nat) (w:World) (h:rdP w p E N) (hx:rdX w x A B) (ht:TinyP p) (h0:checkN p=0) (hg:GoodX x) (hrx:rightX x=true):
 Calls Tryz.prog 13 #[.agg (pgA p E ec N nc),.int .i64 i,.agg (exA x A ca B cb)] w (TyZ w (typOf p i x)):=by
 have HF:=Hd fun w0 hw=>any_box2Z (w:=w) (w1:=w0) (cs:=pgA p E ec N nc) (ds:=exA x A ca B cb) (T:=25) (U:=35) (V:=38) hw;have hmx:=RdS.max h.2
 by_cases hi0:i<0
 · have HO:=Hd (show typOf p i x=none by unfold typOf;rw [if_pos (.inl hi0)]);rw [HO.out];have hd:decide (i<0)=true:=decide_eq_true hi0;clear h hx ht h0 hg hrx;unfold pgA exA at *
   go_enter Tryz.func13,Tryz.ntmps13
   go_upto_region 1 with(fail)
   generalize hw0:((w.alloc _).alloc _).alloc _=w0;obtain⟨hb0,hsz,hce,hce2,hR⟩:=HF.out w0 hw0;have HB0:=Hd hb0;have HR:=Hd hR;clear hw0 hb0 hsz hce hce2 hR HF
   go_wp2_with (refine wpList_store_row rfl _ _ _ rfl (w.heap.size+1+1) _ rfl rfl _ _ HR.out ty3_info rfl (by simp [Value.oneCell']) ?_)
   exact bodyPost_ret (res_ty2 (p:=6) (u:=7) rfl _ _ (w.heap.size+1+1) 0 0 0 rfl (HR.out.set 0 0 0)) rfl (tyz_none (rfl) ⟨rfl,below_setRow HB0.out (by omega) _⟩)
 by_cases hi1:(p.ns.length:Int)≤i
 · have HO:=Hd (show typOf p i x=none by unfold typOf;rw [if_pos (.inr hi1)]);rw [HO.out];have hd:decide (i<0)=false:=decide_eq_false hi0;have hd1:decide ((p.ns.length:Int)≤i)=true:=decide_eq_true hi1;clear h hx ht h0 hg hrx;unfold pgA exA at *
   go_enter Tryz.func13,Tryz.ntmps13
   go_upto_region 1 with(fail)
   generalize hw0:((w.alloc _).alloc _).alloc _=w0;obtain⟨hb0,hsz,hce,hce2,hR⟩:=HF.out w0 hw0;have HB0:=Hd hb0;have HR:=Hd hR;have q1:=hce w0 (Below.refl _ _) 1;simp only [Ya,Yb,Yc] at q1;clear hw0 hb0 hsz hce hce2 hR HF
   go_wp2_with (refine wpList_store_row rfl _ _ _ rfl (w.heap.size+1+1) _ rfl rfl _ _ HR.out ty3_info rfl (by simp [Value.oneCell']) ?_)
   exact bodyPost_ret (res_ty2 (p:=6) (u:=7) rfl _ _ (w.heap.size+1+1) 0 0 0 rfl (HR.out.set 0 0 0)) rfl (tyz_none (rfl) ⟨rfl,below_setRow HB0.out (by omega) _⟩)
 obtain⟨n,rfl⟩:∃ n:Nat,i=n:=⟨i.toNat,by omega⟩;have hn:n<p.ns.length:=by omega
 have HRX:=Hd fun w1 (hb:Below w.heap.size w w1)=>exRight x A ca B cb w1 (hx.below hb) hg.1 (fun q hq=>(hg.2 q hq).1);rw [hrx] at HRX;obtain⟨nb,no,A1,c1,A2,c2,A3,c3,A4,c4,hN,hnb,hrd,d0,d1,d2,d3,d4⟩:=nd_at15 h.2 hn;have HOF:=Hd fun w1 (hb:Below w.heap.size w w1)=>trOfX p n ⟨E,ec,N,nc,A1,c1,A2,c2,A3,c3,A4,c4⟩ (check_en h0) (types_of ht h0 hn).1 (few_nodes ht) x A ca B cb w1 ⟨h.below hb,hrd.below hb⟩ (hx.below hb) hg;rw [show typX p n x=typOf p n x by unfold typOf;rw [if_neg (by omega)];rfl] at HOF;have HZ:=Hd (show ∀ e w',(e=.returned (.tuple #[.agg (f3A ((typOf p n x).getD (0,0,0)).1 ((typOf p n x).getD (0,0,0)).2.1 ((typOf p n x).getD (0,0,0)).2.2),.bool (typOf p n x).isSome])∧Below w.heap.size w w')→TyZ w (typOf p n x) e w' from fun e w' h=>h);generalize typOf p n x=o at *;generalize TyZ w o=post at *;unfold TyZ at HOF;generalize o.isSome=os at *;generalize (o.getD (0,0,0)).1=x0 at *;generalize (o.getD (0,0,0)).2.1=x1 at *;generalize (o.getD (0,0,0)).2.2=x2 at *
 have HD:=Hd (show ∀ w1,Below w.heap.size w w1→w1.cell? ⟨nb,no+n*5,none⟩=some (.string (ndAt p n).nm)∧w1.cell? ⟨nb,no+n*5+1,none⟩=some (.slice A1 (ndAt p n).ins.length c1)∧w1.cell? ⟨nb,no+n*5+2,none⟩=some (.slice A2 (ndAt p n).outs.length c2)∧w1.cell? ⟨nb,no+n*5+3,none⟩=some (.slice A3 (ndAt p n).vars.length c3)∧w1.cell? ⟨nb,no+n*5+4,none⟩=some (.slice A4 (ndAt p n).eqs.length c4) from
  fun w1 hb=>⟨(hb.cell (p:=⟨nb,no+n*5,none⟩) hnb).trans d0,(hb.cell (p:=⟨nb,no+n*5+1,none⟩) hnb).trans d1,(hb.cell (p:=⟨nb,no+n*5+2,none⟩) hnb).trans d2,(hb.cell (p:=⟨nb,no+n*5+3,none⟩) hnb).trans d3,(hb.cell (p:=⟨nb,no+n*5+4,none⟩) hnb).trans d4⟩)
 have HNB:=Hd hnb;clear h hx ht h0 hg hrx hrd d0 d1 d2 d3 d4 hnb;unfold f3A at HOF HZ;unfold rvA at HOF;unfold pgA exA at *
 dsimp only at HOF
 rw [hN] at HOF HF ⊢;generalize ndAt p n=nd at *;have hd:decide ((n:Int)<0)=false:=decide_eq_false hi0;have hd1:decide ((p.ns.length:Int)≤(n:Int))=false:=decide_eq_false hi1;have hni:(n:Int)<(p.ns.length:Int):=by omega
 go_enter Tryz.func13,Tryz.ntmps13
 go_upto_region 1 with(fail)
 generalize hw0:((w.alloc _).alloc _).alloc _=w0;obtain⟨hb0,hsz,hce,hce2,hR⟩:=HF.out w0 hw0;have HB0:=Hd hb0;have HR:=Hd hR;have HP:=Hd hce;have HX:=Hd hce2;have q1:=hce w0 (Below.refl _ _) 1;obtain⟨r0,r1,r2,r3,r4,r5⟩:=Sx (hce2 w0 (Below.refl _ _));simp only [Ya,Yb,Yc] at q1 r0 r1 r2 r3 r4 r5;clear hw0 hb0 hsz hce hce2 hR HF
 go_wp2_with fail
 refine(HRX.out w0 HB0.out).mono ?_;rintro e w1 ⟨rfl,hb1⟩;have HB1:=Hd (below_next2 HB0.out hb1);have HR:=Hd (HR.out.below hb1);have q0:=HP.out w1 hb1 0;have q1:=HP.out w1 hb1 1;obtain⟨r0,r1,r2,r3,r4,r5⟩:=Sx (HX.out w1 hb1);simp only [Ya,Yb,Yc] at q0 q1 r0 r1 r2 r3 r4 r5;obtain⟨d0,d1,d2,d3,d4⟩:=HD.out w1 HB1.out;have hnr:w.heap.size≠w.heap.size+1+1:=by omega
 have hnx:w.heap.size+1≠w.heap.size+1+1:=by omega
 have hnn:nb≠w.heap.size+1+1:=by have:=HNB.out;omega
 clear hb1 HRX HP HX HD HNB
 go_upto_region 3 with(fail)
 refine wp_region_out (l1:=[_,_,_,_,_,_,_,_,_,_,_]) (os:=_) (l2:=[_]) (p:=6) (tx:=32) (r:=w.heap.size+1+1) (T:=38) (zc:=f3A 0 0 0) (by kernel_rfl) (by kernel_rfl) rfl HR.out rfl infoTy0 ?_
 repeat
  apply fix_step rfl (by simp)
  case h1=>
   intro wb hb;have l0:=fun d os=>cell_regrown (bs_cell hb hnr q0) d os;have l1:=fun d os=>cell_regrown (bs_cell hb hnr q1) d os;have l2:=fun d os=>cell_regrown (bs_cell hb hnx r0) d os;have l3:=fun d os=>cell_regrown (bs_cell hb hnx r1) d os;have l4:=fun d os=>cell_regrown (bs_cell hb hnx r2) d os;have l5:=fun d os=>cell_regrown (bs_cell hb hnx r3) d os;have l6:=fun d os=>cell_regrown (bs_cell hb hnx r4) d os;have l7:=fun d os=>cell_regrown (bs_cell hb hnx r5) d os;have m0:=fun d os=>cell_regrown (bs_cell hb hnn d0) d os;have m1:=fun d os=>cell_regrown (bs_cell hb hnn d1) d os;have m2:=fun d os=>cell_regrown (bs_cell hb hnn d2) d os;have m3:=fun d os=>cell_regrown (bs_cell hb hnn d3) d os;have m4:=fun d os=>cell_regrown (bs_cell hb hnn d4) d os;have cA:=fun d os=>Calls.regrown_of (HOF.out (grow (redrawn wb d) os) (below_next2 (bs_below hb HB1.out (Nat.le_refl _) (by omega)) (below_regrown wb d os)))
   go_big_quiet_step (first | with_reducible exact cA _ _)
   refine wpQuiet_nil ?_;simp only [List.getElem?_toArray,List.getElem?_cons_succ,List.getElem?_cons_zero];exact rfl
  simp only [Act.put,Yd,Ye,Yf]
 refine⟨f3A x0 x1 x2,rfl,rfl,by simp [f3A,Value.oneCell'],fun W hB hz=>?_⟩;have HB4:=Hd (bs_below hB HB1.out (Nat.le_refl _) (by omega));have HZ4:=Hd hz;clear hB hz
 go_wp2_with fail
 exact bodyPost_ret (res_ty2 (p:=6) (u:=7) rfl _ _ (w.heap.size+1+1) x0 x1 x2 rfl HZ4.out) rfl (HZ.out _ _ ⟨rfl,HB4.out⟩)
end
section
open Go.RowKit Go.Sort Go.BigFrame
end
section
open Go.RowKit Go.Sort Go.BigFrame
def liveA:Dc:=⟨⟨#[97]⟩,1,0,0,⟨#[]⟩,⟨#[]⟩⟩
def liveB:Dc:=⟨⟨#[98]⟩,1,0,0,⟨#[]⟩,⟨#[]⟩⟩
def liveN:Nd:=⟨⟨#[102]⟩,[liveA],[liveB],[],[]⟩
def liveP:Pg:=⟨[],[liveN]⟩
def liveE:Ex:=.mk 3 0 ⟨#[97]⟩ 0 [] []
def liveO:Ex:=.mk 1 1 ⟨#[]⟩ 0 [] []
def liveX(op:Int):Ex:=.mk 6 0 ⟨#[]⟩ op [] [liveE,liveO]
theorem live_check:checkN liveP=0:=by kernel_rfl
theorem live_tiny:TinyP liveP:=by
 refine⟨⟨by decide,fun j hj=>by simp [liveP] at hj⟩,by decide,fun j hj=>?_⟩;obtain rfl:j=0:=by simp [liveP] at hj;omega
 refine⟨by decide,by decide,by decide,by decide,by decide,fun i hi=>?_⟩
 simp [liveP,liveN] at hi
theorem live_typ3:typOf liveP 0 (liveX 3)=some (1,0,0):=by kernel_rfl
theorem live_typ8:typOf liveP 0 (liveX 8)=none:=by kernel_rfl
theorem live_right3:rightX (liveX 3)=true:=by kernel_rfl
theorem live_right8:rightX (liveX 8)=true:=by kernel_rfl
theorem live_good3:GoodX (liveX 3):=good_small (by kernel_rfl) live_right3
theorem live_good8:GoodX (liveX 8):=good_small (by kernel_rfl) live_right8
theorem alloc_cells{w w':World}{cs:Array Value}{T:TypeId}(h:w.alloc (.cells cs T)=w'):Below w.heap.size w w'∧w'.heap.size=w.heap.size+1∧∀ w'',Below w'.heap.size w' w''→∀ j,w''.cell? ⟨w.heap.size,j,none⟩=cs[j]?:=by
 subst h;refine⟨(Below.refl _ _).alloc (Nat.le_refl _) _,by simp,fun w'' hb j=>?_⟩;rw [hb.cell (p:=⟨w.heap.size,j,none⟩) (by simp),World.cell?_alloc_new]
theorem rdD_of{w:World}{b:Nat}{d:Dc}(hb:b<w.heap.size) (h:∀ j,w.cell? ⟨b,j,none⟩=(dcA d)[j]?):RdD w (some ⟨b,0,none⟩) 1 [d]:=by
 refine⟨rfl,by omega,fun _=>⟨b,0,rfl,hb,fun i hi=>?_⟩⟩;obtain rfl:i=0:=by omega
 intro j v hv;rw [Nat.zero_mul,Nat.add_zero,Nat.zero_add,h j]
 simpa [dcA,dcL] using hv
theorem live_mem(w w6:World) (h:((((w.alloc (.cells (dcA liveA) 58)).alloc (.cells (dcA liveB) 58)).alloc
 (.cells (ndA liveN (some ⟨w.heap.size,0,none⟩) 1 (some ⟨w.heap.size+1,0,none⟩) 1 none 0 none 0) 53)).alloc (.cells (pgA liveP none 0 (some ⟨w.heap.size+1+1,0,none⟩) 1) 25))=w6):
 rdP w6 liveP none (some ⟨w.heap.size+1+1,0,none⟩)∧Below w.heap.size w w6∧w.heap.size+1+1+1<w6.heap.size∧∀ w'',Below w6.heap.size w6 w''→∀ j,w''.cell? ⟨w.heap.size+1+1+1,j,none⟩=(pgA liveP none 0 (some ⟨w.heap.size+1+1,0,none⟩) 1)[j]?:=by
 generalize h1:w.alloc (.cells (dcA liveA) 58)=w1 at h;obtain⟨b1,e1,k1⟩:=alloc_cells h1;generalize h2:w1.alloc (.cells (dcA liveB) 58)=w2 at h;obtain⟨b2,e2,k2⟩:=alloc_cells h2;generalize h3:w2.alloc _=w3 at h;obtain⟨b3,e3,k3⟩:=alloc_cells h3;obtain⟨b4,e4,k4⟩:=alloc_cells h;have c3:Below w3.heap.size w3 w6:=b4;have c2:Below w2.heap.size w2 w6:=b3.trans (c3.mono b3.size);have c1:Below w1.heap.size w1 w6:=b2.trans (c2.mono b2.size);have c0:Below w.heap.size w w6:=b1.trans (c1.mono b1.size);rw [e1] at k2 e2;rw [e2] at k3 e3;rw [e3] at k4 e4;have rA:RdD w6 (some ⟨w.heap.size,0,none⟩) 1 [liveA]:=rdD_of (by omega) (k1 w6 c1);have rB:RdD w6 (some ⟨w.heap.size+1,0,none⟩) 1 [liveB]:=rdD_of (by omega) (k2 w6 c2);refine⟨⟨RdE.nil_ _,⟨rfl,by decide,fun _=>⟨_,0,rfl,by omega,fun i hi=>?_⟩⟩⟩,c0,by omega,k4⟩
 obtain rfl:i=0:=by
  have:liveP.ns.length=1:=rfl;omega
 refine⟨some ⟨w.heap.size,0,none⟩,1,some ⟨w.heap.size+1,0,none⟩,1,none,0,none,0,fun j v hv=>?_,⟨rA,rB,RdS.nil_ _ _ _,RdS.nil_ _ _ _⟩⟩;rw [show 0+0*5+j=j by omega,k3 w6 c3 j];exact(show(ndA liveN (some ⟨w.heap.size,0,none⟩) 1 (some ⟨w.heap.size+1,0,none⟩) 1 none 0 none 0)[j]?=(ndL liveN (some ⟨w.heap.size,0,none⟩) 1 (some ⟨w.heap.size+1,0,none⟩) 1 none 0 none 0)[j]? by simp [ndA,ndL]).trans hv
theorem live_subs(op:Int) (w w':World) (h:w.alloc (.cells #[.int .i64 3,.int .i64 0,.string ⟨#[97]⟩,.int .i64 0,.slice none 0 0,.slice none 0 0,.int .i64 1,.int .i64 1,.string ⟨#[]⟩,.int .i64 0,.slice none 0 0,.slice none 0 0] 35)=w'):
 rdX w' (liveX op) none (some ⟨w.heap.size,0,none⟩)∧Below w.heap.size w w':=by
 obtain⟨b,e,k⟩:=alloc_cells h;have k:=k w' (Below.refl _ _);refine⟨rdX_eq.2 ⟨RdT.nil_ _,rfl,(show 2≤9223372036854775807 by decide),fun _=>⟨_,0,rfl,by omega,?_⟩⟩,b⟩;refine⟨⟨none,0,none,0,fun j v hv=>?_,rdX_eq.2 ⟨RdT.nil_ _,RdX.nil_ _⟩⟩,⟨none,0,none,0,fun j v hv=>?_,rdX_eq.2 ⟨RdT.nil_ _,RdX.nil_ _⟩⟩,trivial⟩
 · rw [show 0+j=j by omega,k j]
   match j with
   | 0 | 1 | 2 | 3 | 4 | 5=>exact hv
   | j+6=>simp [exL] at hv
 · rw [show 0+6+j=j+6 by omega,k (j+6)]
   match j with
   | 0 | 1 | 2 | 3 | 4 | 5=>exact hv
   | j+6=>simp [exL] at hv
theorem live_any(w:World):Calls Tryz.prog 7 #[] w fun e w'=>e=.returned (.bool true)∧Below w.heap.size w w':=by
 have HM:=Hd live_mem;have HS3:=Hd (live_subs 3);have HS8:=Hd (live_subs 8)
 have HO3:=Hd fun N w6 B (hr:rdP w6 liveP none N) (hx:rdX w6 (liveX 3) none B)=>(show Calls Tryz.prog 13 #[.agg #[.slice none 0 0,.slice N 1 1],.int .i64 0,.agg #[.int .i64 6,.int .i64 0,.string ⟨#[]⟩,.int .i64 3,.slice none 0 0,.slice B 2 2]] w6 fun e w'=>e=.returned (.tuple #[.agg #[.int .i64 1,.int .i64 0,.int .i64 0],.bool true])∧Below w6.heap.size w6 w' by
  have:=trOf liveP none 0 N 1 0 (liveX 3) none 0 B 2 w6 hr hx live_tiny live_check live_good3 live_right3;rw [live_typ3] at this;exact this)
 have HO8:=Hd fun N w6 B (hr:rdP w6 liveP none N) (hx:rdX w6 (liveX 8) none B)=>(show Calls Tryz.prog 13 #[.agg #[.slice none 0 0,.slice N 1 1],.int .i64 0,.agg #[.int .i64 6,.int .i64 0,.string ⟨#[]⟩,.int .i64 8,.slice none 0 0,.slice B 2 2]] w6 fun e w'=>e=.returned (.tuple #[.agg #[.int .i64 0,.int .i64 0,.int .i64 0],.bool false])∧Below w6.heap.size w6 w' by
  have:=trOf liveP none 0 N 1 0 (liveX 8) none 0 B 2 w6 hr hx live_tiny live_check live_good8 live_right8;rw [live_typ8] at this;exact this)
 go_enter Tryz.func7,Tryz.ntmps7
 go_upto_region 2 with(fail)
 generalize hw0:w.alloc _=w0;obtain⟨b0,e0,k0⟩:=alloc_cells hw0;have hlt0:w.heap.size<w0.heap.size:=by omega
 clear e0;have z0:=k0 w0 (Below.refl _ _) 0;have z1:=k0 w0 (Below.refl _ _) 1;have z2:=k0 w0 (Below.refl _ _) 2;simp only [Ya,Yb,Yc] at z0 z1 z2;have HB0:=Hd b0;have HK0:=Hd k0;clear hw0 k0 b0
 go_upto_region 3 with(fail)
 generalize hw1:World.alloc _ _=w1;obtain⟨hp,hb,hlt1,hk⟩:=HM.out w0 w1 hw1;have HB1:=Hd (HB0.out.trans (hb.mono HB0.out.size));have HP:=Hd hp;have HK:=Hd hk;have HK0:=Hd fun w'' (h:Below w1.heap.size w1 w'')=>HK0.out w'' (hb.trans (h.mono hb.size));clear hw1 hp hb hk HM z0 z1 z2
 go_upto_region 4 with(fail)
 generalize hw2:(w1.alloc _).alloc _=w2
 obtain⟨hb2,hk3,hk4⟩:Below w1.heap.size w1 w2∧(∀ w'',Below w2.heap.size w2 w''→∀ j,w''.cell? ⟨w1.heap.size,j,none⟩=(exA liveE none 0 none 0)[j]?)∧(∀ w'',Below w2.heap.size w2 w''→∀ j,w''.cell? ⟨w1.heap.size+1,j,none⟩=(exA liveO none 0 none 0)[j]?):=by
  generalize hwa:w1.alloc _=wa at hw2;obtain⟨ba,ea,ka⟩:=alloc_cells hwa;obtain⟨bb,eb,kb⟩:=alloc_cells hw2;rw [ea] at kb;exact⟨ba.trans (bb.mono ba.size),fun w'' h=>ka w'' (bb.trans (h.mono bb.size)),kb⟩
 have HB2:=Hd (HB1.out.trans (hb2.mono HB1.out.size));have HP:=Hd (HP.out.below hb2);have HK:=Hd fun w'' (h:Below w2.heap.size w2 w'')=>HK.out w'' (hb2.trans (h.mono hb2.size));have HK0:=Hd fun w'' (h:Below w2.heap.size w2 w'')=>HK0.out w'' (hb2.trans (h.mono hb2.size));have HK3:=Hd hk3;have HK4:=Hd hk4;have HLT:=Hd hb2.size;clear hw2 hb2 hk3 hk4;have p0:=HK.out w2 (Below.refl _ _) 0;have p1:=HK.out w2 (Below.refl _ _) 1;obtain⟨x0,x1,x2,x3,x4,x5⟩:=Sx (HK3.out w2 (Below.refl _ _));obtain⟨y0,y1,y2,y3,y4,y5⟩:=Sx (HK4.out w2 (Below.refl _ _));simp only [pgA,exA,liveP,liveE,liveO,Ex.k,Ex.n,Ex.s,Ex.op,Ex.arms,Ex.subs,List.length_cons,List.length_nil,List.getElem?_toArray,List.getElem?_cons_zero,List.getElem?_cons_succ] at p0 p1 x0 x1 x2 x3 x4 x5 y0 y1 y2 y3 y4 y5
 go_wp2_with fail
 generalize hw3:World.alloc _ _=w3;obtain⟨hx,hb⟩:=HS3.out _ _ hw3;have hp:=HP.out.below hb;clear hw3 HS3 p0 p1 x0 x1 x2 x3 x4 x5 y0 y1 y2 y3 y4 y5;refine(HO3.out _ _ _ hp hx).mono ?_;rintro e w4 ⟨rfl,hb4⟩;have hb4:=hb.trans (hb4.mono hb.size);clear hx hp hb HO3
 go_upto_region 5 with(fail)
 generalize hw5:World.alloc _ _=w5;obtain⟨b5,e5,k5⟩:=alloc_cells hw5;have hb5:=hb4.trans (b5.mono hb4.size);have HK5:=Hd k5;have HB5:=Hd (HB2.out.trans (hb5.mono HB2.out.size));have HP:=Hd (HP.out.below hb5);have HK:=Hd fun w'' (h:Below w5.heap.size w5 w'')=>HK.out w'' (hb5.trans (h.mono hb5.size));have HK0:=Hd fun w'' (h:Below w5.heap.size w5 w'')=>HK0.out w'' (hb5.trans (h.mono hb5.size));have HK3:=Hd fun w'' (h:Below w5.heap.size w5 w'')=>HK3.out w'' (hb5.trans (h.mono hb5.size));have HK4:=Hd fun w'' (h:Below w5.heap.size w5 w'')=>HK4.out w'' (hb5.trans (h.mono hb5.size));clear hw5 hb4 b5 e5 k5 hb5;have p0:=HK.out w5 (Below.refl _ _) 0;have p1:=HK.out w5 (Below.refl _ _) 1;obtain⟨x0,x1,x2,x3,x4,x5⟩:=Sx (HK3.out w5 (Below.refl _ _));obtain⟨y0,y1,y2,y3,y4,y5⟩:=Sx (HK4.out w5 (Below.refl _ _));simp only [pgA,exA,liveP,liveE,liveO,Ex.k,Ex.n,Ex.s,Ex.op,Ex.arms,Ex.subs,List.length_cons,List.length_nil,List.getElem?_toArray,List.getElem?_cons_zero,List.getElem?_cons_succ] at p0 p1 x0 x1 x2 x3 x4 x5 y0 y1 y2 y3 y4 y5
 go_wp2_with fail
 generalize hw6:World.alloc _ _=w6;obtain⟨hx,hb⟩:=HS8.out _ _ hw6;have hp:=HP.out.below hb;clear hw6 HS8 p0 p1 x0 x1 x2 x3 x4 x5 y0 y1 y2 y3 y4 y5;refine(HO8.out _ _ _ hp hx).mono ?_;rintro e w7 ⟨rfl,hb7⟩;have hb7:=hb.trans (hb7.mono hb.size);clear hx hp hb HO8
 go_upto_region 6 with(fail)
 generalize hw8:World.alloc _ _=w8;obtain⟨b8,e8,k8⟩:=alloc_cells hw8;have hb8:=hb7.trans (b8.mono hb7.size);have HB8:=Hd (HB5.out.trans (hb8.mono HB5.out.size));obtain⟨u0,u1,u2,-,-,-⟩:=Sx (HK5.out w8 hb8);obtain⟨v0,v1,v2,-,-,-⟩:=Sx (HK0.out w8 hb8);simp only [Ya,Yb,Yc] at u0 u1 u2 v0 v1 v2;clear hw8 hb7 b8 e8 k8 hb8 HK HK0 HK3 HK4 HK5
 go_wp2_with fail
 go_ret
 exact⟨rfl,HB8.out⟩
end
section
open Go.RowKit Go.Sort Go.BigFrame
theorem walkOfR(p:Pg) (E:Option Addr) (ec:Nat) (N:Option Addr) (nc:Nat) (i:Int) (x:Ex) (A:Option Addr) (ca:Nat) (B:Option Addr) (cb:Nat) (w:World) (h:rdP w p E N) (hx:rdX w x A B):
 Calls Tryz.prog 4 #[.agg (pgA p E ec N nc),.int .i64 i,.agg (exA x A ca B cb)] w fun e w'=>e=.returned (.bool true)∧Below w.heap.size w w' :=
 walkOf p E ec N nc i x A ca B cb w h hx live_any fun w hp hx ht h0 hg hr=>trOf p E ec N nc i x A ca B cb w hp hx ht h0 hg hr
end
end Go.Proofs.YtegjgiofmpolnaaGreat
