/- Parts of the proof: TrR. Conditions: each theorem's own. -/
import Derived.Test.YtkbpdoomhfkngaaGreatR32
namespace Go.Proofs.YtkbpdoomhfkngaaGreat
set_option linter.unusedVariables false
set_option linter.unusedSimpArgs false
set_option maxRecDepth 100000
set_option maxHeartbeats 40000000
section
open Go.RowKit Go.Sort Go.BigFrame
theorem trOver7f(p:Pg) (x:Nd) (r:Rm) (y:Ex) (A:Option Addr) (ca:Nat) (B:Option Addr) (cb:Nat) (S:Option Addr) (m sc:Nat) (ts:List T3) (w:World) (h:rdRm w p x r) (hS:RdY w S m ts) (hk:y.k=7) (hm:3≤m) (ht:truthT (atT ts 0)=false) (o:Option T3) (ho:none=o):
 Calls Tryz.prog 115 #[.agg (rvA p x r),.agg (exA y A ca B cb),.slice S m sc] w (TyZ w o):=by
 have HF:=Hd fun w0 hw=>any_box2Z (w:=w) (w1:=w0) (cs:=rvA p x r) (ds:=exA y A ca B cb) (T:=69) (U:=52) (V:=41) hw;obtain⟨sb,so,rfl,hsb,hsc⟩:=hS.at_ (i:=0) (by omega);obtain⟨a0,a1,a2⟩:=hsc 0 (by omega);obtain⟨b0,b1,b2⟩:=hsc 1 (by omega);obtain⟨c0,c1,c2⟩:=hsc 2 (by omega);simp only [Nat.zero_mul,Nat.add_zero,Nat.one_mul] at a0 a1 a2 b0 b1 b2 c0 c1 c2;have HSI:=Hd trSingle;have HAL1:=Hd fun(ad:Option Addr) w1 (hr:RdY w1 ad 1 [atT ts 0])=>trAll 2 0 0 ad 1 1 [atT ts 0] w1 hr;rw [show allB (2,0,0) [atT ts 0]=truthT (atT ts 0) from allB_one _ _] at HAL1;unfold f3A at HAL1 HSI;rw [ht] at HAL1;have h0i:(0:Int)<(m:Int):=by omega
 have h1i:(1:Int)<(m:Int):=by omega
 have h2i:(2:Int)<(m:Int):=by omega
 generalize ht0:atT ts 0=tx at *;generalize ht1:atT ts 1=ty at *;generalize ht2:atT ts 2=tz at *;obtain⟨x0,x1,x2⟩:=tx;obtain⟨y0,y1,y2⟩:=ty;obtain⟨z0,z1,z2⟩:=tz
 dsimp only at a0 a1 a2 b0 b1 b2 c0 c1 c2
 have HO:=Hd ho.symm;clear ho h ht;unfold rvA exA at *;rw [hk] at HF ⊢;clear hS hsc
 go_enter Tryz.func115,Tryz.ntmps115
 go_upto_region 1 with(fail)
 generalize hw0:((w.alloc _).alloc _).alloc _=w0;obtain⟨hb0,hsz,hce,hce2,hR⟩:=HF.out w0 hw0;have HB0:=Hd hb0;have HR:=Hd hR;have r0:=hce2 w0 (Below.refl _ _) 0;simp only [Ya,Yb,Yc] at r0;have a0:=(hb0.cell (p:=⟨sb,so,none⟩) hsb).trans a0;have a1:=(hb0.cell (p:=⟨sb,so+1,none⟩) hsb).trans a1;have a2:=(hb0.cell (p:=⟨sb,so+2,none⟩) hsb).trans a2;have b0:=(hb0.cell (p:=⟨sb,so+3,none⟩) hsb).trans b0;have b1:=(hb0.cell (p:=⟨sb,so+3+1,none⟩) hsb).trans b1;have b2:=(hb0.cell (p:=⟨sb,so+3+2,none⟩) hsb).trans b2;have c0:=(hb0.cell (p:=⟨sb,so+2*3,none⟩) hsb).trans c0;have c1:=(hb0.cell (p:=⟨sb,so+2*3+1,none⟩) hsb).trans c1;have c2:=(hb0.cell (p:=⟨sb,so+2*3+2,none⟩) hsb).trans c2;have h0m:0<m:=by omega
 have h1m:1<m:=by omega
 have h2m:2<m:=by omega
 have hne:sb≠w.heap.size+1+1:=by omega
 have hsb0:sb<w0.heap.size:=Nat.lt_of_lt_of_le hsb HB0.out.size;have hnr:w.heap.size≠w.heap.size+1+1:=by omega
 have hnx:w.heap.size+1≠w.heap.size+1+1:=by omega
 clear hw0 hsz hce hce2 hR HF;have HSL:=Hd hsb0;have HO:=Hd (show o=none from HO.out);have HON:=Hd fun w1=>trOnly y0 y1 y2 false w1;unfold TyZ f3A at HON;simp only [Bool.false_eq_true,if_false,if_true,Option.getD_none,Option.getD_some,Option.isSome_none,Option.isSome_some] at HON
 go_upto_region 7 with(fail)
 refine wp_region_held_drew (S:=(fun W=>W.cell? ⟨sb,so,none⟩=some (.int .i64 x0)∧W.cell? ⟨sb,so+1,none⟩=some (.int .i64 x1)∧W.cell? ⟨sb,so+2,none⟩=some (.int .i64 x2)∧W.cell? ⟨sb,so+3,none⟩=some (.int .i64 y0)∧W.cell? ⟨sb,so+3+1,none⟩=some (.int .i64 y1)∧W.cell? ⟨sb,so+3+2,none⟩=some (.int .i64 y2)∧W.cell? ⟨sb,so+2*3,none⟩=some (.int .i64 z0)∧W.cell? ⟨sb,so+2*3+1,none⟩=some (.int .i64 z1)∧W.cell? ⟨sb,so+2*3+2,none⟩=some (.int .i64 z2))) (by kernel_rfl) ?_ (fun hHeld=>?_)
 · (first | with_reducible exact⟨a0,a1,a2,b0,b1,b2,c0,c1,c2⟩ | with_reducible exact⟨(cell_d _ _).trans a0,(cell_d _ _).trans a1,(cell_d _ _).trans a2,(cell_d _ _).trans b0,(cell_d _ _).trans b1,(cell_d _ _).trans b2,(cell_d _ _).trans c0,(cell_d _ _).trans c1,(cell_d _ _).trans c2⟩ | with_reducible exact⟨(cell_ad _ _ _ HSL.out).trans a0,(cell_ad _ _ _ HSL.out).trans a1,(cell_ad _ _ _ HSL.out).trans a2,(cell_ad _ _ _ HSL.out).trans b0,(cell_ad _ _ _ HSL.out).trans b1,(cell_ad _ _ _ HSL.out).trans b2,(cell_ad _ _ _ HSL.out).trans c0,(cell_ad _ _ _ HSL.out).trans c1,(cell_ad _ _ _ HSL.out).trans c2⟩ | with_reducible exact⟨(World.cell?_alloc_lt _ _ _ HSL.out).trans a0,(World.cell?_alloc_lt _ _ _ HSL.out).trans a1,(World.cell?_alloc_lt _ _ _ HSL.out).trans a2,(World.cell?_alloc_lt _ _ _ HSL.out).trans b0,(World.cell?_alloc_lt _ _ _ HSL.out).trans b1,(World.cell?_alloc_lt _ _ _ HSL.out).trans b2,(World.cell?_alloc_lt _ _ _ HSL.out).trans c0,(World.cell?_alloc_lt _ _ _ HSL.out).trans c1,(World.cell?_alloc_lt _ _ _ HSL.out).trans c2⟩ | with_reducible exact⟨kga0,kga1,kga2,kgb0,kgb1,kgb2,kgc0,kgc1,kgc2⟩ | with_reducible exact⟨(World.cell?_alloc_lt _ _ _ (Nat.lt_of_lt_of_le HSL.out HBg.out.size)).trans kga0,(World.cell?_alloc_lt _ _ _ (Nat.lt_of_lt_of_le HSL.out HBg.out.size)).trans kga1,(World.cell?_alloc_lt _ _ _ (Nat.lt_of_lt_of_le HSL.out HBg.out.size)).trans kga2,(World.cell?_alloc_lt _ _ _ (Nat.lt_of_lt_of_le HSL.out HBg.out.size)).trans kgb0,(World.cell?_alloc_lt _ _ _ (Nat.lt_of_lt_of_le HSL.out HBg.out.size)).trans kgb1,(World.cell?_alloc_lt _ _ _ (Nat.lt_of_lt_of_le HSL.out HBg.out.size)).trans kgb2,(World.cell?_alloc_lt _ _ _ (Nat.lt_of_lt_of_le HSL.out HBg.out.size)).trans kgc0,(World.cell?_alloc_lt _ _ _ (Nat.lt_of_lt_of_le HSL.out HBg.out.size)).trans kgc1,(World.cell?_alloc_lt _ _ _ (Nat.lt_of_lt_of_le HSL.out HBg.out.size)).trans kgc2⟩ | with_reducible exact⟨kla0,kla1,kla2,klb0,klb1,klb2,klc0,klc1,klc2⟩ | with_reducible exact⟨(World.cell?_alloc_lt _ _ _ (Nat.lt_of_lt_of_le HSL.out HBl.out.size)).trans kla0,(World.cell?_alloc_lt _ _ _ (Nat.lt_of_lt_of_le HSL.out HBl.out.size)).trans kla1,(World.cell?_alloc_lt _ _ _ (Nat.lt_of_lt_of_le HSL.out HBl.out.size)).trans kla2,(World.cell?_alloc_lt _ _ _ (Nat.lt_of_lt_of_le HSL.out HBl.out.size)).trans klb0,(World.cell?_alloc_lt _ _ _ (Nat.lt_of_lt_of_le HSL.out HBl.out.size)).trans klb1,(World.cell?_alloc_lt _ _ _ (Nat.lt_of_lt_of_le HSL.out HBl.out.size)).trans klb2,(World.cell?_alloc_lt _ _ _ (Nat.lt_of_lt_of_le HSL.out HBl.out.size)).trans klc0,(World.cell?_alloc_lt _ _ _ (Nat.lt_of_lt_of_le HSL.out HBl.out.size)).trans klc1,(World.cell?_alloc_lt _ _ _ (Nat.lt_of_lt_of_le HSL.out HBl.out.size)).trans klc2⟩ | with_reducible exact⟨kna0,kna1,kna2,knb0,knb1,knb2,knc0,knc1,knc2⟩ | with_reducible exact⟨(World.cell?_alloc_lt _ _ _ (Nat.lt_of_lt_of_le HSL.out HBn.out.size)).trans kna0,(World.cell?_alloc_lt _ _ _ (Nat.lt_of_lt_of_le HSL.out HBn.out.size)).trans kna1,(World.cell?_alloc_lt _ _ _ (Nat.lt_of_lt_of_le HSL.out HBn.out.size)).trans kna2,(World.cell?_alloc_lt _ _ _ (Nat.lt_of_lt_of_le HSL.out HBn.out.size)).trans knb0,(World.cell?_alloc_lt _ _ _ (Nat.lt_of_lt_of_le HSL.out HBn.out.size)).trans knb1,(World.cell?_alloc_lt _ _ _ (Nat.lt_of_lt_of_le HSL.out HBn.out.size)).trans knb2,(World.cell?_alloc_lt _ _ _ (Nat.lt_of_lt_of_le HSL.out HBn.out.size)).trans knc0,(World.cell?_alloc_lt _ _ _ (Nat.lt_of_lt_of_le HSL.out HBn.out.size)).trans knc1,(World.cell?_alloc_lt _ _ _ (Nat.lt_of_lt_of_le HSL.out HBn.out.size)).trans knc2⟩ | with_reducible exact⟨(set3_cell hne).trans kna0,(set3_cell hne).trans kna1,(set3_cell hne).trans kna2,(set3_cell hne).trans knb0,(set3_cell hne).trans knb1,(set3_cell hne).trans knb2,(set3_cell hne).trans knc0,(set3_cell hne).trans knc1,(set3_cell hne).trans knc2⟩)
 refine wpAnyH_take (i:=0) (oi:=?oi1) (v:=?v1) ?h1x1 (by kernel_rfl) ?h3x1 (by kernel_rfl) ?h5x1 (Or.inl ⟨?h6x1,?h7x1⟩) hHeld ?h8x1
 case h1x1=>
  simp only [Ya,Yb,Yc];rfl
 case h3x1=>kernel_rfl
 case h5x1=>exact fun _ _ _ h=>h
 case h6x1=>rfl
 case h7x1=>
  intro W hSW
  (try dsimp only at hSW)
  go_split_ands
  first | (go_simp;done) | (go_simp;with_reducible rfl)
 (try simp only [Act.put,Yd,Ye,Yf])
 refine wpAnyH_take (i:=1) (oi:=?oi2) (v:=?v2) ?h1x2 (by kernel_rfl) ?h3x2 (by kernel_rfl) ?h5x2 (Or.inl ⟨?h6x2,?h7x2⟩) hHeld ?h8x2
 case h1x2=>
  simp only [Ya,Yb,Yc];rfl
 case h3x2=>kernel_rfl
 case h5x2=>exact fun _ _ _ h=>h
 case h6x2=>rfl
 case h7x2=>
  intro W hSW
  (try dsimp only at hSW)
  go_split_ands
  first | (go_simp;done) | (go_simp;with_reducible rfl)
 (try simp only [Act.put,Yd,Ye,Yf])
 refine wpAnyH_take (i:=2) (oi:=?oi3) (v:=?v3) ?h1x3 (by kernel_rfl) ?h3x3 (by kernel_rfl) ?h5x3 (Or.inl ⟨?h6x3,?h7x3⟩) hHeld ?h8x3
 case h1x3=>
  simp only [Ya,Yb,Yc];rfl
 case h3x3=>kernel_rfl
 case h5x3=>exact fun _ _ _ h=>h
 case h6x3=>rfl
 case h7x3=>
  intro W hSW
  (try dsimp only at hSW)
  go_split_ands
  first | (go_simp;done) | (go_simp;with_reducible rfl)
 (try simp only [Act.put,Yd,Ye,Yf])
 refine wpAnyH_take (i:=4) (oi:=?oi4) (v:=?v4) ?h1x4 (by kernel_rfl) ?h3x4 (by kernel_rfl) ?h5x4 (Or.inl ⟨?h6x4,?h7x4⟩) hHeld ?h8x4
 case h1x4=>
  simp only [Ya,Yb,Yc];rfl
 case h3x4=>kernel_rfl
 case h5x4=>exact fun _ _ _ h=>h
 case h6x4=>rfl
 case h7x4=>
  intro W hSW
  (try dsimp only at hSW)
  go_split_ands
  first | (go_simp;done) | (go_simp;with_reducible rfl)
 (try simp only [Act.put,Yd,Ye,Yf])
 refine wpAnyH_take (i:=5) (oi:=?oi5) (v:=?v5) ?h1x5 (by kernel_rfl) ?h3x5 (by kernel_rfl) ?h5x5 (Or.inl ⟨?h6x5,?h7x5⟩) hHeld ?h8x5
 case h1x5=>
  simp only [Ya,Yb,Yc];rfl
 case h3x5=>kernel_rfl
 case h5x5=>exact fun _ _ _ h=>h
 case h6x5=>rfl
 case h7x5=>
  intro W hSW
  (try dsimp only at hSW)
  go_split_ands
  first | (go_simp;done) | (go_simp;with_reducible rfl)
 (try simp only [Act.put,Yd,Ye,Yf])
 refine wpAnyH_take (i:=6) (oi:=?oi6) (v:=?v6) ?h1x6 (by kernel_rfl) ?h3x6 (by kernel_rfl) ?h5x6 (Or.inl ⟨?h6x6,?h7x6⟩) hHeld ?h8x6
 case h1x6=>
  simp only [Ya,Yb,Yc];rfl
 case h3x6=>kernel_rfl
 case h5x6=>exact fun _ _ _ h=>h
 case h6x6=>rfl
 case h7x6=>
  intro W hSW
  (try dsimp only at hSW)
  go_split_ands
  first | (go_simp;done) | (go_simp;with_reducible rfl)
 (try simp only [Act.put,Yd,Ye,Yf])
 refine wpAnyH_ready (rs:=[3,7]) (by kernel_rfl) (by simp) ?_;refine AllReadyH.cons (by rfl) (fun K hK=>?_) ?_
 · go_simp
   (go_at_call 120;refine(HSI.out 2 _).mono ?_;rintro e Wg ⟨rfl,hq⟩;have HBg:=Hd (show Below w0.heap.size w0 Wg from by first | exact(below_drewN (Below.refl w0.heap.size w0) 1).trans (hq.mono (Nat.le_refl _)) | exact(((Below.refl w0.heap.size w0).alloc (Nat.le_refl _) (.cells #[.int .i64 x0,.int .i64 x1,.int .i64 x2] 41)).drew).trans (hq.mono (by simp)));have HGg:=Hd hq;have kga0:=(HBg.out.cell (p:=⟨sb,so,none⟩) HSL.out).trans a0;have kga1:=(HBg.out.cell (p:=⟨sb,so+1,none⟩) HSL.out).trans a1;have kga2:=(HBg.out.cell (p:=⟨sb,so+2,none⟩) HSL.out).trans a2;have kgb0:=(HBg.out.cell (p:=⟨sb,so+3,none⟩) HSL.out).trans b0;have kgb1:=(HBg.out.cell (p:=⟨sb,so+3+1,none⟩) HSL.out).trans b1;have kgb2:=(HBg.out.cell (p:=⟨sb,so+3+2,none⟩) HSL.out).trans b2;have kgc0:=(HBg.out.cell (p:=⟨sb,so+2*3,none⟩) HSL.out).trans c0;have kgc1:=(HBg.out.cell (p:=⟨sb,so+2*3+1,none⟩) HSL.out).trans c1;have kgc2:=(HBg.out.cell (p:=⟨sb,so+2*3+2,none⟩) HSL.out).trans c2;clear hq)
   go_wp2_with fail
   refine hK.out _ _ ?_ (fun hHeld=>?_)
   · (first | with_reducible exact⟨a0,a1,a2,b0,b1,b2,c0,c1,c2⟩ | with_reducible exact⟨(cell_d _ _).trans a0,(cell_d _ _).trans a1,(cell_d _ _).trans a2,(cell_d _ _).trans b0,(cell_d _ _).trans b1,(cell_d _ _).trans b2,(cell_d _ _).trans c0,(cell_d _ _).trans c1,(cell_d _ _).trans c2⟩ | with_reducible exact⟨(cell_ad _ _ _ HSL.out).trans a0,(cell_ad _ _ _ HSL.out).trans a1,(cell_ad _ _ _ HSL.out).trans a2,(cell_ad _ _ _ HSL.out).trans b0,(cell_ad _ _ _ HSL.out).trans b1,(cell_ad _ _ _ HSL.out).trans b2,(cell_ad _ _ _ HSL.out).trans c0,(cell_ad _ _ _ HSL.out).trans c1,(cell_ad _ _ _ HSL.out).trans c2⟩ | with_reducible exact⟨(World.cell?_alloc_lt _ _ _ HSL.out).trans a0,(World.cell?_alloc_lt _ _ _ HSL.out).trans a1,(World.cell?_alloc_lt _ _ _ HSL.out).trans a2,(World.cell?_alloc_lt _ _ _ HSL.out).trans b0,(World.cell?_alloc_lt _ _ _ HSL.out).trans b1,(World.cell?_alloc_lt _ _ _ HSL.out).trans b2,(World.cell?_alloc_lt _ _ _ HSL.out).trans c0,(World.cell?_alloc_lt _ _ _ HSL.out).trans c1,(World.cell?_alloc_lt _ _ _ HSL.out).trans c2⟩ | with_reducible exact⟨kga0,kga1,kga2,kgb0,kgb1,kgb2,kgc0,kgc1,kgc2⟩ | with_reducible exact⟨(World.cell?_alloc_lt _ _ _ (Nat.lt_of_lt_of_le HSL.out HBg.out.size)).trans kga0,(World.cell?_alloc_lt _ _ _ (Nat.lt_of_lt_of_le HSL.out HBg.out.size)).trans kga1,(World.cell?_alloc_lt _ _ _ (Nat.lt_of_lt_of_le HSL.out HBg.out.size)).trans kga2,(World.cell?_alloc_lt _ _ _ (Nat.lt_of_lt_of_le HSL.out HBg.out.size)).trans kgb0,(World.cell?_alloc_lt _ _ _ (Nat.lt_of_lt_of_le HSL.out HBg.out.size)).trans kgb1,(World.cell?_alloc_lt _ _ _ (Nat.lt_of_lt_of_le HSL.out HBg.out.size)).trans kgb2,(World.cell?_alloc_lt _ _ _ (Nat.lt_of_lt_of_le HSL.out HBg.out.size)).trans kgc0,(World.cell?_alloc_lt _ _ _ (Nat.lt_of_lt_of_le HSL.out HBg.out.size)).trans kgc1,(World.cell?_alloc_lt _ _ _ (Nat.lt_of_lt_of_le HSL.out HBg.out.size)).trans kgc2⟩ | with_reducible exact⟨kla0,kla1,kla2,klb0,klb1,klb2,klc0,klc1,klc2⟩ | with_reducible exact⟨(World.cell?_alloc_lt _ _ _ (Nat.lt_of_lt_of_le HSL.out HBl.out.size)).trans kla0,(World.cell?_alloc_lt _ _ _ (Nat.lt_of_lt_of_le HSL.out HBl.out.size)).trans kla1,(World.cell?_alloc_lt _ _ _ (Nat.lt_of_lt_of_le HSL.out HBl.out.size)).trans kla2,(World.cell?_alloc_lt _ _ _ (Nat.lt_of_lt_of_le HSL.out HBl.out.size)).trans klb0,(World.cell?_alloc_lt _ _ _ (Nat.lt_of_lt_of_le HSL.out HBl.out.size)).trans klb1,(World.cell?_alloc_lt _ _ _ (Nat.lt_of_lt_of_le HSL.out HBl.out.size)).trans klb2,(World.cell?_alloc_lt _ _ _ (Nat.lt_of_lt_of_le HSL.out HBl.out.size)).trans klc0,(World.cell?_alloc_lt _ _ _ (Nat.lt_of_lt_of_le HSL.out HBl.out.size)).trans klc1,(World.cell?_alloc_lt _ _ _ (Nat.lt_of_lt_of_le HSL.out HBl.out.size)).trans klc2⟩ | with_reducible exact⟨kna0,kna1,kna2,knb0,knb1,knb2,knc0,knc1,knc2⟩ | with_reducible exact⟨(World.cell?_alloc_lt _ _ _ (Nat.lt_of_lt_of_le HSL.out HBn.out.size)).trans kna0,(World.cell?_alloc_lt _ _ _ (Nat.lt_of_lt_of_le HSL.out HBn.out.size)).trans kna1,(World.cell?_alloc_lt _ _ _ (Nat.lt_of_lt_of_le HSL.out HBn.out.size)).trans kna2,(World.cell?_alloc_lt _ _ _ (Nat.lt_of_lt_of_le HSL.out HBn.out.size)).trans knb0,(World.cell?_alloc_lt _ _ _ (Nat.lt_of_lt_of_le HSL.out HBn.out.size)).trans knb1,(World.cell?_alloc_lt _ _ _ (Nat.lt_of_lt_of_le HSL.out HBn.out.size)).trans knb2,(World.cell?_alloc_lt _ _ _ (Nat.lt_of_lt_of_le HSL.out HBn.out.size)).trans knc0,(World.cell?_alloc_lt _ _ _ (Nat.lt_of_lt_of_le HSL.out HBn.out.size)).trans knc1,(World.cell?_alloc_lt _ _ _ (Nat.lt_of_lt_of_le HSL.out HBn.out.size)).trans knc2⟩ | with_reducible exact⟨(set3_cell hne).trans kna0,(set3_cell hne).trans kna1,(set3_cell hne).trans kna2,(set3_cell hne).trans knb0,(set3_cell hne).trans knb1,(set3_cell hne).trans knb2,(set3_cell hne).trans knc0,(set3_cell hne).trans knc1,(set3_cell hne).trans knc2⟩)
   clear hK K
   (try simp only [Act.put,Yd,Ye,Yf])
   refine wpAnyH_ready (rs:=[7]) (by kernel_rfl) (by simp) ?_;refine AllReadyH.cons (by rfl) (fun K hK=>?_) ?_
   · go_simp
     refine hK.out _ _ ?_ (fun hHeld=>?_)
     · (first | with_reducible exact⟨a0,a1,a2,b0,b1,b2,c0,c1,c2⟩ | with_reducible exact⟨(cell_d _ _).trans a0,(cell_d _ _).trans a1,(cell_d _ _).trans a2,(cell_d _ _).trans b0,(cell_d _ _).trans b1,(cell_d _ _).trans b2,(cell_d _ _).trans c0,(cell_d _ _).trans c1,(cell_d _ _).trans c2⟩ | with_reducible exact⟨(cell_ad _ _ _ HSL.out).trans a0,(cell_ad _ _ _ HSL.out).trans a1,(cell_ad _ _ _ HSL.out).trans a2,(cell_ad _ _ _ HSL.out).trans b0,(cell_ad _ _ _ HSL.out).trans b1,(cell_ad _ _ _ HSL.out).trans b2,(cell_ad _ _ _ HSL.out).trans c0,(cell_ad _ _ _ HSL.out).trans c1,(cell_ad _ _ _ HSL.out).trans c2⟩ | with_reducible exact⟨(World.cell?_alloc_lt _ _ _ HSL.out).trans a0,(World.cell?_alloc_lt _ _ _ HSL.out).trans a1,(World.cell?_alloc_lt _ _ _ HSL.out).trans a2,(World.cell?_alloc_lt _ _ _ HSL.out).trans b0,(World.cell?_alloc_lt _ _ _ HSL.out).trans b1,(World.cell?_alloc_lt _ _ _ HSL.out).trans b2,(World.cell?_alloc_lt _ _ _ HSL.out).trans c0,(World.cell?_alloc_lt _ _ _ HSL.out).trans c1,(World.cell?_alloc_lt _ _ _ HSL.out).trans c2⟩ | with_reducible exact⟨kga0,kga1,kga2,kgb0,kgb1,kgb2,kgc0,kgc1,kgc2⟩ | with_reducible exact⟨(World.cell?_alloc_lt _ _ _ (Nat.lt_of_lt_of_le HSL.out HBg.out.size)).trans kga0,(World.cell?_alloc_lt _ _ _ (Nat.lt_of_lt_of_le HSL.out HBg.out.size)).trans kga1,(World.cell?_alloc_lt _ _ _ (Nat.lt_of_lt_of_le HSL.out HBg.out.size)).trans kga2,(World.cell?_alloc_lt _ _ _ (Nat.lt_of_lt_of_le HSL.out HBg.out.size)).trans kgb0,(World.cell?_alloc_lt _ _ _ (Nat.lt_of_lt_of_le HSL.out HBg.out.size)).trans kgb1,(World.cell?_alloc_lt _ _ _ (Nat.lt_of_lt_of_le HSL.out HBg.out.size)).trans kgb2,(World.cell?_alloc_lt _ _ _ (Nat.lt_of_lt_of_le HSL.out HBg.out.size)).trans kgc0,(World.cell?_alloc_lt _ _ _ (Nat.lt_of_lt_of_le HSL.out HBg.out.size)).trans kgc1,(World.cell?_alloc_lt _ _ _ (Nat.lt_of_lt_of_le HSL.out HBg.out.size)).trans kgc2⟩ | with_reducible exact⟨kla0,kla1,kla2,klb0,klb1,klb2,klc0,klc1,klc2⟩ | with_reducible exact⟨(World.cell?_alloc_lt _ _ _ (Nat.lt_of_lt_of_le HSL.out HBl.out.size)).trans kla0,(World.cell?_alloc_lt _ _ _ (Nat.lt_of_lt_of_le HSL.out HBl.out.size)).trans kla1,(World.cell?_alloc_lt _ _ _ (Nat.lt_of_lt_of_le HSL.out HBl.out.size)).trans kla2,(World.cell?_alloc_lt _ _ _ (Nat.lt_of_lt_of_le HSL.out HBl.out.size)).trans klb0,(World.cell?_alloc_lt _ _ _ (Nat.lt_of_lt_of_le HSL.out HBl.out.size)).trans klb1,(World.cell?_alloc_lt _ _ _ (Nat.lt_of_lt_of_le HSL.out HBl.out.size)).trans klb2,(World.cell?_alloc_lt _ _ _ (Nat.lt_of_lt_of_le HSL.out HBl.out.size)).trans klc0,(World.cell?_alloc_lt _ _ _ (Nat.lt_of_lt_of_le HSL.out HBl.out.size)).trans klc1,(World.cell?_alloc_lt _ _ _ (Nat.lt_of_lt_of_le HSL.out HBl.out.size)).trans klc2⟩ | with_reducible exact⟨kna0,kna1,kna2,knb0,knb1,knb2,knc0,knc1,knc2⟩ | with_reducible exact⟨(World.cell?_alloc_lt _ _ _ (Nat.lt_of_lt_of_le HSL.out HBn.out.size)).trans kna0,(World.cell?_alloc_lt _ _ _ (Nat.lt_of_lt_of_le HSL.out HBn.out.size)).trans kna1,(World.cell?_alloc_lt _ _ _ (Nat.lt_of_lt_of_le HSL.out HBn.out.size)).trans kna2,(World.cell?_alloc_lt _ _ _ (Nat.lt_of_lt_of_le HSL.out HBn.out.size)).trans knb0,(World.cell?_alloc_lt _ _ _ (Nat.lt_of_lt_of_le HSL.out HBn.out.size)).trans knb1,(World.cell?_alloc_lt _ _ _ (Nat.lt_of_lt_of_le HSL.out HBn.out.size)).trans knb2,(World.cell?_alloc_lt _ _ _ (Nat.lt_of_lt_of_le HSL.out HBn.out.size)).trans knc0,(World.cell?_alloc_lt _ _ _ (Nat.lt_of_lt_of_le HSL.out HBn.out.size)).trans knc1,(World.cell?_alloc_lt _ _ _ (Nat.lt_of_lt_of_le HSL.out HBn.out.size)).trans knc2⟩ | with_reducible exact⟨(set3_cell hne).trans kna0,(set3_cell hne).trans kna1,(set3_cell hne).trans kna2,(set3_cell hne).trans knb0,(set3_cell hne).trans knb1,(set3_cell hne).trans knb2,(set3_cell hne).trans knc0,(set3_cell hne).trans knc1,(set3_cell hne).trans knc2⟩)
     clear hK K
     (try simp only [Act.put,Yd,Ye,Yf])
     refine wpAnyH_ready (rs:=[8]) (by kernel_rfl) (by simp) ?_;refine AllReadyH.cons (by rfl) (fun K hK=>?_) ?_
     · go_simp
       (go_at_call 119;(with_reducible refine(HAL1.out _ _ ?hx).mono ?_);(case hx=>(first | exact RdY.lit Wg x0 x1 x2 41 | exact((RdY.lit w0 x0 x1 x2 41).drew).below HGg.out));rintro e Wl ⟨rfl,hq⟩;have HBl:=Hd (show Below w0.heap.size w0 Wl from by first | exact(HBg.out.alloc HBg.out.size (.cells #[.int .i64 x0,.int .i64 x1,.int .i64 x2] 41)).trans (hq.mono (by have:=HBg.out.size;simp;omega)) | exact HBg.out.trans (hq.mono HBg.out.size));have HGl:=Hd hq;have kla0:=(HBl.out.cell (p:=⟨sb,so,none⟩) HSL.out).trans a0;have kla1:=(HBl.out.cell (p:=⟨sb,so+1,none⟩) HSL.out).trans a1;have kla2:=(HBl.out.cell (p:=⟨sb,so+2,none⟩) HSL.out).trans a2;have klb0:=(HBl.out.cell (p:=⟨sb,so+3,none⟩) HSL.out).trans b0;have klb1:=(HBl.out.cell (p:=⟨sb,so+3+1,none⟩) HSL.out).trans b1;have klb2:=(HBl.out.cell (p:=⟨sb,so+3+2,none⟩) HSL.out).trans b2;have klc0:=(HBl.out.cell (p:=⟨sb,so+2*3,none⟩) HSL.out).trans c0;have klc1:=(HBl.out.cell (p:=⟨sb,so+2*3+1,none⟩) HSL.out).trans c1;have klc2:=(HBl.out.cell (p:=⟨sb,so+2*3+2,none⟩) HSL.out).trans c2;clear hq)
       go_wp2_with fail
       refine hK.out _ _ ?_ (fun hHeld=>?_)
       · (first | with_reducible exact⟨a0,a1,a2,b0,b1,b2,c0,c1,c2⟩ | with_reducible exact⟨(cell_d _ _).trans a0,(cell_d _ _).trans a1,(cell_d _ _).trans a2,(cell_d _ _).trans b0,(cell_d _ _).trans b1,(cell_d _ _).trans b2,(cell_d _ _).trans c0,(cell_d _ _).trans c1,(cell_d _ _).trans c2⟩ | with_reducible exact⟨(cell_ad _ _ _ HSL.out).trans a0,(cell_ad _ _ _ HSL.out).trans a1,(cell_ad _ _ _ HSL.out).trans a2,(cell_ad _ _ _ HSL.out).trans b0,(cell_ad _ _ _ HSL.out).trans b1,(cell_ad _ _ _ HSL.out).trans b2,(cell_ad _ _ _ HSL.out).trans c0,(cell_ad _ _ _ HSL.out).trans c1,(cell_ad _ _ _ HSL.out).trans c2⟩ | with_reducible exact⟨(World.cell?_alloc_lt _ _ _ HSL.out).trans a0,(World.cell?_alloc_lt _ _ _ HSL.out).trans a1,(World.cell?_alloc_lt _ _ _ HSL.out).trans a2,(World.cell?_alloc_lt _ _ _ HSL.out).trans b0,(World.cell?_alloc_lt _ _ _ HSL.out).trans b1,(World.cell?_alloc_lt _ _ _ HSL.out).trans b2,(World.cell?_alloc_lt _ _ _ HSL.out).trans c0,(World.cell?_alloc_lt _ _ _ HSL.out).trans c1,(World.cell?_alloc_lt _ _ _ HSL.out).trans c2⟩ | with_reducible exact⟨kga0,kga1,kga2,kgb0,kgb1,kgb2,kgc0,kgc1,kgc2⟩ | with_reducible exact⟨(World.cell?_alloc_lt _ _ _ (Nat.lt_of_lt_of_le HSL.out HBg.out.size)).trans kga0,(World.cell?_alloc_lt _ _ _ (Nat.lt_of_lt_of_le HSL.out HBg.out.size)).trans kga1,(World.cell?_alloc_lt _ _ _ (Nat.lt_of_lt_of_le HSL.out HBg.out.size)).trans kga2,(World.cell?_alloc_lt _ _ _ (Nat.lt_of_lt_of_le HSL.out HBg.out.size)).trans kgb0,(World.cell?_alloc_lt _ _ _ (Nat.lt_of_lt_of_le HSL.out HBg.out.size)).trans kgb1,(World.cell?_alloc_lt _ _ _ (Nat.lt_of_lt_of_le HSL.out HBg.out.size)).trans kgb2,(World.cell?_alloc_lt _ _ _ (Nat.lt_of_lt_of_le HSL.out HBg.out.size)).trans kgc0,(World.cell?_alloc_lt _ _ _ (Nat.lt_of_lt_of_le HSL.out HBg.out.size)).trans kgc1,(World.cell?_alloc_lt _ _ _ (Nat.lt_of_lt_of_le HSL.out HBg.out.size)).trans kgc2⟩ | with_reducible exact⟨kla0,kla1,kla2,klb0,klb1,klb2,klc0,klc1,klc2⟩ | with_reducible exact⟨(World.cell?_alloc_lt _ _ _ (Nat.lt_of_lt_of_le HSL.out HBl.out.size)).trans kla0,(World.cell?_alloc_lt _ _ _ (Nat.lt_of_lt_of_le HSL.out HBl.out.size)).trans kla1,(World.cell?_alloc_lt _ _ _ (Nat.lt_of_lt_of_le HSL.out HBl.out.size)).trans kla2,(World.cell?_alloc_lt _ _ _ (Nat.lt_of_lt_of_le HSL.out HBl.out.size)).trans klb0,(World.cell?_alloc_lt _ _ _ (Nat.lt_of_lt_of_le HSL.out HBl.out.size)).trans klb1,(World.cell?_alloc_lt _ _ _ (Nat.lt_of_lt_of_le HSL.out HBl.out.size)).trans klb2,(World.cell?_alloc_lt _ _ _ (Nat.lt_of_lt_of_le HSL.out HBl.out.size)).trans klc0,(World.cell?_alloc_lt _ _ _ (Nat.lt_of_lt_of_le HSL.out HBl.out.size)).trans klc1,(World.cell?_alloc_lt _ _ _ (Nat.lt_of_lt_of_le HSL.out HBl.out.size)).trans klc2⟩ | with_reducible exact⟨kna0,kna1,kna2,knb0,knb1,knb2,knc0,knc1,knc2⟩ | with_reducible exact⟨(World.cell?_alloc_lt _ _ _ (Nat.lt_of_lt_of_le HSL.out HBn.out.size)).trans kna0,(World.cell?_alloc_lt _ _ _ (Nat.lt_of_lt_of_le HSL.out HBn.out.size)).trans kna1,(World.cell?_alloc_lt _ _ _ (Nat.lt_of_lt_of_le HSL.out HBn.out.size)).trans kna2,(World.cell?_alloc_lt _ _ _ (Nat.lt_of_lt_of_le HSL.out HBn.out.size)).trans knb0,(World.cell?_alloc_lt _ _ _ (Nat.lt_of_lt_of_le HSL.out HBn.out.size)).trans knb1,(World.cell?_alloc_lt _ _ _ (Nat.lt_of_lt_of_le HSL.out HBn.out.size)).trans knb2,(World.cell?_alloc_lt _ _ _ (Nat.lt_of_lt_of_le HSL.out HBn.out.size)).trans knc0,(World.cell?_alloc_lt _ _ _ (Nat.lt_of_lt_of_le HSL.out HBn.out.size)).trans knc1,(World.cell?_alloc_lt _ _ _ (Nat.lt_of_lt_of_le HSL.out HBn.out.size)).trans knc2⟩ | with_reducible exact⟨(set3_cell hne).trans kna0,(set3_cell hne).trans kna1,(set3_cell hne).trans kna2,(set3_cell hne).trans knb0,(set3_cell hne).trans knb1,(set3_cell hne).trans knb2,(set3_cell hne).trans knc0,(set3_cell hne).trans knc1,(set3_cell hne).trans knc2⟩)
       clear hK K
       (try simp only [Act.put,Yd,Ye,Yf])
       refine wpAnyH_take (i:=9) (oi:=?oi7) (v:=?v7) ?h1x7 (by kernel_rfl) ?h3x7 (by kernel_rfl) ?h5x7 (Or.inl ⟨?h6x7,?h7x7⟩) hHeld ?h8x7
       case h1x7=>
        simp only [Ya,Yb,Yc];rfl
       case h3x7=>kernel_rfl
       case h5x7=>exact fun _ _ _ h=>h
       case h6x7=>rfl
       case h7x7=>
        intro W hSW
        (try dsimp only at hSW)
        go_split_ands
        first | (go_simp;done) | (go_simp;with_reducible rfl)
       (try simp only [Act.put,Yd,Ye,Yf])
       refine wpAnyH_take (i:=10) (oi:=?oi8) (v:=undef) ?h1x8 (by kernel_rfl) ?h3x8 (by kernel_rfl) ?h5x8 (Or.inr ⟨?h6x8,rfl⟩) hHeld ?h8x8
       case h1x8=>
        simp only [Ya,Yb,Yc];rfl
       case h3x8=>kernel_rfl
       case h5x8=>exact fun _ _ _ h=>h
       case h6x8=>rfl
       (try simp only [Act.put,Yd,Ye,Yf])
       refine wpAnyH_take (i:=11) (oi:=?oi9) (v:=undef) ?h1x9 (by kernel_rfl) ?h3x9 (by kernel_rfl) ?h5x9 (Or.inr ⟨?h6x9,rfl⟩) hHeld ?h8x9
       case h1x9=>
        simp only [Ya,Yb,Yc];rfl
       case h3x9=>kernel_rfl
       case h5x9=>exact fun _ _ _ h=>h
       case h6x9=>rfl
       (try simp only [Act.put,Yd,Ye,Yf])
       refine wpAnyH_take (i:=12) (oi:=?oi10) (v:=undef) ?h1x10 (by kernel_rfl) ?h3x10 (by kernel_rfl) ?h5x10 (Or.inr ⟨?h6x10,rfl⟩) hHeld ?h8x10
       case h1x10=>
        simp only [Ya,Yb,Yc];rfl
       case h3x10=>kernel_rfl
       case h5x10=>exact fun _ _ _ h=>h
       case h6x10=>rfl
       (try simp only [Act.put,Yd,Ye,Yf])
       refine wpAnyH_take (i:=13) (oi:=?oi11) (v:=undef) ?h1x11 (by kernel_rfl) ?h3x11 (by kernel_rfl) ?h5x11 (Or.inr ⟨?h6x11,rfl⟩) hHeld ?h8x11
       case h1x11=>
        simp only [Ya,Yb,Yc];rfl
       case h3x11=>kernel_rfl
       case h5x11=>exact fun _ _ _ h=>h
       case h6x11=>rfl
       (try simp only [Act.put,Yd,Ye,Yf])
       refine wpAnyH_take (i:=14) (oi:=?oi12) (v:=undef) ?h1x12 (by kernel_rfl) ?h3x12 (by kernel_rfl) ?h5x12 (Or.inr ⟨?h6x12,rfl⟩) hHeld ?h8x12
       case h1x12=>
        simp only [Ya,Yb,Yc];rfl
       case h3x12=>kernel_rfl
       case h5x12=>exact fun _ _ _ h=>h
       case h6x12=>rfl
       (try simp only [Act.put,Yd,Ye,Yf])
       refine wpAnyH_take (i:=15) (oi:=?oi13) (v:=undef) ?h1x13 (by kernel_rfl) ?h3x13 (by kernel_rfl) ?h5x13 (Or.inr ⟨?h6x13,rfl⟩) hHeld ?h8x13
       case h1x13=>
        simp only [Ya,Yb,Yc];rfl
       case h3x13=>kernel_rfl
       case h5x13=>exact fun _ _ _ h=>h
       case h6x13=>rfl
       (try simp only [Act.put,Yd,Ye,Yf])
       refine wpAnyH_take (i:=16) (oi:=?oi14) (v:=undef) ?h1x14 (by kernel_rfl) ?h3x14 (by kernel_rfl) ?h5x14 (Or.inr ⟨?h6x14,rfl⟩) hHeld ?h8x14
       case h1x14=>
        simp only [Ya,Yb,Yc];rfl
       case h3x14=>kernel_rfl
       case h5x14=>exact fun _ _ _ h=>h
       case h6x14=>rfl
       (try simp only [Act.put,Yd,Ye,Yf])
       refine wpAnyH_take (i:=17) (oi:=?oi15) (v:=undef) ?h1x15 (by kernel_rfl) ?h3x15 (by kernel_rfl) ?h5x15 (Or.inr ⟨?h6x15,rfl⟩) hHeld ?h8x15
       case h1x15=>
        simp only [Ya,Yb,Yc];rfl
       case h3x15=>kernel_rfl
       case h5x15=>exact fun _ _ _ h=>h
       case h6x15=>rfl
       (try simp only [Act.put,Yd,Ye,Yf])
       refine wpAnyH_take (i:=18) (oi:=?oi16) (v:=?v16) ?h1x16 (by kernel_rfl) ?h3x16 (by kernel_rfl) ?h5x16 (Or.inl ⟨?h6x16,?h7x16⟩) hHeld ?h8x16
       case h1x16=>
        simp only [Ya,Yb,Yc];rfl
       case h3x16=>kernel_rfl
       case h5x16=>exact fun _ _ _ h=>h
       case h6x16=>rfl
       case h7x16=>
        intro W hSW
        (try dsimp only at hSW)
        go_split_ands
        first | (go_simp;done) | (go_simp;with_reducible rfl)
       (try simp only [Act.put,Yd,Ye,Yf])
       refine wpAnyH_ready (rs:=[19]) (by kernel_rfl) (by simp) ?_;refine AllReadyH.cons (by rfl) (fun K hK=>?_) ?_
       · go_simp
         (go_at_call 145;refine(HON.out _).mono ?_;rintro e Wn ⟨rfl,hq⟩;have HBn:=Hd (show Below w0.heap.size w0 Wn from by first | exact HBl.out.trans (hq.mono HBl.out.size));have HGn:=Hd hq;have kna0:=(HBn.out.cell (p:=⟨sb,so,none⟩) HSL.out).trans a0;have kna1:=(HBn.out.cell (p:=⟨sb,so+1,none⟩) HSL.out).trans a1;have kna2:=(HBn.out.cell (p:=⟨sb,so+2,none⟩) HSL.out).trans a2;have knb0:=(HBn.out.cell (p:=⟨sb,so+3,none⟩) HSL.out).trans b0;have knb1:=(HBn.out.cell (p:=⟨sb,so+3+1,none⟩) HSL.out).trans b1;have knb2:=(HBn.out.cell (p:=⟨sb,so+3+2,none⟩) HSL.out).trans b2;have knc0:=(HBn.out.cell (p:=⟨sb,so+2*3,none⟩) HSL.out).trans c0;have knc1:=(HBn.out.cell (p:=⟨sb,so+2*3+1,none⟩) HSL.out).trans c1;have knc2:=(HBn.out.cell (p:=⟨sb,so+2*3+2,none⟩) HSL.out).trans c2;have HRq:=Hd (HR.out.below HBn.out);have s0:=HRq.out.cell 0;have s1:=HRq.out.cell 1;have s2:=HRq.out.cell 2;have fz:∀ j,Wn.frozen? ⟨w.heap.size+1+1,j,none⟩=false:=(fun j=>frozen_of_row Wn _ j _ _ HRq.out);simp only [f3A,List.getElem?_toArray,List.getElem?_cons_zero,List.getElem?_cons_succ] at s0 s1 s2;clear hq)
         go_wp2_with fail
         refine hK.out _ _ ?_ (fun hHeld=>?_)
         · (first | with_reducible exact⟨a0,a1,a2,b0,b1,b2,c0,c1,c2⟩ | with_reducible exact⟨(cell_d _ _).trans a0,(cell_d _ _).trans a1,(cell_d _ _).trans a2,(cell_d _ _).trans b0,(cell_d _ _).trans b1,(cell_d _ _).trans b2,(cell_d _ _).trans c0,(cell_d _ _).trans c1,(cell_d _ _).trans c2⟩ | with_reducible exact⟨(cell_ad _ _ _ HSL.out).trans a0,(cell_ad _ _ _ HSL.out).trans a1,(cell_ad _ _ _ HSL.out).trans a2,(cell_ad _ _ _ HSL.out).trans b0,(cell_ad _ _ _ HSL.out).trans b1,(cell_ad _ _ _ HSL.out).trans b2,(cell_ad _ _ _ HSL.out).trans c0,(cell_ad _ _ _ HSL.out).trans c1,(cell_ad _ _ _ HSL.out).trans c2⟩ | with_reducible exact⟨(World.cell?_alloc_lt _ _ _ HSL.out).trans a0,(World.cell?_alloc_lt _ _ _ HSL.out).trans a1,(World.cell?_alloc_lt _ _ _ HSL.out).trans a2,(World.cell?_alloc_lt _ _ _ HSL.out).trans b0,(World.cell?_alloc_lt _ _ _ HSL.out).trans b1,(World.cell?_alloc_lt _ _ _ HSL.out).trans b2,(World.cell?_alloc_lt _ _ _ HSL.out).trans c0,(World.cell?_alloc_lt _ _ _ HSL.out).trans c1,(World.cell?_alloc_lt _ _ _ HSL.out).trans c2⟩ | with_reducible exact⟨kga0,kga1,kga2,kgb0,kgb1,kgb2,kgc0,kgc1,kgc2⟩ | with_reducible exact⟨(World.cell?_alloc_lt _ _ _ (Nat.lt_of_lt_of_le HSL.out HBg.out.size)).trans kga0,(World.cell?_alloc_lt _ _ _ (Nat.lt_of_lt_of_le HSL.out HBg.out.size)).trans kga1,(World.cell?_alloc_lt _ _ _ (Nat.lt_of_lt_of_le HSL.out HBg.out.size)).trans kga2,(World.cell?_alloc_lt _ _ _ (Nat.lt_of_lt_of_le HSL.out HBg.out.size)).trans kgb0,(World.cell?_alloc_lt _ _ _ (Nat.lt_of_lt_of_le HSL.out HBg.out.size)).trans kgb1,(World.cell?_alloc_lt _ _ _ (Nat.lt_of_lt_of_le HSL.out HBg.out.size)).trans kgb2,(World.cell?_alloc_lt _ _ _ (Nat.lt_of_lt_of_le HSL.out HBg.out.size)).trans kgc0,(World.cell?_alloc_lt _ _ _ (Nat.lt_of_lt_of_le HSL.out HBg.out.size)).trans kgc1,(World.cell?_alloc_lt _ _ _ (Nat.lt_of_lt_of_le HSL.out HBg.out.size)).trans kgc2⟩ | with_reducible exact⟨kla0,kla1,kla2,klb0,klb1,klb2,klc0,klc1,klc2⟩ | with_reducible exact⟨(World.cell?_alloc_lt _ _ _ (Nat.lt_of_lt_of_le HSL.out HBl.out.size)).trans kla0,(World.cell?_alloc_lt _ _ _ (Nat.lt_of_lt_of_le HSL.out HBl.out.size)).trans kla1,(World.cell?_alloc_lt _ _ _ (Nat.lt_of_lt_of_le HSL.out HBl.out.size)).trans kla2,(World.cell?_alloc_lt _ _ _ (Nat.lt_of_lt_of_le HSL.out HBl.out.size)).trans klb0,(World.cell?_alloc_lt _ _ _ (Nat.lt_of_lt_of_le HSL.out HBl.out.size)).trans klb1,(World.cell?_alloc_lt _ _ _ (Nat.lt_of_lt_of_le HSL.out HBl.out.size)).trans klb2,(World.cell?_alloc_lt _ _ _ (Nat.lt_of_lt_of_le HSL.out HBl.out.size)).trans klc0,(World.cell?_alloc_lt _ _ _ (Nat.lt_of_lt_of_le HSL.out HBl.out.size)).trans klc1,(World.cell?_alloc_lt _ _ _ (Nat.lt_of_lt_of_le HSL.out HBl.out.size)).trans klc2⟩ | with_reducible exact⟨kna0,kna1,kna2,knb0,knb1,knb2,knc0,knc1,knc2⟩ | with_reducible exact⟨(World.cell?_alloc_lt _ _ _ (Nat.lt_of_lt_of_le HSL.out HBn.out.size)).trans kna0,(World.cell?_alloc_lt _ _ _ (Nat.lt_of_lt_of_le HSL.out HBn.out.size)).trans kna1,(World.cell?_alloc_lt _ _ _ (Nat.lt_of_lt_of_le HSL.out HBn.out.size)).trans kna2,(World.cell?_alloc_lt _ _ _ (Nat.lt_of_lt_of_le HSL.out HBn.out.size)).trans knb0,(World.cell?_alloc_lt _ _ _ (Nat.lt_of_lt_of_le HSL.out HBn.out.size)).trans knb1,(World.cell?_alloc_lt _ _ _ (Nat.lt_of_lt_of_le HSL.out HBn.out.size)).trans knb2,(World.cell?_alloc_lt _ _ _ (Nat.lt_of_lt_of_le HSL.out HBn.out.size)).trans knc0,(World.cell?_alloc_lt _ _ _ (Nat.lt_of_lt_of_le HSL.out HBn.out.size)).trans knc1,(World.cell?_alloc_lt _ _ _ (Nat.lt_of_lt_of_le HSL.out HBn.out.size)).trans knc2⟩ | with_reducible exact⟨(set3_cell hne).trans kna0,(set3_cell hne).trans kna1,(set3_cell hne).trans kna2,(set3_cell hne).trans knb0,(set3_cell hne).trans knb1,(set3_cell hne).trans knb2,(set3_cell hne).trans knc0,(set3_cell hne).trans knc1,(set3_cell hne).trans knc2⟩)
         clear hK K
         (try simp only [Act.put,Yd,Ye,Yf])
         refine wpAnyH_take (i:=20) (oi:=?oi17) (v:=?v17) ?h1x17 (by kernel_rfl) ?h3x17 (by kernel_rfl) ?h5x17 (Or.inl ⟨?h6x17,?h7x17⟩) hHeld ?h8x17
         case h1x17=>
          simp only [Ya,Yb,Yc];rfl
         case h3x17=>kernel_rfl
         case h5x17=>exact fun _ _ _ h=>h
         case h6x17=>rfl
         case h7x17=>
          intro W hSW
          (try dsimp only at hSW)
          go_split_ands
          first | (go_simp;done) | (go_simp;with_reducible rfl)
         (try simp only [Act.put,Yd,Ye,Yf])
         refine wpAnyH_take (i:=21) (oi:=?oi18) (v:=?v18) ?h1x18 (by kernel_rfl) ?h3x18 (by kernel_rfl) ?h5x18 (Or.inl ⟨?h6x18,?h7x18⟩) hHeld ?h8x18
         case h1x18=>
          simp only [Ya,Yb,Yc];rfl
         case h3x18=>kernel_rfl
         case h5x18=>exact fun _ _ _ h=>h
         case h6x18=>rfl
         case h7x18=>
          intro W hSW
          (try dsimp only at hSW)
          go_split_ands
          first | (go_simp;done) | (go_simp;with_reducible rfl)
         (try simp only [Act.put,Yd,Ye,Yf])
         refine wpAnyH_ready (rs:=[22]) (by kernel_rfl) (by simp) ?_;refine AllReadyH.cons (by rfl) (fun K hK=>?_) ?_
         · go_simp
           refine hK.out _ _ ?_ (fun hHeld=>?_)
           · (first | with_reducible exact⟨a0,a1,a2,b0,b1,b2,c0,c1,c2⟩ | with_reducible exact⟨(cell_d _ _).trans a0,(cell_d _ _).trans a1,(cell_d _ _).trans a2,(cell_d _ _).trans b0,(cell_d _ _).trans b1,(cell_d _ _).trans b2,(cell_d _ _).trans c0,(cell_d _ _).trans c1,(cell_d _ _).trans c2⟩ | with_reducible exact⟨(cell_ad _ _ _ HSL.out).trans a0,(cell_ad _ _ _ HSL.out).trans a1,(cell_ad _ _ _ HSL.out).trans a2,(cell_ad _ _ _ HSL.out).trans b0,(cell_ad _ _ _ HSL.out).trans b1,(cell_ad _ _ _ HSL.out).trans b2,(cell_ad _ _ _ HSL.out).trans c0,(cell_ad _ _ _ HSL.out).trans c1,(cell_ad _ _ _ HSL.out).trans c2⟩ | with_reducible exact⟨(World.cell?_alloc_lt _ _ _ HSL.out).trans a0,(World.cell?_alloc_lt _ _ _ HSL.out).trans a1,(World.cell?_alloc_lt _ _ _ HSL.out).trans a2,(World.cell?_alloc_lt _ _ _ HSL.out).trans b0,(World.cell?_alloc_lt _ _ _ HSL.out).trans b1,(World.cell?_alloc_lt _ _ _ HSL.out).trans b2,(World.cell?_alloc_lt _ _ _ HSL.out).trans c0,(World.cell?_alloc_lt _ _ _ HSL.out).trans c1,(World.cell?_alloc_lt _ _ _ HSL.out).trans c2⟩ | with_reducible exact⟨kga0,kga1,kga2,kgb0,kgb1,kgb2,kgc0,kgc1,kgc2⟩ | with_reducible exact⟨(World.cell?_alloc_lt _ _ _ (Nat.lt_of_lt_of_le HSL.out HBg.out.size)).trans kga0,(World.cell?_alloc_lt _ _ _ (Nat.lt_of_lt_of_le HSL.out HBg.out.size)).trans kga1,(World.cell?_alloc_lt _ _ _ (Nat.lt_of_lt_of_le HSL.out HBg.out.size)).trans kga2,(World.cell?_alloc_lt _ _ _ (Nat.lt_of_lt_of_le HSL.out HBg.out.size)).trans kgb0,(World.cell?_alloc_lt _ _ _ (Nat.lt_of_lt_of_le HSL.out HBg.out.size)).trans kgb1,(World.cell?_alloc_lt _ _ _ (Nat.lt_of_lt_of_le HSL.out HBg.out.size)).trans kgb2,(World.cell?_alloc_lt _ _ _ (Nat.lt_of_lt_of_le HSL.out HBg.out.size)).trans kgc0,(World.cell?_alloc_lt _ _ _ (Nat.lt_of_lt_of_le HSL.out HBg.out.size)).trans kgc1,(World.cell?_alloc_lt _ _ _ (Nat.lt_of_lt_of_le HSL.out HBg.out.size)).trans kgc2⟩ | with_reducible exact⟨kla0,kla1,kla2,klb0,klb1,klb2,klc0,klc1,klc2⟩ | with_reducible exact⟨(World.cell?_alloc_lt _ _ _ (Nat.lt_of_lt_of_le HSL.out HBl.out.size)).trans kla0,(World.cell?_alloc_lt _ _ _ (Nat.lt_of_lt_of_le HSL.out HBl.out.size)).trans kla1,(World.cell?_alloc_lt _ _ _ (Nat.lt_of_lt_of_le HSL.out HBl.out.size)).trans kla2,(World.cell?_alloc_lt _ _ _ (Nat.lt_of_lt_of_le HSL.out HBl.out.size)).trans klb0,(World.cell?_alloc_lt _ _ _ (Nat.lt_of_lt_of_le HSL.out HBl.out.size)).trans klb1,(World.cell?_alloc_lt _ _ _ (Nat.lt_of_lt_of_le HSL.out HBl.out.size)).trans klb2,(World.cell?_alloc_lt _ _ _ (Nat.lt_of_lt_of_le HSL.out HBl.out.size)).trans klc0,(World.cell?_alloc_lt _ _ _ (Nat.lt_of_lt_of_le HSL.out HBl.out.size)).trans klc1,(World.cell?_alloc_lt _ _ _ (Nat.lt_of_lt_of_le HSL.out HBl.out.size)).trans klc2⟩ | with_reducible exact⟨kna0,kna1,kna2,knb0,knb1,knb2,knc0,knc1,knc2⟩ | with_reducible exact⟨(World.cell?_alloc_lt _ _ _ (Nat.lt_of_lt_of_le HSL.out HBn.out.size)).trans kna0,(World.cell?_alloc_lt _ _ _ (Nat.lt_of_lt_of_le HSL.out HBn.out.size)).trans kna1,(World.cell?_alloc_lt _ _ _ (Nat.lt_of_lt_of_le HSL.out HBn.out.size)).trans kna2,(World.cell?_alloc_lt _ _ _ (Nat.lt_of_lt_of_le HSL.out HBn.out.size)).trans knb0,(World.cell?_alloc_lt _ _ _ (Nat.lt_of_lt_of_le HSL.out HBn.out.size)).trans knb1,(World.cell?_alloc_lt _ _ _ (Nat.lt_of_lt_of_le HSL.out HBn.out.size)).trans knb2,(World.cell?_alloc_lt _ _ _ (Nat.lt_of_lt_of_le HSL.out HBn.out.size)).trans knc0,(World.cell?_alloc_lt _ _ _ (Nat.lt_of_lt_of_le HSL.out HBn.out.size)).trans knc1,(World.cell?_alloc_lt _ _ _ (Nat.lt_of_lt_of_le HSL.out HBn.out.size)).trans knc2⟩ | with_reducible exact⟨(set3_cell hne).trans kna0,(set3_cell hne).trans kna1,(set3_cell hne).trans kna2,(set3_cell hne).trans knb0,(set3_cell hne).trans knb1,(set3_cell hne).trans knb2,(set3_cell hne).trans knc0,(set3_cell hne).trans knc1,(set3_cell hne).trans knc2⟩)
           clear hK K
           (try simp only [Act.put,Yd,Ye,Yf])
           refine wpAnyH_take (i:=23) (oi:=?oi19) (v:=?v19) ?h1x19 (by kernel_rfl) ?h3x19 (by kernel_rfl) ?h5x19 (Or.inl ⟨?h6x19,?h7x19⟩) hHeld ?h8x19
           case h1x19=>
            simp only [Ya,Yb,Yc];rfl
           case h3x19=>kernel_rfl
           case h5x19=>exact fun _ _ _ h=>h
           case h6x19=>rfl
           case h7x19=>
            intro W hSW
            (try dsimp only at hSW)
            go_split_ands
            first | (go_simp;done) | (go_simp;with_reducible rfl)
           (try simp only [Act.put,Yd,Ye,Yf])
           refine wpAnyH_done (by kernel_rfl) ?_ _;generalize hwz:World.setCell _ _ _=wz;rw [f3_set HRq.out] at hwz;have HFz:=Hd (show F3 41 wz (w.heap.size+1+1) 0 0 0 by rw [← hwz];exact HRq.out.set _ _ _);have HBz:=Hd (show Below w.heap.size w wz by rw [← hwz];exact below_setRow (below_next2 HB0.out HBn.out) (by omega) _);clear hwz
           go_wp2_with fail
           exact bodyPost_ret (res_ty2 (p:=6) (u:=7) rfl _ _ (w.heap.size+1+1) 0 0 0 rfl HFz.out) rfl (tyz_none HO.out ⟨rfl,HBz.out⟩)
         exact AllReadyH.nil
       exact AllReadyH.nil
     exact AllReadyH.nil
   exact AllReadyH.nil
 refine AllReadyH.cons (by rfl) (fun K hK=>?_) ?_
 · go_simp
   refine hK.out _ _ ?_ (fun hHeld=>?_)
   · (first | with_reducible exact⟨a0,a1,a2,b0,b1,b2,c0,c1,c2⟩ | with_reducible exact⟨(cell_d _ _).trans a0,(cell_d _ _).trans a1,(cell_d _ _).trans a2,(cell_d _ _).trans b0,(cell_d _ _).trans b1,(cell_d _ _).trans b2,(cell_d _ _).trans c0,(cell_d _ _).trans c1,(cell_d _ _).trans c2⟩ | with_reducible exact⟨(cell_ad _ _ _ HSL.out).trans a0,(cell_ad _ _ _ HSL.out).trans a1,(cell_ad _ _ _ HSL.out).trans a2,(cell_ad _ _ _ HSL.out).trans b0,(cell_ad _ _ _ HSL.out).trans b1,(cell_ad _ _ _ HSL.out).trans b2,(cell_ad _ _ _ HSL.out).trans c0,(cell_ad _ _ _ HSL.out).trans c1,(cell_ad _ _ _ HSL.out).trans c2⟩ | with_reducible exact⟨(World.cell?_alloc_lt _ _ _ HSL.out).trans a0,(World.cell?_alloc_lt _ _ _ HSL.out).trans a1,(World.cell?_alloc_lt _ _ _ HSL.out).trans a2,(World.cell?_alloc_lt _ _ _ HSL.out).trans b0,(World.cell?_alloc_lt _ _ _ HSL.out).trans b1,(World.cell?_alloc_lt _ _ _ HSL.out).trans b2,(World.cell?_alloc_lt _ _ _ HSL.out).trans c0,(World.cell?_alloc_lt _ _ _ HSL.out).trans c1,(World.cell?_alloc_lt _ _ _ HSL.out).trans c2⟩ | with_reducible exact⟨kga0,kga1,kga2,kgb0,kgb1,kgb2,kgc0,kgc1,kgc2⟩ | with_reducible exact⟨(World.cell?_alloc_lt _ _ _ (Nat.lt_of_lt_of_le HSL.out HBg.out.size)).trans kga0,(World.cell?_alloc_lt _ _ _ (Nat.lt_of_lt_of_le HSL.out HBg.out.size)).trans kga1,(World.cell?_alloc_lt _ _ _ (Nat.lt_of_lt_of_le HSL.out HBg.out.size)).trans kga2,(World.cell?_alloc_lt _ _ _ (Nat.lt_of_lt_of_le HSL.out HBg.out.size)).trans kgb0,(World.cell?_alloc_lt _ _ _ (Nat.lt_of_lt_of_le HSL.out HBg.out.size)).trans kgb1,(World.cell?_alloc_lt _ _ _ (Nat.lt_of_lt_of_le HSL.out HBg.out.size)).trans kgb2,(World.cell?_alloc_lt _ _ _ (Nat.lt_of_lt_of_le HSL.out HBg.out.size)).trans kgc0,(World.cell?_alloc_lt _ _ _ (Nat.lt_of_lt_of_le HSL.out HBg.out.size)).trans kgc1,(World.cell?_alloc_lt _ _ _ (Nat.lt_of_lt_of_le HSL.out HBg.out.size)).trans kgc2⟩ | with_reducible exact⟨kla0,kla1,kla2,klb0,klb1,klb2,klc0,klc1,klc2⟩ | with_reducible exact⟨(World.cell?_alloc_lt _ _ _ (Nat.lt_of_lt_of_le HSL.out HBl.out.size)).trans kla0,(World.cell?_alloc_lt _ _ _ (Nat.lt_of_lt_of_le HSL.out HBl.out.size)).trans kla1,(World.cell?_alloc_lt _ _ _ (Nat.lt_of_lt_of_le HSL.out HBl.out.size)).trans kla2,(World.cell?_alloc_lt _ _ _ (Nat.lt_of_lt_of_le HSL.out HBl.out.size)).trans klb0,(World.cell?_alloc_lt _ _ _ (Nat.lt_of_lt_of_le HSL.out HBl.out.size)).trans klb1,(World.cell?_alloc_lt _ _ _ (Nat.lt_of_lt_of_le HSL.out HBl.out.size)).trans klb2,(World.cell?_alloc_lt _ _ _ (Nat.lt_of_lt_of_le HSL.out HBl.out.size)).trans klc0,(World.cell?_alloc_lt _ _ _ (Nat.lt_of_lt_of_le HSL.out HBl.out.size)).trans klc1,(World.cell?_alloc_lt _ _ _ (Nat.lt_of_lt_of_le HSL.out HBl.out.size)).trans klc2⟩ | with_reducible exact⟨kna0,kna1,kna2,knb0,knb1,knb2,knc0,knc1,knc2⟩ | with_reducible exact⟨(World.cell?_alloc_lt _ _ _ (Nat.lt_of_lt_of_le HSL.out HBn.out.size)).trans kna0,(World.cell?_alloc_lt _ _ _ (Nat.lt_of_lt_of_le HSL.out HBn.out.size)).trans kna1,(World.cell?_alloc_lt _ _ _ (Nat.lt_of_lt_of_le HSL.out HBn.out.size)).trans kna2,(World.cell?_alloc_lt _ _ _ (Nat.lt_of_lt_of_le HSL.out HBn.out.size)).trans knb0,(World.cell?_alloc_lt _ _ _ (Nat.lt_of_lt_of_le HSL.out HBn.out.size)).trans knb1,(World.cell?_alloc_lt _ _ _ (Nat.lt_of_lt_of_le HSL.out HBn.out.size)).trans knb2,(World.cell?_alloc_lt _ _ _ (Nat.lt_of_lt_of_le HSL.out HBn.out.size)).trans knc0,(World.cell?_alloc_lt _ _ _ (Nat.lt_of_lt_of_le HSL.out HBn.out.size)).trans knc1,(World.cell?_alloc_lt _ _ _ (Nat.lt_of_lt_of_le HSL.out HBn.out.size)).trans knc2⟩ | with_reducible exact⟨(set3_cell hne).trans kna0,(set3_cell hne).trans kna1,(set3_cell hne).trans kna2,(set3_cell hne).trans knb0,(set3_cell hne).trans knb1,(set3_cell hne).trans knb2,(set3_cell hne).trans knc0,(set3_cell hne).trans knc1,(set3_cell hne).trans knc2⟩)
   clear hK K
   (try simp only [Act.put,Yd,Ye,Yf])
   refine wpAnyH_ready (rs:=[3]) (by kernel_rfl) (by simp) ?_;refine AllReadyH.cons (by rfl) (fun K hK=>?_) ?_
   · go_simp
     (go_at_call 120;refine(HSI.out 2 _).mono ?_;rintro e Wg ⟨rfl,hq⟩;have HBg:=Hd (show Below w0.heap.size w0 Wg from by first | exact(below_drewN (Below.refl w0.heap.size w0) 1).trans (hq.mono (Nat.le_refl _)) | exact(((Below.refl w0.heap.size w0).alloc (Nat.le_refl _) (.cells #[.int .i64 x0,.int .i64 x1,.int .i64 x2] 41)).drew).trans (hq.mono (by simp)));have HGg:=Hd hq;have kga0:=(HBg.out.cell (p:=⟨sb,so,none⟩) HSL.out).trans a0;have kga1:=(HBg.out.cell (p:=⟨sb,so+1,none⟩) HSL.out).trans a1;have kga2:=(HBg.out.cell (p:=⟨sb,so+2,none⟩) HSL.out).trans a2;have kgb0:=(HBg.out.cell (p:=⟨sb,so+3,none⟩) HSL.out).trans b0;have kgb1:=(HBg.out.cell (p:=⟨sb,so+3+1,none⟩) HSL.out).trans b1;have kgb2:=(HBg.out.cell (p:=⟨sb,so+3+2,none⟩) HSL.out).trans b2;have kgc0:=(HBg.out.cell (p:=⟨sb,so+2*3,none⟩) HSL.out).trans c0;have kgc1:=(HBg.out.cell (p:=⟨sb,so+2*3+1,none⟩) HSL.out).trans c1;have kgc2:=(HBg.out.cell (p:=⟨sb,so+2*3+2,none⟩) HSL.out).trans c2;clear hq)
     go_wp2_with fail
     refine hK.out _ _ ?_ (fun hHeld=>?_)
     · (first | with_reducible exact⟨a0,a1,a2,b0,b1,b2,c0,c1,c2⟩ | with_reducible exact⟨(cell_d _ _).trans a0,(cell_d _ _).trans a1,(cell_d _ _).trans a2,(cell_d _ _).trans b0,(cell_d _ _).trans b1,(cell_d _ _).trans b2,(cell_d _ _).trans c0,(cell_d _ _).trans c1,(cell_d _ _).trans c2⟩ | with_reducible exact⟨(cell_ad _ _ _ HSL.out).trans a0,(cell_ad _ _ _ HSL.out).trans a1,(cell_ad _ _ _ HSL.out).trans a2,(cell_ad _ _ _ HSL.out).trans b0,(cell_ad _ _ _ HSL.out).trans b1,(cell_ad _ _ _ HSL.out).trans b2,(cell_ad _ _ _ HSL.out).trans c0,(cell_ad _ _ _ HSL.out).trans c1,(cell_ad _ _ _ HSL.out).trans c2⟩ | with_reducible exact⟨(World.cell?_alloc_lt _ _ _ HSL.out).trans a0,(World.cell?_alloc_lt _ _ _ HSL.out).trans a1,(World.cell?_alloc_lt _ _ _ HSL.out).trans a2,(World.cell?_alloc_lt _ _ _ HSL.out).trans b0,(World.cell?_alloc_lt _ _ _ HSL.out).trans b1,(World.cell?_alloc_lt _ _ _ HSL.out).trans b2,(World.cell?_alloc_lt _ _ _ HSL.out).trans c0,(World.cell?_alloc_lt _ _ _ HSL.out).trans c1,(World.cell?_alloc_lt _ _ _ HSL.out).trans c2⟩ | with_reducible exact⟨kga0,kga1,kga2,kgb0,kgb1,kgb2,kgc0,kgc1,kgc2⟩ | with_reducible exact⟨(World.cell?_alloc_lt _ _ _ (Nat.lt_of_lt_of_le HSL.out HBg.out.size)).trans kga0,(World.cell?_alloc_lt _ _ _ (Nat.lt_of_lt_of_le HSL.out HBg.out.size)).trans kga1,(World.cell?_alloc_lt _ _ _ (Nat.lt_of_lt_of_le HSL.out HBg.out.size)).trans kga2,(World.cell?_alloc_lt _ _ _ (Nat.lt_of_lt_of_le HSL.out HBg.out.size)).trans kgb0,(World.cell?_alloc_lt _ _ _ (Nat.lt_of_lt_of_le HSL.out HBg.out.size)).trans kgb1,(World.cell?_alloc_lt _ _ _ (Nat.lt_of_lt_of_le HSL.out HBg.out.size)).trans kgb2,(World.cell?_alloc_lt _ _ _ (Nat.lt_of_lt_of_le HSL.out HBg.out.size)).trans kgc0,(World.cell?_alloc_lt _ _ _ (Nat.lt_of_lt_of_le HSL.out HBg.out.size)).trans kgc1,(World.cell?_alloc_lt _ _ _ (Nat.lt_of_lt_of_le HSL.out HBg.out.size)).trans kgc2⟩ | with_reducible exact⟨kla0,kla1,kla2,klb0,klb1,klb2,klc0,klc1,klc2⟩ | with_reducible exact⟨(World.cell?_alloc_lt _ _ _ (Nat.lt_of_lt_of_le HSL.out HBl.out.size)).trans kla0,(World.cell?_alloc_lt _ _ _ (Nat.lt_of_lt_of_le HSL.out HBl.out.size)).trans kla1,(World.cell?_alloc_lt _ _ _ (Nat.lt_of_lt_of_le HSL.out HBl.out.size)).trans kla2,(World.cell?_alloc_lt _ _ _ (Nat.lt_of_lt_of_le HSL.out HBl.out.size)).trans klb0,(World.cell?_alloc_lt _ _ _ (Nat.lt_of_lt_of_le HSL.out HBl.out.size)).trans klb1,(World.cell?_alloc_lt _ _ _ (Nat.lt_of_lt_of_le HSL.out HBl.out.size)).trans klb2,(World.cell?_alloc_lt _ _ _ (Nat.lt_of_lt_of_le HSL.out HBl.out.size)).trans klc0,(World.cell?_alloc_lt _ _ _ (Nat.lt_of_lt_of_le HSL.out HBl.out.size)).trans klc1,(World.cell?_alloc_lt _ _ _ (Nat.lt_of_lt_of_le HSL.out HBl.out.size)).trans klc2⟩ | with_reducible exact⟨kna0,kna1,kna2,knb0,knb1,knb2,knc0,knc1,knc2⟩ | with_reducible exact⟨(World.cell?_alloc_lt _ _ _ (Nat.lt_of_lt_of_le HSL.out HBn.out.size)).trans kna0,(World.cell?_alloc_lt _ _ _ (Nat.lt_of_lt_of_le HSL.out HBn.out.size)).trans kna1,(World.cell?_alloc_lt _ _ _ (Nat.lt_of_lt_of_le HSL.out HBn.out.size)).trans kna2,(World.cell?_alloc_lt _ _ _ (Nat.lt_of_lt_of_le HSL.out HBn.out.size)).trans knb0,(World.cell?_alloc_lt _ _ _ (Nat.lt_of_lt_of_le HSL.out HBn.out.size)).trans knb1,(World.cell?_alloc_lt _ _ _ (Nat.lt_of_lt_of_le HSL.out HBn.out.size)).trans knb2,(World.cell?_alloc_lt _ _ _ (Nat.lt_of_lt_of_le HSL.out HBn.out.size)).trans knc0,(World.cell?_alloc_lt _ _ _ (Nat.lt_of_lt_of_le HSL.out HBn.out.size)).trans knc1,(World.cell?_alloc_lt _ _ _ (Nat.lt_of_lt_of_le HSL.out HBn.out.size)).trans knc2⟩ | with_reducible exact⟨(set3_cell hne).trans kna0,(set3_cell hne).trans kna1,(set3_cell hne).trans kna2,(set3_cell hne).trans knb0,(set3_cell hne).trans knb1,(set3_cell hne).trans knb2,(set3_cell hne).trans knc0,(set3_cell hne).trans knc1,(set3_cell hne).trans knc2⟩)
     clear hK K
     (try simp only [Act.put,Yd,Ye,Yf])
     refine wpAnyH_ready (rs:=[8]) (by kernel_rfl) (by simp) ?_;refine AllReadyH.cons (by rfl) (fun K hK=>?_) ?_
     · go_simp
       (go_at_call 119;(with_reducible refine(HAL1.out _ _ ?hx).mono ?_);(case hx=>(first | exact RdY.lit Wg x0 x1 x2 41 | exact((RdY.lit w0 x0 x1 x2 41).drew).below HGg.out));rintro e Wl ⟨rfl,hq⟩;have HBl:=Hd (show Below w0.heap.size w0 Wl from by first | exact(HBg.out.alloc HBg.out.size (.cells #[.int .i64 x0,.int .i64 x1,.int .i64 x2] 41)).trans (hq.mono (by have:=HBg.out.size;simp;omega)) | exact HBg.out.trans (hq.mono HBg.out.size));have HGl:=Hd hq;have kla0:=(HBl.out.cell (p:=⟨sb,so,none⟩) HSL.out).trans a0;have kla1:=(HBl.out.cell (p:=⟨sb,so+1,none⟩) HSL.out).trans a1;have kla2:=(HBl.out.cell (p:=⟨sb,so+2,none⟩) HSL.out).trans a2;have klb0:=(HBl.out.cell (p:=⟨sb,so+3,none⟩) HSL.out).trans b0;have klb1:=(HBl.out.cell (p:=⟨sb,so+3+1,none⟩) HSL.out).trans b1;have klb2:=(HBl.out.cell (p:=⟨sb,so+3+2,none⟩) HSL.out).trans b2;have klc0:=(HBl.out.cell (p:=⟨sb,so+2*3,none⟩) HSL.out).trans c0;have klc1:=(HBl.out.cell (p:=⟨sb,so+2*3+1,none⟩) HSL.out).trans c1;have klc2:=(HBl.out.cell (p:=⟨sb,so+2*3+2,none⟩) HSL.out).trans c2;clear hq)
       go_wp2_with fail
       refine hK.out _ _ ?_ (fun hHeld=>?_)
       · (first | with_reducible exact⟨a0,a1,a2,b0,b1,b2,c0,c1,c2⟩ | with_reducible exact⟨(cell_d _ _).trans a0,(cell_d _ _).trans a1,(cell_d _ _).trans a2,(cell_d _ _).trans b0,(cell_d _ _).trans b1,(cell_d _ _).trans b2,(cell_d _ _).trans c0,(cell_d _ _).trans c1,(cell_d _ _).trans c2⟩ | with_reducible exact⟨(cell_ad _ _ _ HSL.out).trans a0,(cell_ad _ _ _ HSL.out).trans a1,(cell_ad _ _ _ HSL.out).trans a2,(cell_ad _ _ _ HSL.out).trans b0,(cell_ad _ _ _ HSL.out).trans b1,(cell_ad _ _ _ HSL.out).trans b2,(cell_ad _ _ _ HSL.out).trans c0,(cell_ad _ _ _ HSL.out).trans c1,(cell_ad _ _ _ HSL.out).trans c2⟩ | with_reducible exact⟨(World.cell?_alloc_lt _ _ _ HSL.out).trans a0,(World.cell?_alloc_lt _ _ _ HSL.out).trans a1,(World.cell?_alloc_lt _ _ _ HSL.out).trans a2,(World.cell?_alloc_lt _ _ _ HSL.out).trans b0,(World.cell?_alloc_lt _ _ _ HSL.out).trans b1,(World.cell?_alloc_lt _ _ _ HSL.out).trans b2,(World.cell?_alloc_lt _ _ _ HSL.out).trans c0,(World.cell?_alloc_lt _ _ _ HSL.out).trans c1,(World.cell?_alloc_lt _ _ _ HSL.out).trans c2⟩ | with_reducible exact⟨kga0,kga1,kga2,kgb0,kgb1,kgb2,kgc0,kgc1,kgc2⟩ | with_reducible exact⟨(World.cell?_alloc_lt _ _ _ (Nat.lt_of_lt_of_le HSL.out HBg.out.size)).trans kga0,(World.cell?_alloc_lt _ _ _ (Nat.lt_of_lt_of_le HSL.out HBg.out.size)).trans kga1,(World.cell?_alloc_lt _ _ _ (Nat.lt_of_lt_of_le HSL.out HBg.out.size)).trans kga2,(World.cell?_alloc_lt _ _ _ (Nat.lt_of_lt_of_le HSL.out HBg.out.size)).trans kgb0,(World.cell?_alloc_lt _ _ _ (Nat.lt_of_lt_of_le HSL.out HBg.out.size)).trans kgb1,(World.cell?_alloc_lt _ _ _ (Nat.lt_of_lt_of_le HSL.out HBg.out.size)).trans kgb2,(World.cell?_alloc_lt _ _ _ (Nat.lt_of_lt_of_le HSL.out HBg.out.size)).trans kgc0,(World.cell?_alloc_lt _ _ _ (Nat.lt_of_lt_of_le HSL.out HBg.out.size)).trans kgc1,(World.cell?_alloc_lt _ _ _ (Nat.lt_of_lt_of_le HSL.out HBg.out.size)).trans kgc2⟩ | with_reducible exact⟨kla0,kla1,kla2,klb0,klb1,klb2,klc0,klc1,klc2⟩ | with_reducible exact⟨(World.cell?_alloc_lt _ _ _ (Nat.lt_of_lt_of_le HSL.out HBl.out.size)).trans kla0,(World.cell?_alloc_lt _ _ _ (Nat.lt_of_lt_of_le HSL.out HBl.out.size)).trans kla1,(World.cell?_alloc_lt _ _ _ (Nat.lt_of_lt_of_le HSL.out HBl.out.size)).trans kla2,(World.cell?_alloc_lt _ _ _ (Nat.lt_of_lt_of_le HSL.out HBl.out.size)).trans klb0,(World.cell?_alloc_lt _ _ _ (Nat.lt_of_lt_of_le HSL.out HBl.out.size)).trans klb1,(World.cell?_alloc_lt _ _ _ (Nat.lt_of_lt_of_le HSL.out HBl.out.size)).trans klb2,(World.cell?_alloc_lt _ _ _ (Nat.lt_of_lt_of_le HSL.out HBl.out.size)).trans klc0,(World.cell?_alloc_lt _ _ _ (Nat.lt_of_lt_of_le HSL.out HBl.out.size)).trans klc1,(World.cell?_alloc_lt _ _ _ (Nat.lt_of_lt_of_le HSL.out HBl.out.size)).trans klc2⟩ | with_reducible exact⟨kna0,kna1,kna2,knb0,knb1,knb2,knc0,knc1,knc2⟩ | with_reducible exact⟨(World.cell?_alloc_lt _ _ _ (Nat.lt_of_lt_of_le HSL.out HBn.out.size)).trans kna0,(World.cell?_alloc_lt _ _ _ (Nat.lt_of_lt_of_le HSL.out HBn.out.size)).trans kna1,(World.cell?_alloc_lt _ _ _ (Nat.lt_of_lt_of_le HSL.out HBn.out.size)).trans kna2,(World.cell?_alloc_lt _ _ _ (Nat.lt_of_lt_of_le HSL.out HBn.out.size)).trans knb0,(World.cell?_alloc_lt _ _ _ (Nat.lt_of_lt_of_le HSL.out HBn.out.size)).trans knb1,(World.cell?_alloc_lt _ _ _ (Nat.lt_of_lt_of_le HSL.out HBn.out.size)).trans knb2,(World.cell?_alloc_lt _ _ _ (Nat.lt_of_lt_of_le HSL.out HBn.out.size)).trans knc0,(World.cell?_alloc_lt _ _ _ (Nat.lt_of_lt_of_le HSL.out HBn.out.size)).trans knc1,(World.cell?_alloc_lt _ _ _ (Nat.lt_of_lt_of_le HSL.out HBn.out.size)).trans knc2⟩ | with_reducible exact⟨(set3_cell hne).trans kna0,(set3_cell hne).trans kna1,(set3_cell hne).trans kna2,(set3_cell hne).trans knb0,(set3_cell hne).trans knb1,(set3_cell hne).trans knb2,(set3_cell hne).trans knc0,(set3_cell hne).trans knc1,(set3_cell hne).trans knc2⟩)
       clear hK K
       (try simp only [Act.put,Yd,Ye,Yf])
       refine wpAnyH_take (i:=9) (oi:=?oi20) (v:=?v20) ?h1x20 (by kernel_rfl) ?h3x20 (by kernel_rfl) ?h5x20 (Or.inl ⟨?h6x20,?h7x20⟩) hHeld ?h8x20
       case h1x20=>
        simp only [Ya,Yb,Yc];rfl
       case h3x20=>kernel_rfl
       case h5x20=>exact fun _ _ _ h=>h
       case h6x20=>rfl
       case h7x20=>
        intro W hSW
        (try dsimp only at hSW)
        go_split_ands
        first | (go_simp;done) | (go_simp;with_reducible rfl)
       (try simp only [Act.put,Yd,Ye,Yf])
       refine wpAnyH_take (i:=10) (oi:=?oi21) (v:=undef) ?h1x21 (by kernel_rfl) ?h3x21 (by kernel_rfl) ?h5x21 (Or.inr ⟨?h6x21,rfl⟩) hHeld ?h8x21
       case h1x21=>
        simp only [Ya,Yb,Yc];rfl
       case h3x21=>kernel_rfl
       case h5x21=>exact fun _ _ _ h=>h
       case h6x21=>rfl
       (try simp only [Act.put,Yd,Ye,Yf])
       refine wpAnyH_take (i:=11) (oi:=?oi22) (v:=undef) ?h1x22 (by kernel_rfl) ?h3x22 (by kernel_rfl) ?h5x22 (Or.inr ⟨?h6x22,rfl⟩) hHeld ?h8x22
       case h1x22=>
        simp only [Ya,Yb,Yc];rfl
       case h3x22=>kernel_rfl
       case h5x22=>exact fun _ _ _ h=>h
       case h6x22=>rfl
       (try simp only [Act.put,Yd,Ye,Yf])
       refine wpAnyH_take (i:=12) (oi:=?oi23) (v:=undef) ?h1x23 (by kernel_rfl) ?h3x23 (by kernel_rfl) ?h5x23 (Or.inr ⟨?h6x23,rfl⟩) hHeld ?h8x23
       case h1x23=>
        simp only [Ya,Yb,Yc];rfl
       case h3x23=>kernel_rfl
       case h5x23=>exact fun _ _ _ h=>h
       case h6x23=>rfl
       (try simp only [Act.put,Yd,Ye,Yf])
       refine wpAnyH_take (i:=13) (oi:=?oi24) (v:=undef) ?h1x24 (by kernel_rfl) ?h3x24 (by kernel_rfl) ?h5x24 (Or.inr ⟨?h6x24,rfl⟩) hHeld ?h8x24
       case h1x24=>
        simp only [Ya,Yb,Yc];rfl
       case h3x24=>kernel_rfl
       case h5x24=>exact fun _ _ _ h=>h
       case h6x24=>rfl
       (try simp only [Act.put,Yd,Ye,Yf])
       refine wpAnyH_take (i:=14) (oi:=?oi25) (v:=undef) ?h1x25 (by kernel_rfl) ?h3x25 (by kernel_rfl) ?h5x25 (Or.inr ⟨?h6x25,rfl⟩) hHeld ?h8x25
       case h1x25=>
        simp only [Ya,Yb,Yc];rfl
       case h3x25=>kernel_rfl
       case h5x25=>exact fun _ _ _ h=>h
       case h6x25=>rfl
       (try simp only [Act.put,Yd,Ye,Yf])
       refine wpAnyH_take (i:=15) (oi:=?oi26) (v:=undef) ?h1x26 (by kernel_rfl) ?h3x26 (by kernel_rfl) ?h5x26 (Or.inr ⟨?h6x26,rfl⟩) hHeld ?h8x26
       case h1x26=>
        simp only [Ya,Yb,Yc];rfl
       case h3x26=>kernel_rfl
       case h5x26=>exact fun _ _ _ h=>h
       case h6x26=>rfl
       (try simp only [Act.put,Yd,Ye,Yf])
       refine wpAnyH_take (i:=16) (oi:=?oi27) (v:=undef) ?h1x27 (by kernel_rfl) ?h3x27 (by kernel_rfl) ?h5x27 (Or.inr ⟨?h6x27,rfl⟩) hHeld ?h8x27
       case h1x27=>
        simp only [Ya,Yb,Yc];rfl
       case h3x27=>kernel_rfl
       case h5x27=>exact fun _ _ _ h=>h
       case h6x27=>rfl
       (try simp only [Act.put,Yd,Ye,Yf])
       refine wpAnyH_take (i:=17) (oi:=?oi28) (v:=undef) ?h1x28 (by kernel_rfl) ?h3x28 (by kernel_rfl) ?h5x28 (Or.inr ⟨?h6x28,rfl⟩) hHeld ?h8x28
       case h1x28=>
        simp only [Ya,Yb,Yc];rfl
       case h3x28=>kernel_rfl
       case h5x28=>exact fun _ _ _ h=>h
       case h6x28=>rfl
       (try simp only [Act.put,Yd,Ye,Yf])
       refine wpAnyH_take (i:=18) (oi:=?oi29) (v:=?v29) ?h1x29 (by kernel_rfl) ?h3x29 (by kernel_rfl) ?h5x29 (Or.inl ⟨?h6x29,?h7x29⟩) hHeld ?h8x29
       case h1x29=>
        simp only [Ya,Yb,Yc];rfl
       case h3x29=>kernel_rfl
       case h5x29=>exact fun _ _ _ h=>h
       case h6x29=>rfl
       case h7x29=>
        intro W hSW
        (try dsimp only at hSW)
        go_split_ands
        first | (go_simp;done) | (go_simp;with_reducible rfl)
       (try simp only [Act.put,Yd,Ye,Yf])
       refine wpAnyH_ready (rs:=[19]) (by kernel_rfl) (by simp) ?_;refine AllReadyH.cons (by rfl) (fun K hK=>?_) ?_
       · go_simp
         (go_at_call 145;refine(HON.out _).mono ?_;rintro e Wn ⟨rfl,hq⟩;have HBn:=Hd (show Below w0.heap.size w0 Wn from by first | exact HBl.out.trans (hq.mono HBl.out.size));have HGn:=Hd hq;have kna0:=(HBn.out.cell (p:=⟨sb,so,none⟩) HSL.out).trans a0;have kna1:=(HBn.out.cell (p:=⟨sb,so+1,none⟩) HSL.out).trans a1;have kna2:=(HBn.out.cell (p:=⟨sb,so+2,none⟩) HSL.out).trans a2;have knb0:=(HBn.out.cell (p:=⟨sb,so+3,none⟩) HSL.out).trans b0;have knb1:=(HBn.out.cell (p:=⟨sb,so+3+1,none⟩) HSL.out).trans b1;have knb2:=(HBn.out.cell (p:=⟨sb,so+3+2,none⟩) HSL.out).trans b2;have knc0:=(HBn.out.cell (p:=⟨sb,so+2*3,none⟩) HSL.out).trans c0;have knc1:=(HBn.out.cell (p:=⟨sb,so+2*3+1,none⟩) HSL.out).trans c1;have knc2:=(HBn.out.cell (p:=⟨sb,so+2*3+2,none⟩) HSL.out).trans c2;have HRq:=Hd (HR.out.below HBn.out);have s0:=HRq.out.cell 0;have s1:=HRq.out.cell 1;have s2:=HRq.out.cell 2;have fz:∀ j,Wn.frozen? ⟨w.heap.size+1+1,j,none⟩=false:=(fun j=>frozen_of_row Wn _ j _ _ HRq.out);simp only [f3A,List.getElem?_toArray,List.getElem?_cons_zero,List.getElem?_cons_succ] at s0 s1 s2;clear hq)
         go_wp2_with fail
         refine hK.out _ _ ?_ (fun hHeld=>?_)
         · (first | with_reducible exact⟨a0,a1,a2,b0,b1,b2,c0,c1,c2⟩ | with_reducible exact⟨(cell_d _ _).trans a0,(cell_d _ _).trans a1,(cell_d _ _).trans a2,(cell_d _ _).trans b0,(cell_d _ _).trans b1,(cell_d _ _).trans b2,(cell_d _ _).trans c0,(cell_d _ _).trans c1,(cell_d _ _).trans c2⟩ | with_reducible exact⟨(cell_ad _ _ _ HSL.out).trans a0,(cell_ad _ _ _ HSL.out).trans a1,(cell_ad _ _ _ HSL.out).trans a2,(cell_ad _ _ _ HSL.out).trans b0,(cell_ad _ _ _ HSL.out).trans b1,(cell_ad _ _ _ HSL.out).trans b2,(cell_ad _ _ _ HSL.out).trans c0,(cell_ad _ _ _ HSL.out).trans c1,(cell_ad _ _ _ HSL.out).trans c2⟩ | with_reducible exact⟨(World.cell?_alloc_lt _ _ _ HSL.out).trans a0,(World.cell?_alloc_lt _ _ _ HSL.out).trans a1,(World.cell?_alloc_lt _ _ _ HSL.out).trans a2,(World.cell?_alloc_lt _ _ _ HSL.out).trans b0,(World.cell?_alloc_lt _ _ _ HSL.out).trans b1,(World.cell?_alloc_lt _ _ _ HSL.out).trans b2,(World.cell?_alloc_lt _ _ _ HSL.out).trans c0,(World.cell?_alloc_lt _ _ _ HSL.out).trans c1,(World.cell?_alloc_lt _ _ _ HSL.out).trans c2⟩ | with_reducible exact⟨kga0,kga1,kga2,kgb0,kgb1,kgb2,kgc0,kgc1,kgc2⟩ | with_reducible exact⟨(World.cell?_alloc_lt _ _ _ (Nat.lt_of_lt_of_le HSL.out HBg.out.size)).trans kga0,(World.cell?_alloc_lt _ _ _ (Nat.lt_of_lt_of_le HSL.out HBg.out.size)).trans kga1,(World.cell?_alloc_lt _ _ _ (Nat.lt_of_lt_of_le HSL.out HBg.out.size)).trans kga2,(World.cell?_alloc_lt _ _ _ (Nat.lt_of_lt_of_le HSL.out HBg.out.size)).trans kgb0,(World.cell?_alloc_lt _ _ _ (Nat.lt_of_lt_of_le HSL.out HBg.out.size)).trans kgb1,(World.cell?_alloc_lt _ _ _ (Nat.lt_of_lt_of_le HSL.out HBg.out.size)).trans kgb2,(World.cell?_alloc_lt _ _ _ (Nat.lt_of_lt_of_le HSL.out HBg.out.size)).trans kgc0,(World.cell?_alloc_lt _ _ _ (Nat.lt_of_lt_of_le HSL.out HBg.out.size)).trans kgc1,(World.cell?_alloc_lt _ _ _ (Nat.lt_of_lt_of_le HSL.out HBg.out.size)).trans kgc2⟩ | with_reducible exact⟨kla0,kla1,kla2,klb0,klb1,klb2,klc0,klc1,klc2⟩ | with_reducible exact⟨(World.cell?_alloc_lt _ _ _ (Nat.lt_of_lt_of_le HSL.out HBl.out.size)).trans kla0,(World.cell?_alloc_lt _ _ _ (Nat.lt_of_lt_of_le HSL.out HBl.out.size)).trans kla1,(World.cell?_alloc_lt _ _ _ (Nat.lt_of_lt_of_le HSL.out HBl.out.size)).trans kla2,(World.cell?_alloc_lt _ _ _ (Nat.lt_of_lt_of_le HSL.out HBl.out.size)).trans klb0,(World.cell?_alloc_lt _ _ _ (Nat.lt_of_lt_of_le HSL.out HBl.out.size)).trans klb1,(World.cell?_alloc_lt _ _ _ (Nat.lt_of_lt_of_le HSL.out HBl.out.size)).trans klb2,(World.cell?_alloc_lt _ _ _ (Nat.lt_of_lt_of_le HSL.out HBl.out.size)).trans klc0,(World.cell?_alloc_lt _ _ _ (Nat.lt_of_lt_of_le HSL.out HBl.out.size)).trans klc1,(World.cell?_alloc_lt _ _ _ (Nat.lt_of_lt_of_le HSL.out HBl.out.size)).trans klc2⟩ | with_reducible exact⟨kna0,kna1,kna2,knb0,knb1,knb2,knc0,knc1,knc2⟩ | with_reducible exact⟨(World.cell?_alloc_lt _ _ _ (Nat.lt_of_lt_of_le HSL.out HBn.out.size)).trans kna0,(World.cell?_alloc_lt _ _ _ (Nat.lt_of_lt_of_le HSL.out HBn.out.size)).trans kna1,(World.cell?_alloc_lt _ _ _ (Nat.lt_of_lt_of_le HSL.out HBn.out.size)).trans kna2,(World.cell?_alloc_lt _ _ _ (Nat.lt_of_lt_of_le HSL.out HBn.out.size)).trans knb0,(World.cell?_alloc_lt _ _ _ (Nat.lt_of_lt_of_le HSL.out HBn.out.size)).trans knb1,(World.cell?_alloc_lt _ _ _ (Nat.lt_of_lt_of_le HSL.out HBn.out.size)).trans knb2,(World.cell?_alloc_lt _ _ _ (Nat.lt_of_lt_of_le HSL.out HBn.out.size)).trans knc0,(World.cell?_alloc_lt _ _ _ (Nat.lt_of_lt_of_le HSL.out HBn.out.size)).trans knc1,(World.cell?_alloc_lt _ _ _ (Nat.lt_of_lt_of_le HSL.out HBn.out.size)).trans knc2⟩ | with_reducible exact⟨(set3_cell hne).trans kna0,(set3_cell hne).trans kna1,(set3_cell hne).trans kna2,(set3_cell hne).trans knb0,(set3_cell hne).trans knb1,(set3_cell hne).trans knb2,(set3_cell hne).trans knc0,(set3_cell hne).trans knc1,(set3_cell hne).trans knc2⟩)
         clear hK K
         (try simp only [Act.put,Yd,Ye,Yf])
         refine wpAnyH_take (i:=20) (oi:=?oi30) (v:=?v30) ?h1x30 (by kernel_rfl) ?h3x30 (by kernel_rfl) ?h5x30 (Or.inl ⟨?h6x30,?h7x30⟩) hHeld ?h8x30
         case h1x30=>
          simp only [Ya,Yb,Yc];rfl
         case h3x30=>kernel_rfl
         case h5x30=>exact fun _ _ _ h=>h
         case h6x30=>rfl
         case h7x30=>
          intro W hSW
          (try dsimp only at hSW)
          go_split_ands
          first | (go_simp;done) | (go_simp;with_reducible rfl)
         (try simp only [Act.put,Yd,Ye,Yf])
         refine wpAnyH_take (i:=21) (oi:=?oi31) (v:=?v31) ?h1x31 (by kernel_rfl) ?h3x31 (by kernel_rfl) ?h5x31 (Or.inl ⟨?h6x31,?h7x31⟩) hHeld ?h8x31
         case h1x31=>
          simp only [Ya,Yb,Yc];rfl
         case h3x31=>kernel_rfl
         case h5x31=>exact fun _ _ _ h=>h
         case h6x31=>rfl
         case h7x31=>
          intro W hSW
          (try dsimp only at hSW)
          go_split_ands
          first | (go_simp;done) | (go_simp;with_reducible rfl)
         (try simp only [Act.put,Yd,Ye,Yf])
         refine wpAnyH_ready (rs:=[22]) (by kernel_rfl) (by simp) ?_;refine AllReadyH.cons (by rfl) (fun K hK=>?_) ?_
         · go_simp
           refine hK.out _ _ ?_ (fun hHeld=>?_)
           · (first | with_reducible exact⟨a0,a1,a2,b0,b1,b2,c0,c1,c2⟩ | with_reducible exact⟨(cell_d _ _).trans a0,(cell_d _ _).trans a1,(cell_d _ _).trans a2,(cell_d _ _).trans b0,(cell_d _ _).trans b1,(cell_d _ _).trans b2,(cell_d _ _).trans c0,(cell_d _ _).trans c1,(cell_d _ _).trans c2⟩ | with_reducible exact⟨(cell_ad _ _ _ HSL.out).trans a0,(cell_ad _ _ _ HSL.out).trans a1,(cell_ad _ _ _ HSL.out).trans a2,(cell_ad _ _ _ HSL.out).trans b0,(cell_ad _ _ _ HSL.out).trans b1,(cell_ad _ _ _ HSL.out).trans b2,(cell_ad _ _ _ HSL.out).trans c0,(cell_ad _ _ _ HSL.out).trans c1,(cell_ad _ _ _ HSL.out).trans c2⟩ | with_reducible exact⟨(World.cell?_alloc_lt _ _ _ HSL.out).trans a0,(World.cell?_alloc_lt _ _ _ HSL.out).trans a1,(World.cell?_alloc_lt _ _ _ HSL.out).trans a2,(World.cell?_alloc_lt _ _ _ HSL.out).trans b0,(World.cell?_alloc_lt _ _ _ HSL.out).trans b1,(World.cell?_alloc_lt _ _ _ HSL.out).trans b2,(World.cell?_alloc_lt _ _ _ HSL.out).trans c0,(World.cell?_alloc_lt _ _ _ HSL.out).trans c1,(World.cell?_alloc_lt _ _ _ HSL.out).trans c2⟩ | with_reducible exact⟨kga0,kga1,kga2,kgb0,kgb1,kgb2,kgc0,kgc1,kgc2⟩ | with_reducible exact⟨(World.cell?_alloc_lt _ _ _ (Nat.lt_of_lt_of_le HSL.out HBg.out.size)).trans kga0,(World.cell?_alloc_lt _ _ _ (Nat.lt_of_lt_of_le HSL.out HBg.out.size)).trans kga1,(World.cell?_alloc_lt _ _ _ (Nat.lt_of_lt_of_le HSL.out HBg.out.size)).trans kga2,(World.cell?_alloc_lt _ _ _ (Nat.lt_of_lt_of_le HSL.out HBg.out.size)).trans kgb0,(World.cell?_alloc_lt _ _ _ (Nat.lt_of_lt_of_le HSL.out HBg.out.size)).trans kgb1,(World.cell?_alloc_lt _ _ _ (Nat.lt_of_lt_of_le HSL.out HBg.out.size)).trans kgb2,(World.cell?_alloc_lt _ _ _ (Nat.lt_of_lt_of_le HSL.out HBg.out.size)).trans kgc0,(World.cell?_alloc_lt _ _ _ (Nat.lt_of_lt_of_le HSL.out HBg.out.size)).trans kgc1,(World.cell?_alloc_lt _ _ _ (Nat.lt_of_lt_of_le HSL.out HBg.out.size)).trans kgc2⟩ | with_reducible exact⟨kla0,kla1,kla2,klb0,klb1,klb2,klc0,klc1,klc2⟩ | with_reducible exact⟨(World.cell?_alloc_lt _ _ _ (Nat.lt_of_lt_of_le HSL.out HBl.out.size)).trans kla0,(World.cell?_alloc_lt _ _ _ (Nat.lt_of_lt_of_le HSL.out HBl.out.size)).trans kla1,(World.cell?_alloc_lt _ _ _ (Nat.lt_of_lt_of_le HSL.out HBl.out.size)).trans kla2,(World.cell?_alloc_lt _ _ _ (Nat.lt_of_lt_of_le HSL.out HBl.out.size)).trans klb0,(World.cell?_alloc_lt _ _ _ (Nat.lt_of_lt_of_le HSL.out HBl.out.size)).trans klb1,(World.cell?_alloc_lt _ _ _ (Nat.lt_of_lt_of_le HSL.out HBl.out.size)).trans klb2,(World.cell?_alloc_lt _ _ _ (Nat.lt_of_lt_of_le HSL.out HBl.out.size)).trans klc0,(World.cell?_alloc_lt _ _ _ (Nat.lt_of_lt_of_le HSL.out HBl.out.size)).trans klc1,(World.cell?_alloc_lt _ _ _ (Nat.lt_of_lt_of_le HSL.out HBl.out.size)).trans klc2⟩ | with_reducible exact⟨kna0,kna1,kna2,knb0,knb1,knb2,knc0,knc1,knc2⟩ | with_reducible exact⟨(World.cell?_alloc_lt _ _ _ (Nat.lt_of_lt_of_le HSL.out HBn.out.size)).trans kna0,(World.cell?_alloc_lt _ _ _ (Nat.lt_of_lt_of_le HSL.out HBn.out.size)).trans kna1,(World.cell?_alloc_lt _ _ _ (Nat.lt_of_lt_of_le HSL.out HBn.out.size)).trans kna2,(World.cell?_alloc_lt _ _ _ (Nat.lt_of_lt_of_le HSL.out HBn.out.size)).trans knb0,(World.cell?_alloc_lt _ _ _ (Nat.lt_of_lt_of_le HSL.out HBn.out.size)).trans knb1,(World.cell?_alloc_lt _ _ _ (Nat.lt_of_lt_of_le HSL.out HBn.out.size)).trans knb2,(World.cell?_alloc_lt _ _ _ (Nat.lt_of_lt_of_le HSL.out HBn.out.size)).trans knc0,(World.cell?_alloc_lt _ _ _ (Nat.lt_of_lt_of_le HSL.out HBn.out.size)).trans knc1,(World.cell?_alloc_lt _ _ _ (Nat.lt_of_lt_of_le HSL.out HBn.out.size)).trans knc2⟩ | with_reducible exact⟨(set3_cell hne).trans kna0,(set3_cell hne).trans kna1,(set3_cell hne).trans kna2,(set3_cell hne).trans knb0,(set3_cell hne).trans knb1,(set3_cell hne).trans knb2,(set3_cell hne).trans knc0,(set3_cell hne).trans knc1,(set3_cell hne).trans knc2⟩)
           clear hK K
           (try simp only [Act.put,Yd,Ye,Yf])
           refine wpAnyH_take (i:=23) (oi:=?oi32) (v:=?v32) ?h1x32 (by kernel_rfl) ?h3x32 (by kernel_rfl) ?h5x32 (Or.inl ⟨?h6x32,?h7x32⟩) hHeld ?h8x32
           case h1x32=>
            simp only [Ya,Yb,Yc];rfl
           case h3x32=>kernel_rfl
           case h5x32=>exact fun _ _ _ h=>h
           case h6x32=>rfl
           case h7x32=>
            intro W hSW
            (try dsimp only at hSW)
            go_split_ands
            first | (go_simp;done) | (go_simp;with_reducible rfl)
           (try simp only [Act.put,Yd,Ye,Yf])
           refine wpAnyH_done (by kernel_rfl) ?_ _;generalize hwz:World.setCell _ _ _=wz;rw [f3_set HRq.out] at hwz;have HFz:=Hd (show F3 41 wz (w.heap.size+1+1) 0 0 0 by rw [← hwz];exact HRq.out.set _ _ _);have HBz:=Hd (show Below w.heap.size w wz by rw [← hwz];exact below_setRow (below_next2 HB0.out HBn.out) (by omega) _);clear hwz
           go_wp2_with fail
           exact bodyPost_ret (res_ty2 (p:=6) (u:=7) rfl _ _ (w.heap.size+1+1) 0 0 0 rfl HFz.out) rfl (tyz_none HO.out ⟨rfl,HBz.out⟩)
         exact AllReadyH.nil
       exact AllReadyH.nil
     exact AllReadyH.nil
   exact AllReadyH.nil
 exact AllReadyH.nil
end
end Go.Proofs.YtkbpdoomhfkngaaGreat
