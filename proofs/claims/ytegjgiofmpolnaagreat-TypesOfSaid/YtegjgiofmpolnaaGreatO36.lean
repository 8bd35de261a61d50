/- Parts of the proof: TrN. Conditions: each theorem's own. -/
import Derived.Test.YtegjgiofmpolnaaGreatO35
namespace Go.Proofs.YtegjgiofmpolnaaGreat
set_option linter.unusedVariables false
set_option linter.unusedSimpArgs false
set_option maxRecDepth 100000
set_option maxHeartbeats 40000000
section
open Go.RowKit Go.Sort Go.BigFrame
theorem trCallNil(p:Pg) (x:Nd) (r:Rm) (y:Ex) (A:Option Addr) (ca:Nat) (B:Option Addr) (cb:Nat) (ts:List T3) (w:World) (h:rdRm w p x r) (hS:RdY w none 0 ts) (hn:y.n=((0:Nat):Int)) (hfew:∀ j,j<p.ns.length→(ndAt p j).ins.length≤1000∧(ndAt p j).outs.length≤1000):
 Calls Tryz.prog 102 #[.agg (rvA p x r),.agg (exA y A ca B cb),.slice none 0 0] w (SubsAns w ((callP p y ts).map fun j=>(ndAt p j).outs.map tyD)):=by
 have hml:=hS.len;have hmm:=hS.max;have HFN:=Hd fun w1 (hb:Below w.heap.size w w1)=>pgFind p r.E r.ec r.N r.nc y.s w1 (h.below hb).1;have HS:=Hd fun w1 (hb:Below w.heap.size w w1)=>hS.below hb;have HNS:=Hd fun w1 (hb:Below w.heap.size w w1)=>(show RdNs w1 r.N p.ns.length p.ns from(h.below hb).1.2)
 have HC:=Hd (show callP p y ts=if findN p y.s<0 then none
  else if(decide (ts.take 0=(ndAt p (findN p y.s).toNat).ins.map tyD) && allB (2,0,0) (ts.drop 0))=true then some (findN p y.s).toNat else none from by
  unfold callP;rw [hn,hml,Int.toNat_natCast])
 have HFI:=Hd (findN_in p y.s);have HDL:=Hd trDeclared;have HSI:=Hd trSingle;clear h hS;generalize hoo:(callP p y ts).map (fun j=>(ndAt p j).outs.map tyD)=oo;generalize callP p y ts=cp at *;generalize findN p y.s=f at *;unfold rvA exA f3A at *;rw [hn];rcases HFI.out with rfl | ⟨i,rfl,hi⟩
 · have HN:=Hd (show oo=none by rw [← hoo,HC.out,if_pos (by omega)];rfl);clear HC hoo HS HNS HDL HSI
   go_enter Tryz.func102,Tryz.ntmps102
   go_upto_region 1 with(fail)
   generalize hw0:(w.alloc _).alloc _=w0;obtain⟨hb0,hsz,hce,hce2⟩:=any_box2 hw0;have HB0:=Hd hb0;have q0:=hce w0 (Below.refl _ _) 0;have q1:=hce w0 (Below.refl _ _) 1;have r2:=hce2 w0 (Below.refl _ _) 2;simp only [Ya,Yb,Yc] at q0 q1 r2;clear hw0 hb0 hsz hce hce2
   go_wp2_with fail
   refine(HFN.out w0 HB0.out).mono ?_;rintro e w1 ⟨rfl,hb1⟩;have HB1:=Hd (below_next2 HB0.out hb1);clear hb1 q0 q1 r2
   go_wp2_with fail
   try go_ret2
   exact⟨none,0,0,[],by rw [HN.out];rfl,fun r h=>(by rw [HN.out] at h;cases h),HB1.out⟩
 have HND:=Hd (show cp=if(decide (ts.take 0=(ndAt p i).ins.map tyD) && allB (2,0,0) (ts.drop 0))=true then some i else none by rw [HC.out,if_neg (by omega),Int.toNat_natCast]);obtain⟨nb,no,A1,c1,A2,c2,A3,c3,A4,c4,hN,hnb,hrd,d0,d1,d2,d3,d4⟩:=nd_at15 (HNS.out w (Below.refl _ _)) hi;obtain⟨hf1,hf2⟩:=hfew i hi;have HIN:=Hd fun w1 (hb:Below w.heap.size w w1)=>HDL.out A1 (p.ns[i]?.getD default).ins.length c1 (p.ns[i]?.getD default).ins w1 (hrd.below hb).1 hf1;have HOU:=Hd fun w1 (hb:Below w.heap.size w w1)=>HDL.out A2 (p.ns[i]?.getD default).outs.length c2 (p.ns[i]?.getD default).outs w1 (hrd.below hb).2.1 hf2
 have HD:=Hd (show ∀ w1,Below w.heap.size w w1→w1.cell? ⟨nb,no+i*5,none⟩=some (.string (p.ns[i]?.getD default).nm)∧w1.cell? ⟨nb,no+i*5+1,none⟩=some (.slice A1 (p.ns[i]?.getD default).ins.length c1)∧w1.cell? ⟨nb,no+i*5+2,none⟩=some (.slice A2 (p.ns[i]?.getD default).outs.length c2)∧w1.cell? ⟨nb,no+i*5+3,none⟩=some (.slice A3 (p.ns[i]?.getD default).vars.length c3)∧w1.cell? ⟨nb,no+i*5+4,none⟩=some (.slice A4 (p.ns[i]?.getD default).eqs.length c4) from
  fun w1 hb=>⟨(hb.cell (p:=⟨nb,no+i*5,none⟩) hnb).trans d0,(hb.cell (p:=⟨nb,no+i*5+1,none⟩) hnb).trans d1,(hb.cell (p:=⟨nb,no+i*5+2,none⟩) hnb).trans d2,(hb.cell (p:=⟨nb,no+i*5+3,none⟩) hnb).trans d3,(hb.cell (p:=⟨nb,no+i*5+4,none⟩) hnb).trans d4⟩)
 have HOO:=Hd (show oo=cp.map fun j=>(ndAt p j).outs.map tyD from hoo.symm);clear d0 d1 d2 d3 d4 hrd HNS HC hoo HDL hf1 hf2 HFI;unfold TysPost at HIN HOU;rw [hN];have HEQ:=Hd fun(T1:Option Addr) (tn tc:Nat) w1 (hb:Below w.heap.size w w1) (ht:RdY w1 T1 tn ((ndAt p i).ins.map tyD))=>slEqualY none T1 0 tn 0 tc (ts.take 0) ((ndAt p i).ins.map tyD) w1 ((HS.out w1 hb).take (by omega)) ht;have HAL:=Hd fun(ad:Option Addr) (n1 cc:Nat) w1 (hr:RdY w1 ad n1 (ts.drop 0))=>trAll 2 0 0 ad n1 cc (ts.drop 0) w1 hr;unfold f3A at HAL;have HMI:=Hd (show((ndAt p i).ins.map tyD).length=(p.ns[i]?.getD default).ins.length by rw [List.length_map];rfl);generalize hbq:decide (ts.take 0=(ndAt p i).ins.map tyD)=bq at *;generalize hba:allB (2,0,0) (ts.drop 0)=ba at *;have HAN:=Hd (show(bq && ba)=false→oo=none from fun h=>by rw [HOO.out,HND.out,h];rfl);have HAY:=Hd (show(bq && ba)=true→oo=some ((ndAt p i).outs.map tyD) from fun h=>by rw [HOO.out,HND.out,h];rfl);clear HOO HND hbq hba;have hd0:decide ((i:Int)<0)=false:=decide_eq_false (by omega);unfold ndAt at HEQ HMI HAN HAY;generalize p.ns[i]?.getD default=nd at *
 go_enter Tryz.func102,Tryz.ntmps102
 go_upto_region 1 with(fail)
 generalize hw0:(w.alloc _).alloc _=w0;obtain⟨hb0,hsz,hce,hce2⟩:=any_box2 hw0;have HB0:=Hd hb0;have HC1:=Hd hce;have HC2:=Hd hce2;have q0:=hce w0 (Below.refl _ _) 0;have q1:=hce w0 (Below.refl _ _) 1;have r2:=hce2 w0 (Below.refl _ _) 2;simp only [Ya,Yb,Yc] at q0 q1 r2;rw [hN] at HFN;clear hw0 hb0 hsz hce hce2
 go_wp2_with fail
 refine(HFN.out w0 HB0.out).mono ?_;rintro e w1 ⟨rfl,hb1⟩;have HB1:=Hd (below_next2 HB0.out hb1);have q1:=HC1.out w1 hb1 1;have r1:=HC2.out w1 hb1 1;simp only [Ya,Yb,Yc] at q1 r1;obtain⟨d0,d1,d2,d3,d4⟩:=HD.out w1 HB1.out;clear hb1 q0 r2 HFN HC1 HC2 HD
 go_upto_region 4 with(fail)
 refine wp_region_mid (l:=[_,_,_,_,_,_,_,_,_,_,_,_,_,_]) 11 12 _ _ (d:=9) (tx:=23) (T:=53) (zc:=ndZ) (by kernel_rfl) rfl rfl (by kernel_rfl) rfl (by simp) (fun a W=>by rfl) rfl (by kernel_rfl) ?_
 repeat
  first
  | refine fix_skipG rfl ?_
  | (apply fix_stepG rfl rfl (by simp)
     case h1=>
      intro wb hb;have hbb:=cls_below hb;have l0:=fun d os=>cell_regrown ((hbb.cell (World.block_lt_of_cell? _ _ q1)).trans q1) d os;have l1:=fun d os=>cell_regrown ((hbb.cell (World.block_lt_of_cell? _ _ r1)).trans r1) d os;have m0:=fun d os=>cell_regrown ((hbb.cell (World.block_lt_of_cell? _ _ d0)).trans d0) d os;have m1:=fun d os=>cell_regrown ((hbb.cell (World.block_lt_of_cell? _ _ d1)).trans d1) d os;have m2:=fun d os=>cell_regrown ((hbb.cell (World.block_lt_of_cell? _ _ d2)).trans d2) d os;have m3:=fun d os=>cell_regrown ((hbb.cell (World.block_lt_of_cell? _ _ d3)).trans d3) d os;have m4:=fun d os=>cell_regrown ((hbb.cell (World.block_lt_of_cell? _ _ d4)).trans d4) d os;clear hbb
      go_big_quiet_step (fail)
      refine wpQuiet_nil ?_;simp only [List.getElem?_toArray,List.getElem?_cons_succ,List.getElem?_cons_zero];exact rfl
     simp only [Act.put,Yd,Ye,Yf])
 refine⟨#[.string nd.nm,.slice A1 nd.ins.length c1,.slice A2 nd.outs.length c2,.slice A3 nd.vars.length c3,.slice A4 nd.eqs.length c4],rfl,rfl,by simp [Value.oneCell'],fun W g hW hg hz=>?_⟩;have HBX:=Hd (below_next2 HB1.out (cls_below hW));have k1:=obj_cell hz 1;have k2:=obj_cell hz 2;simp only [Ya,Yb,Yc] at k1 k2;clear hW hg hz q1 r1 d0 d1 d2 d3 d4
 show Exit.then _ _ .normal _ W
 simp only [Act.put,Yd,Ye,Yf];have hgl:=World.block_lt_of_cell? _ _ k1;have HGL:=Hd (show g<W.heap.size from hgl);clear hgl
 cases bq with
 | false=>
  have HO:=Hd (HAN.out rfl);clear HAN HAY HOU HAL HSI
  go_upto_region 5 with(fail)
  first
  | go_region_held_law (fun X=>X.cell? ⟨g,1,none⟩=some (.slice A1 nd.ins.length c1)) (first | exact k1 | exact k1a | exact k1b)
   ((first
     | (go_at_call 155;refine(HIN.out _ (HBX.out.trans ((below_drewN (Below.refl W.heap.size W) 1).mono HBX.out.size))).mono ?_;rintro e Wa ⟨T1,tc,rfl,hry,hba⟩;have HBa:=Hd ((below_drewN (Below.refl W.heap.size W) 1).trans (hba.mono (below_drewN (Below.refl W.heap.size W) 1).size));have HRA:=Hd hry;have k1a:=(HBa.out.cell (p:=⟨g,1,none⟩) HGL.out).trans k1;clear hba hry)
     | (go_at_call 154;refine(HEQ.out T1 _ tc Wa (HBX.out.trans (HBa.out.mono HBX.out.size)) (by have:=HRA.out;rwa [HMI.out] at this)).mono ?_;rintro e Wb ⟨rfl,hbb⟩;have HBb:=Hd (HBa.out.trans (hbb.mono HBa.out.size));have k1b:=(HBb.out.cell (p:=⟨g,1,none⟩) HGL.out).trans k1;clear hbb)))
  | fail
  all_goals
   go_wp2_with fail
   try go_ret2
   exact⟨none,0,0,[],by rw [HO.out];rfl,fun r h=>(by rw [HO.out] at h;cases h),HBX.out.trans (HBb.out.mono HBX.out.size)⟩
 | true=>
  have HLZ:=Hd (show(ts.drop 0).length=0 by rw [List.length_drop,hml])
  cases ba with
  | false=>
   have HO:=Hd (HAN.out rfl);clear HAN HAY HOU
   go_upto_region 5 with(fail)
   go_region_held3 (fun X=>X.cell? ⟨g,1,none⟩=some (.slice A1 nd.ins.length c1)) (first | exact k1 | exact k1a | exact k1b | exact k1c | exact k1d)
    ((first
      | (go_at_call 155;refine(HIN.out _ (HBX.out.trans ((below_drewN (Below.refl W.heap.size W) 1).mono HBX.out.size))).mono ?_;rintro e Wa ⟨T1,tc,rfl,hry,hba⟩;have HBa:=Hd ((below_drewN (Below.refl W.heap.size W) 1).trans (hba.mono (below_drewN (Below.refl W.heap.size W) 1).size));have HRA:=Hd hry;have k1a:=(HBa.out.cell (p:=⟨g,1,none⟩) HGL.out).trans k1;clear hba hry)
      | (go_at_call 154;refine(HEQ.out T1 _ tc Wa (HBX.out.trans (HBa.out.mono HBX.out.size)) (by have:=HRA.out;rwa [HMI.out] at this)).mono ?_;rintro e Wb ⟨rfl,hbb⟩;have HBb:=Hd (HBa.out.trans (hbb.mono HBa.out.size));have k1b:=(HBb.out.cell (p:=⟨g,1,none⟩) HGL.out).trans k1;clear hbb)
      | (go_at_call 119;refine(HSI.out 2 Wb).mono ?_;rintro e Wc ⟨rfl,hbc⟩;have HBc:=Hd (HBb.out.trans (hbc.mono HBb.out.size));have k1c:=(HBc.out.cell (p:=⟨g,1,none⟩) HGL.out).trans k1;clear hbc)
      | (go_at_call 87;refine(HAL.out _ _ _ Wc (by exact RdY.none_ HLZ.out)).mono ?_;rintro e Wd ⟨rfl,hbd⟩;have HBd:=Hd (HBc.out.trans (hbd.mono HBc.out.size));have k1d:=(HBd.out.cell (p:=⟨g,1,none⟩) HGL.out).trans k1;clear hbd)))
   go_wp2_with fail
   try go_ret2
   exact⟨none,0,0,[],by rw [HO.out];rfl,fun r h=>(by rw [HO.out] at h;cases h),HBX.out.trans (HBd.out.mono HBX.out.size)⟩
  | true=>
   have HO:=Hd (HAY.out rfl);clear HAN HAY
   go_upto_region 5 with(fail)
   go_region_held3 (fun X=>X.cell? ⟨g,1,none⟩=some (.slice A1 nd.ins.length c1)) (first | exact k1 | exact k1a | exact k1b | exact k1c | exact k1d)
    ((first
      | (go_at_call 155;refine(HIN.out _ (HBX.out.trans ((below_drewN (Below.refl W.heap.size W) 1).mono HBX.out.size))).mono ?_;rintro e Wa ⟨T1,tc,rfl,hry,hba⟩;have HBa:=Hd ((below_drewN (Below.refl W.heap.size W) 1).trans (hba.mono (below_drewN (Below.refl W.heap.size W) 1).size));have HRA:=Hd hry;have k1a:=(HBa.out.cell (p:=⟨g,1,none⟩) HGL.out).trans k1;clear hba hry)
      | (go_at_call 154;refine(HEQ.out T1 _ tc Wa (HBX.out.trans (HBa.out.mono HBX.out.size)) (by have:=HRA.out;rwa [HMI.out] at this)).mono ?_;rintro e Wb ⟨rfl,hbb⟩;have HBb:=Hd (HBa.out.trans (hbb.mono HBa.out.size));have k1b:=(HBb.out.cell (p:=⟨g,1,none⟩) HGL.out).trans k1;clear hbb)
      | (go_at_call 119;refine(HSI.out 2 Wb).mono ?_;rintro e Wc ⟨rfl,hbc⟩;have HBc:=Hd (HBb.out.trans (hbc.mono HBb.out.size));have k1c:=(HBc.out.cell (p:=⟨g,1,none⟩) HGL.out).trans k1;clear hbc)
      | (go_at_call 87;refine(HAL.out _ _ _ Wc (by exact RdY.none_ HLZ.out)).mono ?_;rintro e Wd ⟨rfl,hbd⟩;have HBd:=Hd (HBc.out.trans (hbd.mono HBc.out.size));have k1d:=(HBd.out.cell (p:=⟨g,1,none⟩) HGL.out).trans k1;clear hbd)))
   have k2:=(HBd.out.cell (p:=⟨g,2,none⟩) HGL.out).trans k2;have HBE:=Hd (HBX.out.trans (HBd.out.mono HBX.out.size))
   go_wp2_with fail
   refine(HOU.out Wd HBE.out).mono ?_;rintro e w9 ⟨T9,t9,rfl,hry9,hb9⟩;have HR9:=Hd hry9;have HB9:=Hd (below_next2 HBE.out hb9);clear hry9 hb9
   go_wp2_with fail
   try go_ret2
   exact⟨T9,nd.outs.length,t9,nd.outs.map tyD,by rw [HO.out];rfl,fun r h=>(by rw [HO.out] at h;injection h with h;exact⟨h.symm,by have:=HR9.out;rwa [List.length_map] at this⟩),HB9.out⟩
end
end Go.Proofs.YtegjgiofmpolnaaGreat
