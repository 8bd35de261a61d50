/- Parts of the proof: TrG, TrN. Conditions: each theorem's own. -/
import Derived.Deep.RegionHeldLaw
import Derived.Test.YtkbpdoomhfkngaaGreatR16
import Derived.Test.YtkbpdoomhfkngaaGreatR28
namespace Go.Proofs.YtkbpdoomhfkngaaGreat
set_option linter.unusedVariables false
set_option linter.unusedSimpArgs false
set_option maxRecDepth 100000
set_option maxHeartbeats 40000000
section
open Go.RowKit Go.Sort Go.BigFrame
def mistB(es:List En) (x:Nd) (d:Dc):Bool:=!(d.on.toList==[]) && !takesB es x d.on [d.ct]
theorem trMistimed(p:Pg) (x:Nd) (r:Rm) (d:Dc) (w:World) (h:rdRm w p x r):
 Calls Tryz.prog 28 #[.agg (rvA p x r),.agg (dcA d)] w fun e w'=>e=.returned (.bool (mistB p.es x d))∧Below w.heap.size w w':=by
 have HTK:=Hd fun(A:Option Addr) w1 (hb:Below w.heap.size w w1) (hA:RdT w1 A 1 [d.ct])=>trTakes p x r d.on A 1 1 [d.ct] w1 (h.below hb) hA;have HO:=Hd (show mistB p.es x d=(!(d.on.toList==[]) && !takesB p.es x d.on [d.ct]) from rfl);clear h;generalize mistB p.es x d=out at *;generalize takesB p.es x d.on [d.ct]=tb at *;unfold rvA dcA at *;generalize d.on=on at *;generalize d.ct=ct at *
 cases h1:(on.toList==[]) with
 | true=>
  have h2:on.toList.isEmpty=true:=by rw [← h1];cases on.toList <;> rfl
  have HR:=Hd (show out=false by rw [HO.out,h1];rfl)
  go_enter Tryz.func28,Tryz.ntmps28
  go_upto_region 1 with(fail)
  generalize hw0:(w.alloc _).alloc _=w0;obtain⟨hb0,hsz,hce,hce2⟩:=any_box2 hw0;have HB0:=Hd hb0;have d4:=hce2 w0 (Below.refl _ _) 4;simp only [Ya,Yb,Yc] at d4;clear hw0 hb0 hsz hce hce2
  go_wp2_with fail
  go_ret
  exact⟨ret_boolS HR.out.symm,HB0.out⟩
 | false=>
  have h2:on.toList.isEmpty=false:=by rw [← h1];cases on.toList <;> rfl
  have HR:=Hd (show out=!tb by rw [HO.out,h1];rfl)
  go_enter Tryz.func28,Tryz.ntmps28
  go_upto_region 1 with(fail)
  generalize hw0:(w.alloc _).alloc _=w0;obtain⟨hb0,hsz,hce,hce2⟩:=any_box2 hw0;have HB0:=Hd hb0;obtain⟨q0,q1,q2,q3,q4,q5⟩:=Sx (hce w0 (Below.refl _ _));have q6:=hce w0 (Below.refl _ _) 6;have d4:=hce2 w0 (Below.refl _ _) 4;have d5:=hce2 w0 (Below.refl _ _) 5;simp only [Ya,Yb,Yc] at q0 q1 q2 q3 q4 q5 q6 d4 d5;have HT1:=Hd (HTK.out (some ⟨w0.heap.size,0,none⟩) _ (hb0.alloc hb0.size _) (RdT.lit1 w0 ct 9));clear hw0 hb0 hsz hce hce2
  go_wp2_with fail
  refine HT1.out.mono ?_;rintro e w1 ⟨rfl,hb1⟩;have HB1:=Hd (below_next2 (HB0.out.alloc HB0.out.size _) hb1);clear hb1
  go_wp2_with fail
  go_ret
  exact⟨ret_boolS HR.out.symm,HB1.out⟩
theorem RdY.take{w:World}{S:Option Addr}{m:Nat}{ts:List T3}(h:RdY w S m ts){a:Nat}(ha:a≤m):RdY w S a (ts.take a):=
 ⟨by rw [List.length_take,h.len];omega,by have:=h.max;omega,fun h0=>by
  obtain⟨b,off,e,hb,hc⟩:=RdS.at_ h (by omega);refine⟨b,off,e,hb,fun i hi=>?_⟩;rw [List.getElem?_take_of_lt hi];exact hc i (by omega)⟩
theorem RdY.drop{w:World}{b off m:Nat}{ts:List T3}(h:RdY w (some ⟨b,off,none⟩) m ts){a q:Nat}(ha:m=a+q):RdY w (some ⟨b,off+a*3,none⟩) q (ts.drop a):=
 ⟨by rw [List.length_drop,h.len];omega,by have:=h.max;omega,fun h0=>by
  obtain⟨b',off',e,hb,hc⟩:=RdS.at_ h (by omega);injection e with e;injection e with e1 e2;subst e1 e2;refine⟨b,_,rfl,hb,fun i hi=>?_⟩;have:=hc (a+i) (by omega);rw [List.getElem?_drop,show off+a*3+i*3=off+(a+i)*3 by omega];exact this⟩
def ndZ:Array Value:=#[.string ⟨#[]⟩,.slice none 0 0,.slice none 0 0,.slice none 0 0,.slice none 0 0]
def SlY(S:Option Addr) (m c:Nat):Prop:=m≤c∧c≤maxLen∧((S=none∧m=0∧c=0)∨∃ b off,S=some ⟨b,off,none⟩)
theorem RdY.dropN{w:World}{b off m:Nat}{ts:List T3}(h:RdY w (some ⟨b,off,none⟩) m ts){a:Nat}(ha:a≤m):RdY w (some ⟨b,off+a*3,none⟩) (m-a) (ts.drop a):=h.drop (by omega)
theorem RdY.none_{w:World}{S:Option Addr}{l:List T3}(h:l.length=0):RdY w S 0 l:=⟨h,by omega,by omega⟩
theorem obj_cell{W:World}{g:Nat}{cs:Array Value}{T:TypeId}(h:W.heap[g]?=some (Obj.cells cs T)) (j:Nat):W.cell? ⟨g,j,none⟩=cs[j]?:=row_later h W (Below.refl _ _) j
theorem trCallSome(p:Pg) (x:Nd) (r:Rm) (y:Ex) (A:Option Addr) (ca:Nat) (B:Option Addr) (cb:Nat) (b off m a q sc:Nat) (ts:List T3) (w:World) (h:rdRm w p x r) (hS:RdY w (some ⟨b,off,none⟩) m ts) (hm:m=a+q) (hsc:m≤sc) (hcm:sc≤maxLen) (hn:y.n=(q:Int)) (hq:q≤1) (hfew:∀ j,j<p.ns.length→(ndAt p j).ins.length≤1000∧(ndAt p j).outs.length≤1000):
 Calls Tryz.prog 78 #[.agg (rvA p x r),.agg (exA y A ca B cb),.slice (some ⟨b,off,none⟩) m sc] w (SubsAns w ((callP p y ts).map fun j=>(ndAt p j).outs.map tyD)):=by
 have hml:=hS.len;have hmm:=hS.max;have HFN:=Hd fun w1 (hb:Below w.heap.size w w1)=>pgFind p r.E r.ec r.N r.nc y.s w1 (h.below hb).1;have HS:=Hd fun w1 (hb:Below w.heap.size w w1)=>hS.below hb;have HNS:=Hd fun w1 (hb:Below w.heap.size w w1)=>(show RdNs w1 r.N p.ns.length p.ns from(h.below hb).1.2)
 have HC:=Hd (show callP p y ts=if findN p y.s<0 then none
  else if(decide (ts.take a=(ndAt p (findN p y.s).toNat).ins.map tyD) && allB (2,0,0) (ts.drop a))=true then some (findN p y.s).toNat else none from by
  unfold callP;rw [hn,hml,hm,Int.toNat_natCast,Nat.add_sub_cancel])
 have HFI:=Hd (findN_in p y.s);have HDL:=Hd trDeclared;have HSI:=Hd trSingle;clear h hS;generalize hoo:(callP p y ts).map (fun j=>(ndAt p j).outs.map tyD)=oo;generalize callP p y ts=cp at *;generalize findN p y.s=f at *;unfold rvA exA f3A at *;rw [hn];rcases HFI.out with rfl | ⟨i,rfl,hi⟩
 · have HN:=Hd (show oo=none by rw [← hoo,HC.out,if_pos (by omega)];rfl);clear HC hoo HS HNS HDL HSI
   go_enter Tryz.func78,Tryz.ntmps78
   go_upto_region 1 with(fail)
   generalize hw0:(w.alloc _).alloc _=w0;obtain⟨hb0,hsz,hce,hce2⟩:=any_box2 hw0;have HB0:=Hd hb0;have q0:=hce w0 (Below.refl _ _) 0;have q1:=hce w0 (Below.refl _ _) 1;have r2:=hce2 w0 (Below.refl _ _) 2;simp only [Ya,Yb,Yc] at q0 q1 r2;clear hw0 hb0 hsz hce hce2
   go_wp2_with fail
   refine(HFN.out w0 HB0.out).mono ?_;rintro e w1 ⟨rfl,hb1⟩;have HB1:=Hd (below_next2 HB0.out hb1);clear hb1 q0 q1 r2
   go_wp2_with fail
   try go_ret2
   exact⟨none,0,0,[],by rw [HN.out];rfl,fun r h=>(by rw [HN.out] at h;cases h),HB1.out⟩
 have HND:=Hd (show cp=if(decide (ts.take a=(ndAt p i).ins.map tyD) && allB (2,0,0) (ts.drop a))=true then some i else none by rw [HC.out,if_neg (by omega),Int.toNat_natCast]);obtain⟨nb,no,A1,c1,A2,c2,A3,c3,A4,c4,hN,hnb,hrd,d0,d1,d2,d3,d4⟩:=nd_at15 (HNS.out w (Below.refl _ _)) hi;obtain⟨hf1,hf2⟩:=hfew i hi;have HIN:=Hd fun w1 (hb:Below w.heap.size w w1)=>HDL.out A1 (p.ns[i]?.getD default).ins.length c1 (p.ns[i]?.getD default).ins w1 (hrd.below hb).1 hf1;have HOU:=Hd fun w1 (hb:Below w.heap.size w w1)=>HDL.out A2 (p.ns[i]?.getD default).outs.length c2 (p.ns[i]?.getD default).outs w1 (hrd.below hb).2.1 hf2
 have HD:=Hd (show ∀ w1,Below w.heap.size w w1→w1.cell? ⟨nb,no+i*5,none⟩=some (.string (p.ns[i]?.getD default).nm)∧w1.cell? ⟨nb,no+i*5+1,none⟩=some (.slice A1 (p.ns[i]?.getD default).ins.length c1)∧w1.cell? ⟨nb,no+i*5+2,none⟩=some (.slice A2 (p.ns[i]?.getD default).outs.length c2)∧w1.cell? ⟨nb,no+i*5+3,none⟩=some (.slice A3 (p.ns[i]?.getD default).vars.length c3)∧w1.cell? ⟨nb,no+i*5+4,none⟩=some (.slice A4 (p.ns[i]?.getD default).eqs.length c4) from
  fun w1 hb=>⟨(hb.cell (p:=⟨nb,no+i*5,none⟩) hnb).trans d0,(hb.cell (p:=⟨nb,no+i*5+1,none⟩) hnb).trans d1,(hb.cell (p:=⟨nb,no+i*5+2,none⟩) hnb).trans d2,(hb.cell (p:=⟨nb,no+i*5+3,none⟩) hnb).trans d3,(hb.cell (p:=⟨nb,no+i*5+4,none⟩) hnb).trans d4⟩)
 have HOO:=Hd (show oo=cp.map fun j=>(ndAt p j).outs.map tyD from hoo.symm);clear d0 d1 d2 d3 d4 hrd HNS HC hoo HDL hf1 hf2 HFI;unfold TysPost at HIN HOU;rw [hN];have HEQ:=Hd fun(T1:Option Addr) (tn tc:Nat) w1 (hb:Below w.heap.size w w1) (ht:RdY w1 T1 tn ((ndAt p i).ins.map tyD))=>slEqualY (some ⟨b,off,none⟩) T1 a tn sc tc (ts.take a) ((ndAt p i).ins.map tyD) w1 ((HS.out w1 hb).take (by omega)) ht;have HAL:=Hd fun(ad:Option Addr) (n1 cc:Nat) w1 (hr:RdY w1 ad n1 (ts.drop a))=>trAll 2 0 0 ad n1 cc (ts.drop a) w1 hr;unfold f3A at HAL;have HMI:=Hd (show((ndAt p i).ins.map tyD).length=(p.ns[i]?.getD default).ins.length by rw [List.length_map];rfl);generalize hbq:decide (ts.take a=(ndAt p i).ins.map tyD)=bq at *;generalize hba:allB (2,0,0) (ts.drop a)=ba at *;have HAN:=Hd (show(bq && ba)=false→oo=none from fun h=>by rw [HOO.out,HND.out,h];rfl);have HAY:=Hd (show(bq && ba)=true→oo=some ((ndAt p i).outs.map tyD) from fun h=>by rw [HOO.out,HND.out,h];rfl);clear HOO HND hbq hba;have hsub:(m:Int)-(q:Int)=(a:Int):=by omega
 have hd0:decide ((i:Int)<0)=false:=decide_eq_false (by omega);have ham:a≤m:=by omega
 have HM:=Hd hm;clear hm;unfold ndAt at HEQ HMI HAN HAY;generalize p.ns[i]?.getD default=nd at *
 go_enter Tryz.func78,Tryz.ntmps78
 go_upto_region 1 with(fail)
 generalize hw0:(w.alloc _).alloc _=w0;obtain⟨hb0,hsz,hce,hce2⟩:=any_box2 hw0;have HB0:=Hd hb0;have HC1:=Hd hce;have HC2:=Hd hce2;have q0:=hce w0 (Below.refl _ _) 0;have q1:=hce w0 (Below.refl _ _) 1;have r2:=hce2 w0 (Below.refl _ _) 2;simp only [Ya,Yb,Yc] at q0 q1 r2;rw [hN] at HFN;clear hw0 hb0 hsz hce hce2
 go_wp2_with fail
 refine(HFN.out w0 HB0.out).mono ?_;rintro e w1 ⟨rfl,hb1⟩;have HB1:=Hd (below_next2 HB0.out hb1);have q1:=HC1.out w1 hb1 1;have r1:=HC2.out w1 hb1 1;simp only [Ya,Yb,Yc] at q1 r1;obtain⟨d0,d1,d2,d3,d4⟩:=HD.out w1 HB1.out;clear hb1 q0 r2 HFN HC1 HC2 HD
 go_upto_region 4 with(fail)
 refine wp_region_mid (l:=[_,_,_,_,_,_,_,_,_,_,_,_,_,_]) 11 12 _ _ (d:=9) (tx:=23) (T:=36) (zc:=ndZ) (by kernel_rfl) rfl rfl (by kernel_rfl) rfl (by simp) (fun a W=>by rfl) rfl (by kernel_rfl) ?_
 repeat
  first
  | refine fix_skipG rfl ?_
  | (apply fix_stepG rfl rfl (by simp)
     case h1=>
      intro wb hb;have hbb:=cls_below hb;have l0:=fun d os=>cell_regrown ((hbb.cell (World.block_lt_of_cell? _ _ q1)).trans q1) d os;have l1:=fun d os=>cell_regrown ((hbb.cell (World.block_lt_of_cell? _ _ r1)).trans r1) d os;have m0:=fun d os=>cell_regrown ((hbb.cell (World.block_lt_of_cell? _ _ d0)).trans d0) d os;have m1:=fun d os=>cell_regrown ((hbb.cell (World.block_lt_of_cell? _ _ d1)).trans d1) d os;have m2:=fun d os=>cell_regrown ((hbb.cell (World.block_lt_of_cell? _ _ d2)).trans d2) d os;have m3:=fun d os=>cell_regrown ((hbb.cell (World.block_lt_of_cell? _ _ d3)).trans d3) d os;have m4:=fun d os=>cell_regrown ((hbb.cell (World.block_lt_of_cell? _ _ d4)).trans d4) d os;clear hbb
      go_big_quiet_step (fail)
      refine wpQuiet_nil ?_;simp only [List.getElem?_toArray,List.getElem?_cons_succ,List.getElem?_cons_zero];exact rfl
     simp only [Act.put,Yd,Ye,Yf])
 refine⟨#[.string nd.nm,.slice A1 nd.ins.length c1,.slice A2 nd.outs.length c2,.slice A3 nd.vars.length c3,.slice A4 nd.eqs.length c4],rfl,rfl,by simp [Value.oneCell'],fun W g hW hg hz=>?_⟩;have HBX:=Hd (below_next2 HB1.out (cls_below hW));have k1:=obj_cell hz 1;have k2:=obj_cell hz 2;simp only [Ya,Yb,Yc] at k1 k2;clear hW hg hz q1 r1 d0 d1 d2 d3 d4
 show Exit.then _ _ .normal _ W
 simp only [Act.put,Yd,Ye,Yf]
 try rw [hsub]
 have hsa:a≤sc:=by omega
 have hgl:=World.block_lt_of_cell? _ _ k1;have HGL:=Hd (show g<W.heap.size from hgl);clear hgl
 cases bq with
 | false=>
  have HO:=Hd (HAN.out rfl);clear HAN HAY HOU HAL HSI
  go_upto_region 5 with(fail)
  first
  | go_region_held_law (fun X=>X.cell? ⟨g,1,none⟩=some (.slice A1 nd.ins.length c1)) (first | exact k1 | exact k1a | exact k1b)
   ((first
     | (go_at_call 118;refine(HIN.out _ (HBX.out.trans ((below_drewN (Below.refl W.heap.size W) 1).mono HBX.out.size))).mono ?_;rintro e Wa ⟨T1,tc,rfl,hry,hba⟩;have HBa:=Hd ((below_drewN (Below.refl W.heap.size W) 1).trans (hba.mono (below_drewN (Below.refl W.heap.size W) 1).size));have HRA:=Hd hry;have k1a:=(HBa.out.cell (p:=⟨g,1,none⟩) HGL.out).trans k1;clear hba hry)
     | (go_at_call 117;refine(HEQ.out T1 _ tc Wa (HBX.out.trans (HBa.out.mono HBX.out.size)) (by have:=HRA.out;rwa [HMI.out] at this)).mono ?_;rintro e Wb ⟨rfl,hbb⟩;have HBb:=Hd (HBa.out.trans (hbb.mono HBa.out.size));have k1b:=(HBb.out.cell (p:=⟨g,1,none⟩) HGL.out).trans k1;clear hbb)))
  | fail
  all_goals
   go_wp2_with fail
   try go_ret2
   exact⟨none,0,0,[],by rw [HO.out];rfl,fun r h=>(by rw [HO.out] at h;cases h),HBX.out.trans (HBb.out.mono HBX.out.size)⟩
 | true=>
  have HLA:=Hd (show m=a→(ts.drop a).length=0 from fun h=>by rw [List.length_drop];omega)
  by_cases hsq:sc=a
  · have hma:m=a:=by omega
    have HLZ:=Hd (HLA.out hma);clear HLA;obtain rfl:q=0:=by have:=HM.out;omega
    clear ham hsub HM;subst hsq;subst hma
    cases ba with
    | false=>
     have HO:=Hd (HAN.out rfl);clear HAN HAY HOU
     go_upto_region 5 with(fail)
     go_region_held3 (fun X=>X.cell? ⟨g,1,none⟩=some (.slice A1 nd.ins.length c1)) (first | exact k1 | exact k1a | exact k1b | exact k1c | exact k1d)
      ((first
        | (go_at_call 118;refine(HIN.out _ (HBX.out.trans ((below_drewN (Below.refl W.heap.size W) 1).mono HBX.out.size))).mono ?_;rintro e Wa ⟨T1,tc,rfl,hry,hba⟩;have HBa:=Hd ((below_drewN (Below.refl W.heap.size W) 1).trans (hba.mono (below_drewN (Below.refl W.heap.size W) 1).size));have HRA:=Hd hry;have k1a:=(HBa.out.cell (p:=⟨g,1,none⟩) HGL.out).trans k1;clear hba hry)
        | (go_at_call 117;refine(HEQ.out T1 _ tc Wa (HBX.out.trans (HBa.out.mono HBX.out.size)) (by have:=HRA.out;rwa [HMI.out] at this)).mono ?_;rintro e Wb ⟨rfl,hbb⟩;have HBb:=Hd (HBa.out.trans (hbb.mono HBa.out.size));have k1b:=(HBb.out.cell (p:=⟨g,1,none⟩) HGL.out).trans k1;clear hbb)
        | (go_at_call 120;refine(HSI.out 2 Wb).mono ?_;rintro e Wc ⟨rfl,hbc⟩;have HBc:=Hd (HBb.out.trans (hbc.mono HBb.out.size));have k1c:=(HBc.out.cell (p:=⟨g,1,none⟩) HGL.out).trans k1;clear hbc)
        | (go_at_call 119;refine(HAL.out _ _ _ Wc (by first | exact(HS.out Wc (HBX.out.trans (HBc.out.mono HBX.out.size))).dropN ham | exact(HS.out Wc (HBX.out.trans (HBc.out.mono HBX.out.size))).drop HM.out | exact RdY.none_ HLZ.out)).mono ?_;rintro e Wd ⟨rfl,hbd⟩;have HBd:=Hd (HBc.out.trans (hbd.mono HBc.out.size));have k1d:=(HBd.out.cell (p:=⟨g,1,none⟩) HGL.out).trans k1;clear hbd)))
     go_wp2_with fail
     try go_ret2
     exact⟨none,0,0,[],by rw [HO.out];rfl,fun r h=>(by rw [HO.out] at h;cases h),HBX.out.trans (HBd.out.mono HBX.out.size)⟩
    | true=>
     have HO:=Hd (HAY.out rfl);clear HAN HAY
     go_upto_region 5 with(fail)
     go_region_held3 (fun X=>X.cell? ⟨g,1,none⟩=some (.slice A1 nd.ins.length c1)) (first | exact k1 | exact k1a | exact k1b | exact k1c | exact k1d)
      ((first
        | (go_at_call 118;refine(HIN.out _ (HBX.out.trans ((below_drewN (Below.refl W.heap.size W) 1).mono HBX.out.size))).mono ?_;rintro e Wa ⟨T1,tc,rfl,hry,hba⟩;have HBa:=Hd ((below_drewN (Below.refl W.heap.size W) 1).trans (hba.mono (below_drewN (Below.refl W.heap.size W) 1).size));have HRA:=Hd hry;have k1a:=(HBa.out.cell (p:=⟨g,1,none⟩) HGL.out).trans k1;clear hba hry)
        | (go_at_call 117;refine(HEQ.out T1 _ tc Wa (HBX.out.trans (HBa.out.mono HBX.out.size)) (by have:=HRA.out;rwa [HMI.out] at this)).mono ?_;rintro e Wb ⟨rfl,hbb⟩;have HBb:=Hd (HBa.out.trans (hbb.mono HBa.out.size));have k1b:=(HBb.out.cell (p:=⟨g,1,none⟩) HGL.out).trans k1;clear hbb)
        | (go_at_call 120;refine(HSI.out 2 Wb).mono ?_;rintro e Wc ⟨rfl,hbc⟩;have HBc:=Hd (HBb.out.trans (hbc.mono HBb.out.size));have k1c:=(HBc.out.cell (p:=⟨g,1,none⟩) HGL.out).trans k1;clear hbc)
        | (go_at_call 119;refine(HAL.out _ _ _ Wc (by first | exact(HS.out Wc (HBX.out.trans (HBc.out.mono HBX.out.size))).dropN ham | exact(HS.out Wc (HBX.out.trans (HBc.out.mono HBX.out.size))).drop HM.out | exact RdY.none_ HLZ.out)).mono ?_;rintro e Wd ⟨rfl,hbd⟩;have HBd:=Hd (HBc.out.trans (hbd.mono HBc.out.size));have k1d:=(HBd.out.cell (p:=⟨g,1,none⟩) HGL.out).trans k1;clear hbd)))
     have k2:=(HBd.out.cell (p:=⟨g,2,none⟩) HGL.out).trans k2;have HBE:=Hd (HBX.out.trans (HBd.out.mono HBX.out.size))
     go_wp2_with fail
     refine(HOU.out Wd HBE.out).mono ?_;rintro e w9 ⟨T9,t9,rfl,hry9,hb9⟩;have HR9:=Hd hry9;have HB9:=Hd (below_next2 HBE.out hb9);clear hry9 hb9
     go_wp2_with fail
     try go_ret2
     exact⟨T9,nd.outs.length,t9,nd.outs.map tyD,by rw [HO.out];rfl,fun r h=>(by rw [HO.out] at h;injection h with h;exact⟨h.symm,by have:=HR9.out;rwa [List.length_map] at this⟩),HB9.out⟩
  · clear HLA;clear hsub
    cases ba with
    | false=>
     have HO:=Hd (HAN.out rfl);clear HAN HAY HOU
     go_upto_region 5 with(fail)
     go_region_held3 (fun X=>X.cell? ⟨g,1,none⟩=some (.slice A1 nd.ins.length c1)) (first | exact k1 | exact k1a | exact k1b | exact k1c | exact k1d)
      ((first
        | (go_at_call 118;refine(HIN.out _ (HBX.out.trans ((below_drewN (Below.refl W.heap.size W) 1).mono HBX.out.size))).mono ?_;rintro e Wa ⟨T1,tc,rfl,hry,hba⟩;have HBa:=Hd ((below_drewN (Below.refl W.heap.size W) 1).trans (hba.mono (below_drewN (Below.refl W.heap.size W) 1).size));have HRA:=Hd hry;have k1a:=(HBa.out.cell (p:=⟨g,1,none⟩) HGL.out).trans k1;clear hba hry)
        | (go_at_call 117;refine(HEQ.out T1 _ tc Wa (HBX.out.trans (HBa.out.mono HBX.out.size)) (by have:=HRA.out;rwa [HMI.out] at this)).mono ?_;rintro e Wb ⟨rfl,hbb⟩;have HBb:=Hd (HBa.out.trans (hbb.mono HBa.out.size));have k1b:=(HBb.out.cell (p:=⟨g,1,none⟩) HGL.out).trans k1;clear hbb)
        | (go_at_call 120;refine(HSI.out 2 Wb).mono ?_;rintro e Wc ⟨rfl,hbc⟩;have HBc:=Hd (HBb.out.trans (hbc.mono HBb.out.size));have k1c:=(HBc.out.cell (p:=⟨g,1,none⟩) HGL.out).trans k1;clear hbc)
        | (go_at_call 119;refine(HAL.out _ _ _ Wc (by first | exact(HS.out Wc (HBX.out.trans (HBc.out.mono HBX.out.size))).dropN ham | exact(HS.out Wc (HBX.out.trans (HBc.out.mono HBX.out.size))).drop HM.out | exact RdY.none_ HLZ.out)).mono ?_;rintro e Wd ⟨rfl,hbd⟩;have HBd:=Hd (HBc.out.trans (hbd.mono HBc.out.size));have k1d:=(HBd.out.cell (p:=⟨g,1,none⟩) HGL.out).trans k1;clear hbd)))
     go_wp2_with fail
     try go_ret2
     exact⟨none,0,0,[],by rw [HO.out];rfl,fun r h=>(by rw [HO.out] at h;cases h),HBX.out.trans (HBd.out.mono HBX.out.size)⟩
    | true=>
     have HO:=Hd (HAY.out rfl);clear HAN HAY
     go_upto_region 5 with(fail)
     go_region_held3 (fun X=>X.cell? ⟨g,1,none⟩=some (.slice A1 nd.ins.length c1)) (first | exact k1 | exact k1a | exact k1b | exact k1c | exact k1d)
      ((first
        | (go_at_call 118;refine(HIN.out _ (HBX.out.trans ((below_drewN (Below.refl W.heap.size W) 1).mono HBX.out.size))).mono ?_;rintro e Wa ⟨T1,tc,rfl,hry,hba⟩;have HBa:=Hd ((below_drewN (Below.refl W.heap.size W) 1).trans (hba.mono (below_drewN (Below.refl W.heap.size W) 1).size));have HRA:=Hd hry;have k1a:=(HBa.out.cell (p:=⟨g,1,none⟩) HGL.out).trans k1;clear hba hry)
        | (go_at_call 117;refine(HEQ.out T1 _ tc Wa (HBX.out.trans (HBa.out.mono HBX.out.size)) (by have:=HRA.out;rwa [HMI.out] at this)).mono ?_;rintro e Wb ⟨rfl,hbb⟩;have HBb:=Hd (HBa.out.trans (hbb.mono HBa.out.size));have k1b:=(HBb.out.cell (p:=⟨g,1,none⟩) HGL.out).trans k1;clear hbb)
        | (go_at_call 120;refine(HSI.out 2 Wb).mono ?_;rintro e Wc ⟨rfl,hbc⟩;have HBc:=Hd (HBb.out.trans (hbc.mono HBb.out.size));have k1c:=(HBc.out.cell (p:=⟨g,1,none⟩) HGL.out).trans k1;clear hbc)
        | (go_at_call 119;refine(HAL.out _ _ _ Wc (by first | exact(HS.out Wc (HBX.out.trans (HBc.out.mono HBX.out.size))).dropN ham | exact(HS.out Wc (HBX.out.trans (HBc.out.mono HBX.out.size))).drop HM.out | exact RdY.none_ HLZ.out)).mono ?_;rintro e Wd ⟨rfl,hbd⟩;have HBd:=Hd (HBc.out.trans (hbd.mono HBc.out.size));have k1d:=(HBd.out.cell (p:=⟨g,1,none⟩) HGL.out).trans k1;clear hbd)))
     have k2:=(HBd.out.cell (p:=⟨g,2,none⟩) HGL.out).trans k2;have HBE:=Hd (HBX.out.trans (HBd.out.mono HBX.out.size))
     go_wp2_with fail
     refine(HOU.out Wd HBE.out).mono ?_;rintro e w9 ⟨T9,t9,rfl,hry9,hb9⟩;have HR9:=Hd hry9;have HB9:=Hd (below_next2 HBE.out hb9);clear hry9 hb9
     go_wp2_with fail
     try go_ret2
     exact⟨T9,nd.outs.length,t9,nd.outs.map tyD,by rw [HO.out];rfl,fun r h=>(by rw [HO.out] at h;injection h with h;exact⟨h.symm,by have:=HR9.out;rwa [List.length_map] at this⟩),HB9.out⟩
end
section
open Go.RowKit Go.Sort Go.BigFrame
theorem trCallNil(p:Pg) (x:Nd) (r:Rm) (y:Ex) (A:Option Addr) (ca:Nat) (B:Option Addr) (cb:Nat) (ts:List T3) (w:World) (h:rdRm w p x r) (hS:RdY w none 0 ts) (hn:y.n=((0:Nat):Int)) (hfew:∀ j,j<p.ns.length→(ndAt p j).ins.length≤1000∧(ndAt p j).outs.length≤1000):
 Calls Tryz.prog 78 #[.agg (rvA p x r),.agg (exA y A ca B cb),.slice none 0 0] w (SubsAns w ((callP p y ts).map fun j=>(ndAt p j).outs.map tyD)):=by
 have hml:=hS.len;have hmm:=hS.max;have HFN:=Hd fun w1 (hb:Below w.heap.size w w1)=>pgFind p r.E r.ec r.N r.nc y.s w1 (h.below hb).1;have HS:=Hd fun w1 (hb:Below w.heap.size w w1)=>hS.below hb;have HNS:=Hd fun w1 (hb:Below w.heap.size w w1)=>(show RdNs w1 r.N p.ns.length p.ns from(h.below hb).1.2)
 have HC:=Hd (show callP p y ts=if findN p y.s<0 then none
  else if(decide (ts.take 0=(ndAt p (findN p y.s).toNat).ins.map tyD) && allB (2,0,0) (ts.drop 0))=true then some (findN p y.s).toNat else none from by
  unfold callP;rw [hn,hml,Int.toNat_natCast])
 have HFI:=Hd (findN_in p y.s);have HDL:=Hd trDeclared;have HSI:=Hd trSingle;clear h hS;generalize hoo:(callP p y ts).map (fun j=>(ndAt p j).outs.map tyD)=oo;generalize callP p y ts=cp at *;generalize findN p y.s=f at *;unfold rvA exA f3A at *;rw [hn];rcases HFI.out with rfl | ⟨i,rfl,hi⟩
 · have HN:=Hd (show oo=none by rw [← hoo,HC.out,if_pos (by omega)];rfl);clear HC hoo HS HNS HDL HSI
   go_enter Tryz.func78,Tryz.ntmps78
   go_upto_region 1 with(fail)
   generalize hw0:(w.alloc _).alloc _=w0;obtain⟨hb0,hsz,hce,hce2⟩:=any_box2 hw0;have HB0:=Hd hb0;have q0:=hce w0 (Below.refl _ _) 0;have q1:=hce w0 (Below.refl _ _) 1;have r2:=hce2 w0 (Below.refl _ _) 2;simp only [Ya,Yb,Yc] at q0 q1 r2;clear hw0 hb0 hsz hce hce2
   go_wp2_with fail
   refine(HFN.out w0 HB0.out).mono ?_;rintro e w1 ⟨rfl,hb1⟩;have HB1:=Hd (below_next2 HB0.out hb1);clear hb1 q0 q1 r2
   go_wp2_with fail
   try go_ret2
   exact⟨none,0,0,[],by rw [HN.out];rfl,fun r h=>(by rw [HN.out] at h;cases h),HB1.out⟩
 have HND:=Hd (show cp=if(decide (ts.take 0=(ndAt p i).ins.map tyD) && allB (2,0,0) (ts.drop 0))=true then some i else none by rw [HC.out,if_neg (by omega),Int.toNat_natCast]);obtain⟨nb,no,A1,c1,A2,c2,A3,c3,A4,c4,hN,hnb,hrd,d0,d1,d2,d3,d4⟩:=nd_at15 (HNS.out w (Below.refl _ _)) hi;obtain⟨hf1,hf2⟩:=hfew i hi;have HIN:=Hd fun w1 (hb:Below w.heap.size w w1)=>HDL.out A1 (p.ns[i]?.getD default).ins.length c1 (p.ns[i]?.getD default).ins w1 (hrd.below hb).1 hf1;have HOU:=Hd fun w1 (hb:Below w.heap.size w w1)=>HDL.out A2 (p.ns[i]?.getD default).outs.length c2 (p.ns[i]?.getD default).outs w1 (hrd.below hb).2.1 hf2
 have HD:=Hd (show ∀ w1,Below w.heap.size w w1→w1.cell? ⟨nb,no+i*5,none⟩=some (.string (p.ns[i]?.getD default).nm)∧w1.cell? ⟨nb,no+i*5+1,none⟩=some (.slice A1 (p.ns[i]?.getD default).ins.length c1)∧w1.cell? ⟨nb,no+i*5+2,none⟩=some (.slice A2 (p.ns[i]?.getD default).outs.length c2)∧w1.cell? ⟨nb,no+i*5+3,none⟩=some (.slice A3 (p.ns[i]?.getD default).vars.length c3)∧w1.cell? ⟨nb,no+i*5+4,none⟩=some (.slice A4 (p.ns[i]?.getD default).eqs.length c4) from
  fun w1 hb=>⟨(hb.cell (p:=⟨nb,no+i*5,none⟩) hnb).trans d0,(hb.cell (p:=⟨nb,no+i*5+1,none⟩) hnb).trans d1,(hb.cell (p:=⟨nb,no+i*5+2,none⟩) hnb).trans d2,(hb.cell (p:=⟨nb,no+i*5+3,none⟩) hnb).trans d3,(hb.cell (p:=⟨nb,no+i*5+4,none⟩) hnb).trans d4⟩)
 have HOO:=Hd (show oo=cp.map fun j=>(ndAt p j).outs.map tyD from hoo.symm);clear d0 d1 d2 d3 d4 hrd HNS HC hoo HDL hf1 hf2 HFI;unfold TysPost at HIN HOU;rw [hN];have HEQ:=Hd fun(T1:Option Addr) (tn tc:Nat) w1 (hb:Below w.heap.size w w1) (ht:RdY w1 T1 tn ((ndAt p i).ins.map tyD))=>slEqualY none T1 0 tn 0 tc (ts.take 0) ((ndAt p i).ins.map tyD) w1 ((HS.out w1 hb).take (by omega)) ht;have HAL:=Hd fun(ad:Option Addr) (n1 cc:Nat) w1 (hr:RdY w1 ad n1 (ts.drop 0))=>trAll 2 0 0 ad n1 cc (ts.drop 0) w1 hr;unfold f3A at HAL;have HMI:=Hd (show((ndAt p i).ins.map tyD).length=(p.ns[i]?.getD default).ins.length by rw [List.length_map];rfl);generalize hbq:decide (ts.take 0=(ndAt p i).ins.map tyD)=bq at *;generalize hba:allB (2,0,0) (ts.drop 0)=ba at *;have HAN:=Hd (show(bq && ba)=false→oo=none from fun h=>by rw [HOO.out,HND.out,h];rfl);have HAY:=Hd (show(bq && ba)=true→oo=some ((ndAt p i).outs.map tyD) from fun h=>by rw [HOO.out,HND.out,h];rfl);clear HOO HND hbq hba;have hd0:decide ((i:Int)<0)=false:=decide_eq_false (by omega);unfold ndAt at HEQ HMI HAN HAY;generalize p.ns[i]?.getD default=nd at *
 go_enter Tryz.func78,Tryz.ntmps78
 go_upto_region 1 with(fail)
 generalize hw0:(w.alloc _).alloc _=w0;obtain⟨hb0,hsz,hce,hce2⟩:=any_box2 hw0;have HB0:=Hd hb0;have HC1:=Hd hce;have HC2:=Hd hce2;have q0:=hce w0 (Below.refl _ _) 0;have q1:=hce w0 (Below.refl _ _) 1;have r2:=hce2 w0 (Below.refl _ _) 2;simp only [Ya,Yb,Yc] at q0 q1 r2;rw [hN] at HFN;clear hw0 hb0 hsz hce hce2
 go_wp2_with fail
 refine(HFN.out w0 HB0.out).mono ?_;rintro e w1 ⟨rfl,hb1⟩;have HB1:=Hd (below_next2 HB0.out hb1);have q1:=HC1.out w1 hb1 1;have r1:=HC2.out w1 hb1 1;simp only [Ya,Yb,Yc] at q1 r1;obtain⟨d0,d1,d2,d3,d4⟩:=HD.out w1 HB1.out;clear hb1 q0 r2 HFN HC1 HC2 HD
 go_upto_region 4 with(fail)
 refine wp_region_mid (l:=[_,_,_,_,_,_,_,_,_,_,_,_,_,_]) 11 12 _ _ (d:=9) (tx:=23) (T:=36) (zc:=ndZ) (by kernel_rfl) rfl rfl (by kernel_rfl) rfl (by simp) (fun a W=>by rfl) rfl (by kernel_rfl) ?_
 repeat
  first
  | refine fix_skipG rfl ?_
  | (apply fix_stepG rfl rfl (by simp)
     case h1=>
      intro wb hb;have hbb:=cls_below hb;have l0:=fun d os=>cell_regrown ((hbb.cell (World.block_lt_of_cell? _ _ q1)).trans q1) d os;have l1:=fun d os=>cell_regrown ((hbb.cell (World.block_lt_of_cell? _ _ r1)).trans r1) d os;have m0:=fun d os=>cell_regrown ((hbb.cell (World.block_lt_of_cell? _ _ d0)).trans d0) d os;have m1:=fun d os=>cell_regrown ((hbb.cell (World.block_lt_of_cell? _ _ d1)).trans d1) d os;have m2:=fun d os=>cell_regrown ((hbb.cell (World.block_lt_of_cell? _ _ d2)).trans d2) d os;have m3:=fun d os=>cell_regrown ((hbb.cell (World.block_lt_of_cell? _ _ d3)).trans d3) d os;have m4:=fun d os=>cell_regrown ((hbb.cell (World.block_lt_of_cell? _ _ d4)).trans d4) d os;clear hbb
      go_big_quiet_step (fail)
      refine wpQuiet_nil ?_;simp only [List.getElem?_toArray,List.getElem?_cons_succ,List.getElem?_cons_zero];exact rfl
     simp only [Act.put,Yd,Ye,Yf])
 refine⟨#[.string nd.nm,.slice A1 nd.ins.length c1,.slice A2 nd.outs.length c2,.slice A3 nd.vars.length c3,.slice A4 nd.eqs.length c4],rfl,rfl,by simp [Value.oneCell'],fun W g hW hg hz=>?_⟩;have HBX:=Hd (below_next2 HB1.out (cls_below hW));have k1:=obj_cell hz 1;have k2:=obj_cell hz 2;simp only [Ya,Yb,Yc] at k1 k2;clear hW hg hz q1 r1 d0 d1 d2 d3 d4
 show Exit.then _ _ .normal _ W
 simp only [Act.put,Yd,Ye,Yf];have hgl:=World.block_lt_of_cell? _ _ k1;have HGL:=Hd (show g<W.heap.size from hgl);clear hgl
 cases bq with
 | false=>
  have HO:=Hd (HAN.out rfl);clear HAN HAY HOU HAL HSI
  go_upto_region 5 with(fail)
  first
  | go_region_held_law (fun X=>X.cell? ⟨g,1,none⟩=some (.slice A1 nd.ins.length c1)) (first | exact k1 | exact k1a | exact k1b)
   ((first
     | (go_at_call 118;refine(HIN.out _ (HBX.out.trans ((below_drewN (Below.refl W.heap.size W) 1).mono HBX.out.size))).mono ?_;rintro e Wa ⟨T1,tc,rfl,hry,hba⟩;have HBa:=Hd ((below_drewN (Below.refl W.heap.size W) 1).trans (hba.mono (below_drewN (Below.refl W.heap.size W) 1).size));have HRA:=Hd hry;have k1a:=(HBa.out.cell (p:=⟨g,1,none⟩) HGL.out).trans k1;clear hba hry)
     | (go_at_call 117;refine(HEQ.out T1 _ tc Wa (HBX.out.trans (HBa.out.mono HBX.out.size)) (by have:=HRA.out;rwa [HMI.out] at this)).mono ?_;rintro e Wb ⟨rfl,hbb⟩;have HBb:=Hd (HBa.out.trans (hbb.mono HBa.out.size));have k1b:=(HBb.out.cell (p:=⟨g,1,none⟩) HGL.out).trans k1;clear hbb)))
  | fail
  all_goals
   go_wp2_with fail
   try go_ret2
   exact⟨none,0,0,[],by rw [HO.out];rfl,fun r h=>(by rw [HO.out] at h;cases h),HBX.out.trans (HBb.out.mono HBX.out.size)⟩
 | true=>
  have HLZ:=Hd (show(ts.drop 0).length=0 by rw [List.length_drop,hml])
  cases ba with
  | false=>
   have HO:=Hd (HAN.out rfl);clear HAN HAY HOU
   go_upto_region 5 with(fail)
   go_region_held3 (fun X=>X.cell? ⟨g,1,none⟩=some (.slice A1 nd.ins.length c1)) (first | exact k1 | exact k1a | exact k1b | exact k1c | exact k1d)
    ((first
      | (go_at_call 118;refine(HIN.out _ (HBX.out.trans ((below_drewN (Below.refl W.heap.size W) 1).mono HBX.out.size))).mono ?_;rintro e Wa ⟨T1,tc,rfl,hry,hba⟩;have HBa:=Hd ((below_drewN (Below.refl W.heap.size W) 1).trans (hba.mono (below_drewN (Below.refl W.heap.size W) 1).size));have HRA:=Hd hry;have k1a:=(HBa.out.cell (p:=⟨g,1,none⟩) HGL.out).trans k1;clear hba hry)
      | (go_at_call 117;refine(HEQ.out T1 _ tc Wa (HBX.out.trans (HBa.out.mono HBX.out.size)) (by have:=HRA.out;rwa [HMI.out] at this)).mono ?_;rintro e Wb ⟨rfl,hbb⟩;have HBb:=Hd (HBa.out.trans (hbb.mono HBa.out.size));have k1b:=(HBb.out.cell (p:=⟨g,1,none⟩) HGL.out).trans k1;clear hbb)
      | (go_at_call 120;refine(HSI.out 2 Wb).mono ?_;rintro e Wc ⟨rfl,hbc⟩;have HBc:=Hd (HBb.out.trans (hbc.mono HBb.out.size));have k1c:=(HBc.out.cell (p:=⟨g,1,none⟩) HGL.out).trans k1;clear hbc)
      | (go_at_call 119;refine(HAL.out _ _ _ Wc (by exact RdY.none_ HLZ.out)).mono ?_;rintro e Wd ⟨rfl,hbd⟩;have HBd:=Hd (HBc.out.trans (hbd.mono HBc.out.size));have k1d:=(HBd.out.cell (p:=⟨g,1,none⟩) HGL.out).trans k1;clear hbd)))
   go_wp2_with fail
   try go_ret2
   exact⟨none,0,0,[],by rw [HO.out];rfl,fun r h=>(by rw [HO.out] at h;cases h),HBX.out.trans (HBd.out.mono HBX.out.size)⟩
  | true=>
   have HO:=Hd (HAY.out rfl);clear HAN HAY
   go_upto_region 5 with(fail)
   go_region_held3 (fun X=>X.cell? ⟨g,1,none⟩=some (.slice A1 nd.ins.length c1)) (first | exact k1 | exact k1a | exact k1b | exact k1c | exact k1d)
    ((first
      | (go_at_call 118;refine(HIN.out _ (HBX.out.trans ((below_drewN (Below.refl W.heap.size W) 1).mono HBX.out.size))).mono ?_;rintro e Wa ⟨T1,tc,rfl,hry,hba⟩;have HBa:=Hd ((below_drewN (Below.refl W.heap.size W) 1).trans (hba.mono (below_drewN (Below.refl W.heap.size W) 1).size));have HRA:=Hd hry;have k1a:=(HBa.out.cell (p:=⟨g,1,none⟩) HGL.out).trans k1;clear hba hry)
      | (go_at_call 117;refine(HEQ.out T1 _ tc Wa (HBX.out.trans (HBa.out.mono HBX.out.size)) (by have:=HRA.out;rwa [HMI.out] at this)).mono ?_;rintro e Wb ⟨rfl,hbb⟩;have HBb:=Hd (HBa.out.trans (hbb.mono HBa.out.size));have k1b:=(HBb.out.cell (p:=⟨g,1,none⟩) HGL.out).trans k1;clear hbb)
      | (go_at_call 120;refine(HSI.out 2 Wb).mono ?_;rintro e Wc ⟨rfl,hbc⟩;have HBc:=Hd (HBb.out.trans (hbc.mono HBb.out.size));have k1c:=(HBc.out.cell (p:=⟨g,1,none⟩) HGL.out).trans k1;clear hbc)
      | (go_at_call 119;refine(HAL.out _ _ _ Wc (by exact RdY.none_ HLZ.out)).mono ?_;rintro e Wd ⟨rfl,hbd⟩;have HBd:=Hd (HBc.out.trans (hbd.mono HBc.out.size));have k1d:=(HBd.out.cell (p:=⟨g,1,none⟩) HGL.out).trans k1;clear hbd)))
   have k2:=(HBd.out.cell (p:=⟨g,2,none⟩) HGL.out).trans k2;have HBE:=Hd (HBX.out.trans (HBd.out.mono HBX.out.size))
   go_wp2_with fail
   refine(HOU.out Wd HBE.out).mono ?_;rintro e w9 ⟨T9,t9,rfl,hry9,hb9⟩;have HR9:=Hd hry9;have HB9:=Hd (below_next2 HBE.out hb9);clear hry9 hb9
   go_wp2_with fail
   try go_ret2
   exact⟨T9,nd.outs.length,t9,nd.outs.map tyD,by rw [HO.out];rfl,fun r h=>(by rw [HO.out] at h;injection h with h;exact⟨h.symm,by have:=HR9.out;rwa [List.length_map] at this⟩),HB9.out⟩
end
end Go.Proofs.YtkbpdoomhfkngaaGreat
