/- Parts of the proof: ScD, ScE, TpM. Conditions: each theorem's own. -/
import Derived.Test.YtegjgiofmpolnaaGreatO11
namespace Go.Proofs.YtegjgiofmpolnaaGreat
set_option linter.unusedVariables false
set_option linter.unusedSimpArgs false
set_option maxRecDepth 100000
set_option maxHeartbeats 40000000
section
open Go.RowKit Go.Sort Go.BigFrame
theorem nd_at15{w:World}{A:Option Addr}{n i:Nat}{l:List Nd}(h:RdNs w A n l) (hi:i<n):
 ∃ b off A1 c1 A2 c2 A3 c3 A4 c4,A=some ⟨b,off,none⟩∧b<w.heap.size∧rdN w (l[i]?.getD default) A1 A2 A3 A4 ∧
 w.cell? ⟨b,off+i*5,none⟩=some (.string (l[i]?.getD default).nm)∧w.cell? ⟨b,off+i*5+1,none⟩=some (.slice A1 (l[i]?.getD default).ins.length c1)∧w.cell? ⟨b,off+i*5+2,none⟩=some (.slice A2 (l[i]?.getD default).outs.length c2)∧w.cell? ⟨b,off+i*5+3,none⟩=some (.slice A3 (l[i]?.getD default).vars.length c3)∧w.cell? ⟨b,off+i*5+4,none⟩=some (.slice A4 (l[i]?.getD default).eqs.length c4):=by
 obtain⟨b,off,e,hb,hc⟩:=RdS.at_ h (by omega);obtain⟨A1,c1,A2,c2,A3,c3,A4,c4,h1,h2⟩:=hc i hi;obtain⟨d0,d1,d2,d3,d4⟩:=ndL_five h1;exact⟨b,off,A1,c1,A2,c2,A3,c3,A4,c4,e,hb,h2,d0,d1,d2,d3,d4⟩
theorem arm_get{arms:List ByteArray}{j:Nat}:arms[j]?.getD default=arms[j]?.getD ByteArray.empty:=rfl
def partE(p:Pg) (i:Nat) (k:Int) (s:ByteArray):Bool:=
 if(k==4)=true then armV p.es s else if(k==13)=true then decide (0≤findN p s) && decide (findN p s<(i:Int)) else !(k==17)
theorem partS_eq(p:Pg) (i:Nat) (e:Ex):partS p i e=(if((e.k==3 || e.k==11 || e.k==12) && !isV (ndAt p i) e.s)=true then false else if e.arms.all (armV p.es)=false then false else partE p i e.k e.s):=rfl
theorem refPart15(p:Pg) (E:Option Addr) (ec:Nat) (N:Option Addr) (nc:Nat) (i:Nat) (x:Ex) (A:Option Addr) (ca:Nat) (B:Option Addr) (cb:Nat) (w:World) (h:rdP w p E N) (hi:i<p.ns.length) (hr:rdX w x A B) (hn:(ndAt p i).all.length≤1000):
 Calls Tryz.prog 110 #[.agg (pgA p E ec N nc),.int .i64 i,.agg (exA x A ca B cb)] w fun e w'=>e=.returned (.bool (partS p i x))∧Below w.heap.size w w':=by
 have HF:=Hd fun w1 hw=>pg_facts w p E ec N nc w1 hw h;have HFX:=Hd fun w1 w2 hw (hb:Below w.heap.size w w1)=>box_facts w1 x A ca B cb w2 hw (hr.below hb);obtain⟨bn,on,A1,c1,A2,c2,A3,c3,A4,c4,e0,hbn,hrn,d0,d1,d2,d3,d4⟩:=nd_at15 h.2 hi;have HIS:=Hd fun w1 (a:Below w.heap.size w w1)=>refIs15 (p.ns[i]?.getD default) A1 c1 A2 c2 A3 c3 A4 c4 x.s w1 (hrn.below a) hn;have HAR:=Hd fun s w1 (a:Below w.heap.size w w1)=>refArmP15 p E ec N nc s w1 (h.below a);have HFI:=Hd fun w1 (a:Below w.heap.size w w1)=>refFind p E ec N nc x.s w1 (h.below a);have HND:=Hd fun w1 (a:Below w.heap.size w w1)=>And.intro ((a.cell (p:=⟨bn,on+i*5,none⟩) hbn).trans d0) (And.intro ((a.cell (p:=⟨bn,on+i*5+1,none⟩) hbn).trans d1) (And.intro ((a.cell (p:=⟨bn,on+i*5+2,none⟩) hbn).trans d2) (And.intro ((a.cell (p:=⟨bn,on+i*5+3,none⟩) hbn).trans d3) ((a.cell (p:=⟨bn,on+i*5+4,none⟩) hbn).trans d4))));have HNF:=Hd fun w1 w2 hw (a:Below w.heap.size w w1)=>nd_facts w1 (p.ns[i]?.getD default) A1 c1 A2 c2 A3 c3 A4 c4 w2 hw (hrn.below a);have HAT:=Hd fun w1 (a:Below w.heap.size w w1)=>(hr.below a).arms;have HP:=Hd (partS_eq p i x);have HPE:=Hd (show partE p i x.k x.s=if(x.k==4)=true then armV p.es x.s else if(x.k==13)=true then decide (0≤findN p x.s) && decide (findN p x.s<(i:Int)) else !(x.k==17) from rfl);have hmx:=RdS.max h.2;have hax:=hr.arms.max;subst e0;clear h hr hrn hn d0 d1 d2 d3 d4;generalize partS p i x=res at *;generalize partE p i x.k x.s=pe at *;rw [show isV (ndAt p i) x.s=isV (p.ns[i]?.getD default) x.s from rfl] at HP;generalize isV (p.ns[i]?.getD default) x.s=iv at *;generalize hav:armV p.es x.s=av at *;generalize findN p x.s=fn at *;unfold pgA at HF HAR HFI ⊢;unfold exA at HFX ⊢;unfold ndA at HIS HNF;generalize p.ns[i]?.getD default=y at *;generalize hpn:p.ns.length=pn at *;generalize x.k=k at *;generalize x.s=xs at *;have HAV:=Hd hav;clear hav;generalize hal:x.arms.length=na at *;generalize x.arms=arms at *
 go_enter Tryz.func110,Tryz.ntmps110
 go_upto_region 1 with(fail)
 generalize hw1:w.alloc _=w1;obtain⟨hb1,hg1,hr1,hcell1⟩:=HF.out w1 hw1;generalize hw2:w1.alloc _=w2;obtain⟨hb2,hg2,hr2,hcell2⟩:=HFX.out w1 w2 hw2 hb1;simp only [hg1] at hcell2;have HB2:=Hd (hb1.trans (hb2.mono hb1.size));have q1:=hcell1 w2 hb2 1;simp only [Ya,Yb,Yc] at q1;obtain⟨d0,d1,d2,d3,d4⟩:=HND.out w2 HB2.out;have hii:(i:Int)<(pn:Int):=by omega
 have hi0:(0:Int)≤(i:Int):=by omega
 have hmi:i≤9223372036854775807:=by omega
 have HC1:=Hd fun W (b:Below w2.heap.size w2 W) j=>hcell1 W (hb2.trans (b.mono hb2.size)) j;have HC2:=Hd hcell2;clear hw1 hw2 hcell1 hcell2 hb1 hb2 hr1 hr2 HF HFX
 go_upto_region 2 with(fail)
 generalize hw3:w2.alloc _=w3;obtain⟨hb3,hg3,-,hcell3⟩:=HNF.out w2 w3 hw3 HB2.out;have HB3:=Hd (HB2.out.trans (hb3.mono HB2.out.size));have HP1:=Hd fun W (b:Below w3.heap.size w3 W) j=>HC1.out W (hb3.trans (b.mono hb3.size)) j;have HX1:=Hd fun W (b:Below w3.heap.size w3 W) j=>HC2.out W (hb3.trans (b.mono hb3.size)) j;have HN1:=Hd hcell3;clear hw3 hb3 hg3 hcell3 HC1 HC2 HNF HND d0 d1 d2 d3 d4 q1;have x0:=HX1.out w3 (Below.refl _ _) 0;have x2:=HX1.out w3 (Below.refl _ _) 2;obtain⟨n0,n1,n2,n3,n4,-⟩:=Sx (HN1.out w3 (Below.refl _ _));simp only [Ya,Yb,Yc] at x0 x2 n0 n1 n2 n3 n4;have HIW:=Hd (HIS.out w3 HB3.out);clear HIS
 by_cases hkk:(k==3 || k==11 || k==12)=true
 · have hk:k=3∨k=11∨k=12:=by simpa [or_assoc] using hkk
   cases iv with
   | false=>
    have HR:=Hd (show res=false by rw [HP.out,hkk];rfl);rcases hk with hk | hk | hk
    · subst hk
      go_wp2_with fail
      refine HIW.out.mono ?_;rintro e w4 ⟨rfl,hb4⟩;have HB4:=Hd (HB3.out.trans (hb4.mono HB3.out.size));clear hb4 x0 x2 n0 n1 n2 n3 n4
      go_wp2_with fail
      go_ret
      exact⟨ret_boolS HR.out.symm,HB4.out⟩
    · subst hk
      go_wp2_with fail
      refine HIW.out.mono ?_;rintro e w4 ⟨rfl,hb4⟩;have HB4:=Hd (HB3.out.trans (hb4.mono HB3.out.size));clear hb4 x0 x2 n0 n1 n2 n3 n4
      go_wp2_with fail
      go_ret
      exact⟨ret_boolS HR.out.symm,HB4.out⟩
    · subst hk
      go_wp2_with fail
      refine HIW.out.mono ?_;rintro e w4 ⟨rfl,hb4⟩;have HB4:=Hd (HB3.out.trans (hb4.mono HB3.out.size));clear hb4 x0 x2 n0 n1 n2 n3 n4
      go_wp2_with fail
      go_ret
      exact⟨ret_boolS HR.out.symm,HB4.out⟩
   | true=>
    have HK0:=Hd (show ¬ ((k==3 || k==11 || k==12) && !true)=true by simp);rcases hk with hk | hk | hk
    · subst hk
      go_wp2_with fail
      refine HIW.out.mono ?_;rintro e w4 ⟨rfl,hb4⟩;have HW0:=Hd hb4;clear hb4 x0 x2 n0 n1 n2 n3 n4
      go_wp2_with fail
      go_loopw [8] (fun c wr=>∃ j:Nat,j≤na∧c=.int .i64 j∧(arms.take j).all (armV p.es)=true∧Below w3.heap.size w3 wr) (fun c _=>na-(intOf c).toNat)
      case atStart=>exact⟨0,Nat.zero_le _,rfl,by simp,HW0.out⟩
      case round=>
       obtain⟨j,hj,rfl,hto,hbr⟩:=hrel;have HTO:=Hd hto;have HBR:=Hd hbr;have x4:=HX1.out wr hbr 4;have x0:=HX1.out wr hbr 0;have x2:=HX1.out wr hbr 2;have y0:=HP1.out wr hbr 0;have y1:=HP1.out wr hbr 1;simp only [Ya,Yb,Yc] at x4 x0 x2 y0 y1;have HWB:=Hd (HB3.out.trans (hbr.mono HB3.out.size))
       by_cases hjt:j<na
       · obtain⟨b5,o5,rfl,hb5,hat⟩:=(HAT.out wr HWB.out).at_ (i:=j) hjt;have a0:=hat j hjt;have hjl:j<arms.length:=by omega
         have HAS:=Hd (all_take_step (f:=armV p.es) HTO.out hjl);have HAN:=Hd (all_at_no (f:=armV p.es) hjl);rw [arm_get] at HAS HAN;have HCA:=Hd fun W (b:Below wr.heap.size wr W)=>HAR.out (arms[j]?.getD ByteArray.empty) W (HWB.out.trans (b.mono HWB.out.size));clear hat hto hbr;generalize arms[j]?.getD ByteArray.empty=am at *;generalize armV p.es am=bm at *
         go_upto_region 7 with(fail)
         have HBG:=Hd fun d os=>below_regrown wr d os;have l0:=fun d os=>cell_regrown y0 d os;have l1:=fun d os=>cell_regrown y1 d os;have l4:=fun d os=>cell_regrown x4 d os;have la:=fun d os=>cell_regrown a0 d os;have cA:=fun d os=>Calls.regrown_of (HCA.out (grow (redrawn wr d) os) (below_regrown wr d os));refine wp_region_quiet_below (by kernel_rfl) (by kernel_rfl) ?_
         repeat (go_big_quiet_step (with_reducible exact cA _ _))
         refine wpQuiet_nil ?_;intro _ hw3;obtain⟨⟨dq3,osq3⟩,hw33⟩:=hw3;have hbr3:=HBG.out dq3 osq3;rw [← hw33] at hbr3;clear cA l0 l1 l4 la hw33 x4 x0 x2 y0 y1 a0
         rename_i w9
         have HB9:=Hd (HBR.out.trans (hbr3.mono HBR.out.size));clear hbr3
         cases bm with
         | true=>
          have HS2:=Hd (HAS.out rfl)
          go_wp2_with fail
          go_roundw
          case rel=>exact⟨j+1,by omega,by go_num,HS2.out,HB9.out⟩
          case measure=>simp [intOf];omega
         | false=>
          have HR:=Hd (show res=false by rw [HP.out,if_neg HK0.out,if_pos (HAN.out rfl)])
          go_wp2_with fail
          go_ret
          exact⟨ret_boolS HR.out.symm,HB3.out.trans (HB9.out.mono HB3.out.size)⟩
       · have hjn:j=na:=by omega
         subst hjn;have HR:=Hd (show res=pe by rw [HP.out,if_neg HK0.out,if_neg];rw [List.take_of_length_le (by omega)] at hto;rw [hto];simp);clear hto hbr;have HRR:=Hd (show res=true by rw [HR.out,HPE.out];rfl)
         go_wp2_with fail
         go_ret
         exact⟨ret_boolS HRR.out.symm,HWB.out⟩
    · subst hk
      go_wp2_with fail
      refine HIW.out.mono ?_;rintro e w4 ⟨rfl,hb4⟩;have HW0:=Hd hb4;clear hb4 x0 x2 n0 n1 n2 n3 n4
      go_wp2_with fail
      go_loopw [8] (fun c wr=>∃ j:Nat,j≤na∧c=.int .i64 j∧(arms.take j).all (armV p.es)=true∧Below w3.heap.size w3 wr) (fun c _=>na-(intOf c).toNat)
      case atStart=>exact⟨0,Nat.zero_le _,rfl,by simp,HW0.out⟩
      case round=>
       obtain⟨j,hj,rfl,hto,hbr⟩:=hrel;have HTO:=Hd hto;have HBR:=Hd hbr;have x4:=HX1.out wr hbr 4;have x0:=HX1.out wr hbr 0;have x2:=HX1.out wr hbr 2;have y0:=HP1.out wr hbr 0;have y1:=HP1.out wr hbr 1;simp only [Ya,Yb,Yc] at x4 x0 x2 y0 y1;have HWB:=Hd (HB3.out.trans (hbr.mono HB3.out.size))
       by_cases hjt:j<na
       · obtain⟨b5,o5,rfl,hb5,hat⟩:=(HAT.out wr HWB.out).at_ (i:=j) hjt;have a0:=hat j hjt;have hjl:j<arms.length:=by omega
         have HAS:=Hd (all_take_step (f:=armV p.es) HTO.out hjl);have HAN:=Hd (all_at_no (f:=armV p.es) hjl);rw [arm_get] at HAS HAN;have HCA:=Hd fun W (b:Below wr.heap.size wr W)=>HAR.out (arms[j]?.getD ByteArray.empty) W (HWB.out.trans (b.mono HWB.out.size));clear hat hto hbr;generalize arms[j]?.getD ByteArray.empty=am at *;generalize armV p.es am=bm at *
         go_upto_region 7 with(fail)
         have HBG:=Hd fun d os=>below_regrown wr d os;have l0:=fun d os=>cell_regrown y0 d os;have l1:=fun d os=>cell_regrown y1 d os;have l4:=fun d os=>cell_regrown x4 d os;have la:=fun d os=>cell_regrown a0 d os;have cA:=fun d os=>Calls.regrown_of (HCA.out (grow (redrawn wr d) os) (below_regrown wr d os));refine wp_region_quiet_below (by kernel_rfl) (by kernel_rfl) ?_
         repeat (go_big_quiet_step (with_reducible exact cA _ _))
         refine wpQuiet_nil ?_;intro _ hw3;obtain⟨⟨dq3,osq3⟩,hw33⟩:=hw3;have hbr3:=HBG.out dq3 osq3;rw [← hw33] at hbr3;clear cA l0 l1 l4 la hw33 x4 x0 x2 y0 y1 a0
         rename_i w9
         have HB9:=Hd (HBR.out.trans (hbr3.mono HBR.out.size));clear hbr3
         cases bm with
         | true=>
          have HS2:=Hd (HAS.out rfl)
          go_wp2_with fail
          go_roundw
          case rel=>exact⟨j+1,by omega,by go_num,HS2.out,HB9.out⟩
          case measure=>simp [intOf];omega
         | false=>
          have HR:=Hd (show res=false by rw [HP.out,if_neg HK0.out,if_pos (HAN.out rfl)])
          go_wp2_with fail
          go_ret
          exact⟨ret_boolS HR.out.symm,HB3.out.trans (HB9.out.mono HB3.out.size)⟩
       · have hjn:j=na:=by omega
         subst hjn;have HR:=Hd (show res=pe by rw [HP.out,if_neg HK0.out,if_neg];rw [List.take_of_length_le (by omega)] at hto;rw [hto];simp);clear hto hbr;have HRR:=Hd (show res=true by rw [HR.out,HPE.out];rfl)
         go_wp2_with fail
         go_ret
         exact⟨ret_boolS HRR.out.symm,HWB.out⟩
    · subst hk
      go_wp2_with fail
      refine HIW.out.mono ?_;rintro e w4 ⟨rfl,hb4⟩;have HW0:=Hd hb4;clear hb4 x0 x2 n0 n1 n2 n3 n4
      go_wp2_with fail
      go_loopw [8] (fun c wr=>∃ j:Nat,j≤na∧c=.int .i64 j∧(arms.take j).all (armV p.es)=true∧Below w3.heap.size w3 wr) (fun c _=>na-(intOf c).toNat)
      case atStart=>exact⟨0,Nat.zero_le _,rfl,by simp,HW0.out⟩
      case round=>
       obtain⟨j,hj,rfl,hto,hbr⟩:=hrel;have HTO:=Hd hto;have HBR:=Hd hbr;have x4:=HX1.out wr hbr 4;have x0:=HX1.out wr hbr 0;have x2:=HX1.out wr hbr 2;have y0:=HP1.out wr hbr 0;have y1:=HP1.out wr hbr 1;simp only [Ya,Yb,Yc] at x4 x0 x2 y0 y1;have HWB:=Hd (HB3.out.trans (hbr.mono HB3.out.size))
       by_cases hjt:j<na
       · obtain⟨b5,o5,rfl,hb5,hat⟩:=(HAT.out wr HWB.out).at_ (i:=j) hjt;have a0:=hat j hjt;have hjl:j<arms.length:=by omega
         have HAS:=Hd (all_take_step (f:=armV p.es) HTO.out hjl);have HAN:=Hd (all_at_no (f:=armV p.es) hjl);rw [arm_get] at HAS HAN;have HCA:=Hd fun W (b:Below wr.heap.size wr W)=>HAR.out (arms[j]?.getD ByteArray.empty) W (HWB.out.trans (b.mono HWB.out.size));clear hat hto hbr;generalize arms[j]?.getD ByteArray.empty=am at *;generalize armV p.es am=bm at *
         go_upto_region 7 with(fail)
         have HBG:=Hd fun d os=>below_regrown wr d os;have l0:=fun d os=>cell_regrown y0 d os;have l1:=fun d os=>cell_regrown y1 d os;have l4:=fun d os=>cell_regrown x4 d os;have la:=fun d os=>cell_regrown a0 d os;have cA:=fun d os=>Calls.regrown_of (HCA.out (grow (redrawn wr d) os) (below_regrown wr d os));refine wp_region_quiet_below (by kernel_rfl) (by kernel_rfl) ?_
         repeat (go_big_quiet_step (with_reducible exact cA _ _))
         refine wpQuiet_nil ?_;intro _ hw3;obtain⟨⟨dq3,osq3⟩,hw33⟩:=hw3;have hbr3:=HBG.out dq3 osq3;rw [← hw33] at hbr3;clear cA l0 l1 l4 la hw33 x4 x0 x2 y0 y1 a0
         rename_i w9
         have HB9:=Hd (HBR.out.trans (hbr3.mono HBR.out.size));clear hbr3
         cases bm with
         | true=>
          have HS2:=Hd (HAS.out rfl)
          go_wp2_with fail
          go_roundw
          case rel=>exact⟨j+1,by omega,by go_num,HS2.out,HB9.out⟩
          case measure=>simp [intOf];omega
         | false=>
          have HR:=Hd (show res=false by rw [HP.out,if_neg HK0.out,if_pos (HAN.out rfl)])
          go_wp2_with fail
          go_ret
          exact⟨ret_boolS HR.out.symm,HB3.out.trans (HB9.out.mono HB3.out.size)⟩
       · have hjn:j=na:=by omega
         subst hjn;have HR:=Hd (show res=pe by rw [HP.out,if_neg HK0.out,if_neg];rw [List.take_of_length_le (by omega)] at hto;rw [hto];simp);clear hto hbr;have HRR:=Hd (show res=true by rw [HR.out,HPE.out];rfl)
         go_wp2_with fail
         go_ret
         exact⟨ret_boolS HRR.out.symm,HWB.out⟩
 · have HK0:=Hd (show ¬ ((k==3 || k==11 || k==12) && !iv)=true by rw [Bool.not_eq_true] at hkk;rw [hkk];simp);have hk3:(k==3)=false:=by rw [Bool.not_eq_true,Bool.or_eq_false_iff,Bool.or_eq_false_iff] at hkk;exact hkk.1.1
   have hk11:(k==11)=false:=by rw [Bool.not_eq_true,Bool.or_eq_false_iff,Bool.or_eq_false_iff] at hkk;exact hkk.1.2
   have hk12:(k==12)=false:=by rw [Bool.not_eq_true,Bool.or_eq_false_iff,Bool.or_eq_false_iff] at hkk;exact hkk.2
   have HW0:=Hd (Below.refl w3.heap.size w3);clear HIW hkk n0 n1 n2 n3 n4 x2
   go_wp2_with fail
   clear x0
   go_loopw [8] (fun c wr=>∃ j:Nat,j≤na∧c=.int .i64 j∧(arms.take j).all (armV p.es)=true∧Below w3.heap.size w3 wr) (fun c _=>na-(intOf c).toNat)
   case atStart=>exact⟨0,Nat.zero_le _,rfl,by simp,HW0.out⟩
   case round=>
    obtain⟨j,hj,rfl,hto,hbr⟩:=hrel;have HTO:=Hd hto;have HBR:=Hd hbr;have x4:=HX1.out wr hbr 4;have x0:=HX1.out wr hbr 0;have x2:=HX1.out wr hbr 2;have y0:=HP1.out wr hbr 0;have y1:=HP1.out wr hbr 1;simp only [Ya,Yb,Yc] at x4 x0 x2 y0 y1;have HWB:=Hd (HB3.out.trans (hbr.mono HB3.out.size))
    by_cases hjt:j<na
    · obtain⟨b5,o5,rfl,hb5,hat⟩:=(HAT.out wr HWB.out).at_ (i:=j) hjt;have a0:=hat j hjt;have hjl:j<arms.length:=by omega
      have HAS:=Hd (all_take_step (f:=armV p.es) HTO.out hjl);have HAN:=Hd (all_at_no (f:=armV p.es) hjl);rw [arm_get] at HAS HAN;have HCA:=Hd fun W (b:Below wr.heap.size wr W)=>HAR.out (arms[j]?.getD ByteArray.empty) W (HWB.out.trans (b.mono HWB.out.size));clear hat hto hbr;generalize arms[j]?.getD ByteArray.empty=am at *;generalize armV p.es am=bm at *
      go_upto_region 7 with(fail)
      have HBG:=Hd fun d os=>below_regrown wr d os;have l0:=fun d os=>cell_regrown y0 d os;have l1:=fun d os=>cell_regrown y1 d os;have l4:=fun d os=>cell_regrown x4 d os;have la:=fun d os=>cell_regrown a0 d os;have cA:=fun d os=>Calls.regrown_of (HCA.out (grow (redrawn wr d) os) (below_regrown wr d os));refine wp_region_quiet_below (by kernel_rfl) (by kernel_rfl) ?_
      repeat (go_big_quiet_step (with_reducible exact cA _ _))
      refine wpQuiet_nil ?_;intro _ hw3;obtain⟨⟨dq3,osq3⟩,hw33⟩:=hw3;have hbr3:=HBG.out dq3 osq3;rw [← hw33] at hbr3;clear cA l0 l1 l4 la hw33 x4 x0 x2 y0 y1 a0
      rename_i w9
      have HB9:=Hd (HBR.out.trans (hbr3.mono HBR.out.size));clear hbr3
      cases bm with
      | true=>
       have HS2:=Hd (HAS.out rfl)
       go_wp2_with fail
       go_roundw
       case rel=>exact⟨j+1,by omega,by go_num,HS2.out,HB9.out⟩
       case measure=>simp [intOf];omega
      | false=>
       have HR:=Hd (show res=false by rw [HP.out,if_neg HK0.out,if_pos (HAN.out rfl)])
       go_wp2_with fail
       go_ret
       exact⟨ret_boolS HR.out.symm,HB3.out.trans (HB9.out.mono HB3.out.size)⟩
    · have hjn:j=na:=by omega
      subst hjn;have HR:=Hd (show res=pe by rw [HP.out,if_neg HK0.out,if_neg];rw [List.take_of_length_le (by omega)] at hto;rw [hto];simp);clear hto hbr
      cases k4:(k==4) with
      | true=>
       have HRR:=Hd (show res=av by rw [HR.out,HPE.out,if_pos k4]);have HCA:=Hd (HAR.out xs wr HWB.out);rw [HAV.out] at HCA
       go_wp2_with fail
       refine HCA.out.mono ?_;rintro e w9 ⟨rfl,hb9⟩;have HB9:=Hd (HWB.out.trans (hb9.mono HWB.out.size));clear hb9
       go_wp2_with fail
       go_ret
       exact⟨ret_boolS HRR.out.symm,HB9.out⟩
      | false=>
       cases k13:(k==13) with
       | true=>
        have HRR:=Hd (show res=(decide (0≤fn) && decide (fn<(i:Int))) by rw [HR.out,HPE.out,if_neg (by rw [k4];simp),if_pos k13]);have HCF:=Hd (HFI.out wr HWB.out)
        go_wp2_with fail
        refine HCF.out.mono ?_;rintro e w9 ⟨rfl,hb9⟩;have HB9:=Hd (HWB.out.trans (hb9.mono HWB.out.size));clear hb9
        by_cases f0:0≤fn
        · have g0:decide (0≤fn)=true:=decide_eq_true f0;rw [g0,Bool.true_and] at HRR
          go_wp2_with fail
          go_ret
          exact⟨ret_boolS HRR.out.symm,HB9.out⟩
        · have g0:decide (0≤fn)=false:=decide_eq_false f0;rw [g0,Bool.false_and] at HRR
          go_wp2_with fail
          go_ret
          exact⟨ret_boolS HRR.out.symm,HB9.out⟩
       | false=>
        have HRR:=Hd (show res=!(k==17) by rw [HR.out,HPE.out,if_neg (by rw [k4];simp),if_neg (by rw [k13];simp)]);have hk17:(k != 17)=!(k==17):=rfl
        go_wp2_with fail
        go_ret
        exact⟨ret_boolS HRR.out.symm,HWB.out⟩
end
section
open Go.RowKit Go.Sort Go.BigFrame
theorem ret_intS{a b:Int}(h:a=b):Ending.returned (.int .i64 a)=.returned (.int .i64 b):=by rw [h]
theorem eqS_hit{p:Pg}{i j k:Nat}(hk:k<((ndAt p i).eqs[j]?.getD default).ns.length) (hn:∀ a,a<k→nameS (ndAt p i) j ((ndAt p i).eqs[j]?.getD default).ns a=0) (h:nameS (ndAt p i) j ((ndAt p i).eqs[j]?.getD default).ns k≠0):
 eqS p i j=nameS (ndAt p i) j ((ndAt p i).eqs[j]?.getD default).ns k:=by
 unfold eqS;rw [firstF_hit hk hn h,if_neg h]
theorem eqS_parts{p:Pg}{i j:Nat}(hn:∀ a,a<((ndAt p i).eqs[j]?.getD default).ns.length→nameS (ndAt p i) j ((ndAt p i).eqs[j]?.getD default).ns a=0):
 eqS p i j=if(partsX ((ndAt p i).eqs[j]?.getD default).x).all (partS p i)=true then 0 else 5:=by
 unfold eqS;rw [firstF_no hn,if_pos rfl]
theorem any_take_no{s:ByteArray}{ns:List ByteArray}{k:Nat}(hk:k≤ns.length) (h:∀ a,a<k→((ns[a]?.getD ByteArray.empty).toList==s.toList)=false):(ns.take k).any (nmB s)=false:=by
 rw [List.any_eq_false];intro x hx;obtain⟨a,ha,rfl⟩:=List.getElem_of_mem hx;rw [List.length_take] at ha;have:=h a (by omega);rw [List.getElem?_eq_getElem (by omega),Lib.toList_data,Lib.toList_data] at this;rw [List.getElem_take]
 simpa [nmB] using this
theorem any_take_yes{s:ByteArray}{ns:List ByteArray}{k a:Nat}(hk:k≤ns.length) (ha:a<k) (h:((ns[a]?.getD ByteArray.empty).toList==s.toList)=true):(ns.take k).any (nmB s)=true:=by
 refine List.any_eq_true.2 ⟨ns[a],?_,?_⟩
 · rw [List.mem_take_iff_getElem];exact⟨a,by omega,rfl⟩
 · rw [List.getElem?_eq_getElem (by omega),Lib.toList_data,Lib.toList_data] at h;exact h
theorem refEq15(p:Pg) (E:Option Addr) (ec:Nat) (N:Option Addr) (nc:Nat) (i j:Nat) (w:World) (h:rdP w p E N) (hi:i<p.ns.length) (hj:j<(ndAt p i).eqs.length) (hn:(ndAt p i).all.length≤1000) (hq:FewQ (ndAt p i)) (hx:sizeX ((ndAt p i).eqs[j]?.getD default).x≤1000000):
 Calls Tryz.prog 73 #[.agg (pgA p E ec N nc),.int .i64 i,.int .i64 j] w fun e w'=>e=.returned (.int .i64 (eqS p i j))∧Below w.heap.size w w':=by
 have HF:=Hd fun w1 hw=>pg_facts w p E ec N nc w1 hw h;obtain⟨bn,on,A1,c1,A2,c2,A3,c3,A4,c4,e0,hbn,hrn,d0,d1,d2,d3,d4⟩:=nd_at15 h.2 hi;subst e0;rw [show(p.ns[i]?.getD default)=ndAt p i from rfl] at hrn d0 d1 d2 d3 d4;have HIS:=Hd fun s w1 (a:Below w.heap.size w w1)=>refIs15 (ndAt p i) A1 c1 A2 c2 A3 c3 A4 c4 s w1 (hrn.below a) hn;have HIN:=Hd fun s w1 (a:Below w.heap.size w w1)=>refInput15 (ndAt p i) A1 c1 A2 c2 A3 c3 A4 c4 s w1 (hrn.below a);have HDF:=Hd fun s w1 (a:Below w.heap.size w w1)=>refDefined15 (ndAt p i) A1 c1 A2 c2 A3 c3 A4 c4 s j w1 (hrn.below a) (Nat.le_of_lt hj) hq;have HPT:=Hd fun x A ca B cb w1 (a:Below w.heap.size w w1) (r:rdX w1 x A B)=>refPart15 p E ec (some ⟨bn,on,none⟩) nc i x A ca B cb w1 (h.below a) hi r hn;have HND:=Hd fun w1 (a:Below w.heap.size w w1)=>And.intro ((a.cell (p:=⟨bn,on+i*5,none⟩) hbn).trans d0) (And.intro ((a.cell (p:=⟨bn,on+i*5+1,none⟩) hbn).trans d1) (And.intro ((a.cell (p:=⟨bn,on+i*5+2,none⟩) hbn).trans d2) (And.intro ((a.cell (p:=⟨bn,on+i*5+3,none⟩) hbn).trans d3) ((a.cell (p:=⟨bn,on+i*5+4,none⟩) hbn).trans d4))));have HNF:=Hd fun w1 w2 hw (a:Below w.heap.size w w1)=>nd_facts w1 (ndAt p i) A1 c1 A2 c2 A3 c3 A4 c4 w2 hw (hrn.below a);obtain⟨bq,oq,e1,hbq,hcq⟩:=RdS.at_ hrn.2.2.2 (by omega);obtain⟨AN,cN,AA,cA,AB,cB,r1,r2,g0,g1,g2,g3,g4,g5,g6⟩:=(hcq j hj).seven;subst e1;have HQD:=Hd fun w1 (a:Below w.heap.size w w1)=>And.intro ((a.cell (p:=⟨bq,oq+j*7,none⟩) hbq).trans g0) (And.intro ((a.cell (p:=⟨bq,oq+j*7+1,none⟩) hbq).trans g1) (And.intro ((a.cell (p:=⟨bq,oq+j*7+2,none⟩) hbq).trans g2) (And.intro ((a.cell (p:=⟨bq,oq+j*7+3,none⟩) hbq).trans g3) (And.intro ((a.cell (p:=⟨bq,oq+j*7+4,none⟩) hbq).trans g4) (And.intro ((a.cell (p:=⟨bq,oq+j*7+5,none⟩) hbq).trans g5) ((a.cell (p:=⟨bq,oq+j*7+6,none⟩) hbq).trans g6))))));have HQF:=Hd fun w1 w2 hw (a:Below w.heap.size w w1)=>qn_facts w1 ((ndAt p i).eqs[j]?.getD default) AN cN AA cA AB cB w2 hw (r1.below a) (r2.below a);have HNM:=Hd fun w1 (a:Below w.heap.size w w1)=>r1.below a;have HPA:=Hd fun w1 (a:Below w.heap.size w w1)=>refParts ((ndAt p i).eqs[j]?.getD default).x AA cA AB cB w w1 r2 a hx;have HEH:=Hd fun k hk hn h=>eqS_hit (p:=p) (i:=i) (j:=j) (k:=k) hk hn h;have HEP:=Hd fun hn=>eqS_parts (p:=p) (i:=i) (j:=j) hn;have HPL:=Hd (partsX_len ((ndAt p i).eqs[j]?.getD default).x);have hmx:=RdS.max h.2;have hmq:=RdS.max hrn.2.2.2;have hml:=r1.max;have hnl:=r1.len;have HDL:=Hd fun s=>defN_le (s:=s) hq j;have hq1:=hq.1
 clear h hrn hn d0 d1 d2 d3 d4 hcq r1 r2 g0 g1 g2 g3 g4 g5 g6 hx hq;generalize eqS p i j=res at *;unfold pgA at HF HPT ⊢;unfold ndA at HIS HIN HDF HNF;unfold qnA at HQF;unfold exA at HPT HPA;have HNS:=Hd (show ∀ k,nameS (ndAt p i) j ((ndAt p i).eqs[j]?.getD default).ns k=if isV (ndAt p i) ((((ndAt p i).eqs[j]?.getD default).ns)[k]?.getD ByteArray.empty)=false then 5 else if(inputS (ndAt p i) ((((ndAt p i).eqs[j]?.getD default).ns)[k]?.getD ByteArray.empty) || decide (0<defN (ndAt p i) ((((ndAt p i).eqs[j]?.getD default).ns)[k]?.getD ByteArray.empty) j))=true then 6 else if(((ndAt p i).eqs[j]?.getD default).ns.take k).any (nmB ((((ndAt p i).eqs[j]?.getD default).ns)[k]?.getD ByteArray.empty))=true then 6 else 0 from fun k=>rfl);generalize nameS (ndAt p i) j ((ndAt p i).eqs[j]?.getD default).ns=nS at *;generalize hqq:(ndAt p i).eqs[j]?.getD default=q at *;clear hqq;generalize hyy:ndAt p i=y at *;clear hyy;generalize hpn:p.ns.length=pn at *;generalize hqn:y.eqs.length=nq at *;generalize hnn:q.ns.length=nn at *
 go_enter Tryz.func73,Tryz.ntmps73
 go_upto_region 1 with(fail)
 generalize hw1:w.alloc _=w1;obtain⟨hb1,hg1,hr1,hcell1⟩:=HF.out w1 hw1;have q1:=hcell1 w1 (Below.refl _ _) 1;simp only [Ya,Yb,Yc] at q1;have HB1:=Hd hb1;have HC1:=Hd hcell1;obtain⟨d0,d1,d2,d3,d4⟩:=HND.out w1 hb1;have hii:(i:Int)<(pn:Int):=by omega
 have hi0:(0:Int)≤(i:Int):=by omega
 have hmi:i≤9223372036854775807:=by omega
 have hjj:(j:Int)<(nq:Int):=by omega
 have hj0:(0:Int)≤(j:Int):=by omega
 clear hw1 hcell1 hb1 hr1 HF hg1
 go_upto_region 2 with(fail)
 generalize hw2:w1.alloc _=w2;obtain⟨hb2,hg2,-,hcell2⟩:=HNF.out w1 w2 hw2 HB1.out;have HB2:=Hd (HB1.out.trans (hb2.mono HB1.out.size));have HC12:=Hd fun W (b:Below w2.heap.size w2 W) j=>HC1.out W (hb2.trans (b.mono hb2.size)) j;have n4:=hcell2 w2 (Below.refl _ _) 4;simp only [Ya,Yb,Yc] at n4;have HC2:=Hd hcell2;obtain⟨g0,g1,g2,g3,g4,g5,g6⟩:=HQD.out w2 HB2.out;clear hw2 hcell2 hb2 hg2 HNF HND d0 d1 d2 d3 d4 q1 HC1
 go_upto_region 3 with(fail)
 generalize hw3:w2.alloc _=w3;obtain⟨hb3,hg3,-,-,hcell3⟩:=HQF.out w2 w3 hw3 HB2.out;have HB3:=Hd (HB2.out.trans (hb3.mono HB2.out.size));have HP1:=Hd fun W (b:Below w3.heap.size w3 W) j=>HC12.out W (hb3.trans (b.mono hb3.size)) j;have HN1:=Hd fun W (b:Below w3.heap.size w3 W) j=>HC2.out W (hb3.trans (b.mono hb3.size)) j;have HQ1:=Hd hcell3;clear hw3 hcell3 hb3 hg3 HQF HQD g0 g1 g2 g3 g4 g5 g6 n4 HC12 HC2
 go_wp2_with fail
 go_loopw [9] (fun c wr=>∃ k:Nat,k≤nn∧c=.int .i64 k∧(∀ a,a<k→nS a=0)∧Below w3.heap.size w3 wr) (fun c _=>nn-(intOf c).toNat)
 case atStart=>exact⟨0,Nat.zero_le _,rfl,fun a ha=>absurd ha (by omega),Below.refl _ _⟩
 case round=>
  obtain⟨k,hk,rfl,hto,hbr⟩:=hrel;have HTO:=Hd hto;have HBR:=Hd hbr;have HWB:=Hd (HB3.out.trans (hbr.mono HB3.out.size));have x0:=HQ1.out wr hbr 0;obtain⟨n0,n1,n2,n3,n4,-⟩:=Sx (HN1.out wr hbr);simp only [Ya,Yb,Yc] at x0 n0 n1 n2 n3 n4;clear hto hbr
  by_cases hlt:k<nn
  · obtain⟨b5,o5,rfl,hb5,hat⟩:=(HNM.out wr HWB.out).at_ (i:=k) hlt;have a0:=hat k hlt;have HNK:=Hd (HNS.out k);have HEK:=Hd (HEH.out k hlt HTO.out);have HST:=Hd fun hz=>to_next (P:=fun a=>nS a=0) HTO.out hz;have HATK:=Hd fun W (b:Below wr.heap.size wr W)=>(HNM.out W (HWB.out.trans (b.mono HWB.out.size)));have HAC:=Hd fun W (b:Below wr.heap.size wr W)=>(b.cell (p:=⟨b5,o5+k,none⟩) hb5).trans a0;have HDFK:=Hd fun W b=>HDF.out (q.ns[k]?.getD ByteArray.empty) W b;have hkn2:k≤q.ns.length:=by omega
    clear hat;generalize hnm:q.ns[k]?.getD ByteArray.empty=nm at *;have HNMM:=Hd hnm;clear hnm;generalize hiv:isV y nm=iv at *;have HIV:=Hd hiv;clear hiv;generalize hinp:inputS y nm=inp at *;have HINP:=Hd hinp;clear hinp;generalize hdf:defN y nm j=df at *;clear hdf;generalize hsk:nS k=sk at *;clear hsk;have HCI:=Hd fun W (b:Below wr.heap.size wr W)=>HIS.out nm W (HWB.out.trans (b.mono HWB.out.size));rw [HIV.out] at HCI
    go_upto_region 6 with(fail)
    have HBG:=Hd fun d os=>below_regrown wr d os;have l0:=fun d os=>cell_regrown n0 d os;have l1:=fun d os=>cell_regrown n1 d os;have l2:=fun d os=>cell_regrown n2 d os;have l3:=fun d os=>cell_regrown n3 d os;have l4:=fun d os=>cell_regrown n4 d os;have lx:=fun d os=>cell_regrown x0 d os;have la:=fun d os=>cell_regrown a0 d os;have cA:=fun d os=>Calls.regrown_of (HCI.out (grow (redrawn wr d) os) (below_regrown wr d os));refine wp_region_quiet_below (by kernel_rfl) (by kernel_rfl) ?_
    repeat (go_big_quiet_step (with_reducible exact cA _ _))
    refine wpQuiet_nil ?_;intro _ hw3;obtain⟨⟨dq3,osq3⟩,hw33⟩:=hw3;have hbr3:=HBG.out dq3 osq3;rw [← hw33] at hbr3;clear cA l0 l1 l2 l3 l4 lx la hw33
    rename_i w4
    have HB4:=Hd (HBR.out.trans (hbr3.mono HBR.out.size));have HWR4:=Hd hbr3;clear hbr3;have HA4:=Hd fun W (b:Below w4.heap.size w4 W)=>HAC.out W (HWR4.out.trans (b.mono HWR4.out.size));have HW4:=Hd (HB3.out.trans (HB4.out.mono HB3.out.size));clear x0 n0 n1 n2 n3 n4 a0
    cases iv with
    | false=>
     have HR:=Hd (show res=5 by
      have h5:sk=5:=by rw [HNK.out,if_pos rfl]
      rw [HEK.out (by rw [h5];decide),h5])
     go_wp2_with fail
     go_ret
     exact⟨ret_intS HR.out.symm,HW4.out⟩
    | true=>
     have a0:=HA4.out w4 (Below.refl _ _);have x0:=HQ1.out w4 HB4.out 0;obtain⟨n0,n1,n2,n3,n4,-⟩:=Sx (HN1.out w4 HB4.out);simp only [Ya,Yb,Yc] at x0 n0 n1 n2 n3 n4;have HCB:=Hd fun W (b:Below w4.heap.size w4 W)=>HIN.out nm W (HW4.out.trans (b.mono HW4.out.size));have HCC:=Hd fun W (b:Below w4.heap.size w4 W)=>HDFK.out W (HW4.out.trans (b.mono HW4.out.size));rw [HINP.out] at HCB
     go_upto_region 8 with(fail)
     cases inp with
     | true=>
      have HBG:=Hd fun d os=>below_regrown w4 d os;have l0:=fun d os=>cell_regrown n0 d os;have l1:=fun d os=>cell_regrown n1 d os;have l2:=fun d os=>cell_regrown n2 d os;have l3:=fun d os=>cell_regrown n3 d os;have l4:=fun d os=>cell_regrown n4 d os;have l5:=fun d os=>cell_regrown x0 d os;have l6:=fun d os=>cell_regrown a0 d os;have cB:=fun d os=>Calls.regrown_of (HCB.out (grow (redrawn w4 d) os) (below_regrown w4 d os));refine wp_region_quiet_below (by kernel_rfl) (by kernel_rfl) ?_
      repeat (go_big_quiet_step (first | with_reducible exact cB _ _))
      refine wpQuiet_nil ?_;intro _ hw3;obtain⟨⟨dq3,osq3⟩,hw33⟩:=hw3;have hbr3:=HBG.out dq3 osq3;rw [← hw33] at hbr3;clear l0 l1 l2 l3 l4 l5 l6 cB hw33
      rename_i w5
      have HB5:=Hd (HW4.out.trans (hbr3.mono HW4.out.size));clear hbr3 x0 n0 n1 n2 n3 n4 a0
      have HR:=Hd (show res=6 by
       have h5:sk=6:=by rw [HNK.out];rfl
       rw [HEK.out (by rw [h5];decide),h5])
      go_wp2_with fail
      go_ret
      exact⟨ret_intS HR.out.symm,HB5.out⟩
     | false=>
      have HBG:=Hd fun d os=>below_regrown w4 d os;have l0:=fun d os=>cell_regrown n0 d os;have l1:=fun d os=>cell_regrown n1 d os;have l2:=fun d os=>cell_regrown n2 d os;have l3:=fun d os=>cell_regrown n3 d os;have l4:=fun d os=>cell_regrown n4 d os;have l5:=fun d os=>cell_regrown x0 d os;have l6:=fun d os=>cell_regrown a0 d os;have cB:=fun d os=>Calls.regrown_of (HCB.out (grow (redrawn w4 d) os) (below_regrown w4 d os));have cC:=fun d os=>Calls.regrown_of (HCC.out (grow (redrawn w4 d) os) (below_regrown w4 d os));refine wp_region_quiet_below (by kernel_rfl) (by kernel_rfl) ?_
      repeat (go_big_quiet_step (first | with_reducible exact cB _ _ | with_reducible exact cC _ _))
      refine wpQuiet_nil ?_;intro _ hw3;obtain⟨⟨dq3,osq3⟩,hw33⟩:=hw3;have hbr3:=HBG.out dq3 osq3;rw [← hw33] at hbr3;clear l0 l1 l2 l3 l4 l5 l6 cB cC hw33
      rename_i w5
      have HWR5:=Hd (HWR4.out.trans (hbr3.mono HWR4.out.size));have HB5:=Hd (HB4.out.trans (hbr3.mono HB4.out.size));have HW5:=Hd (HW4.out.trans (hbr3.mono HW4.out.size));clear hbr3 x0 n0 n1 n2 n3 n4 a0
      by_cases hd:0<df
      · have dd:decide ((0:Int)<(df:Int))=true:=decide_eq_true (by omega)
        have HR:=Hd (show res=6 by
         have h5:sk=6:=by rw [HNK.out,decide_eq_true hd];rfl
         rw [HEK.out (by rw [h5];decide),h5])
        go_wp2_with fail
        go_ret
        exact⟨ret_intS HR.out.symm,HW5.out⟩
      · have dd:decide ((0:Int)<(df:Int))=false:=decide_eq_false (by omega);have HNK2:=Hd (show sk=if(q.ns.take k).any (nmB nm)=true then 6 else 0 by rw [HNK.out,decide_eq_false hd];rfl)
        go_wp2_with fail
        generalize wr=wo at *
        go_loopw [10] (fun c wr=>∃ m:Nat,m≤k∧c=.int .i64 m∧(∀ a,a<m→((q.ns[a]?.getD ByteArray.empty).toList==nm.toList)=false)∧Below w5.heap.size w5 wr) (fun c _=>k-(intOf c).toNat)
        case atStart=>exact⟨0,Nat.zero_le _,rfl,fun a ha=>absurd ha (by omega),Below.refl _ _⟩
        case round=>
         obtain⟨m,hm,rfl,hto2,hbr2⟩:=hrel;have HTO2:=Hd hto2;have HWR6:=Hd (HWR5.out.trans (hbr2.mono HWR5.out.size));have HBR6:=Hd hbr2;have HB6:=Hd (HB5.out.trans (hbr2.mono HB5.out.size));clear hto2 hbr2
         by_cases hmk:m<k
         · obtain⟨b6,o6,e6,hb6,hat6⟩:=(HATK.out wr HWR6.out).at_ (i:=m) (by omega);have a1:=hat6 m (by omega);have a0:=hat6 k hlt;rw [HNMM.out] at a0;injection e6 with e6;injection e6 with e6 e7 _;subst e6 e7;have x0:=HQ1.out wr HB6.out 0;simp only [List.getElem?_toArray,List.getElem?_cons_zero] at x0;have HNX2:=Hd fun hz=>to_next (P:=fun a=>((q.ns[a]?.getD ByteArray.empty).toList==nm.toList)=false) HTO2.out hz;have HYES:=Hd fun hz=>any_take_yes (s:=nm) (ns:=q.ns) (k:=k) (a:=m) (by omega) hmk hz;have hms:(m:Int)<(nn:Int):=by omega
           have hks:(k:Int)<(nn:Int):=by omega
           have hm0:(0:Int)≤(m:Int):=by omega
           have hk0:(0:Int)≤(k:Int):=by omega
           clear hat6;generalize q.ns[m]?.getD ByteArray.empty=am at *
           go_upto_region 13 with(fail)
           have HBG:=Hd fun d os=>below_regrown wr d os;have l0:=fun d os=>cell_regrown x0 d os;have l1:=fun d os=>cell_regrown a0 d os;have l2:=fun d os=>cell_regrown a1 d os;refine wp_region_quiet_below (by kernel_rfl) (by kernel_rfl) ?_
           repeat (go_big_quiet_step (fail))
           refine wpQuiet_nil ?_;intro _ hw3;obtain⟨⟨dq3,osq3⟩,hw33⟩:=hw3;have hbr3:=HBG.out dq3 osq3;rw [← hw33] at hbr3;clear l0 l1 l2 hw33
           rename_i w7
           have HB7:=Hd (HBR6.out.trans (hbr3.mono HBR6.out.size));clear hbr3 x0 a0 a1
           cases hx:(am.toList==nm.toList) with
           | true=>
            have HR:=Hd (show res=6 by
             have h5:sk=6:=by rw [HNK2.out,if_pos (HYES.out hx)]
             rw [HEK.out (by rw [h5];decide),h5])
            go_wp2_with fail
            go_ret
            exact⟨ret_intS HR.out.symm,HW5.out.trans (HB7.out.mono HW5.out.size)⟩
           | false=>
            have HN2:=Hd (HNX2.out hx)
            go_wp2_with fail
            go_roundw
            case rel=>exact⟨m+1,by omega,by go_num,HN2.out,HB7.out⟩
            case measure=>simp [intOf];omega
         · have hmk2:m=k:=by omega
           subst hmk2;have HZ:=Hd (HST.out (by rw [HNK2.out,any_take_no (by omega) HTO2.out];rfl))
           go_wp2_with fail
           go_roundw
           case rel=>exact⟨m+1,by omega,by go_num,HZ.out,HB6.out⟩
           case measure=>simp [intOf];omega
  · have hkn:k=nn:=by omega
    subst hkn;have HEX:=Hd (HEP.out HTO.out);obtain⟨-,x1,x2,x3,x4,x5⟩:=Sx (HQ1.out wr HBR.out);have x6:=HQ1.out wr HBR.out 6;simp only [Ya,Yb,Yc] at x1 x2 x3 x4 x5 x6;have HCP:=Hd (HPA.out wr HWB.out);unfold PartsAt at HCP;clear n0 n1 n2 n3 n4
    go_wp2_with fail
    refine HCP.out.mono ?_;rintro e w5 ⟨AP,cP,cs,rfl,hcel,hfl,hb5,-⟩;have HW5:=Hd (HWB.out.trans (hb5.mono HWB.out.size));have HB5:=Hd (HBR.out.trans (hb5.mono HBR.out.size));have HRP:=Hd (hcel.rd hfl HW5.out);have hpm:=hcel.2.1;clear hcel hfl hb5 x0 x1 x2 x3 x4 x5 x6 HCP;generalize hpl:sizeX q.x=np at *;generalize partsX q.x=ps at *
    go_wp2_with fail
    generalize wr=wo at *
    go_loopw [12] (fun c wr=>∃ m:Nat,m≤np∧c=.int .i64 m∧(ps.take m).all (partS p i)=true∧Below w5.heap.size w5 wr) (fun c _=>np-(intOf c).toNat)
    case atStart=>exact⟨0,Nat.zero_le _,rfl,by simp,Below.refl _ _⟩
    case round=>
     obtain⟨m,hm,rfl,hto2,hbr2⟩:=hrel;have HTO2:=Hd hto2;have HB6:=Hd (HB5.out.trans (hbr2.mono HB5.out.size));have HW6:=Hd (HW5.out.trans (hbr2.mono HW5.out.size));have HBR6:=Hd hbr2;have HRD:=Hd (HRP.out.below hbr2);clear hto2 hbr2
     by_cases hmt:m<np
     · have hml2:m<ps.length:=by rw [HPL.out];exact hmt
       obtain⟨b6,o6,rfl,hb6,hat6⟩:=HRD.out.at_ hmt;obtain⟨pA,pca,pB,pcb,hrg,hrd⟩:=hat6 m hmt;obtain⟨z0,z1,z2,z3,z4,z5⟩:=rangeAt_six hrg;have y0:=HP1.out wr HB6.out 0;have y1:=HP1.out wr HB6.out 1;simp only [Ya,Yb,Yc] at y0 y1;have HAS:=Hd (all_take_step (f:=partS p i) HTO2.out hml2);have HAN:=Hd (all_at_no (f:=partS p i) hml2);have HCA:=Hd fun W (b:Below wr.heap.size wr W)=>HPT.out (ps[m]?.getD default) pA pca pB pcb W (HW6.out.trans (b.mono HW6.out.size)) (hrd.below b);have hms:(m:Int)<(np:Int):=by omega
       have hm0:(0:Int)≤(m:Int):=by omega
       clear hat6 hrg hrd;generalize partS p i (ps[m]?.getD default)=bm at *;generalize ps[m]?.getD default=pe at *
       go_upto_region 19 with(fail)
       have HBG:=Hd fun d os=>below_regrown wr d os;have l0:=fun d os=>cell_regrown y0 d os;have l1:=fun d os=>cell_regrown y1 d os;have l2:=fun d os=>cell_regrown z0 d os;have l3:=fun d os=>cell_regrown z1 d os;have l4:=fun d os=>cell_regrown z2 d os;have l5:=fun d os=>cell_regrown z3 d os;have l6:=fun d os=>cell_regrown z4 d os;have l7:=fun d os=>cell_regrown z5 d os;have cA:=fun d os=>Calls.regrown_of (HCA.out (grow (redrawn wr d) os) (below_regrown wr d os));refine wp_region_quiet_below (by kernel_rfl) (by kernel_rfl) ?_
       repeat (go_big_quiet_step (first | with_reducible exact cA _ _))
       refine wpQuiet_nil ?_;intro _ hw3;obtain⟨⟨dq3,osq3⟩,hw33⟩:=hw3;have hbr3:=HBG.out dq3 osq3;rw [← hw33] at hbr3;clear l0 l1 l2 l3 l4 l5 l6 l7 cA hw33
       rename_i w7
       have HB7:=Hd (HBR6.out.trans (hbr3.mono HBR6.out.size));clear hbr3 y0 y1 z0 z1 z2 z3 z4 z5
       cases bm with
       | true=>
        have HS2:=Hd (HAS.out rfl)
        go_wp2_with fail
        go_roundw
        case rel=>exact⟨m+1,by omega,by go_num,HS2.out,HB7.out⟩
        case measure=>simp [intOf];omega
       | false=>
        have HR:=Hd (show res=5 by rw [HEX.out,HAN.out rfl];rfl)
        go_wp2_with fail
        go_ret
        exact⟨ret_intS HR.out.symm,HW5.out.trans (HB7.out.mono HW5.out.size)⟩
     · have hmn:m=np:=by omega
       have HR:=Hd (show res=0 by
        have h1:=HTO2.out;rw [List.take_of_length_le (by rw [HPL.out];omega)] at h1;rw [HEX.out,h1];rfl)
       go_wp2_with fail
       go_ret
       exact⟨ret_intS HR.out.symm,HW6.out⟩
end
section
open Go.RowKit
abbrev T3:=Int × Int × Int
def tyD(d:Dc):T3:=(d.k,d.e,d.l)
def dcTy(o:Option Dc):T3:=(o.map tyD).getD (0,0,0)
def optT(o:Option Int):Option T3:=o.map fun k=>(k,0,0)
def litT(es:List En) (x:Ex):Option (T3 × Int):=
 if(x.k==1)=true then some ((1,0,0),x.n)
 else if(x.k==2)=true then some ((2,0,0),x.n)
 else if(x.k==5)=true then some ((1,0,0),wrap64 (-(subX x 0).n))
 else(armR es x.s).map fun r=>((r.1,r.2.1,0),r.2.2)
def arrT(es:List En) (l:List Ex):Nat→Option (List Int × T3)
 | 0=>some ([],(0,0,0))
 | k+1=>match arrT es l k with
  | none=>none
  | some r=>match litT es (l[k]?.getD default) with
   | none=>none
   | some t=>if 0<k∧¬ t.1=r.2 then none else some (r.1++[t.2],t.1)
def constT(es:List En) (x:Ex):Option (List Int × T3):=
 if(rightX x && constX x)=false then none
 else if(x.k==14)=true then(arrT es x.subs x.subs.length).map fun r=>(r.1,(r.2.1,r.2.2.1,(x.subs.length:Int)))
 else(litT es x).map fun r=>([r.2],r.1)
def truthT(t:T3):Bool:=decide (t=(2,0,0))
def wholeT(t:T3):Bool:=decide (t=(1,0,0))
def oneT(t:T3):T3:=(t.1,t.2.1,0)
def atT(l:List T3) (i:Nat):T3:=l[i]?.getD (0,0,0)
def allT(l:List T3):Bool:=l.all fun t=>decide (t=atT l 0)
def armsT(es:List En) (t:T3) (arms:List ByteArray):Bool:=
 if truthT t=true then decide (arms.length=2) && (((arms[0]?.getD ByteArray.empty).toList==[116,114,117,101]) && ((arms[1]?.getD ByteArray.empty).toList==[102,97,108,115,101]))
 else decide (t.1=3) && (decide (t.2.2=0) && sameT arms (csE es t.2.1.toNat))
def callT(p:Pg) (x:Ex) (ts:List T3):Option Nat:=
 if findN p x.s<0 then none
 else if ¬ ((ts.length:Int)-x.n=((ndAt p (findN p x.s).toNat).ins.length:Int)) then none
 else if(x.n==1 && !truthT (atT ts (ts.length-1)))=true then none
 else if(List.range (ndAt p (findN p x.s).toNat).ins.length).all (fun k=>decide (tyD ((ndAt p (findN p x.s).toNat).ins[k]?.getD default)=atT ts k))=true then some (findN p x.s).toNat else none
def flowT(p:Pg) (i:Nat) (x:Ex) (ts:List T3):Option T3:=
 if(x.k==9)=true then(if atT ts 0=atT ts 1 then some (atT ts 0) else none)
 else if(x.k==10)=true then some (atT ts 0)
 else if(x.k==11)=true then
  match declO (ndAt p i) x.s with
  | none=>none
  | some d=>match armR p.es (x.arms[0]?.getD ByteArray.empty) with
   | none=>none
   | some r=>if((r.1,r.2.1,0):T3)=tyD d then some (atT ts 0) else none
 else if(x.k==12)=true then
  match declO (ndAt p i) x.s with
  | none=>none
  | some d=>if(allT ts && armsT p.es (tyD d) x.arms)=true then some (atT ts 0) else none
 else match callT p x ts with
  | none=>none
  | some j=>if(ndAt p j).outs.length=1 then some (tyD ((ndAt p j).outs[0]?.getD default)) else none
def plainT(x:Ex) (ts:List T3):Option T3:=
 if(x.k==5)=true then optT (unTyI x.op (atT ts 0).1 (atT ts 0).2.1 (atT ts 0).2.2)
 else if(x.k==6)=true then optT (binTyI x.op (isP 1 (atT ts 0).1 (atT ts 0).2.1 (atT ts 0).2.2 && isP 1 (atT ts 1).1 (atT ts 1).2.1 (atT ts 1).2.2)
  (isP 2 (atT ts 0).1 (atT ts 0).2.1 (atT ts 0).2.2 && isP 2 (atT ts 1).1 (atT ts 1).2.1 (atT ts 1).2.2) (sameB (atT ts 0).1 (atT ts 0).2.1 (atT ts 0).2.2 (atT ts 1).1 (atT ts 1).2.1 (atT ts 1).2.2))
 else if(x.k==7)=true then(if(truthT (atT ts 0) && decide (atT ts 1=atT ts 2))=true then some (atT ts 1) else none)
 else if(x.k==14)=true then(if(allT ts && decide ((atT ts 0).2.2=0))=true then some ((atT ts 0).1,(atT ts 0).2.1,(ts.length:Int)) else none)
 else if(x.k==15)=true then(if(decide (0<(atT ts 0).2.2) && wholeT (atT ts 1))=true then some (oneT (atT ts 0)) else none)
 else if(decide (0<(atT ts 0).2.2) && (wholeT (atT ts 1) && decide (atT ts 2=oneT (atT ts 0))))=true then some (atT ts 0) else none
def seqO{α:Type}:List (Option α)→Option (List α)
 | []=>some []
 | none::_=>none
 | some a::l=>(seqO l).map (a::·)
def ofT(p:Pg) (i:Nat) (x:Ex) (l:List (Option T3)):Option T3:=
 if(x.k==1 || x.k==2 || x.k==4)=true then(constT p.es x).map (·.2)
 else if(x.k==3)=true then(declO (ndAt p i) x.s).map tyD
 else if(x.k==8)=true then
  match constT p.es (subX x 0) with
  | none=>none
  | some c=>match l[1]?.getD none with
   | none=>none
   | some u=>if c.2=u then some u else none
 else if(x.k==17)=true then none
 else match seqO l with
  | none=>none
  | some ts=>if(decide (9≤x.k) && decide (x.k≤13))=true then flowT p i x ts else plainT x ts
mutual
def typX(p:Pg) (i:Nat):Ex→Option T3
 | .mk k n s op arms subs=>ofT p i (.mk k n s op arms subs) (typL p i subs)
def typL(p:Pg) (i:Nat):List Ex→List (Option T3)
 | []=>[]
 | x::l=>typX p i x::typL p i l
end
theorem typL_eq(p:Pg) (i:Nat):∀ l,typL p i l=l.map (typX p i)
 | []=>by simp only [typL,List.map_nil]
 | x::l=>by simp only [typL,List.map_cons,typL_eq p i l]
theorem typX_eq(p:Pg) (i:Nat) (x:Ex):typX p i x=ofT p i x (x.subs.map (typX p i)):=by
 cases x
 simp only [typX,typL_eq,Ex.subs]
def typOf(p:Pg) (i:Int) (x:Ex):Option T3:=if i<0∨(p.ns.length:Int)≤i then none else typX p i.toNat x
theorem seqO_len{α:Type}:∀ {l:List (Option α)}{ts:List α},seqO l=some ts→ts.length=l.length
 | [],ts,h=>by injection h with h;subst h;rfl
 | none::l,ts,h=>by cases h
 | some a::l,ts,h=>by
  simp only [seqO,Option.map_eq_some_iff] at h;obtain⟨t,h1,rfl⟩:=h
  simp [seqO_len h1]
theorem seqO_take{α:Type} [Inhabited α]:∀ {l:List (Option α)}{ts:List α}{k:Nat},k<l.length→seqO (l.take k)=some ts→∀ {a:α},l[k]?.getD none=some a→seqO (l.take (k+1))=some (ts++[a])
 | [],ts,k,hk,_,_,_=>by simp at hk
 | o::l,ts,0,_,h,a,ha=>by
  simp only [List.take_zero,seqO] at h;injection h with h;subst h;have ha:o=some a:=by simpa using ha
  subst ha
  simp [seqO]
 | none::l,ts,k+1,_,h,a,ha=>by simp [seqO] at h
 | some b::l,ts,k+1,hk,h,a,ha=>by
  simp only [List.take_succ_cons,seqO,Option.map_eq_some_iff] at h;obtain⟨t,h1,rfl⟩:=h;have:=seqO_take (l:=l) (by simpa using hk) h1 (a:=a) (by simpa using ha);rw [List.take_succ_cons];simp only [seqO];rw [this]
  simp
theorem seqO_none{α:Type}:∀ {l:List (Option α)}{k:Nat},k<l.length→l[k]?.getD none=none→seqO l=none
 | [],k,hk,_=>by simp at hk
 | none::l,0,_,_=>rfl
 | some b::l,0,_,h=>by simp at h
 | none::l,k+1,_,_=>rfl
 | some b::l,k+1,hk,h=>by
  have:=seqO_none (l:=l) (k:=k) (by simpa using hk) (by simpa using h);simp only [seqO,this,Option.map_none]
end
end Go.Proofs.YtegjgiofmpolnaaGreat
