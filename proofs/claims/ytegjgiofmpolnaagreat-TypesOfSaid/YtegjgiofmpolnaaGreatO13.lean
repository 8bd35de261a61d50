/- Parts of the proof: ScF, ScG, TpA, TpC, TpD, ScP, ScN. Conditions: each theorem's own. -/
import Derived.Test.YtegjgiofmpolnaaGreatO12
namespace Go.Proofs.YtegjgiofmpolnaaGreat
set_option linter.unusedVariables false
set_option linter.unusedSimpArgs false
set_option maxRecDepth 100000
set_option maxHeartbeats 40000000
section
open Go.RowKit Go.Sort Go.BigFrame
def flV(f:Fl):Value:=.agg (f3A f.1 f.2.1 f.2.2)
theorem nodeS_on{p:Pg}{i:Nat}(h:(ndAt p i).all.all (onS p (ndAt p i))=false):nodeS p i=((i:Int),-1,5):=by
 unfold nodeS;rw [if_pos h]
theorem eqF_zero{p:Pg}{i j:Nat}(h:eqS p i j=0):eqF p i j=(0,0,0):=by
 unfold eqF;rw [if_pos h]
theorem eqF_ne{p:Pg}{i j:Nat}(h:eqS p i j≠0):eqF p i j=((i:Int),(j:Int),eqS p i j)∧eqF p i j≠(0,0,0):=by
 have h1:eqF p i j=((i:Int),(j:Int),eqS p i j):=by unfold eqF;rw [if_neg h]
 refine⟨h1,fun e=>?_⟩;rw [h1] at e;injection e with _ e;injection e with _ e;exact h e
theorem nodeS_eq{p:Pg}{i k:Nat}(h:(ndAt p i).all.all (onS p (ndAt p i))=true) (hk:k<(ndAt p i).eqs.length) (hn:∀ a,a<k→eqS p i a=0) (he:eqS p i k≠0):nodeS p i=((i:Int),(k:Int),eqS p i k):=by
 unfold nodeS;obtain⟨h1,h2⟩:=eqF_ne he;rw [if_neg (by rw [h];simp),firstF_hit (f:=eqF p i) hk (fun a ha=>eqF_zero (hn a ha)) h2,if_neg h2,h1]
theorem nodeS_def{p:Pg}{i:Nat}(h:(ndAt p i).all.all (onS p (ndAt p i))=true) (hn:∀ a,a<(ndAt p i).eqs.length→eqS p i a=0):
 nodeS p i=if((ndAt p i).all.drop (ndAt p i).ins.length).all (fun d=>decide (0<defN (ndAt p i) d.nm (ndAt p i).eqs.length))=true then(0,0,0) else((i:Int),-1,5):=by
 unfold nodeS;rw [if_neg (by rw [h];simp),firstF_no (f:=eqF p i) fun a ha=>eqF_zero (hn a ha),if_pos rfl]
theorem drop_all_no{α:Type} [Inhabited α] {f:α→Bool}{l:List α}{m k:Nat}(hm:m≤k) (hk:k<l.length) (hf:f (l[k]?.getD default)=false):(l.drop m).all f=false:=by
 rw [List.all_eq_false];refine⟨l[k],?_,?_⟩
 · rw [List.mem_drop_iff_getElem];exact⟨k-m,by omega,by congr 1;omega⟩
 · rw [List.getElem?_eq_getElem hk,Option.getD_some] at hf;rw [hf]
   simp
theorem drop_all_yes{α:Type} [Inhabited α] {f:α→Bool}{l:List α}{m:Nat}(h:∀ k,m≤k→k<l.length→f (l[k]?.getD default)=true):(l.drop m).all f=true:=by
 rw [List.all_eq_true];intro x hx;rw [List.mem_drop_iff_getElem] at hx;obtain⟨k,hk,rfl⟩:=hx;have:=h (m+k) (by omega) (by omega);rwa [List.getElem?_eq_getElem (by omega),Option.getD_some] at this
theorem refNode15(p:Pg) (E:Option Addr) (ec:Nat) (N:Option Addr) (nc:Nat) (i:Nat) (w:World) (h:rdP w p E N) (hi:i<p.ns.length) (hn:(ndAt p i).all.length≤1000) (hq:FewQ (ndAt p i)) (hx:∀ j,j<(ndAt p i).eqs.length→sizeX ((ndAt p i).eqs[j]?.getD default).x≤1000000):
 Calls Tryz.prog 39 #[.agg (pgA p E ec N nc),.int .i64 i] w fun e w'=>e=.returned (flV (nodeS p i))∧Below w.heap.size w w':=by
 have HF:=Hd fun w1 hw=>pg_facts w p E ec N nc w1 hw h;obtain⟨bn,on,A1,c1,A2,c2,A3,c3,A4,c4,e0,hbn,hrn,d0,d1,d2,d3,d4⟩:=nd_at15 h.2 hi;subst e0;rw [show(p.ns[i]?.getD default)=ndAt p i from rfl] at hrn d0 d1 d2 d3 d4;have HIS:=Hd fun s w1 (a:Below w.heap.size w w1)=>refIs15 (ndAt p i) A1 c1 A2 c2 A3 c3 A4 c4 s w1 (hrn.below a) hn;have HAR:=Hd fun s w1 (a:Below w.heap.size w w1)=>refArmP15 p E ec (some ⟨bn,on,none⟩) nc s w1 (h.below a);have HDF:=Hd fun s w1 (a:Below w.heap.size w w1)=>refDefined15 (ndAt p i) A1 c1 A2 c2 A3 c3 A4 c4 s (ndAt p i).eqs.length w1 (hrn.below a) (Nat.le_refl _) hq;have HEQ:=Hd fun j (hj:j<(ndAt p i).eqs.length) w1 (a:Below w.heap.size w w1)=>refEq15 p E ec (some ⟨bn,on,none⟩) nc i j w1 (h.below a) hi hj hn hq (hx j hj);have HAL:=Hd fun w1 (a:Below w.heap.size w w1)=>refAllD (ndAt p i) A1 c1 A2 c2 A3 c3 A4 c4 w1 (hrn.below a) hn;have HFT:=Hd refFault;have HND:=Hd fun w1 (a:Below w.heap.size w w1)=>And.intro ((a.cell (p:=⟨bn,on+i*5,none⟩) hbn).trans d0) (And.intro ((a.cell (p:=⟨bn,on+i*5+1,none⟩) hbn).trans d1) (And.intro ((a.cell (p:=⟨bn,on+i*5+2,none⟩) hbn).trans d2) (And.intro ((a.cell (p:=⟨bn,on+i*5+3,none⟩) hbn).trans d3) ((a.cell (p:=⟨bn,on+i*5+4,none⟩) hbn).trans d4))));have HNF:=Hd fun w1 w2 hw (a:Below w.heap.size w w1)=>nd_facts w1 (ndAt p i) A1 c1 A2 c2 A3 c3 A4 c4 w2 hw (hrn.below a);have HON:=Hd fun h=>nodeS_on (p:=p) (i:=i) h;have HNE:=Hd fun k h hk hn he=>nodeS_eq (p:=p) (i:=i) (k:=k) h hk hn he;have HNDF:=Hd fun h hn=>nodeS_def (p:=p) (i:=i) h hn;have HDL:=Hd fun s=>defN_le (s:=s) hq (ndAt p i).eqs.length;have hmx:=RdS.max h.2;have hmq:=RdS.max hrn.2.2.2;have hmi1:=RdS.max hrn.1;have hq1:=hq.1;have hai:(ndAt p i).ins.length≤(ndAt p i).all.length:=by rw [all_len];omega
 have HOS:=Hd (show ∀ d,onS p (ndAt p i) d=((d.on.toList==[]) || (isV (ndAt p i) d.on && armV p.es d.ct)) from fun d=>rfl);clear h hrn d0 d1 d2 d3 d4 hx hq;generalize nodeS p i=res at *;generalize onS p (ndAt p i)=onB at *;unfold pgA at HF HAR HEQ ⊢;unfold ndA at HIS HDF HNF HAL;generalize hyy:ndAt p i=y at *;clear hyy;generalize eqS p i=eS at *;generalize hpn:p.ns.length=pn at *;generalize hqn:y.eqs.length=nq at *;generalize hin:y.ins.length=n1 at *;generalize hal:y.all.length=na at *;generalize hys:y.all=ys at *;clear hys
 go_enter Tryz.func39,Tryz.ntmps39
 go_upto_region 1 with(fail)
 generalize hw1:w.alloc _=w1;obtain⟨hb1,hg1,hr1,hcell1⟩:=HF.out w1 hw1;generalize hw2:w1.alloc _=w2;obtain⟨hb2,hR2,hg2⟩:=f3_box hw2;simp only [hg1] at hR2;have HR2:=Hd hR2;have HB2:=Hd (hb1.trans (hb2.mono hb1.size));have q1:=hcell1 w2 hb2 1;simp only [Ya,Yb,Yc] at q1;have HC2:=Hd fun W (b:Below w2.heap.size w2 W) j=>hcell1 W (hb2.trans (b.mono hb2.size)) j;obtain⟨d0,d1,d2,d3,d4⟩:=HND.out w2 HB2.out;have hii:(i:Int)<(pn:Int):=by omega
 have hi0:(0:Int)≤(i:Int):=by omega
 have hmi:i≤9223372036854775807:=by omega
 clear hw1 hw2 hcell1 hb1 hb2 hr1 HF hg2 hR2
 go_upto_region 2 with(fail)
 generalize hw3:w2.alloc _=w3;obtain⟨hb3,hg3,-,hcell3⟩:=HNF.out w2 w3 hw3 HB2.out;have HB3:=Hd (HB2.out.trans (hb3.mono HB2.out.size));have HR3:=Hd (HR2.out.below hb3);have HC3:=Hd fun W (b:Below w3.heap.size w3 W) j=>HC2.out W (hb3.trans (b.mono hb3.size)) j;have n0:=hcell3 w3 (Below.refl _ _) 0;have n1c:=hcell3 w3 (Below.refl _ _) 1;obtain⟨-,-,n2,n3,n4,-⟩:=Sx (hcell3 w3 (Below.refl _ _));simp only [Ya,Yb,Yc] at n0 n1c n2 n3 n4;have HN3:=Hd hcell3;have HCA:=Hd (HAL.out w3 HB3.out);unfold DeclsPost at HCA;clear hw3 hcell3 hb3 hg3 HNF HND d0 d1 d2 d3 d4 q1 HC2 HR2
 go_wp2_with fail
 refine HCA.out.mono ?_;rintro e w4 ⟨AD,cD,rfl,hrd,hb4⟩;have HB4:=Hd (HB3.out.trans (hb4.mono HB3.out.size));have HR4:=Hd (HR3.out.below hb4);have HP4:=Hd fun W (b:Below w4.heap.size w4 W) j=>HC3.out W (hb4.trans (b.mono hb4.size)) j;have HN4:=Hd fun W (b:Below w4.heap.size w4 W) j=>HN3.out W (hb4.trans (b.mono hb4.size)) j;have HD4:=Hd hrd;have hyl:=RdS.len hrd;have hym:=RdS.max hrd;clear hrd hb4 n0 n1c n2 n3 n4 HCA HC3 HN3 HR3
 go_wp2_with fail
 go_loopw [7] (fun c wr=>∃ k:Nat,k≤na∧c=.int .i64 k∧(ys.take k).all onB=true∧Below w4.heap.size w4 wr) (fun c _=>na-(intOf c).toNat)
 case atStart=>exact⟨0,Nat.zero_le _,rfl,by simp,Below.refl _ _⟩
 case round=>
  obtain⟨k,hk,rfl,hto,hbr⟩:=hrel;have HTO:=Hd hto;have HBR:=Hd hbr;have HWB:=Hd (HB4.out.trans (hbr.mono HB4.out.size));have HRR:=Hd (HR4.out.below hbr);clear hto
  by_cases hlt:k<na
  · obtain⟨b5,o5,rfl,hb5,hat⟩:=RdS.at_ (HD4.out.below hbr) (by omega);obtain⟨z0,z1,z2,z3,z4,z5⟩:=(hat k hlt).six;have HAS:=Hd (all_take_step (f:=onB) (l:=ys) (k:=k) HTO.out (by omega));have HAN:=Hd (all_at_no (f:=onB) (l:=ys) (k:=k) (by omega));have HOK:=Hd (HOS.out (ys[k]?.getD default));obtain⟨n0,n1,n2,n3,n4,-⟩:=Sx (HN4.out wr hbr);have y0:=HP4.out wr hbr 0;have y1:=HP4.out wr hbr 1;simp only [Ya,Yb,Yc] at n0 n1 n2 n3 n4 y0 y1;have hks:(k:Int)<(na:Int):=by omega
    have hk0:(0:Int)≤(k:Int):=by omega
    clear hat hbr;generalize onB (ys[k]?.getD default)=ob at *;generalize (ys[k]?.getD default).on=on5 at *;generalize (ys[k]?.getD default).ct=ct5 at *;generalize hiv:isV y on5=iv at *;generalize hav:armV p.es ct5=av at *;have HCI:=Hd fun W (b:Below wr.heap.size wr W)=>HIS.out on5 W (HWB.out.trans (b.mono HWB.out.size));have HCR:=Hd fun W (b:Below wr.heap.size wr W)=>HAR.out ct5 W (HWB.out.trans (b.mono HWB.out.size));rw [hiv] at HCI;rw [hav] at HCR;clear hiv hav;have hne:(on5.toList != [])=!(on5.toList==[]):=rfl
    go_upto_region 6 with(fail)
    cases ho:(on5.toList==[]) with
    | true=>
     rw [ho] at hne;have HT:=Hd (HAS.out (by rw [HOK.out,ho];rfl));have HBG:=Hd fun d os=>below_regrown wr d os;have l0:=fun d os=>cell_regrown n0 d os;have l1:=fun d os=>cell_regrown n1 d os;have l2:=fun d os=>cell_regrown n2 d os;have l3:=fun d os=>cell_regrown n3 d os;have l4:=fun d os=>cell_regrown n4 d os;have l5:=fun d os=>cell_regrown y0 d os;have l6:=fun d os=>cell_regrown y1 d os;have l7:=fun d os=>cell_regrown z4 d os;have l8:=fun d os=>cell_regrown z5 d os;have cA:=fun d os=>Calls.regrown_of (HCI.out (grow (redrawn wr d) os) (below_regrown wr d os));refine wp_region_quiet_below (by kernel_rfl) (by kernel_rfl) ?_
     repeat (go_big_quiet_step (first | with_reducible exact cA _ _))
     refine wpQuiet_nil ?_;intro _ hw3;obtain⟨⟨dq3,osq3⟩,hw33⟩:=hw3;have hbr3:=HBG.out dq3 osq3;rw [← hw33] at hbr3;clear l0 l1 l2 l3 l4 l5 l6 l7 l8 cA hw33
     rename_i w7
     have HB7:=Hd (HBR.out.trans (hbr3.mono HBR.out.size));clear hbr3 z0 z1 z2 z3 z4 z5 n0 n1 n2 n3 n4 y0 y1
     go_wp2_with fail
     go_roundw
     case rel=>exact⟨k+1,by omega,by go_num,HT.out,HB7.out⟩
     case measure=>simp [intOf];omega
    | false=>
     rw [ho] at hne
     cases iv with
     | false=>
      have HBG:=Hd fun d os=>below_regrown wr d os;have l0:=fun d os=>cell_regrown n0 d os;have l1:=fun d os=>cell_regrown n1 d os;have l2:=fun d os=>cell_regrown n2 d os;have l3:=fun d os=>cell_regrown n3 d os;have l4:=fun d os=>cell_regrown n4 d os;have l5:=fun d os=>cell_regrown y0 d os;have l6:=fun d os=>cell_regrown y1 d os;have l7:=fun d os=>cell_regrown z4 d os;have l8:=fun d os=>cell_regrown z5 d os;have cA:=fun d os=>Calls.regrown_of (HCI.out (grow (redrawn wr d) os) (below_regrown wr d os));refine wp_region_quiet_below (by kernel_rfl) (by kernel_rfl) ?_
      repeat (go_big_quiet_step (first | with_reducible exact cA _ _))
      refine wpQuiet_nil ?_;intro _ hw3;obtain⟨⟨dq3,osq3⟩,hw33⟩:=hw3;have hbr3:=HBG.out dq3 osq3;rw [← hw33] at hbr3;clear l0 l1 l2 l3 l4 l5 l6 l7 l8 cA hw33
      rename_i w7
      have HB7:=Hd (HWB.out.trans (hbr3.mono HWB.out.size));have HR7:=Hd (HRR.out.below hbr3);clear hbr3 z0 z1 z2 z3 z4 z5 n0 n1 n2 n3 n4 y0 y1;have HR:=Hd (show res=((i:Int),-1,5) from HON.out (HAN.out (by rw [HOK.out,ho];rfl)))
      go_wp2_with fail
      refine(HFT.out (i) (-1) (5) w7).mono ?_;rintro e wz ⟨rfl,hbz⟩;have HRZ:=Hd ((HR7.out).below hbz);have HBZ:=Hd ((HB7.out).trans (hbz.mono (HB7.out).size));clear hbz
      go_wp2_with (refine wpList_store_row rfl _ _ _ rfl (w.heap.size+1) _ rfl rfl _ _ HRZ.out fl_info rfl (by simp [f3A,Value.oneCell']) ?_)
      exact bodyPost_ret (res_f3 (p:=4) rfl _ _ (w.heap.size+1) (i) (-1) (5) rfl (HRZ.out.set _ _ _)) rfl ⟨by rw [HR.out];rfl,below_setRow HBZ.out (Nat.le_succ _) _⟩
     | true=>
      cases av with
      | true=>
       have HT:=Hd (HAS.out (by rw [HOK.out,ho];rfl));have HBG:=Hd fun d os=>below_regrown wr d os;have l0:=fun d os=>cell_regrown n0 d os;have l1:=fun d os=>cell_regrown n1 d os;have l2:=fun d os=>cell_regrown n2 d os;have l3:=fun d os=>cell_regrown n3 d os;have l4:=fun d os=>cell_regrown n4 d os;have l5:=fun d os=>cell_regrown y0 d os;have l6:=fun d os=>cell_regrown y1 d os;have l7:=fun d os=>cell_regrown z4 d os;have l8:=fun d os=>cell_regrown z5 d os;have cA:=fun d os=>Calls.regrown_of (HCI.out (grow (redrawn wr d) os) (below_regrown wr d os));have cB:=fun d os=>Calls.regrown_of (HCR.out (grow (redrawn wr d) os) (below_regrown wr d os));refine wp_region_quiet_below (by kernel_rfl) (by kernel_rfl) ?_
       repeat (go_big_quiet_step (first | with_reducible exact cA _ _ | with_reducible exact cB _ _))
       refine wpQuiet_nil ?_;intro _ hw3;obtain⟨⟨dq3,osq3⟩,hw33⟩:=hw3;have hbr3:=HBG.out dq3 osq3;rw [← hw33] at hbr3;clear l0 l1 l2 l3 l4 l5 l6 l7 l8 cA cB hw33
       rename_i w7
       have HB7:=Hd (HBR.out.trans (hbr3.mono HBR.out.size));clear hbr3 z0 z1 z2 z3 z4 z5 n0 n1 n2 n3 n4 y0 y1
       go_wp2_with fail
       go_roundw
       case rel=>exact⟨k+1,by omega,by go_num,HT.out,HB7.out⟩
       case measure=>simp [intOf];omega
      | false=>
       have HBG:=Hd fun d os=>below_regrown wr d os;have l0:=fun d os=>cell_regrown n0 d os;have l1:=fun d os=>cell_regrown n1 d os;have l2:=fun d os=>cell_regrown n2 d os;have l3:=fun d os=>cell_regrown n3 d os;have l4:=fun d os=>cell_regrown n4 d os;have l5:=fun d os=>cell_regrown y0 d os;have l6:=fun d os=>cell_regrown y1 d os;have l7:=fun d os=>cell_regrown z4 d os;have l8:=fun d os=>cell_regrown z5 d os;have cA:=fun d os=>Calls.regrown_of (HCI.out (grow (redrawn wr d) os) (below_regrown wr d os));have cB:=fun d os=>Calls.regrown_of (HCR.out (grow (redrawn wr d) os) (below_regrown wr d os));refine wp_region_quiet_below (by kernel_rfl) (by kernel_rfl) ?_
       repeat (go_big_quiet_step (first | with_reducible exact cA _ _ | with_reducible exact cB _ _))
       refine wpQuiet_nil ?_;intro _ hw3;obtain⟨⟨dq3,osq3⟩,hw33⟩:=hw3;have hbr3:=HBG.out dq3 osq3;rw [← hw33] at hbr3;clear l0 l1 l2 l3 l4 l5 l6 l7 l8 cA cB hw33
       rename_i w7
       have HB7:=Hd (HWB.out.trans (hbr3.mono HWB.out.size));have HR7:=Hd (HRR.out.below hbr3);clear hbr3 z0 z1 z2 z3 z4 z5 n0 n1 n2 n3 n4 y0 y1;have HR:=Hd (show res=((i:Int),-1,5) from HON.out (HAN.out (by rw [HOK.out,ho];rfl)))
       go_wp2_with fail
       refine(HFT.out (i) (-1) (5) w7).mono ?_;rintro e wz ⟨rfl,hbz⟩;have HRZ:=Hd ((HR7.out).below hbz);have HBZ:=Hd ((HB7.out).trans (hbz.mono (HB7.out).size));clear hbz
       go_wp2_with (refine wpList_store_row rfl _ _ _ rfl (w.heap.size+1) _ rfl rfl _ _ HRZ.out fl_info rfl (by simp [f3A,Value.oneCell']) ?_)
       exact bodyPost_ret (res_f3 (p:=4) rfl _ _ (w.heap.size+1) (i) (-1) (5) rfl (HRZ.out.set _ _ _)) rfl ⟨by rw [HR.out];rfl,below_setRow HBZ.out (Nat.le_succ _) _⟩
  · have hkn:k=na:=by omega
    subst hkn
    have HALL:=Hd (show ys.all onB=true by
     have h1:=HTO.out;rwa [List.take_of_length_le (by omega)] at h1)
    clear hbr;generalize wr=wo at *
    go_wp2_with fail
    go_loopw [8] (fun c wr=>∃ m:Nat,m≤nq∧c=.int .i64 m∧(∀ a,a<m→eS a=0)∧Below w4.heap.size w4 wr) (fun c _=>nq-(intOf c).toNat)
    case atStart=>exact⟨0,Nat.zero_le _,rfl,fun a ha=>absurd ha (by omega),HBR.out⟩
    case round=>
     obtain⟨m,hm,rfl,hto2,hbr2⟩:=hrel;have HTO2:=Hd hto2;have HBR2:=Hd hbr2;have HWB2:=Hd (HB4.out.trans (hbr2.mono HB4.out.size));have HRR2:=Hd (HR4.out.below hbr2);have n4:=HN4.out wr hbr2 4;have n1c:=HN4.out wr hbr2 1;have y0:=HP4.out wr hbr2 0;have y1:=HP4.out wr hbr2 1;simp only [Ya,Yb,Yc] at n4 n1c y0 y1;clear hto2 hbr2
     by_cases hmt:m<nq
     · have HCE:=Hd (HEQ.out m hmt wr HWB2.out);have HNX:=Hd fun hz=>to_next (P:=fun a=>eS a=0) HTO2.out hz;have HNK:=Hd fun he=>HNE.out m HALL.out hmt HTO2.out he;generalize eS m=em at *
       go_wp2_with fail
       refine HCE.out.mono ?_;rintro e w7 ⟨rfl,hb7⟩;have HB7:=Hd (HWB2.out.trans (hb7.mono HWB2.out.size));have HBR7:=Hd (HBR2.out.trans (hb7.mono HBR2.out.size));have HR7:=Hd (HRR2.out.below hb7);clear hb7 n4 n1c y0 y1 HCE
       by_cases hz:em=0
       · have HN2:=Hd (HNX.out hz);have hzb:(em != 0)=false:=by rw [hz];rfl
         go_wp2_with fail
         go_roundw
         case rel=>exact⟨m+1,by omega,by go_num,HN2.out,HBR7.out⟩
         case measure=>simp [intOf];omega
       · have HR:=Hd (show res=((i:Int),(m:Int),em) from HNK.out hz);have hzb:(em != 0)=true:=by rw [bne_iff_ne];exact hz
         go_wp2_with fail
         refine(HFT.out (i) (m) (em) w7).mono ?_;rintro e wz ⟨rfl,hbz⟩;have HRZ:=Hd ((HR7.out).below hbz);have HBZ:=Hd ((HB7.out).trans (hbz.mono (HB7.out).size));clear hbz
         go_wp2_with (refine wpList_store_row rfl _ _ _ rfl (w.heap.size+1) _ rfl rfl _ _ HRZ.out fl_info rfl (by simp [f3A,Value.oneCell']) ?_)
         exact bodyPost_ret (res_f3 (p:=4) rfl _ _ (w.heap.size+1) (i) (m) (em) rfl (HRZ.out.set _ _ _)) rfl ⟨by rw [HR.out];rfl,below_setRow HBZ.out (Nat.le_succ _) _⟩
     · have hmn:m=nq:=by omega
       subst hmn;have HNDD:=Hd (HNDF.out HALL.out HTO2.out);generalize wr=wo2 at *
       go_wp2_with fail
       go_loopw [10] (fun c wr=>∃ u:Nat,n1≤u∧u≤k∧c=.int .i64 u∧(∀ a,n1≤a→a<u→0<defN y (ys[a]?.getD default).nm m)∧Below w4.heap.size w4 wr) (fun c _=>k-(intOf c).toNat)
       case atStart=>exact⟨n1,Nat.le_refl _,by omega,rfl,fun a h1 h2=>absurd h1 (by omega),HBR2.out⟩
       case round=>
        obtain⟨u,hu1,hu,rfl,hto3,hbr3⟩:=hrel;have HTO3:=Hd hto3;have HBR3:=Hd hbr3;have HWB3:=Hd (HB4.out.trans (hbr3.mono HB4.out.size));have HRR3:=Hd (HR4.out.below hbr3)
        by_cases hut:u<k
        · obtain⟨b5,o5,rfl,hb5,hat⟩:=RdS.at_ (HD4.out.below hbr3) (by omega);obtain⟨z0,z1,z2,z3,z4,z5⟩:=(hat u hut).six;have n0:=HN4.out wr hbr3 0;have m1:=HN4.out wr hbr3 1;obtain⟨-,-,n2,n3,n4,-⟩:=Sx (HN4.out wr hbr3);simp only [Ya,Yb,Yc] at n0 m1 n2 n3 n4;have hks:(u:Int)<(k:Int):=by omega
          have hk0:(0:Int)≤(u:Int):=by omega
          have HDD:=Hd fun W (b:Below wr.heap.size wr W)=>HDF.out (ys[u]?.getD default).nm W (HWB3.out.trans (b.mono HWB3.out.size))
          have HNO:=Hd fun(h0:defN y (ys[u]?.getD default).nm m=0)=>(show res=((i:Int),-1,5) by
           rw [HNDD.out,drop_all_no (k:=u) hu1 (by omega) (by rw [h0];rfl)];rfl)
          have HYES:=Hd fun(h0:0<defN y (ys[u]?.getD default).nm m)=>(show ∀ a,n1≤a→a<u+1→0<defN y (ys[a]?.getD default).nm m from fun a h1 h2=>by
           by_cases ha:a<u
           · exact HTO3.out a h1 ha
           · obtain rfl:a=u:=by omega
             exact h0)
          clear hat hbr3 hto3;generalize hdu:defN y (ys[u]?.getD default).nm m=du at *;clear hdu;generalize (ys[u]?.getD default).nm=nm5 at *
          go_upto_region 17 with(fail)
          have HBG:=Hd fun d os=>below_regrown wr d os;have l0:=fun d os=>cell_regrown n0 d os;have l1:=fun d os=>cell_regrown m1 d os;have l2:=fun d os=>cell_regrown n2 d os;have l3:=fun d os=>cell_regrown n3 d os;have l4:=fun d os=>cell_regrown n4 d os;have l5:=fun d os=>cell_regrown z0 d os;have cA:=fun d os=>Calls.regrown_of (HDD.out (grow (redrawn wr d) os) (below_regrown wr d os));refine wp_region_quiet_below (by kernel_rfl) (by kernel_rfl) ?_
          repeat (go_big_quiet_step (first | with_reducible exact cA _ _))
          refine wpQuiet_nil ?_;intro _ hw3;obtain⟨⟨dq3,osq3⟩,hw33⟩:=hw3;have hbr3:=HBG.out dq3 osq3;rw [← hw33] at hbr3;clear l0 l1 l2 l3 l4 l5 cA hw33
          rename_i w7
          have HB7:=Hd (HWB3.out.trans (hbr3.mono HWB3.out.size));have HBR7:=Hd (HBR3.out.trans (hbr3.mono HBR3.out.size));have HR7:=Hd (HRR3.out.below hbr3);clear hbr3 z0 z1 z2 z3 z4 z5 n0 m1 n2 n3 n4
          by_cases hz:du=0
          · have HR:=Hd (HNO.out hz);have hzb:((du:Int)==0)=true:=by rw [hz];rfl
            go_wp2_with fail
            refine(HFT.out (i) (-1) (5) w7).mono ?_;rintro e wz ⟨rfl,hbz⟩;have HRZ:=Hd ((HR7.out).below hbz);have HBZ:=Hd ((HB7.out).trans (hbz.mono (HB7.out).size));clear hbz
            go_wp2_with (refine wpList_store_row rfl _ _ _ rfl (w.heap.size+1) _ rfl rfl _ _ HRZ.out fl_info rfl (by simp [f3A,Value.oneCell']) ?_)
            exact bodyPost_ret (res_f3 (p:=4) rfl _ _ (w.heap.size+1) (i) (-1) (5) rfl (HRZ.out.set _ _ _)) rfl ⟨by rw [HR.out];rfl,below_setRow HBZ.out (Nat.le_succ _) _⟩
          · have HN2:=Hd (HYES.out (by omega));have hzb:((du:Int)==0)=false:=by rw [beq_eq_false_iff_ne];omega
            go_wp2_with fail
            go_roundw
            case rel=>exact⟨u+1,by omega,by omega,by go_num,HN2.out,HBR7.out⟩
            case measure=>simp [intOf];omega
        · have huk:u=k:=by omega
          subst huk
          have HR:=Hd (show res=(0,0,0) by
           rw [HNDD.out,drop_all_yes (f:=fun d:Dc=>decide (0<defN y d.nm m)) (l:=ys) (m:=n1) fun a h1 h2=>decide_eq_true (hto3 a h1 (by omega))];rfl)
          clear hto3 hbr3
          go_wp2_with (refine wpList_store_row rfl _ _ _ rfl (w.heap.size+1) _ rfl rfl _ _ HRR3.out fl_info rfl (by simp [f3A,Value.oneCell']) ?_)
          exact bodyPost_ret (res_f3 (p:=4) rfl _ _ (w.heap.size+1) 0 0 0 rfl (HRR3.out.set _ _ _)) rfl ⟨by rw [HR.out];rfl,below_setRow HWB3.out (Nat.le_succ _) _⟩
end
section
open Go.RowKit Go.Sort
theorem tiny_few{n:Nd}(h:TinyN n):n.all.length≤1000∧FewQ n∧∀ j,j<n.eqs.length→sizeX (n.eqs[j]?.getD default).x≤1000000:=by
 have h1:=(fewD_ok h.1).2;have h2:=(fewD_ok h.2.1).2;have h3:=(fewD_ok h.2.2.1).2;have h4:=h.2.2.2.1;refine⟨by rw [all_len];omega,⟨by omega,fun q hq=>?_⟩,fun j hj=>tiny_sizeX (h.2.2.2.2.2 j hj).2.1⟩;obtain⟨j,hj,rfl⟩:=List.getElem_of_mem hq;have:=(h.2.2.2.2.2 j hj).1;rw [List.getElem?_eq_getElem hj,Option.getD_some] at this;omega
theorem checkS_hit{p:Pg}{k:Nat}(h0:checkN p=0) (hk:k<p.ns.length) (hn:∀ a,a<k→nodeS p a=(0,0,0)) (h:nodeS p k≠(0,0,0)):checkS p=nodeS p k:=by
 unfold checkS;rw [if_pos h0];exact firstF_hit hk hn h
theorem checkS_no{p:Pg}(h0:checkN p=0) (hn:∀ a,a<p.ns.length→nodeS p a=(0,0,0)):checkS p=(0,0,0):=by
 unfold checkS;rw [if_pos h0];exact firstF_no hn
theorem fl_ne{a b c:Int}(h:¬ ((a,b,c):Fl)=(0,0,0)):(a != 0)=true∨(a=0∧(b != 0)=true)∨(a=0∧b=0∧(c != 0)=true):=by
 by_cases ha:a=0
 · by_cases hb:b=0
   · by_cases hc:c=0
     · subst ha hb hc;exact absurd rfl h
     · exact .inr (.inr ⟨ha,hb,bne_iff_ne.2 hc⟩)
   · exact .inr (.inl ⟨ha,bne_iff_ne.2 hb⟩)
 · exact .inl (bne_iff_ne.2 ha)
theorem refCheck15(p:Pg) (E:Option Addr) (ec:Nat) (N:Option Addr) (nc:Nat) (w:World) (h:rdP w p E N) (ht:TinyP p):
 Calls Tryz.prog 12 #[.agg (pgA p E ec N nc)] w fun e w'=>e=.returned (flV (checkS p))∧Below w.heap.size w w':=by
 have HF:=Hd fun w1 hw=>pg_facts w p E ec N nc w1 hw h;have HCK:=Hd fun w1 (a:Below w.heap.size w w1)=>refCheck p E ec N nc w1 (h.below a) ht;have HNC:=Hd fun i (hi:i<p.ns.length) w1 (a:Below w.heap.size w w1)=>refNode15 p E ec N nc i w1 (h.below a) hi (tiny_few (ht.2.2 i hi)).1 (tiny_few (ht.2.2 i hi)).2.1 (tiny_few (ht.2.2 i hi)).2.2;have HFT:=Hd refFault;have HHIT:=Hd fun k h0 hk hn h=>checkS_hit (p:=p) (k:=k) h0 hk hn h;have HNO:=Hd fun h0 hn=>checkS_no (p:=p) h0 hn;have HBADC:=Hd fun(h0:¬ checkN p=0)=>(show checkS p=(0,-1,checkN p) by unfold checkS;rw [if_neg h0]);have hmx:=RdS.max h.2;clear h ht;generalize checkS p=res at *;generalize checkN p=ck at *;unfold pgA at HF HCK HNC ⊢;unfold flV at HNC;generalize nodeS p=nS at *;generalize hpn:p.ns.length=pn at *
 go_enter Tryz.func12,Tryz.ntmps12
 go_upto_region 1 with(fail)
 generalize hw1:w.alloc _=w1;obtain⟨hb1,hg1,hr1,hcell1⟩:=HF.out w1 hw1;generalize hw2:w1.alloc _=w2;obtain⟨hb2,hR2,hg2⟩:=f3_box hw2;simp only [hg1] at hR2;have HR2:=Hd hR2;have HB2:=Hd (hb1.trans (hb2.mono hb1.size));have HC2:=Hd fun W (b:Below w2.heap.size w2 W) j=>hcell1 W (hb2.trans (b.mono hb2.size)) j;have y0:=HC2.out w2 (Below.refl _ _) 0;have y1:=HC2.out w2 (Below.refl _ _) 1;simp only [Ya,Yb,Yc] at y0 y1;have HCW:=Hd (HCK.out w2 HB2.out);clear hw1 hw2 hcell1 hb1 hb2 hr1 HF hg2 hR2
 go_wp2_with fail
 refine HCW.out.mono ?_;rintro e w3 ⟨rfl,hb3⟩;have HB3:=Hd (HB2.out.trans (hb3.mono HB2.out.size));have HR3:=Hd (HR2.out.below hb3);have HC3:=Hd fun W (b:Below w3.heap.size w3 W) j=>HC2.out W (hb3.trans (b.mono hb3.size)) j;clear hb3 y0 y1 HC2 HCW HR2
 by_cases h0:ck=0
 · have h0b:(ck != 0)=false:=by rw [h0];rfl
   go_wp2_with fail
   go_loopw [4] (fun c wr=>∃ k:Nat,k≤pn∧c=.int .i64 k∧(∀ a,a<k→nS a=(0,0,0))∧Below w3.heap.size w3 wr) (fun c _=>pn-(intOf c).toNat)
   case atStart=>exact⟨0,Nat.zero_le _,rfl,fun a ha=>absurd ha (by omega),Below.refl _ _⟩
   case round=>
    obtain⟨k,hk,rfl,hto,hbr⟩:=hrel;have HTO:=Hd hto;have HBR:=Hd hbr;have HWB:=Hd (HB3.out.trans (hbr.mono HB3.out.size));have HRR:=Hd (HR3.out.below hbr);have y0:=HC3.out wr hbr 0;have y1:=HC3.out wr hbr 1;simp only [Ya,Yb,Yc] at y0 y1;clear hto hbr
    by_cases hlt:k<pn
    · have HCE:=Hd (HNC.out k hlt wr HWB.out);have HNX:=Hd fun hz=>to_next (P:=fun a=>nS a=(0,0,0)) HTO.out hz;have HH:=Hd (HHIT.out k h0 hlt HTO.out);generalize nS k=f at *;obtain⟨fa,fb,fc⟩:=f
      go_wp2_with fail
      refine HCE.out.mono ?_;rintro e w7 ⟨rfl,hb7⟩;have HB7:=Hd (HWB.out.trans (hb7.mono HWB.out.size));have HBR7:=Hd (HBR.out.trans (hb7.mono HBR.out.size));have HR7:=Hd (HRR.out.below hb7);clear hb7 y0 y1 HCE;simp only [f3A]
      go_upto_region 8 with(fail)
      generalize hw8:w7.alloc _=w8;have hb8:Below w7.heap.size w7 w8:=by rw [← hw8];exact(Below.refl _ _).alloc (Nat.le_refl _) _
      have hf8:F3 30 w8 w7.heap.size fa fb fc:=by rw [← hw8];exact F3.new _ _ _ _ _
      obtain⟨z0,z1,z2,-,-,-⟩:=Sx hf8.cell;simp only [f3A,List.getElem?_toArray,List.getElem?_cons_zero,List.getElem?_cons_succ] at z0 z1 z2;have HB8:=Hd (HB7.out.trans (hb8.mono HB7.out.size));have HBR8:=Hd (HBR7.out.trans (hb8.mono HBR7.out.size));have HR8:=Hd (HR7.out.below hb8);clear hw8 hb8 hf8
      by_cases hz:((fa,fb,fc):Fl)=(0,0,0)
      · have HN2:=Hd (HNX.out hz);injection hz with ha hbc;injection hbc with hb hc;subst ha hb hc
        go_wp2_with fail
        go_roundw
        case rel=>exact⟨k+1,by omega,by go_num,HN2.out,HBR8.out⟩
        case measure=>simp [intOf];omega
      · have HR:=Hd (show res=(fa,fb,fc) from HH.out hz);rcases fl_ne hz with ha | ⟨ha,hb⟩|⟨ha,hb,hc⟩
        · have ha2:(fa==0)=false:=by rw [bne_iff_ne] at ha;exact beq_eq_false_iff_ne.2 ha
          clear hz
          go_wp2_with (refine wpList_store_row rfl _ _ _ rfl (w.heap.size+1) _ rfl rfl _ _ HR8.out fl_info rfl (by simp [f3A,Value.oneCell']) ?_)
          exact bodyPost_ret (res_f3 (p:=2) rfl _ _ (w.heap.size+1) fa fb fc rfl (HR8.out.set _ _ _)) rfl ⟨by rw [HR.out];rfl,below_setRow HB8.out (Nat.le_succ _) _⟩
        · have hb2:(fb==0)=false:=by rw [bne_iff_ne] at hb;exact beq_eq_false_iff_ne.2 hb
          subst ha;clear hz
          go_wp2_with (refine wpList_store_row rfl _ _ _ rfl (w.heap.size+1) _ rfl rfl _ _ HR8.out fl_info rfl (by simp [f3A,Value.oneCell']) ?_)
          exact bodyPost_ret (res_f3 (p:=2) rfl _ _ (w.heap.size+1) 0 fb fc rfl (HR8.out.set _ _ _)) rfl ⟨by rw [HR.out];rfl,below_setRow HB8.out (Nat.le_succ _) _⟩
        · have hc2:(fc==0)=false:=by rw [bne_iff_ne] at hc;exact beq_eq_false_iff_ne.2 hc
          subst ha hb;clear hz
          go_wp2_with (refine wpList_store_row rfl _ _ _ rfl (w.heap.size+1) _ rfl rfl _ _ HR8.out fl_info rfl (by simp [f3A,Value.oneCell']) ?_)
          exact bodyPost_ret (res_f3 (p:=2) rfl _ _ (w.heap.size+1) 0 0 fc rfl (HR8.out.set _ _ _)) rfl ⟨by rw [HR.out];rfl,below_setRow HB8.out (Nat.le_succ _) _⟩
    · have hkn:k=pn:=by omega
      subst hkn;have HR:=Hd (HNO.out h0 HTO.out)
      go_wp2_with (refine wpList_store_row rfl _ _ _ rfl (w.heap.size+1) _ rfl rfl _ _ HRR.out fl_info rfl (by simp [f3A,Value.oneCell']) ?_)
      exact bodyPost_ret (res_f3 (p:=2) rfl _ _ (w.heap.size+1) 0 0 0 rfl (HRR.out.set _ _ _)) rfl ⟨by rw [HR.out];rfl,below_setRow HWB.out (Nat.le_succ _) _⟩
 · have h0b:(ck != 0)=true:=by rw [bne_iff_ne];exact h0
   have HR:=Hd (HBADC.out h0)
   go_wp2_with fail
   refine(HFT.out 0 (-1) ck w3).mono ?_;rintro e wz ⟨rfl,hbz⟩;have HRZ:=Hd (HR3.out.below hbz);have HBZ:=Hd (HB3.out.trans (hbz.mono HB3.out.size));clear hbz
   go_wp2_with (refine wpList_store_row rfl _ _ _ rfl (w.heap.size+1) _ rfl rfl _ _ HRZ.out fl_info rfl (by simp [f3A,Value.oneCell']) ?_)
   exact bodyPost_ret (res_f3 (p:=2) rfl _ _ (w.heap.size+1) 0 (-1) ck rfl (HRZ.out.set _ _ _)) rfl ⟨by rw [HR.out];rfl,below_setRow HBZ.out (Nat.le_succ _) _⟩
end
section
open Go.RowKit Go.Sort
theorem t3_cases(a b c a' b' c':Int):(a=a'∧b=b'∧c=c'∧(((a,b,c):T3)=(a',b',c')))∨((a==a')=false∧¬ ((a,b,c):T3)=(a',b',c'))∨(a=a'∧(b==b')=false∧¬ ((a,b,c):T3)=(a',b',c'))∨(a=a'∧b=b'∧(c==c')=false∧¬ ((a,b,c):T3)=(a',b',c')):=by
 by_cases h1:a=a'
 · by_cases h2:b=b'
   · by_cases h3:c=c'
     · exact .inl ⟨h1,h2,h3,by rw [h1,h2,h3]⟩
     · exact .inr (.inr (.inr ⟨h1,h2,by simpa using h3,fun e=>h3 (by injection e with _ e;injection e)⟩))
   · exact .inr (.inr (.inl ⟨h1,by simpa using h2,fun e=>h2 (by injection e with _ e;injection e)⟩))
 · exact .inr (.inl ⟨by simpa using h1,fun e=>h1 (by injection e)⟩)
theorem f3_set{T:TypeId}{W:World}{g:Nat}{a b c:Int}(h:F3 T W g a b c) (x y z:Int):
 ((W.setCell ⟨g,0,none⟩ (.int .i64 x)).setCell ⟨g,1,none⟩ (.int .i64 y)).setCell ⟨g,2,none⟩ (.int .i64 z)=W.setRow g (f3A x y z):=by
 unfold F3 at h;rw [setCell_eq_setRow _ _ _ _ _ _ _ h];have h1:=setRow_heap _ _ _ ((f3A a b c).setIfInBounds 0 (.int .i64 x)) _ _ h;rw [setCell_eq_setRow _ _ _ _ _ _ _ h1,setRow_setRow];have h2:=setRow_heap _ _ _ (((f3A a b c).setIfInBounds 0 (.int .i64 x)).setIfInBounds 1 (.int .i64 y)) _ _ h;rw [setCell_eq_setRow _ _ _ _ _ _ _ h2,setRow_setRow];rfl
theorem f3_out{T:TypeId}{w w2 w4:World}{r:Nat}{a b c x y z:Int}(hT:F3 T w2 r a b c) (hb:Below w.heap.size w w2) (hr:w.heap.size≤r)
 (h:(((w2.setCell ⟨r,0,none⟩ (.int .i64 x)).setCell ⟨r,1,none⟩ (.int .i64 y)).setCell ⟨r,2,none⟩ (.int .i64 z)).drew=w4):F3 T w4 r x y z∧Below w.heap.size w w4:=by
 rw [f3_set hT] at h;subst h;exact⟨hT.set x y z,Below.drew (below_setRow hb hr _)⟩
theorem truth_isP(a b c:Int):truthT (a,b,c)=isP 2 a b c:=by
 unfold truthT isP;rcases t3_cases a b c 2 0 0 with⟨h1,h2,h3,h⟩|⟨h1,h⟩|⟨h1,h2,h⟩|⟨h1,h2,h3,h⟩ <;> simp_all
theorem whole_isP(a b c:Int):wholeT (a,b,c)=isP 1 a b c:=by
 unfold wholeT isP;rcases t3_cases a b c 1 0 0 with⟨h1,h2,h3,h⟩|⟨h1,h⟩|⟨h1,h2,h⟩|⟨h1,h2,h3,h⟩ <;> simp_all
theorem refTruth16(a b c:Int) (w:World):Calls Tryz.prog 104 #[.agg (f3A a b c)] w fun e w'=>e=.returned (.bool (truthT (a,b,c)))∧Below w.heap.size w w':=by
 have HB:=Hd ((Below.refl w.heap.size w).alloc (Nat.le_refl _) (.cells #[.int .i64 a,.int .i64 b,.int .i64 c] 38));have HC3:=Hd (cell3 w 38 (.int .i64 a) (.int .i64 b) (.int .i64 c));rw [truth_isP];unfold f3A;rcases isP_cases 2 a b c with⟨rfl,rfl,rfl,h⟩|⟨h1,h⟩|⟨rfl,h1,h⟩|⟨rfl,rfl,h1,h⟩
 all_goals
  have HH:=Hd h;clear h
  go_enter Tryz.func104,Tryz.ntmps104
  go_upto_region 1 with(fail)
  obtain⟨q0,q1,q2⟩:=HC3.out
  go_wp2_with fail
  go_ret
  exact⟨ret_bool (by rw [HH.out]),HB.out⟩
theorem refWhole16(a b c:Int) (w:World):Calls Tryz.prog 129 #[.agg (f3A a b c)] w fun e w'=>e=.returned (.bool (wholeT (a,b,c)))∧Below w.heap.size w w':=by
 have HB:=Hd ((Below.refl w.heap.size w).alloc (Nat.le_refl _) (.cells #[.int .i64 a,.int .i64 b,.int .i64 c] 38));have HC3:=Hd (cell3 w 38 (.int .i64 a) (.int .i64 b) (.int .i64 c));rw [whole_isP];unfold f3A;rcases isP_cases 1 a b c with⟨rfl,rfl,rfl,h⟩|⟨h1,h⟩|⟨rfl,h1,h⟩|⟨rfl,rfl,h1,h⟩
 all_goals
  have HH:=Hd h;clear h
  go_enter Tryz.func129,Tryz.ntmps129
  go_upto_region 1 with(fail)
  obtain⟨q0,q1,q2⟩:=HC3.out
  go_wp2_with fail
  go_ret
  exact⟨ret_bool (by rw [HH.out]),HB.out⟩
theorem refOne16(a b c:Int) (w:World):Calls Tryz.prog 128 #[.agg (f3A a b c)] w fun e w'=>e=.returned (.agg (f3A a b 0))∧Below w.heap.size w w':=by
 unfold f3A
 go_enter Tryz.func128,Tryz.ntmps128
 go_upto_region 1 with(fail)
 generalize hw0:(w.alloc _).alloc _=w0
 have h1:F3 38 w0 w.heap.size a b c∧F3 38 w0 (w.heap.size+1) 0 0 0∧Below w.heap.size w w0:=by
  subst hw0;refine⟨heap_up _ (heap_alloc_new _ _),?_,((Below.refl _ _).alloc (Nat.le_refl _) _).alloc (by simp) _⟩;have h:=F3.new 38 (w.alloc (.cells (f3A a b c) 38)) 0 0 0;rwa [show(w.alloc (.cells (f3A a b c) 38)).heap.size=w.heap.size+1 by simp] at h
 obtain⟨ha,hb,hbl⟩:=h1;have HB:=Hd hbl;have q2:=ha.cell 2;simp only [f3A,List.getElem?_toArray,List.getElem?_cons_zero,List.getElem?_cons_succ] at q2;have fz:=frozen_of_row w0 w.heap.size 2 _ _ ha;clear hw0
 go_upto_region 2 with(fail)
 generalize hw1:w0.setCell ⟨w.heap.size,2,none⟩ (.int .i64 0)=w1
 have h2:F3 38 w1 w.heap.size a b 0∧F3 38 w1 (w.heap.size+1) 0 0 0∧Below w.heap.size w w1:=by
  rw [← hw1,setCell_eq_setRow _ _ _ _ _ _ _ ha,show(f3A a b c).setIfInBounds 2 (.int .i64 0)=f3A a b 0 from rfl];exact⟨setRow_heap _ _ _ _ _ _ ha,(setRow_other _ _ _ _ (by omega)).trans hb,below_setRow hbl (Nat.le_refl _) _⟩
 obtain⟨ha1,hb1,hbl1⟩:=h2;have HA:=Hd ha1;have HB1:=Hd hb1;have HL:=Hd hbl1;clear ha hb hbl q2 fz hw1 ha1 hb1 hbl1
 go_wp2_with (first | (refine wpList_load_row rfl _ _ rfl w.heap.size rfl _ _ _ _ HA.out Tryz.underlying38 rfl ty3_info ?_) | (refine wpList_store_row rfl _ _ _ rfl (w.heap.size+1) _ rfl rfl _ _ HB1.out ty3_info rfl (by simp [Value.oneCell',f3A]) ?_))
 exact bodyPost_ret (res_ty (p:=2) rfl _ _ (w.heap.size+1) a b 0 rfl (HB1.out.set a b 0)) rfl ⟨rfl,below_setRow HL.out (by omega) _⟩
end
section
open Go.RowKit Go.Sort
theorem ty_box{w w0:World}{T:TypeId}{a b c:Int}(h:w.alloc (.cells (f3A a b c) T)=w0):Below w.heap.size w w0∧F3 T w0 w.heap.size a b c∧w0.heap.size=w.heap.size+1:=by
 subst h;exact⟨(Below.refl _ _).alloc (Nat.le_refl _) _,heap_alloc_new _ _,by simp⟩
theorem F3.three{T:TypeId}{W:World}{g:Nat}{a b c:Int}(h:F3 T W g a b c):W.cell? ⟨g,0,none⟩=some (.int .i64 a)∧W.cell? ⟨g,1,none⟩=some (.int .i64 b)∧W.cell? ⟨g,2,none⟩=some (.int .i64 c):=
 ⟨h.cell 0,h.cell 1,h.cell 2⟩
theorem refArms16(l:Option Addr) (n cc:Nat) (es:List En) (a b c:Int) (S:Option Addr) (m d:Nat) (arms:List ByteArray) (w:World) (hE:RdE w l n es) (hS:RdT w S m arms) (hr:rightB es.length a b c=true):
 Calls Tryz.prog 125 #[.slice l n cc,.agg (f3A a b c),.slice S m d] w fun e w'=>e=.returned (.bool (armsT es (a,b,c) arms))∧Below w.heap.size w w':=by
 have hml:=hS.len;have hmm:=hS.max;have hnl:=hE.len;have hnm:=hE.max;have HBX:=Hd fun w0 h=>ty_box (w:=w) (w0:=w0) (T:=38) (a:=a) (b:=b) (c:=c) h;have HT:=Hd fun w1=>refTruth16 a b c w1;have HSS:=Hd fun w1 (hb:Below w.heap.size w w1)=>hS.below hb;have HEE:=Hd fun w1 (hb:Below w.heap.size w w1)=>hE.below hb;have HR:=Hd hr
 have HA:=Hd (show armsT es (a,b,c) arms=if truthT (a,b,c)=true then decide (arms.length=2) && (((arms[0]?.getD ByteArray.empty).toList==[116,114,117,101]) && ((arms[1]?.getD ByteArray.empty).toList==[102,97,108,115,101]))
  else decide (a=3) && (decide (c=0) && sameT arms (csE es b.toNat)) from rfl)
 clear hE hS hr;generalize armsT es (a,b,c) arms=out at *;generalize truthT (a,b,c)=t at *
 cases t with
 | true=>
  rw [if_pos rfl] at HA;unfold f3A at HBX HT ⊢
  by_cases h2:m=2
  · subst h2;rw [hml] at HA;obtain⟨sb,so,rfl,hsb,hsc⟩:=(HSS.out w (Below.refl _ _)).at_ (i:=0) (by omega);have s0:=hsc 0 (by omega);have s1:=hsc 1 (by omega);generalize arms[0]?.getD ByteArray.empty=x at *;generalize arms[1]?.getD ByteArray.empty=y at *
    go_enter Tryz.func125,Tryz.ntmps125
    go_upto_region 1 with(fail)
    generalize hw0:w.alloc _=w0;obtain⟨hb0,hF,hsz⟩:=HBX.out w0 hw0;have HB0:=Hd hb0;obtain⟨q0,q1,q2⟩:=hF.three;have r0:=(hb0.cell (p:=⟨sb,so+0,none⟩) hsb).trans s0;have r1:=(hb0.cell (p:=⟨sb,so+1,none⟩) hsb).trans s1;rw [Nat.add_zero] at r0;clear hw0 hb0 hF hsz HBX hsc s0 s1
    go_wp2_with fail
    refine(HT.out w0).mono ?_;rintro e w1 ⟨rfl,hb1⟩;have hsb0:sb<w0.heap.size:=Nat.lt_of_lt_of_le hsb HB0.out.size;have HB1:=Hd (HB0.out.trans (hb1.mono HB0.out.size));have r0:=(hb1.cell (p:=⟨sb,so,none⟩) hsb0).trans r0;have r1:=(hb1.cell (p:=⟨sb,so+1,none⟩) hsb0).trans r1;clear hb1 q0 q1 q2
    cases hx:(x.toList==[116,114,117,101]) with
    | false=>
     rw [hx] at HA
     go_wp2_with fail
     go_ret
     exact⟨ret_bool (by rw [HA.out];rfl),HB1.out⟩
    | true=>
     rw [hx] at HA
     cases hy:(y.toList==[102,97,108,115,101]) with
     | false=>
      rw [hy] at HA
      go_wp2_with fail
      go_ret
      exact⟨ret_bool (by rw [HA.out];rfl),HB1.out⟩
     | true=>
      rw [hy] at HA
      go_wp2_with fail
      go_ret
      exact⟨ret_bool (by rw [HA.out];rfl),HB1.out⟩
  · have HN:=Hd (show out=false by rw [HA.out,hml,decide_eq_false h2];rfl);have hne:((m:Int)==2)=false:=by rw [beq_eq_false_iff_ne];omega
    go_enter Tryz.func125,Tryz.ntmps125
    go_upto_region 1 with(fail)
    generalize hw0:w.alloc _=w0;obtain⟨hb0,hF,hsz⟩:=HBX.out w0 hw0;have HB0:=Hd hb0;obtain⟨q0,q1,q2⟩:=hF.three;clear hw0 hb0 hF hsz HBX
    go_wp2_with fail
    refine(HT.out w0).mono ?_;rintro e w1 ⟨rfl,hb1⟩;have HB1:=Hd (HB0.out.trans (hb1.mono HB0.out.size));clear hb1 q0 q1 q2
    go_wp2_with fail
    go_ret
    exact⟨ret_bool HN.out.symm,HB1.out⟩
 | false=>
  rw [if_neg (by simp)] at HA;have HF3:=Hd fun w1 w2 (hF:F3 38 w1 w.heap.size a b c) (hb:Below w1.heap.size w1 w2)=>(hF.below hb).three;unfold f3A at HBX HT ⊢
  by_cases h3:a=3
  · subst h3
    by_cases h0:c=0
    · subst h0
      obtain⟨k,rfl,hk⟩:∃ k:Nat,b=(k:Int)∧k<n:=by
       have h:=HR.out;rw [hnl] at h;unfold rightB at h
       simp at h
       exact⟨b.toNat,by omega,by omega⟩
      obtain⟨eb,eo,rfl,heb,hec⟩:=(HEE.out w (Below.refl _ _)).at_ hk;obtain⟨_,B,nb,cb,e1,hB⟩:=hec k hk;have HBB:=Hd fun w1 (hb:Below w.heap.size w w1)=>hB.below hb;have hbl:=hB.len;have hbm:=hB.max;rw [Int.toNat_natCast] at HA;generalize hcs:csE es k=cs at *;clear hec hB hcs
      go_enter Tryz.func125,Tryz.ntmps125
      go_upto_region 1 with(fail)
      generalize hw0:w.alloc _=w0;obtain⟨hb0,hF,hsz⟩:=HBX.out w0 hw0;have HB0:=Hd hb0;have HFF:=Hd hF;obtain⟨q0,q1,q2⟩:=hF.three;clear hw0 hb0 hF hsz HBX
      go_wp2_with fail
      refine(HT.out w0).mono ?_;rintro e w1 ⟨rfl,hb1⟩;have HB1:=Hd (HB0.out.trans (hb1.mono HB0.out.size));obtain⟨q0,q1,q2⟩:=HF3.out w0 w1 HFF.out hb1;have e1:=(HB1.out.cell (p:=⟨eb,eo+k*2+1,none⟩) heb).trans e1;clear hb1 HFF HF3
      by_cases hmn:m=nb
      · subst hmn;have hne:((m:Int) != (m:Int))=false:=by simp
        have HRS:=Hd (HSS.out w1 HB1.out);have HRB:=Hd (HBB.out w1 HB1.out);have HA:=Hd (show out=sameT arms cs by rw [HA.out];simp);clear HSS HBB HEE HT HR;have hkn:k<n:=hk
        go_wp2_with fail
        go_loopw [7] (fun i wr=>∃ j:Nat,j≤m∧i=.int .i64 j∧sameTo arms cs j∧∃ p,wr=w1.drewN p) (fun i _=>m-(intOf i).toNat)
        case atStart=>exact⟨0,Nat.zero_le _,rfl,fun j hj=>absurd hj (by omega),0,rfl⟩
        case round=>
         obtain⟨j,hj,rfl,hto,p,rfl⟩:=hrel;have HTO:=Hd hto;clear hto
         by_cases hlt:j<m
         · obtain⟨b1,o1,rfl,hb1,hc1⟩:=HRS.out.at_ hlt;obtain⟨b2,o2,rfl,hb2,hc2⟩:=HRB.out.at_ hlt;have u1:=hc1 j hlt;have u2:=hc2 j hlt;have HN:=Hd fun h=>sameTo_succ HTO.out h;have HG:=Hd fun h=>sameT_at (a:=arms) (b:=cs) (k:=j) (by omega) (by omega) h;clear hc1 hc2;generalize arms[j]?.getD ByteArray.empty=x at u1 HN HG;generalize cs[j]?.getD ByteArray.empty=y at u2 HN HG
           by_cases he:(x.toList==y.toList)=true
           · have HN:=Hd (HN.out he);have hxy:(x.toList != y.toList)=false:=by simp only [bne,he];rfl
             go_wp2_with fail
             go_quiet (fail)
             go_wp2_with fail
             go_roundw
             case rel=>exact⟨j+1,by omega,by go_num,HN.out,_,rfl⟩
             case measure=>simp [intOf];omega
           · have he:(x.toList==y.toList)=false:=by simpa using he
             have HG:=Hd (HG.out he);have hxy:(x.toList != y.toList)=true:=by simp only [bne,he];rfl
             go_wp2_with fail
             go_quiet (fail)
             go_wp2_with fail
             go_ret
             exact⟨ret_bool (by rw [HA.out,HG.out]),below_drewN (below_drewN HB1.out _) _⟩
         · have HY:=Hd (sameT_yes (by omega) HTO.out (by omega))
           go_wp2_with fail
           go_ret
           exact⟨ret_bool (by rw [HA.out,HY.out]),below_drewN HB1.out _⟩
      · have HN:=Hd (show out=false by rw [HA.out,sameT_len (by omega)];rfl);have hne:((m:Int) != (nb:Int))=true:=by rw [bne_iff_ne];omega
        go_wp2_with fail
        go_ret
        exact⟨ret_bool HN.out.symm,HB1.out⟩
    · have HN:=Hd (show out=false by rw [HA.out,decide_eq_false h0];rfl);have hne:(c != 0)=true:=by rw [bne_iff_ne];exact h0
      go_enter Tryz.func125,Tryz.ntmps125
      go_upto_region 1 with(fail)
      generalize hw0:w.alloc _=w0;obtain⟨hb0,hF,hsz⟩:=HBX.out w0 hw0;have HB0:=Hd hb0;have HFF:=Hd hF;obtain⟨q0,q1,q2⟩:=hF.three;clear hw0 hb0 hF hsz HBX
      go_wp2_with fail
      refine(HT.out w0).mono ?_;rintro e w1 ⟨rfl,hb1⟩;have HB1:=Hd (HB0.out.trans (hb1.mono HB0.out.size));obtain⟨q0,q1,q2⟩:=HF3.out w0 w1 HFF.out hb1;clear hb1 HFF HF3
      go_wp2_with fail
      go_ret
      exact⟨ret_bool HN.out.symm,HB1.out⟩
  · have HN:=Hd (show out=false by rw [HA.out,decide_eq_false h3];rfl);have hne:(a != 3)=true:=by rw [bne_iff_ne];exact h3
    go_enter Tryz.func125,Tryz.ntmps125
    go_upto_region 1 with(fail)
    generalize hw0:w.alloc _=w0;obtain⟨hb0,hF,hsz⟩:=HBX.out w0 hw0;have HB0:=Hd hb0;have HFF:=Hd hF;obtain⟨q0,q1,q2⟩:=hF.three;clear hw0 hb0 hF hsz HBX
    go_wp2_with fail
    refine(HT.out w0).mono ?_;rintro e w1 ⟨rfl,hb1⟩;have HB1:=Hd (HB0.out.trans (hb1.mono HB0.out.size));obtain⟨q0,q1,q2⟩:=HF3.out w0 w1 HFF.out hb1;clear hb1 HFF HF3
    go_wp2_with fail
    go_ret
    exact⟨ret_bool HN.out.symm,HB1.out⟩
end
section
open Go.RowKit Go.Sort
def tyL3(t:T3):List Value:=[.int .i64 t.1,.int .i64 t.2.1,.int .i64 t.2.2]
def TyAt(w:World) (b o:Nat) (t:T3):Prop:=w.rangeAt b o (tyL3 t)
def RdY(w:World) (A:Option Addr) (n:Nat) (l:List T3):Prop:=RdS 3 TyAt w A n l
theorem keeps_ty:KeepsAt TyAt:=fun h hb hs hk=>rangeAt_keep h hb hk
section
variable {w w':World}{A:Option Addr}{n:Nat}{l:List T3}
theorem RdY.below(h:RdY w A n l) (hb:Below w.heap.size w w'):RdY w' A n l:=RdS.keep keeps_ty h hb.size fun _ hp=>hb.cell hp
theorem RdY.len(h:RdY w A n l):l.length=n:=RdS.len h
theorem RdY.max(h:RdY w A n l):n≤9223372036854775807:=RdS.max h
theorem RdY.at_(h:RdY w A n l){i:Nat}(hi:i<n):∃ b off,A=some ⟨b,off,none⟩∧b<w.heap.size∧∀ i,i<n→w.cell? ⟨b,off+i*3,none⟩=some (.int .i64 (atT l i).1)∧w.cell? ⟨b,off+i*3+1,none⟩=some (.int .i64 (atT l i).2.1)∧w.cell? ⟨b,off+i*3+2,none⟩=some (.int .i64 (atT l i).2.2):=by
 obtain⟨b,off,e,hb,hc⟩:=RdS.at_ h (by omega);exact⟨b,off,e,hb,fun i hi=>⟨hc i hi 0 _ rfl,hc i hi 1 _ rfl,hc i hi 2 _ rfl⟩⟩
end
theorem atT_get{l:List T3}{i:Nat}(h:i<l.length):atT l i=l[i]'h:=by unfold atT;rw [List.getElem?_eq_getElem h,Option.getD_some]
theorem allT_no{l:List T3}{i:Nat}(h:i<l.length) (hn:¬ atT l i=atT l 0):allT l=false:=by
 unfold allT;rw [List.all_eq_false];exact⟨_,List.getElem_mem h,by rw [← atT_get h];simpa using hn⟩
theorem allT_yes{l:List T3}(h:∀ j,j<l.length→atT l j=atT l 0):allT l=true:=by
 unfold allT;rw [List.all_eq_true];intro t ht;obtain⟨j,hj,rfl⟩:=List.getElem_of_mem ht;rw [← atT_get hj]
 simpa using h j hj
theorem refAll16(A:Option Addr) (n c:Nat) (l:List T3) (w:World) (h:RdY w A n l):
 Calls Tryz.prog 124 #[.slice A n c] w fun e w'=>e=.returned (.bool (allT l))∧Below w.heap.size w w':=by
 have hl:=h.len;have hm:=h.max;have HR:=Hd h;have HNO:=Hd fun i hi hn=>allT_no (l:=l) (i:=i) hi hn;have HYS:=Hd fun h=>allT_yes (l:=l) h;clear h;generalize allT l=out at *
 go_enter Tryz.func124,Tryz.ntmps124
 go_wp2_with fail
 go_loopw [3] (fun i wr=>∃ k:Nat,1≤k∧k≤n+1∧i=.int .i64 k∧(∀ j,j<k→j<n→atT l j=atT l 0)∧∃ p,wr=w.drewN p) (fun i _=>n-(intOf i).toNat)
 case atStart=>exact⟨1,by omega,by omega,rfl,fun j hj _=>by rw [show j=0 by omega],0,rfl⟩
 case round=>
  obtain⟨k,hk1,hk,rfl,hto,p,rfl⟩:=hrel;have HTO:=Hd hto;clear hto
  by_cases hlt:k<n
  · obtain⟨b,off,rfl,hb,hc⟩:=HR.out.at_ hlt;obtain⟨c0,c1,c2⟩:=hc k hlt;obtain⟨d0,d1,d2⟩:=hc 0 (by omega);simp only [Nat.zero_mul,Nat.add_zero] at d0 d1 d2;have HN:=Hd (HNO.out k (by omega))
    have HT2:=Hd fun(e:atT l k=atT l 0)=>(show ∀ j,j<k+1→j<n→atT l j=atT l 0 from fun j hj hn=>by
     rcases Nat.lt_or_ge j k with h1 | h1
     · exact HTO.out j h1 hn
     · obtain rfl:j=k:=by omega
       exact e)
    clear hc;generalize hx:atT l k=x at c0 c1 c2 HN HT2;generalize hy:atT l 0=y at d0 d1 d2 HN;obtain⟨x0,x1,x2⟩:=x;obtain⟨y0,y1,y2⟩:=y
    dsimp only at c0 c1 c2 d0 d1 d2
    rw [hy] at HT2;rcases t3_cases x0 x1 x2 y0 y1 y2 with⟨rfl,rfl,rfl,he⟩|⟨h1,he⟩|⟨rfl,h1,he⟩|⟨rfl,rfl,h1,he⟩
    · have HT3:=Hd (HT2.out rfl);clear HT2 HN hx
      go_wp2_with fail
      go_quiet (fail)
      go_wp2_with fail
      go_roundw
      case rel=>exact⟨k+1,by omega,by omega,by go_num,fun j hj hn=>HT3.out j hj hn,_,rfl⟩
      case measure=>simp [intOf];omega
    all_goals
     have HO:=Hd (HN.out he);clear HN HT2 he
     go_wp2_with fail
     go_quiet (fail)
     go_wp2_with fail
     go_ret
     exact⟨ret_bool HO.out.symm,below_drewN (below_drewN (Below.refl _ _) _) _⟩
  · have HY:=Hd (HYS.out fun j hj=>HTO.out j (by omega) (by omega))
    go_wp2_with fail
    go_ret
    exact⟨ret_bool HY.out.symm,below_drewN (Below.refl _ _) _⟩
end
section

end
section

end
end Go.Proofs.YtegjgiofmpolnaaGreat
