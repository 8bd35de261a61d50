/- Parts of the proof: ScF, ScG, ScP, ScN. Conditions: each theorem's own. -/
import Derived.Test.YtpehkppcdlboeaaGreatZ19
namespace Go.Proofs.YtpehkppcdlboeaaGreat
set_option linter.unusedVariables false
set_option linter.unusedSimpArgs false
set_option maxRecDepth 100000
set_option maxHeartbeats 40000000
section
open Go.RowKit Go.Sort Go.BigFrame
def flV(f:Fl):Value:=.agg (f3A f.1 f.2.1 f.2.2)
theorem nodeS_on{p:Pg}{i:Nat}(h:(ndAt p i).all.all (onS p (ndAt p i))=false):nodeS p i=((i:Int),-1,5):=by
 unfold nodeS;rw [if_pos h]
theorem eqF_zero{p:Pg}{i j:Nat}(h:eqS p i j=0):eqF p i j=(0,0,0):=by
 unfold eqF;rw [if_pos h]
theorem eqF_ne{p:Pg}{i j:Nat}(h:eqS p i j≠0):eqF p i j=((i:Int),(j:Int),eqS p i j)∧eqF p i j≠(0,0,0):=by
 have h1:eqF p i j=((i:Int),(j:Int),eqS p i j):=by unfold eqF;rw [if_neg h]
 refine⟨h1,fun e=>?_⟩;rw [h1] at e;injection e with _ e;injection e with _ e;exact h e
theorem nodeS_eq{p:Pg}{i k:Nat}(h:(ndAt p i).all.all (onS p (ndAt p i))=true) (hk:k<(ndAt p i).eqs.length) (hn:∀ a,a<k→eqS p i a=0) (he:eqS p i k≠0):nodeS p i=((i:Int),(k:Int),eqS p i k):=by
 unfold nodeS;obtain⟨h1,h2⟩:=eqF_ne he;rw [if_neg (by rw [h];simp),firstF_hit (f:=eqF p i) hk (fun a ha=>eqF_zero (hn a ha)) h2,if_neg h2,h1]
theorem nodeS_def{p:Pg}{i:Nat}(h:(ndAt p i).all.all (onS p (ndAt p i))=true) (hn:∀ a,a<(ndAt p i).eqs.length→eqS p i a=0):
 nodeS p i=if((ndAt p i).all.drop (ndAt p i).ins.length).all (fun d=>decide (0<defN (ndAt p i) d.nm (ndAt p i).eqs.length))=true then(0,0,0) else((i:Int),-1,5):=by
 unfold nodeS;rw [if_neg (by rw [h];simp),firstF_no (f:=eqF p i) fun a ha=>eqF_zero (hn a ha),if_pos rfl]
theorem drop_all_no{α:Type} [Inhabited α] {f:α→Bool}{l:List α}{m k:Nat}(hm:m≤k) (hk:k<l.length) (hf:f (l[k]?.getD default)=false):(l.drop m).all f=false:=by
 rw [List.all_eq_false];refine⟨l[k],?_,?_⟩
 · rw [List.mem_drop_iff_getElem];exact⟨k-m,by omega,by congr 1;omega⟩
 · rw [List.getElem?_eq_getElem hk,Option.getD_some] at hf;rw [hf]
   simp
theorem drop_all_yes{α:Type} [Inhabited α] {f:α→Bool}{l:List α}{m:Nat}(h:∀ k,m≤k→k<l.length→f (l[k]?.getD default)=true):(l.drop m).all f=true:=by
 rw [List.all_eq_true];intro x hx;rw [List.mem_drop_iff_getElem] at hx;obtain⟨k,hk,rfl⟩:=hx;have:=h (m+k) (by omega) (by omega);rwa [List.getElem?_eq_getElem (by omega),Option.getD_some] at this
theorem refNode15(p:Pg) (E:Option Addr) (ec:Nat) (N:Option Addr) (nc:Nat) (i:Nat) (w:World) (h:rdP w p E N) (hi:i<p.ns.length) (hn:(ndAt p i).all.length≤1000) (hq:FewQ (ndAt p i)) (hx:∀ j,j<(ndAt p i).eqs.length→sizeX ((ndAt p i).eqs[j]?.getD default).x≤1000000):
 Calls Tryz.prog 17 #[.agg (pgA p E ec N nc),.int .i64 i] w fun e w'=>e=.returned (flV (nodeS p i))∧Below w.heap.size w w':=by
 have HF:=Hd fun w1 hw=>pg_facts w p E ec N nc w1 hw h;obtain⟨bn,on,A1,c1,A2,c2,A3,c3,A4,c4,e0,hbn,hrn,d0,d1,d2,d3,d4⟩:=nd_at15 h.2 hi;subst e0;rw [show(p.ns[i]?.getD default)=ndAt p i from rfl] at hrn d0 d1 d2 d3 d4;have HIS:=Hd fun s w1 (a:Below w.heap.size w w1)=>refIs15 (ndAt p i) A1 c1 A2 c2 A3 c3 A4 c4 s w1 (hrn.below a) hn;have HAR:=Hd fun s w1 (a:Below w.heap.size w w1)=>refArmP15 p E ec (some ⟨bn,on,none⟩) nc s w1 (h.below a);have HDF:=Hd fun s w1 (a:Below w.heap.size w w1)=>refDefined15 (ndAt p i) A1 c1 A2 c2 A3 c3 A4 c4 s (ndAt p i).eqs.length w1 (hrn.below a) (Nat.le_refl _) hq;have HEQ:=Hd fun j (hj:j<(ndAt p i).eqs.length) w1 (a:Below w.heap.size w w1)=>refEq15 p E ec (some ⟨bn,on,none⟩) nc i j w1 (h.below a) hi hj hn hq (hx j hj);have HAL:=Hd fun w1 (a:Below w.heap.size w w1)=>refAllD (ndAt p i) A1 c1 A2 c2 A3 c3 A4 c4 w1 (hrn.below a) hn;have HFT:=Hd refFault;have HND:=Hd fun w1 (a:Below w.heap.size w w1)=>And.intro ((a.cell (p:=⟨bn,on+i*5,none⟩) hbn).trans d0) (And.intro ((a.cell (p:=⟨bn,on+i*5+1,none⟩) hbn).trans d1) (And.intro ((a.cell (p:=⟨bn,on+i*5+2,none⟩) hbn).trans d2) (And.intro ((a.cell (p:=⟨bn,on+i*5+3,none⟩) hbn).trans d3) ((a.cell (p:=⟨bn,on+i*5+4,none⟩) hbn).trans d4))));have HNF:=Hd fun w1 w2 hw (a:Below w.heap.size w w1)=>nd_facts w1 (ndAt p i) A1 c1 A2 c2 A3 c3 A4 c4 w2 hw (hrn.below a);have HON:=Hd fun h=>nodeS_on (p:=p) (i:=i) h;have HNE:=Hd fun k h hk hn he=>nodeS_eq (p:=p) (i:=i) (k:=k) h hk hn he;have HNDF:=Hd fun h hn=>nodeS_def (p:=p) (i:=i) h hn;have HDL:=Hd fun s=>defN_le (s:=s) hq (ndAt p i).eqs.length;have hmx:=RdS.max h.2;have hmq:=RdS.max hrn.2.2.2;have hmi1:=RdS.max hrn.1;have hq1:=hq.1;have hai:(ndAt p i).ins.length≤(ndAt p i).all.length:=by rw [all_len];omega
 have HOS:=Hd (show ∀ d,onS p (ndAt p i) d=((d.on.toList==[]) || (isV (ndAt p i) d.on && armV p.es d.ct)) from fun d=>rfl);clear h hrn d0 d1 d2 d3 d4 hx hq;generalize nodeS p i=res at *;generalize onS p (ndAt p i)=onB at *;unfold pgA at HF HAR HEQ ⊢;unfold ndA at HIS HDF HNF HAL;generalize hyy:ndAt p i=y at *;clear hyy;generalize eqS p i=eS at *;generalize hpn:p.ns.length=pn at *;generalize hqn:y.eqs.length=nq at *;generalize hin:y.ins.length=n1 at *;generalize hal:y.all.length=na at *;generalize hys:y.all=ys at *;clear hys
 go_enter Tryz.func17,Tryz.ntmps17
 go_upto_region 1 with(fail)
 generalize hw1:w.alloc _=w1;obtain⟨hb1,hg1,hr1,hcell1⟩:=HF.out w1 hw1;generalize hw2:w1.alloc _=w2;obtain⟨hb2,hR2,hg2⟩:=f3_box hw2;simp only [hg1] at hR2;have HR2:=Hd hR2;have HB2:=Hd (hb1.trans (hb2.mono hb1.size));have q1:=hcell1 w2 hb2 1;simp only [Ya,Yb,Yc] at q1;have HC2:=Hd fun W (b:Below w2.heap.size w2 W) j=>hcell1 W (hb2.trans (b.mono hb2.size)) j;obtain⟨d0,d1,d2,d3,d4⟩:=HND.out w2 HB2.out;have hii:(i:Int)<(pn:Int):=by omega
 have hi0:(0:Int)≤(i:Int):=by omega
 have hmi:i≤9223372036854775807:=by omega
 clear hw1 hw2 hcell1 hb1 hb2 hr1 HF hg2 hR2
 go_upto_region 2 with(fail)
 generalize hw3:w2.alloc _=w3;obtain⟨hb3,hg3,-,hcell3⟩:=HNF.out w2 w3 hw3 HB2.out;have HB3:=Hd (HB2.out.trans (hb3.mono HB2.out.size));have HR3:=Hd (HR2.out.below hb3);have HC3:=Hd fun W (b:Below w3.heap.size w3 W) j=>HC2.out W (hb3.trans (b.mono hb3.size)) j;have n0:=hcell3 w3 (Below.refl _ _) 0;have n1c:=hcell3 w3 (Below.refl _ _) 1;obtain⟨-,-,n2,n3,n4,-⟩:=Sx (hcell3 w3 (Below.refl _ _));simp only [Ya,Yb,Yc] at n0 n1c n2 n3 n4;have HN3:=Hd hcell3;have HCA:=Hd (HAL.out w3 HB3.out);unfold DeclsPost at HCA;clear hw3 hcell3 hb3 hg3 HNF HND d0 d1 d2 d3 d4 q1 HC2 HR2
 go_wp2_with fail
 refine HCA.out.mono ?_;rintro e w4 ⟨AD,cD,rfl,hrd,hb4⟩;have HB4:=Hd (HB3.out.trans (hb4.mono HB3.out.size));have HR4:=Hd (HR3.out.below hb4);have HP4:=Hd fun W (b:Below w4.heap.size w4 W) j=>HC3.out W (hb4.trans (b.mono hb4.size)) j;have HN4:=Hd fun W (b:Below w4.heap.size w4 W) j=>HN3.out W (hb4.trans (b.mono hb4.size)) j;have HD4:=Hd hrd;have hyl:=RdS.len hrd;have hym:=RdS.max hrd;clear hrd hb4 n0 n1c n2 n3 n4 HCA HC3 HN3 HR3
 go_wp2_with fail
 go_loopw [7] (fun c wr=>∃ k:Nat,k≤na∧c=.int .i64 k∧(ys.take k).all onB=true∧Below w4.heap.size w4 wr) (fun c _=>na-(intOf c).toNat)
 case atStart=>exact⟨0,Nat.zero_le _,rfl,by simp,Below.refl _ _⟩
 case round=>
  obtain⟨k,hk,rfl,hto,hbr⟩:=hrel;have HTO:=Hd hto;have HBR:=Hd hbr;have HWB:=Hd (HB4.out.trans (hbr.mono HB4.out.size));have HRR:=Hd (HR4.out.below hbr);clear hto
  by_cases hlt:k<na
  · obtain⟨b5,o5,rfl,hb5,hat⟩:=RdS.at_ (HD4.out.below hbr) (by omega);obtain⟨z0,z1,z2,z3,z4,z5⟩:=(hat k hlt).six;have HAS:=Hd (all_take_step (f:=onB) (l:=ys) (k:=k) HTO.out (by omega));have HAN:=Hd (all_at_no (f:=onB) (l:=ys) (k:=k) (by omega));have HOK:=Hd (HOS.out (ys[k]?.getD default));obtain⟨n0,n1,n2,n3,n4,-⟩:=Sx (HN4.out wr hbr);have y0:=HP4.out wr hbr 0;have y1:=HP4.out wr hbr 1;simp only [Ya,Yb,Yc] at n0 n1 n2 n3 n4 y0 y1;have hks:(k:Int)<(na:Int):=by omega
    have hk0:(0:Int)≤(k:Int):=by omega
    clear hat hbr;generalize onB (ys[k]?.getD default)=ob at *;generalize (ys[k]?.getD default).on=on5 at *;generalize (ys[k]?.getD default).ct=ct5 at *;generalize hiv:isV y on5=iv at *;generalize hav:armV p.es ct5=av at *;have HCI:=Hd fun W (b:Below wr.heap.size wr W)=>HIS.out on5 W (HWB.out.trans (b.mono HWB.out.size));have HCR:=Hd fun W (b:Below wr.heap.size wr W)=>HAR.out ct5 W (HWB.out.trans (b.mono HWB.out.size));rw [hiv] at HCI;rw [hav] at HCR;clear hiv hav;have hne:(on5.toList != [])=!(on5.toList==[]):=rfl
    go_upto_region 6 with(fail)
    cases ho:(on5.toList==[]) with
    | true=>
     rw [ho] at hne;have HT:=Hd (HAS.out (by rw [HOK.out,ho];rfl));have HBG:=Hd fun d os=>below_regrown wr d os;have l0:=fun d os=>cell_regrown n0 d os;have l1:=fun d os=>cell_regrown n1 d os;have l2:=fun d os=>cell_regrown n2 d os;have l3:=fun d os=>cell_regrown n3 d os;have l4:=fun d os=>cell_regrown n4 d os;have l5:=fun d os=>cell_regrown y0 d os;have l6:=fun d os=>cell_regrown y1 d os;have l7:=fun d os=>cell_regrown z4 d os;have l8:=fun d os=>cell_regrown z5 d os;have cA:=fun d os=>Calls.regrown_of (HCI.out (grow (redrawn wr d) os) (below_regrown wr d os));refine wp_region_quiet_below (by kernel_rfl) (by kernel_rfl) ?_
     repeat (go_big_quiet_step (first | with_reducible exact cA _ _))
     refine wpQuiet_nil ?_;intro _ hw3;obtain⟨⟨dq3,osq3⟩,hw33⟩:=hw3;have hbr3:=HBG.out dq3 osq3;rw [← hw33] at hbr3;clear l0 l1 l2 l3 l4 l5 l6 l7 l8 cA hw33
     rename_i w7
     have HB7:=Hd (HBR.out.trans (hbr3.mono HBR.out.size));clear hbr3 z0 z1 z2 z3 z4 z5 n0 n1 n2 n3 n4 y0 y1
     go_wp2_with fail
     go_roundw
     case rel=>exact⟨k+1,by omega,by go_num,HT.out,HB7.out⟩
     case measure=>simp [intOf];omega
    | false=>
     rw [ho] at hne
     cases iv with
     | false=>
      have HBG:=Hd fun d os=>below_regrown wr d os;have l0:=fun d os=>cell_regrown n0 d os;have l1:=fun d os=>cell_regrown n1 d os;have l2:=fun d os=>cell_regrown n2 d os;have l3:=fun d os=>cell_regrown n3 d os;have l4:=fun d os=>cell_regrown n4 d os;have l5:=fun d os=>cell_regrown y0 d os;have l6:=fun d os=>cell_regrown y1 d os;have l7:=fun d os=>cell_regrown z4 d os;have l8:=fun d os=>cell_regrown z5 d os;have cA:=fun d os=>Calls.regrown_of (HCI.out (grow (redrawn wr d) os) (below_regrown wr d os));refine wp_region_quiet_below (by kernel_rfl) (by kernel_rfl) ?_
      repeat (go_big_quiet_step (first | with_reducible exact cA _ _))
      refine wpQuiet_nil ?_;intro _ hw3;obtain⟨⟨dq3,osq3⟩,hw33⟩:=hw3;have hbr3:=HBG.out dq3 osq3;rw [← hw33] at hbr3;clear l0 l1 l2 l3 l4 l5 l6 l7 l8 cA hw33
      rename_i w7
      have HB7:=Hd (HWB.out.trans (hbr3.mono HWB.out.size));have HR7:=Hd (HRR.out.below hbr3);clear hbr3 z0 z1 z2 z3 z4 z5 n0 n1 n2 n3 n4 y0 y1;have HR:=Hd (show res=((i:Int),-1,5) from HON.out (HAN.out (by rw [HOK.out,ho];rfl)))
      go_wp2_with fail
      refine(HFT.out (i) (-1) (5) w7).mono ?_;rintro e wz ⟨rfl,hbz⟩;have HRZ:=Hd ((HR7.out).below hbz);have HBZ:=Hd ((HB7.out).trans (hbz.mono (HB7.out).size));clear hbz
      go_wp2_with (refine wpList_store_row rfl _ _ _ rfl (w.heap.size+1) _ rfl rfl _ _ HRZ.out fl_info rfl (by simp [f3A,Value.oneCell']) ?_)
      exact bodyPost_ret (res_f3 (p:=4) rfl _ _ (w.heap.size+1) (i) (-1) (5) rfl (HRZ.out.set _ _ _)) rfl ⟨by rw [HR.out];rfl,below_setRow HBZ.out (Nat.le_succ _) _⟩
     | true=>
      cases av with
      | true=>
       have HT:=Hd (HAS.out (by rw [HOK.out,ho];rfl));have HBG:=Hd fun d os=>below_regrown wr d os;have l0:=fun d os=>cell_regrown n0 d os;have l1:=fun d os=>cell_regrown n1 d os;have l2:=fun d os=>cell_regrown n2 d os;have l3:=fun d os=>cell_regrown n3 d os;have l4:=fun d os=>cell_regrown n4 d os;have l5:=fun d os=>cell_regrown y0 d os;have l6:=fun d os=>cell_regrown y1 d os;have l7:=fun d os=>cell_regrown z4 d os;have l8:=fun d os=>cell_regrown z5 d os;have cA:=fun d os=>Calls.regrown_of (HCI.out (grow (redrawn wr d) os) (below_regrown wr d os));have cB:=fun d os=>Calls.regrown_of (HCR.out (grow (redrawn wr d) os) (below_regrown wr d os));refine wp_region_quiet_below (by kernel_rfl) (by kernel_rfl) ?_
       repeat (go_big_quiet_step (first | with_reducible exact cA _ _ | with_reducible exact cB _ _))
       refine wpQuiet_nil ?_;intro _ hw3;obtain⟨⟨dq3,osq3⟩,hw33⟩:=hw3;have hbr3:=HBG.out dq3 osq3;rw [← hw33] at hbr3;clear l0 l1 l2 l3 l4 l5 l6 l7 l8 cA cB hw33
       rename_i w7
       have HB7:=Hd (HBR.out.trans (hbr3.mono HBR.out.size));clear hbr3 z0 z1 z2 z3 z4 z5 n0 n1 n2 n3 n4 y0 y1
       go_wp2_with fail
       go_roundw
       case rel=>exact⟨k+1,by omega,by go_num,HT.out,HB7.out⟩
       case measure=>simp [intOf];omega
      | false=>
       have HBG:=Hd fun d os=>below_regrown wr d os;have l0:=fun d os=>cell_regrown n0 d os;have l1:=fun d os=>cell_regrown n1 d os;have l2:=fun d os=>cell_regrown n2 d os;have l3:=fun d os=>cell_regrown n3 d os;have l4:=fun d os=>cell_regrown n4 d os;have l5:=fun d os=>cell_regrown y0 d os;have l6:=fun d os=>cell_regrown y1 d os;have l7:=fun d os=>cell_regrown z4 d os;have l8:=fun d os=>cell_regrown z5 d os;have cA:=fun d os=>Calls.regrown_of (HCI.out (grow (redrawn wr d) os) (below_regrown wr d os));have cB:=fun d os=>Calls.regrown_of (HCR.out (grow (redrawn wr d) os) (below_regrown wr d os));refine wp_region_quiet_below (by kernel_rfl) (by kernel_rfl) ?_
       repeat (go_big_quiet_step (first | with_reducible exact cA _ _ | with_reducible exact cB _ _))
       refine wpQuiet_nil ?_;intro _ hw3;obtain⟨⟨dq3,osq3⟩,hw33⟩:=hw3;have hbr3:=HBG.out dq3 osq3;rw [← hw33] at hbr3;clear l0 l1 l2 l3 l4 l5 l6 l7 l8 cA cB hw33
       rename_i w7
       have HB7:=Hd (HWB.out.trans (hbr3.mono HWB.out.size));have HR7:=Hd (HRR.out.below hbr3);clear hbr3 z0 z1 z2 z3 z4 z5 n0 n1 n2 n3 n4 y0 y1;have HR:=Hd (show res=((i:Int),-1,5) from HON.out (HAN.out (by rw [HOK.out,ho];rfl)))
       go_wp2_with fail
       refine(HFT.out (i) (-1) (5) w7).mono ?_;rintro e wz ⟨rfl,hbz⟩;have HRZ:=Hd ((HR7.out).below hbz);have HBZ:=Hd ((HB7.out).trans (hbz.mono (HB7.out).size));clear hbz
       go_wp2_with (refine wpList_store_row rfl _ _ _ rfl (w.heap.size+1) _ rfl rfl _ _ HRZ.out fl_info rfl (by simp [f3A,Value.oneCell']) ?_)
       exact bodyPost_ret (res_f3 (p:=4) rfl _ _ (w.heap.size+1) (i) (-1) (5) rfl (HRZ.out.set _ _ _)) rfl ⟨by rw [HR.out];rfl,below_setRow HBZ.out (Nat.le_succ _) _⟩
  · have hkn:k=na:=by omega
    subst hkn
    have HALL:=Hd (show ys.all onB=true by
     have h1:=HTO.out;rwa [List.take_of_length_le (by omega)] at h1)
    clear hbr;generalize wr=wo at *
    go_wp2_with fail
    go_loopw [8] (fun c wr=>∃ m:Nat,m≤nq∧c=.int .i64 m∧(∀ a,a<m→eS a=0)∧Below w4.heap.size w4 wr) (fun c _=>nq-(intOf c).toNat)
    case atStart=>exact⟨0,Nat.zero_le _,rfl,fun a ha=>absurd ha (by omega),HBR.out⟩
    case round=>
     obtain⟨m,hm,rfl,hto2,hbr2⟩:=hrel;have HTO2:=Hd hto2;have HBR2:=Hd hbr2;have HWB2:=Hd (HB4.out.trans (hbr2.mono HB4.out.size));have HRR2:=Hd (HR4.out.below hbr2);have n4:=HN4.out wr hbr2 4;have n1c:=HN4.out wr hbr2 1;have y0:=HP4.out wr hbr2 0;have y1:=HP4.out wr hbr2 1;simp only [Ya,Yb,Yc] at n4 n1c y0 y1;clear hto2 hbr2
     by_cases hmt:m<nq
     · have HCE:=Hd (HEQ.out m hmt wr HWB2.out);have HNX:=Hd fun hz=>to_next (P:=fun a=>eS a=0) HTO2.out hz;have HNK:=Hd fun he=>HNE.out m HALL.out hmt HTO2.out he;generalize eS m=em at *
       go_wp2_with fail
       refine HCE.out.mono ?_;rintro e w7 ⟨rfl,hb7⟩;have HB7:=Hd (HWB2.out.trans (hb7.mono HWB2.out.size));have HBR7:=Hd (HBR2.out.trans (hb7.mono HBR2.out.size));have HR7:=Hd (HRR2.out.below hb7);clear hb7 n4 n1c y0 y1 HCE
       by_cases hz:em=0
       · have HN2:=Hd (HNX.out hz);have hzb:(em != 0)=false:=by rw [hz];rfl
         go_wp2_with fail
         go_roundw
         case rel=>exact⟨m+1,by omega,by go_num,HN2.out,HBR7.out⟩
         case measure=>simp [intOf];omega
       · have HR:=Hd (show res=((i:Int),(m:Int),em) from HNK.out hz);have hzb:(em != 0)=true:=by rw [bne_iff_ne];exact hz
         go_wp2_with fail
         refine(HFT.out (i) (m) (em) w7).mono ?_;rintro e wz ⟨rfl,hbz⟩;have HRZ:=Hd ((HR7.out).below hbz);have HBZ:=Hd ((HB7.out).trans (hbz.mono (HB7.out).size));clear hbz
         go_wp2_with (refine wpList_store_row rfl _ _ _ rfl (w.heap.size+1) _ rfl rfl _ _ HRZ.out fl_info rfl (by simp [f3A,Value.oneCell']) ?_)
         exact bodyPost_ret (res_f3 (p:=4) rfl _ _ (w.heap.size+1) (i) (m) (em) rfl (HRZ.out.set _ _ _)) rfl ⟨by rw [HR.out];rfl,below_setRow HBZ.out (Nat.le_succ _) _⟩
     · have hmn:m=nq:=by omega
       subst hmn;have HNDD:=Hd (HNDF.out HALL.out HTO2.out);generalize wr=wo2 at *
       go_wp2_with fail
       go_loopw [10] (fun c wr=>∃ u:Nat,n1≤u∧u≤k∧c=.int .i64 u∧(∀ a,n1≤a→a<u→0<defN y (ys[a]?.getD default).nm m)∧Below w4.heap.size w4 wr) (fun c _=>k-(intOf c).toNat)
       case atStart=>exact⟨n1,Nat.le_refl _,by omega,rfl,fun a h1 h2=>absurd h1 (by omega),HBR2.out⟩
       case round=>
        obtain⟨u,hu1,hu,rfl,hto3,hbr3⟩:=hrel;have HTO3:=Hd hto3;have HBR3:=Hd hbr3;have HWB3:=Hd (HB4.out.trans (hbr3.mono HB4.out.size));have HRR3:=Hd (HR4.out.below hbr3)
        by_cases hut:u<k
        · obtain⟨b5,o5,rfl,hb5,hat⟩:=RdS.at_ (HD4.out.below hbr3) (by omega);obtain⟨z0,z1,z2,z3,z4,z5⟩:=(hat u hut).six;have n0:=HN4.out wr hbr3 0;have m1:=HN4.out wr hbr3 1;obtain⟨-,-,n2,n3,n4,-⟩:=Sx (HN4.out wr hbr3);simp only [Ya,Yb,Yc] at n0 m1 n2 n3 n4;have hks:(u:Int)<(k:Int):=by omega
          have hk0:(0:Int)≤(u:Int):=by omega
          have HDD:=Hd fun W (b:Below wr.heap.size wr W)=>HDF.out (ys[u]?.getD default).nm W (HWB3.out.trans (b.mono HWB3.out.size))
          have HNO:=Hd fun(h0:defN y (ys[u]?.getD default).nm m=0)=>(show res=((i:Int),-1,5) by
           rw [HNDD.out,drop_all_no (k:=u) hu1 (by omega) (by rw [h0];rfl)];rfl)
          have HYES:=Hd fun(h0:0<defN y (ys[u]?.getD default).nm m)=>(show ∀ a,n1≤a→a<u+1→0<defN y (ys[a]?.getD default).nm m from fun a h1 h2=>by
           by_cases ha:a<u
           · exact HTO3.out a h1 ha
           · obtain rfl:a=u:=by omega
             exact h0)
          clear hat hbr3 hto3;generalize hdu:defN y (ys[u]?.getD default).nm m=du at *;clear hdu;generalize (ys[u]?.getD default).nm=nm5 at *
          go_upto_region 17 with(fail)
          have HBG:=Hd fun d os=>below_regrown wr d os;have l0:=fun d os=>cell_regrown n0 d os;have l1:=fun d os=>cell_regrown m1 d os;have l2:=fun d os=>cell_regrown n2 d os;have l3:=fun d os=>cell_regrown n3 d os;have l4:=fun d os=>cell_regrown n4 d os;have l5:=fun d os=>cell_regrown z0 d os;have cA:=fun d os=>Calls.regrown_of (HDD.out (grow (redrawn wr d) os) (below_regrown wr d os));refine wp_region_quiet_below (by kernel_rfl) (by kernel_rfl) ?_
          repeat (go_big_quiet_step (first | with_reducible exact cA _ _))
          refine wpQuiet_nil ?_;intro _ hw3;obtain⟨⟨dq3,osq3⟩,hw33⟩:=hw3;have hbr3:=HBG.out dq3 osq3;rw [← hw33] at hbr3;clear l0 l1 l2 l3 l4 l5 cA hw33
          rename_i w7
          have HB7:=Hd (HWB3.out.trans (hbr3.mono HWB3.out.size));have HBR7:=Hd (HBR3.out.trans (hbr3.mono HBR3.out.size));have HR7:=Hd (HRR3.out.below hbr3);clear hbr3 z0 z1 z2 z3 z4 z5 n0 m1 n2 n3 n4
          by_cases hz:du=0
          · have HR:=Hd (HNO.out hz);have hzb:((du:Int)==0)=true:=by rw [hz];rfl
            go_wp2_with fail
            refine(HFT.out (i) (-1) (5) w7).mono ?_;rintro e wz ⟨rfl,hbz⟩;have HRZ:=Hd ((HR7.out).below hbz);have HBZ:=Hd ((HB7.out).trans (hbz.mono (HB7.out).size));clear hbz
            go_wp2_with (refine wpList_store_row rfl _ _ _ rfl (w.heap.size+1) _ rfl rfl _ _ HRZ.out fl_info rfl (by simp [f3A,Value.oneCell']) ?_)
            exact bodyPost_ret (res_f3 (p:=4) rfl _ _ (w.heap.size+1) (i) (-1) (5) rfl (HRZ.out.set _ _ _)) rfl ⟨by rw [HR.out];rfl,below_setRow HBZ.out (Nat.le_succ _) _⟩
          · have HN2:=Hd (HYES.out (by omega));have hzb:((du:Int)==0)=false:=by rw [beq_eq_false_iff_ne];omega
            go_wp2_with fail
            go_roundw
            case rel=>exact⟨u+1,by omega,by omega,by go_num,HN2.out,HBR7.out⟩
            case measure=>simp [intOf];omega
        · have huk:u=k:=by omega
          subst huk
          have HR:=Hd (show res=(0,0,0) by
           rw [HNDD.out,drop_all_yes (f:=fun d:Dc=>decide (0<defN y d.nm m)) (l:=ys) (m:=n1) fun a h1 h2=>decide_eq_true (hto3 a h1 (by omega))];rfl)
          clear hto3 hbr3
          go_wp2_with (refine wpList_store_row rfl _ _ _ rfl (w.heap.size+1) _ rfl rfl _ _ HRR3.out fl_info rfl (by simp [f3A,Value.oneCell']) ?_)
          exact bodyPost_ret (res_f3 (p:=4) rfl _ _ (w.heap.size+1) 0 0 0 rfl (HRR3.out.set _ _ _)) rfl ⟨by rw [HR.out];rfl,below_setRow HWB3.out (Nat.le_succ _) _⟩
end
section
open Go.RowKit Go.Sort
theorem tiny_few{n:Nd}(h:TinyN n):n.all.length≤1000∧FewQ n∧∀ j,j<n.eqs.length→sizeX (n.eqs[j]?.getD default).x≤1000000:=by
 have h1:=(fewD_ok h.1).2;have h2:=(fewD_ok h.2.1).2;have h3:=(fewD_ok h.2.2.1).2;have h4:=h.2.2.2.1;refine⟨by rw [all_len];omega,⟨by omega,fun q hq=>?_⟩,fun j hj=>tiny_sizeX (h.2.2.2.2.2 j hj).2.1⟩;obtain⟨j,hj,rfl⟩:=List.getElem_of_mem hq;have:=(h.2.2.2.2.2 j hj).1;rw [List.getElem?_eq_getElem hj,Option.getD_some] at this;omega
theorem checkS_hit{p:Pg}{k:Nat}(h0:checkN p=0) (hk:k<p.ns.length) (hn:∀ a,a<k→nodeS p a=(0,0,0)) (h:nodeS p k≠(0,0,0)):checkS p=nodeS p k:=by
 unfold checkS;rw [if_pos h0];exact firstF_hit hk hn h
theorem checkS_no{p:Pg}(h0:checkN p=0) (hn:∀ a,a<p.ns.length→nodeS p a=(0,0,0)):checkS p=(0,0,0):=by
 unfold checkS;rw [if_pos h0];exact firstF_no hn
theorem fl_ne{a b c:Int}(h:¬ ((a,b,c):Fl)=(0,0,0)):(a != 0)=true∨(a=0∧(b != 0)=true)∨(a=0∧b=0∧(c != 0)=true):=by
 by_cases ha:a=0
 · by_cases hb:b=0
   · by_cases hc:c=0
     · subst ha hb hc;exact absurd rfl h
     · exact .inr (.inr ⟨ha,hb,bne_iff_ne.2 hc⟩)
   · exact .inr (.inl ⟨ha,bne_iff_ne.2 hb⟩)
 · exact .inl (bne_iff_ne.2 ha)
theorem refCheck15(p:Pg) (E:Option Addr) (ec:Nat) (N:Option Addr) (nc:Nat) (w:World) (h:rdP w p E N) (ht:TinyP p):
 Calls Tryz.prog 7 #[.agg (pgA p E ec N nc)] w fun e w'=>e=.returned (flV (checkS p))∧Below w.heap.size w w':=by
 have HF:=Hd fun w1 hw=>pg_facts w p E ec N nc w1 hw h;have HCK:=Hd fun w1 (a:Below w.heap.size w w1)=>refCheck p E ec N nc w1 (h.below a) ht;have HNC:=Hd fun i (hi:i<p.ns.length) w1 (a:Below w.heap.size w w1)=>refNode15 p E ec N nc i w1 (h.below a) hi (tiny_few (ht.2.2 i hi)).1 (tiny_few (ht.2.2 i hi)).2.1 (tiny_few (ht.2.2 i hi)).2.2;have HFT:=Hd refFault;have HHIT:=Hd fun k h0 hk hn h=>checkS_hit (p:=p) (k:=k) h0 hk hn h;have HNO:=Hd fun h0 hn=>checkS_no (p:=p) h0 hn;have HBADC:=Hd fun(h0:¬ checkN p=0)=>(show checkS p=(0,-1,checkN p) by unfold checkS;rw [if_neg h0]);have hmx:=RdS.max h.2;clear h ht;generalize checkS p=res at *;generalize checkN p=ck at *;unfold pgA at HF HCK HNC ⊢;unfold flV at HNC;generalize nodeS p=nS at *;generalize hpn:p.ns.length=pn at *
 go_enter Tryz.func7,Tryz.ntmps7
 go_upto_region 1 with(fail)
 generalize hw1:w.alloc _=w1;obtain⟨hb1,hg1,hr1,hcell1⟩:=HF.out w1 hw1;generalize hw2:w1.alloc _=w2;obtain⟨hb2,hR2,hg2⟩:=f3_box hw2;simp only [hg1] at hR2;have HR2:=Hd hR2;have HB2:=Hd (hb1.trans (hb2.mono hb1.size));have HC2:=Hd fun W (b:Below w2.heap.size w2 W) j=>hcell1 W (hb2.trans (b.mono hb2.size)) j;have y0:=HC2.out w2 (Below.refl _ _) 0;have y1:=HC2.out w2 (Below.refl _ _) 1;simp only [Ya,Yb,Yc] at y0 y1;have HCW:=Hd (HCK.out w2 HB2.out);clear hw1 hw2 hcell1 hb1 hb2 hr1 HF hg2 hR2
 go_wp2_with fail
 refine HCW.out.mono ?_;rintro e w3 ⟨rfl,hb3⟩;have HB3:=Hd (HB2.out.trans (hb3.mono HB2.out.size));have HR3:=Hd (HR2.out.below hb3);have HC3:=Hd fun W (b:Below w3.heap.size w3 W) j=>HC2.out W (hb3.trans (b.mono hb3.size)) j;clear hb3 y0 y1 HC2 HCW HR2
 by_cases h0:ck=0
 · have h0b:(ck != 0)=false:=by rw [h0];rfl
   go_wp2_with fail
   go_loopw [4] (fun c wr=>∃ k:Nat,k≤pn∧c=.int .i64 k∧(∀ a,a<k→nS a=(0,0,0))∧Below w3.heap.size w3 wr) (fun c _=>pn-(intOf c).toNat)
   case atStart=>exact⟨0,Nat.zero_le _,rfl,fun a ha=>absurd ha (by omega),Below.refl _ _⟩
   case round=>
    obtain⟨k,hk,rfl,hto,hbr⟩:=hrel;have HTO:=Hd hto;have HBR:=Hd hbr;have HWB:=Hd (HB3.out.trans (hbr.mono HB3.out.size));have HRR:=Hd (HR3.out.below hbr);have y0:=HC3.out wr hbr 0;have y1:=HC3.out wr hbr 1;simp only [Ya,Yb,Yc] at y0 y1;clear hto hbr
    by_cases hlt:k<pn
    · have HCE:=Hd (HNC.out k hlt wr HWB.out);have HNX:=Hd fun hz=>to_next (P:=fun a=>nS a=(0,0,0)) HTO.out hz;have HH:=Hd (HHIT.out k h0 hlt HTO.out);generalize nS k=f at *;obtain⟨fa,fb,fc⟩:=f
      go_wp2_with fail
      refine HCE.out.mono ?_;rintro e w7 ⟨rfl,hb7⟩;have HB7:=Hd (HWB.out.trans (hb7.mono HWB.out.size));have HBR7:=Hd (HBR.out.trans (hb7.mono HBR.out.size));have HR7:=Hd (HRR.out.below hb7);clear hb7 y0 y1 HCE;simp only [f3A]
      go_upto_region 8 with(fail)
      generalize hw8:w7.alloc _=w8;have hb8:Below w7.heap.size w7 w8:=by rw [← hw8];exact(Below.refl _ _).alloc (Nat.le_refl _) _
      have hf8:F3 30 w8 w7.heap.size fa fb fc:=by rw [← hw8];exact F3.new _ _ _ _ _
      obtain⟨z0,z1,z2,-,-,-⟩:=Sx hf8.cell;simp only [f3A,List.getElem?_toArray,List.getElem?_cons_zero,List.getElem?_cons_succ] at z0 z1 z2;have HB8:=Hd (HB7.out.trans (hb8.mono HB7.out.size));have HBR8:=Hd (HBR7.out.trans (hb8.mono HBR7.out.size));have HR8:=Hd (HR7.out.below hb8);clear hw8 hb8 hf8
      by_cases hz:((fa,fb,fc):Fl)=(0,0,0)
      · have HN2:=Hd (HNX.out hz);injection hz with ha hbc;injection hbc with hb hc;subst ha hb hc
        go_wp2_with fail
        go_roundw
        case rel=>exact⟨k+1,by omega,by go_num,HN2.out,HBR8.out⟩
        case measure=>simp [intOf];omega
      · have HR:=Hd (show res=(fa,fb,fc) from HH.out hz);rcases fl_ne hz with ha | ⟨ha,hb⟩|⟨ha,hb,hc⟩
        · have ha2:(fa==0)=false:=by rw [bne_iff_ne] at ha;exact beq_eq_false_iff_ne.2 ha
          clear hz
          go_wp2_with (refine wpList_store_row rfl _ _ _ rfl (w.heap.size+1) _ rfl rfl _ _ HR8.out fl_info rfl (by simp [f3A,Value.oneCell']) ?_)
          exact bodyPost_ret (res_f3 (p:=2) rfl _ _ (w.heap.size+1) fa fb fc rfl (HR8.out.set _ _ _)) rfl ⟨by rw [HR.out];rfl,below_setRow HB8.out (Nat.le_succ _) _⟩
        · have hb2:(fb==0)=false:=by rw [bne_iff_ne] at hb;exact beq_eq_false_iff_ne.2 hb
          subst ha;clear hz
          go_wp2_with (refine wpList_store_row rfl _ _ _ rfl (w.heap.size+1) _ rfl rfl _ _ HR8.out fl_info rfl (by simp [f3A,Value.oneCell']) ?_)
          exact bodyPost_ret (res_f3 (p:=2) rfl _ _ (w.heap.size+1) 0 fb fc rfl (HR8.out.set _ _ _)) rfl ⟨by rw [HR.out];rfl,below_setRow HB8.out (Nat.le_succ _) _⟩
        · have hc2:(fc==0)=false:=by rw [bne_iff_ne] at hc;exact beq_eq_false_iff_ne.2 hc
          subst ha hb;clear hz
          go_wp2_with (refine wpList_store_row rfl _ _ _ rfl (w.heap.size+1) _ rfl rfl _ _ HR8.out fl_info rfl (by simp [f3A,Value.oneCell']) ?_)
          exact bodyPost_ret (res_f3 (p:=2) rfl _ _ (w.heap.size+1) 0 0 fc rfl (HR8.out.set _ _ _)) rfl ⟨by rw [HR.out];rfl,below_setRow HB8.out (Nat.le_succ _) _⟩
    · have hkn:k=pn:=by omega
      subst hkn;have HR:=Hd (HNO.out h0 HTO.out)
      go_wp2_with (refine wpList_store_row rfl _ _ _ rfl (w.heap.size+1) _ rfl rfl _ _ HRR.out fl_info rfl (by simp [f3A,Value.oneCell']) ?_)
      exact bodyPost_ret (res_f3 (p:=2) rfl _ _ (w.heap.size+1) 0 0 0 rfl (HRR.out.set _ _ _)) rfl ⟨by rw [HR.out];rfl,below_setRow HWB.out (Nat.le_succ _) _⟩
 · have h0b:(ck != 0)=true:=by rw [bne_iff_ne];exact h0
   have HR:=Hd (HBADC.out h0)
   go_wp2_with fail
   refine(HFT.out 0 (-1) ck w3).mono ?_;rintro e wz ⟨rfl,hbz⟩;have HRZ:=Hd (HR3.out.below hbz);have HBZ:=Hd (HB3.out.trans (hbz.mono HB3.out.size));clear hbz
   go_wp2_with (refine wpList_store_row rfl _ _ _ rfl (w.heap.size+1) _ rfl rfl _ _ HRZ.out fl_info rfl (by simp [f3A,Value.oneCell']) ?_)
   exact bodyPost_ret (res_f3 (p:=2) rfl _ _ (w.heap.size+1) 0 (-1) ck rfl (HRZ.out.set _ _ _)) rfl ⟨by rw [HR.out];rfl,below_setRow HBZ.out (Nat.le_succ _) _⟩
end
section
theorem nmB_eq{s t:ByteArray}:nmB s t=true↔t.data.toList=s.data.toList:=by simp [nmB]
theorem cntS_zero{s:ByteArray}{l:List ByteArray}(h:l.any (nmB s)=false):cntS s l=0:=by
 unfold cntS;rw [List.length_eq_zero_iff,List.filter_eq_nil_iff];intro x hx;have:=List.any_eq_false.1 h x hx
 simpa using this
end
section
def leadsB(vs nds:List ByteArray) (es:List En) (e:Ex):Bool:=
 if e.k==3 then vs.any (nmB e.s)
 else if e.k==11 || e.k==12 then vs.any (nmB e.s) && !(e.arms.any fun a=>!armV es a)
 else if e.k==4 then armV es e.s
 else if e.k==13 then nds.any (nmB e.s)
 else !(e.k==17)
def defineB(vs ds:List ByteArray) (s:ByteArray):Int:=if vs.any (nmB s)=false then 5 else if ds.any (nmB s)=true then 6 else 0
def dsTo(n:Nd) (j:Nat):List ByteArray:=namesD n.ins++(n.eqs.take j).flatMap Qn.ns
def offB(vs:List ByteArray) (es:List En) (d:Dc):Bool:=!(d.on.toList==[]) && (!vs.any (nmB d.on) || !armV es d.ct)
theorem isV_any(n:Nd) (s:ByteArray):isV n s=(namesD n.all).any (nmB s):=by
 unfold isV declO namesD;rw [List.any_map,Bool.eq_iff_iff,List.find?_isSome,List.any_eq_true];rfl
theorem input_any(n:Nd) (s:ByteArray):inputS n s=(namesD n.ins).any (nmB s):=by
 unfold inputS namesD;rw [List.any_map];rfl
theorem cnt_any(s:ByteArray) (l:List ByteArray):decide (0<cntS s l)=l.any (nmB s):=by
 cases h:l.any (nmB s) with
 | false=>rw [cntS_zero h];rfl
 | true=>
  obtain⟨x,hx,hn⟩:=List.any_eq_true.1 h;refine decide_eq_true ?_;unfold cntS;exact List.length_pos_of_mem (List.mem_filter.2 ⟨hx,hn⟩)
theorem findI_ge{α:Type}(f:α→Bool):∀ (l:List α) (o:Nat),findI f l o=-1∨(o:Int)≤findI f l o
 | [],o=>.inl rfl
 | a::l,o=>by
  rw [findI]
  cases f a with
  | true=>exact .inr (by simp)
  | false=>
   rcases findI_ge f l (o+1) with h | h
   · exact .inl (by simpa using h)
   · exact .inr (by simp only [Bool.false_eq_true,if_false];omega)
theorem findI_take{α:Type}(f:α→Bool):∀ (l:List α) (i o:Nat),(decide (0≤findI f l o) && decide (findI f l o<((o+i:Nat):Int)))=(l.take i).any f
 | [],i,o=>by simp [findI]
 | a::l,0,o=>by
  rcases findI_ge f (a::l) o with h | h
  · rw [h];simp
  · rw [show decide (findI f (a::l) o<((o+0:Nat):Int))=false from decide_eq_false (by omega)]
    simp
 | a::l,i+1,o=>by
  rw [findI,List.take_succ_cons,List.any_cons]
  cases h:f a with
  | true=>
   simp only [if_true,Bool.true_or,Bool.and_eq_true,decide_eq_true_eq];omega
  | false=>
   simp only [Bool.false_eq_true,if_false,Bool.false_or];rw [← findI_take f l i (o+1),show o+1+i=o+(i+1) by omega]
theorem findN_any(p:Pg) (i:Nat) (s:ByteArray):(decide (0≤findN p s) && decide (findN p s<(i:Int)))=((p.ns.take i).map Nd.nm).any (nmB s):=by
 unfold findN;have:=findI_take (fun n:Nd=>n.nm.data.toList==s.data.toList) p.ns i 0;rw [Nat.zero_add] at this;rw [this,List.any_map];rfl
theorem part_arms{e:Ex}(h:partX e=true) (h1:(e.k==11)=false) (h2:(e.k==12)=false):e.arms=[]:=by
 unfold partX at h;simp only [Bool.and_eq_true] at h;have ha:armsX e=true:=h.1.1.1.2;unfold armsX at ha;simp only [h1,h2,Bool.and_eq_true,Bool.false_eq_true,if_false] at ha;exact List.length_eq_zero_iff.1 (by simpa using ha.2)
theorem leads_eq{p:Pg}{i:Nat}{e:Ex}(h:partX e=true):leadsB (namesD (ndAt p i).all) ((p.ns.take i).map Nd.nm) p.es e=partS p i e:=by
 have hA:=part_arms h;unfold leadsB partS;rw [← isV_any,findN_any];rw [show(!(e.arms.any fun a=>!armV p.es a))=e.arms.all (armV p.es) by rw [← List.not_all_eq_any_not,Bool.not_not]]
 by_cases h3:e.k=3
 · rw [hA (by rw [h3];rfl) (by rw [h3];rfl),h3]
   cases isV (ndAt p i) e.s <;> rfl
 · by_cases h11:e.k=11
   · rw [h11]
     cases isV (ndAt p i) e.s <;> cases e.arms.all (armV p.es) <;> rfl
   · by_cases h12:e.k=12
     · rw [h12]
       cases isV (ndAt p i) e.s <;> cases e.arms.all (armV p.es) <;> rfl
     · have b3:(e.k==3)=false:=beq_eq_false_iff_ne.2 h3;have b11:(e.k==11)=false:=beq_eq_false_iff_ne.2 h11;have b12:(e.k==12)=false:=beq_eq_false_iff_ne.2 h12;rw [hA b11 b12];simp only [b3,b11,b12,Bool.false_or,Bool.false_and,Bool.false_eq_true,if_false,List.all_nil,Bool.true_eq_false]
theorem nameS_eq(n:Nd) (j:Nat) (ns:List ByteArray) (k:Nat):nameS n j ns k=defineB (namesD n.all) (dsTo n j++ns.take k) (ns[k]?.getD ByteArray.empty):=by
 unfold nameS defineB dsTo defN;rw [isV_any,input_any,cnt_any];generalize ns[k]?.getD ByteArray.empty=s;rw [List.any_append,List.any_append]
 cases (namesD n.all).any (nmB s) <;> cases (namesD n.ins).any (nmB s) <;> cases ((n.eqs.take j).flatMap Qn.ns).any (nmB s) <;> cases (ns.take k).any (nmB s) <;> rfl
theorem off_eq(p:Pg) (n:Nd) (d:Dc):offB (namesD n.all) p.es d=!onS p n d:=by
 unfold offB onS;rw [isV_any]
 cases (d.on.toList==[]) <;> cases (namesD n.all).any (nmB d.on) <;> cases armV p.es d.ct <;> rfl
theorem dsTo_succ{n:Nd}{j:Nat}(h:j<n.eqs.length):dsTo n (j+1)=dsTo n j++(n.eqs[j]?.getD default).ns:=by
 unfold dsTo;rw [List.take_add_one,List.getElem?_eq_getElem h,List.flatMap_append,List.append_assoc]
 simp
theorem dsTo_zero(n:Nd):dsTo n 0=namesD n.ins:=by simp [dsTo]
def NodeR(p:Pg) (i:Nat) (a e:Int):Prop:=nodeS p i=if e=0 then((0,0,0):Fl) else((i:Int),a,e)
theorem nodeR_off{p:Pg}{i:Nat}(h:(ndAt p i).vars.any (offB (namesD (ndAt p i).all) p.es)=true):NodeR p i (-1) 5:=by
 unfold NodeR nodeS;rw [if_pos,if_neg (by decide)];obtain⟨d,hd,ho⟩:=List.any_eq_true.1 h;rw [off_eq,Bool.not_eq_true'] at ho;rw [List.all_eq_false];exact⟨d,by unfold Nd.all;exact List.mem_append_right _ hd,by rw [ho];decide⟩
theorem ports_on{p:Pg}{n:Nd}(hp:portsB n=true) (h:n.vars.any (offB (namesD n.all) p.es)=false):n.all.all (onS p n)=true:=by
 rw [List.all_eq_true];intro d hd;unfold Nd.all at hd;rcases List.mem_append.1 hd with hd | hd
 · have:=List.all_eq_true.1 hp d hd;unfold noB at this;unfold onS;rw [Lib.toList_data,this];rfl
 · have:=List.any_eq_false.1 h d hd;rw [off_eq] at this
   simpa using this
theorem nodeR_eq{p:Pg}{i k:Nat}(hp:portsB (ndAt p i)=true) (h:(ndAt p i).vars.any (offB (namesD (ndAt p i).all) p.es)=false) (hk:k<(ndAt p i).eqs.length) (hn:∀ j,j<k→eqS p i j=0) (he:eqS p i k≠0):NodeR p i k (eqS p i k):=by
 unfold NodeR nodeS;rw [if_neg (by rw [ports_on hp h];decide),if_neg he];have h1:firstF ((0,0,0):Fl) (eqF p i) (ndAt p i).eqs.length=eqF p i k:=firstF_hit hk (fun j hj=>by unfold eqF;rw [if_pos (hn j hj)]) (by unfold eqF;rw [if_neg he];intro e;injection e with _ e;injection e with _ e;exact he e);have h2:eqF p i k=((i:Int),(k:Int),eqS p i k):=by unfold eqF;rw [if_neg he]
 rw [h1,h2,if_neg (by intro e;injection e with _ e;injection e with _ e;exact he e)]
theorem once_apart{n:Nd}(h:onceS (namesD n.all)=true){d:Dc}(hd:d∈n.outs++n.vars):(namesD n.ins).any (nmB d.nm)=false:=by
 unfold onceS onceB at h;have h:=of_decide_eq_true h;rw [List.any_eq_false];intro s hs hn;have e:n.all=n.ins++(n.outs++n.vars):=by unfold Nd.all;rw [List.append_assoc]
 rw [e] at h;unfold namesD at h hs;rw [List.map_append,List.map_append,List.nodup_append] at h;exact h.2.2 _ (List.mem_map.2 ⟨s,hs,rfl⟩) _ (List.mem_map.2 ⟨d.nm,List.mem_map.2 ⟨d,hd,rfl⟩,rfl⟩) (nmB_eq.1 hn)
theorem undef_eq{n:Nd}(h:onceS (namesD n.all)=true):(n.outs.any (fun d=>!(dsTo n n.eqs.length).any (nmB d.nm)) || n.vars.any (fun d=>!(dsTo n n.eqs.length).any (nmB d.nm)))=!((n.all.drop n.ins.length).all fun d=>decide (0<defN n d.nm n.eqs.length)):=by
 have e:n.all.drop n.ins.length=n.outs++n.vars:=by unfold Nd.all;rw [List.append_assoc,List.drop_left]
 rw [e,← List.any_append,List.not_all_eq_any_not];rw [Bool.eq_iff_iff,List.any_eq_true,List.any_eq_true]
 have key:∀ d∈n.outs++n.vars,(dsTo n n.eqs.length).any (nmB d.nm)=decide (0<defN n d.nm n.eqs.length):=fun d hd=>by
  unfold dsTo defN;rw [List.any_append,once_apart h hd,cnt_any,Bool.false_or]
 exact⟨fun⟨d,hd,hn⟩=>⟨d,hd,by rw [← key d hd];exact hn⟩,fun⟨d,hd,hn⟩=>⟨d,hd,by rw [key d hd];exact hn⟩⟩
theorem nodeR_end{p:Pg}{i:Nat}(hp:portsB (ndAt p i)=true) (ho:onceS (namesD (ndAt p i).all)=true) (h:(ndAt p i).vars.any (offB (namesD (ndAt p i).all) p.es)=false) (hn:∀ j,j<(ndAt p i).eqs.length→eqS p i j=0)
 {b:Bool}(hb:((ndAt p i).outs.any (fun d=>!(dsTo (ndAt p i) (ndAt p i).eqs.length).any (nmB d.nm)) || (ndAt p i).vars.any (fun d=>!(dsTo (ndAt p i) (ndAt p i).eqs.length).any (nmB d.nm)))=b):NodeR p i (-1) (if b=true then 5 else 0):=by
 rw [undef_eq ho] at hb;unfold NodeR nodeS;rw [if_neg (by rw [ports_on hp h];decide),if_pos (firstF_no fun j hj=>by unfold eqF;rw [if_pos (hn j hj)])]
 cases b with
 | true=>
  rw [Bool.not_eq_true'] at hb;rw [if_neg (by rw [hb];decide)];rfl
 | false=>
  rw [Bool.not_eq_false'] at hb;rw [if_pos hb];rfl
end
end Go.Proofs.YtpehkppcdlboeaaGreat
