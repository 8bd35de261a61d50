/- Parts of the proof: ScX. Conditions: each theorem's own. -/
import Derived.Test.YtpehkppcdlboeaaO17
namespace Go.Proofs.Ytpehkppcdlboeaa
set_option linter.unusedVariables false
set_option linter.unusedSimpArgs false
set_option maxRecDepth 100000
set_option maxHeartbeats 40000000
section
open Go.RowKit Go.Sort Go.BigFrame
theorem walkOnce(p:Pg) (E:Option Addr) (ec:Nat) (N:Option Addr) (nc:Nat) (w:World) (h:rdP w p E N):
 Calls Try.prog 4 #[.agg (pgA p E ec N nc)] w fun e w'=>e=.returned (.bool true)∧Below w.heap.size w w':=by
 have HF:=Hd fun w1 hw=>pg_facts w p E ec N nc w1 hw h;have HSM:=Hd fun w1 a=>refPgSmall p E ec N nc w1 a;have HC:=Hd fun w1 a b=>scCheck p E ec N nc w1 a b;have HFI:=Hd fun s w1 (a:Below w.heap.size w w1)=>refFind p E ec N nc s w1 (h.below a);have HNA:=Hd fun i (hi:i<p.ns.length)=>nd_at15 h.2 hi;have HZ:=Hd fun hz=>checkS_zero (p:=p) hz;have hmx:=RdS.max h.2;clear h;unfold pgA at HF HSM HC HFI ⊢;unfold flV f3A at HC;generalize hcs:checkS p=f at *;clear hcs;obtain⟨fa,fb,fc⟩:=f;generalize hpn:p.ns.length=pn at *
 go_enter Try.func4,Try.ntmps4
 go_upto_region 1 with(fail)
 generalize hw1:w.alloc _=w1;obtain⟨hb1,hg,hR1,hcell⟩:=HF.out w1 hw1;have HB1:=Hd hb1;have HCE:=Hd hcell;have HR1:=Hd hR1;have q0:=HCE.out w1 (Below.refl _ _) 0;have q1:=HCE.out w1 (Below.refl _ _) 1;simp only [Ya,Yb,Yc] at q0 q1;clear hw1 hcell hb1 HF hR1
 go_wp2_with fail
 refine(HSM.out w1 HR1.out).mono ?_;rintro e w2 ⟨b,rfl,ht,hb2⟩;have HB2:=Hd (below_next HB1.out hb2);have HR2:=Hd (HR1.out.below hb2);have q0:=HCE.out w2 hb2 0;have q1:=HCE.out w2 hb2 1;simp only [Ya,Yb,Yc] at q0 q1;have HCE2:=Hd fun W (b:Below w2.heap.size w2 W) j=>HCE.out W (hb2.trans (b.mono hb2.size)) j;clear hb2 HCE
 cases b with
 | false=>
  go_wp2_with fail
  refine(live_any w2).mono ?_;rintro e w3 ⟨rfl,hb3⟩;have HB3:=Hd (below_next HB2.out hb3);clear hb3
  go_wp2_with fail
  go_ret
  exact⟨rfl,HB3.out⟩
 | true=>
  have HT:=Hd (ht rfl);have HCW:=Hd (HC.out w2 HR2.out HT.out);clear ht
  go_wp2_with fail
  refine HCW.out.mono ?_;rintro e w3 ⟨rfl,hb3⟩;have HB3:=Hd (below_next HB2.out hb3);have HCE3:=Hd fun W (b:Below w3.heap.size w3 W) j=>HCE2.out W (hb3.trans (b.mono hb3.size)) j;clear hb3 q0 q1 HCW HCE2
  by_cases hz:((fa,fb,fc):Fl)=(0,0,0)
  · have HNZ:=Hd (HZ.out hz);injection hz with ha hbc;injection hbc with hb hc;subst ha hb hc
    go_wp2_with fail
    go_loopw [3] (fun c wr=>∃ i:Nat,i≤pn∧c=.int .i64 i∧Below w3.heap.size w3 wr) (fun c _=>pn-(intOf c).toNat)
    case atStart=>exact⟨0,Nat.zero_le _,rfl,Below.refl _ _⟩
    case round=>
     obtain⟨i,hi,rfl,hbr⟩:=hrel;have HBR:=Hd hbr;have HWB:=Hd (HB3.out.trans (hbr.mono HB3.out.size));have y0:=HCE3.out wr hbr 0;have y1:=HCE3.out wr hbr 1;simp only [Ya,Yb,Yc] at y0 y1;clear hbr
     by_cases hit:i<pn
     · obtain⟨bn,on,A1,c1,A2,c2,A3,c3,A4,c4,e0,hbn,hrn,d0,d1,d2,d3,d4⟩:=HNA.out i hit;subst e0;have hii:(i:Int)<(pn:Int):=by omega
       have hi0:(0:Int)≤(i:Int):=by omega
       have HOC:=Hd fun k hk=>once_count (p:=p) (i:=i) (k:=k) (HNZ.out i hit) hk;have HOS:=Hd fun j hj=>once_calls (p:=p) (i:=i) (j:=j) (HNZ.out i hit) hj;have hfw:=tiny_few (HT.out.2.2 i (by omega));have HFQ:=Hd hfw.2.1;have HSX:=Hd hfw.2.2;have hal1:=hfw.1;have HCT:=Hd fun s w1 (a:Below w.heap.size w w1)=>lawCount (ndAt p i) A1 c1 A2 c2 A3 c3 A4 c4 s w1 (hrn.below a) hfw.2.1;have HAL:=Hd fun w1 (a:Below w.heap.size w w1)=>refAllD (ndAt p i) A1 c1 A2 c2 A3 c3 A4 c4 w1 (hrn.below a) hfw.1;have HNF:=Hd fun w1 w2 hw (a:Below w.heap.size w w1)=>nd_facts w1 (ndAt p i) A1 c1 A2 c2 A3 c3 A4 c4 w2 hw (hrn.below a);have HRN:=Hd hrn;have hmi1:=RdS.max hrn.1;have hmq:=RdS.max hrn.2.2.2;have hai:(ndAt p i).ins.length≤(ndAt p i).all.length:=by rw [all_len];omega
       rw [show(p.ns[i]?.getD default)=ndAt p i from rfl] at d0 d1 d2 d3 d4 hmi1 hmq hal1;have a0:=(HWB.out.cell (p:=⟨bn,on+i*5,none⟩) hbn).trans d0;have a1:=(HWB.out.cell (p:=⟨bn,on+i*5+1,none⟩) hbn).trans d1;have a2:=(HWB.out.cell (p:=⟨bn,on+i*5+2,none⟩) hbn).trans d2;have a3:=(HWB.out.cell (p:=⟨bn,on+i*5+3,none⟩) hbn).trans d3;have a4:=(HWB.out.cell (p:=⟨bn,on+i*5+4,none⟩) hbn).trans d4;clear hrn d0 d1 d2 d3 d4 hfw;unfold ndA at HCT HAL HNF;rw [show(p.ns[i]?.getD default)=ndAt p i from rfl] at HRN HFQ HSX;generalize hyy:ndAt p i=y at *;clear hyy;generalize hqn:y.eqs.length=nq at *;generalize hin:y.ins.length=n1 at *;generalize hal:y.all.length=na at *;generalize hys:y.all=ys at *;clear hys;generalize wr=wo at *
       go_upto_region 7 with(fail)
       generalize hw4:wo.alloc _=w4;obtain⟨hb4,-,-,hcell4⟩:=HNF.out wo w4 hw4 HWB.out;have HW4:=Hd (HWB.out.trans (hb4.mono HWB.out.size));have HP4:=Hd (HBR.out.trans (hb4.mono HBR.out.size));have n0:=hcell4 w4 (Below.refl _ _) 0;have m1:=hcell4 w4 (Below.refl _ _) 1;obtain⟨-,-,n2,n3,n4,-⟩:=Sx (hcell4 w4 (Below.refl _ _));simp only [Ya,Yb,Yc] at n0 m1 n2 n3 n4;have HC4:=Hd hcell4;have HCA:=Hd (HAL.out w4 HW4.out);unfold DeclsPost at HCA;clear hw4 hcell4 hb4 HNF a0 a1 a2 a3 a4 y0 y1 HAL
       go_wp2_with fail
       refine HCA.out.mono ?_;rintro e w5 ⟨AD,cD,rfl,hrd,hb5⟩;have HW5:=Hd (HW4.out.trans (hb5.mono HW4.out.size));have HP5:=Hd (HP4.out.trans (hb5.mono HP4.out.size));have HN5:=Hd fun W (b:Below w5.heap.size w5 W) j=>HC4.out W (hb5.trans (b.mono hb5.size)) j;have HD5:=Hd hrd;have hyl:=RdS.len hrd;clear hrd hb5 n0 m1 n2 n3 n4 HCA HC4
       go_wp2_with fail
       go_loopw [6] (fun c wr=>∃ k:Nat,k≤na∧c=.int .i64 k∧Below w5.heap.size w5 wr) (fun c _=>na-(intOf c).toNat)
       case atStart=>exact⟨0,Nat.zero_le _,rfl,Below.refl _ _⟩
       case round=>
        obtain⟨k,hk,rfl,hbr⟩:=hrel;have HBR5:=Hd hbr;have HWB5:=Hd (HW5.out.trans (hbr.mono HW5.out.size));have n0:=HN5.out wr hbr 0;have n1x:=HN5.out wr hbr 1;obtain⟨-,-,n2,n3,n4,-⟩:=Sx (HN5.out wr hbr);simp only [Ya,Yb,Yc] at n0 n1x n2 n3 n4
        by_cases hkt:k<na
        · obtain⟨b5,o5,rfl,hb5,hat⟩:=RdS.at_ (HD5.out.below hbr) (by omega);obtain⟨z0,-⟩:=(hat k hkt).six;have HCW:=Hd fun W (b:Below wr.heap.size wr W)=>HCT.out (ys[k]?.getD default).nm W (HWB5.out.trans (b.mono HWB5.out.size));have HOCK:=Hd (HOC.out k hkt);have hks:(k:Int)<(na:Int):=by omega
          have hk0:(0:Int)≤(k:Int):=by omega
          clear hat hbr;generalize defN y (ys[k]?.getD default).nm nq=cn at *;generalize (ys[k]?.getD default).nm=nm5 at *
          by_cases hkn:k<n1
          · have hkd:decide ((k:Int)<(n1:Int))=true:=decide_eq_true (by omega);have hcn:cn=0:=by rw [HOCK.out,if_pos hkn]
            subst hcn
            go_upto_region 14 with(fail)
            have HBG:=Hd fun d os=>below_regrown wr d os;have l0:=fun d os=>cell_regrown n0 d os;have l1:=fun d os=>cell_regrown n1x d os;have l2:=fun d os=>cell_regrown n2 d os;have l3:=fun d os=>cell_regrown n3 d os;have l4:=fun d os=>cell_regrown n4 d os;have l5:=fun d os=>cell_regrown z0 d os;have cA:=fun d os=>Calls.regrown_of (HCW.out (grow (redrawn wr d) os) (below_regrown wr d os));refine wp_region_quiet_below (by kernel_rfl) (by kernel_rfl) ?_
            repeat (go_big_quiet_step (first | with_reducible exact cA _ _))
            refine wpQuiet_nil ?_;intro _ hw3;obtain⟨⟨dq3,osq3⟩,hw33⟩:=hw3;have hbr3:=HBG.out dq3 osq3;rw [← hw33] at hbr3;clear l0 l1 l2 l3 l4 l5 cA hw33
            rename_i w7
            have HB7:=Hd (HBR5.out.trans (hbr3.mono HBR5.out.size));clear hbr3 z0 n0 n1x n2 n3 n4
            go_wp2_with fail
            go_roundw
            case rel=>exact⟨k+1,by omega,by go_num,HB7.out⟩
            case measure=>simp [intOf];omega
          · have hkd:decide ((k:Int)<(n1:Int))=false:=decide_eq_false (by omega);have hcn:cn=1:=by rw [HOCK.out,if_neg hkn]
            subst hcn
            go_upto_region 14 with(fail)
            have HBG:=Hd fun d os=>below_regrown wr d os;have l0:=fun d os=>cell_regrown n0 d os;have l1:=fun d os=>cell_regrown n1x d os;have l2:=fun d os=>cell_regrown n2 d os;have l3:=fun d os=>cell_regrown n3 d os;have l4:=fun d os=>cell_regrown n4 d os;have l5:=fun d os=>cell_regrown z0 d os;have cA:=fun d os=>Calls.regrown_of (HCW.out (grow (redrawn wr d) os) (below_regrown wr d os));refine wp_region_quiet_below (by kernel_rfl) (by kernel_rfl) ?_
            repeat (go_big_quiet_step (first | with_reducible exact cA _ _))
            refine wpQuiet_nil ?_;intro _ hw3;obtain⟨⟨dq3,osq3⟩,hw33⟩:=hw3;have hbr3:=HBG.out dq3 osq3;rw [← hw33] at hbr3;clear l0 l1 l2 l3 l4 l5 cA hw33
            rename_i w7
            have HB7:=Hd (HBR5.out.trans (hbr3.mono HBR5.out.size));clear hbr3 z0 n0 n1x n2 n3 n4
            go_wp2_with fail
            go_roundw
            case rel=>exact⟨k+1,by omega,by go_num,HB7.out⟩
            case measure=>simp [intOf];omega
        · have hkn:k=na:=by omega
          subst hkn;clear hbr n0 n1x n2 n3 n4;generalize wr=wo2 at *
          go_wp2_with fail
          go_loopw [8] (fun c wr=>∃ m:Nat,m≤nq∧c=.int .i64 m∧Below w5.heap.size w5 wr) (fun c _=>nq-(intOf c).toNat)
          case atStart=>exact⟨0,Nat.zero_le _,rfl,HBR5.out⟩
          case round=>
           obtain⟨m,hm,rfl,hbr⟩:=hrel;have HBR6:=Hd hbr;have HWB6:=Hd (HW5.out.trans (hbr.mono HW5.out.size));have n4:=HN5.out wr hbr 4;simp only [Ya,Yb,Yc] at n4;clear hbr
           by_cases hmt:m<nq
           · obtain⟨bq,oq,rfl,hbq,hcq⟩:=RdS.at_ (HRN.out.2.2.2.below HWB6.out) (by omega);obtain⟨AN,cN,AA,cA,AB,cB,r1,r2,g0,g1,g2,g3,g4,g5,g6⟩:=(hcq m (by omega)).seven;have hms:(m:Int)<(nq:Int):=by omega
             have hm0:(0:Int)≤(m:Int):=by omega
             have HPA:=Hd (refParts (y.eqs[m]?.getD default).x AA cA AB cB wr wr r2 (Below.refl _ _) (HSX.out m (by omega)));have HOSM:=Hd (HOS.out m hmt);unfold PartsAt exA at HPA;have HPL:=Hd (partsX_len (y.eqs[m]?.getD default).x);clear hcq r1 r2;generalize (y.eqs[m]?.getD default).x=qx at *
             go_wp2_with fail
             refine HPA.out.mono ?_;rintro e w7 ⟨AP,cP,cs,rfl,hcel,hfl,hb7,-⟩;have HRP:=Hd (hcel.rd hfl hb7);have hpm:=hcel.2.1;have HBR7:=Hd (HBR6.out.trans (hb7.mono HBR6.out.size));have HWB7:=Hd (HWB6.out.trans (hb7.mono HWB6.out.size));clear hcel hfl hb7 g0 g1 g2 g3 g4 g5 g6 n4 HPA;generalize hpl:sizeX qx=np at *;generalize partsX qx=ps at *;generalize wr=wo3 at *
             go_wp2_with fail
             go_loopw [10] (fun c wr=>∃ u:Nat,u≤np∧c=.int .i64 u∧Below w7.heap.size w7 wr) (fun c _=>np-(intOf c).toNat)
             case atStart=>exact⟨0,Nat.zero_le _,rfl,Below.refl _ _⟩
             case round=>
              obtain⟨u,hu,rfl,hbr⟩:=hrel;have HBR8:=Hd hbr;have HWB8:=Hd (HWB7.out.trans (hbr.mono HWB7.out.size))
              by_cases hut:u<np
              · obtain⟨b6,o6,rfl,hb6,hat6⟩:=(HRP.out.below hbr).at_ hut;obtain⟨pA,pca,pB,pcb,hrg,hrd⟩:=hat6 u hut;obtain⟨z0,-,z2,-,-,-⟩:=rangeAt_six hrg;have HB38:=Hd (HP5.out.trans ((HBR7.out.trans (hbr.mono HBR7.out.size)).mono HP5.out.size));have y0:=HCE3.out wr HB38.out 0;have y1:=HCE3.out wr HB38.out 1;simp only [Ya,Yb,Yc] at y0 y1;have hup:u<ps.length:=by rw [HPL.out];exact hut
                have HCL:=Hd (HOSM.out (ps[u]?.getD default) (by rw [List.getElem?_eq_getElem hup];exact List.getElem_mem _));have HFW:=Hd fun W (b:Below wr.heap.size wr W)=>HFI.out (ps[u]?.getD default).s W (HWB8.out.trans (b.mono HWB8.out.size));have hus:(u:Int)<(np:Int):=by omega
                have hu0:(0:Int)≤(u:Int):=by omega
                clear hat6 hrg hrd hbr;generalize findN p (ps[u]?.getD default).s=fn at *;generalize (ps[u]?.getD default).s=s6 at *;generalize (ps[u]?.getD default).k=k6 at *
                cases hk13:(k6==13) with
                | true=>
                 obtain⟨f0,f1⟩:=HCL.out hk13;have hd1:decide (fn<0)=false:=decide_eq_false (by omega);have hd2:decide ((i:Int)≤fn)=false:=decide_eq_false (by omega)
                 go_upto_region 23 with(fail)
                 have HBG:=Hd fun d os=>below_regrown wr d os;have l0:=fun d os=>cell_regrown y0 d os;have l1:=fun d os=>cell_regrown y1 d os;have l2:=fun d os=>cell_regrown z0 d os;have l3:=fun d os=>cell_regrown z2 d os;have cA:=fun d os=>Calls.regrown_of (HFW.out (grow (redrawn wr d) os) (below_regrown wr d os));refine wp_region_quiet_below (by kernel_rfl) (by kernel_rfl) ?_
                 repeat (go_big_quiet_step (first | with_reducible exact cA _ _))
                 refine wpQuiet_nil ?_;intro _ hw3;obtain⟨⟨dq3,osq3⟩,hw33⟩:=hw3;have hbr3:=HBG.out dq3 osq3;rw [← hw33] at hbr3;clear l0 l1 l2 l3 cA hw33
                 rename_i w9
                 have HB9:=Hd (HBR8.out.trans (hbr3.mono HBR8.out.size));clear hbr3 z0 z2 y0 y1
                 go_wp2_with fail
                 go_roundw
                 case rel=>exact⟨u+1,by omega,by go_num,HB9.out⟩
                 case measure=>simp [intOf];omega
                | false=>
                 go_upto_region 23 with(fail)
                 have HBG:=Hd fun d os=>below_regrown wr d os;have l0:=fun d os=>cell_regrown y0 d os;have l1:=fun d os=>cell_regrown y1 d os;have l2:=fun d os=>cell_regrown z0 d os;have l3:=fun d os=>cell_regrown z2 d os;have cA:=fun d os=>Calls.regrown_of (HFW.out (grow (redrawn wr d) os) (below_regrown wr d os));refine wp_region_quiet_below (by kernel_rfl) (by kernel_rfl) ?_
                 repeat (go_big_quiet_step (first | with_reducible exact cA _ _))
                 refine wpQuiet_nil ?_;intro _ hw3;obtain⟨⟨dq3,osq3⟩,hw33⟩:=hw3;have hbr3:=HBG.out dq3 osq3;rw [← hw33] at hbr3;clear l0 l1 l2 l3 cA hw33
                 rename_i w9
                 have HB9:=Hd (HBR8.out.trans (hbr3.mono HBR8.out.size));clear hbr3 z0 z2 y0 y1
                 go_wp2_with fail
                 go_roundw
                 case rel=>exact⟨u+1,by omega,by go_num,HB9.out⟩
                 case measure=>simp [intOf];omega
              · have hun:u=np:=by omega
                have HB9:=Hd (HBR7.out.trans (hbr.mono HBR7.out.size));clear hbr
                go_wp2_with fail
                go_roundw
                case rel=>exact⟨m+1,by omega,by go_num,HB9.out⟩
                case measure=>simp [intOf];omega
           · have hmn:m=nq:=by omega
             have HB9:=Hd (HP5.out.trans (HBR6.out.mono HP5.out.size))
             go_wp2_with fail
             go_roundw
             case rel=>exact⟨i+1,by omega,by go_num,HB9.out⟩
             case measure=>simp [intOf];omega
     · have hin:i=pn:=by omega
       go_wp2_with fail
       refine(live_any wr).mono ?_;rintro e w9 ⟨rfl,hb9⟩;have HB9:=Hd (below_next HWB.out hb9);clear hb9
       go_wp2_with fail
       go_ret
       exact⟨rfl,HB9.out⟩
  · rcases fl_ne hz with ha | ⟨ha,hb⟩|⟨ha,hb,hc⟩
    · have ha2:(fa==0)=false:=by rw [bne_iff_ne] at ha;exact beq_eq_false_iff_ne.2 ha
      clear hz
      go_wp2_with fail
      refine(live_any w3).mono ?_;rintro e w9 ⟨rfl,hb9⟩;have HB9:=Hd (below_next HB3.out hb9);clear hb9
      go_wp2_with fail
      go_ret
      exact⟨rfl,HB9.out⟩
    · have hb2:(fb==0)=false:=by rw [bne_iff_ne] at hb;exact beq_eq_false_iff_ne.2 hb
      subst ha;clear hz
      go_wp2_with fail
      refine(live_any w3).mono ?_;rintro e w9 ⟨rfl,hb9⟩;have HB9:=Hd (below_next HB3.out hb9);clear hb9
      go_wp2_with fail
      go_ret
      exact⟨rfl,HB9.out⟩
    · have hc2:(fc==0)=false:=by rw [bne_iff_ne] at hc;exact beq_eq_false_iff_ne.2 hc
      subst ha hb;clear hz
      go_wp2_with fail
      refine(live_any w3).mono ?_;rintro e w9 ⟨rfl,hb9⟩;have HB9:=Hd (below_next HB3.out hb9);clear hb9
      go_wp2_with fail
      go_ret
      exact⟨rfl,HB9.out⟩
end
end Go.Proofs.Ytpehkppcdlboeaa
