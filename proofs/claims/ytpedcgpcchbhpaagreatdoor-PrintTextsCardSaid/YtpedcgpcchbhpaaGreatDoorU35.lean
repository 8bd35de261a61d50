/- Parts of the proof: SpE. Conditions: each theorem's own. -/
import Derived.Test.YtpedcgpcchbhpaaGreatDoorU34
namespace Go.Proofs.YtpedcgpcchbhpaaGreatDoor
set_option linter.unusedVariables false
set_option linter.unusedSimpArgs false
set_option maxRecDepth 100000
set_option maxHeartbeats 40000000
section
open Go.RowKit Go.Sort
section
variable {x:Ex}{A:Option Addr}{ca:Nat}{B:Option Addr}{cb:Nat}{w:World}
theorem text_1(H:ShH x A ca B cb w) (hkd:x.k=1):
 Calls Tryz.prog 86 #[.agg (exA x A ca B cb)] w fun e w'=>e=.returned (.string (ofB (textL x)))∧Below w.heap.size w w':=by
 have HF:=Hd fun w1 h=>box_facts w x A ca B cb w1 h H.rd;have HTS:=Hd H.texts;have HTX:=Hd (textL_eq x);have HAR:=Hd fun w1 (h:Below w.heap.size w w1)=>(H.rd.below h).arms;have HTB:=Hd fun w1 (h:Below w.heap.size w w1)=>H.tab.below h;have HLS:=Hd H.each;have HLA:=Hd H.all;have hf:=H.part;have hnum:=H.num;have hln:=H.len;clear H;unfold exA at HF ⊢;rw [hkd] at HF ⊢;generalize textL x=tx at *;generalize hlen:x.subs.length=n at *;have HLEN:=Hd hlen;clear hlen
 go_enter Tryz.func86,Tryz.ntmps86
 go_upto_region 1 with(fail)
 generalize hw1:w.alloc _=w1;obtain⟨hb1,hg,hr1,hcell⟩:=HF.out w1 hw1;have HB1:=Hd hb1;have HC:=Hd hcell;have q5:=hcell w1 (Below.refl _ _) 5;clear hcell hb1 hr1 hw1 HF
 go_wp2_with fail
 refine(HTS.out w1 HB1.out).mono ?_;rintro r w2 ⟨A1,c1,rfl,hR1,hnc,hb2⟩;have HR1:=Hd hR1;have HB2:=Hd (HB1.out.trans (hb2.mono HB1.out.size));obtain⟨q0,q1,q2,q3,q4,-⟩:=Sx (HC.out w2 hb2);have hgl:w.heap.size<w2.heap.size:=Nat.lt_of_lt_of_le hg hb2.size;clear hb2 hR1 q5 HTS HC;have HD:=Hd fun w h=>libInt x.n hnum.2.1 hnum.2.2 w h
 have HE:=Hd (show(⟨(Lib.itoa x.n).toArray⟩:ByteArray)=ofB tx by
  rw [HTX.out,hkd]
  simp [textK,leafT,ofB])
 have HTW:=Hd (HTB.out w2 HB2.out);clear HTX
 go_wp2_with fail
 refine(HD.out w2 HTW.out).mono ?_;rintro r w3 ⟨rfl,hb3⟩;have HB3:=Hd (HB2.out.trans (hb3.mono HB2.out.size));clear hb3
 go_wp2_with fail
 go_ret
 exact⟨ret_strV HE.out,HB3.out⟩
theorem text_2(H:ShH x A ca B cb w) (hkd:x.k=2):
 Calls Tryz.prog 86 #[.agg (exA x A ca B cb)] w fun e w'=>e=.returned (.string (ofB (textL x)))∧Below w.heap.size w w':=by
 have HF:=Hd fun w1 h=>box_facts w x A ca B cb w1 h H.rd;have HTS:=Hd H.texts;have HTX:=Hd (textL_eq x);have HAR:=Hd fun w1 (h:Below w.heap.size w w1)=>(H.rd.below h).arms;have HTB:=Hd fun w1 (h:Below w.heap.size w w1)=>H.tab.below h;have HLS:=Hd H.each;have HLA:=Hd H.all;have hf:=H.part;have hnum:=H.num;have hln:=H.len;clear H;unfold exA at HF ⊢;rw [hkd] at HF ⊢;generalize textL x=tx at *;generalize hlen:x.subs.length=n at *;have HLEN:=Hd hlen;clear hlen
 go_enter Tryz.func86,Tryz.ntmps86
 go_upto_region 1 with(fail)
 generalize hw1:w.alloc _=w1;obtain⟨hb1,hg,hr1,hcell⟩:=HF.out w1 hw1;have HB1:=Hd hb1;have HC:=Hd hcell;have q5:=hcell w1 (Below.refl _ _) 5;clear hcell hb1 hr1 hw1 HF
 go_wp2_with fail
 refine(HTS.out w1 HB1.out).mono ?_;rintro r w2 ⟨A1,c1,rfl,hR1,hnc,hb2⟩;have HR1:=Hd hR1;have HB2:=Hd (HB1.out.trans (hb2.mono HB1.out.size));obtain⟨q0,q1,q2,q3,q4,-⟩:=Sx (HC.out w2 hb2);have hgl:w.heap.size<w2.heap.size:=Nat.lt_of_lt_of_le hg hb2.size;clear hb2 hR1 q5 HTS HC;rcases hf.n2 (.inl hkd) with hn0 | hn1
 · have HD:=Hd fun w=>libBool false w
   have HE:=Hd (show(⟨(Lib.formatBool false).toArray⟩:ByteArray)=ofB tx by
    rw [HTX.out,hkd,hn0,fb_false]
    simp [textK,leafT])
   rw [hn0] at q1
   go_wp2_with fail
   refine(HD.out w2).mono ?_;rintro r w3 ⟨rfl,rfl⟩
   go_wp2_with fail
   go_ret
   exact⟨ret_strV HE.out,HB2.out⟩
 · have HD:=Hd fun w=>libBool true w
   have HE:=Hd (show(⟨(Lib.formatBool true).toArray⟩:ByteArray)=ofB tx by
    rw [HTX.out,hkd,hn1,fb_true]
    simp [textK,leafT])
   rw [hn1] at q1
   go_wp2_with fail
   refine(HD.out w2).mono ?_;rintro r w3 ⟨rfl,rfl⟩
   go_wp2_with fail
   go_ret
   exact⟨ret_strV HE.out,HB2.out⟩
theorem text_3(H:ShH x A ca B cb w) (hkd:x.k=3):
 Calls Tryz.prog 86 #[.agg (exA x A ca B cb)] w fun e w'=>e=.returned (.string (ofB (textL x)))∧Below w.heap.size w w':=by
 have HF:=Hd fun w1 h=>box_facts w x A ca B cb w1 h H.rd;have HTS:=Hd H.texts;have HTX:=Hd (textL_eq x);have HAR:=Hd fun w1 (h:Below w.heap.size w w1)=>(H.rd.below h).arms;have HTB:=Hd fun w1 (h:Below w.heap.size w w1)=>H.tab.below h;have HLS:=Hd H.each;have HLA:=Hd H.all;have hf:=H.part;have hnum:=H.num;have hln:=H.len;clear H;unfold exA at HF ⊢;rw [hkd] at HF ⊢;generalize textL x=tx at *;generalize hlen:x.subs.length=n at *;have HLEN:=Hd hlen;clear hlen
 go_enter Tryz.func86,Tryz.ntmps86
 go_upto_region 1 with(fail)
 generalize hw1:w.alloc _=w1;obtain⟨hb1,hg,hr1,hcell⟩:=HF.out w1 hw1;have HB1:=Hd hb1;have HC:=Hd hcell;have q5:=hcell w1 (Below.refl _ _) 5;clear hcell hb1 hr1 hw1 HF
 go_wp2_with fail
 refine(HTS.out w1 HB1.out).mono ?_;rintro r w2 ⟨A1,c1,rfl,hR1,hnc,hb2⟩;have HR1:=Hd hR1;have HB2:=Hd (HB1.out.trans (hb2.mono HB1.out.size));obtain⟨q0,q1,q2,q3,q4,-⟩:=Sx (HC.out w2 hb2);have hgl:w.heap.size<w2.heap.size:=Nat.lt_of_lt_of_le hg hb2.size;clear hb2 hR1 q5 HTS HC
 have HE:=Hd (show x.s=ofB tx by
  rw [HTX.out,hkd]
  simp [textK,leafT,ofB_self])
 clear HTX
 go_wp2_with fail
 go_ret
 exact⟨ret_strV HE.out,HB2.out⟩
theorem text_4(H:ShH x A ca B cb w) (hkd:x.k=4):
 Calls Tryz.prog 86 #[.agg (exA x A ca B cb)] w fun e w'=>e=.returned (.string (ofB (textL x)))∧Below w.heap.size w w':=by
 have HF:=Hd fun w1 h=>box_facts w x A ca B cb w1 h H.rd;have HTS:=Hd H.texts;have HTX:=Hd (textL_eq x);have HAR:=Hd fun w1 (h:Below w.heap.size w w1)=>(H.rd.below h).arms;have HTB:=Hd fun w1 (h:Below w.heap.size w w1)=>H.tab.below h;have HLS:=Hd H.each;have HLA:=Hd H.all;have hf:=H.part;have hnum:=H.num;have hln:=H.len;clear H;unfold exA at HF ⊢;rw [hkd] at HF ⊢;generalize textL x=tx at *;generalize hlen:x.subs.length=n at *;have HLEN:=Hd hlen;clear hlen
 go_enter Tryz.func86,Tryz.ntmps86
 go_upto_region 1 with(fail)
 generalize hw1:w.alloc _=w1;obtain⟨hb1,hg,hr1,hcell⟩:=HF.out w1 hw1;have HB1:=Hd hb1;have HC:=Hd hcell;have q5:=hcell w1 (Below.refl _ _) 5;clear hcell hb1 hr1 hw1 HF
 go_wp2_with fail
 refine(HTS.out w1 HB1.out).mono ?_;rintro r w2 ⟨A1,c1,rfl,hR1,hnc,hb2⟩;have HR1:=Hd hR1;have HB2:=Hd (HB1.out.trans (hb2.mono HB1.out.size));obtain⟨q0,q1,q2,q3,q4,-⟩:=Sx (HC.out w2 hb2);have hgl:w.heap.size<w2.heap.size:=Nat.lt_of_lt_of_le hg hb2.size;clear hb2 hR1 q5 HTS HC
 have HE:=Hd (show x.s=ofB tx by
  rw [HTX.out,hkd]
  simp [textK,leafT,ofB_self])
 clear HTX
 go_wp2_with fail
 go_ret
 exact⟨ret_strV HE.out,HB2.out⟩
theorem text_5(H:ShH x A ca B cb w) (hkd:x.k=5):
 Calls Tryz.prog 86 #[.agg (exA x A ca B cb)] w fun e w'=>e=.returned (.string (ofB (textL x)))∧Below w.heap.size w w':=by
 have HF:=Hd fun w1 h=>box_facts w x A ca B cb w1 h H.rd;have HTS:=Hd H.texts;have HTX:=Hd (textL_eq x);have HAR:=Hd fun w1 (h:Below w.heap.size w w1)=>(H.rd.below h).arms;have HTB:=Hd fun w1 (h:Below w.heap.size w w1)=>H.tab.below h;have HLS:=Hd H.each;have HLA:=Hd H.all;have hf:=H.part;have hnum:=H.num;have hln:=H.len;clear H;unfold exA at HF ⊢;rw [hkd] at HF ⊢;generalize textL x=tx at *;generalize hlen:x.subs.length=n at *;have HLEN:=Hd hlen;clear hlen
 go_enter Tryz.func86,Tryz.ntmps86
 go_upto_region 1 with(fail)
 generalize hw1:w.alloc _=w1;obtain⟨hb1,hg,hr1,hcell⟩:=HF.out w1 hw1;have HB1:=Hd hb1;have HC:=Hd hcell;have q5:=hcell w1 (Below.refl _ _) 5;clear hcell hb1 hr1 hw1 HF
 go_wp2_with fail
 refine(HTS.out w1 HB1.out).mono ?_;rintro r w2 ⟨A1,c1,rfl,hR1,hnc,hb2⟩;have HR1:=Hd hR1;have HB2:=Hd (HB1.out.trans (hb2.mono HB1.out.size));obtain⟨q0,q1,q2,q3,q4,-⟩:=Sx (HC.out w2 hb2);have hgl:w.heap.size<w2.heap.size:=Nat.lt_of_lt_of_le hg hb2.size;clear hb2 hR1 q5 HTS HC;obtain⟨ya,hab⟩:=len1 (subs_len hf (m:=1) (by simp [subsX,hkd]));have hk1:n=1:=by rw [← HLEN.out,hab];rfl
 subst hk1;obtain⟨b1,off1,rfl,hb1l,hat1⟩:=HR1.out.at_ (i:=0) (by omega);have HBL:=Hd hb1l;have t0:=hat1 0 (by omega);rw [txS_at (by rw [HLEN.out];omega),hab] at t0;simp only [List.getElem?_cons_succ,List.getElem?_cons_zero,Option.getD_some] at t0;have hz0:(ofB (textL ya)).size≤1300000:=by rw [ofB_sizeP];exact HLS.out ya (by rw [hab];simp)
 simp only [Nat.add_zero] at t0;have HUN:=Hd fun w=>shUnary x.op (ofB (textL ya)) w (hf.op5 hkd) (by omega)
 have HE:=Hd (show ofB (unL x.op (ofB (textL ya)).data.toList)=ofB tx by
  rw [HTX.out,hkd,hab,ofB_data]
  simp [textK,gT,unL])
 rw [HE.out] at HUN;clear hat1 HR1 HLS HLA HAR HTX hab HE;generalize ofB (textL ya)=sa at *;generalize x.op=op at *;have HBQ:=Hd fun d os=>HB2.out.trans ((below_regrown w2 d os).mono HB2.out.size);have cA:=fun d os=>Calls.regrown_of (HUN.out (grow (redrawn w2 d) os));have lt0:=fun d os=>cell_regrown t0 d os;have lq3:=fun d os=>cell_regrown q3 d os
 go_wp2_with fail
 refine wp_region_quiet_below (by kernel_rfl) (by kernel_rfl) ?_
 repeat (quiet_step (exact cA _ _))
 refine wpQuiet_nil ?_;intro _ hw';obtain⟨⟨dq,osq⟩,hw''⟩:=hw';subst hw'';have HBR:=Hd (HBQ.out dq osq);clear cA lt0 lq3;generalize grow (redrawn w2 dq) osq=wq at *
 go_wp2_with fail
 go_ret
 exact⟨rfl,HBR.out⟩
theorem text_6(H:ShH x A ca B cb w) (hkd:x.k=6):
 Calls Tryz.prog 86 #[.agg (exA x A ca B cb)] w fun e w'=>e=.returned (.string (ofB (textL x)))∧Below w.heap.size w w':=by
 have HF:=Hd fun w1 h=>box_facts w x A ca B cb w1 h H.rd;have HTS:=Hd H.texts;have HTX:=Hd (textL_eq x);have HAR:=Hd fun w1 (h:Below w.heap.size w w1)=>(H.rd.below h).arms;have HTB:=Hd fun w1 (h:Below w.heap.size w w1)=>H.tab.below h;have HLS:=Hd H.each;have HLA:=Hd H.all;have hf:=H.part;have hnum:=H.num;have hln:=H.len;clear H;unfold exA at HF ⊢;rw [hkd] at HF ⊢;generalize textL x=tx at *;generalize hlen:x.subs.length=n at *;have HLEN:=Hd hlen;clear hlen
 go_enter Tryz.func86,Tryz.ntmps86
 go_upto_region 1 with(fail)
 generalize hw1:w.alloc _=w1;obtain⟨hb1,hg,hr1,hcell⟩:=HF.out w1 hw1;have HB1:=Hd hb1;have HC:=Hd hcell;have q5:=hcell w1 (Below.refl _ _) 5;clear hcell hb1 hr1 hw1 HF
 go_wp2_with fail
 refine(HTS.out w1 HB1.out).mono ?_;rintro r w2 ⟨A1,c1,rfl,hR1,hnc,hb2⟩;have HR1:=Hd hR1;have HB2:=Hd (HB1.out.trans (hb2.mono HB1.out.size));obtain⟨q0,q1,q2,q3,q4,-⟩:=Sx (HC.out w2 hb2);have hgl:w.heap.size<w2.heap.size:=Nat.lt_of_lt_of_le hg hb2.size;clear hb2 hR1 q5 HTS HC;obtain⟨ya,yb,hab⟩:=len2 (subs_len hf (m:=2) (by simp [subsX,hkd]));have hk2:n=2:=by rw [← HLEN.out,hab];rfl
 subst hk2;obtain⟨b1,off1,rfl,hb1l,hat1⟩:=HR1.out.at_ (i:=0) (by omega);have HBL:=Hd hb1l;have t0:=hat1 0 (by omega);rw [txS_at (by rw [HLEN.out];omega),hab] at t0;simp only [List.getElem?_cons_succ,List.getElem?_cons_zero,Option.getD_some] at t0;have t1:=hat1 1 (by omega);rw [txS_at (by rw [HLEN.out];omega),hab] at t1;simp only [List.getElem?_cons_succ,List.getElem?_cons_zero,Option.getD_some] at t1;have hz0:(ofB (textL ya)).size≤1300000:=by rw [ofB_sizeP];exact HLS.out ya (by rw [hab];simp)
 have hz1:(ofB (textL yb)).size≤1300000:=by rw [ofB_sizeP];exact HLS.out yb (by rw [hab];simp)
 simp only [Nat.add_zero] at t0;obtain⟨ho1,ho2⟩:=hf.op6 hkd;have hsg:=sign_data x.op ho1 ho2;have hsz:=sign_size x.op ho1 ho2;have HSG:=Hd fun w=>arSign x.op w;generalize signS x.op=sg at *
 have HE:=Hd (show winS ⟨#[40]⟩ ⟨#[32]⟩ ⟨#[41]⟩ [ofB (textL ya),sg,ofB (textL yb)]=ofB tx from ba_ext (by
  rw [HTX.out,hkd,hab,ofB_data]
  simp [winS,jn_cons,Lib.joinTail,ofB_data,textK,gT,notL,ifL,thenL,elseL,preL,fbyL,arrL,withL,whenL,unL,hsg]))
 clear hat1 HR1 HLS HLA HAR HTX hab;generalize ofB (textL ya)=sa at *;generalize ofB (textL yb)=sb at *;generalize x.op=op at *;have hdsa:sa.data.toList.length=sa.size:=by simp
 have hdsg:sg.data.toList.length=sg.size:=by simp
 have hdsb:sb.data.toList.length=sb.size:=by simp
 have HPH:=Hd (phraseLit [sa,sg,sb] 3 (ofB tx) HE.out #[.string sa,.string sg,.string sb] rfl rfl (by decide) (by simp [jn_cons,Lib.joinTail];omega))
 go_wp2_with fail
 go_region_held3 (fun W=>W.cell? ⟨b1,off1,none⟩=some (.string sa)∧W.cell? ⟨b1,off1+1,none⟩=some (.string sb)∧W.cell? ⟨w.heap.size,3,none⟩=some (.int .i64 op)) (first | exact⟨t0,t1,q3⟩ | exact⟨(World.cell?_alloc_lt _ _ _ HBL.out).trans t0,(World.cell?_alloc_lt _ _ _ HBL.out).trans t1,(World.cell?_alloc_lt _ _ _ hgl).trans q3⟩ | exact⟨d0,d1,d2⟩)
  ((first
    | (go_at_call 121;refine(HSG.out (w2.drewN 1)).mono ?_;rintro r Wg ⟨rfl,rfl⟩)
    | (go_at_call 120;refine(HPH.out (w2.drewN 1)).mono ?_;rintro r Wd ⟨rfl,hbd⟩;have HBd:=Hd ((below_drewN HB2.out 1).trans (hbd.mono (below_drewN HB2.out 1).size));have HKd:=Hd ((below_drewN (Below.refl w2.heap.size w2) 1).trans (hbd.mono (below_drewN (Below.refl w2.heap.size w2) 1).size));clear hbd;have d0:=(HKd.out.cell HBL.out).trans t0;have d1:=(HKd.out.cell HBL.out).trans t1;have d2:=(HKd.out.cell hgl).trans q3)))
 go_wp2_with fail
 go_ret
 exact⟨rfl,HBd.out⟩
theorem text_7(H:ShH x A ca B cb w) (hkd:x.k=7):
 Calls Tryz.prog 86 #[.agg (exA x A ca B cb)] w fun e w'=>e=.returned (.string (ofB (textL x)))∧Below w.heap.size w w':=by
 have HF:=Hd fun w1 h=>box_facts w x A ca B cb w1 h H.rd;have HTS:=Hd H.texts;have HTX:=Hd (textL_eq x);have HAR:=Hd fun w1 (h:Below w.heap.size w w1)=>(H.rd.below h).arms;have HTB:=Hd fun w1 (h:Below w.heap.size w w1)=>H.tab.below h;have HLS:=Hd H.each;have HLA:=Hd H.all;have hf:=H.part;have hnum:=H.num;have hln:=H.len;clear H;unfold exA at HF ⊢;rw [hkd] at HF ⊢;generalize textL x=tx at *;generalize hlen:x.subs.length=n at *;have HLEN:=Hd hlen;clear hlen
 go_enter Tryz.func86,Tryz.ntmps86
 go_upto_region 1 with(fail)
 generalize hw1:w.alloc _=w1;obtain⟨hb1,hg,hr1,hcell⟩:=HF.out w1 hw1;have HB1:=Hd hb1;have HC:=Hd hcell;have q5:=hcell w1 (Below.refl _ _) 5;clear hcell hb1 hr1 hw1 HF
 go_wp2_with fail
 refine(HTS.out w1 HB1.out).mono ?_;rintro r w2 ⟨A1,c1,rfl,hR1,hnc,hb2⟩;have HR1:=Hd hR1;have HB2:=Hd (HB1.out.trans (hb2.mono HB1.out.size));obtain⟨q0,q1,q2,q3,q4,-⟩:=Sx (HC.out w2 hb2);have hgl:w.heap.size<w2.heap.size:=Nat.lt_of_lt_of_le hg hb2.size;clear hb2 hR1 q5 HTS HC;obtain⟨ya,yb,yc,hab⟩:=len3 (subs_len hf (m:=3) (by simp [subsX,hkd]));have hk3:n=3:=by rw [← HLEN.out,hab];rfl
 subst hk3;obtain⟨b1,off1,rfl,hb1l,hat1⟩:=HR1.out.at_ (i:=0) (by omega);have HBL:=Hd hb1l;have t0:=hat1 0 (by omega);rw [txS_at (by rw [HLEN.out];omega),hab] at t0;simp only [List.getElem?_cons_succ,List.getElem?_cons_zero,Option.getD_some] at t0;have t1:=hat1 1 (by omega);rw [txS_at (by rw [HLEN.out];omega),hab] at t1;simp only [List.getElem?_cons_succ,List.getElem?_cons_zero,Option.getD_some] at t1;have t2:=hat1 2 (by omega);rw [txS_at (by rw [HLEN.out];omega),hab] at t2;simp only [List.getElem?_cons_succ,List.getElem?_cons_zero,Option.getD_some] at t2;have hz0:(ofB (textL ya)).size≤1300000:=by rw [ofB_sizeP];exact HLS.out ya (by rw [hab];simp)
 have hz1:(ofB (textL yb)).size≤1300000:=by rw [ofB_sizeP];exact HLS.out yb (by rw [hab];simp)
 have hz2:(ofB (textL yc)).size≤1300000:=by rw [ofB_sizeP];exact HLS.out yc (by rw [hab];simp)
 simp only [Nat.add_zero] at t0
 have HE:=Hd (show winS ⟨#[40]⟩ ⟨#[32]⟩ ⟨#[41]⟩ [⟨#[105,102]⟩,ofB (textL ya),⟨#[116,104,101,110]⟩,ofB (textL yb),⟨#[101,108,115,101]⟩,ofB (textL yc)]=ofB tx from ba_ext (by
  rw [HTX.out,hkd,hab,ofB_data]
  simp [winS,jn_cons,Lib.joinTail,ofB_data,textK,gT,notL,ifL,thenL,elseL,preL,fbyL,arrL,withL,whenL,unL]))
 clear hat1 HR1 HLS HLA HAR HTX hab;generalize ofB (textL ya)=sa at *;generalize ofB (textL yb)=sb at *;generalize ofB (textL yc)=sc at *;have hdsa:sa.data.toList.length=sa.size:=by simp
 have hdsb:sb.data.toList.length=sb.size:=by simp
 have hdsc:sc.data.toList.length=sc.size:=by simp
 have HPH:=Hd (phraseLit [⟨#[105,102]⟩,sa,⟨#[116,104,101,110]⟩,sb,⟨#[101,108,115,101]⟩,sc] 6 (ofB tx) HE.out #[.string ⟨#[105,102]⟩,.string sa,.string ⟨#[116,104,101,110]⟩,.string sb,.string ⟨#[101,108,115,101]⟩,.string sc] rfl rfl (by decide) (by simp [jn_cons,Lib.joinTail];omega))
 go_wp2_with fail
 go_region_held3 (fun W=>W.cell? ⟨b1,off1,none⟩=some (.string sa)∧W.cell? ⟨b1,off1+1,none⟩=some (.string sb)∧W.cell? ⟨b1,off1+2,none⟩=some (.string sc)) (first | exact⟨t0,t1,t2⟩ | exact⟨(World.cell?_alloc_lt _ _ _ HBL.out).trans t0,(World.cell?_alloc_lt _ _ _ HBL.out).trans t1,(World.cell?_alloc_lt _ _ _ HBL.out).trans t2⟩ | exact⟨d0,d1,d2⟩)
  ((first
    | (go_at_call 120;refine(HPH.out (w2.drewN 1)).mono ?_;rintro r Wd ⟨rfl,hbd⟩;have HBd:=Hd ((below_drewN HB2.out 1).trans (hbd.mono (below_drewN HB2.out 1).size));have HKd:=Hd ((below_drewN (Below.refl w2.heap.size w2) 1).trans (hbd.mono (below_drewN (Below.refl w2.heap.size w2) 1).size));clear hbd;have d0:=(HKd.out.cell HBL.out).trans t0;have d1:=(HKd.out.cell HBL.out).trans t1;have d2:=(HKd.out.cell HBL.out).trans t2)))
 go_wp2_with fail
 go_ret
 exact⟨rfl,HBd.out⟩
theorem text_8(H:ShH x A ca B cb w) (hkd:x.k=8):
 Calls Tryz.prog 86 #[.agg (exA x A ca B cb)] w fun e w'=>e=.returned (.string (ofB (textL x)))∧Below w.heap.size w w':=by
 have HF:=Hd fun w1 h=>box_facts w x A ca B cb w1 h H.rd;have HTS:=Hd H.texts;have HTX:=Hd (textL_eq x);have HAR:=Hd fun w1 (h:Below w.heap.size w w1)=>(H.rd.below h).arms;have HTB:=Hd fun w1 (h:Below w.heap.size w w1)=>H.tab.below h;have HLS:=Hd H.each;have HLA:=Hd H.all;have hf:=H.part;have hnum:=H.num;have hln:=H.len;clear H;unfold exA at HF ⊢;rw [hkd] at HF ⊢;generalize textL x=tx at *;generalize hlen:x.subs.length=n at *;have HLEN:=Hd hlen;clear hlen
 go_enter Tryz.func86,Tryz.ntmps86
 go_upto_region 1 with(fail)
 generalize hw1:w.alloc _=w1;obtain⟨hb1,hg,hr1,hcell⟩:=HF.out w1 hw1;have HB1:=Hd hb1;have HC:=Hd hcell;have q5:=hcell w1 (Below.refl _ _) 5;clear hcell hb1 hr1 hw1 HF
 go_wp2_with fail
 refine(HTS.out w1 HB1.out).mono ?_;rintro r w2 ⟨A1,c1,rfl,hR1,hnc,hb2⟩;have HR1:=Hd hR1;have HB2:=Hd (HB1.out.trans (hb2.mono HB1.out.size));obtain⟨q0,q1,q2,q3,q4,-⟩:=Sx (HC.out w2 hb2);have hgl:w.heap.size<w2.heap.size:=Nat.lt_of_lt_of_le hg hb2.size;clear hb2 hR1 q5 HTS HC;obtain⟨ya,yb,hab⟩:=len2 (subs_len hf (m:=2) (by simp [subsX,hkd]));have hk2:n=2:=by rw [← HLEN.out,hab];rfl
 subst hk2;obtain⟨b1,off1,rfl,hb1l,hat1⟩:=HR1.out.at_ (i:=0) (by omega);have HBL:=Hd hb1l;have t0:=hat1 0 (by omega);rw [txS_at (by rw [HLEN.out];omega),hab] at t0;simp only [List.getElem?_cons_succ,List.getElem?_cons_zero,Option.getD_some] at t0;have t1:=hat1 1 (by omega);rw [txS_at (by rw [HLEN.out];omega),hab] at t1;simp only [List.getElem?_cons_succ,List.getElem?_cons_zero,Option.getD_some] at t1;have hz0:(ofB (textL ya)).size≤1300000:=by rw [ofB_sizeP];exact HLS.out ya (by rw [hab];simp)
 have hz1:(ofB (textL yb)).size≤1300000:=by rw [ofB_sizeP];exact HLS.out yb (by rw [hab];simp)
 simp only [Nat.add_zero] at t0
 have HE:=Hd (show winS ⟨#[40]⟩ ⟨#[32]⟩ ⟨#[41]⟩ [ofB (textL ya),⟨#[102,98,121]⟩,ofB (textL yb)]=ofB tx from ba_ext (by
  rw [HTX.out,hkd,hab,ofB_data]
  simp [winS,jn_cons,Lib.joinTail,ofB_data,textK,gT,notL,ifL,thenL,elseL,preL,fbyL,arrL,withL,whenL,unL]))
 clear hat1 HR1 HLS HLA HAR HTX hab;generalize ofB (textL ya)=sa at *;generalize ofB (textL yb)=sb at *;have hdsa:sa.data.toList.length=sa.size:=by simp
 have hdsb:sb.data.toList.length=sb.size:=by simp
 have HPH:=Hd (phraseLit [sa,⟨#[102,98,121]⟩,sb] 3 (ofB tx) HE.out #[.string sa,.string ⟨#[102,98,121]⟩,.string sb] rfl rfl (by decide) (by simp [jn_cons,Lib.joinTail];omega))
 go_wp2_with fail
 go_region_held3 (fun W=>W.cell? ⟨b1,off1,none⟩=some (.string sa)∧W.cell? ⟨b1,off1+1,none⟩=some (.string sb)) (first | exact⟨t0,t1⟩ | exact⟨(World.cell?_alloc_lt _ _ _ HBL.out).trans t0,(World.cell?_alloc_lt _ _ _ HBL.out).trans t1⟩ | exact⟨d0,d1⟩)
  ((first
    | (go_at_call 120;refine(HPH.out (w2.drewN 1)).mono ?_;rintro r Wd ⟨rfl,hbd⟩;have HBd:=Hd ((below_drewN HB2.out 1).trans (hbd.mono (below_drewN HB2.out 1).size));have HKd:=Hd ((below_drewN (Below.refl w2.heap.size w2) 1).trans (hbd.mono (below_drewN (Below.refl w2.heap.size w2) 1).size));clear hbd;have d0:=(HKd.out.cell HBL.out).trans t0;have d1:=(HKd.out.cell HBL.out).trans t1)))
 go_wp2_with fail
 go_ret
 exact⟨rfl,HBd.out⟩
theorem text_9(H:ShH x A ca B cb w) (hkd:x.k=9):
 Calls Tryz.prog 86 #[.agg (exA x A ca B cb)] w fun e w'=>e=.returned (.string (ofB (textL x)))∧Below w.heap.size w w':=by
 have HF:=Hd fun w1 h=>box_facts w x A ca B cb w1 h H.rd;have HTS:=Hd H.texts;have HTX:=Hd (textL_eq x);have HAR:=Hd fun w1 (h:Below w.heap.size w w1)=>(H.rd.below h).arms;have HTB:=Hd fun w1 (h:Below w.heap.size w w1)=>H.tab.below h;have HLS:=Hd H.each;have HLA:=Hd H.all;have hf:=H.part;have hnum:=H.num;have hln:=H.len;clear H;unfold exA at HF ⊢;rw [hkd] at HF ⊢;generalize textL x=tx at *;generalize hlen:x.subs.length=n at *;have HLEN:=Hd hlen;clear hlen
 go_enter Tryz.func86,Tryz.ntmps86
 go_upto_region 1 with(fail)
 generalize hw1:w.alloc _=w1;obtain⟨hb1,hg,hr1,hcell⟩:=HF.out w1 hw1;have HB1:=Hd hb1;have HC:=Hd hcell;have q5:=hcell w1 (Below.refl _ _) 5;clear hcell hb1 hr1 hw1 HF
 go_wp2_with fail
 refine(HTS.out w1 HB1.out).mono ?_;rintro r w2 ⟨A1,c1,rfl,hR1,hnc,hb2⟩;have HR1:=Hd hR1;have HB2:=Hd (HB1.out.trans (hb2.mono HB1.out.size));obtain⟨q0,q1,q2,q3,q4,-⟩:=Sx (HC.out w2 hb2);have hgl:w.heap.size<w2.heap.size:=Nat.lt_of_lt_of_le hg hb2.size;clear hb2 hR1 q5 HTS HC;obtain⟨ya,yb,hab⟩:=len2 (subs_len hf (m:=2) (by simp [subsX,hkd]));have hk2:n=2:=by rw [← HLEN.out,hab];rfl
 subst hk2;obtain⟨b1,off1,rfl,hb1l,hat1⟩:=HR1.out.at_ (i:=0) (by omega);have HBL:=Hd hb1l;have t0:=hat1 0 (by omega);rw [txS_at (by rw [HLEN.out];omega),hab] at t0;simp only [List.getElem?_cons_succ,List.getElem?_cons_zero,Option.getD_some] at t0;have t1:=hat1 1 (by omega);rw [txS_at (by rw [HLEN.out];omega),hab] at t1;simp only [List.getElem?_cons_succ,List.getElem?_cons_zero,Option.getD_some] at t1;have hz0:(ofB (textL ya)).size≤1300000:=by rw [ofB_sizeP];exact HLS.out ya (by rw [hab];simp)
 have hz1:(ofB (textL yb)).size≤1300000:=by rw [ofB_sizeP];exact HLS.out yb (by rw [hab];simp)
 simp only [Nat.add_zero] at t0
 have HE:=Hd (show winS ⟨#[40]⟩ ⟨#[32]⟩ ⟨#[41]⟩ [ofB (textL ya),⟨#[45,62]⟩,ofB (textL yb)]=ofB tx from ba_ext (by
  rw [HTX.out,hkd,hab,ofB_data]
  simp [winS,jn_cons,Lib.joinTail,ofB_data,textK,gT,notL,ifL,thenL,elseL,preL,fbyL,arrL,withL,whenL,unL]))
 clear hat1 HR1 HLS HLA HAR HTX hab;generalize ofB (textL ya)=sa at *;generalize ofB (textL yb)=sb at *;have hdsa:sa.data.toList.length=sa.size:=by simp
 have hdsb:sb.data.toList.length=sb.size:=by simp
 have HPH:=Hd (phraseLit [sa,⟨#[45,62]⟩,sb] 3 (ofB tx) HE.out #[.string sa,.string ⟨#[45,62]⟩,.string sb] rfl rfl (by decide) (by simp [jn_cons,Lib.joinTail];omega))
 go_wp2_with fail
 go_region_held3 (fun W=>W.cell? ⟨b1,off1,none⟩=some (.string sa)∧W.cell? ⟨b1,off1+1,none⟩=some (.string sb)) (first | exact⟨t0,t1⟩ | exact⟨(World.cell?_alloc_lt _ _ _ HBL.out).trans t0,(World.cell?_alloc_lt _ _ _ HBL.out).trans t1⟩ | exact⟨d0,d1⟩)
  ((first
    | (go_at_call 120;refine(HPH.out (w2.drewN 1)).mono ?_;rintro r Wd ⟨rfl,hbd⟩;have HBd:=Hd ((below_drewN HB2.out 1).trans (hbd.mono (below_drewN HB2.out 1).size));have HKd:=Hd ((below_drewN (Below.refl w2.heap.size w2) 1).trans (hbd.mono (below_drewN (Below.refl w2.heap.size w2) 1).size));clear hbd;have d0:=(HKd.out.cell HBL.out).trans t0;have d1:=(HKd.out.cell HBL.out).trans t1)))
 go_wp2_with fail
 go_ret
 exact⟨rfl,HBd.out⟩
theorem text_10(H:ShH x A ca B cb w) (hkd:x.k=10):
 Calls Tryz.prog 86 #[.agg (exA x A ca B cb)] w fun e w'=>e=.returned (.string (ofB (textL x)))∧Below w.heap.size w w':=by
 have HF:=Hd fun w1 h=>box_facts w x A ca B cb w1 h H.rd;have HTS:=Hd H.texts;have HTX:=Hd (textL_eq x);have HAR:=Hd fun w1 (h:Below w.heap.size w w1)=>(H.rd.below h).arms;have HTB:=Hd fun w1 (h:Below w.heap.size w w1)=>H.tab.below h;have HLS:=Hd H.each;have HLA:=Hd H.all;have hf:=H.part;have hnum:=H.num;have hln:=H.len;clear H;unfold exA at HF ⊢;rw [hkd] at HF ⊢;generalize textL x=tx at *;generalize hlen:x.subs.length=n at *;have HLEN:=Hd hlen;clear hlen
 go_enter Tryz.func86,Tryz.ntmps86
 go_upto_region 1 with(fail)
 generalize hw1:w.alloc _=w1;obtain⟨hb1,hg,hr1,hcell⟩:=HF.out w1 hw1;have HB1:=Hd hb1;have HC:=Hd hcell;have q5:=hcell w1 (Below.refl _ _) 5;clear hcell hb1 hr1 hw1 HF
 go_wp2_with fail
 refine(HTS.out w1 HB1.out).mono ?_;rintro r w2 ⟨A1,c1,rfl,hR1,hnc,hb2⟩;have HR1:=Hd hR1;have HB2:=Hd (HB1.out.trans (hb2.mono HB1.out.size));obtain⟨q0,q1,q2,q3,q4,-⟩:=Sx (HC.out w2 hb2);have hgl:w.heap.size<w2.heap.size:=Nat.lt_of_lt_of_le hg hb2.size;clear hb2 hR1 q5 HTS HC;obtain⟨ya,hab⟩:=len1 (subs_len hf (m:=1) (by simp [subsX,hkd]));have hk1:n=1:=by rw [← HLEN.out,hab];rfl
 subst hk1;obtain⟨b1,off1,rfl,hb1l,hat1⟩:=HR1.out.at_ (i:=0) (by omega);have HBL:=Hd hb1l;have t0:=hat1 0 (by omega);rw [txS_at (by rw [HLEN.out];omega),hab] at t0;simp only [List.getElem?_cons_succ,List.getElem?_cons_zero,Option.getD_some] at t0;have hz0:(ofB (textL ya)).size≤1300000:=by rw [ofB_sizeP];exact HLS.out ya (by rw [hab];simp)
 simp only [Nat.add_zero] at t0
 have HE:=Hd (show winS ⟨#[40]⟩ ⟨#[32]⟩ ⟨#[41]⟩ [⟨#[112,114,101]⟩,ofB (textL ya)]=ofB tx from ba_ext (by
  rw [HTX.out,hkd,hab,ofB_data]
  simp [winS,jn_cons,Lib.joinTail,ofB_data,textK,gT,notL,ifL,thenL,elseL,preL,fbyL,arrL,withL,whenL,unL]))
 clear hat1 HR1 HLS HLA HAR HTX hab;generalize ofB (textL ya)=sa at *;have hdsa:sa.data.toList.length=sa.size:=by simp
 have HPH:=Hd (phraseLit [⟨#[112,114,101]⟩,sa] 2 (ofB tx) HE.out #[.string ⟨#[112,114,101]⟩,.string sa] rfl rfl (by decide) (by simp [jn_cons,Lib.joinTail];omega))
 go_wp2_with fail
 refine(HPH.out w2).mono ?_;rintro r w3 ⟨rfl,hb3⟩;have HB3:=Hd (HB2.out.trans (hb3.mono HB2.out.size));clear hb3
 go_wp2_with fail
 go_ret
 exact⟨rfl,HB3.out⟩
theorem text_11(H:ShH x A ca B cb w) (hkd:x.k=11):
 Calls Tryz.prog 86 #[.agg (exA x A ca B cb)] w fun e w'=>e=.returned (.string (ofB (textL x)))∧Below w.heap.size w w':=by
 have HF:=Hd fun w1 h=>box_facts w x A ca B cb w1 h H.rd;have HTS:=Hd H.texts;have HTX:=Hd (textL_eq x);have HAR:=Hd fun w1 (h:Below w.heap.size w w1)=>(H.rd.below h).arms;have HTB:=Hd fun w1 (h:Below w.heap.size w w1)=>H.tab.below h;have HLS:=Hd H.each;have HLA:=Hd H.all;have hf:=H.part;have hnum:=H.num;have hln:=H.len;clear H;unfold exA at HF ⊢;rw [hkd] at HF ⊢;generalize textL x=tx at *;generalize hlen:x.subs.length=n at *;have HLEN:=Hd hlen;clear hlen
 go_enter Tryz.func86,Tryz.ntmps86
 go_upto_region 1 with(fail)
 generalize hw1:w.alloc _=w1;obtain⟨hb1,hg,hr1,hcell⟩:=HF.out w1 hw1;have HB1:=Hd hb1;have HC:=Hd hcell;have q5:=hcell w1 (Below.refl _ _) 5;clear hcell hb1 hr1 hw1 HF
 go_wp2_with fail
 refine(HTS.out w1 HB1.out).mono ?_;rintro r w2 ⟨A1,c1,rfl,hR1,hnc,hb2⟩;have HR1:=Hd hR1;have HB2:=Hd (HB1.out.trans (hb2.mono HB1.out.size));obtain⟨q0,q1,q2,q3,q4,-⟩:=Sx (HC.out w2 hb2);have hgl:w.heap.size<w2.heap.size:=Nat.lt_of_lt_of_le hg hb2.size;clear hb2 hR1 q5 HTS HC;obtain⟨ya,hab⟩:=len1 (subs_len hf (m:=1) (by simp [subsX,hkd]));have hk1:n=1:=by rw [← HLEN.out,hab];rfl
 subst hk1;obtain⟨b1,off1,rfl,hb1l,hat1⟩:=HR1.out.at_ (i:=0) (by omega);have HBL:=Hd hb1l;have t0:=hat1 0 (by omega);rw [txS_at (by rw [HLEN.out];omega),hab] at t0;simp only [List.getElem?_cons_succ,List.getElem?_cons_zero,Option.getD_some] at t0;have hz0:(ofB (textL ya)).size≤1300000:=by rw [ofB_sizeP];exact HLS.out ya (by rw [hab];simp)
 simp only [Nat.add_zero] at t0
 obtain⟨m,hm⟩:∃ m,x.arms=[m]:=by
  have h:=hf.a11 hkd
  match hl:x.arms,h with
  | [m],_=>exact⟨m,rfl⟩
 have hma:=arm_len (hf.arms m (by rw [hm];simp));have hms:m.size≤12:=by simpa using hma
 have har:=HAR.out w2 HB2.out;rw [hm] at har q4;simp only [List.length_cons,List.length_nil,Nat.zero_add] at har q4;obtain⟨b2,off2,hA2,hb2l,hat2⟩:=har.at_ (i:=0) (by omega);subst hA2;have HBM:=Hd hb2l;have m0:=hat2 0 (by omega);simp only [List.getElem?_cons_zero,Option.getD_some,Nat.add_zero] at m0;have hns:x.s.size≤1000:=hnum.1
 have hso:(ofB (onL x.s.data.toList m.data.toList)).size≤1018:=by
  rw [ofB_sizeP];have h1:=on_len (s:=x.s.data.toList) (m:=m.data.toList);have h2:x.s.data.toList.length=x.s.size:=by simp
  omega
 have HON:=Hd fun w=>shOn x.s m w (by omega) (by omega)
 have HE:=Hd (show winS ⟨#[40]⟩ ⟨#[32]⟩ ⟨#[41]⟩ [ofB (textL ya),⟨#[119,104,101,110]⟩,ofB (onL x.s.data.toList m.data.toList)]=ofB tx from ba_ext (by
  rw [HTX.out,hkd,hab,hm,ofB_data]
  simp [winS,jn_cons,Lib.joinTail,ofB_data,textK,gT,notL,ifL,thenL,elseL,preL,fbyL,arrL,withL,whenL,unL]))
 clear hat1 HR1 HLS HLA HAR HTX hab;generalize ofB (textL ya)=sa at *;clear hat2 har hma;generalize ofB (onL x.s.data.toList m.data.toList)=so at *;generalize x.s=nm at *;have hdsa:sa.data.toList.length=sa.size:=by simp
 have hdso:so.data.toList.length=so.size:=by simp
 have HPH:=Hd (phraseLit [sa,⟨#[119,104,101,110]⟩,so] 3 (ofB tx) HE.out #[.string sa,.string ⟨#[119,104,101,110]⟩,.string so] rfl rfl (by decide) (by simp [jn_cons,Lib.joinTail];omega))
 go_wp2_with fail
 go_region_held3 (fun W=>W.cell? ⟨b1,off1,none⟩=some (.string sa)∧W.cell? ⟨w.heap.size,2,none⟩=some (.string nm)∧W.cell? ⟨w.heap.size,4,none⟩=some (.slice (some ⟨b2,off2,none⟩) 1 ca)∧W.cell? ⟨b2,off2,none⟩=some (.string m)) (first | exact⟨t0,q2,q4,m0⟩ | exact⟨g0,g1,g2,g3⟩ | exact⟨(World.cell?_alloc_lt _ _ _ lg0).trans g0,(World.cell?_alloc_lt _ _ _ lg1).trans g1,(World.cell?_alloc_lt _ _ _ lg2).trans g2,(World.cell?_alloc_lt _ _ _ lg3).trans g3⟩ | exact⟨d0,d1,d2,d3⟩)
  ((first
    | (go_at_call 26;refine(HON.out (w2.drewN 1)).mono ?_;rintro r Wg ⟨rfl,hbg⟩;have HBg:=Hd ((below_drewN HB2.out 1).trans (hbg.mono (below_drewN HB2.out 1).size));have HKg:=Hd ((below_drewN (Below.refl w2.heap.size w2) 1).trans (hbg.mono (below_drewN (Below.refl w2.heap.size w2) 1).size));clear hbg;have g0:=(HKg.out.cell HBL.out).trans t0;have lg0:b1<Wg.heap.size:=Nat.lt_of_lt_of_le HBL.out HKg.out.size;have g1:=(HKg.out.cell hgl).trans q2;have lg1:w.heap.size<Wg.heap.size:=Nat.lt_of_lt_of_le hgl HKg.out.size;have g2:=(HKg.out.cell hgl).trans q4;have lg2:w.heap.size<Wg.heap.size:=Nat.lt_of_lt_of_le hgl HKg.out.size;have g3:=(HKg.out.cell HBM.out).trans m0;have lg3:b2<Wg.heap.size:=Nat.lt_of_lt_of_le HBM.out HKg.out.size)
    | (go_at_call 120;refine(HPH.out Wg).mono ?_;rintro r Wd ⟨rfl,hbd⟩;have HBd:=Hd (HBg.out.trans (hbd.mono HBg.out.size));have HKd:=Hd (HKg.out.trans (hbd.mono HKg.out.size));clear hbd;have d0:=(HKd.out.cell HBL.out).trans t0;have d1:=(HKd.out.cell hgl).trans q2;have d2:=(HKd.out.cell hgl).trans q4;have d3:=(HKd.out.cell HBM.out).trans m0)))
 go_wp2_with fail
 go_ret
 exact⟨rfl,HBd.out⟩
theorem text_12(H:ShH x A ca B cb w) (hkd:x.k=12):
 Calls Tryz.prog 86 #[.agg (exA x A ca B cb)] w fun e w'=>e=.returned (.string (ofB (textL x)))∧Below w.heap.size w w':=by
 have HF:=Hd fun w1 h=>box_facts w x A ca B cb w1 h H.rd;have HTS:=Hd H.texts;have HTX:=Hd (textL_eq x);have HAR:=Hd fun w1 (h:Below w.heap.size w w1)=>(H.rd.below h).arms;have HTB:=Hd fun w1 (h:Below w.heap.size w w1)=>H.tab.below h;have HLS:=Hd H.each;have HLA:=Hd H.all;have hf:=H.part;have hnum:=H.num;have hln:=H.len;clear H;unfold exA at HF ⊢;rw [hkd] at HF ⊢;generalize textL x=tx at *;generalize hlen:x.subs.length=n at *;have HLEN:=Hd hlen;clear hlen
 go_enter Tryz.func86,Tryz.ntmps86
 go_upto_region 1 with(fail)
 generalize hw1:w.alloc _=w1;obtain⟨hb1,hg,hr1,hcell⟩:=HF.out w1 hw1;have HB1:=Hd hb1;have HC:=Hd hcell;have q5:=hcell w1 (Below.refl _ _) 5;clear hcell hb1 hr1 hw1 HF
 go_wp2_with fail
 refine(HTS.out w1 HB1.out).mono ?_;rintro r w2 ⟨A1,c1,rfl,hR1,hnc,hb2⟩;have HR1:=Hd hR1;have HB2:=Hd (HB1.out.trans (hb2.mono HB1.out.size));obtain⟨q0,q1,q2,q3,q4,-⟩:=Sx (HC.out w2 hb2);have hgl:w.heap.size<w2.heap.size:=Nat.lt_of_lt_of_le hg hb2.size;clear hb2 hR1 q5 HTS HC
 have hla:x.arms.length=n:=by
  have h1:=hf.hi;have h2:=hf.lo;rw [show subsX x=((x.arms.length:Int),(x.arms.length:Int)) by simp [subsX,hkd],HLEN.out] at h1 h2;simp only at h1 h2;omega
 have har:=HAR.out w2 HB2.out
 have HCL:=Hd (shMerge x.s A n ca x.arms A1 c1 (txS x.subs) w2 (by rw [← hla];exact har) HR1.out hln hnum.1 (fun a ha=>by have:=arm_len (hf.arms a ha);simpa using this) (fun t ht=>by
  obtain⟨y,hy,rfl⟩:=List.mem_map.1 ht;rw [ofB_sizeP];have:=HLS.out y hy;omega) (by rw [dL_txS];have:=HLA.out;omega))
 have HE:=Hd (show ofB (40::(mergeL++32::(x.s.data.toList++(armsT (dL x.arms) (dL (txS x.subs))++[41]))))=ofB tx by
  rw [HTX.out,hkd,dL_txS]
  simp [textK,dL])
 rw [HE.out] at HCL;rw [hla] at q4;clear HTX har HE hla HAR
 go_wp2_with fail
 refine HCL.out.mono ?_;rintro r w3 ⟨rfl,hb3⟩;have HB3:=Hd (HB2.out.trans (hb3.mono HB2.out.size));clear hb3
 go_wp2_with fail
 go_ret
 exact⟨rfl,HB3.out⟩
theorem text_13(H:ShH x A ca B cb w) (hkd:x.k=13):
 Calls Tryz.prog 86 #[.agg (exA x A ca B cb)] w fun e w'=>e=.returned (.string (ofB (textL x)))∧Below w.heap.size w w':=by
 have HF:=Hd fun w1 h=>box_facts w x A ca B cb w1 h H.rd;have HTS:=Hd H.texts;have HTX:=Hd (textL_eq x);have HAR:=Hd fun w1 (h:Below w.heap.size w w1)=>(H.rd.below h).arms;have HTB:=Hd fun w1 (h:Below w.heap.size w w1)=>H.tab.below h;have HLS:=Hd H.each;have HLA:=Hd H.all;have hf:=H.part;have hnum:=H.num;have hln:=H.len;clear H;unfold exA at HF ⊢;rw [hkd] at HF ⊢;generalize textL x=tx at *;generalize hlen:x.subs.length=n at *;have HLEN:=Hd hlen;clear hlen
 go_enter Tryz.func86,Tryz.ntmps86
 go_upto_region 1 with(fail)
 generalize hw1:w.alloc _=w1;obtain⟨hb1,hg,hr1,hcell⟩:=HF.out w1 hw1;have HB1:=Hd hb1;have HC:=Hd hcell;have q5:=hcell w1 (Below.refl _ _) 5;clear hcell hb1 hr1 hw1 HF
 go_wp2_with fail
 refine(HTS.out w1 HB1.out).mono ?_;rintro r w2 ⟨A1,c1,rfl,hR1,hnc,hb2⟩;have HR1:=Hd hR1;have HB2:=Hd (HB1.out.trans (hb2.mono HB1.out.size));obtain⟨q0,q1,q2,q3,q4,-⟩:=Sx (HC.out w2 hb2);have hgl:w.heap.size<w2.heap.size:=Nat.lt_of_lt_of_le hg hb2.size;clear hb2 hR1 q5 HTS HC;rcases hf.n2 (.inr hkd) with hn0 | hn1
 · have HCL:=Hd (shCall0 x.s A1 n c1 (txS x.subs) w2 HR1.out hln hnc hnum.1 (by rw [dL_txS];have:=HLA.out;omega))
   have HE:=Hd (show ofB (callT 0 x.s.data.toList (dL (txS x.subs)))=ofB tx by
    rw [HTX.out,hkd,hn0,dL_txS]
    simp [textK])
   rw [HE.out] at HCL;rw [hn0] at q1;clear HTX HE
   go_wp2_with fail
   refine HCL.out.mono ?_;rintro r w3 ⟨rfl,hb3⟩;have HB3:=Hd (HB2.out.trans (hb3.mono HB2.out.size));clear hb3
   go_wp2_with fail
   go_ret
   exact⟨rfl,HB3.out⟩
 · obtain⟨m,rfl⟩:∃ m,n=m+1:=by
    have h:=hf.lo;rw [show subsX x=(x.n,6+x.n) by simp [subsX,hkd],hn1,HLEN.out] at h
    simp at h
    exact⟨n-1,by omega⟩
   have HCL:=Hd (shCall1 x.s A1 m c1 (txS x.subs) w2 HR1.out hln hnc hnum.1 (by rw [dL_txS];have:=HLA.out;omega))
   have HE:=Hd (show ofB (callT 1 x.s.data.toList (dL (txS x.subs)))=ofB tx by
    rw [HTX.out,hkd,hn1,dL_txS]
    simp [textK])
   rw [HE.out] at HCL;rw [hn1] at q1;clear HTX HE
   go_wp2_with fail
   refine HCL.out.mono ?_;rintro r w3 ⟨rfl,hb3⟩;have HB3:=Hd (HB2.out.trans (hb3.mono HB2.out.size));clear hb3
   go_wp2_with fail
   go_ret
   exact⟨rfl,HB3.out⟩
theorem text_14(H:ShH x A ca B cb w) (hkd:x.k=14):
 Calls Tryz.prog 86 #[.agg (exA x A ca B cb)] w fun e w'=>e=.returned (.string (ofB (textL x)))∧Below w.heap.size w w':=by
 have HF:=Hd fun w1 h=>box_facts w x A ca B cb w1 h H.rd;have HTS:=Hd H.texts;have HTX:=Hd (textL_eq x);have HAR:=Hd fun w1 (h:Below w.heap.size w w1)=>(H.rd.below h).arms;have HTB:=Hd fun w1 (h:Below w.heap.size w w1)=>H.tab.below h;have HLS:=Hd H.each;have HLA:=Hd H.all;have hf:=H.part;have hnum:=H.num;have hln:=H.len;clear H;unfold exA at HF ⊢;rw [hkd] at HF ⊢;generalize textL x=tx at *;generalize hlen:x.subs.length=n at *;have HLEN:=Hd hlen;clear hlen
 go_enter Tryz.func86,Tryz.ntmps86
 go_upto_region 1 with(fail)
 generalize hw1:w.alloc _=w1;obtain⟨hb1,hg,hr1,hcell⟩:=HF.out w1 hw1;have HB1:=Hd hb1;have HC:=Hd hcell;have q5:=hcell w1 (Below.refl _ _) 5;clear hcell hb1 hr1 hw1 HF
 go_wp2_with fail
 refine(HTS.out w1 HB1.out).mono ?_;rintro r w2 ⟨A1,c1,rfl,hR1,hnc,hb2⟩;have HR1:=Hd hR1;have HB2:=Hd (HB1.out.trans (hb2.mono HB1.out.size));obtain⟨q0,q1,q2,q3,q4,-⟩:=Sx (HC.out w2 hb2);have hgl:w.heap.size<w2.heap.size:=Nat.lt_of_lt_of_le hg hb2.size;clear hb2 hR1 q5 HTS HC;have hjn:=jn_len (txS x.subs);rw [dL_txS,txS_len,HLEN.out] at hjn;have HCL:=Hd (shList ⟨#[91]⟩ ⟨#[93]⟩ A1 n c1 (txS x.subs) w2 HR1.out hnc (by omega) (by decide) (by decide) (by have:=HLA.out;omega))
 have HE:=Hd (show winS ⟨#[91]⟩ ⟨#[44,32]⟩ ⟨#[93]⟩ (txS x.subs)=ofB tx from ba_ext (by
  have h:jnT (txS x.subs) ⟨#[44,32]⟩=joinC (x.subs.map textL):=by
   rw [← dL_txS];exact jn_join _
  rw [HTX.out,hkd,ofB_data]
  simp [winS,h,ofB_data,textK]))
 rw [HE.out] at HCL;clear HTX HE hjn
 go_wp2_with fail
 refine HCL.out.mono ?_;rintro r w3 ⟨rfl,hb3⟩;have HB3:=Hd (HB2.out.trans (hb3.mono HB2.out.size));clear hb3
 go_wp2_with fail
 go_ret
 exact⟨rfl,HB3.out⟩
theorem text_15(H:ShH x A ca B cb w) (hkd:x.k=15):
 Calls Tryz.prog 86 #[.agg (exA x A ca B cb)] w fun e w'=>e=.returned (.string (ofB (textL x)))∧Below w.heap.size w w':=by
 have HF:=Hd fun w1 h=>box_facts w x A ca B cb w1 h H.rd;have HTS:=Hd H.texts;have HTX:=Hd (textL_eq x);have HAR:=Hd fun w1 (h:Below w.heap.size w w1)=>(H.rd.below h).arms;have HTB:=Hd fun w1 (h:Below w.heap.size w w1)=>H.tab.below h;have HLS:=Hd H.each;have HLA:=Hd H.all;have hf:=H.part;have hnum:=H.num;have hln:=H.len;clear H;unfold exA at HF ⊢;rw [hkd] at HF ⊢;generalize textL x=tx at *;generalize hlen:x.subs.length=n at *;have HLEN:=Hd hlen;clear hlen
 go_enter Tryz.func86,Tryz.ntmps86
 go_upto_region 1 with(fail)
 generalize hw1:w.alloc _=w1;obtain⟨hb1,hg,hr1,hcell⟩:=HF.out w1 hw1;have HB1:=Hd hb1;have HC:=Hd hcell;have q5:=hcell w1 (Below.refl _ _) 5;clear hcell hb1 hr1 hw1 HF
 go_wp2_with fail
 refine(HTS.out w1 HB1.out).mono ?_;rintro r w2 ⟨A1,c1,rfl,hR1,hnc,hb2⟩;have HR1:=Hd hR1;have HB2:=Hd (HB1.out.trans (hb2.mono HB1.out.size));obtain⟨q0,q1,q2,q3,q4,-⟩:=Sx (HC.out w2 hb2);have hgl:w.heap.size<w2.heap.size:=Nat.lt_of_lt_of_le hg hb2.size;clear hb2 hR1 q5 HTS HC;obtain⟨ya,yb,hab⟩:=len2 (subs_len hf (m:=2) (by simp [subsX,hkd]));have hk2:n=2:=by rw [← HLEN.out,hab];rfl
 subst hk2;obtain⟨b1,off1,rfl,hb1l,hat1⟩:=HR1.out.at_ (i:=0) (by omega);have HBL:=Hd hb1l;have t0:=hat1 0 (by omega);rw [txS_at (by rw [HLEN.out];omega),hab] at t0;simp only [List.getElem?_cons_succ,List.getElem?_cons_zero,Option.getD_some] at t0;have t1:=hat1 1 (by omega);rw [txS_at (by rw [HLEN.out];omega),hab] at t1;simp only [List.getElem?_cons_succ,List.getElem?_cons_zero,Option.getD_some] at t1;have hz0:(ofB (textL ya)).size≤1300000:=by rw [ofB_sizeP];exact HLS.out ya (by rw [hab];simp)
 have hz1:(ofB (textL yb)).size≤1300000:=by rw [ofB_sizeP];exact HLS.out yb (by rw [hab];simp)
 simp only [Nat.add_zero] at t0
 have HE:=Hd (show winS (ofB (textL ya)++(⟨#[91]⟩:ByteArray)) ⟨#[44,32]⟩ ⟨#[93]⟩ [ofB (textL yb)]=ofB tx from ba_ext (by
  rw [HTX.out,hkd,hab,ofB_data]
  simp [winS,jn_cons,Lib.joinTail,ofB_data,textK,gT]))
 clear hat1 HR1 HLS HLA HAR HTX hab;generalize ofB (textL ya)=sa at *;generalize ofB (textL yb)=sb at *;have hdsa:sa.data.toList.length=sa.size:=by simp
 have hdsb:sb.data.toList.length=sb.size:=by simp
 have HPH:=Hd (listLit (sa++(⟨#[91]⟩:ByteArray)) ⟨#[93]⟩ [sb] 1 (ofB tx) HE.out #[.string sb] rfl rfl (by decide) (by simp only [ByteArray.size_append];show sa.size+1≤_;omega) (by decide) (by simp [jn_cons,Lib.joinTail];omega));have z1:(9223372036854775807<sa.size+1)=False:=by rw [eq_iff_iff,iff_false];omega
 go_wp2_with fail
 go_region_held3 (fun W=>W.cell? ⟨b1,off1,none⟩=some (.string sa)∧W.cell? ⟨b1,off1+1,none⟩=some (.string sb)) (first | exact⟨t0,t1⟩ | exact⟨(World.cell?_alloc_lt _ _ _ HBL.out).trans t0,(World.cell?_alloc_lt _ _ _ HBL.out).trans t1⟩ | exact⟨d0,d1⟩)
  ((first
    | (go_at_call 54;refine(HPH.out (w2.drewN 1)).mono ?_;rintro r Wd ⟨rfl,hbd⟩;have HBd:=Hd ((below_drewN HB2.out 1).trans (hbd.mono (below_drewN HB2.out 1).size));have HKd:=Hd ((below_drewN (Below.refl w2.heap.size w2) 1).trans (hbd.mono (below_drewN (Below.refl w2.heap.size w2) 1).size));clear hbd;have d0:=(HKd.out.cell HBL.out).trans t0;have d1:=(HKd.out.cell HBL.out).trans t1)))
 go_wp2_with fail
 go_ret
 exact⟨rfl,HBd.out⟩
theorem text_16(H:ShH x A ca B cb w) (hkd:x.k=16):
 Calls Tryz.prog 86 #[.agg (exA x A ca B cb)] w fun e w'=>e=.returned (.string (ofB (textL x)))∧Below w.heap.size w w':=by
 have HF:=Hd fun w1 h=>box_facts w x A ca B cb w1 h H.rd;have HTS:=Hd H.texts;have HTX:=Hd (textL_eq x);have HAR:=Hd fun w1 (h:Below w.heap.size w w1)=>(H.rd.below h).arms;have HTB:=Hd fun w1 (h:Below w.heap.size w w1)=>H.tab.below h;have HLS:=Hd H.each;have HLA:=Hd H.all;have hf:=H.part;have hnum:=H.num;have hln:=H.len;clear H;unfold exA at HF ⊢;rw [hkd] at HF ⊢;generalize textL x=tx at *;generalize hlen:x.subs.length=n at *;have HLEN:=Hd hlen;clear hlen
 go_enter Tryz.func86,Tryz.ntmps86
 go_upto_region 1 with(fail)
 generalize hw1:w.alloc _=w1;obtain⟨hb1,hg,hr1,hcell⟩:=HF.out w1 hw1;have HB1:=Hd hb1;have HC:=Hd hcell;have q5:=hcell w1 (Below.refl _ _) 5;clear hcell hb1 hr1 hw1 HF
 go_wp2_with fail
 refine(HTS.out w1 HB1.out).mono ?_;rintro r w2 ⟨A1,c1,rfl,hR1,hnc,hb2⟩;have HR1:=Hd hR1;have HB2:=Hd (HB1.out.trans (hb2.mono HB1.out.size));obtain⟨q0,q1,q2,q3,q4,-⟩:=Sx (HC.out w2 hb2);have hgl:w.heap.size<w2.heap.size:=Nat.lt_of_lt_of_le hg hb2.size;clear hb2 hR1 q5 HTS HC;obtain⟨ya,yb,yc,hab⟩:=len3 (subs_len hf (m:=3) (by simp [subsX,hkd]));have hk3:n=3:=by rw [← HLEN.out,hab];rfl
 subst hk3;obtain⟨b1,off1,rfl,hb1l,hat1⟩:=HR1.out.at_ (i:=0) (by omega);have HBL:=Hd hb1l;have t0:=hat1 0 (by omega);rw [txS_at (by rw [HLEN.out];omega),hab] at t0;simp only [List.getElem?_cons_succ,List.getElem?_cons_zero,Option.getD_some] at t0;have t1:=hat1 1 (by omega);rw [txS_at (by rw [HLEN.out];omega),hab] at t1;simp only [List.getElem?_cons_succ,List.getElem?_cons_zero,Option.getD_some] at t1;have t2:=hat1 2 (by omega);rw [txS_at (by rw [HLEN.out];omega),hab] at t2;simp only [List.getElem?_cons_succ,List.getElem?_cons_zero,Option.getD_some] at t2;have hz0:(ofB (textL ya)).size≤1300000:=by rw [ofB_sizeP];exact HLS.out ya (by rw [hab];simp)
 have hz1:(ofB (textL yb)).size≤1300000:=by rw [ofB_sizeP];exact HLS.out yb (by rw [hab];simp)
 have hz2:(ofB (textL yc)).size≤1300000:=by rw [ofB_sizeP];exact HLS.out yc (by rw [hab];simp)
 simp only [Nat.add_zero] at t0
 have HE:=Hd (show winS ⟨#[40]⟩ ⟨#[32]⟩ ⟨#[41]⟩ [ofB (textL ya),⟨#[119,105,116,104]⟩,winS ⟨#[91]⟩ ⟨#[44,32]⟩ ⟨#[93]⟩ [ofB (textL yb)],⟨#[61]⟩,ofB (textL yc)]=ofB tx from ba_ext (by
  rw [HTX.out,hkd,hab,ofB_data]
  simp [winS,jn_cons,Lib.joinTail,ofB_data,textK,gT,withL]))
 have hz3:(winS ⟨#[91]⟩ ⟨#[44,32]⟩ ⟨#[93]⟩ [ofB (textL yb)]).size≤1300002:=by
  have h:=hz1;rw [ofB_sizeP] at h
  show(winS _ _ _ _).data.size≤_
  rw [← Array.length_toList]
  simp [winS,jn_cons,Lib.joinTail,ofB_data]
  omega
 have HIN:=Hd (show winS ⟨#[91]⟩ ⟨#[44,32]⟩ ⟨#[93]⟩ [ofB (textL yb)]=winS ⟨#[91]⟩ ⟨#[44,32]⟩ ⟨#[93]⟩ [ofB (textL yb)] from rfl);clear hat1 HR1 HLS HLA HAR HTX hab;generalize hwi:winS ⟨#[91]⟩ ⟨#[44,32]⟩ ⟨#[93]⟩ [ofB (textL yb)]=wi at *;have HWI:=Hd hwi;clear hwi HIN;generalize ofB (textL ya)=sa at *;generalize ofB (textL yb)=sb at *;generalize ofB (textL yc)=sc at *;have hdsa:sa.data.toList.length=sa.size:=by simp
 have hdsb:sb.data.toList.length=sb.size:=by simp
 have hdsc:sc.data.toList.length=sc.size:=by simp
 have hdwi:wi.data.toList.length=wi.size:=by simp
 have HLI:=Hd (listLit ⟨#[91]⟩ ⟨#[93]⟩ [sb] 1 wi HWI.out #[.string sb] rfl rfl (by decide) (by decide) (by decide) (by simp [jn_cons,Lib.joinTail];omega));have HPH:=Hd (phraseLit [sa,⟨#[119,105,116,104]⟩,wi,⟨#[61]⟩,sc] 5 (ofB tx) HE.out #[.string sa,.string ⟨#[119,105,116,104]⟩,.string wi,.string ⟨#[61]⟩,.string sc] rfl rfl (by decide) (by simp [jn_cons,Lib.joinTail];omega))
 go_wp2_with fail
 go_region_held3 (fun W=>W.cell? ⟨b1,off1,none⟩=some (.string sa)∧W.cell? ⟨b1,off1+1,none⟩=some (.string sb)∧W.cell? ⟨b1,off1+2,none⟩=some (.string sc)) (first | exact⟨t0,t1,t2⟩ | exact⟨g0,g1,g2⟩ | exact⟨d0,d1,d2⟩ | exact⟨(World.cell?_alloc_lt _ _ _ HBL.out).trans t0,(World.cell?_alloc_lt _ _ _ HBL.out).trans t1,(World.cell?_alloc_lt _ _ _ HBL.out).trans t2⟩ | exact⟨(World.cell?_alloc_lt _ _ _ lg0).trans g0,(World.cell?_alloc_lt _ _ _ lg0).trans g1,(World.cell?_alloc_lt _ _ _ lg0).trans g2⟩)
  ((first
    | (go_at_call 54;refine(HLI.out (w2.drewN 1)).mono ?_;rintro r Wg ⟨rfl,hbg⟩;have HBg:=Hd ((below_drewN HB2.out 1).trans (hbg.mono (below_drewN HB2.out 1).size));have HKg:=Hd ((below_drewN (Below.refl w2.heap.size w2) 1).trans (hbg.mono (below_drewN (Below.refl w2.heap.size w2) 1).size));clear hbg;have g0:=(HKg.out.cell HBL.out).trans t0;have g1:=(HKg.out.cell HBL.out).trans t1;have g2:=(HKg.out.cell HBL.out).trans t2;have lg0:b1<Wg.heap.size:=Nat.lt_of_lt_of_le HBL.out HKg.out.size)
    | (go_at_call 120;refine(HPH.out Wg).mono ?_;rintro r Wd ⟨rfl,hbd⟩;have HBd:=Hd (HBg.out.trans (hbd.mono HBg.out.size));have HKd:=Hd (HKg.out.trans (hbd.mono HKg.out.size));clear hbd;have d0:=(HKd.out.cell HBL.out).trans t0;have d1:=(HKd.out.cell HBL.out).trans t1;have d2:=(HKd.out.cell HBL.out).trans t2)))
 go_wp2_with fail
 go_ret
 exact⟨rfl,HBd.out⟩
theorem text_17(H:ShH x A ca B cb w) (hkd:x.k=17):
 Calls Tryz.prog 86 #[.agg (exA x A ca B cb)] w fun e w'=>e=.returned (.string (ofB (textL x)))∧Below w.heap.size w w':=by
 have HF:=Hd fun w1 h=>box_facts w x A ca B cb w1 h H.rd;have HTS:=Hd H.texts;have HTX:=Hd (textL_eq x);have HAR:=Hd fun w1 (h:Below w.heap.size w w1)=>(H.rd.below h).arms;have HTB:=Hd fun w1 (h:Below w.heap.size w w1)=>H.tab.below h;have HLS:=Hd H.each;have HLA:=Hd H.all;have hf:=H.part;have hnum:=H.num;have hln:=H.len;clear H;unfold exA at HF ⊢;rw [hkd] at HF ⊢;generalize textL x=tx at *;generalize hlen:x.subs.length=n at *;have HLEN:=Hd hlen;clear hlen
 go_enter Tryz.func86,Tryz.ntmps86
 go_upto_region 1 with(fail)
 generalize hw1:w.alloc _=w1;obtain⟨hb1,hg,hr1,hcell⟩:=HF.out w1 hw1;have HB1:=Hd hb1;have HC:=Hd hcell;have q5:=hcell w1 (Below.refl _ _) 5;clear hcell hb1 hr1 hw1 HF
 go_wp2_with fail
 refine(HTS.out w1 HB1.out).mono ?_;rintro r w2 ⟨A1,c1,rfl,hR1,hnc,hb2⟩;have HR1:=Hd hR1;have HB2:=Hd (HB1.out.trans (hb2.mono HB1.out.size));obtain⟨q0,q1,q2,q3,q4,-⟩:=Sx (HC.out w2 hb2);have hgl:w.heap.size<w2.heap.size:=Nat.lt_of_lt_of_le hg hb2.size;clear hb2 hR1 q5 HTS HC;have hpt:=hf.path hkd;have HQ:=Hd fun w=>lxQuote x.s w (by have:=hnum.1;omega)
 have HE:=Hd (show quoteS x.s=ofB tx by
  rw [HTX.out,hkd,quoteS,if_pos hpt];exact ba_ext (by simp [textK,leafT,ofB]))
 rw [HE.out] at HQ;clear HTX hpt HE
 go_wp2_with fail
 refine(HQ.out w2).mono ?_;rintro r w3 ⟨rfl,hb3⟩;have HB3:=Hd (HB2.out.trans (hb3.mono HB2.out.size));clear hb3
 go_wp2_with fail
 go_ret
 exact⟨rfl,HB3.out⟩
end
theorem shText:∀ x:Ex,okX x→(∀ p∈partsX x,NumP p)→sizeX x≤1000→TxP x:=by
 refine size_ind fun x ih hx hp hs A ca B cb w hr ht=>?_;have hf:=hx.part;have hsx:=sizeX_eq x;have hmem:∀ i,i<x.subs.length→subX x i∈x.subs:=fun i hi=>subX_mem hi;have hpsub:∀ y∈x.subs,∀ p∈partsX y,NumP p:=fun y hy p hp'=>hp p (by rw [partsX_eq];exact List.mem_cons_of_mem _ (parts_of_mem hy hp'));have hlen:∀ y∈x.subs,(textL y).length≤1300*sizeX y:=fun y hy=>text_len y (hx.sub hy) (hpsub y hy);have hlen2:∀ y∈x.subs,(textL y).length≤1300000:=fun y hy=>by have h1:=hlen y hy;have h2:=sizes_mem hy;omega
 have hih:∀ i,i<x.subs.length→TxP (x.subs[i]?.getD default):=fun i hi=>ih i hi (hx.sub (hmem i hi)) (hpsub _ (hmem i hi)) (by have:=sizes_mem (hmem i hi);omega);have hsl:=sizes_len x.subs;have H:ShH x A ca B cb w:=⟨hr,hf,hp x (by rw [partsX_eq];exact List.mem_cons_self),ht,by omega,hlen2,by have:=lens_subs x.subs hlen;omega,fun w1 h=>shTexts x.subs B x.subs.length cb w1 (hr.subs.below h) (ht.below h) (by omega) hih⟩;have h1:=hf.k1;have h17:=hf.k17;obtain h | h | h | h | h | h | h | h | h | h | h | h | h | h | h | h | h:x.k=1∨x.k=2∨x.k=3∨x.k=4∨x.k=5∨x.k=6∨x.k=7∨x.k=8∨x.k=9∨x.k=10∨x.k=11∨x.k=12∨x.k=13∨x.k=14∨x.k=15∨x.k=16∨x.k=17:=by omega
 · exact text_1 H h
 · exact text_2 H h
 · exact text_3 H h
 · exact text_4 H h
 · exact text_5 H h
 · exact text_6 H h
 · exact text_7 H h
 · exact text_8 H h
 · exact text_9 H h
 · exact text_10 H h
 · exact text_11 H h
 · exact text_12 H h
 · exact text_13 H h
 · exact text_14 H h
 · exact text_15 H h
 · exact text_16 H h
 · exact text_17 H h
end
end Go.Proofs.YtpedcgpcchbhpaaGreatDoor
