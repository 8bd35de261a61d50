/- Parts: PaQ, EyH, ExC, VaC. Conditions: each theorem's own. -/
import Derived.Test.YtokiaaapgkdpmaaGreatDoorU15
import Derived.Test.YtokiaaapgkdpmaaGreatDoorU17
namespace Go.Proofs.YtokiaaapgkdpmaaGreatDoor
set_option linter.unusedVariables false
set_option linter.unusedSimpArgs false
set_option maxRecDepth 100000
set_option maxHeartbeats 40000000
section
open Go.RowKit Go.Sort
section
variable {w:World}{b:Nat}{A:Option Addr}{n c:Nat}{all r:List Tk}{bad:Bool}{m:Nat}
theorem sign_and(h:isP [97,110,100] r=true):signP opsAnd r=8:=by simp[opsAnd,signP,h]
theorem sign_and0(h:isP [97,110,100] r=false):signP opsAnd r=0:=by simp[opsAnd,signP,h]
theorem prAnd(P:Ps)(HS:SpecX 140 (cmpP P) (m+1))(hle:Less (cmpP P)):SpecX 123 (andP P) (m+1):=by
 intro w b A n c all r h hm;have hA:=h.home;have hlt:=h.lt;have HM:=Hd (show andP P r=((cmpP P) r).bind fun e r=>chainP (cmpP P) opsAnd (r.length+1) e r from rfl)
 go_enter Tryz.func123,Tryz.ntmps123
 go_upto_region 1 with(fail)
 generalize hw1:w.alloc _=w1;obtain⟨hP1,hR1,hB1,hgb,hg1⟩:=res_box h hw1;have HP1:=Hd hP1;have HR1:=Hd hR1;have HB1:=Hd hB1;clear hP1 hR1 hB1 hw1
 go_wp2_with fail
 refine(SpecX.any HS HP1.out hm).mono ?_;rintro e w2 ⟨e0,A2,ca2,B2,cb2,bd,r1,rfl,hP,hB,hT⟩;have HP2:=Hd hP;have HB2:=Hd (kb_trans HB1.out hB);have HR2:=Hd (HR1.out.kb hgb hB);have HT2:=Hd hT;have hs2:=kb_size hB;clear hP hB hT;unfold exA
 go_wp2_with fail
 have h0:LevR w b w.heap.size w2.heap.size w1.heap.size A n c m all (cmpP P) opsAnd (andP P r) (w2.alloc (.cells (exA e0 A2 ca2 B2 cb2) 26)):=by
  have hb0:Below w2.heap.size w2 (w2.alloc (.cells (exA e0 A2 ca2 B2 cb2) 26)):=(Below.refl _ _).alloc (Nat.le_refl _) _;refine⟨e0,A2,ca2,B2,cb2,r1,bd,heap_alloc_new _ _,HR2.out.alloc _,HP2.out.alloc _,kb_trans HB2.out (bl_of hb0),?_⟩;rcases HT2.out with⟨h1,h2,h3⟩|⟨h1,h2⟩
  · have hl:=hle _ _ _ h2;refine .inl ⟨h1,⟨r1.length+1,?_,Nat.le_refl _⟩,by omega,?_⟩
    · rw[HM.out,h2];rfl
    · exact tr_of (by simp) (fun p v q1 q2=>⟨q1,by have:=World.block_lt_of_cell? w2 p q2;omega,by rw[World.cell?_alloc_lt _ _ _ (World.block_lt_of_cell? w2 p q2)];exact q2⟩) h3
  · refine .inr ⟨h1,?_⟩;rw[HM.out,h2];rfl
 have H0:=Hd h0;have hh2:w1.heap.size≤w2.heap.size:=hs2;have hbB:b<w1.heap.size:=by omega
 have HX:=Hd (show w.heap.size≤w2.heap.size∧w2.heap.size≠b∧w.heap.size≠w2.heap.size from⟨by omega,by omega,by omega⟩);clear h0 HT2 HR2 HP2 HB2;generalize hhb:w2.heap.size=hb at *
 go_loopw [7] (fun _ wr=>LevR w b w.heap.size hb w1.heap.size A n c m all (cmpP P) opsAnd (andP P r) wr) (fun _ wr=>leftOf b n wr)
 case atStart=>exact H0.out
 case round=>
  obtain⟨e,A1,ca1,B1,cb1,ri,bd,hE,hR,hP,hB,hT⟩:=hrel;have HE:=Hd hE;have HR:=Hd hR;have HP:=Hd hP;have HB:=Hd hB;have HT:=Hd hT;have hb1:hb<wr.heap.size:=hE.lt;clear hE hR hP hB hT
  cases bd with
  | true=>
   go_wp2_with fail
   refine(take_no ⟨#[97,110,100]⟩ HP.out (rfl)).mono ?_;rintro x w3 ⟨rfl,hP3,hB3⟩;have HP3:=Hd hP3;have HB3':=Hd (kb_trans HB.out hB3);have HE3:=Hd (HE.out.kb HX.out.2.1 hB3);have HR3:=Hd (HR.out.kb hgb hB3);clear hP3 hB3
   go_wp2_with (first | (refine wpList_load_row rfl _ _ rfl (hb) rfl _ _ _ _ (HE3.out) Tryz.underlying26 rfl ex_info ?_) | (refine wpList_store_row rfl _ _ _ rfl (w.heap.size) _ rfl rfl _ _ (HR3.out) ex_info rfl (by simp[exA,Value.oneCell']) ?_))
   obtain⟨f1,f2,f3⟩:=(fin_same (x:=e) (A1:=A1) (ca1:=ca1) (B1:=B1) (cb1:=cb1) HB3'.out HP3.out HR3.out hgb (Nat.le_refl _) hA);rw[(HT.out.resolve_left (by rintro ⟨h,_⟩;cases h)).2];exact bodyPost_ret (res_ex rfl _ _ (w.heap.size) _ rfl rfl f3) rfl ⟨f1,f2,_,_,_,_,_,rfl⟩
  | false=>
   obtain⟨_,⟨f,hch,hf⟩,hmi,ht⟩:=HT.out.resolve_right (by rintro ⟨h,_⟩;cases h);have HCH:=Hd hch;have HTR:=Hd ht;have hpos:=HP.out.pos;have HL:=Hd (left_good HP.out);clear hch ht HT
   cases h1:isP [97,110,100] ri with
   | false=>
    go_wp2_with fail
    refine(take_no ⟨#[97,110,100]⟩ HP.out (by rw[Bool.not_false,Bool.true_and];exact h1)).mono ?_;rintro x w3 ⟨rfl,hP3,hB3⟩;have HP3:=Hd hP3;have HB3':=Hd (kb_trans HB.out hB3);have HE3:=Hd (HE.out.kb HX.out.2.1 hB3);have HR3:=Hd (HR.out.kb hgb hB3);have HT3:=Hd ((Kp.of_kb hB3 hbB).tr HTR.out);clear hP3 hB3
    go_wp2_with (first | (refine wpList_load_row rfl _ _ rfl (hb) rfl _ _ _ _ (HE3.out) Tryz.underlying26 rfl ex_info ?_) | (refine wpList_store_row rfl _ _ _ rfl (w.heap.size) _ rfl rfl _ _ (HR3.out) ex_info rfl (by simp[exA,Value.oneCell']) ?_))
    obtain⟨f1,f2,f3⟩:=(fin_same (x:=e) (A1:=A1) (ca1:=ca1) (B1:=B1) (cb1:=cb1) HB3'.out HP3.out HR3.out hgb (Nat.le_refl _) hA);rw[HCH.out,chain_stop (sign_and0 h1)];exact bodyPost_ret (res_ex rfl _ _ (w.heap.size) _ rfl rfl f3) rfl ⟨f1,f2,_,_,_,_,rfl,tree_down ((Kp.setRow (B:=w1.heap.size) _ _ (by omega)).tree (tr_fr (Nat.le_refl _) HT3.out)) (show w.heap.size≤w1.heap.size by omega)⟩
   | true=>
    go_wp2_with fail
    refine(take_yes ⟨#[97,110,100]⟩ HP.out h1).mono ?_;rintro x w3 ⟨rfl,hP3,hB3⟩;have HP3:=Hd hP3;have HB3':=Hd (kb_trans HB.out hB3);have HE3:=Hd (HE.out.kb HX.out.2.1 hB3);have HR3:=Hd (HR.out.kb hgb hB3);have HT3:=Hd ((Kp.of_kb hB3 hbB).tr HTR.out);have hs3:=kb_size hB3;have HOP:=Hd (sign_and h1);have HO:=Hd (show signP opsAnd ri≠0 by rw[HOP.out];decide);clear hP3 hB3 h1;have hl1:ri.tail.length=ri.length-1:=by simp
    have hlr:ri.tail.length≤m+1:=by omega
    have HF:=Hd (SpecX.anyD HS HP3.out hlr);obtain⟨q0,q1,q2,q3,q4,q5⟩:=HE3.out.cells
    go_wp2_with fail
    go_region_with (first | (go_at_call 140;refine HF.out.mono ?_;rintro x w5 ⟨y,A5,ca5,B5,cb5,bd5,r5,rfl,hP,hB,hT⟩;have HP5:=Hd hP;have K5:=Hd hB;have HE5:=Hd (HE3.out.kb HX.out.2.1 hB);have HR5:=Hd (HR3.out.kb hgb hB);have HT5:=Hd hT;have hs5:=kb_size hB;clear hP hB hT;obtain⟨d0,d1,d2,d3,d4,d5⟩:=HE5.out.cells;unfold exA) | (go_at_call 125;(refine(prBinC 8 e y A1 ca1 B1 cb1 A5 ca5 B5 cb5 w5).mono ?_;rintro x w6 ⟨g6,rfl,hb6,k1,k2,k3⟩;have HB6:=Hd hb6;have HE6:=Hd (show RowX w6 hb e A1 ca1 B1 cb1 from(hb6.block _ HE5.out.lt).trans HE5.out);have HG6:=Hd (And.intro k1 (And.intro k2 k3));clear hb6 k1 k2 k3;have hl6:=HE6.out.lt;obtain⟨z0,z1,z2,z3,z4,z5⟩:=HE6.out.cells;have f0:=HE6.out.fz 0;have f1:=HE6.out.fz 1;have f2:=HE6.out.fz 2;have f3:=HE6.out.fz 3;have f4:=HE6.out.fz 4;have f5:=HE6.out.fz 5;unfold exA)))
    all_goals (
     have hst:=lev_step hle (kb_trans HB3'.out K5.out) HE5.out HR5.out HP5.out K5.out HT3.out (by omega) (by omega) HX.out.2.1 HX.out.2.2 hbB HX.out.1 hA HCH.out hf hpos hmi HO.out HT5.out HB6.out HG6.out.1 HG6.out.2.1 HG6.out.2.2;rw[HOP.out] at hst;have hsx:=six_set HE6.out (binX 8 e y) none 0 (some ⟨g6,0,none⟩) 2;rw[hsx];clear hsx;have HST:=Hd hst;clear hst q0 q1 q2 q3 q4 q5 d0 d1 d2 d3 d4 d5 z0 z1 z2 z3 z4 z5 f0 f1 f2 f3 f4 f5;generalize w6.setRow hb _=W at *
     go_roundw
     case rel=>first | exact HST.out.1 | ((repeat apply Exists.intro);exact⟨HST.out.1,rfl⟩)
     case measure=>(rw[HL.out];exact HST.out.2))
theorem sg_cmp(h:PSt w b A n c all r bad):SgAt ((w.alloc (.cells #[.int .i64 11,.int .i64 12,.int .i64 13,.int .i64 14,.int .i64 15,.int .i64 16] 3)).alloc (.cells #[.string ⟨#[61]⟩,.string ⟨#[60,62]⟩,.string ⟨#[60]⟩,.string ⟨#[60,61]⟩,.string ⟨#[62]⟩,.string ⟨#[62,61]⟩] 9)) b w.heap.size (w.heap.size+1) [(11,⟨#[61]⟩),(12,⟨#[60,62]⟩),(13,⟨#[60]⟩),(14,⟨#[60,61]⟩),(15,⟨#[62]⟩),(16,⟨#[62,61]⟩)]∧PSt ((w.alloc (.cells #[.int .i64 11,.int .i64 12,.int .i64 13,.int .i64 14,.int .i64 15,.int .i64 16] 3)).alloc (.cells #[.string ⟨#[61]⟩,.string ⟨#[60,62]⟩,.string ⟨#[60]⟩,.string ⟨#[60,61]⟩,.string ⟨#[62]⟩,.string ⟨#[62,61]⟩] 9)) b A n c all r bad ∧
 Below w.heap.size w ((w.alloc (.cells #[.int .i64 11,.int .i64 12,.int .i64 13,.int .i64 14,.int .i64 15,.int .i64 16] 3)).alloc (.cells #[.string ⟨#[61]⟩,.string ⟨#[60,62]⟩,.string ⟨#[60]⟩,.string ⟨#[60,61]⟩,.string ⟨#[62]⟩,.string ⟨#[62,61]⟩] 9)):=by
 have hlt:=h.lt;have hb:Below w.heap.size w ((w.alloc (.cells #[.int .i64 11,.int .i64 12,.int .i64 13,.int .i64 14,.int .i64 15,.int .i64 16] 3)).alloc (.cells #[.string ⟨#[61]⟩,.string ⟨#[60,62]⟩,.string ⟨#[60]⟩,.string ⟨#[60,61]⟩,.string ⟨#[62]⟩,.string ⟨#[62,61]⟩] 9)):=((Below.refl _ _).alloc (Nat.le_refl _) _).alloc (by simp) _;refine⟨⟨fun i hi=>?_,fun i hi=>?_⟩,h.below hb,hb⟩
 · rw[bl_cell (by show w.heap.size≠b;omega),World.cell?_alloc_lt _ _ _ (by simp),World.cell?_alloc_new]
   match i,hi with
   | 0,_ | 1,_ | 2,_ | 3,_ | 4,_ | 5,_=>rfl
 · rw[bl_cell (by show w.heap.size+1≠b;omega)];have:=World.cell?_alloc_new (w.alloc (.cells #[.int .i64 11,.int .i64 12,.int .i64 13,.int .i64 14,.int .i64 15,.int .i64 16] 3)) #[.string ⟨#[61]⟩,.string ⟨#[60,62]⟩,.string ⟨#[60]⟩,.string ⟨#[60,61]⟩,.string ⟨#[62]⟩,.string ⟨#[62,61]⟩] 9 i;rw[World.size_alloc] at this;rw[this]
   match i,hi with
   | 0,_ | 1,_ | 2,_ | 3,_ | 4,_ | 5,_=>rfl
theorem cmp_pos:0≤signP opsCmp r∧signP opsCmp r≤16:=by
 simp only[opsCmp,signP]
 repeat' split
 all_goals omega
theorem lev_one{w w3 w5 w6:World}{g h B0:Nat}{op:Int}{e y:Ex}{A1:Option Addr}{ca1:Nat}{B1:Option Addr}{cb1:Nat}{A2:Option Addr}{ca2:Nat}{B2:Option Addr}{cb2:Nat}{r2:List Tk}{bd:Bool}{g6:Nat}
 (hbe:Below w.heap.size (bl b w) (bl b w5)) (hh:RowX w5 h e A1 ca1 B1 cb1) (hg:RowX w5 g zX none 0 none 0) (hp:PSt w5 b A n c all r2 bd) (K:Below w3.heap.size (bl b w3) (bl b w5)) (t1:rdX (tr B0 h w3) e A1 B1)
 (hB:B0≤w3.heap.size) (hh3:h<w3.heap.size) (hhb:h≠b) (hgh:g≠h) (hbB:b<B0) (hwh:w.heap.size≤h) (hA:∀ b0 off,A=some ⟨b0,off,none⟩→b0<w.heap.size)
 (hb6:Below w5.heap.size w5 w6) (q1:w5.heap.size≤g6) (q2:g6<w6.heap.size) (q3:w6.heap[g6]?=some (.cells (exA2 e A1 ca1 B1 cb1 y A2 ca2 B2 cb2) 26)):
 RowX (w6.setRow h (exA (binX op e y) none 0 (some ⟨g6,0,none⟩) 2)) h (binX op e y) none 0 (some ⟨g6,0,none⟩) 2∧RowX (w6.setRow h (exA (binX op e y) none 0 (some ⟨g6,0,none⟩) 2)) g zX none 0 none 0∧PSt (w6.setRow h (exA (binX op e y) none 0 (some ⟨g6,0,none⟩) 2)) b A n c all r2 bd ∧
  Below w.heap.size (bl b w) (bl b (w6.setRow h (exA (binX op e y) none 0 (some ⟨g6,0,none⟩) 2)))∧(rdX (fr w3.heap.size w5) y A2 B2→rdX (tr B0 h (w6.setRow h (exA (binX op e y) none 0 (some ⟨g6,0,none⟩) 2))) (binX op e y) none (some ⟨g6,0,none⟩)):=by
 have hs5:=kb_size K;have up:∀ {k:Nat}{x:Ex}{Ax:Option Addr}{cax:Nat}{Bx:Option Addr}{cbx:Nat},RowX w5 k x Ax cax Bx cbx→RowX w6 k x Ax cax Bx cbx:=fun hk=>(hb6.block _ hk.lt).trans hk
 exact⟨(up hh).set,(up hg).other hgh _,(hp.below hb6).setRow hhb (fun b0 off e1=>by have:=hA b0 off e1;omega) _,kb_setRow (kb_trans hbe (bl_of hb6)) hhb hwh _,
  fun ty=>tr_set _ (bin_tr hb6 q1 q2 q3 (by omega) (by omega) ((Kp.of_kb K hbB).tr t1) (tr_of (Nat.le_refl _) (fun p v h1 h2=>⟨by omega,by omega,h2⟩) ty))⟩
theorem prCmp(P:Ps)(HS:SpecX 155 (sumP P) (m+1))(hle:Less (sumP P)):SpecX 140 (cmpP P) (m+1):=by
 intro w b A n c all r h hm;have hA:=h.home;have hlt:=h.lt;have HM:=Hd (show cmpP P r=((sumP P) r).bind fun e r=>chainP (sumP P) opsCmp 1 e r from rfl)
 go_enter Tryz.func140,Tryz.ntmps140
 go_upto_region 1 with(fail)
 generalize hw1:w.alloc _=w1;obtain⟨hP1,hR1,hB1,hgb,hg1⟩:=res_box h hw1;have HP1:=Hd hP1;have HR1:=Hd hR1;have HB1:=Hd hB1;clear hP1 hR1 hB1 hw1
 go_wp2_with fail
 refine(SpecX.any HS HP1.out hm).mono ?_;rintro e w2 ⟨e0,A2,ca2,B2,cb2,bd,r1,rfl,hP,hB,hT⟩;have HP2:=Hd hP;have HB2:=Hd (kb_trans HB1.out hB);have HR2:=Hd (HR1.out.kb hgb hB);have HT2:=Hd hT;have hs2:=kb_size hB;clear hP hB hT;unfold exA
 go_upto_region 2 with(fail)
 generalize hwr:w2.alloc _=wr;obtain⟨hP3,hR3,hB3,hgb3,hg3,hK3⟩:=ex_box HP2.out hwr;have HP:=Hd hP3;have HE:=Hd hR3;have HB:=Hd (kb_trans HB2.out hB3);have HR:=Hd (HR2.out.kb hgb hB3);have hbB:b<w1.heap.size:=by omega
 have HT:=Hd (show bd=false∧(sumP P) r=.ok e0 r1∧rdX (tr w1.heap.size w2.heap.size wr) e0 A2 B2∨bd=true∧(sumP P) r=.bad r1 from by
  rcases HT2.out with⟨h1,h2,h3⟩ | h1
  · exact .inl ⟨h1,h2,tr_of (by omega) (fun p v q1 q2=>⟨q1,by have:=World.block_lt_of_cell? w2 p q2;omega,(hK3 w1.heap.size).2 p v q1 q2⟩) h3⟩
  · exact .inr h1)
 have HX:=Hd (show w.heap.size≤w2.heap.size∧w2.heap.size≠b∧w.heap.size≠w2.heap.size from⟨by omega,by omega,by omega⟩);have hh2:w1.heap.size≤w2.heap.size:=hs2;clear hP3 hR3 hB3 hwr hK3 HT2 HR2 HP2 HB2;generalize hhb:w2.heap.size=hb at *;obtain⟨sg1,sg2,sg3⟩:=sg_cmp HP.out;have HSG:=Hd (prSign [(11,⟨#[61]⟩),(12,⟨#[60,62]⟩),(13,⟨#[60]⟩),(14,⟨#[60,61]⟩),(15,⟨#[62]⟩),(16,⟨#[62,61]⟩)] _ _ 6 6 sg2 (by simp) (by simp) sg1);have HB3:=Hd sg3;clear sg1 sg2 sg3;have hz:zsL [(11,⟨#[61]⟩),(12,⟨#[60,62]⟩),(13,⟨#[60]⟩),(14,⟨#[60,61]⟩),(15,⟨#[62]⟩),(16,⟨#[62,61]⟩)]=opsCmp:=rfl;rw[hz] at HSG;clear hz
 go_wp2_with fail
 refine HSG.out.mono ?_;rintro x w3 ⟨hx,hB3⟩;clear HSG;have K3:=kb_trans (bl_of (b:=b) HB3.out) hB3;have HB3':=Hd (kb_trans HB.out K3);have HE3:=Hd (HE.out.kb HX.out.2.1 K3);have HR3:=Hd (HR.out.kb hgb K3);have hs3:=kb_size K3;have HK3:=Hd (Kp.of_kb K3 hbB);clear hB3 K3 HB3 HE HR HB;rcases hx with⟨hs,rfl,hP⟩|⟨rfl,hs,rfl,_,hP⟩
 · have HP3:=Hd hP;have HS0:=Hd hs;clear hs hP
   go_wp2_with (first | (refine wpList_load_row rfl _ _ rfl (hb) rfl _ _ _ _ (HE3.out) Tryz.underlying26 rfl ex_info ?_) | (refine wpList_store_row rfl _ _ _ rfl (w.heap.size) _ rfl rfl _ _ (HR3.out) ex_info rfl (by simp[exA,Value.oneCell']) ?_))
   obtain⟨f1,f2,f3⟩:=(fin_same (x:=e0) (A1:=A2) (ca1:=ca2) (B1:=B2) (cb1:=cb2) HB3'.out HP3.out HR3.out hgb (Nat.le_refl _) hA);rcases HT.out with⟨rfl,h2,h3⟩|⟨rfl,h2⟩
   · have hs0:=HS0.out.resolve_left (by decide);rw[show cmpP P r=.ok e0 r1 by rw[HM.out,h2];exact chain_stop hs0];exact bodyPost_ret (res_ex rfl _ _ (w.heap.size) _ rfl rfl f3) rfl ⟨f1,f2,_,_,_,_,rfl,tree_down ((Kp.setRow (B:=w1.heap.size) _ _ (by omega)).tree (tr_fr (Nat.le_refl _) (HK3.out.tr h3))) (show w.heap.size≤w1.heap.size by omega)⟩
   · rw[show cmpP P r=.bad r1 by rw[HM.out,h2];rfl];exact bodyPost_ret (res_ex rfl _ _ (w.heap.size) _ rfl rfl f3) rfl ⟨f1,f2,_,_,_,_,_,rfl⟩
 · obtain⟨_,h2,h3⟩:=HT.out.resolve_right (by rintro ⟨h,_⟩;cases h);have HP3:=Hd hP;have HT3:=Hd (HK3.out.tr h3);have HO:=Hd (show signP opsCmp r1≠0 from hs);have HH2:=Hd h2;have hop1:0<signP opsCmp r1:=by have:=cmp_pos (r:=r1);omega
   generalize hop:signP opsCmp r1=op at hs hop1 ⊢;have HOP:=Hd hop;clear hP hop h3 h2;have hl1:r1.tail.length=r1.length-1:=by simp
   have hlr:r1.tail.length≤m+1:=by have:=hle _ _ _ HH2.out;omega
   have HF:=Hd (SpecX.anyD HS HP3.out hlr);obtain⟨q0,q1,q2,q3,q4,q5⟩:=HE3.out.cells
   go_wp2_with fail
   go_region_with (first | (go_at_call 155;refine HF.out.mono ?_;rintro x w5 ⟨y,A5,ca5,B5,cb5,bd5,r5,rfl,hP,hB,hT⟩;have HP5:=Hd hP;have K5:=Hd hB;have HE5:=Hd (HE3.out.kb HX.out.2.1 hB);have HR5:=Hd (HR3.out.kb hgb hB);have HT5:=Hd hT;have hs5:=kb_size hB;clear hP hB hT;obtain⟨d0,d1,d2,d3,d4,d5⟩:=HE5.out.cells;unfold exA) | (go_at_call 125;(refine(prBinC op e0 y A2 ca2 B2 cb2 A5 ca5 B5 cb5 w5).mono ?_;rintro x w6 ⟨g6,rfl,hb6,k1,k2,k3⟩;have HB6:=Hd hb6;have HE6:=Hd (show RowX w6 hb e0 A2 ca2 B2 cb2 from(hb6.block _ HE5.out.lt).trans HE5.out);have HG6:=Hd (And.intro k1 (And.intro k2 k3));clear hb6 k1 k2 k3;have hl6:=HE6.out.lt;obtain⟨z0,z1,z2,z3,z4,z5⟩:=HE6.out.cells;have f0:=HE6.out.fz 0;have f1:=HE6.out.fz 1;have f2:=HE6.out.fz 2;have f3:=HE6.out.fz 3;have f4:=HE6.out.fz 4;have f5:=HE6.out.fz 5;unfold exA)))
   all_goals (
    obtain⟨z1',z2',z3',z4',z5'⟩:=lev_one (op:=op) (kb_trans HB3'.out K5.out) HE5.out HR5.out HP5.out K5.out HT3.out (by omega) (by omega) HX.out.2.1 HX.out.2.2 hbB HX.out.1 hA HB6.out HG6.out.1 HG6.out.2.1 HG6.out.2.2;have hsx:=six_set HE6.out (binX op e0 y) none 0 (some ⟨g6,0,none⟩) 2;rw[hsx];clear hsx;have HZ1:=Hd z1';have HZ2:=Hd z2';have HZ3:=Hd z3';have HZ4:=Hd z4';have HZ5:=Hd z5';clear z1' z2' z3' z4' z5' q0 q1 q2 q3 q4 q5 d0 d1 d2 d3 d4 d5 z0 z1 z2 z3 z4 z5 f0 f1 f2 f3 f4 f5;generalize w6.setRow hb _=W at *
    go_wp2_with (first | (refine wpList_load_row rfl _ _ rfl (hb) rfl _ _ _ _ (HZ1.out) Tryz.underlying26 rfl ex_info ?_) | (refine wpList_store_row rfl _ _ _ rfl (w.heap.size) _ rfl rfl _ _ (HZ2.out) ex_info rfl (by simp[exA,Value.oneCell']) ?_))
    obtain⟨f1,f2,f3⟩:=(fin_same (x:=binX op e0 y) (A1:=none) (ca1:=0) (B1:=some ⟨g6,0,none⟩) (cb1:=2) HZ4.out HZ3.out HZ2.out hgb (Nat.le_refl _) hA);rcases HT5.out with⟨rfl,h2,h3⟩|⟨rfl,h2⟩
    · rw[show cmpP P r=.ok (binX op e0 y) r5 by rw[HM.out,HH2.out,← HOP.out];exact chain_ok HO.out h2];exact bodyPost_ret (res_ex rfl _ _ (w.heap.size) _ rfl rfl f3) rfl ⟨f1,f2,_,_,_,_,rfl,tree_down ((Kp.setRow (B:=w1.heap.size) _ _ (by omega)).tree (tr_fr (Nat.le_refl _) (HZ5.out h3))) (show w.heap.size≤w1.heap.size by omega)⟩
    · rw[show cmpP P r=.bad r5 by rw[HM.out,HH2.out];exact chain_bad HO.out h2];exact bodyPost_ret (res_ex rfl _ _ (w.heap.size) _ rfl rfl f3) rfl ⟨f1,f2,_,_,_,_,_,rfl⟩)
end
end
section
open Go.RowKit Go.Sort
theorem row_block(w:World)(n:Int)(s:ByteArray)(op:Int)(A:Option Addr)(len ca:Nat)(h:Bool)(lo hi:Int)(w1:World)(e:w.alloc (.cells (rowA 0 n s op A len ca h lo hi) 101)=w1):
 Below w.heap.size w w1∧w.heap.size<w1.heap.size∧w1.cell? ⟨w.heap.size,0,none⟩=some (.int .i64 0)∧w1.frozen? ⟨w.heap.size,0,none⟩=false ∧
  ∀ (k:Int) (w2:World),w1.setCell ⟨w.heap.size,0,none⟩ (.int .i64 k)=w2→Below w.heap.size w w2∧∀ w3,Below w2.heap.size w2 w3→∀ j,w3.cell? ⟨w.heap.size,j,none⟩=(rowA k n s op A len ca h lo hi)[j]?:=by
 subst e;have hn:(w.alloc (.cells (rowA 0 n s op A len ca h lo hi) 101)).heap[w.heap.size]?=some (Obj.cells (rowA 0 n s op A len ca h lo hi) 101):=World.alloc_heap_new _ _;have hb:Below w.heap.size w (w.alloc (.cells (rowA 0 n s op A len ca h lo hi) 101)):=(Below.refl _ _).alloc (Nat.le_refl _) _
 have hc:∀ j,(w.alloc (.cells (rowA 0 n s op A len ca h lo hi) 101)).cell? ⟨w.heap.size,j,none⟩=(rowA 0 n s op A len ca h lo hi)[j]?:=fun j=>by
  rw[World.cell?_alloc_new]
 refine⟨hb,by simp,by rw[hc];rfl,by simp only[World.frozen?,hn];rfl,fun k w2 e2=>?_⟩;subst e2;refine⟨hb.setCell (p:=⟨w.heap.size,0,none⟩) (Nat.le_refl _) _,fun w3 h3 j=>?_⟩;rw[h3.cell (p:=⟨w.heap.size,j,none⟩) (by have:=(grownBy_setCell' (w.alloc (.cells (rowA 0 n s op A len ca h lo hi) 101)) w.heap.size (.int .i64 k)).size;simp at this ⊢)]
 cases j with
 | zero=>exact World.cell?_setCell_same' _ _ _ (by rw[hc];rfl)
 | succ j=>
  rw[World.cell?_setCell_other _ _ _ _ (by intro e;injection e with _ e;exact absurd e (by simp)),hc];rfl
theorem namX_k(k n:Int)(s:ByteArray)(op:Int)(arms:List ByteArray):(namX k n s op arms).k=k:=rfl
theorem namX_n(k n:Int)(s:ByteArray)(op:Int)(arms:List ByteArray):(namX k n s op arms).n=n:=rfl
theorem namX_s(k n:Int)(s:ByteArray)(op:Int)(arms:List ByteArray):(namX k n s op arms).s=s:=rfl
theorem namX_op(k n:Int)(s:ByteArray)(op:Int)(arms:List ByteArray):(namX k n s op arms).op=op:=rfl
theorem namX_arms(k n:Int)(s:ByteArray)(op:Int)(arms:List ByteArray):(namX k n s op arms).arms=arms:=rfl
theorem namX_subs(k n:Int)(s:ByteArray)(op:Int)(arms:List ByteArray):(namX k n s op arms).subs=[]:=rfl
theorem rd_nam{w:World}{A:Option Addr}{arms:List ByteArray}(k n:Int)(s:ByteArray)(op:Int)(h:RdT w A arms.length arms):rdX w (namX k n s op arms) A none:=
 rdX_eq.2 ⟨h,RdX.nil_ _⟩
theorem exFits(x:Ex)(A:Option Addr)(ca:Nat)(B:Option Addr)(cb:Nat)(w:World)(hr:rdX w x A B)(hsh:ShortP x):
 Calls Tryz.prog 54 #[.agg (exA x A ca B cb)] w fun e w'=>e=.returned (.bool (partX x))∧Below w.heap.size w w':=by
 have HF:=Hd fun w1 h=>box_facts w x A ca B cb w1 h hr;have HAS:=Hd fun w1 (h:Below w.heap.size w w1)=>exAsked x A ca B cb w1 (hr.below h) hsh;have HFL:=Hd fun(n:Int) (s:ByteArray) (op:Int) (A':Option Addr) (arms:List ByteArray) (ca':Nat) (w1:World) (h:Below w.heap.size w w1) (hA:RdT w1 A' arms.length arms)=>exFields x A ca B cb (namX x.k n s op arms) A' ca' none 0 w1 (hr.below h) (rd_nam x.k n s op hA);have hmx:=hr.subs.max;clear hr;unfold exA at HF HAS HFL ⊢;simp only[namX_k,namX_n,namX_s,namX_op,namX_arms,namX_subs,List.length_nil] at HFL;generalize hres:partX x=res;have HRES:=Hd hres;clear hres;generalize hlen:x.subs.length=len at *;have HLEN:=Hd hlen;clear hlen;generalize x.arms.length=lar at *
 go_enter Tryz.func54,Tryz.ntmps54
 go_upto_region 1 with(fail)
 generalize hw1:w.alloc _=w1;obtain⟨hb1,hg,hr1,hcell⟩:=HF.out w1 hw1;have HB1:=Hd hb1;have HC:=Hd hcell;obtain⟨q0,q1,q2,q3,q4,q5⟩:=Sx (hcell w1 (Below.refl _ _));have HA1:=Hd (HAS.out w1 hb1);clear hcell hb1 hr1 hw1 HF HAS
 go_wp2_with fail
 refine HA1.out.mono ?_;rintro r w2 ⟨n,s,op,A',arms,ca',hh,lo,hi,rfl,hrt,hrow,hb2⟩;have HB2:=Hd (HB1.out.trans (hb2.mono HB1.out.size));have HW2:=Hd hb2;have HRT:=Hd hrt;have HS:=Hd (show res=(hh && fieldsB x (namX x.k n s op arms) && decide (lo≤(len:Int)) && decide ((len:Int)≤hi)) by rw[← HRES.out,← HLEN.out];exact hrow.symm);have HRB:=Hd fun w3 h=>row_block w2 n s op A' arms.length ca' hh lo hi w3 h;have HF1:=Hd fun w4 h hA=>HFL.out n s op A' arms ca' w4 h hA;clear q0 q1 q2 q3 q4 q5 hrt hrow hb2 HFL;unfold rowA at HRB ⊢;generalize fieldsB x (namX x.k n s op arms)=fb at *
 go_upto_region 2 with(fail)
 generalize hw3:w2.alloc _=w3;obtain⟨hb3,hg3,hc0,hf0,hset⟩:=HRB.out w3 hw3;have q0:=HC.out w3 (HW2.out.trans (hb3.mono HW2.out.size)) 0;have HSET:=Hd hset;have HB3:=Hd hb3;clear hset hb3 hw3 HRB
 go_upto_region 3 with(fail)
 generalize hw4:w3.setCell _ _=w4;obtain⟨hb4,hcell4⟩:=HSET.out _ w4 hw4;have HB4:=Hd (HB2.out.trans (hb4.mono HB2.out.size));have HW4:=Hd (HW2.out.trans (hb4.mono HW2.out.size));have HC4:=Hd hcell4;have HF4:=Hd (HF1.out w4 HB4.out (HRT.out.below hb4));obtain⟨q0,q1,q2,q3,q4,q5⟩:=Sx (HC.out w4 HW4.out);obtain⟨r0,r1,r2,r3,r4,r5⟩:=Sx (hcell4 w4 (Below.refl _ _));have r6:=hcell4 w4 (Below.refl _ _) 6;clear hcell4 hb4 hw4 HSET hc0 hf0 HF1
 cases hh with
 | false=>
  have HN:=Hd (show res=false by rw[HS.out];simp)
  go_wp2_with fail
  go_ret
  exact⟨ret_bool HN.out.symm,HB4.out⟩
 | true=>
  cases fb with
  | false=>
   have HN:=Hd (show res=false by rw[HS.out];simp)
   go_wp2_with fail
   refine HF4.out.mono ?_;rintro r w5 ⟨rfl,hb5⟩;have HB5:=Hd (HB4.out.trans (hb5.mono HB4.out.size));clear hb5 q0 q1 q2 q3 q4 q5 r0 r1 r2 r3 r4 r5 r6
   go_wp2_with fail
   go_ret
   exact⟨ret_bool HN.out.symm,HB5.out⟩
  | true=>
   cases hlo:decide (lo≤(len:Int)) with
   | false=>
    have HN:=Hd (show res=false by rw[HS.out,hlo];simp)
    go_wp2_with fail
    refine HF4.out.mono ?_;rintro r w5 ⟨rfl,hb5⟩;have HB5:=Hd (HB4.out.trans (hb5.mono HB4.out.size));have r7:=HC4.out w5 hb5 7;have r8:=HC4.out w5 hb5 8;clear hb5 q0 q1 q2 q3 q4 q5 r0 r1 r2 r3 r4 r5 r6
    go_wp2_with fail
    go_ret
    exact⟨ret_bool HN.out.symm,HB5.out⟩
   | true=>
    have HN:=Hd (show res=decide ((len:Int)≤hi) by rw[HS.out,hlo];simp)
    go_wp2_with fail
    refine HF4.out.mono ?_;rintro r w5 ⟨rfl,hb5⟩;have HB5:=Hd (HB4.out.trans (hb5.mono HB4.out.size));have r7:=HC4.out w5 hb5 7;have r8:=HC4.out w5 hb5 8;clear hb5 q0 q1 q2 q3 q4 q5 r0 r1 r2 r3 r4 r5 r6
    go_wp2_with fail
    go_ret
    exact⟨ret_bool HN.out.symm,HB5.out⟩
end
section
open Go.RowKit Go.ChangeShapes Go.WideShapes Go.Deep
mutual
def capX(w:World):Ex→Option Addr→Prop
 | .mk _ _ _ _ _ subs,B=>∀ b off,B=some ⟨b,off,none⟩→capXs w subs b off
def capXs(w:World):List Ex→Nat→Nat→Prop
 | [],_,_=>True
 | x::l,b,off=>(∀ A ca B cb,w.rangeAt b off (exL x A ca B cb)→(x.k=13→x.subs.length≤cb)∧capX w x B)∧capXs w l b (off+6)
end
theorem rangeAt_back{w w':World}{cs:List Value}{b o:Nat}(h:w'.rangeAt b o cs)(hb:b<w.heap.size)(hk:∀ p:Addr,p.block<w.heap.size→w'.cell? p=w.cell? p):w.rangeAt b o cs:=fun j v hv=>(hk _ hb).symm.trans (h j v hv)
theorem exL_oneC{w:World}{b o:Nat}{x:Ex}{A A':Option Addr}{ca ca':Nat}{B B':Option Addr}{cb cb':Nat}(h:w.rangeAt b o (exL x A ca B cb))(h':w.rangeAt b o (exL x A' ca' B' cb')):A=A'∧B=B'∧cb=cb':=by
 have h1:=(h 4 _ rfl).symm.trans (h' 4 _ rfl);have h2:=(h 5 _ rfl).symm.trans (h' 5 _ rfl);injection h1 with h1;injection h1 with h1 _ _;injection h2 with h2;injection h2 with h2 _ h3;exact⟨h1,h2,h3⟩
mutual
theorem capX_keep{w w':World}(hk:∀ p:Addr,p.block<w.heap.size→w'.cell? p=w.cell? p):∀ (x:Ex) (A B:Option Addr),rdX w x A B→capX w x B→capX w' x B
 | .mk k n s op arms subs,A,B,hr,h=>by
  simp only[rdX] at hr;simp only[capX] at h ⊢;intro b off e
  cases subs with
  | nil=>simp only[capXs]
  | cons y l=>
   obtain⟨b',off',e',hb,hrs⟩:=hr.2.2 (by simp);rw[e] at e';injection e' with e';injection e' with e1 e2;subst e1 e2;exact capXs_keep hk (y::l) b off hb hrs (h b off e)
theorem capXs_keep{w w':World}(hk:∀ p:Addr,p.block<w.heap.size→w'.cell? p=w.cell? p):∀ (l:List Ex) (b off:Nat),b<w.heap.size→rdXs w l b off→capXs w l b off→capXs w' l b off
 | [],_,_,_,_,_=>by simp only[capXs]
 | x::l,b,off,hb,hr,h=>by
  simp only[rdXs] at hr;simp only[capXs] at h ⊢;obtain⟨⟨A0,ca0,B0,cb0,h1,h2⟩,h3⟩:=hr;refine⟨fun A ca B cb hg=>?_,capXs_keep hk l b (off+6) hb h3 h.2⟩;have hg0:=rangeAt_back hg hb hk;obtain⟨q1,q2⟩:=h.1 A ca B cb hg0;obtain⟨e1,e2,_⟩:=exL_oneC hg0 h1;subst e1 e2;exact⟨q1,capX_keep hk x A B h2 q2⟩
end
theorem capX.below{w w':World}{x:Ex}{A B:Option Addr}(h:capX w x B)(hr:rdX w x A B)(hb:Below w.heap.size w w'):capX w' x B:=capX_keep (fun _ hp=>hb.cell hp) x A B hr h
section
variable {H:Type}{enc:TypeId × Value→H}{w:World}{base:Nat}{spare:Nat→Bool}{held:Bool}
end
end
section
open Go.RowKit
theorem ret_strV{a b:ByteArray}(h:a=b):Ending.returned (.string a)=.returned (.string b):=by rw[h]
def DigR(U u:Nat)(s:List UInt8):Prop:=(s=[]∧u=U)∨(s≠[]∧Lib.decDigits U=(if u=0 then [] else Lib.decDigits u)++s)
theorem DigR.start(U:Nat):DigR U U []:=.inl ⟨rfl,rfl⟩
theorem decDigits_step(u:Nat):Lib.decDigits u=(if u / 10=0 then [] else Lib.decDigits (u / 10))++[UInt8.ofNat (48+u % 10)]:=by
 by_cases h:u<10
 · rw[Lib.decDigits_one h,if_pos (by omega),List.nil_append,Nat.mod_eq_of_lt h]
 · rw[Lib.decDigits,dif_neg h,if_neg (by omega)]
theorem DigR.step{U u:Nat}{s:List UInt8}(h:DigR U u s)(hu:0<u∨s=[]):DigR U (u / 10) (UInt8.ofNat (48+u % 10)::s):=by
 refine .inr ⟨by simp,?_⟩;rcases h with⟨rfl,rfl⟩|⟨hs,he⟩
 · exact decDigits_step u
 · have hu':¬ u=0:=by
    rcases hu with h | h
    · omega
    · exact absurd h hs
   rw[he,if_neg hu',decDigits_step u,List.append_assoc];rfl
theorem DigR.end_{U u:Nat}{s:List UInt8}(h:DigR U u s)(hu:u=0)(hs:s≠[]):s=Lib.decDigits U:=by
 rcases h with⟨h,_⟩|⟨_,he⟩
 · exact absurd h hs
 · rw[he,if_pos hu,List.nil_append]
theorem DigR.len{U u:Nat}{s:List UInt8}(h:DigR U u s)(hU:U<18446744073709551616):s.length≤20:=by
 rcases h with⟨rfl,_⟩|⟨_,he⟩
 · simp
 · have h1:=congrArg List.length he;rw[Lib.decDigits_length,List.length_append] at h1;have:=Lib.nDigits_le20 U hU;omega
theorem DigR.le{U u:Nat}{s:List UInt8}(h:DigR U u s):True:=trivial
def emptyN(v:Value):Nat:=match v with
 | .string s=>1-s.size
 | _=>0
def digM(a b:Value):Nat:=2*(intOf a).toNat+emptyN b
theorem run_byte{w:World}{A:Option Addr}{c:Nat}{l:Int}(h:Rd .u8 w A 1 c [l]):
 (convert 120 9 (.slice A 1 c)).run Tryz.prog w=.ok (.string ⟨#[l.toNat.toUInt8]⟩) w:=by
 obtain⟨b,off,rfl,hb,hc⟩:=h.at_ (i:=0) (by omega);have:=run_convert_bytes_arg w _ _ Tryz.underlying120 Tryz.underlying5 b off 1 c [l] h.len (fun i hi=>by rw[hc i hi,List.getD_eq_getElem?_getD]) _ Tryz.underlying9;rw[this];rfl
theorem dig_data(u:Nat)(s:ByteArray):((⟨#[UInt8.ofNat (48+u % 10)]⟩:ByteArray)++s).data.toList=UInt8.ofNat (48+u % 10)::s.data.toList:=by simp
theorem dig_round{w:World}{U u:Nat}{s:ByteArray}(h:DigR U u s.data.toList)(hu:0<u∨s.data.toList=[]):DigR U (u / 10) ((⟨#[UInt8.ofNat (48+u % 10)]⟩:ByteArray)++s).data.toList:=by
 rw[dig_data];exact h.step hu
theorem ba_ext{a b:ByteArray}(h:a.data.toList=b.data.toList):a=b:=ByteArray.ext (Array.ext' h)
theorem dig_neg{z:Int}{U:Nat}{s:ByteArray}(hz:z<0)(hU:U=z.natAbs)(h:s.data.toList=Lib.decDigits U):(⟨#[45]⟩:ByteArray)++s=⟨(Lib.itoa z).toArray⟩:=by
 refine ba_ext ?_;subst hU;unfold Lib.itoa;rw[if_pos hz]
 simp[h]
theorem dig_pos{z:Int}{U:Nat}{s:ByteArray}(hz:0≤z)(hU:U=z.natAbs)(h:s.data.toList=Lib.decDigits U):s=⟨(Lib.itoa z).toArray⟩:=by
 refine ba_ext ?_;unfold Lib.itoa;rw[if_neg (by omega),show z.toNat=U by omega]
 simp[h]
theorem byte_conv(u:Nat)(wr:World):
 (convert 120 9 (.slice (some ⟨wr.heap.size,0,none⟩) 1 1)).run Tryz.prog (wr.alloc (.cells #[.int .u8 (48+(u:Int) % 10)] 5))=.ok (.string ⟨#[UInt8.ofNat (48+u % 10)]⟩) (wr.alloc (.cells #[.int .u8 (48+(u:Int) % 10)] 5)):=by
 have:=run_byte (Rd.lit .u8 wr 5 [48+(u:Int) % 10] 1 rfl (by omega) (by intro z hz;simp at hz;subst hz;simp[Lit.wf,IntKind.min,IntKind.max,IntKind.signed,IntKind.bits];omega) #[.int .u8 (48+(u:Int) % 10)] rfl);rw[this];have e:((48+(u:Int) % 10).toNat.toUInt8)=UInt8.ofNat (48+u % 10):=congrArg UInt8.ofNat (by omega);rw[e]
theorem refDigits(z:Int)(h0:-9223372036854775808≤z)(h1:z≤9223372036854775807)(w:World):
 Calls Tryz.prog 103 #[.int .i64 z] w fun r w'=>r=.returned (.string ⟨(Lib.itoa z).toArray⟩)∧Below w.heap.size w w':=by
 obtain⟨U,hU,hU2⟩:∃ U:Nat,U=z.natAbs∧U<18446744073709551616:=⟨z.natAbs,rfl,by omega⟩;have HU:=Hd hU
 by_cases hz:z<0
 · have hw1:IntKind.u64.wrap z=z+18446744073709551616:=by rw[IntKind.wrap_u64];omega
   have hw2:IntKind.u64.wrap (-(z+18446744073709551616))=(U:Int):=by rw[IntKind.wrap_u64];omega
   clear hU
   go_enter Tryz.func103,Tryz.ntmps103
   go_wp2_with fail
   go_loopw [3,4] (fun a b wr=>∃ (u:Nat) (s:ByteArray),a=.int .u64 u∧b=.string s∧u≤U∧DigR U u s.data.toList∧Below w.heap.size w wr) (fun a b _=>digM a b)
   case atStart=>exact⟨U,⟨#[]⟩,rfl,rfl,Nat.le_refl _,DigR.start U,Below.refl _ _⟩
   case round=>
    obtain⟨u,s,rfl,rfl,hu,hd,hnx⟩:=hrel;have HD:=Hd hd;have HNX:=Hd hnx;have hsz:s.size≤20:=by have:=DigR.len hd hU2;simpa using this
    clear hd hnx;have hcv:=byte_conv u wr;have z1:(9223372036854775807<1+s.size)=False:=by rw[eq_iff_iff,iff_false];omega
    have z2:(9223372036854775807<s.size+1)=False:=by rw[eq_iff_iff,iff_false];omega
    have z3:(9223372036854775807<s.size+1+1)=False:=by rw[eq_iff_iff,iff_false];omega
    by_cases hu0:0<u
    · have HN:=Hd (dig_round (w:=w) HD.out (.inl hu0));have hds:(⟨#[UInt8.ofNat (48+u % 10)]⟩:ByteArray).size=1:=rfl;generalize (⟨#[UInt8.ofNat (48+u % 10)]⟩:ByteArray)=x at hcv HN hds
      go_wp2_with fail
      go_roundw
      case rel=>exact⟨u / 10,x++s,by go_num,rfl,by omega,HN.out,HNX.out.alloc HNX.out.size _⟩
      case measure=>simp[digM,intOf,emptyN];omega
    · obtain rfl:u=0:=by omega
      by_cases hs0:s.data.toList=[]
      · obtain rfl:s=⟨#[]⟩:=by cases s;simp_all
        have HN:=Hd (dig_round (w:=w) HD.out (.inr rfl));have hcv:(convert 120 9 (.slice (some ⟨wr.heap.size,0,none⟩) 1 1)).run Tryz.prog (wr.alloc (.cells #[.int .u8 48] 5))=.ok (.string ⟨#[48]⟩) (wr.alloc (.cells #[.int .u8 48] 5)):=byte_conv 0 wr
        go_wp2_with fail
        go_roundw
        case rel=>exact⟨0,(⟨#[48]⟩:ByteArray)++⟨#[]⟩,rfl,rfl,by omega,HN.out,HNX.out.alloc HNX.out.size _⟩
        case measure=>decide
      · have HE:=Hd (HD.out.end_ rfl hs0);have hse:(s.toList==([]:List UInt8))=false:=by rw[Lib.toList_data];simpa using hs0
        have hse2:s.toList.isEmpty=false:=by rw[Lib.toList_data];simpa using hs0
        go_wp2_with fail
        go_ret
        exact⟨ret_strV (dig_neg hz HU.out HE.out),HNX.out⟩
 · have hw1:IntKind.u64.wrap z=(U:Int):=by rw[IntKind.wrap_u64];omega
   clear hU
   go_enter Tryz.func103,Tryz.ntmps103
   go_wp2_with fail
   go_loopw [3,4] (fun a b wr=>∃ (u:Nat) (s:ByteArray),a=.int .u64 u∧b=.string s∧u≤U∧DigR U u s.data.toList∧Below w.heap.size w wr) (fun a b _=>digM a b)
   case atStart=>exact⟨U,⟨#[]⟩,rfl,rfl,Nat.le_refl _,DigR.start U,Below.refl _ _⟩
   case round=>
    obtain⟨u,s,rfl,rfl,hu,hd,hnx⟩:=hrel;have HD:=Hd hd;have HNX:=Hd hnx;have hsz:s.size≤20:=by have:=DigR.len hd hU2;simpa using this
    clear hd hnx;have hcv:=byte_conv u wr;have z1:(9223372036854775807<1+s.size)=False:=by rw[eq_iff_iff,iff_false];omega
    have z2:(9223372036854775807<s.size+1)=False:=by rw[eq_iff_iff,iff_false];omega
    have z3:(9223372036854775807<s.size+1+1)=False:=by rw[eq_iff_iff,iff_false];omega
    by_cases hu0:0<u
    · have HN:=Hd (dig_round (w:=w) HD.out (.inl hu0));have hds:(⟨#[UInt8.ofNat (48+u % 10)]⟩:ByteArray).size=1:=rfl;generalize (⟨#[UInt8.ofNat (48+u % 10)]⟩:ByteArray)=x at hcv HN hds
      go_wp2_with fail
      go_roundw
      case rel=>exact⟨u / 10,x++s,by go_num,rfl,by omega,HN.out,HNX.out.alloc HNX.out.size _⟩
      case measure=>simp[digM,intOf,emptyN];omega
    · obtain rfl:u=0:=by omega
      by_cases hs0:s.data.toList=[]
      · obtain rfl:s=⟨#[]⟩:=by cases s;simp_all
        have HN:=Hd (dig_round (w:=w) HD.out (.inr rfl));have hcv:(convert 120 9 (.slice (some ⟨wr.heap.size,0,none⟩) 1 1)).run Tryz.prog (wr.alloc (.cells #[.int .u8 48] 5))=.ok (.string ⟨#[48]⟩) (wr.alloc (.cells #[.int .u8 48] 5)):=byte_conv 0 wr
        go_wp2_with fail
        go_roundw
        case rel=>exact⟨0,(⟨#[48]⟩:ByteArray)++⟨#[]⟩,rfl,rfl,by omega,HN.out,HNX.out.alloc HNX.out.size _⟩
        case measure=>decide
      · have HE:=Hd (HD.out.end_ rfl hs0);have hse:(s.toList==([]:List UInt8))=false:=by rw[Lib.toList_data];simpa using hs0
        have hse2:s.toList.isEmpty=false:=by rw[Lib.toList_data];simpa using hs0
        go_wp2_with fail
        go_ret
        exact⟨ret_strV (dig_pos (by omega) HU.out HE.out),HNX.out⟩
end
end Go.Proofs.YtokiaaapgkdpmaaGreatDoor
