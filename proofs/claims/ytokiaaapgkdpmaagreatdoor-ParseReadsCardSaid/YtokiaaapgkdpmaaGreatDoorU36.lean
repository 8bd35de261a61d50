/- Parts: PsB. Conditions: each theorem's own. -/
import Derived.Test.YtokiaaapgkdpmaaGreatDoorU35
namespace Go.Proofs.YtokiaaapgkdpmaaGreatDoor
set_option linter.unusedVariables false
set_option linter.unusedSimpArgs false
set_option maxRecDepth 100000
set_option maxHeartbeats 40000000
section
open Go.RowKit Go.Sort
section
variable {w w1 w2 w':World}{b:Nat}{A:Option Addr}{n c:Nat}{all r r' r2:List Tk}{va va1 vp:Value}{st:List Value}{ps:List Ex}{sz:Nat}{L L1 L2 S ft:List Nat}
theorem rrSingle(h:Mem w b A n c all r va st vp ps sz L)(hst:st.length≤900000)(hps:ps.length≤1000000)(hsz:sz≤1000000):
 Calls Tryz.prog 190 #[rp b] w (Turn w b A n c all va st vp L [] (singleO ps sz r)):=by
 have HM:=Hd h;have HIT:=Hd fun w1 (h1:Below w.heap.size w w1)=>rrIs ⟨#[116,114,117,101]⟩ ask_true (h.q.below h1);have HIF:=Hd fun w1 (h1:Below w.heap.size w w1)=>rrIs ⟨#[102,97,108,115,101]⟩ ask_false (h.q.below h1);rw[show(⟨#[116,114,117,101]⟩:ByteArray).data.toList=trueL from rfl] at HIT;rw[show(⟨#[102,97,108,115,101]⟩:ByteArray).data.toList=falseL from rfl] at HIF;obtain⟨t,r',b0,off,i,j,rfl,HTF⟩:=h.q.tokQ;have HTK:Hid (∀ w1,Below w.heap.size w w1→t.k≠6→Calls Tryz.prog 96 #[rp b] w1 fun e w'=>e=.returned (.agg #[.int .i64 t.k,.string (ofB t.s),.int .i64 t.n,.int .i64 (t.a:Int)])∧QSt w' b A n c all r' va vp sz∧Below w1.heap.size (bl b w1) (bl b w')):=Hd fun w1 (h1:Below w.heap.size w w1) (hk:t.k≠6)=>rrToken (h.q.below h1) hk;obtain rfl:=HTF.a;have hi:=HTF.lt;have hi0:(0:Int)≤(i:Int):=by omega
 have hi1:(i:Int)<(n:Int):=by omega
 have ht:=word_isP (r':=r') ask_true (by decide) HTF.ok;have hf:=word_isP (r':=r') ask_false (by decide) HTF.ok;unfold singleO
 cases hbt:isP trueL (t::r') with
 | true=>
  rw[hbt] at HIT;rw[hbt] at ht;have ht1:=ht.symm;simp only[Bool.and_eq_true,beq_iff_eq] at ht1;rw[show plainP (t::r')=some (Ex.mk 2 1 ByteArray.empty 0 [] [],r') by simp[plainP,ht1.1,ht1.2]];exact single_true HM HIT HIF HTK hst hps hsz HTF.q0 HTF.q1 HTF.lb HTF.l0 HTF.mx HTF.t0 HTF.t1 HTF.t2 HTF.t3 hi0 hi1 ht1.1
 | false=>
  rw[hbt] at HIT;rw[hbt] at ht;have ht1:=ht.symm;simp only[Bool.and_eq_false_iff,beq_eq_false_iff_ne] at ht1
  cases hbf:isP falseL (t::r') with
  | true=>
   rw[hbf] at HIF;rw[hbf] at hf;have hf1:=hf.symm;simp only[Bool.and_eq_true,beq_iff_eq] at hf1;rw[show plainP (t::r')=some (Ex.mk 2 0 ByteArray.empty 0 [] [],r') by simp[plainP,hf1.1,hf1.2,show ¬ (falseL=trueL) by decide]];exact single_false (bf:=true) HM HIT HIF HTK hst hps hsz HTF.q0 HTF.q1 HTF.lb HTF.l0 HTF.mx HTF.t0 HTF.t1 HTF.t2 HTF.t3 hi0 hi1 hf1.1
  | false=>
   rw[hbf] at HIF;rw[hbf] at hf;have hf1:=hf.symm;simp only[Bool.and_eq_false_iff,beq_eq_false_iff_ne] at hf1
   by_cases h3:t.k=3
   · rw[show plainP (t::r')=some (Ex.mk 1 t.n ByteArray.empty 0 [] [],r') by simp[plainP,h3]];exact single_num (bf:=true) HM HIT HIF HTK hst hps hsz HTF.q0 HTF.q1 HTF.lb HTF.l0 HTF.mx HTF.t0 HTF.t1 HTF.t2 HTF.t3 hi0 hi1 h3
   · by_cases h2:t.k=2
     · rw[show plainP (t::r')=some (Ex.mk 4 0 (ofB t.s) 0 [] [],r') by simp[plainP,h2]];exact single_high (bf:=true) HM HIT HIF HTK hst hps hsz HTF.q0 HTF.q1 HTF.lb HTF.l0 HTF.mx HTF.t0 HTF.t1 HTF.t2 HTF.t3 hi0 hi1 h2
     · by_cases h4:t.k=4
       · rw[show plainP (t::r')=some (Ex.mk 17 0 (ofB t.s) 0 [] [],r') by simp[plainP,h4]];exact single_path (bf:=true) HM HIT HIF HTK hst hps hsz HTF.q0 HTF.q1 HTF.lb HTF.l0 HTF.mx HTF.t0 HTF.t1 HTF.t2 HTF.t3 hi0 hi1 h4
       · rw[show plainP (t::r')=none by
          simp only[plainP,h3,h2,h4,if_false];rw[if_neg (fun e=>ht1.elim (fun k=>k e.1) (fun k=>k e.2)),if_neg (fun e=>hf1.elim (fun k=>k e.1) (fun k=>k e.2))]]
         exact single_bad (bf:=true) HM HIT HIF HTK hst hps hsz HTF.q0 HTF.q1 HTF.lb HTF.l0 HTF.mx HTF.t0 HTF.t1 HTF.t2 HTF.t3 hi0 hi1 (by simpa using h3) (by simpa using h2) (by simpa using h4)
theorem ask_if:Ask ifL:=.inl (by decide)
theorem ask_merge:Ask mergeL:=.inl (by decide)
theorem atom_round(h:Mem w b A n c all r va st vp ps sz L)(hst:st.length≤900000)(hps:ps.length≤1000000)(hsz:sz≤1000000)  (h0:isP [40] r=true):
 Calls Tryz.prog 177 #[rp b] w (Turn w b A n c all va st vp L [] (PR.ok ([.m .arrow,.m .brk],ps,sz) r.tail)):=by
 have hmf:∀ (fn:Fn) (first cap:Array Value) (w:World),(Instr.makeFunc fn first cap).run Tryz.prog w=.ok (.func fn first cap) w:=fun _ _ _ _=>rfl;have HM:=Hd h;clear h
 go_enter Tryz.func177,Tryz.ntmps177
 go_wp2_with fail
 refine(rrTook_yes ⟨#[40]⟩ ask_40 HM.out.q h0).mono ?_;rintro e w1 ⟨rfl,hq,hb⟩;obtain⟨hM1,hT1⟩:=HM.out.move hq hb;have HM1:=Hd hM1;have HT1:=Hd hT1;clear hq hb hM1 hT1
 go_wp2_with fail
 refine(rrNextA [lvV b .arrow,lvV b .brk] 1 (by simp) HM1.out (by omega) (fns_cons (fns_cons fns_nil))).mono ?_;rintro e w9 ⟨rfl,hx⟩;have HX:=Hd (turn_into (ft:=[]) HM.out (HT1.out.mono (S1:=turnS b va vp []) turnS_b) (fun k hk=>absurd hk List.not_mem_nil) (turn_push (ft:=[]) (new:=[.m .arrow,.m .brk]) (vt:=[lvV b .arrow,lvV b .brk]) HM1.out ((Below.refl _ _).alloc (Nat.le_refl _) _) ⟨[],[],rfl,⟨rfl,rfl⟩,[],[],rfl,⟨rfl,rfl⟩,rfl⟩ ⟨rfl,hx⟩));clear hx
 go_wp2_with fail
 go_end0
 exact HX.out
theorem atom_square(h:Mem w b A n c all r va st vp ps sz L)(hst:st.length≤900000)(hps:ps.length≤1000000)(hsz:sz≤1000000)(h0:isP [40] r=false)(h1:isP [91] r=true):
 Calls Tryz.prog 177 #[rp b] w (Turn w b A n c all va st vp L [] (PR.ok ([.m .arrow,.list [93] false (mk0 14) ps.length],ps,sz) r.tail)):=by
 have hmf:∀ (fn:Fn) (first cap:Array Value) (w:World),(Instr.makeFunc fn first cap).run Tryz.prog w=.ok (.func fn first cap) w:=fun _ _ _ _=>rfl;have HM:=Hd h;clear h
 go_enter Tryz.func177,Tryz.ntmps177
 go_wp2_with fail
 refine(rrTook_no ⟨#[40]⟩ ask_40 HM.out.q h0).mono ?_;rintro e w1 ⟨rfl,hq,hb⟩;obtain⟨hM1,hT1⟩:=HM.out.move hq hb;have HM1:=Hd hM1;have HT1:=Hd hT1;clear hq hb hM1 hT1
 go_wp2_with fail
 refine(rrTook_yes ⟨#[91]⟩ ask_91 HM1.out.q h1).mono ?_;rintro e w2 ⟨rfl,hq,hb⟩;obtain⟨hM2,hT2⟩:=HM1.out.move hq hb;have HM2:=Hd hM2;have HT2:=Hd (HT1.out.trans hT2 HM.out.lv (fun k hk=>.inl hk));clear hq hb hM2 hT2
 go_wp2_with fail
 refine(rrMade (b:=b) (L:=L) 0 w2.heap.size (HM2.out.alloc _) (Nat.zero_le _) hps).mono ?_;rintro e Wa ⟨a0,a1,a2,rfl,hba,hpa,hc0,hc1,hc2⟩;have HKa:=Hd (made_new (x:=mk0 14) HM2.out rfl rfl ((Below.refl _ _).alloc (Nat.le_refl _) _) (Nat.le_refl _) (by exact heap_alloc_new _ _) hba hpa hc0 hc1 hc2 (Below.refl _ _));clear hba hpa hc0 hc1 hc2;have HV:=Hd (show vp.ownBlock≠some w2.heap.size from fun hv=>by have:=HM2.out.lv _ (HM2.out.lp _ hv);omega);have HEL:=Hd (show w.heap.size≤w2.heap.size from HT2.out.size);generalize w2.heap.size=eb at *
 go_wp2_with fail
 refine(rrList [93] false (mk0 14) ps.length eb (.func 116) #[] #[rp a0,rp a1,rp a2] (.inr (by decide)) HKa.out.1 (by omega) HKa.out.2.2.1 HV.out HKa.out.2.2.2.1).mono ?_;intro e w9 hx;have HX:=Hd (turn_into (ft:=[]) HM.out ((HT2.out.mono (S1:=turnS b va vp []) turnS_b).trans (HKa.out.2.1.mono (S1:=turnS b va vp []) (fun k hk=>absurd hk List.not_mem_nil)) HM.out.lv (fun k hk=>.inl hk)) (fun k hk=>.inr (by rw[List.mem_singleton.1 hk];exact HEL.out)) hx);have hr:=hx.1;clear hx;subst hr
 go_wp2_with fail
 go_end0
 exact HX.out
theorem atom_if(h:Mem w b A n c all r va st vp ps sz L)(hst:st.length≤900000)(hps:ps.length≤1000000)(hsz:sz≤1000000)(h0:isP [40] r=false)(h1:isP [91] r=false)(h2:isP ifL r=true):
 Calls Tryz.prog 177 #[rp b] w (Turn w b A n c all va st vp L [] (PR.ok ([.m .arrow,.sign thenL,.m .arrow,.sign elseL,.m .arrow,.made (mk0 7) ps.length],ps,sz) r.tail)):=by
 have hmf:∀ (fn:Fn) (first cap:Array Value) (w:World),(Instr.makeFunc fn first cap).run Tryz.prog w=.ok (.func fn first cap) w:=fun _ _ _ _=>rfl;have HM:=Hd h;clear h
 go_enter Tryz.func177,Tryz.ntmps177
 go_wp2_with fail
 refine(rrTook_no ⟨#[40]⟩ ask_40 HM.out.q h0).mono ?_;rintro e w1 ⟨rfl,hq,hb⟩;obtain⟨hM1,hT1⟩:=HM.out.move hq hb;have HM1:=Hd hM1;have HT1:=Hd hT1;clear hq hb hM1 hT1
 go_wp2_with fail
 refine(rrTook_no ⟨#[91]⟩ ask_91 HM1.out.q h1).mono ?_;rintro e w2 ⟨rfl,hq,hb⟩;obtain⟨hM2,hT2⟩:=HM1.out.move hq hb;have HM2:=Hd hM2;have HT2:=Hd (HT1.out.trans hT2 HM.out.lv (fun k hk=>.inl hk));clear hq hb hM2 hT2
 go_wp2_with fail
 refine(rrTook_yes ⟨#[105,102]⟩ ask_if HM2.out.q h2).mono ?_;rintro e w3 ⟨rfl,hq,hb⟩;obtain⟨hM3,hT3⟩:=HM2.out.move hq hb;have HM3:=Hd hM3;have HT3:=Hd (HT2.out.trans hT3 HM.out.lv (fun k hk=>.inl hk));clear hq hb hM3 hT3;have hst:=(show st.length≤1000000 by omega)
 go_wp2_with fail
 refine(rrSign (b:=b) ⟨#[116,104,101,110]⟩ w3).mono ?_;rintro e Ws0 ⟨s0a,s0b,rfl,hb0,hp0,hk00,hk01⟩;have HMs0:=Hd (HM3.out.below hb0);have HTs0:=Hd (HT3.out.trans (Tn.of_below (S:=[]) hb0) HM.out.lv (fun k hk=>absurd hk List.not_mem_nil));have HZs0:=Hd (fzs_cons (Fz.new (L:=L) hk00 (fun hh=>by have:=HM3.out.lv _ hh;omega)) (fzs_cons (Fz.new (L:=L) hk01 (fun hh=>by have:=HM3.out.lv _ hh;omega)) (fzs_nil L Ws0)));clear hb0 hp0 hk00 hk01
 go_wp2_with fail
 refine(rrSign (b:=b) ⟨#[101,108,115,101]⟩ Ws0).mono ?_;rintro e Ws1 ⟨s1a,s1b,rfl,hb1,hp1,hk10,hk11⟩;have HMs1:=Hd (HMs0.out.below hb1);have HTs1:=Hd (HTs0.out.trans (Tn.of_below (S:=[]) hb1) HM.out.lv (fun k hk=>absurd hk List.not_mem_nil));have HZs1:=Hd (fzs_cons (Fz.new (L:=L) hk10 (fun hh=>by have:=HMs0.out.lv _ hh;omega)) (fzs_cons (Fz.new (L:=L) hk11 (fun hh=>by have:=HMs0.out.lv _ hh;omega)) (HZs0.out.up (Tn.of_below (S:=[]) hb1) nil_sub)));clear hb1 hp1 hk10 hk11
 go_wp2_with fail
 refine(rrMade (b:=b) (L:=L) 0 Ws1.heap.size (HMs1.out.alloc _) (Nat.zero_le _) hps).mono ?_;rintro e Wa ⟨a0,a1,a2,rfl,hba,hpa,hc0,hc1,hc2⟩;have HKa:=Hd (made_new (x:=mk0 7) HMs1.out rfl rfl ((Below.refl _ _).alloc (Nat.le_refl _) _) (Nat.le_refl _) (by exact heap_alloc_new _ _) hba hpa hc0 hc1 hc2 (Below.refl _ _));have HZa:=Hd (HZs1.out.up HKa.out.2.1 nil_sub);clear hba hpa hc0 hc1 hc2
 go_wp2_with fail
 refine(rrNextA [lvV b .arrow,fnV 199 #[rp s0a,rp s0b],lvV b .arrow,fnV 199 #[rp s1a,rp s1b],lvV b .arrow,fnV 116 #[rp a0,rp a1,rp a2]] 1 (by simp) HKa.out.1 hst (fns_cons (fns_cons (fns_cons (fns_cons (fns_cons (fns_cons fns_nil))))))).mono ?_;rintro e Wb ⟨rfl,hx⟩;have HX:=Hd hx;clear hx
 go_wp2_with fail
 go_end0
 have hal:=(tn_alloc (L:=Ws1.heap.size::L) (w:=Wa) (.cells #[lvV b .arrow,fnV 199 #[rp s0a,rp s0b],lvV b .arrow,fnV 199 #[rp s1a,rp s1b],lvV b .arrow,fnV 116 #[rp a0,rp a1,rp a2]] 1));have hE:=HKa.out.2.2.1.up hal nil_sub List.not_mem_nil;have hz:=HZa.out.up hal nil_sub;exact turn_made (eb:=Ws1.heap.size) (x:=mk0 7) (new:=[.m .arrow,.sign [116,104,101,110],.m .arrow,.sign [101,108,115,101],.m .arrow,.made (mk0 7) (ps.length)]) (vt:=[lvV b .arrow,fnV 199 #[rp s0a,rp s0b],lvV b .arrow,fnV 199 #[rp s1a,rp s1b],lvV b .arrow,fnV 116 #[rp a0,rp a1,rp a2]]) HM.out HMs1.out HTs1.out (HKa.out.1.alloc _) (HKa.out.2.1.trans hal HMs1.out.lv (fun k hk=>.inl hk)) hE HTs1.out.size ⟨[],[Ws1.heap.size],rfl,⟨rfl,rfl⟩,⟨[],[Ws1.heap.size],rfl,⟨rfl,(.inl (by decide)),s0a,s0b,rfl,hz (s0a,rp b) (by simp),hz (s0b,.string ⟨#[116,104,101,110]⟩) (by simp)⟩,⟨[],[Ws1.heap.size],rfl,⟨rfl,rfl⟩,⟨[],[Ws1.heap.size],rfl,⟨rfl,(.inl (by decide)),s1a,s1b,rfl,hz (s1a,rp b) (by simp),hz (s1b,.string ⟨#[101,108,115,101]⟩) (by simp)⟩,⟨[],[Ws1.heap.size],rfl,⟨rfl,rfl⟩,⟨[Ws1.heap.size],[],rfl,⟨Ws1.heap.size,rfl,hE,HKa.out.2.2.2.1.up hal nil_sub⟩,rfl⟩⟩⟩⟩⟩⟩ ⟨rfl,HX.out⟩
theorem atom_merge(h:Mem w b A n c all r va st vp ps sz L)(hst:st.length≤900000)(hps:ps.length≤1000000)(hsz:sz≤1000000)(h0:isP [40] r=false)(h1:isP [91] r=false)(h2:isP ifL r=false)(h3:isP mergeL r=true):
 Calls Tryz.prog 177 #[rp b] w (Turn w b A n c all va st vp L [] (mergeO ps sz r.tail)):=by
 have hmf:∀ (fn:Fn) (first cap:Array Value) (w:World),(Instr.makeFunc fn first cap).run Tryz.prog w=.ok (.func fn first cap) w:=fun _ _ _ _=>rfl;have HM:=Hd h;clear h
 go_enter Tryz.func177,Tryz.ntmps177
 go_wp2_with fail
 refine(rrTook_no ⟨#[40]⟩ ask_40 HM.out.q h0).mono ?_;rintro e w1 ⟨rfl,hq,hb⟩;obtain⟨hM1,hT1⟩:=HM.out.move hq hb;have HM1:=Hd hM1;have HT1:=Hd hT1;clear hq hb hM1 hT1
 go_wp2_with fail
 refine(rrTook_no ⟨#[91]⟩ ask_91 HM1.out.q h1).mono ?_;rintro e w2 ⟨rfl,hq,hb⟩;obtain⟨hM2,hT2⟩:=HM1.out.move hq hb;have HM2:=Hd hM2;have HT2:=Hd (HT1.out.trans hT2 HM.out.lv (fun k hk=>.inl hk));clear hq hb hM2 hT2
 go_wp2_with fail
 refine(rrTook_no ⟨#[105,102]⟩ ask_if HM2.out.q h2).mono ?_;rintro e w3 ⟨rfl,hq,hb⟩;obtain⟨hM3,hT3⟩:=HM2.out.move hq hb;have HM3:=Hd hM3;have HT3:=Hd (HT2.out.trans hT3 HM.out.lv (fun k hk=>.inl hk));clear hq hb hM3 hT3
 go_wp2_with fail
 refine(rrTook_yes ⟨#[109,101,114,103,101]⟩ ask_merge HM3.out.q h3).mono ?_;rintro e w4 ⟨rfl,hq,hb⟩;obtain⟨hM4,hT4⟩:=HM3.out.move hq hb;have HM4:=Hd hM4;have HT4:=Hd (HT3.out.trans hT4 HM.out.lv (fun k hk=>.inl hk));clear hq hb hM4 hT4
 go_wp2_with fail
 refine(rrMerge HM4.out hst hps).mono ?_;intro e w9 hx;have HX:=Hd (turn_into (ft:=[]) HM.out (HT4.out.mono (S1:=turnS b va vp []) turnS_b) (fun k hk=>absurd hk List.not_mem_nil) hx);clear hx;rcases turn_two HX.out with rfl | rfl
 · go_wp2_with fail
   go_end0
   exact HX.out
 · go_wp2_with fail
   exact⟨rfl,HX.out⟩
theorem atom_named(h:Mem w b A n c all r va st vp ps sz L)(hst:st.length≤900000)(hps:ps.length≤1000000)(hsz:sz≤1000000)(h0:isP [40] r=false)(h1:isP [91] r=false)(h2:isP ifL r=false)(h3:isP mergeL r=false)(hn:isNameP r=true):
 Calls Tryz.prog 177 #[rp b] w (Turn w b A n c all va st vp L [] (namedO ps sz r)):=by
 have hmf:∀ (fn:Fn) (first cap:Array Value) (w:World),(Instr.makeFunc fn first cap).run Tryz.prog w=.ok (.func fn first cap) w:=fun _ _ _ _=>rfl;have HM:=Hd h;clear h
 go_enter Tryz.func177,Tryz.ntmps177
 go_wp2_with fail
 refine(rrTook_no ⟨#[40]⟩ ask_40 HM.out.q h0).mono ?_;rintro e w1 ⟨rfl,hq,hb⟩;obtain⟨hM1,hT1⟩:=HM.out.move hq hb;have HM1:=Hd hM1;have HT1:=Hd hT1;clear hq hb hM1 hT1
 go_wp2_with fail
 refine(rrTook_no ⟨#[91]⟩ ask_91 HM1.out.q h1).mono ?_;rintro e w2 ⟨rfl,hq,hb⟩;obtain⟨hM2,hT2⟩:=HM1.out.move hq hb;have HM2:=Hd hM2;have HT2:=Hd (HT1.out.trans hT2 HM.out.lv (fun k hk=>.inl hk));clear hq hb hM2 hT2
 go_wp2_with fail
 refine(rrTook_no ⟨#[105,102]⟩ ask_if HM2.out.q h2).mono ?_;rintro e w3 ⟨rfl,hq,hb⟩;obtain⟨hM3,hT3⟩:=HM2.out.move hq hb;have HM3:=Hd hM3;have HT3:=Hd (HT2.out.trans hT3 HM.out.lv (fun k hk=>.inl hk));clear hq hb hM3 hT3
 go_wp2_with fail
 refine(rrTook_no ⟨#[109,101,114,103,101]⟩ ask_merge HM3.out.q h3).mono ?_;rintro e w4 ⟨rfl,hq,hb⟩;obtain⟨hM4,hT4⟩:=HM3.out.move hq hb;have HM4:=Hd hM4;have HT4:=Hd (HT3.out.trans hT4 HM.out.lv (fun k hk=>.inl hk));clear hq hb hM4 hT4;have HNM:=Hd (rrIsName HM4.out.q);rw[hn] at HNM
 go_wp2_with fail
 refine HNM.out.mono ?_;rintro e w8 ⟨rfl,hb⟩;have HM8:=Hd (HM4.out.below hb);have HT8:=Hd (HT4.out.trans (Tn.of_below (S:=[]) hb) HM.out.lv (fun k hk=>absurd hk List.not_mem_nil));clear hb
 go_wp2_with fail
 refine(rrNamed HM8.out hst hps hsz).mono ?_;intro e w9 hx;have HX:=Hd (turn_into (ft:=[]) HM.out (HT8.out.mono (S1:=turnS b va vp []) turnS_b) (fun k hk=>absurd hk List.not_mem_nil) hx);clear hx;rcases turn_two HX.out with rfl | rfl
 · go_wp2_with fail
   go_end0
   exact HX.out
 · go_wp2_with fail
   exact⟨rfl,HX.out⟩
theorem atom_single(h:Mem w b A n c all r va st vp ps sz L)(hst:st.length≤900000)(hps:ps.length≤1000000)(hsz:sz≤1000000)(h0:isP [40] r=false)(h1:isP [91] r=false)(h2:isP ifL r=false)(h3:isP mergeL r=false)(hn:isNameP r=false):
 Calls Tryz.prog 177 #[rp b] w (Turn w b A n c all va st vp L [] (singleO ps sz r)):=by
 have hmf:∀ (fn:Fn) (first cap:Array Value) (w:World),(Instr.makeFunc fn first cap).run Tryz.prog w=.ok (.func fn first cap) w:=fun _ _ _ _=>rfl;have HM:=Hd h;clear h
 go_enter Tryz.func177,Tryz.ntmps177
 go_wp2_with fail
 refine(rrTook_no ⟨#[40]⟩ ask_40 HM.out.q h0).mono ?_;rintro e w1 ⟨rfl,hq,hb⟩;obtain⟨hM1,hT1⟩:=HM.out.move hq hb;have HM1:=Hd hM1;have HT1:=Hd hT1;clear hq hb hM1 hT1
 go_wp2_with fail
 refine(rrTook_no ⟨#[91]⟩ ask_91 HM1.out.q h1).mono ?_;rintro e w2 ⟨rfl,hq,hb⟩;obtain⟨hM2,hT2⟩:=HM1.out.move hq hb;have HM2:=Hd hM2;have HT2:=Hd (HT1.out.trans hT2 HM.out.lv (fun k hk=>.inl hk));clear hq hb hM2 hT2
 go_wp2_with fail
 refine(rrTook_no ⟨#[105,102]⟩ ask_if HM2.out.q h2).mono ?_;rintro e w3 ⟨rfl,hq,hb⟩;obtain⟨hM3,hT3⟩:=HM2.out.move hq hb;have HM3:=Hd hM3;have HT3:=Hd (HT2.out.trans hT3 HM.out.lv (fun k hk=>.inl hk));clear hq hb hM3 hT3
 go_wp2_with fail
 refine(rrTook_no ⟨#[109,101,114,103,101]⟩ ask_merge HM3.out.q h3).mono ?_;rintro e w4 ⟨rfl,hq,hb⟩;obtain⟨hM4,hT4⟩:=HM3.out.move hq hb;have HM4:=Hd hM4;have HT4:=Hd (HT3.out.trans hT4 HM.out.lv (fun k hk=>.inl hk));clear hq hb hM4 hT4;have HNM:=Hd (rrIsName HM4.out.q);rw[hn] at HNM
 go_wp2_with fail
 refine HNM.out.mono ?_;rintro e w8 ⟨rfl,hb⟩;have HM8:=Hd (HM4.out.below hb);have HT8:=Hd (HT4.out.trans (Tn.of_below (S:=[]) hb) HM.out.lv (fun k hk=>absurd hk List.not_mem_nil));clear hb
 go_wp2_with fail
 refine(rrSingle HM8.out hst hps hsz).mono ?_;intro e w9 hx;have HX:=Hd (turn_into (ft:=[]) HM.out (HT8.out.mono (S1:=turnS b va vp []) turnS_b) (fun k hk=>absurd hk List.not_mem_nil) hx);clear hx;rcases turn_two HX.out with rfl | rfl
 · go_wp2_with fail
   go_end0
   exact HX.out
 · go_wp2_with fail
   exact⟨rfl,HX.out⟩
theorem lv_atom(h:Mem w b A n c all r va st vp ps sz L)(hst:st.length≤900000)(hps:ps.length≤1000000)(hsz:sz≤1000000):
 Calls Tryz.prog 177 #[rp b] w (Turn w b A n c all va st vp L [] (lvO .atom ps sz r)):=by
 show Calls _ _ _ _ (Turn w b A n c all va st vp L [] (atomO ps sz r))
 unfold atomO
 cases h0:isP [40] r with
 | true=>rw[if_pos rfl];exact atom_round h hst hps hsz h0
 | false=>
  rw[if_neg (by simp)]
  cases h1:isP [91] r with
  | true=>rw[if_pos rfl];exact atom_square h hst hps hsz h0 h1
  | false=>
   rw[if_neg (by simp)]
   cases h2:isP ifL r with
   | true=>rw[if_pos rfl];exact atom_if h hst hps hsz h0 h1 h2
   | false=>
    rw[if_neg (by simp)]
    cases h3:isP mergeL r with
    | true=>rw[if_pos rfl];exact atom_merge h hst hps hsz h0 h1 h2 h3
    | false=>
     rw[if_neg (by simp)]
     cases hn:isNameP r with
     | true=>rw[if_pos rfl];exact atom_named h hst hps hsz h0 h1 h2 h3 hn
     | false=>rw[if_neg (by simp)];exact atom_single h hst hps hsz h0 h1 h2 h3 hn
end
end
end Go.Proofs.YtokiaaapgkdpmaaGreatDoor
