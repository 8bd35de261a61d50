/- Parts: PrS, PrU, PrV, PrW, PrX, PrY. Conditions: each theorem's own. -/
import Derived.Test.YtokiaaapgkdpmaaGreatDoorU32
namespace Go.Proofs.YtokiaaapgkdpmaaGreatDoor
set_option linter.unusedVariables false
set_option linter.unusedSimpArgs false
set_option maxRecDepth 100000
set_option maxHeartbeats 40000000
section
open Go.RowKit Go.Sort
section
variable {w w1 w2 w':World}{b:Nat}{A:Option Addr}{n c:Nat}{all r r' r2:List Tk}{va va1 vp:Value}{st:List Value}{ps:List Ex}{sz:Nat}{L L1 L2 S ft:List Nat}
theorem turn_two{o:Out}{e:Ending}(h:Turn w b A n c all va st vp L ft o e w'):e=.returned (.tuple #[])∨e=Pan:=by
 cases o with
 | ok z r3=>exact .inl h.1
 | bad q=>exact .inr h.1
theorem mat_end(h:Mem w b A n c all r va st vp ps sz L){eb:Nat}{x:Ex}(k:MAt L w eb x ft)(hna:x.arms.length≤1000000):
 ∃ L2,Mem w b A n c all r va st vp ps sz L2∧EAt L2 w eb x∧Tn ft L L2 w w∧eb∈ft∧∀ j∈ft,j∈L:=by
 obtain⟨hx,Aa,ca,h1,h2,h3,h4⟩:=k;have hbo:(Value.slice Aa x.arms.length ca).ownBlock≠some b:=own_ne h2 h.row (by decide);have hbe:(Value.slice Aa x.arms.length ca).ownBlock≠some eb:=own_ne h2 h1 (by decide);obtain⟨cs,h5,h6⟩:=h.op;have hmem:∀ j,j∈L.filter (fun j=>decide ((Value.slice Aa x.arms.length ca).ownBlock≠some j))↔j∈L∧(Value.slice Aa x.arms.length ca).ownBlock≠some j:=fun j=>by simp
 have ht:Tn ft L (L.filter fun j=>decide ((Value.slice Aa x.arms.length ca).ownBlock≠some j)) w w:=
  ⟨rfl,rfl,rfl,Nat.le_refl _,fun _ _ _=>rfl,fun j hj=>.inl ((hmem j).1 hj).1,fun j hj hn=>(hmem j).2 ⟨hj,fun e=>hn (by rw[h3];simp[e])⟩⟩
 have hS:∀ j∈ft,j∈L:=h4;refine⟨L.filter fun j=>decide ((Value.slice Aa x.arms.length ca).ownBlock≠some j),⟨h.row,h.rd.up ht.ups (ht.up hS),h.len,h.pre,h.fin,h.tks,h.oa,⟨cs,h5,flX_up ht.ups (ht.up hS) h6⟩,(hmem b).2 ⟨h.lb,hbo⟩,fun j hj=>(hmem j).2 ⟨h.la j hj,fun e=>own_ne2 h.oa h2 (by decide) hj e⟩,fun j hj=>(hmem j).2 ⟨h.lp j hj,fun e=>own_ne2 h5 h2 (by decide) hj e⟩,fun j hj=>h.lv j ((hmem j).1 hj).1⟩,⟨(hmem eb).2 ⟨h4 eb (by rw[h3];simp),hbe⟩,hx,Aa,ca,h1,?_⟩,ht,by rw[h3];simp,h4⟩;refine⟨rfl,by omega,fun hn=>?_⟩;rcases h2.2 with⟨h7,h8⟩|⟨g,cap,cur,h7,hg,hh,h8,h9,h10,h11⟩
 · omega
 · injection h7 with h7 h12 h13;subst h7 h13;have hgn:g∉L.filter (fun j=>decide ((Value.slice (some ⟨g,0,none⟩) x.arms.length ca).ownBlock≠some j)):=fun hk=>((hmem g).1 hk).2 rfl;refine⟨g,0,rfl,by rw[bls_size];exact(Array.getElem?_eq_some_iff.1 hh).1,fun i hi=>?_⟩;rw[bls_cell (p:=⟨g,0+i,none⟩) hgn,Nat.zero_add,h2.cellAt i (by omega)]
   simp[List.getElem?_eq_getElem hi]
theorem trn_more(x:Ex)(f eb p0 p1 p2 p3 p4 q0 q1 q2:Nat)(h:Mem w b A n c all r va st vp ps sz L)(hst:st.length≤900000)(hf:f≤ps.length)(hps:ps.length≤1000000)(hsz:sz≤1000000)(hma:MAt L w eb x ft)(hna:x.arms.length≤1000000)(hv:vp.ownBlock≠some eb)(h0:Fz L w p0 (rp b))(h1:Fz L w p1 (fnV 201 #[rp p0,rp p3,rp p4]))(h2:Fz L w p2 (fnV 116 #[rp q0,rp q1,rp q2]))(h3:Fz L w p3 (rp eb))(h4:Fz L w p4 (fnV 200 #[rp p0,rp p1,rp p2]))(k0:Fz L w q0 (rp b))(k1:Fz L w q1 (rp eb))(k2:Fz L w q2 (.int .i64 (f:Int))):
 Calls Tryz.prog 200 #[rp p0,rp p1,rp p2] w (Turn w b A n c all va st vp L ft (stepF (.more x f) ps sz r)):=by
 have hmf:∀ (fn:Fn) (first cap:Array Value) (w:World),(Instr.makeFunc fn first cap).run Tryz.prog w=.ok (.func fn first cap) w:=fun _ _ _ _=>rfl;have HM:=Hd h;have HZ:=Hd (fzs_cons h0 (fzs_cons h1 (fzs_cons h2 (fzs_cons h3 (fzs_cons h4 (fzs_cons k0 (fzs_cons k1 (fzs_cons k2 (fzs_nil L w)))))))));have HA:=Hd hma;have HV:=Hd hv;have HI:=Hd (rrIs ⟨#[40]⟩ ask_40 h.q);rw[show(⟨#[40]⟩:ByteArray).data.toList=[40] from rfl] at HI;have c0:=h0.get;clear h h0 h1 h2 h3 h4 k0 k1 k2 hma hv
 show Calls _ _ _ _ (Turn w b A n c all va st vp L ft (if isP [40] r=true then armO x f ps sz r else madeO x f ps sz r))
 cases hi:isP [40] r with
 | true=>
  rw[if_pos rfl];rw[hi] at HI;obtain⟨u0,hn⟩:∃ r1,needP [40] r=.ok () r1:=⟨r.tail,by simp[needP,hi]⟩;clear hi
  go_enter Tryz.func200,Tryz.ntmps200
  go_wp2_with fail
  refine HI.out.mono ?_;rintro e w1 ⟨rfl,hb1⟩;have HM1:=Hd (HM.out.below hb1);have hT1:Tn [] L L w w1:=Tn.of_below hb1;have HZ1:=Hd (HZ.out.up hT1 nil_sub);have HA1:=Hd (HA.out.up hT1 (fun k _=>List.not_mem_nil));have HT1:=Hd hT1;have d1:=HZ1.out.at_ 1 p1 _ rfl;clear hb1 hT1 c0
  go_wp2_with fail
  refine(trn_arm x f eb p0 p1 p2 p3 p4 (fnV 116 #[rp q0,rp q1,rp q2]) HM1.out hst HA1.out hna HV.out (HZ1.out (p0,rp b) (by simp)) (HZ1.out (p1,fnV 201 #[rp p0,rp p3,rp p4]) (by simp)) (HZ1.out (p2,fnV 116 #[rp q0,rp q1,rp q2]) (by simp)) ⟨q0,q1,q2,rfl,HZ1.out (q0,rp b) (by simp),HZ1.out (q1,rp eb) (by simp),HZ1.out (q2,.int .i64 (f:Int)) (by simp)⟩ (HZ1.out (p3,rp eb) (by simp)) (HZ1.out (p4,fnV 200 #[rp p0,rp p1,rp p2]) (by simp))).mono ?_;intro e w3 hx;have HX:=Hd (turn_into (ft:=ft) HM.out (HT1.out.mono (fun k hk=>absurd hk List.not_mem_nil)) (fun k hk=>.inl hk) hx);clear hx;rcases turn_two HX.out with rfl | rfl
  · go_wp2_with fail
    go_end0
    exact HX.out
  · go_wp2_with fail
    exact⟨rfl,HX.out⟩
 | false=>
  rw[if_neg (by simp)];rw[hi] at HI;clear hi
  go_enter Tryz.func200,Tryz.ntmps200
  go_wp2_with fail
  refine HI.out.mono ?_;rintro e w1 ⟨rfl,hb1⟩;have HM1:=Hd (HM.out.below hb1);have hT1:Tn [] L L w w1:=Tn.of_below hb1;have hZ1:=HZ.out.up hT1 nil_sub;obtain⟨L2,hM2,hE2,hT2,hef,hfl⟩:=mat_end HM1.out (HA.out.up hT1 (fun k _=>List.not_mem_nil)) hna;have HZ2:=Hd (hZ1.up hT2 hfl);have HM2:=Hd hM2;have HE2:=Hd hE2;have HT2:=Hd ((hT1.mono (S1:=turnS b va vp ft) (fun k hk=>absurd hk List.not_mem_nil)).trans hT2 HM.out.lv (fun k hk=>.inl (turnS_f k hk)));have d2:=hZ1.at_ 2 p2 _ rfl;clear hb1 hT1 c0 hZ1 hM2 hE2 hT2 hfl
  go_wp2_with fail
  refine(trn_made x f eb q0 q1 q2 HM2.out hf hps hsz HE2.out HV.out (HZ2.out (q0,rp b) (by simp)) (HZ2.out (q1,rp eb) (by simp)) (HZ2.out (q2,.int .i64 (f:Int)) (by simp))).mono ?_;intro e w3 hx;have HX:=Hd (turn_into (ft:=ft) HM.out HT2.out (fun k hk=>.inl (by rw[List.mem_singleton.1 hk];exact hef)) hx);obtain rfl:=turn_made_ret hx;clear hx
  go_wp2_with fail
  go_end0
  exact HX.out
end
end
section
open Go.RowKit Go.Sort
section
variable {w w1 w2 w':World}{b:Nat}{A:Option Addr}{n c:Nat}{all r r' r2:List Tk}{va va1 vp:Value}{st:List Value}{ps:List Ex}{sz:Nat}{L L1 L2 S ft:List Nat}
theorem rrMerge(h:Mem w b A n c all r va st vp ps sz L)(hst:st.length≤900000)(hps:ps.length≤1000000):
 Calls Tryz.prog 188 #[rp b] w (Turn w b A n c all va st vp L [] (mergeO ps sz r)):=by
 have hmf:∀ (fn:Fn) (first cap:Array Value) (w:World),(Instr.makeFunc fn first cap).run Tryz.prog w=.ok (.func fn first cap) w:=fun _ _ _ _=>rfl;have HM:=Hd h;have HNM:=Hd fun w1 (hb:Below w.heap.size w w1)=>rrName (h.q.below hb);clear h
 show Calls _ _ _ _ (Turn w b A n c all va st vp L [] ((nameP r).bind fun s r=>armO (.mk 12 0 (ofB s) 0 [] []) ps.length ps sz r))
 cases hn:nameP r with
 | bad q=>
  go_enter Tryz.func188,Tryz.ntmps188
  go_wp2_with fail
  refine(QPost.bad_ (HNM.out _ ((Below.refl _ _).alloc (Nat.le_refl _) _)) hn).mono ?_;rintro e w1 ⟨rfl,hq1,hb1⟩;have HQ1:=Hd hq1;have HB1:=Hd hb1;clear hq1 hb1
  go_wp2_with fail
  refine⟨rfl,turn_bad HM.out HQ1.out (kb_trans (bl_of ((Below.refl _ _).alloc (Nat.le_refl _) _)) HB1.out)⟩
 | ok s q=>
  have HNK:=Hd fun w1 (hb:Below w.heap.size w w1)=>QPost.ok_ (HNM.out w1 hb) hn
  show Calls _ _ _ _ (Turn w b A n c all va st vp L [] (armO (.mk 12 0 (ofB s) 0 [] []) ps.length ps sz q))
  clear HNM hn;generalize ofB s=ss at *
  go_enter Tryz.func188,Tryz.ntmps188
  go_wp2_with fail
  refine(HNK.out _ ((Below.refl _ _).alloc (Nat.le_refl _) _)).mono ?_;rintro e w1 ⟨rfl,hq1,hb1⟩;have HP0:=Hd (show(w.alloc (.cells #[rp b] 57)).cell? ⟨w.heap.size,0,none⟩=some (rp b) by simp);obtain⟨hM1,hT1⟩:=(HM.out.alloc (.cells #[rp b] 57)).move hq1 hb1;have HM1:=Hd hM1;have HT1:=Hd ((tn_alloc (.cells #[rp b] 57)).mono (S1:=[b]) (fun k hk=>absurd hk List.not_mem_nil) |>.trans hT1 HM.out.lv (fun k hk=>.inl hk));have HZ1:=Hd ((fzs_cons (Fz.new HP0.out (not_in HM.out.lv 0)) (fzs_nil L (w.alloc (.cells #[rp b] 57)))).up hT1 (b_sub HM.out));have d0:=HZ1.out.at_ 0 _ _ rfl;generalize w.heap.size=p0 at d0 HZ1 ⊢;have l0:=World.block_lt_of_cell? _ _ d0;clear hq1 hb1 hM1 hT1
  go_wp2_with fail
  refine(rrMade (b:=b) (L:=L) 0 w1.heap.size ((HM1.out.alloc _).alloc _) (Nat.zero_le _) hps).mono ?_;rintro e W3 ⟨q0,q1,q2,rfl,hba,hpa,hc0,hc1,hc2⟩;have hN:=news (w:=w1) (l:=[(exA (Ex.mk 12 0 ss 0 [] []) none 0 none 0,26),(#[rp w1.heap.size],98)]) rfl;have HKa:=Hd (made_new (x:=Ex.mk 12 0 ss 0 [] []) (f:=ps.length) HM1.out rfl rfl hN.below (Nat.le_refl _) (hN.at_ 0 _ rfl) hba hpa hc0 hc1 hc2 (Below.refl _ _));have HPE:=Hd (show W3.cell? ⟨w1.heap.size+1,0,none⟩=some (rp w1.heap.size) from(hba.cell (by simp)).trans (hN.cell 1 0 _ _ rfl rfl))
  have HNI:=Hd (show w1.heap.size+1∉w1.heap.size::L from fun hk=>by
   rcases List.mem_cons.1 hk with hk | hk
   · omega
   · have:=HM1.out.lv _ hk;omega)
  have HZ3:=Hd (fzs_cons (Fz.new HPE.out HNI.out) (HZ1.out.up HKa.out.2.1 nil_sub));have HEL:=Hd (show w.heap.size≤w1.heap.size from HT1.out.size);have hr3:=HKa.out.2.2.1;have HRW:=Hd (show W3.heap[w1.heap.size]?=some (.cells (exA (Ex.mk 12 0 ss 0 [] []) none 0 none 0) 26) from(hba.block w1.heap.size (by simp;omega)).trans (hN.at_ 0 _ rfl));clear hba hpa hc0 hc1 hc2 hN HPE HNI d0 l0 HNK;generalize hpe:w1.heap.size+1=pe at *;generalize heb:w1.heap.size=eb at *;clear hpe
  go_wp2_with fail
  have hN4:=news (w:=W3) (l:=[(#[fnV 116 #[rp q0,rp q1,rp q2]],1),(#[fnV 201 #[rp p0,rp pe,rp (W3.heap.size+2)]],1),(#[fnV 200 #[rp p0,rp (W3.heap.size+1),rp W3.heap.size]],1)]) rfl;have hT4:Tn [] (eb::L) (eb::L) W3 _:=Tn.of_below hN4.below;have hM4:=HKa.out.1.below hN4.below;have hz4:=HZ3.out.up hT4 nil_sub;have hni:∀ i,W3.heap.size+i∉eb::L:=not_in HKa.out.1.lv;have hma:MAt (eb::L) _ eb (Ex.mk 12 0 ss 0 [] []) [eb]:=⟨rfl,none,0,(hN4.below.block eb HKa.out.2.2.2.2.1).trans HRW.out,⟨rfl,.inl ⟨rfl,rfl⟩⟩,rfl,fun k hk=>by rw[List.mem_singleton.1 hk];exact List.mem_cons_self⟩;have hvp:vp.ownBlock≠some eb:=fun hv=>by have:=HM1.out.lv eb (HM1.out.lp eb hv);omega
  refine(trn_arm (Ex.mk 12 0 ss 0 [] []) ps.length eb p0 W3.heap.size.succ W3.heap.size pe (W3.heap.size+2) (fnV 116 #[rp q0,rp q1,rp q2]) hM4 hst hma (Nat.zero_le _) hvp (hz4 (p0,rp b) (by simp)) (Fz.new (hN4.cell 1 0 _ _ rfl rfl) (hni 1)) (Fz.new (hN4.cell 0 0 _ _ rfl rfl) (hni 0)) (HKa.out.2.2.2.1.up hT4 nil_sub) (hz4 (pe,rp eb) (by simp)) (Fz.new (hN4.cell 2 0 _ _ rfl rfl) (hni 2))).mono ?_;intro e w3 hx;have HX:=Hd (turn_into (ft:=[]) HM.out ((HT1.out.mono (S1:=turnS b va vp []) turnS_b).trans ((HKa.out.2.1.trans hT4 HM1.out.lv (fun k hk=>.inl hk)).mono (fun k hk=>absurd hk List.not_mem_nil)) HM.out.lv (fun k hk=>.inl hk)) (fun k hk=>.inr (by rw[List.mem_singleton.1 hk];exact HEL.out)) hx);clear hx hN4 hT4 hM4 hz4 hni hma;rcases turn_two HX.out with rfl | rfl
  · go_wp2_with fail
    go_end0
    exact HX.out
  · go_wp2_with fail
    exact⟨rfl,HX.out⟩
end
end
section
open Go.RowKit Go.Sort
section
variable {w w1 w2 w':World}{b:Nat}{A:Option Addr}{n c:Nat}{all r r' r2:List Tk}{va va1 vp:Value}{st:List Value}{ps:List Ex}{sz:Nat}{L L1 L2 S ft:List Nat}
theorem ask_pre:Ask preL:=.inl (by decide)
theorem lv_un(h:Mem w b A n c all r va st vp ps sz L)(hst:st.length≤1000000)(hps:ps.length≤1000000):
 Calls Tryz.prog 168 #[rp b] w (Turn w b A n c all va st vp L [] (lvO .un ps sz r)):=by
 have hmf:∀ (fn:Fn) (first cap:Array Value) (w:World),(Instr.makeFunc fn first cap).run Tryz.prog w=.ok (.func fn first cap) w:=fun _ _ _ _=>rfl;have HM:=Hd h;have HP:=Hd hps
 have HO:=Hd fun w1 (hN:News w [(#[.int .i64 1,.int .i64 2],3)] w1)=>rrOp zUn w.heap.size 2 (h.q.below hN.below) ok_Un (fun i hi=>by
  refine(bl_cell (p:=⟨w.heap.size,i,none⟩) (show w.heap.size≠b from fun hk=>by have:=h.lt;omega)).trans ?_
  match i,hi with
  | 0,_=>exact hN.cell 0 0 _ _ rfl rfl
  | 1,_=>exact hN.cell 0 1 _ _ rfl rfl)
 have HBS:=Hd (b_sub h)
 show Calls _ _ _ _ (Turn w b A n c all va st vp L [] (unO ps sz r))
 unfold unO;rw[show opsUn=zsL zUn from rfl];generalize hsg:signP (zsL zUn) r=op at *;have HR:=Hd (show opR (zsL zUn) r=if op=0 then r else r.tail from by rw[← hsg];rfl);clear h hps hsg
 cases h0':(op != 0) with
 | true=>
  have hop:¬ op=0:=by simpa using h0'
  rw[HR.out,if_neg hop] at HO;rw[if_pos hop];clear HR hop
  go_enter Tryz.func168,Tryz.ntmps168
  go_wp2_with fail
  generalize hW:w.alloc _=W;have HN:=Hd (news (w:=w) (l:=[(#[.int .i64 1,.int .i64 2],3)]) hW);clear hW;refine(HO.out _ HN.out).mono ?_;rintro e w1 ⟨rfl,hq,hb⟩;obtain⟨hM1,hT1⟩:=(HM.out.below HN.out.below).move hq hb;have HM1:=Hd hM1;have HT1:=Hd ((Tn.of_below (S:=[b]) HN.out.below).trans hT1 HM.out.lv (fun k hk=>.inl hk));clear hq hb hM1 hT1
  go_wp2_with fail
  refine(rrMade (b:=b) (L:=L) 0 w1.heap.size (HM1.out.alloc _) (Nat.zero_le _) HP.out).mono ?_;rintro e Wa ⟨a0,a1,a2,rfl,hba,hpa,hc0,hc1,hc2⟩;have HKa:=Hd (made_new (x:=mkOp 5 op) HM1.out rfl rfl ((Below.refl _ _).alloc (Nat.le_refl _) _) (Nat.le_refl _) (by exact heap_alloc_new _ _) hba hpa hc0 hc1 hc2 (Below.refl _ _));clear hba hpa hc0 hc1 hc2
  go_wp2_with fail
  refine(rrNextA [lvV b .un,fnV 116 #[rp a0,rp a1,rp a2]] 1 (by simp) HKa.out.1 hst (fns_cons (fns_cons fns_nil))).mono ?_;rintro e Wb ⟨rfl,hx⟩;have HX:=Hd hx;clear hx
  go_wp2_with fail
  go_end0
  have hal:=(tn_alloc (L:=w1.heap.size::L) (w:=Wa) (.cells #[lvV b .un,fnV 116 #[rp a0,rp a1,rp a2]] 1));have hE:=HKa.out.2.2.1.up hal nil_sub List.not_mem_nil;exact turn_made (eb:=w1.heap.size) (x:=mkOp 5 op) (new:=[.m .un,.made (mkOp 5 op) ps.length]) (vt:=[lvV b .un,fnV 116 #[rp a0,rp a1,rp a2]]) HM.out HM1.out HT1.out (HKa.out.1.alloc _) (HKa.out.2.1.trans hal HM1.out.lv (fun k hk=>.inl hk)) hE HT1.out.size ⟨[],[w1.heap.size],rfl,⟨rfl,rfl⟩,[w1.heap.size],[],rfl,⟨w1.heap.size,rfl,hE,HKa.out.2.2.2.1.up hal nil_sub⟩,rfl⟩ ⟨rfl,HX.out⟩
 | false=>
  have hop:op=0:=by simpa using h0'
  rw[HR.out,if_pos hop] at HO;rw[if_neg (by simpa using hop)];clear HR hop
  cases hi:isP preL r with
  | true=>
   have HT:=Hd fun w1 (hq:QSt w1 b A n c all r va vp sz)=>rrTook_yes ⟨#[112,114,101]⟩ ask_pre hq hi;clear hi;rw[if_pos rfl]
   go_enter Tryz.func168,Tryz.ntmps168
   go_wp2_with fail
   generalize hW:w.alloc _=W;have HN:=Hd (news (w:=w) (l:=[(#[.int .i64 1,.int .i64 2],3)]) hW);clear hW;refine(HO.out _ HN.out).mono ?_;rintro e w0 ⟨rfl,hq,hb⟩;obtain⟨hM0,hT0⟩:=(HM.out.below HN.out.below).move hq hb;have HM0:=Hd hM0;have HT0:=Hd ((Tn.of_below (S:=[b]) HN.out.below).trans hT0 HM.out.lv (fun k hk=>.inl hk));have HTK:=Hd (HT.out w0 hq);clear hq hb hM0 hT0
   go_wp2_with fail
   refine HTK.out.mono ?_;rintro e w1 ⟨rfl,hq,hb⟩;obtain⟨hM1,hT1⟩:=HM0.out.move hq hb;have HM1:=Hd hM1;have HT1:=Hd (HT0.out.trans hT1 HM.out.lv (fun k hk=>.inl hk));clear hq hb hM1 hT1
   go_wp2_with fail
   refine(rrMade (b:=b) (L:=L) 0 w1.heap.size (HM1.out.alloc _) (Nat.zero_le _) HP.out).mono ?_;rintro e Wa ⟨a0,a1,a2,rfl,hba,hpa,hc0,hc1,hc2⟩;have HKa:=Hd (made_new (x:=mk0 10) HM1.out rfl rfl ((Below.refl _ _).alloc (Nat.le_refl _) _) (Nat.le_refl _) (by exact heap_alloc_new _ _) hba hpa hc0 hc1 hc2 (Below.refl _ _));clear hba hpa hc0 hc1 hc2
   go_wp2_with fail
   refine(rrNextA [lvV b .un,fnV 116 #[rp a0,rp a1,rp a2]] 1 (by simp) HKa.out.1 hst (fns_cons (fns_cons fns_nil))).mono ?_;rintro e Wb ⟨rfl,hx⟩;have HX:=Hd hx;clear hx
   go_wp2_with fail
   go_end0
   have hal:=(tn_alloc (L:=w1.heap.size::L) (w:=Wa) (.cells #[lvV b .un,fnV 116 #[rp a0,rp a1,rp a2]] 1));have hE:=HKa.out.2.2.1.up hal nil_sub List.not_mem_nil;exact turn_made (eb:=w1.heap.size) (x:=mk0 10) (new:=[.m .un,.made (mk0 10) ps.length]) (vt:=[lvV b .un,fnV 116 #[rp a0,rp a1,rp a2]]) HM.out HM1.out HT1.out (HKa.out.1.alloc _) (HKa.out.2.1.trans hal HM1.out.lv (fun k hk=>.inl hk)) hE HT1.out.size ⟨[],[w1.heap.size],rfl,⟨rfl,rfl⟩,[w1.heap.size],[],rfl,⟨w1.heap.size,rfl,hE,HKa.out.2.2.2.1.up hal nil_sub⟩,rfl⟩ ⟨rfl,HX.out⟩
  | false=>
   have HT:=Hd fun w1 (hq:QSt w1 b A n c all r va vp sz)=>rrTook_no ⟨#[112,114,101]⟩ ask_pre hq hi;clear hi;rw[if_neg (by simp)]
   go_enter Tryz.func168,Tryz.ntmps168
   go_wp2_with fail
   generalize hW:w.alloc _=W;have HN:=Hd (news (w:=w) (l:=[(#[.int .i64 1,.int .i64 2],3)]) hW);clear hW;refine(HO.out _ HN.out).mono ?_;rintro e w0 ⟨rfl,hq,hb⟩;obtain⟨hM0,hT0⟩:=(HM.out.below HN.out.below).move hq hb;have HM0:=Hd hM0;have HT0:=Hd ((Tn.of_below (S:=[b]) HN.out.below).trans hT0 HM.out.lv (fun k hk=>.inl hk));have HTK:=Hd (HT.out w0 hq);clear hq hb hM0 hT0
   go_wp2_with fail
   refine HTK.out.mono ?_;rintro e w1 ⟨rfl,hq,hb⟩;obtain⟨hM1,hT1⟩:=HM0.out.move hq hb;have HM1:=Hd hM1;have HT1:=Hd (HT0.out.trans hT1 HM.out.lv (fun k hk=>.inl hk));clear hq hb hM1 hT1
   go_wp2_with fail
   refine(rrNextA [lvV b .post] 1 (by simp) HM1.out hst (fns_cons fns_nil)).mono ?_;rintro e Wb ⟨rfl,hx⟩;have HX:=Hd (turn_push (ft:=[]) (new:=[.m .post]) (vt:=[lvV b .post]) HM1.out ((Below.refl _ _).alloc (Nat.le_refl _) _) ⟨[],[],rfl,⟨rfl,rfl⟩,rfl⟩ ⟨rfl,hx⟩);clear hx
   go_wp2_with fail
   go_end0
   exact turn_into HM.out (HT1.out.mono turnS_b) (fun k hk=>absurd hk List.not_mem_nil) HX.out
end
end
section
open Go.RowKit Go.Sort
section
variable {w w1 w2 w':World}{b:Nat}{A:Option Addr}{n c:Nat}{all r r' r2:List Tk}{va va1 vp:Value}{st:List Value}{ps:List Ex}{sz:Nat}{L L1 L2 S ft:List Nat}
theorem ask_91:Ask [91]:=.inr (by decide)
theorem ask_when:Ask whenL:=.inl (by decide)
theorem made_newA{eb p0 p1 p2 f:Nat}{w3:World}{x:Ex}{Aa:Option Addr}{ca:Nat}(h:Mem w b A n c all r va st vp ps sz L)(hx:x.subs=[])(hb1:Below w.heap.size w w1)(heb:w.heap.size≤eb)(hrow:w1.heap[eb]?=some (.cells (exA x Aa ca none 0) 26))(hrd:RdT (bls (eb::L) w1) Aa x.arms.length x.arms)
 (hb2:Below w1.heap.size w1 w2) (hp:w1.heap.size≤p0∧w1.heap.size≤p1∧w1.heap.size≤p2) (h0:w2.cell? ⟨p0,0,none⟩=some (rp b)) (h1:w2.cell? ⟨p1,0,none⟩=some (rp eb)) (h2:w2.cell? ⟨p2,0,none⟩=some (.int .i64 (f:Int))) (hb3:Below w2.heap.size w2 w3):
 Mem w3 b A n c all r va st vp ps sz (eb::L)∧Tn [] L (eb::L) w w3∧EAt (eb::L) w3 eb x∧MadeAt (eb::L) w3 b eb f (fnV 116 #[rp p0,rp p1,rp p2])∧eb<w3.heap.size∧Below w.heap.size w w3:=by
 have hb:Below w.heap.size w w3:=(hb1.trans (hb2.mono hb1.size)).trans (hb3.mono (Nat.le_trans hb1.size hb2.size));have hlt:eb<w1.heap.size:=(Array.getElem?_eq_some_iff.1 hrow).1;have hlt3:eb<w3.heap.size:=Nat.lt_of_lt_of_le hlt (Nat.le_trans hb2.size hb3.size);have hM:=h.use hb heb hlt3
 have hni:∀ p,w1.heap.size≤p→p∉eb::L:=fun p hp hk=>by
  rcases List.mem_cons.1 hk with hk | hk
  · omega
  · have:=h.lv p hk;have:=hb1.size;omega
 have hfz:∀ p v,w1.heap.size≤p→w2.cell? ⟨p,0,none⟩=some v→Fz (eb::L) w3 p v:=fun p v hp hv=>Fz.new ((hb3.cell (World.block_lt_of_cell? _ _ hv)).trans hv) (hni p hp);have hE1:EAt (eb::L) w1 eb x:=⟨List.mem_cons_self,hx,Aa,ca,hrow,hrd⟩;exact⟨hM,(Tn.of_below hb).use heb,hE1.up (Tn.of_below (S:=[]) (hb2.trans (hb3.mono hb2.size))) nil_sub List.not_mem_nil,⟨p0,p1,p2,rfl,hfz _ _ hp.1 h0,hfz _ _ hp.2.1 h1,hfz _ _ hp.2.2 h2⟩,hlt3,hb⟩
theorem lv_behind(h:Mem w b A n c all r va st vp ps sz L)(hst:st.length≤1000000)(hps:1≤ps.length∧ps.length≤1000000):
 Calls Tryz.prog 178 #[rp b] w (Turn w b A n c all va st vp L [] (lvO .behind ps sz r)):=by
 have hmf:∀ (fn:Fn) (first cap:Array Value) (w:World),(Instr.makeFunc fn first cap).run Tryz.prog w=.ok (.func fn first cap) w:=fun _ _ _ _=>rfl;have HM:=Hd h;have HP:=Hd hps
 show Calls _ _ _ _ (Turn w b A n c all va st vp L [] (behindO ps sz r))
 unfold behindO
 cases hi:isP [91] r with
 | true=>
  have HT:=Hd (rrTook_yes ⟨#[91]⟩ ask_91 h.q hi);clear h hps hi;rw[if_pos rfl]
  go_enter Tryz.func178,Tryz.ntmps178
  go_wp2_with fail
  refine HT.out.mono ?_;rintro e w1 ⟨rfl,hq,hb⟩;obtain⟨hM1,hT1⟩:=HM.out.move hq hb;have HM1:=Hd hM1;have HT1:=Hd hT1;clear hq hb hM1 hT1
  go_wp2_with fail
  refine(rrSign (b:=b) ⟨#[93]⟩ w1).mono ?_;rintro e Ws0 ⟨s0a,s0b,rfl,hb0,hp0,hk00,hk01⟩;have HMs0:=Hd (HM1.out.below hb0);have HTs0:=Hd (HT1.out.trans (Tn.of_below (S:=[]) hb0) HM.out.lv (fun k hk=>absurd hk List.not_mem_nil));have HZs0:=Hd (fzs_cons (Fz.new (L:=L) hk00 (fun hh=>by have:=HM1.out.lv _ hh;omega)) (fzs_cons (Fz.new (L:=L) hk01 (fun hh=>by have:=HM1.out.lv _ hh;omega)) (fzs_nil L Ws0)));clear hb0 hp0 hk00 hk01
  go_wp2_with fail
  refine(rrMade (b:=b) (L:=L) 1 Ws0.heap.size (HMs0.out.alloc _) HP.out.1 HP.out.2).mono ?_;rintro e Wa ⟨a0,a1,a2,rfl,hba,hpa,hc0,hc1,hc2⟩;have HKa:=Hd (made_new (x:=mk0 15) HMs0.out rfl rfl ((Below.refl _ _).alloc (Nat.le_refl _) _) (Nat.le_refl _) (by exact heap_alloc_new _ _) hba hpa hc0 hc1 hc2 (Below.refl _ _));have HZa:=Hd (HZs0.out.up HKa.out.2.1 nil_sub);clear hba hpa hc0 hc1 hc2
  go_wp2_with fail
  refine(rrNextA [lvV b .arrow,fnV 199 #[rp s0a,rp s0b],fnV 116 #[rp a0,rp a1,rp a2],lvV b .behind] 1 (by simp) HKa.out.1 hst (fns_cons (fns_cons (fns_cons (fns_cons fns_nil))))).mono ?_;rintro e Wb ⟨rfl,hx⟩;have HX:=Hd hx;clear hx
  go_wp2_with fail
  go_end0
  have hal:=(tn_alloc (L:=Ws0.heap.size::L) (w:=Wa) (.cells #[lvV b .arrow,fnV 199 #[rp s0a,rp s0b],fnV 116 #[rp a0,rp a1,rp a2],lvV b .behind] 1));have hE:=HKa.out.2.2.1.up hal nil_sub List.not_mem_nil;have hz:=HZa.out.up hal nil_sub;exact turn_made (eb:=Ws0.heap.size) (x:=mk0 15) (new:=[.m .arrow,.sign [93],.made (mk0 15) (ps.length-1),.m .behind]) (vt:=[lvV b .arrow,fnV 199 #[rp s0a,rp s0b],fnV 116 #[rp a0,rp a1,rp a2],lvV b .behind]) HM.out HMs0.out HTs0.out (HKa.out.1.alloc _) (HKa.out.2.1.trans hal HMs0.out.lv (fun k hk=>.inl hk)) hE HTs0.out.size ⟨[],[Ws0.heap.size],rfl,⟨rfl,rfl⟩,⟨[],[Ws0.heap.size],rfl,⟨rfl,(.inr (by decide)),s0a,s0b,rfl,hz (s0a,rp b) (by simp),hz (s0b,.string ⟨#[93]⟩) (by simp)⟩,⟨[Ws0.heap.size],[],rfl,⟨Ws0.heap.size,rfl,hE,HKa.out.2.2.2.1.up hal nil_sub⟩,⟨[],[],rfl,⟨rfl,rfl⟩,rfl⟩⟩⟩⟩ ⟨rfl,HX.out⟩
 | false=>
  rw[if_neg (by simp)];have HT:=Hd (rrTook_no ⟨#[91]⟩ ask_91 h.q hi);clear hi
  cases hw:isP whenL r with
  | false=>
   rw[if_neg (by simp)];have HT2:=Hd fun w1 (hq:QSt w1 b A n c all r va vp sz)=>rrTook_no ⟨#[119,104,101,110]⟩ ask_when hq hw;clear h hps hw
   go_enter Tryz.func178,Tryz.ntmps178
   go_wp2_with fail
   refine HT.out.mono ?_;rintro e w0 ⟨rfl,hq,hb⟩;have HT3:=Hd (HT2.out w0 hq);have HB:=Hd hb;clear hq hb
   go_wp2_with fail
   refine HT3.out.mono ?_;rintro e w1 ⟨rfl,hq,hb⟩;have HQ:=Hd hq;have HB2:=Hd (kb_trans HB.out hb);clear hq hb
   go_wp2_with fail
   go_end0
   exact turn_none HM.out HQ.out HB2.out
  | true=>
   rw[if_pos rfl];have HT2:=Hd fun w1 (hq:QSt w1 b A n c all r va vp sz)=>rrTook_yes ⟨#[119,104,101,110]⟩ ask_when hq hw;clear h hps hw
   cases hwh:whenP r.tail with
   | bad q=>
    have HW:=Hd fun w1 (hq:QSt w1 b A n c all r.tail va vp sz)=>QPost.bad_ (rrWhen hq) hwh;clear hwh
    show Calls _ _ _ _ (Turn w b A n c all va st vp L [] (.bad q))
    go_enter Tryz.func178,Tryz.ntmps178
    go_wp2_with fail
    refine HT.out.mono ?_;rintro e w0 ⟨rfl,hq,hb⟩;have HT3:=Hd (HT2.out w0 hq);have HB:=Hd hb;clear hq hb
    go_wp2_with fail
    refine HT3.out.mono ?_;rintro e w1 ⟨rfl,hq,hb⟩;have HW3:=Hd (HW.out w1 hq);have HB2:=Hd (kb_trans HB.out hb);clear hq hb
    go_wp2_with fail
    refine HW3.out.mono ?_;rintro e w2 ⟨rfl,hq,hb⟩;have HQ:=Hd hq;have HB3:=Hd (kb_trans HB2.out hb);clear hq hb
    go_wp2_with fail
    exact⟨rfl,turn_bad HM.out HQ.out HB3.out⟩
   | ok z q=>
    have HW:=Hd fun w1 (hq:QSt w1 b A n c all r.tail va vp sz)=>QPost.ok_ (rrWhen hq) hwh;clear hwh
    show Calls _ _ _ _ (Turn w b A n c all va st vp L [] (.ok ([.made (Ex.mk 11 0 (ofB z.1) 0 [ofB z.2] []) (ps.length-1),.m .behind],ps,sz) q))
    unfold WhenV at HW;generalize ofB z.1=zs1 at *;generalize ofB z.2=zs2 at *
    go_enter Tryz.func178,Tryz.ntmps178
    go_wp2_with fail
    refine HT.out.mono ?_;rintro e w0 ⟨rfl,hq,hb⟩;have HT3:=Hd (HT2.out w0 hq);have HB:=Hd hb;clear hq hb
    go_wp2_with fail
    refine HT3.out.mono ?_;rintro e w1 ⟨rfl,hq,hb⟩;have HW3:=Hd (HW.out w1 hq);have HB2:=Hd (kb_trans HB.out hb);clear hq hb
    go_wp2_with fail
    refine HW3.out.mono ?_;rintro e w2 ⟨rfl,hq,hb⟩;obtain⟨hM2,hT2⟩:=HM.out.move hq (kb_trans HB2.out hb);have HM2:=Hd hM2;have HTT:=Hd hT2;clear hq hb hM2 hT2
    go_wp2_with fail
    have hN:=news (w:=w2) (l:=[(#[.string zs2],9),(exA (Ex.mk 11 0 zs1 0 [zs2] []) (some ⟨w2.heap.size,0,none⟩) 1 none 0,26)]) rfl;refine(rrMade (b:=b) (L:=L) 1 (w2.heap.size+1) (HM2.out.below hN.below) HP.out.1 HP.out.2).mono ?_;rintro e Wa ⟨a0,a1,a2,rfl,hba,hpa,hc0,hc1,hc2⟩
    have HKa:=Hd (made_newA (x:=Ex.mk 11 0 zs1 0 [zs2] []) HM2.out rfl hN.below (by omega) (hN.at_ 1 _ rfl) ⟨rfl,by show 1≤_;omega,fun _=>⟨w2.heap.size,0,rfl,by rw[bls_size];have:=hN.size;simp at this;omega,fun i hi=>by
     have hi0:i=0:=by have hi2:i<1:=hi;omega
     subst hi0;refine(bls_cell (p:=⟨w2.heap.size,0+0,none⟩) fun hk=>?_).trans (hN.cell 0 0 _ _ rfl rfl);rcases List.mem_cons.1 hk with hk | hk
     · simp at hk
     · have:=HM2.out.lv _ hk
       simp at this⟩⟩ hba hpa hc0 hc1 hc2 (Below.refl _ _))
    clear hba hpa hc0 hc1 hc2 hN;generalize hebb:w2.heap.size+1=eb at *;have HEL:=Hd (show w.heap.size≤eb from by have:=HTT.out.size;omega);clear hebb
    go_wp2_with fail
    refine(rrNextA [fnV 116 #[rp a0,rp a1,rp a2],lvV b .behind] 1 (by simp) HKa.out.1 hst (fns_cons (fns_cons fns_nil))).mono ?_;rintro e Wb ⟨rfl,hx⟩;have HX:=Hd hx;clear hx
    go_wp2_with fail
    go_end0
    have hal:=(tn_alloc (L:=eb::L) (w:=Wa) (.cells #[fnV 116 #[rp a0,rp a1,rp a2],lvV b .behind] 1));have hE:=HKa.out.2.2.1.up hal nil_sub List.not_mem_nil;exact turn_made (eb:=eb) (x:=Ex.mk 11 0 zs1 0 [zs2] []) (new:=[.made (Ex.mk 11 0 zs1 0 [zs2] []) (ps.length-1),.m .behind]) (vt:=[fnV 116 #[rp a0,rp a1,rp a2],lvV b .behind]) HM.out HM2.out HTT.out (HKa.out.1.alloc _) (HKa.out.2.1.trans hal HM2.out.lv (fun k hk=>.inl hk)) hE HEL.out ⟨[eb],[],rfl,⟨eb,rfl,hE,HKa.out.2.2.2.1.up hal nil_sub⟩,[],[],rfl,⟨rfl,rfl⟩,rfl⟩ ⟨rfl,HX.out⟩
end
end
section
open Go.RowKit Go.Sort
section
variable {w w1 w2 w':World}{b:Nat}{A:Option Addr}{n c:Nat}{all r r' r2:List Tk}{va va1 vp:Value}{st:List Value}{ps:List Ex}{sz:Nat}{L L1 L2 S ft:List Nat}
theorem ask_with:Ask withL:=.inl (by decide)
theorem FrsAt.append{L:List Nat}{w:World}{b:Nat}{gs:List Fr}{us:List Value}{g:List Nat}(k:FrsAt L w b gs us g):∀ {fs:List Fr}{vs:List Value}{f:List Nat},FrsAt L w b fs vs f→FrsAt L w b (fs++gs) (vs++us) (f++g)
 | [],[],f,h=>by
  rw[show f=[] from h];exact k
 | x::fs,v::vs,f,⟨f1,f2,e,h1,h2⟩=>⟨f1,f2++g,by rw[e,List.append_assoc],h1,FrsAt.append k h2⟩
 | [],v::vs,f,h=>h.elim
 | x::fs,[],f,h=>h.elim
theorem turnS_sub(h:Mem w b A n c all r va st vp ps sz L)(hf:∀ k∈ft,k∈L):∀ k∈turnS b va vp ft,k∈L:=fun k hk=>by
 simp only[turnS,List.mem_cons,List.mem_append,Option.mem_toList] at hk;rcases hk with rfl | hk | hk | hk
 · exact h.lb
 · exact h.la k hk
 · exact h.lp k hk
 · exact hf k hk
theorem turn_cat{new new0:List Fr}{v0:List Value}{ps2:List Ex}{sz2:Nat}{r3:List Tk}{e:Ending}(h:Mem w b A n c all r va st vp ps sz L)(hT:Tn (turnS b va vp ft) L L1 w w1)(h1:Mem w1 b A n c all r2 va1 (v0++st) vp ps sz L1)(hg:GoesV w va va1)(hF:FrsAt L1 w1 b new0 v0 [])
 (hx:Turn w1 b A n c all va1 (v0++st) vp L1 [] (.ok (new,ps2,sz2) r3) e w'):Turn w b A n c all va st vp L ft (.ok (new++new0,ps2,sz2) r3) e w':=by
 obtain⟨e1,va',vp',L',vt,fts,hM,hF2,hT2,hn,hf,hf2,g1,g2⟩:=hx;have hf3:=(hF.up hT2 (turnS_sub h1 (fun k hk=>absurd hk List.not_mem_nil)) (fun k hk=>absurd hk List.not_mem_nil)).append hF2;rw[List.append_nil] at hf3;refine⟨e1,va',vp',L',vt++v0,fts,by rw[List.append_assoc];exact hM,hf3,hT.trans hT2 h.lv fun k hk=>?_,hn,fun k hk=>?_,hf2,hg.trans g1 hT.size,(GoesV.refl w vp).trans g2 hT.size⟩
 · simp only[turnS,List.mem_cons,List.mem_append,List.not_mem_nil,or_false] at hk;rcases hk with hk | hk | hk
   · exact .inl (by simp[turnS,hk])
   · rcases pushS_goes hg k (by simp only[pushS,List.mem_cons];exact .inr hk) with hk | hk
     · exact .inl (turnS_push k hk)
     · exact .inr hk
   · exact .inl (by simp only[turnS,List.mem_cons,List.mem_append];exact .inr (.inr (.inl hk)))
 · rcases hf k hk with hk | hk
   · exact absurd hk List.not_mem_nil
   · exact .inr (Nat.le_trans hT.size hk)
theorem lv_brk(h:Mem w b A n c all r va st vp ps sz L)(hst:st.length≤900000)(hps:1≤ps.length∧ps.length≤1000000):
 Calls Tryz.prog 185 #[rp b] w (Turn w b A n c all va st vp L [] (lvO .brk ps sz r)):=by
 have hmf:∀ (fn:Fn) (first cap:Array Value) (w:World),(Instr.makeFunc fn first cap).run Tryz.prog w=.ok (.func fn first cap) w:=fun _ _ _ _=>rfl;have HM:=Hd h;have HP:=Hd hps;clear h hps
 show Calls _ _ _ _ (Turn w b A n c all va st vp L [] (brkO ps sz r))
 unfold brkO
 cases hi:isP withL r with
 | false=>
  rw[if_neg (by simp)]
  go_enter Tryz.func185,Tryz.ntmps185
  go_wp2_with fail
  refine(rrSign (b:=b) ⟨#[41]⟩ w).mono ?_;rintro e w0 ⟨z0,z1,rfl,hb,hp,hk0,hk1⟩;have HM0:=Hd (HM.out.below hb);have HT0:=Hd (Tn.of_below (S:=pushS b va) (L:=L) hb);have HZ0:=Hd (fzs_cons (Fz.new hk0 (fun hh=>by have:=HM.out.lv _ hh;omega)) (fzs_cons (Fz.new hk1 (fun hh=>by have:=HM.out.lv _ hh;omega)) (fzs_nil L w0)));clear hb hp hk0 hk1
  go_wp2_with fail
  refine(rrNextA [fnV 199 #[rp z0,rp z1]] 1 (by simp) HM0.out (by omega) (fns_cons fns_nil)).mono ?_;rintro e w1 ⟨rfl,va1,L1,hM1,hT1,hg1⟩;have hT1':=HT0.out.trans (((tn_alloc (L:=L) (w:=w0) (.cells #[fnV 199 #[rp z0,rp z1]] 1)).mono (S1:=pushS b va) (fun k hk=>absurd hk List.not_mem_nil)).trans hT1 HM0.out.lv (fun k hk=>.inl hk)) HM.out.lv (fun k hk=>.inl hk);have HZ1:=Hd (((HZ0.out.up (tn_alloc (.cells #[fnV 199 #[rp z0,rp z1]] 1)) nil_sub).up hT1 (push_sub HM0.out)));have HM1:=Hd hM1;have HT1:=Hd hT1'
  have HG1:=Hd (show GoesV w va va1 by
   have:=HT0.out.size;rcases hg1 with hg1 | hg1
   · exact .inl hg1
   · exact .inr fun k hk=>by have:=hg1 k hk;simp at this;omega)
  clear hM1 hT1 hT1' hg1 HZ0
  go_wp2_with fail
  refine(rrTook_no ⟨#[119,105,116,104]⟩ ask_with HM1.out.q hi).mono ?_;rintro e w2 ⟨rfl,hq2,hb2⟩;obtain⟨hM2,hT2⟩:=HM1.out.move hq2 hb2;have HM2:=Hd hM2;have HZ2:=Hd (HZ1.out.up hT2 (b_sub HM1.out));have HT2:=Hd ((HT1.out.mono (S1:=turnS b va vp []) turnS_push).trans hT2 HM.out.lv (fun k hk=>.inl (turnS_b k hk)));clear hq2 hb2 hM2 hT2
  go_wp2_with fail
  go_end0
  exact⟨rfl,va1,vp,L1,[fnV 199 #[rp z0,rp z1]],[],HM2.out,⟨[],[],rfl,⟨rfl,(.inr (by decide)),z0,z1,rfl,HZ2.out (z0,rp b) (by simp),HZ2.out (z1,.string ⟨#[41]⟩) (by simp)⟩,rfl⟩,HT2.out,List.nodup_nil,fun k hk=>absurd hk List.not_mem_nil,fun k hk=>absurd hk List.not_mem_nil,HG1.out,GoesV.refl _ _⟩
 | true=>
  rw[if_pos rfl]
  go_enter Tryz.func185,Tryz.ntmps185
  go_wp2_with fail
  refine(rrSign (b:=b) ⟨#[41]⟩ w).mono ?_;rintro e w0 ⟨z0,z1,rfl,hb,hp,hk0,hk1⟩;have HM0:=Hd (HM.out.below hb);have HT0:=Hd (Tn.of_below (S:=pushS b va) (L:=L) hb);have HZ0:=Hd (fzs_cons (Fz.new hk0 (fun hh=>by have:=HM.out.lv _ hh;omega)) (fzs_cons (Fz.new hk1 (fun hh=>by have:=HM.out.lv _ hh;omega)) (fzs_nil L w0)));clear hb hp hk0 hk1
  go_wp2_with fail
  refine(rrNextA [fnV 199 #[rp z0,rp z1]] 1 (by simp) HM0.out (by omega) (fns_cons fns_nil)).mono ?_;rintro e w1 ⟨rfl,va1,L1,hM1,hT1,hg1⟩;have hT1':=HT0.out.trans (((tn_alloc (L:=L) (w:=w0) (.cells #[fnV 199 #[rp z0,rp z1]] 1)).mono (S1:=pushS b va) (fun k hk=>absurd hk List.not_mem_nil)).trans hT1 HM0.out.lv (fun k hk=>.inl hk)) HM.out.lv (fun k hk=>.inl hk);have HZ1:=Hd (((HZ0.out.up (tn_alloc (.cells #[fnV 199 #[rp z0,rp z1]] 1)) nil_sub).up hT1 (push_sub HM0.out)));have HM1:=Hd hM1;have HT1:=Hd hT1'
  have HG1:=Hd (show GoesV w va va1 by
   have:=HT0.out.size;rcases hg1 with hg1 | hg1
   · exact .inl hg1
   · exact .inr fun k hk=>by have:=hg1 k hk;simp at this;omega)
  clear hM1 hT1 hT1' hg1 HZ0
  go_wp2_with fail
  refine(rrTook_yes ⟨#[119,105,116,104]⟩ ask_with HM1.out.q hi).mono ?_;rintro e w2 ⟨rfl,hq2,hb2⟩;obtain⟨hM2,hT2⟩:=HM1.out.move hq2 hb2;have HM2:=Hd hM2;have HZ2:=Hd (HZ1.out.up hT2 (b_sub HM1.out));have HT2:=Hd ((HT1.out.mono (S1:=turnS b va vp []) turnS_push).trans hT2 HM.out.lv (fun k hk=>.inl (turnS_b k hk)));clear hq2 hb2 hM2 hT2;have hst:=(show([fnV 199 #[rp z0,rp z1]]++st).length≤1000000 by simp;omega);have HT20:=Hd (Tn.of_below (S:=[b]) (L:=L1) (Below.refl w2.heap.size w2))
  go_wp2_with fail
  refine(rrSign (b:=b) ⟨#[91]⟩ w2).mono ?_;rintro e Ws0 ⟨s0a,s0b,rfl,hb0,hp0,hk00,hk01⟩;have HMs0:=Hd (HM2.out.below hb0);have HTs0:=Hd (HT20.out.trans (Tn.of_below (S:=[]) hb0) HM2.out.lv (fun k hk=>absurd hk List.not_mem_nil));have HZs0:=Hd (fzs_cons (Fz.new (L:=L1) hk00 (fun hh=>by have:=HM2.out.lv _ hh;omega)) (fzs_cons (Fz.new (L:=L1) hk01 (fun hh=>by have:=HM2.out.lv _ hh;omega)) (fzs_nil L1 Ws0)));clear hb0 hp0 hk00 hk01
  go_wp2_with fail
  refine(rrSign (b:=b) ⟨#[93]⟩ Ws0).mono ?_;rintro e Ws1 ⟨s1a,s1b,rfl,hb1,hp1,hk10,hk11⟩;have HMs1:=Hd (HMs0.out.below hb1);have HTs1:=Hd (HTs0.out.trans (Tn.of_below (S:=[]) hb1) HM2.out.lv (fun k hk=>absurd hk List.not_mem_nil));have HZs1:=Hd (fzs_cons (Fz.new (L:=L1) hk10 (fun hh=>by have:=HMs0.out.lv _ hh;omega)) (fzs_cons (Fz.new (L:=L1) hk11 (fun hh=>by have:=HMs0.out.lv _ hh;omega)) (HZs0.out.up (Tn.of_below (S:=[]) hb1) nil_sub)));clear hb1 hp1 hk10 hk11
  go_wp2_with fail
  refine(rrSign (b:=b) ⟨#[61]⟩ Ws1).mono ?_;rintro e Ws2 ⟨s2a,s2b,rfl,hb2,hp2,hk20,hk21⟩;have HMs2:=Hd (HMs1.out.below hb2);have HTs2:=Hd (HTs1.out.trans (Tn.of_below (S:=[]) hb2) HM2.out.lv (fun k hk=>absurd hk List.not_mem_nil));have HZs2:=Hd (fzs_cons (Fz.new (L:=L1) hk20 (fun hh=>by have:=HMs1.out.lv _ hh;omega)) (fzs_cons (Fz.new (L:=L1) hk21 (fun hh=>by have:=HMs1.out.lv _ hh;omega)) (HZs1.out.up (Tn.of_below (S:=[]) hb2) nil_sub)));clear hb2 hp2 hk20 hk21
  go_wp2_with fail
  refine(rrMade (b:=b) (L:=L1) 1 Ws2.heap.size (HMs2.out.alloc _) HP.out.1 HP.out.2).mono ?_;rintro e Wa ⟨a0,a1,a2,rfl,hba,hpa,hc0,hc1,hc2⟩;have HKa:=Hd (made_new (x:=mk0 16) HMs2.out rfl rfl ((Below.refl _ _).alloc (Nat.le_refl _) _) (Nat.le_refl _) (by exact heap_alloc_new _ _) hba hpa hc0 hc1 hc2 (Below.refl _ _));have HZa:=Hd (HZs2.out.up HKa.out.2.1 nil_sub);clear hba hpa hc0 hc1 hc2
  go_wp2_with fail
  refine(rrNextA [fnV 199 #[rp s0a,rp s0b],lvV b .arrow,fnV 199 #[rp s1a,rp s1b],fnV 199 #[rp s2a,rp s2b],lvV b .arrow,fnV 116 #[rp a0,rp a1,rp a2]] 1 (by simp) HKa.out.1 hst (fns_cons (fns_cons (fns_cons (fns_cons (fns_cons (fns_cons fns_nil))))))).mono ?_;rintro e Wb ⟨rfl,hx⟩;have HX:=Hd hx;clear hx
  go_wp2_with fail
  go_end0
  have hal:=(tn_alloc (L:=Ws2.heap.size::L1) (w:=Wa) (.cells #[fnV 199 #[rp s0a,rp s0b],lvV b .arrow,fnV 199 #[rp s1a,rp s1b],fnV 199 #[rp s2a,rp s2b],lvV b .arrow,fnV 116 #[rp a0,rp a1,rp a2]] 1));have hE:=HKa.out.2.2.1.up hal nil_sub List.not_mem_nil;have hz:=HZa.out.up hal nil_sub;exact turn_cat (new0:=[.sign [41]]) (v0:=[fnV 199 #[rp z0,rp z1]]) HM.out HT2.out HM2.out HG1.out ⟨[],[],rfl,⟨rfl,(.inr (by decide)),z0,z1,rfl,HZ2.out (z0,rp b) (by simp),HZ2.out (z1,.string ⟨#[41]⟩) (by simp)⟩,rfl⟩ (turn_made (eb:=Ws2.heap.size) (x:=mk0 16) (new:=[.sign [91],.m .arrow,.sign [93],.sign [61],.m .arrow,.made (mk0 16) (ps.length-1)]) (vt:=[fnV 199 #[rp s0a,rp s0b],lvV b .arrow,fnV 199 #[rp s1a,rp s1b],fnV 199 #[rp s2a,rp s2b],lvV b .arrow,fnV 116 #[rp a0,rp a1,rp a2]]) HM2.out HMs2.out HTs2.out (HKa.out.1.alloc _) (HKa.out.2.1.trans hal HMs2.out.lv (fun k hk=>.inl hk)) hE HTs2.out.size ⟨[],[Ws2.heap.size],rfl,⟨rfl,(.inr (by decide)),s0a,s0b,rfl,hz (s0a,rp b) (by simp),hz (s0b,.string ⟨#[91]⟩) (by simp)⟩,⟨[],[Ws2.heap.size],rfl,⟨rfl,rfl⟩,⟨[],[Ws2.heap.size],rfl,⟨rfl,(.inr (by decide)),s1a,s1b,rfl,hz (s1a,rp b) (by simp),hz (s1b,.string ⟨#[93]⟩) (by simp)⟩,⟨[],[Ws2.heap.size],rfl,⟨rfl,(.inr (by decide)),s2a,s2b,rfl,hz (s2a,rp b) (by simp),hz (s2b,.string ⟨#[61]⟩) (by simp)⟩,⟨[],[Ws2.heap.size],rfl,⟨rfl,rfl⟩,⟨[Ws2.heap.size],[],rfl,⟨Ws2.heap.size,rfl,hE,HKa.out.2.2.2.1.up hal nil_sub⟩,rfl⟩⟩⟩⟩⟩⟩ ⟨rfl,HX.out⟩)
end
end
section
open Go.RowKit Go.Sort
section
variable {w w1 w2 w':World}{b:Nat}{A:Option Addr}{n c:Nat}{all r r' r2:List Tk}{va va1 vp:Value}{st:List Value}{ps:List Ex}{sz:Nat}{L L1 L2 S ft:List Nat}
theorem rrCall(ss:ByteArray)(h:Mem w b A n c all r va st vp ps sz L)(hst:st.length≤900000)(hps:ps.length≤1000000):
 Calls Tryz.prog 202 #[rp b,.string ss] w (Turn w b A n c all va st vp L [] (if isP [41] r=true then everyO (Ex.mk 13 0 ss 0 [] []) ps.length ps sz r.tail else .ok ([.m .arrow,.list [41] true (Ex.mk 13 0 ss 0 [] []) ps.length],ps,sz) r)):=by
 have hmf:∀ (fn:Fn) (first cap:Array Value) (w:World),(Instr.makeFunc fn first cap).run Tryz.prog w=.ok (.func fn first cap) w:=fun _ _ _ _=>rfl;have HM:=Hd h;clear h
 show Calls _ _ _ _ (Turn w b A n c all va st vp L [] (if isP [41] r=true then everyO (Ex.mk 13 0 ss 0 [] []) ps.length ps sz r.tail else .ok ([.m .arrow,.list [41] true (Ex.mk 13 0 ss 0 [] []) ps.length],ps,sz) r))
 cases hi:isP [41] r with
 | true=>
  rw[if_pos rfl]
  go_enter Tryz.func202,Tryz.ntmps202
  go_wp2_with fail
  refine(rrMade (b:=b) (L:=L) 0 (w.heap.size+1) (((HM.out.alloc _).alloc _).alloc _) (Nat.zero_le _) hps).mono ?_;rintro e W3 ⟨q0,q1,q2,rfl,hba,hpa,hc0,hc1,hc2⟩;have hN:=news (w:=w) (l:=[(#[rp b],57),(exA (Ex.mk 13 0 ss 0 [] []) none 0 none 0,26),(#[rp (w.heap.size+1)],98)]) rfl;have HKa:=Hd (made_new (x:=Ex.mk 13 0 ss 0 [] []) (f:=ps.length) HM.out rfl rfl hN.below (Nat.le_add_right _ 1) (hN.at_ 1 _ rfl) hba hpa hc0 hc1 hc2 (Below.refl _ _))
  have hni:∀ i,i≠1→w.heap.size+i∉(w.heap.size+1)::L:=fun i hi hk=>by
   rcases List.mem_cons.1 hk with hk | hk
   · omega
   · have:=HM.out.lv _ hk;omega
  have HZ3:=Hd (fzs_cons (v:=rp b) (Fz.new ((hba.cell (by simp;omega)).trans (hN.cell 0 0 _ _ rfl rfl)) (hni 0 (by decide))) (fzs_cons (v:=rp (w.heap.size+1)) (Fz.new ((hba.cell (by simp)).trans (hN.cell 2 0 _ _ rfl rfl)) (hni 2 (by decide))) (fzs_nil _ W3)));have d0:=HZ3.out.at_ 0 _ _ rfl;have l0:=World.block_lt_of_cell? _ _ d0;clear hba hpa hc0 hc1 hc2 hN hni;generalize hpe:w.heap.size+2=pe at *;have HEL:=Hd (show w.heap.size≤w.heap.size+1 from by omega);generalize heb:w.heap.size+1=eb at *;generalize hp0:w.heap.size+0=p0 at *;simp only[Nat.add_zero] at hp0;rw[hp0] at HEL ⊢
  go_wp2_with fail
  have hT4:=tn_alloc (L:=eb::L) (w:=W3) (.cells #[fnV 116 #[rp q0,rp q1,rp q2]] 1);have hZ4:=fzs_cons (v:=fnV 116 #[rp q0,rp q1,rp q2]) (Fz.new (World.cell?_alloc_new W3 #[fnV 116 #[rp q0,rp q1,rp q2]] 1 0) (fun hk=>by have:=HKa.out.1.lv _ hk;omega)) (HZ3.out.up hT4 nil_sub);refine(rrTook_yes ⟨#[41]⟩ ask_41 (HKa.out.1.alloc _).q hi).mono ?_;rintro e w5 ⟨rfl,hq,hb⟩;obtain⟨hM5,hT5⟩:=(HKa.out.1.alloc _).move hq hb;have HM5:=Hd hM5;have HZ5:=Hd (hZ4.up hT5 (b_sub HKa.out.1));have hEs:=(eat_sep HKa.out.1 HKa.out.2.2.1).1;have HE5:=Hd ((HKa.out.2.2.1.up hT4 nil_sub List.not_mem_nil).up hT5 (b_sub HKa.out.1) (by simpa using hEs));have HMD5:=Hd ((HKa.out.2.2.2.1.up hT4 nil_sub).up hT5 (b_sub HKa.out.1));have HT5:=Hd (((HKa.out.2.1.trans hT4 HM.out.lv (fun k hk=>.inl hk)).mono (S1:=turnS b va vp []) (fun k hk=>absurd hk List.not_mem_nil)).trans hT5 HM.out.lv (fun k hk=>.inl (turnS_b k hk)));have HV:=Hd (show vp.ownBlock≠some eb from fun hv=>by have:=HM.out.lv eb (HM.out.lp eb hv);omega);have e0:=HZ5.out.at_ 1 p0 _ rfl;clear hq hb hM5 hT5 hT4 hZ4 hEs d0 l0 HZ3;generalize W3.heap.size=p1 at *
  go_wp2_with fail
  refine(trn_every (Ex.mk 13 0 ss 0 [] []) ps.length eb p0 p1 pe q0 q1 q2 HM5.out hst HE5.out HV.out (HZ5.out (p0,rp b) (by simp)) (HZ5.out (p1,fnV 116 #[rp q0,rp q1,rp q2]) (by simp)) HMD5.out (HZ5.out (pe,rp eb) (by simp))).mono ?_;intro e w6 hx;have HX:=Hd (turn_into (ft:=[]) HM.out HT5.out (fun k hk=>.inr (by rw[List.mem_singleton.1 hk,hp0];exact HEL.out)) hx);have hr:=turn_every_ret hx;clear hx;subst hr
  go_wp2_with fail
  go_end0
  exact HX.out
 | false=>
  rw[if_neg (by simp)]
  go_enter Tryz.func202,Tryz.ntmps202
  go_wp2_with fail
  refine(rrMade (b:=b) (L:=L) 0 (w.heap.size+1) (((HM.out.alloc _).alloc _).alloc _) (Nat.zero_le _) hps).mono ?_;rintro e W3 ⟨q0,q1,q2,rfl,hba,hpa,hc0,hc1,hc2⟩;have hN:=news (w:=w) (l:=[(#[rp b],57),(exA (Ex.mk 13 0 ss 0 [] []) none 0 none 0,26),(#[rp (w.heap.size+1)],98)]) rfl;have HKa:=Hd (made_new (x:=Ex.mk 13 0 ss 0 [] []) (f:=ps.length) HM.out rfl rfl hN.below (Nat.le_add_right _ 1) (hN.at_ 1 _ rfl) hba hpa hc0 hc1 hc2 (Below.refl _ _))
  have hni:∀ i,i≠1→w.heap.size+i∉(w.heap.size+1)::L:=fun i hi hk=>by
   rcases List.mem_cons.1 hk with hk | hk
   · omega
   · have:=HM.out.lv _ hk;omega
  have HZ3:=Hd (fzs_cons (v:=rp b) (Fz.new ((hba.cell (by simp;omega)).trans (hN.cell 0 0 _ _ rfl rfl)) (hni 0 (by decide))) (fzs_cons (v:=rp (w.heap.size+1)) (Fz.new ((hba.cell (by simp)).trans (hN.cell 2 0 _ _ rfl rfl)) (hni 2 (by decide))) (fzs_nil _ W3)));have d0:=HZ3.out.at_ 0 _ _ rfl;have l0:=World.block_lt_of_cell? _ _ d0;clear hba hpa hc0 hc1 hc2 hN hni;generalize hpe:w.heap.size+2=pe at *;have HEL:=Hd (show w.heap.size≤w.heap.size+1 from by omega);generalize heb:w.heap.size+1=eb at *;generalize hp0:w.heap.size+0=p0 at *;simp only[Nat.add_zero] at hp0;rw[hp0] at HEL ⊢
  go_wp2_with fail
  have hT4:=tn_alloc (L:=eb::L) (w:=W3) (.cells #[fnV 116 #[rp q0,rp q1,rp q2]] 1);have hZ4:=fzs_cons (v:=fnV 116 #[rp q0,rp q1,rp q2]) (Fz.new (World.cell?_alloc_new W3 #[fnV 116 #[rp q0,rp q1,rp q2]] 1 0) (fun hk=>by have:=HKa.out.1.lv _ hk;omega)) (HZ3.out.up hT4 nil_sub);refine(rrTook_no ⟨#[41]⟩ ask_41 (HKa.out.1.alloc _).q hi).mono ?_;rintro e w5 ⟨rfl,hq,hb⟩;obtain⟨hM5,hT5⟩:=(HKa.out.1.alloc _).move hq hb;have HM5:=Hd hM5;have HZ5:=Hd (hZ4.up hT5 (b_sub HKa.out.1));have hEs:=(eat_sep HKa.out.1 HKa.out.2.2.1).1;have HE5:=Hd ((HKa.out.2.2.1.up hT4 nil_sub List.not_mem_nil).up hT5 (b_sub HKa.out.1) (by simpa using hEs));have HMD5:=Hd ((HKa.out.2.2.2.1.up hT4 nil_sub).up hT5 (b_sub HKa.out.1));have HT5:=Hd (((HKa.out.2.1.trans hT4 HM.out.lv (fun k hk=>.inl hk)).mono (S1:=turnS b va vp []) (fun k hk=>absurd hk List.not_mem_nil)).trans hT5 HM.out.lv (fun k hk=>.inl (turnS_b k hk)));have HV:=Hd (show vp.ownBlock≠some eb from fun hv=>by have:=HM.out.lv eb (HM.out.lp eb hv);omega);have e0:=HZ5.out.at_ 1 p0 _ rfl;clear hq hb hM5 hT5 hT4 hZ4 hEs d0 l0 HZ3;generalize W3.heap.size=p1 at *
  go_wp2_with fail
  refine(rrList [41] true (Ex.mk 13 0 ss 0 [] []) ps.length eb (.func 203) #[] #[rp p0,rp p1,rp pe] (.inr (by decide)) HM5.out (by omega) HE5.out HV.out ⟨p0,p1,pe,fnV 116 #[rp q0,rp q1,rp q2],rfl,HZ5.out (p0,rp b) (by simp),HZ5.out (p1,fnV 116 #[rp q0,rp q1,rp q2]) (by simp),HMD5.out,HZ5.out (pe,rp eb) (by simp)⟩).mono ?_;intro e w6 hx;have HX:=Hd (turn_into (ft:=[]) HM.out HT5.out (fun k hk=>.inr (by rw[List.mem_singleton.1 hk,hp0];exact HEL.out)) hx);have hr:=hx.1;clear hx;subst hr
  go_wp2_with fail
  go_end0
  exact HX.out
end
end
end Go.Proofs.YtokiaaapgkdpmaaGreatDoor
