/- Parts of the proof: PrY, PrZ. Conditions: each theorem's own. -/
import Derived.Test.YtokiaaapgkdpmaaGreatDoorV30
namespace Go.Proofs.YtokiaaapgkdpmaaGreatDoor
set_option linter.unusedVariables false
set_option linter.unusedSimpArgs false
set_option maxRecDepth 100000
set_option maxHeartbeats 40000000
section
open Go.RowKit Go.Sort
section
variable {w w1 w2 w':World}{b:Nat}{A:Option Addr}{n c:Nat}{all r r' r2:List Tk}{va va1 vp:Value}{st:List Value}{ps:List Ex}{sz:Nat}{L L1 L2 S ft:List Nat}
theorem rrCall(ss:ByteArray) (h:Mem w b A n c all r va st vp ps sz L) (hst:st.length≤900000) (hps:ps.length≤1000000):
 Calls Tryz.prog 202 #[rp b,.string ss] w (Turn w b A n c all va st vp L [] (if isP [41] r=true then everyO (Ex.mk 13 0 ss 0 [] []) ps.length ps sz r.tail else .ok ([.m .arrow,.list [41] true (Ex.mk 13 0 ss 0 [] []) ps.length],ps,sz) r)):=by
 have hmf:∀ (fn:Fn) (first cap:Array Value) (w:World),(Instr.makeFunc fn first cap).run Tryz.prog w=.ok (.func fn first cap) w:=fun _ _ _ _=>rfl;have HM:=Hd h;clear h
 show Calls _ _ _ _ (Turn w b A n c all va st vp L [] (if isP [41] r=true then everyO (Ex.mk 13 0 ss 0 [] []) ps.length ps sz r.tail else .ok ([.m .arrow,.list [41] true (Ex.mk 13 0 ss 0 [] []) ps.length],ps,sz) r))
 cases hi:isP [41] r with
 | true=>
  rw [if_pos rfl]
  go_enter Tryz.func202,Tryz.ntmps202
  go_wp2_with fail
  refine(rrMade (b:=b) (L:=L) 0 (w.heap.size+1) (((HM.out.alloc _).alloc _).alloc _) (Nat.zero_le _) hps).mono ?_;rintro e W3 ⟨q0,q1,q2,rfl,hba,hpa,hc0,hc1,hc2⟩;have hN:=news (w:=w) (l:=[(#[rp b],57),(exA (Ex.mk 13 0 ss 0 [] []) none 0 none 0,26),(#[rp (w.heap.size+1)],98)]) rfl;have HKa:=Hd (made_new (x:=Ex.mk 13 0 ss 0 [] []) (f:=ps.length) HM.out rfl rfl hN.below (Nat.le_add_right _ 1) (hN.at_ 1 _ rfl) hba hpa hc0 hc1 hc2 (Below.refl _ _))
  have hni:∀ i,i≠1→w.heap.size+i∉(w.heap.size+1)::L:=fun i hi hk=>by
   rcases List.mem_cons.1 hk with hk | hk
   · omega
   · have:=HM.out.lv _ hk;omega
  have HZ3:=Hd (fzs_cons (v:=rp b) (Fz.new ((hba.cell (by simp;omega)).trans (hN.cell 0 0 _ _ rfl rfl)) (hni 0 (by decide))) (fzs_cons (v:=rp (w.heap.size+1)) (Fz.new ((hba.cell (by simp)).trans (hN.cell 2 0 _ _ rfl rfl)) (hni 2 (by decide))) (fzs_nil _ W3)));have d0:=HZ3.out.at_ 0 _ _ rfl;have l0:=World.block_lt_of_cell? _ _ d0;clear hba hpa hc0 hc1 hc2 hN hni;generalize hpe:w.heap.size+2=pe at *;have HEL:=Hd (show w.heap.size≤w.heap.size+1 from by omega);generalize heb:w.heap.size+1=eb at *;generalize hp0:w.heap.size+0=p0 at *;simp only [Nat.add_zero] at hp0;rw [hp0] at HEL ⊢
  go_wp2_with fail
  have hT4:=tn_alloc (L:=eb::L) (w:=W3) (.cells #[fnV 116 #[rp q0,rp q1,rp q2]] 1);have hZ4:=fzs_cons (v:=fnV 116 #[rp q0,rp q1,rp q2]) (Fz.new (World.cell?_alloc_new W3 #[fnV 116 #[rp q0,rp q1,rp q2]] 1 0) (fun hk=>by have:=HKa.out.1.lv _ hk;omega)) (HZ3.out.up hT4 nil_sub);refine(rrTook_yes ⟨#[41]⟩ ask_41 (HKa.out.1.alloc _).q hi).mono ?_;rintro e w5 ⟨rfl,hq,hb⟩;obtain⟨hM5,hT5⟩:=(HKa.out.1.alloc _).move hq hb;have HM5:=Hd hM5;have HZ5:=Hd (hZ4.up hT5 (b_sub HKa.out.1));have hEs:=(eat_sep HKa.out.1 HKa.out.2.2.1).1;have HE5:=Hd ((HKa.out.2.2.1.up hT4 nil_sub List.not_mem_nil).up hT5 (b_sub HKa.out.1) (by simpa using hEs));have HMD5:=Hd ((HKa.out.2.2.2.1.up hT4 nil_sub).up hT5 (b_sub HKa.out.1));have HT5:=Hd (((HKa.out.2.1.trans hT4 HM.out.lv (fun k hk=>.inl hk)).mono (S1:=turnS b va vp []) (fun k hk=>absurd hk List.not_mem_nil)).trans hT5 HM.out.lv (fun k hk=>.inl (turnS_b k hk)));have HV:=Hd (show vp.ownBlock≠some eb from fun hv=>by have:=HM.out.lv eb (HM.out.lp eb hv);omega);have e0:=HZ5.out.at_ 1 p0 _ rfl;clear hq hb hM5 hT5 hT4 hZ4 hEs d0 l0 HZ3;generalize W3.heap.size=p1 at *
  go_wp2_with fail
  refine(trn_every (Ex.mk 13 0 ss 0 [] []) ps.length eb p0 p1 pe q0 q1 q2 HM5.out hst HE5.out HV.out (HZ5.out (p0,rp b) (by simp)) (HZ5.out (p1,fnV 116 #[rp q0,rp q1,rp q2]) (by simp)) HMD5.out (HZ5.out (pe,rp eb) (by simp))).mono ?_;intro e w6 hx;have HX:=Hd (turn_into (ft:=[]) HM.out HT5.out (fun k hk=>.inr (by rw [List.mem_singleton.1 hk,hp0];exact HEL.out)) hx);have hr:=turn_every_ret hx;clear hx;subst hr
  go_wp2_with fail
  go_end0
  exact HX.out
 | false=>
  rw [if_neg (by simp)]
  go_enter Tryz.func202,Tryz.ntmps202
  go_wp2_with fail
  refine(rrMade (b:=b) (L:=L) 0 (w.heap.size+1) (((HM.out.alloc _).alloc _).alloc _) (Nat.zero_le _) hps).mono ?_;rintro e W3 ⟨q0,q1,q2,rfl,hba,hpa,hc0,hc1,hc2⟩;have hN:=news (w:=w) (l:=[(#[rp b],57),(exA (Ex.mk 13 0 ss 0 [] []) none 0 none 0,26),(#[rp (w.heap.size+1)],98)]) rfl;have HKa:=Hd (made_new (x:=Ex.mk 13 0 ss 0 [] []) (f:=ps.length) HM.out rfl rfl hN.below (Nat.le_add_right _ 1) (hN.at_ 1 _ rfl) hba hpa hc0 hc1 hc2 (Below.refl _ _))
  have hni:∀ i,i≠1→w.heap.size+i∉(w.heap.size+1)::L:=fun i hi hk=>by
   rcases List.mem_cons.1 hk with hk | hk
   · omega
   · have:=HM.out.lv _ hk;omega
  have HZ3:=Hd (fzs_cons (v:=rp b) (Fz.new ((hba.cell (by simp;omega)).trans (hN.cell 0 0 _ _ rfl rfl)) (hni 0 (by decide))) (fzs_cons (v:=rp (w.heap.size+1)) (Fz.new ((hba.cell (by simp)).trans (hN.cell 2 0 _ _ rfl rfl)) (hni 2 (by decide))) (fzs_nil _ W3)));have d0:=HZ3.out.at_ 0 _ _ rfl;have l0:=World.block_lt_of_cell? _ _ d0;clear hba hpa hc0 hc1 hc2 hN hni;generalize hpe:w.heap.size+2=pe at *;have HEL:=Hd (show w.heap.size≤w.heap.size+1 from by omega);generalize heb:w.heap.size+1=eb at *;generalize hp0:w.heap.size+0=p0 at *;simp only [Nat.add_zero] at hp0;rw [hp0] at HEL ⊢
  go_wp2_with fail
  have hT4:=tn_alloc (L:=eb::L) (w:=W3) (.cells #[fnV 116 #[rp q0,rp q1,rp q2]] 1);have hZ4:=fzs_cons (v:=fnV 116 #[rp q0,rp q1,rp q2]) (Fz.new (World.cell?_alloc_new W3 #[fnV 116 #[rp q0,rp q1,rp q2]] 1 0) (fun hk=>by have:=HKa.out.1.lv _ hk;omega)) (HZ3.out.up hT4 nil_sub);refine(rrTook_no ⟨#[41]⟩ ask_41 (HKa.out.1.alloc _).q hi).mono ?_;rintro e w5 ⟨rfl,hq,hb⟩;obtain⟨hM5,hT5⟩:=(HKa.out.1.alloc _).move hq hb;have HM5:=Hd hM5;have HZ5:=Hd (hZ4.up hT5 (b_sub HKa.out.1));have hEs:=(eat_sep HKa.out.1 HKa.out.2.2.1).1;have HE5:=Hd ((HKa.out.2.2.1.up hT4 nil_sub List.not_mem_nil).up hT5 (b_sub HKa.out.1) (by simpa using hEs));have HMD5:=Hd ((HKa.out.2.2.2.1.up hT4 nil_sub).up hT5 (b_sub HKa.out.1));have HT5:=Hd (((HKa.out.2.1.trans hT4 HM.out.lv (fun k hk=>.inl hk)).mono (S1:=turnS b va vp []) (fun k hk=>absurd hk List.not_mem_nil)).trans hT5 HM.out.lv (fun k hk=>.inl (turnS_b k hk)));have HV:=Hd (show vp.ownBlock≠some eb from fun hv=>by have:=HM.out.lv eb (HM.out.lp eb hv);omega);have e0:=HZ5.out.at_ 1 p0 _ rfl;clear hq hb hM5 hT5 hT4 hZ4 hEs d0 l0 HZ3;generalize W3.heap.size=p1 at *
  go_wp2_with fail
  refine(rrList [41] true (Ex.mk 13 0 ss 0 [] []) ps.length eb (.func 203) #[] #[rp p0,rp p1,rp pe] (.inr (by decide)) HM5.out (by omega) HE5.out HV.out ⟨p0,p1,pe,fnV 116 #[rp q0,rp q1,rp q2],rfl,HZ5.out (p0,rp b) (by simp),HZ5.out (p1,fnV 116 #[rp q0,rp q1,rp q2]) (by simp),HMD5.out,HZ5.out (pe,rp eb) (by simp)⟩).mono ?_;intro e w6 hx;have HX:=Hd (turn_into (ft:=[]) HM.out HT5.out (fun k hk=>.inr (by rw [List.mem_singleton.1 hk,hp0];exact HEL.out)) hx);have hr:=hx.1;clear hx;subst hr
  go_wp2_with fail
  go_end0
  exact HX.out
end
end
section
open Go.RowKit Go.Sort
section
variable {w w1 w2 w':World}{b:Nat}{A:Option Addr}{n c:Nat}{all r r' r2:List Tk}{va va1 vp:Value}{st:List Value}{ps:List Ex}{sz:Nat}{L L1 L2 S ft:List Nat}
theorem rrNamed(h:Mem w b A n c all r va st vp ps sz L) (hst:st.length≤900000) (hps:ps.length≤1000000) (hsz:sz≤1000000):
 Calls Tryz.prog 189 #[rp b] w (Turn w b A n c all va st vp L [] (namedO ps sz r)):=by
 have hmf:∀ (fn:Fn) (first cap:Array Value) (w:World),(Instr.makeFunc fn first cap).run Tryz.prog w=.ok (.func fn first cap) w:=fun _ _ _ _=>rfl;have HM:=Hd h;have HNM:=Hd (rrName h.q);clear h
 show Calls _ _ _ _ (Turn w b A n c all va st vp L [] ((nameP r).bind fun s r=>if isP [40] r=true then callO s ps sz r.tail else madeO (.mk 3 0 (ofB s) 0 [] []) ps.length ps sz r))
 cases hn:nameP r with
 | bad q=>
  have HNK:=Hd (QPost.bad_ HNM.out hn)
  show Calls _ _ _ _ (Turn w b A n c all va st vp L [] (.bad q))
  clear HNM hn
  go_enter Tryz.func189,Tryz.ntmps189
  go_wp2_with fail
  refine HNK.out.mono ?_;rintro e w1 ⟨rfl,hq1,hb1⟩;have HQ1:=Hd hq1;have HB1:=Hd hb1;clear hq1 hb1
  go_wp2_with fail
  exact⟨rfl,turn_bad HM.out HQ1.out HB1.out⟩
 | ok s q=>
  have HNK:=Hd (QPost.ok_ HNM.out hn)
  show Calls _ _ _ _ (Turn w b A n c all va st vp L [] (if isP [40] q=true then(if isP [41] q.tail=true then everyO (Ex.mk 13 0 (ofB s) 0 [] []) ps.length ps sz q.tail.tail else .ok ([.m .arrow,.list [41] true (Ex.mk 13 0 (ofB s) 0 [] []) ps.length],ps,sz) q.tail) else madeO (.mk 3 0 (ofB s) 0 [] []) ps.length ps sz q))
  clear HNM hn;generalize ofB s=ss at *
  cases hi:isP [40] q with
  | true=>
   rw [if_pos rfl];generalize hO:(if isP [41] q.tail=true then everyO (Ex.mk 13 0 ss 0 [] []) ps.length ps sz q.tail.tail else PR.ok ([Fr.m .arrow,Fr.list [41] true (Ex.mk 13 0 ss 0 [] []) ps.length],ps,sz) q.tail)=O;have HO:=Hd hO;clear hO
   go_enter Tryz.func189,Tryz.ntmps189
   go_wp2_with fail
   refine(HNK.out).mono ?_;rintro e w1 ⟨rfl,hq,hb⟩;obtain⟨hM1,hT1⟩:=HM.out.move hq hb;have HM1:=Hd hM1;have HT1:=Hd hT1;clear hq hb hM1 hT1
   go_wp2_with fail
   refine(rrTook_yes ⟨#[40]⟩ ask_40 HM1.out.q hi).mono ?_;rintro e w2 ⟨rfl,hq,hb⟩;obtain⟨hM2,hT2⟩:=HM1.out.move hq hb;have HM2:=Hd hM2;have HT2:=Hd (HT1.out.trans hT2 HM.out.lv (fun k hk=>.inl hk));clear hq hb hM2 hT2
   go_wp2_with fail
   refine(rrCall ss HM2.out hst hps).mono ?_;intro e w3 hx;rw [HO.out] at hx;have HX:=Hd (turn_into (ft:=[]) HM.out (HT2.out.mono (S1:=turnS b va vp []) turnS_b) (fun k hk=>absurd hk List.not_mem_nil) hx);have hr:=turn_two hx;clear hx;rcases hr with rfl | rfl
   · go_wp2_with fail
     go_end0
     exact HX.out
   · go_wp2_with fail
     exact⟨rfl,HX.out⟩
  | false=>
   rw [if_neg (by simp)]
   go_enter Tryz.func189,Tryz.ntmps189
   go_wp2_with fail
   refine(HNK.out).mono ?_;rintro e w1 ⟨rfl,hq,hb⟩;obtain⟨hM1,hT1⟩:=HM.out.move hq hb;have HM1:=Hd hM1;have HT1:=Hd hT1;clear hq hb hM1 hT1
   go_wp2_with fail
   refine(rrTook_no ⟨#[40]⟩ ask_40 HM1.out.q hi).mono ?_;rintro e w2 ⟨rfl,hq,hb⟩;obtain⟨hM2,hT2⟩:=HM1.out.move hq hb;have HM2:=Hd hM2;have HT2:=Hd (HT1.out.trans hT2 HM.out.lv (fun k hk=>.inl hk));clear hq hb hM2 hT2
   go_wp2_with fail
   refine(rrMade (b:=b) (L:=L) 0 w2.heap.size (HM2.out.alloc _) (Nat.zero_le _) hps).mono ?_;rintro e Wa ⟨q0,q1,q2,rfl,hba,hpa,hc0,hc1,hc2⟩;have HKa:=Hd (made_new (x:=Ex.mk 3 0 ss 0 [] []) (f:=ps.length) HM2.out rfl rfl ((Below.refl _ _).alloc (Nat.le_refl _) _) (Nat.le_refl _) (by exact heap_alloc_new _ _) hba hpa hc0 hc1 hc2 (Below.refl _ _));clear hba hpa hc0 hc1 hc2;have HV:=Hd (show vp.ownBlock≠some w2.heap.size from fun hv=>by have:=HM2.out.lv _ (HM2.out.lp _ hv);omega)
   go_wp2_with fail
   obtain⟨m0,m1,m2,hE,k0,k1,k2⟩:=HKa.out.2.2.2.1;simp only [fnV,Value.func.injEq,Array.mk.injEq,List.cons.injEq,rp,Value.pointer.injEq,Option.some.injEq,Addr.mk.injEq,and_true,true_and] at hE;obtain⟨rfl,rfl,rfl⟩:=hE;refine(trn_made (Ex.mk 3 0 ss 0 [] []) ps.length w2.heap.size q0 q1 q2 HKa.out.1 (Nat.le_refl _) hps hsz HKa.out.2.2.1 HV.out k0 k1 k2).mono ?_;intro e w3 hx;have HX:=Hd (turn_into (ft:=[]) HM.out (((HT2.out.mono (S1:=turnS b va vp []) turnS_b).trans (HKa.out.2.1.mono (S1:=turnS b va vp []) (fun k hk=>absurd hk List.not_mem_nil)) HM.out.lv (fun k hk=>.inl hk))) (fun k hk=>.inr (by rw [List.mem_singleton.1 hk];exact HT2.out.size)) hx);have hr:=turn_made_ret hx;clear hx;subst hr
   go_wp2_with fail
   go_end0
   exact HX.out
end
end
end Go.Proofs.YtokiaaapgkdpmaaGreatDoor
