/- Parts: PrZ. Conditions: each theorem's own. -/
import Derived.Test.YtokiaaapgkdpmaaGreatDoorU33
namespace Go.Proofs.YtokiaaapgkdpmaaGreatDoor
set_option linter.unusedVariables false
set_option linter.unusedSimpArgs false
set_option maxRecDepth 100000
set_option maxHeartbeats 40000000
section
open Go.RowKit Go.Sort
section
variable {w w1 w2 w':World}{b:Nat}{A:Option Addr}{n c:Nat}{all r r' r2:List Tk}{va va1 vp:Value}{st:List Value}{ps:List Ex}{sz:Nat}{L L1 L2 S ft:List Nat}
theorem rrNamed(h:Mem w b A n c all r va st vp ps sz L)(hst:st.length≤900000)(hps:ps.length≤1000000)(hsz:sz≤1000000):
 Calls Tryz.prog 189 #[rp b] w (Turn w b A n c all va st vp L [] (namedO ps sz r)):=by
 have hmf:∀ (fn:Fn) (first cap:Array Value) (w:World),(Instr.makeFunc fn first cap).run Tryz.prog w=.ok (.func fn first cap) w:=fun _ _ _ _=>rfl;have HM:=Hd h;have HNM:=Hd (rrName h.q);clear h
 show Calls _ _ _ _ (Turn w b A n c all va st vp L [] ((nameP r).bind fun s r=>if isP [40] r=true then callO s ps sz r.tail else madeO (.mk 3 0 (ofB s) 0 [] []) ps.length ps sz r))
 cases hn:nameP r with
 | bad q=>
  have HNK:=Hd (QPost.bad_ HNM.out hn)
  show Calls _ _ _ _ (Turn w b A n c all va st vp L [] (.bad q))
  clear HNM hn
  go_enter Tryz.func189,Tryz.ntmps189
  go_wp2_with fail
  refine HNK.out.mono ?_;rintro e w1 ⟨rfl,hq1,hb1⟩;have HQ1:=Hd hq1;have HB1:=Hd hb1;clear hq1 hb1
  go_wp2_with fail
  exact⟨rfl,turn_bad HM.out HQ1.out HB1.out⟩
 | ok s q=>
  have HNK:=Hd (QPost.ok_ HNM.out hn)
  show Calls _ _ _ _ (Turn w b A n c all va st vp L [] (if isP [40] q=true then(if isP [41] q.tail=true then everyO (Ex.mk 13 0 (ofB s) 0 [] []) ps.length ps sz q.tail.tail else .ok ([.m .arrow,.list [41] true (Ex.mk 13 0 (ofB s) 0 [] []) ps.length],ps,sz) q.tail) else madeO (.mk 3 0 (ofB s) 0 [] []) ps.length ps sz q))
  clear HNM hn;generalize ofB s=ss at *
  cases hi:isP [40] q with
  | true=>
   rw[if_pos rfl];generalize hO:(if isP [41] q.tail=true then everyO (Ex.mk 13 0 ss 0 [] []) ps.length ps sz q.tail.tail else PR.ok ([Fr.m .arrow,Fr.list [41] true (Ex.mk 13 0 ss 0 [] []) ps.length],ps,sz) q.tail)=O;have HO:=Hd hO;clear hO
   go_enter Tryz.func189,Tryz.ntmps189
   go_wp2_with fail
   refine(HNK.out).mono ?_;rintro e w1 ⟨rfl,hq,hb⟩;obtain⟨hM1,hT1⟩:=HM.out.move hq hb;have HM1:=Hd hM1;have HT1:=Hd hT1;clear hq hb hM1 hT1
   go_wp2_with fail
   refine(rrTook_yes ⟨#[40]⟩ ask_40 HM1.out.q hi).mono ?_;rintro e w2 ⟨rfl,hq,hb⟩;obtain⟨hM2,hT2⟩:=HM1.out.move hq hb;have HM2:=Hd hM2;have HT2:=Hd (HT1.out.trans hT2 HM.out.lv (fun k hk=>.inl hk));clear hq hb hM2 hT2
   go_wp2_with fail
   refine(rrCall ss HM2.out hst hps).mono ?_;intro e w3 hx;rw[HO.out] at hx;have HX:=Hd (turn_into (ft:=[]) HM.out (HT2.out.mono (S1:=turnS b va vp []) turnS_b) (fun k hk=>absurd hk List.not_mem_nil) hx);have hr:=turn_two hx;clear hx;rcases hr with rfl | rfl
   · go_wp2_with fail
     go_end0
     exact HX.out
   · go_wp2_with fail
     exact⟨rfl,HX.out⟩
  | false=>
   rw[if_neg (by simp)]
   go_enter Tryz.func189,Tryz.ntmps189
   go_wp2_with fail
   refine(HNK.out).mono ?_;rintro e w1 ⟨rfl,hq,hb⟩;obtain⟨hM1,hT1⟩:=HM.out.move hq hb;have HM1:=Hd hM1;have HT1:=Hd hT1;clear hq hb hM1 hT1
   go_wp2_with fail
   refine(rrTook_no ⟨#[40]⟩ ask_40 HM1.out.q hi).mono ?_;rintro e w2 ⟨rfl,hq,hb⟩;obtain⟨hM2,hT2⟩:=HM1.out.move hq hb;have HM2:=Hd hM2;have HT2:=Hd (HT1.out.trans hT2 HM.out.lv (fun k hk=>.inl hk));clear hq hb hM2 hT2
   go_wp2_with fail
   refine(rrMade (b:=b) (L:=L) 0 w2.heap.size (HM2.out.alloc _) (Nat.zero_le _) hps).mono ?_;rintro e Wa ⟨q0,q1,q2,rfl,hba,hpa,hc0,hc1,hc2⟩;have HKa:=Hd (made_new (x:=Ex.mk 3 0 ss 0 [] []) (f:=ps.length) HM2.out rfl rfl ((Below.refl _ _).alloc (Nat.le_refl _) _) (Nat.le_refl _) (by exact heap_alloc_new _ _) hba hpa hc0 hc1 hc2 (Below.refl _ _));clear hba hpa hc0 hc1 hc2;have HV:=Hd (show vp.ownBlock≠some w2.heap.size from fun hv=>by have:=HM2.out.lv _ (HM2.out.lp _ hv);omega)
   go_wp2_with fail
   obtain⟨m0,m1,m2,hE,k0,k1,k2⟩:=HKa.out.2.2.2.1;simp only[fnV,Value.func.injEq,Array.mk.injEq,List.cons.injEq,rp,Value.pointer.injEq,Option.some.injEq,Addr.mk.injEq,and_true,true_and] at hE;obtain⟨rfl,rfl,rfl⟩:=hE;refine(trn_made (Ex.mk 3 0 ss 0 [] []) ps.length w2.heap.size q0 q1 q2 HKa.out.1 (Nat.le_refl _) hps hsz HKa.out.2.2.1 HV.out k0 k1 k2).mono ?_;intro e w3 hx;have HX:=Hd (turn_into (ft:=[]) HM.out (((HT2.out.mono (S1:=turnS b va vp []) turnS_b).trans (HKa.out.2.1.mono (S1:=turnS b va vp []) (fun k hk=>absurd hk List.not_mem_nil)) HM.out.lv (fun k hk=>.inl hk))) (fun k hk=>.inr (by rw[List.mem_singleton.1 hk];exact HT2.out.size)) hx);have hr:=turn_made_ret hx;clear hx;subst hr
   go_wp2_with fail
   go_end0
   exact HX.out
end
end
end Go.Proofs.YtokiaaapgkdpmaaGreatDoor
