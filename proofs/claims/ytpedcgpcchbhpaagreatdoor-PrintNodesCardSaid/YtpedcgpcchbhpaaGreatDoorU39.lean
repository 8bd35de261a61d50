/- Parts of the proof: PkX. Conditions: each theorem's own. -/
import Derived.Test.YtpedcgpcchbhpaaGreatDoorU38
namespace Go.Proofs.YtpedcgpcchbhpaaGreatDoor
set_option linter.unusedVariables false
set_option linter.unusedSimpArgs false
set_option maxRecDepth 100000
set_option maxHeartbeats 40000000
section
open Go.RowKit Go.Sort Go.BigFrame
theorem all_shortD{x:Nd}(h:ShortN x){k:Nat}(hk:k<x.all.length):ShortD (x.all[k]?.getD default):=by
 rw [List.getElem?_eq_getElem hk,Option.getD_some];exact h.2.2.2.2.2.1 _ (List.getElem_mem _)
theorem walkNodes(p:Pg) (E:Option Addr) (ec:Nat) (N:Option Addr) (nc:Nat) (w:World) (h:rdPC w p E N) (hT:Tab w):
 Calls Tryz.prog 4 #[.agg (pgA p E ec N nc)] w fun e w'=>e=.returned (.bool true)∧Below w.heap.size w w':=by
 have HF:=Hd fun w1 hw=>pg_facts w p E ec N nc w1 hw h.plain;have HSM:=Hd fun w1 a=>refPgSmall p E ec N nc w1 a;have HTB:=Hd hT;have HRC:=Hd h;have hmx:=RdS.max h.2.1;unfold pgA at HSM ⊢;clear h hT
 go_enter Tryz.func4,Tryz.ntmps4
 go_upto_region 1 with(fail)
 generalize hw1:w.alloc _=w1;obtain⟨hb1,hg,-,hcell⟩:=HF.out w1 hw1;have HB1:=Hd hb1;have HCE:=Hd hcell;have HR1:=Hd (HRC.out.below hb1);simp only [pgA] at HCE;have q0:=HCE.out w1 (Below.refl _ _) 0;have q1:=HCE.out w1 (Below.refl _ _) 1;simp only [Ya,Yb,Yc] at q0 q1;clear hw1 hcell hb1 HF HRC
 go_wp2_with fail
 refine(HSM.out w1 HR1.out.plain).mono ?_;rintro e w2 ⟨b,rfl,ht,hb2⟩;have HB2:=Hd (below_next HB1.out hb2);have HW2:=Hd hb2;clear hb2 q0 q1
 cases b with
 | false=>
  go_wp2_with fail
  refine(live_any w2 (HTB.out.below HB2.out)).mono ?_;rintro e w3 ⟨rfl,hbL⟩;have HBL:=Hd (below_next HB2.out hbL);clear hbL
  go_wp2_with fail
  go_ret
  exact⟨rfl,HBL.out⟩
 | true=>
  have HT:=Hd (ht rfl);have HES:=Hd (ht rfl).1.short;have HND:=Hd fun(k:Nat) (hk:k<p.ns.length)=>(tiny_at (ht rfl) hk).short;have HNL:=Hd fun(k:Nat) (hk:k<p.ns.length)=>(tiny_at (ht rfl) hk).len;clear ht;generalize hnn:p.ns.length=nn at *
  go_wp2_with fail
  go_loopw [3] (fun i wr=>∃ k:Nat,k≤nn∧i=.int .i64 k∧Below w1.heap.size w1 wr) (fun i _=>nn-(intOf i).toNat)
  case atStart=>exact⟨0,Nat.zero_le _,rfl,HW2.out⟩
  case round=>
   obtain⟨k,hk,rfl,hnx⟩:=hrel;have HNX:=Hd hnx;have q1:=HCE.out wr hnx 1;simp only [Ya,Yb,Yc] at q1
   by_cases hlt:k<nn
   · obtain⟨b,off,A1,c1,A2,c2,A3,c3,A4,c4,rfl,hbl,hrd,d0,d1,d2,d3,d4⟩:=nd_atC (HR1.out.below hnx).2.1 (by rw [hnn];exact hlt);have hsh:=HND.out k hlt;have hal:=HNL.out k hlt;have HRD:=Hd hrd
     have HDC:=Hd fun w' (hb:Below wr.heap.size wr w')=>(show w'.cell? ⟨b,off+k*5,none⟩=some (.string (p.ns[k]?.getD default).nm)∧w'.cell? ⟨b,off+k*5+1,none⟩=some (.slice A1 (p.ns[k]?.getD default).ins.length c1)∧w'.cell? ⟨b,off+k*5+2,none⟩=some (.slice A2 (p.ns[k]?.getD default).outs.length c2)∧w'.cell? ⟨b,off+k*5+3,none⟩=some (.slice A3 (p.ns[k]?.getD default).vars.length c3)∧w'.cell? ⟨b,off+k*5+4,none⟩=some (.slice A4 (p.ns[k]?.getD default).eqs.length c4) from
      ⟨(hb.cell (p:=⟨b,off+k*5,none⟩) hbl).trans d0,(hb.cell (p:=⟨b,off+k*5+1,none⟩) hbl).trans d1,(hb.cell (p:=⟨b,off+k*5+2,none⟩) hbl).trans d2,(hb.cell (p:=⟨b,off+k*5+3,none⟩) hbl).trans d3,(hb.cell (p:=⟨b,off+k*5+4,none⟩) hbl).trans d4⟩)
     have HAL:=Hd (refAllD (p.ns[k]?.getD default) A1 c1 A2 c2 A3 c3 A4 c4 wr hrd.1 (by omega));have HSD:=Hd fun(j:Nat) hj=>all_shortD hsh (k:=j) hj;have HCD:=Hd fun(y:Dc) (hy:ShortD y) w' (a:RdE w' E p.es.length p.es) (t:Tab w')=>pnDecl p.es E ec y w' a HES.out hy t;have HRD2:=Hd fun(y:Dc) (hy:ShortD y) w' (a:RdE w' E p.es.length p.es)=>refDeclT p.es E ec y w' a HES.out hy;have HCN:=Hd fun w' (a:RdE w' E p.es.length p.es) b (t:Tab w')=>pnNode p.es E ec (p.ns[k]?.getD default) A1 c1 A2 c2 A3 c3 A4 c4 w' a HES.out b hsh t;have HRN:=Hd fun w' (a:RdE w' E p.es.length p.es) b=>refNodeT p.es E ec (p.ns[k]?.getD default) A1 c1 A2 c2 A3 c3 A4 c4 w' a HES.out b hsh;clear hsh hrd hnx;generalize p.ns[k]?.getD default=x at *;unfold ndA at HAL HCN HRN;unfold dcA at HCD HRD2;generalize hna:x.all.length=na at *;have HNA:=Hd hna;clear hna
     go_wp2_with fail
     refine HAL.out.mono ?_;rintro e w3 ⟨A,c,rfl,hrs,hb3⟩;have HRS:=Hd hrs;have HN3:=Hd (HNX.out.trans (hb3.mono HNX.out.size));have HO3:=Hd hb3;clear hrs hb3 d0 d1 d2 d3 d4 q1;generalize wr=wo at *
     go_wp2_with fail
     go_loopw [5] (fun i wr=>∃ j:Nat,j≤na∧i=.int .i64 j∧Below w3.heap.size w3 wr) (fun i _=>na-(intOf i).toNat)
     case atStart=>exact⟨0,Nat.zero_le _,rfl,Below.refl _ _⟩
     case round=>
      obtain⟨j,hj,rfl,hny⟩:=hrel;have HNY:=Hd hny;have HNZ:=Hd (HN3.out.trans (hny.mono HN3.out.size));have HNO:=Hd (HO3.out.trans (hny.mono HO3.out.size));have q0:=HCE.out wr HNZ.out 0;have q1:=HCE.out wr HNZ.out 1;simp only [Ya,Yb,Yc] at q0 q1;have HREr:=Hd (HR1.out.below HNZ.out).1;have HTr:=Hd (HTB.out.below (below_next HB1.out HNZ.out))
      by_cases hjt:j<na
      · obtain⟨b2,off2,rfl,hb2,hc2⟩:=RdS.at_ (RdD.below HRS.out hny) (by omega);obtain⟨e0,e1,e2,e3,e4,e5⟩:=(hc2 j hjt).six;have hsd:=HSD.out j hjt;have HC1:=Hd fun w' a t=>HCD.out (x.all[j]?.getD default) hsd w' a t;have HC2:=Hd fun w' a=>HRD2.out (x.all[j]?.getD default) hsd w' a;clear hc2 hsd hny q1;generalize x.all[j]?.getD default=y at *;generalize ofB (declT (tyL p.es) y)=tx at *;have hnx2:=str_nrefl tx;have HBR:=Hd fun d os=>below_regrown wr d os
        go_upto_region 10 with(fail)
        have l0:=fun d os=>cell_regrown q0 d os;have m0:=fun d os=>cell_regrown e0 d os;have m1:=fun d os=>cell_regrown e1 d os;have m2:=fun d os=>cell_regrown e2 d os;have m3:=fun d os=>cell_regrown e3 d os;have m4:=fun d os=>cell_regrown e4 d os;have m5:=fun d os=>cell_regrown e5 d os;have cA:=fun d os=>Calls.regrown_of (HC1.out (grow (redrawn wr d) os) (HREr.out.below (below_regrown wr d os)) (HTr.out.below (below_regrown wr d os)));have cB:=fun d os=>Calls.regrown_of (HC2.out (grow (redrawn wr d) os) (HREr.out.below (below_regrown wr d os)));refine wp_region_quiet_below (by kernel_rfl) (by kernel_rfl) ?_
        repeat (go_big_quiet_step (first | with_reducible exact cA _ _ | with_reducible exact cB _ _))
        refine wpQuiet_nil ?_;intro _ hw3;obtain⟨⟨dq3,osq3⟩,hw33⟩:=hw3;have hbr3:=HBR.out dq3 osq3;rw [← hw33] at hbr3;clear cA cB l0 m0 m1 m2 m3 m4 m5 hw33 e0 e1 e2 e3 e4 e5 q0
        rename_i w9
        have HB9:=Hd (HNY.out.trans (hbr3.mono HNY.out.size));clear hbr3
        go_wp2_with fail
        go_roundw
        case rel=>exact⟨j+1,by omega,by go_num,HB9.out⟩
        case measure=>simp [intOf];omega
      · have hjn:j=na:=by omega
        obtain⟨e0,e1,e2,e3,e4⟩:=HDC.out wr HNO.out;have HRDr:=Hd (HRD.out.below HNO.out);generalize ofB (nodeG (tyL p.es) x)=tx at *;have hnx2:=str_nrefl tx;have HBR:=Hd fun d os=>below_regrown wr d os;clear hny
        go_upto_region 12 with(fail)
        have l0:=fun d os=>cell_regrown q0 d os;have l1:=fun d os=>cell_regrown q1 d os;have m0:=fun d os=>cell_regrown e0 d os;have m1:=fun d os=>cell_regrown e1 d os;have m2:=fun d os=>cell_regrown e2 d os;have m3:=fun d os=>cell_regrown e3 d os;have m4:=fun d os=>cell_regrown e4 d os;have cA:=fun d os=>Calls.regrown_of (HCN.out (grow (redrawn wr d) os) (HREr.out.below (below_regrown wr d os)) (HRDr.out.below (below_regrown wr d os)) (HTr.out.below (below_regrown wr d os)));have cB:=fun d os=>Calls.regrown_of (HRN.out (grow (redrawn wr d) os) (HREr.out.below (below_regrown wr d os)) (HRDr.out.below (below_regrown wr d os)));refine wp_region_quiet_below (by kernel_rfl) (by kernel_rfl) ?_
        repeat (go_big_quiet_step (first | with_reducible exact cA _ _ | with_reducible exact cB _ _))
        refine wpQuiet_nil ?_;intro _ hw3;obtain⟨⟨dq3,osq3⟩,hw33⟩:=hw3;have hbr3:=HBR.out dq3 osq3;rw [← hw33] at hbr3;clear cA cB l0 l1 m0 m1 m2 m3 m4 hw33 e0 e1 e2 e3 e4 q0 q1
        rename_i w9
        have HB9:=Hd (HNZ.out.trans (hbr3.mono HNZ.out.size));clear hbr3
        go_wp2_with fail
        go_roundw
        case rel=>exact⟨k+1,by omega,by go_num,HB9.out⟩
        case measure=>simp [intOf];omega
   · have HBk:=Hd (below_next HB1.out HNX.out);clear hnx
     go_wp2_with fail
     refine(live_any wr (HTB.out.below HBk.out)).mono ?_;rintro e w3 ⟨rfl,hb3⟩;have HB3:=Hd (below_next HBk.out hb3);clear hb3
     go_wp2_with fail
     go_ret
     exact⟨rfl,HB3.out⟩
end
end Go.Proofs.YtpedcgpcchbhpaaGreatDoor
