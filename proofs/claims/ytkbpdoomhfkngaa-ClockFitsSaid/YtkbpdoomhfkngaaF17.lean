/- Parts of the proof: ClW. Conditions: each theorem's own. -/
import Derived.Test.YtkbpdoomhfkngaaF16
namespace Go.Proofs.Ytkbpdoomhfkngaa
set_option linter.unusedVariables false
set_option linter.unusedSimpArgs false
set_option maxRecDepth 100000
set_option maxHeartbeats 40000000
section
open Go.RowKit Go.Sort Go.BigFrame
def asA(nm:ByteArray) (x:Ex) (A:Option Addr) (ca:Nat) (B:Option Addr) (cb:Nat) (On:Option Addr) (n oc:Nat):Array Value:=
 #[.string nm,.int .i64 x.k,.int .i64 x.n,.string x.s,.int .i64 x.op,.slice A x.arms.length ca,.slice B x.subs.length cb,.slice On n oc]
theorem tiny_all{p:Pg}(ht:TinyP p):∀ j,j<p.ns.length→(ndAt p j).all.length≤1000:=fun j hj=>Nat.le_trans (TinyN.len (ht.2.2 j hj)) (by decide)
theorem walkFits(p:Pg) (E:Option Addr) (ec:Nat) (N:Option Addr) (nc:Nat) (i:Int) (nm:ByteArray) (x:Ex) (A:Option Addr) (ca:Nat) (B:Option Addr) (cb:Nat) (On:Option Addr) (n oc:Nat) (on:List Cd) (w:World) (h:rdP w p E N) (hx:rdX w x A B) (ho:RdC w On n on) (hoc:n≤oc):
 Calls Try.prog 3 #[.agg (pgA p E ec N nc),.int .i64 i,.agg (asA nm x A ca B cb On n oc)] w fun e w'=>e=.returned (.bool true)∧Below w.heap.size w w':=by
 have HF:=Hd fun w0 hw=>cl_box2 (w:=w) (w1:=w0) (cs:=pgA p E ec N nc) (ds:=asA nm x A ca B cb On n oc) (T:=25) (U:=32) hw;have HSM:=Hd fun w1 (hb:Below w.heap.size w w1)=>refPgSmall p E ec N nc w1 (h.below hb);have HTX:=Hd fun w1 (hb:Below w.heap.size w w1)=>refSmall x A ca B cb w1 (hx.below hb);have HRX:=Hd fun(ht:tinyX x=true) w1 (hb:Below w.heap.size w w1)=>refRight x A ca B cb w1 (hx.below hb) (tiny_sizeX ht) (tiny_shortX ht);have HRP:=Hd fun w1 (hb:Below w.heap.size w w1)=>clRowE p E ec N nc i nm w1 (h.below hb);have HRR:=Hd fun(ht:TinyP p) w1 (hb:Below w.heap.size w w1)=>refRow17 p E ec N nc i nm w1 (h.below hb) (tiny_all ht);have HFP:=Hd fun(h1:tinyX x=true) (h2:rightX x=true) (hn:n≤20) w1 (hb:Below w.heap.size w w1)=>clFitsE p E ec N nc i x A ca B cb On n oc on w1 (h.below hb) (hx.below hb) (ho.below hb) hoc (fby_two h2) (tiny_sizeX h1) (by omega);have HFR:=Hd fun(ht:TinyP p) (h1:tinyX x=true) (hn:n≤20) w1 (hb:Below w.heap.size w w1)=>refFits17 p E ec N nc i x A ca B cb On n oc on w1 (h.below hb) (hx.below hb) (ho.below hb) (tiny_all ht) (tiny_sizeX h1) (by omega);have HLV:=Hd clLive;have hox:=RdS.max ho;clear h hx ho hoc;unfold RowPostP at HRP;unfold RowPost at HRR;generalize rowOf p i nm=orow at *;generalize fitOf p i x on=ft at *;generalize tinyX x=tx at *;generalize rightX x=rx at *;unfold pgA exA asA at *;generalize p.ns.length=pn at *;generalize p.es.length=pe at *;generalize x.arms.length=al at *;generalize x.subs.length=sl at *
 go_enter Try.func3,Try.ntmps3
 go_upto_region 1 with(fail)
 generalize hw0:(w.alloc _).alloc _=w0;obtain⟨hb0,hsz,hp,hq⟩:=HF.out w0 hw0;have HB0:=Hd hb0;have HP:=Hd hp;have HX:=Hd hq;clear hw0 hb0 hsz hp hq HF;have p0:=HP.out w0 (Below.refl _ _) 0;have p1:=HP.out w0 (Below.refl _ _) 1;obtain⟨a0,a1,a2,a3,a4,a5⟩:=Sx (HX.out w0 (Below.refl _ _));have a6:=HX.out w0 (Below.refl _ _) 6;have a7:=HX.out w0 (Below.refl _ _) 7;simp only [Ya,Yb,Yc] at p0 p1 a0 a1 a2 a3 a4 a5 a6 a7
 go_wp2_with fail
 refine(HSM.out w0 HB0.out).mono ?_;rintro e w1 ⟨b,rfl,ht,hb1⟩;clear p0 p1 a0 a1 a2 a3 a4 a5 a6 a7;have HB1:=Hd hb1
 cases b with
 | false=>
  clear hb1 ht
  go_wp2_with fail
  refine(HLV.out w1).mono ?_;rintro e wl ⟨rfl,hbl⟩;have HBL:=Hd (HB1.out.trans (hbl.mono HB1.out.size));clear hbl
  go_wp2_with fail
  go_ret
  exact⟨rfl,HB0.out.trans (HBL.out.mono HB0.out.size)⟩
 | true=>
  have HT:=Hd (ht rfl);have p0:=HP.out w1 hb1 0;have p1:=HP.out w1 hb1 1;obtain⟨a0,a1,a2,a3,a4,a5⟩:=Sx (HX.out w1 hb1);have a6:=HX.out w1 hb1 6;have a7:=HX.out w1 hb1 7;simp only [Ya,Yb,Yc] at p0 p1 a0 a1 a2 a3 a4 a5 a6 a7;clear ht hb1
  go_wp2_with fail
  refine(HTX.out w1 (HB0.out.trans (HB1.out.mono HB0.out.size))).mono ?_;rintro e w2 ⟨rfl,hb⟩;clear p0 p1 a0 a1 a2 a3 a4 a5 a6 a7;have hb2:=HB1.out.trans (hb.mono HB1.out.size);have HB2:=Hd hb2;clear hb
  cases tx with
  | false=>
   clear hb2
   go_wp2_with fail
   refine(HLV.out w2).mono ?_;rintro e wl ⟨rfl,hbl⟩;have HBL:=Hd (HB2.out.trans (hbl.mono HB2.out.size));clear hbl
   go_wp2_with fail
   go_ret
   exact⟨rfl,HB0.out.trans (HBL.out.mono HB0.out.size)⟩
  | true=>
   have p0:=HP.out w2 hb2 0;have p1:=HP.out w2 hb2 1;obtain⟨a0,a1,a2,a3,a4,a5⟩:=Sx (HX.out w2 hb2);have a6:=HX.out w2 hb2 6;have a7:=HX.out w2 hb2 7;simp only [Ya,Yb,Yc] at p0 p1 a0 a1 a2 a3 a4 a5 a6 a7;clear hb2
   go_wp2_with fail
   refine(HRX.out (by first | exact rfl | trivial) w2 (HB0.out.trans (HB2.out.mono HB0.out.size))).mono ?_;rintro e w3 ⟨rfl,hb⟩;clear p0 p1 a0 a1 a2 a3 a4 a5 a6 a7;have hb3:=HB2.out.trans (hb.mono HB2.out.size);have HB3:=Hd hb3;clear hb
   cases rx with
   | false=>
    clear hb3
    go_wp2_with fail
    refine(HLV.out w3).mono ?_;rintro e wl ⟨rfl,hbl⟩;have HBL:=Hd (HB3.out.trans (hbl.mono HB3.out.size));clear hbl
    go_wp2_with fail
    go_ret
    exact⟨rfl,HB0.out.trans (HBL.out.mono HB0.out.size)⟩
   | true=>
    cases h5:decide ((500:Int)<(nm.size:Int)) with
    | true=>
     have p0:=HP.out w3 hb3 0;have p1:=HP.out w3 hb3 1;obtain⟨a0,a1,a2,a3,a4,a5⟩:=Sx (HX.out w3 hb3);have a6:=HX.out w3 hb3 6;have a7:=HX.out w3 hb3 7;simp only [Ya,Yb,Yc] at p0 p1 a0 a1 a2 a3 a4 a5 a6 a7;clear hb3
     go_wp2_with fail
     refine(HLV.out w3).mono ?_;rintro e wl ⟨rfl,hbl⟩;have HBL:=Hd (HB3.out.trans (hbl.mono HB3.out.size));clear hbl
     go_wp2_with fail
     go_ret
     exact⟨rfl,HB0.out.trans (HBL.out.mono HB0.out.size)⟩
    | false=>
     cases h20:decide ((20:Int)<(n:Int)) with
     | true=>
      have p0:=HP.out w3 hb3 0;have p1:=HP.out w3 hb3 1;obtain⟨a0,a1,a2,a3,a4,a5⟩:=Sx (HX.out w3 hb3);have a6:=HX.out w3 hb3 6;have a7:=HX.out w3 hb3 7;simp only [Ya,Yb,Yc] at p0 p1 a0 a1 a2 a3 a4 a5 a6 a7;clear hb3
      go_wp2_with fail
      refine(HLV.out w3).mono ?_;rintro e wl ⟨rfl,hbl⟩;have HBL:=Hd (HB3.out.trans (hbl.mono HB3.out.size));clear hbl
      go_wp2_with fail
      go_ret
      exact⟨rfl,HB0.out.trans (HBL.out.mono HB0.out.size)⟩
     | false=>
      have HN:=Hd (show n≤20 by have:=of_decide_eq_false h20;omega);have p0:=HP.out w3 hb3 0;have p1:=HP.out w3 hb3 1;obtain⟨a0,a1,a2,a3,a4,a5⟩:=Sx (HX.out w3 hb3);have a6:=HX.out w3 hb3 6;have a7:=HX.out w3 hb3 7;simp only [Ya,Yb,Yc] at p0 p1 a0 a1 a2 a3 a4 a5 a6 a7;clear hb3
      go_wp2_with fail
      refine(HRP.out w3 (HB0.out.trans (HB3.out.mono HB0.out.size))).mono ?_;rintro e w4 ⟨hb,hpost⟩;clear p0 p1 a0 a1 a2 a3 a4 a5 a6 a7;have hb4:=HB3.out.trans (hb.mono HB3.out.size);have HB4:=Hd hb4;clear hb
      cases orow with
      | none=>
       subst hpost;have p0:=HP.out w4 hb4 0;have p1:=HP.out w4 hb4 1;obtain⟨a0,a1,a2,a3,a4,a5⟩:=Sx (HX.out w4 hb4);have a6:=HX.out w4 hb4 6;have a7:=HX.out w4 hb4 7;simp only [Ya,Yb,Yc] at p0 p1 a0 a1 a2 a3 a4 a5 a6 a7;clear hb4
       go_wp2_with fail
       refine(HRR.out HT.out w4 (HB0.out.trans (HB4.out.mono HB0.out.size))).mono ?_;rintro e w5 ⟨hb,hpost⟩;subst hpost;clear p0 p1 a0 a1 a2 a3 a4 a5 a6 a7;have hb5:=HB4.out.trans (hb.mono HB4.out.size);have HB5:=Hd hb5;clear hb;have p0:=HP.out w5 hb5 0;have p1:=HP.out w5 hb5 1;obtain⟨a0,a1,a2,a3,a4,a5⟩:=Sx (HX.out w5 hb5);have a6:=HX.out w5 hb5 6;have a7:=HX.out w5 hb5 7;simp only [Ya,Yb,Yc] at p0 p1 a0 a1 a2 a3 a4 a5 a6 a7;clear hb5;have HSA:=Hd fun W (hb:Below w5.heap.size w5 W)=>refSame17 none 0 0 [] none 0 0 [] W (RdS.nil_ _ _ _) (RdS.nil_ _ _ _);rw [show sameC [] []=true from rfl] at HSA;have HFA:=Hd fun W (hb:Below w5.heap.size w5 W)=>HFP.out (by first | exact rfl | trivial) (by first | exact rfl | trivial) HN.out W (HB0.out.trans ((HB5.out.trans (hb.mono HB5.out.size)).mono HB0.out.size));have HFB:=Hd fun W (hb:Below w5.heap.size w5 W)=>HFR.out HT.out (by first | exact rfl | trivial) HN.out W (HB0.out.trans ((HB5.out.trans (hb.mono HB5.out.size)).mono HB0.out.size));have HLA:=Hd fun W (hb:Below w5.heap.size w5 W)=>HLV.out W
       cases ft
       all_goals
        go_upto_region 5 with(fail)
        have l0:=fun d os=>cell_regrown p0 d os;have l1:=fun d os=>cell_regrown p1 d os;have l2:=fun d os=>cell_regrown a0 d os;have l3:=fun d os=>cell_regrown a1 d os;have l4:=fun d os=>cell_regrown a2 d os;have l5:=fun d os=>cell_regrown a3 d os;have l6:=fun d os=>cell_regrown a4 d os;have l7:=fun d os=>cell_regrown a5 d os;have l8:=fun d os=>cell_regrown a6 d os;have l9:=fun d os=>cell_regrown a7 d os;have HBQ:=Hd fun d os=>below_regrown w5 d os;have cA0:=fun d os=>Calls.regrown_of (HSA.out (grow (redrawn w5 d) os) (below_regrown w5 d os));have cA1:=fun d os=>Calls.regrown_of (HFA.out (grow (redrawn w5 d) os) (below_regrown w5 d os));have cA2:=fun d os=>Calls.regrown_of (HFB.out (grow (redrawn w5 d) os) (below_regrown w5 d os));have cA3:=fun d os=>Calls.regrown_of (HLA.out (grow (redrawn w5 d) os) (below_regrown w5 d os));refine wp_region_quiet_below (by kernel_rfl) (by kernel_rfl) ?_
        repeat (go_big_quiet_step (first | with_reducible exact cA0 _ _ | with_reducible exact cA1 _ _ | with_reducible exact cA2 _ _ | with_reducible exact cA3 _ _))
        refine wpQuiet_nil ?_;intro _ hw';obtain⟨⟨dq,osq⟩,hw''⟩:=hw';subst hw'';have HBZ:=Hd (HBQ.out dq osq);clear l0 l1 l2 l3 l4 l5 l6 l7 l8 l9 cA0 cA1 cA2 cA3 p0 p1 a0 a1 a2 a3 a4 a5 a6 a7
        go_wp2_with fail
        go_ret
        exact⟨rfl,HB0.out.trans ((HB5.out.trans (HBZ.out.mono HB5.out.size)).mono HB0.out.size)⟩
      | some row=>
       obtain⟨S,sc,rfl,hrs,-⟩:=hpost;have HRS:=Hd hrs;clear hrs;have p0:=HP.out w4 hb4 0;have p1:=HP.out w4 hb4 1;obtain⟨a0,a1,a2,a3,a4,a5⟩:=Sx (HX.out w4 hb4);have a6:=HX.out w4 hb4 6;have a7:=HX.out w4 hb4 7;simp only [Ya,Yb,Yc] at p0 p1 a0 a1 a2 a3 a4 a5 a6 a7;clear hb4
       go_wp2_with fail
       refine(HRR.out HT.out w4 (HB0.out.trans (HB4.out.mono HB0.out.size))).mono ?_;rintro e w5 ⟨hb,R,rc,rfl,hrr⟩;have HRT:=Hd (HRS.out.below hb);have HRU:=Hd hrr;clear hrr;clear p0 p1 a0 a1 a2 a3 a4 a5 a6 a7;have hb5:=HB4.out.trans (hb.mono HB4.out.size);have HB5:=Hd hb5;clear hb;have p0:=HP.out w5 hb5 0;have p1:=HP.out w5 hb5 1;obtain⟨a0,a1,a2,a3,a4,a5⟩:=Sx (HX.out w5 hb5);have a6:=HX.out w5 hb5 6;have a7:=HX.out w5 hb5 7;simp only [Ya,Yb,Yc] at p0 p1 a0 a1 a2 a3 a4 a5 a6 a7;clear hb5;have HSA:=Hd fun W (hb:Below w5.heap.size w5 W)=>refSame17 S row.length sc row R row.length rc row W (HRT.out.below hb) (HRU.out.below hb);rw [sameC_refl] at HSA;have HFA:=Hd fun W (hb:Below w5.heap.size w5 W)=>HFP.out (by first | exact rfl | trivial) (by first | exact rfl | trivial) HN.out W (HB0.out.trans ((HB5.out.trans (hb.mono HB5.out.size)).mono HB0.out.size));have HFB:=Hd fun W (hb:Below w5.heap.size w5 W)=>HFR.out HT.out (by first | exact rfl | trivial) HN.out W (HB0.out.trans ((HB5.out.trans (hb.mono HB5.out.size)).mono HB0.out.size));have HLA:=Hd fun W (hb:Below w5.heap.size w5 W)=>HLV.out W;generalize row.length=m at *
       cases ft
       all_goals
        go_upto_region 5 with(fail)
        have l0:=fun d os=>cell_regrown p0 d os;have l1:=fun d os=>cell_regrown p1 d os;have l2:=fun d os=>cell_regrown a0 d os;have l3:=fun d os=>cell_regrown a1 d os;have l4:=fun d os=>cell_regrown a2 d os;have l5:=fun d os=>cell_regrown a3 d os;have l6:=fun d os=>cell_regrown a4 d os;have l7:=fun d os=>cell_regrown a5 d os;have l8:=fun d os=>cell_regrown a6 d os;have l9:=fun d os=>cell_regrown a7 d os;have HBQ:=Hd fun d os=>below_regrown w5 d os;have cA0:=fun d os=>Calls.regrown_of (HSA.out (grow (redrawn w5 d) os) (below_regrown w5 d os));have cA1:=fun d os=>Calls.regrown_of (HFA.out (grow (redrawn w5 d) os) (below_regrown w5 d os));have cA2:=fun d os=>Calls.regrown_of (HFB.out (grow (redrawn w5 d) os) (below_regrown w5 d os));have cA3:=fun d os=>Calls.regrown_of (HLA.out (grow (redrawn w5 d) os) (below_regrown w5 d os));refine wp_region_quiet_below (by kernel_rfl) (by kernel_rfl) ?_
        repeat (go_big_quiet_step (first | with_reducible exact cA0 _ _ | with_reducible exact cA1 _ _ | with_reducible exact cA2 _ _ | with_reducible exact cA3 _ _))
        refine wpQuiet_nil ?_;intro _ hw';obtain⟨⟨dq,osq⟩,hw''⟩:=hw';subst hw'';have HBZ:=Hd (HBQ.out dq osq);clear l0 l1 l2 l3 l4 l5 l6 l7 l8 l9 cA0 cA1 cA2 cA3 p0 p1 a0 a1 a2 a3 a4 a5 a6 a7
        go_wp2_with fail
        go_ret
        exact⟨rfl,HB0.out.trans ((HB5.out.trans (HBZ.out.mono HB5.out.size)).mono HB0.out.size)⟩
end
end Go.Proofs.Ytkbpdoomhfkngaa
