/- Parts of the proof: ClX. Conditions: each theorem's own. -/
import Derived.Test.YtkbpdoomhfkngaaO16
namespace Go.Proofs.Ytkbpdoomhfkngaa
set_option linter.unusedVariables false
set_option linter.unusedSimpArgs false
set_option maxRecDepth 100000
set_option maxHeartbeats 40000000
section
open Go.RowKit Go.Sort Go.BigFrame
theorem cl_box3{w w1:World}{cs ds fs:Array Value}{T U V:TypeId}(h:((w.alloc (.cells cs T)).alloc (.cells ds U)).alloc (.cells fs V)=w1):Below w.heap.size w w1∧(∀ w',Below w1.heap.size w1 w'→∀ j,w'.cell? ⟨w.heap.size,j,none⟩=cs[j]?)∧(∀ w',Below w1.heap.size w1 w'→∀ j,w'.cell? ⟨w.heap.size+1,j,none⟩=ds[j]?)∧(∀ w',Below w1.heap.size w1 w'→∀ j,w'.cell? ⟨w.heap.size+1+1,j,none⟩=fs[j]?):=by
 generalize hwa:(w.alloc (.cells cs T)).alloc (.cells ds U)=wa at h;obtain⟨b1,e1,k1,k2⟩:=cl_box2 hwa;obtain⟨b2,e2,k3⟩:=cl_box h;rw [e1] at k3;exact⟨b1.trans (b2.mono b1.size),fun w' hb j=>k1 w' (b2.trans (hb.mono b2.size)) j,fun w' hb j=>k2 w' (b2.trans (hb.mono b2.size)) j,k3⟩
def nmdB(x:Ex):Bool:=decide (0<(varsX x).length)
theorem clNamed(x:Ex) (A:Option Addr) (ca:Nat) (B:Option Addr) (cb:Nat) (w:World) (hx:rdX w x A B) (hs:sizeX x≤1000000):
 Calls Try.prog 14 #[.agg (exA x A ca B cb)] w fun e w'=>e=.returned (.bool (nmdB x))∧Below w.heap.size w w':=by
 have HF:=Hd fun w0 hw=>cl_box (w:=w) (w1:=w0) (cs:=exA x A ca B cb) (T:=29) hw;have HV:=Hd fun w1 (hb:Below w.heap.size w w1)=>refVars x A ca B cb w1 (hx.below hb) hs;have HO:=Hd (show nmdB x=decide (0<(varsX x).length) from rfl);clear hx;generalize (varsX x).length=m at *;generalize nmdB x=out at *;unfold exA at *
 go_enter Try.func14,Try.ntmps14
 go_upto_region 1 with(fail)
 generalize hw0:w.alloc _=w0;obtain⟨hb0,hsz,hq⟩:=HF.out w0 hw0;have HB0:=Hd hb0;obtain⟨q0,q1,q2,q3,q4,q5⟩:=Sx (hq w0 (Below.refl _ _));simp only [Ya,Yb,Yc] at q0 q1 q2 q3 q4 q5;have HV0:=Hd (HV.out w0 hb0);clear hw0 hb0 hsz hq HF HV
 go_wp2_with fail
 refine HV0.out.mono ?_;rintro e w1 ⟨⟨A2,c2,rfl,-⟩,hb1⟩;have HB1:=Hd (below_nextC HB0.out hb1);clear q0 q1 q2 q3 q4 q5 hb1 HV0
 go_wp2_with fail
 go_ret
 exact⟨ret_boolC HO.out.symm,HB1.out⟩
theorem walkOne(p:Pg) (E:Option Addr) (ec:Nat) (N:Option Addr) (nc:Nat) (x:Ex) (A:Option Addr) (ca:Nat) (B:Option Addr) (cb:Nat) (On:Option Addr) (n oc:Nat) (on:List Cd) (Om:Option Addr) (m mc:Nat) (om:List Cd) (w:World)
 (h:rdP w p E N) (hx:rdX w x A B) (ho:RdC w On n on) (hoc:n≤oc) (hm:RdC w Om m om) (hmc:m≤mc):
 Calls Try.prog 4 #[.agg (pgA p E ec N nc),.agg (exA x A ca B cb),.agg #[.slice On n oc,.slice Om m mc]] w fun e w'=>e=.returned (.bool true)∧Below w.heap.size w w':=by
 have HF:=Hd fun w0 hw=>cl_box3 (w:=w) (w1:=w0) (cs:=pgA p E ec N nc) (ds:=exA x A ca B cb) (fs:=#[.slice On n oc,.slice Om m mc]) (T:=25) (U:=29) (V:=41) hw;have HSM:=Hd fun w1 (hb:Below w.heap.size w w1)=>refPgSmall p E ec N nc w1 (h.below hb);have HTX:=Hd fun w1 (hb:Below w.heap.size w w1)=>refSmall x A ca B cb w1 (hx.below hb);have HNM:=Hd fun(ht:tinyX x=true) w1 (hb:Below w.heap.size w w1)=>clNamed x A ca B cb w1 (hx.below hb) (tiny_sizeX ht);have HCK:=Hd fun(ht:TinyP p) w1 (hb:Below w.heap.size w w1)=>refCheck p E ec N nc w1 (h.below hb) ht;have HRX:=Hd fun(ht:tinyX x=true) w1 (hb:Below w.heap.size w w1)=>refRight x A ca B cb w1 (hx.below hb) (tiny_sizeX ht) (tiny_shortX ht);have HFN:=Hd fun(h1:tinyX x=true) (h2:rightX x=true) (hn:n≤20) (i:Nat) (hi:i<p.ns.length) w1 (hb:Below w.heap.size w w1)=>clFitsIn p E ec N nc i x A ca B cb On n oc on w1 (h.below hb) (hx.below hb) (ho.below hb) hoc (fby_two h2) hi (tiny_sizeX h1) (by omega);have HFM:=Hd fun(h1:tinyX x=true) (h2:rightX x=true) (hn:m≤20) (i:Nat) (hi:i<p.ns.length) w1 (hb:Below w.heap.size w w1)=>clFitsIn p E ec N nc i x A ca B cb Om m mc om w1 (h.below hb) (hx.below hb) (hm.below hb) hmc (fby_two h2) hi (tiny_sizeX h1) (by omega);have HSA:=Hd fun w1 (hb:Below w.heap.size w w1)=>refSame17 On n oc on Om m mc om w1 (ho.below hb) (hm.below hb);have HONE:=Hd fun(h2:rightX x=true) (h3:nmdB x=true) (i:Nat)=>fun a b=>(sameC_eq (a:=on) (b:=om)).2 (fit_one (es:=p.es) (n:=ndAt p i) x (fun z hz=>right_part h2 hz) (varsX_named.1 (by simpa [nmdB] using h3)) on om a b);have HLV:=Hd clLive;have hox:=RdS.max ho;have hmx:=RdS.max hm;have hpx:=RdS.max h.2;clear h hx ho hoc hm hmc;generalize sameC on om=sm at *;generalize checkN p=ck at *;generalize tinyX x=tx at *;generalize rightX x=rx at *;generalize nmdB x=nx at *;unfold pgA exA at *;generalize p.ns.length=pn at *;generalize hpe:p.es=es at *;generalize es.length=pe at *;generalize x.arms.length=al at *;generalize x.subs.length=sl at *
 go_enter Try.func4,Try.ntmps4
 go_upto_region 1 with(fail)
 generalize hw0:((w.alloc _).alloc _).alloc _=w0;obtain⟨hb0,hp,hq,hl⟩:=HF.out w0 hw0;have HB0:=Hd hb0;have HP:=Hd hp;have HX:=Hd hq;have HL:=Hd hl;clear hw0 hb0 hp hq hl HF;have p0:=HP.out w0 (Below.refl _ _) 0;have p1:=HP.out w0 (Below.refl _ _) 1;obtain⟨q0,q1,q2,q3,q4,q5⟩:=Sx (HX.out w0 (Below.refl _ _));have l0:=HL.out w0 (Below.refl _ _) 0;have l1:=HL.out w0 (Below.refl _ _) 1;simp only [Ya,Yb,Yc] at p0 p1 q0 q1 q2 q3 q4 q5 l0 l1
 go_wp2_with fail
 refine(HSM.out w0 HB0.out).mono ?_;rintro e w1 ⟨b,rfl,ht,hb1⟩;clear p0 p1 q0 q1 q2 q3 q4 q5 l0 l1;have HB1:=Hd hb1
 cases b with
 | false=>
  clear hb1 ht
  go_wp2_with fail
  refine(HLV.out w1).mono ?_;rintro e wl ⟨rfl,hbl⟩;have HBL:=Hd (HB1.out.trans (hbl.mono HB1.out.size));clear hbl
  go_wp2_with fail
  go_ret
  exact⟨rfl,HB0.out.trans (HBL.out.mono HB0.out.size)⟩
 | true=>
  have HT:=Hd (ht rfl);have p0:=HP.out w1 hb1 0;have p1:=HP.out w1 hb1 1;obtain⟨q0,q1,q2,q3,q4,q5⟩:=Sx (HX.out w1 hb1);have l0:=HL.out w1 hb1 0;have l1:=HL.out w1 hb1 1;simp only [Ya,Yb,Yc] at p0 p1 q0 q1 q2 q3 q4 q5 l0 l1;clear ht hb1
  go_wp2_with fail
  refine(HTX.out w1 (HB0.out.trans (HB1.out.mono HB0.out.size))).mono ?_;rintro e w2 ⟨rfl,hb⟩;clear p0 p1 q0 q1 q2 q3 q4 q5 l0 l1;have hb2:=HB1.out.trans (hb.mono HB1.out.size);have HB2:=Hd hb2;clear hb
  cases tx with
  | false=>
   clear hb2
   go_wp2_with fail
   refine(HLV.out w2).mono ?_;rintro e wl ⟨rfl,hbl⟩;have HBL:=Hd (HB2.out.trans (hbl.mono HB2.out.size));clear hbl
   go_wp2_with fail
   go_ret
   exact⟨rfl,HB0.out.trans (HBL.out.mono HB0.out.size)⟩
  | true=>
   have p0:=HP.out w2 hb2 0;have p1:=HP.out w2 hb2 1;obtain⟨q0,q1,q2,q3,q4,q5⟩:=Sx (HX.out w2 hb2);have l0:=HL.out w2 hb2 0;have l1:=HL.out w2 hb2 1;simp only [Ya,Yb,Yc] at p0 p1 q0 q1 q2 q3 q4 q5 l0 l1;clear hb2
   go_wp2_with fail
   refine(HNM.out (by first | exact rfl | trivial) w2 (HB0.out.trans (HB2.out.mono HB0.out.size))).mono ?_;rintro e w3 ⟨rfl,hb⟩;clear p0 p1 q0 q1 q2 q3 q4 q5 l0 l1;have hb3:=HB2.out.trans (hb.mono HB2.out.size);have HB3:=Hd hb3;clear hb
   cases nx with
   | false=>
    clear hb3
    go_wp2_with fail
    refine(HLV.out w3).mono ?_;rintro e wl ⟨rfl,hbl⟩;have HBL:=Hd (HB3.out.trans (hbl.mono HB3.out.size));clear hbl
    go_wp2_with fail
    go_ret
    exact⟨rfl,HB0.out.trans (HBL.out.mono HB0.out.size)⟩
   | true=>
    cases h20:decide ((20:Int)<(n:Int)) with
    | true=>
     have p0:=HP.out w3 hb3 0;have p1:=HP.out w3 hb3 1;obtain⟨q0,q1,q2,q3,q4,q5⟩:=Sx (HX.out w3 hb3);have l0:=HL.out w3 hb3 0;have l1:=HL.out w3 hb3 1;simp only [Ya,Yb,Yc] at p0 p1 q0 q1 q2 q3 q4 q5 l0 l1;clear hb3
     go_wp2_with fail
     refine(HLV.out w3).mono ?_;rintro e wl ⟨rfl,hbl⟩;have HBL:=Hd (HB3.out.trans (hbl.mono HB3.out.size));clear hbl
     go_wp2_with fail
     go_ret
     exact⟨rfl,HB0.out.trans (HBL.out.mono HB0.out.size)⟩
    | false=>
     cases h21:decide ((20:Int)<(m:Int)) with
     | true=>
      have p0:=HP.out w3 hb3 0;have p1:=HP.out w3 hb3 1;obtain⟨q0,q1,q2,q3,q4,q5⟩:=Sx (HX.out w3 hb3);have l0:=HL.out w3 hb3 0;have l1:=HL.out w3 hb3 1;simp only [Ya,Yb,Yc] at p0 p1 q0 q1 q2 q3 q4 q5 l0 l1;clear hb3
      go_wp2_with fail
      refine(HLV.out w3).mono ?_;rintro e wl ⟨rfl,hbl⟩;have HBL:=Hd (HB3.out.trans (hbl.mono HB3.out.size));clear hbl
      go_wp2_with fail
      go_ret
      exact⟨rfl,HB0.out.trans (HBL.out.mono HB0.out.size)⟩
     | false=>
      have HN:=Hd (show n≤20 by have:=of_decide_eq_false h20;omega);have HM:=Hd (show m≤20 by have:=of_decide_eq_false h21;omega);have p0:=HP.out w3 hb3 0;have p1:=HP.out w3 hb3 1;obtain⟨q0,q1,q2,q3,q4,q5⟩:=Sx (HX.out w3 hb3);have l0:=HL.out w3 hb3 0;have l1:=HL.out w3 hb3 1;simp only [Ya,Yb,Yc] at p0 p1 q0 q1 q2 q3 q4 q5 l0 l1;clear hb3
      go_wp2_with fail
      refine(HCK.out HT.out w3 (HB0.out.trans (HB3.out.mono HB0.out.size))).mono ?_;rintro e w4 ⟨rfl,hb⟩;clear p0 p1 q0 q1 q2 q3 q4 q5 l0 l1;have hb4:=HB3.out.trans (hb.mono HB3.out.size);have HB4:=Hd hb4;clear hb
      by_cases hck:ck=0
      · subst hck;have p0:=HP.out w4 hb4 0;have p1:=HP.out w4 hb4 1;obtain⟨q0,q1,q2,q3,q4,q5⟩:=Sx (HX.out w4 hb4);have l0:=HL.out w4 hb4 0;have l1:=HL.out w4 hb4 1;simp only [Ya,Yb,Yc] at p0 p1 q0 q1 q2 q3 q4 q5 l0 l1;clear hb4
        go_wp2_with fail
        refine(HRX.out (by first | exact rfl | trivial) w4 (HB0.out.trans (HB4.out.mono HB0.out.size))).mono ?_;rintro e w5 ⟨rfl,hb⟩;clear p0 p1 q0 q1 q2 q3 q4 q5 l0 l1;have hb5:=HB4.out.trans (hb.mono HB4.out.size);have HB5:=Hd hb5;clear hb
        cases rx with
        | false=>
         clear hb5
         go_wp2_with fail
         refine(HLV.out w5).mono ?_;rintro e wl ⟨rfl,hbl⟩;have HBL:=Hd (HB5.out.trans (hbl.mono HB5.out.size));clear hbl
         go_wp2_with fail
         go_ret
         exact⟨rfl,HB0.out.trans (HBL.out.mono HB0.out.size)⟩
        | true=>
         have HOK:=Hd (HONE.out (by first | exact rfl | trivial) (by first | exact rfl | trivial));clear hb5
         go_wp2_with fail
         go_loopw [7] (fun c wr=>∃ k:Nat,k≤pn∧c=.int .i64 k∧Below w5.heap.size w5 wr) (fun c _=>pn-(intOf c).toNat)
         case atStart=>exact⟨0,Nat.zero_le _,rfl,Below.refl _ _⟩
         case round=>
          obtain⟨k,hk,rfl,hbr⟩:=hrel;have hb6:=HB5.out.trans (hbr.mono HB5.out.size);have HB6:=Hd hb6;have HBR:=Hd hbr;have p0:=HP.out wr hb6 0;have p1:=HP.out wr hb6 1;obtain⟨q0,q1,q2,q3,q4,q5⟩:=Sx (HX.out wr hb6);have l0:=HL.out wr hb6 0;have l1:=HL.out wr hb6 1;simp only [Ya,Yb,Yc] at p0 p1 q0 q1 q2 q3 q4 q5 l0 l1;clear hbr hb6
          by_cases hlt:k<pn
          · have HF1:=Hd fun W (hb:Below wr.heap.size wr W)=>HFN.out (by first | exact rfl | trivial) (by first | exact rfl | trivial) HN.out k hlt W (HB0.out.trans ((HB6.out.trans (hb.mono HB6.out.size)).mono HB0.out.size));have HF2:=Hd fun W (hb:Below wr.heap.size wr W)=>HFM.out (by first | exact rfl | trivial) (by first | exact rfl | trivial) HM.out k hlt W (HB0.out.trans ((HB6.out.trans (hb.mono HB6.out.size)).mono HB0.out.size));have HS3:=Hd fun W (hb:Below wr.heap.size wr W)=>HSA.out W (HB0.out.trans ((HB6.out.trans (hb.mono HB6.out.size)).mono HB0.out.size));have HOK2:=Hd (HOK.out k);generalize fitX es (ndAt p k) x on=f1 at *;generalize fitX es (ndAt p k) x om=f2 at *
            go_wp2_with fail
            refine(HF1.out wr (Below.refl _ _)).mono ?_;rintro e w7 ⟨rfl,hb7⟩;have HB7:=Hd hb7;clear p0 p1 q0 q1 q2 q3 q4 q5 l0 l1;have p0:=HP.out w7 (HB6.out.trans (hb7.mono HB6.out.size)) 0;have p1:=HP.out w7 (HB6.out.trans (hb7.mono HB6.out.size)) 1;obtain⟨q0,q1,q2,q3,q4,q5⟩:=Sx (HX.out w7 (HB6.out.trans (hb7.mono HB6.out.size)));have l0:=HL.out w7 (HB6.out.trans (hb7.mono HB6.out.size)) 0;have l1:=HL.out w7 (HB6.out.trans (hb7.mono HB6.out.size)) 1;simp only [Ya,Yb,Yc] at p0 p1 q0 q1 q2 q3 q4 q5 l0 l1;clear hb7
            cases f1 with
            | false=>
             go_wp2_with fail
             go_roundw
             case rel=>exact⟨k+1,by omega,by go_num,HBR.out.trans (HB7.out.mono HBR.out.size)⟩
             case measure=>simp [intOf];omega
            | true=>
             go_wp2_with fail
             refine(HF2.out w7 HB7.out).mono ?_;rintro e w8 ⟨rfl,hb8⟩;have HB8:=Hd (HB7.out.trans (hb8.mono HB7.out.size));clear p0 p1 q0 q1 q2 q3 q4 q5 l0 l1;have p0:=HP.out w8 (HB6.out.trans (HB8.out.mono HB6.out.size)) 0;have p1:=HP.out w8 (HB6.out.trans (HB8.out.mono HB6.out.size)) 1;obtain⟨q0,q1,q2,q3,q4,q5⟩:=Sx (HX.out w8 (HB6.out.trans (HB8.out.mono HB6.out.size)));have l0:=HL.out w8 (HB6.out.trans (HB8.out.mono HB6.out.size)) 0;have l1:=HL.out w8 (HB6.out.trans (HB8.out.mono HB6.out.size)) 1;simp only [Ya,Yb,Yc] at p0 p1 q0 q1 q2 q3 q4 q5 l0 l1;clear hb8
             cases f2 with
             | false=>
              go_wp2_with fail
              go_roundw
              case rel=>exact⟨k+1,by omega,by go_num,HBR.out.trans (HB8.out.mono HBR.out.size)⟩
              case measure=>simp [intOf];omega
             | true=>
              have HS4:=Hd (HS3.out w8 HB8.out);rw [HOK2.out (by first | exact rfl | trivial) (by first | exact rfl | trivial)] at HS4
              go_wp2_with fail
              refine HS4.out.mono ?_;rintro e w9 ⟨rfl,hb9⟩;have HB9:=Hd (HB8.out.trans (hb9.mono HB8.out.size));clear hb9 p0 p1 q0 q1 q2 q3 q4 q5 l0 l1
              go_wp2_with fail
              go_roundw
              case rel=>exact⟨k+1,by omega,by go_num,HBR.out.trans (HB9.out.mono HBR.out.size)⟩
              case measure=>simp [intOf];omega
          · obtain rfl:k=pn:=by omega
            go_wp2_with fail
            refine(HLV.out wr).mono ?_;rintro e wl ⟨rfl,hbl⟩;have HBL:=Hd (HB6.out.trans (hbl.mono HB6.out.size));clear hbl
            go_wp2_with fail
            go_ret
            exact⟨rfl,HB0.out.trans (HBL.out.mono HB0.out.size)⟩
      · have hc0:(ck != 0)=true:=by rw [bne_iff_ne];exact hck
        clear hb4
        go_wp2_with fail
        refine(HLV.out w4).mono ?_;rintro e wl ⟨rfl,hbl⟩;have HBL:=Hd (HB4.out.trans (hbl.mono HB4.out.size));clear hbl
        go_wp2_with fail
        go_ret
        exact⟨rfl,HB0.out.trans (HBL.out.mono HB0.out.size)⟩
end
end Go.Proofs.Ytkbpdoomhfkngaa
