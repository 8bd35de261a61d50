/- Parts of the proof: ClG, ClH. Conditions: each theorem's own. -/
import Derived.Test.YtkbpdoomhfkngaaF13
namespace Go.Proofs.Ytkbpdoomhfkngaa
set_option linter.unusedVariables false
set_option linter.unusedSimpArgs false
set_option maxRecDepth 100000
set_option maxHeartbeats 40000000
section
open Go.RowKit Go.Sort Go.BigFrame
theorem refFitsC(p:Pg) (E:Option Addr) (ec:Nat) (N:Option Addr) (nc:Nat) (i:Nat) (x:Ex) (A:Option Addr) (ca:Nat) (B:Option Addr) (cb:Nat) (On:Option Addr) (n oc:Nat) (on:List Cd) (w:World) (h:rdP w p E N) (hx:rdX w x A B) (ho:RdC w On n on) (hi:i<p.ns.length) (hk:x.k=1∨x.k=2∨x.k=4):
 Calls Try.prog 13 #[.agg (pgA p E ec N nc),.int .i64 i,.agg (exA x A ca B cb),.slice On n oc] w fun e w'=>e=.returned (.bool (true))∧Below w.heap.size w w':=by
 have HF:=Hd fun w0 hw=>cl_box2 (w:=w) (w1:=w0) (cs:=pgA p E ec N nc) (ds:=exA x A ca B cb) (T:=25) (U:=29) hw;have hmx:=RdS.max h.2;have hox:=RdS.max ho;have hd:decide ((i:Int)<0)=false:=decide_eq_false (by omega);have hd2:decide ((p.ns.length:Int)≤(i:Int))=false:=decide_eq_false (by omega);clear h hx ho;unfold pgA exA at *;generalize p.ns.length=pn at *;generalize p.es.length=pe at *;generalize x.arms.length=al at *;generalize hsl:x.subs.length=sl at *
 go_enter Try.func13,Try.ntmps13
 go_upto_region 1 with(fail)
 generalize hw0:(w.alloc _).alloc _=w0;obtain⟨hb0,hsz,hp,hq⟩:=HF.out w0 hw0;have HB0:=Hd hb0;have HP:=Hd hp;have HX:=Hd hq;have p0:=hp w0 (Below.refl _ _) 0;have p1:=hp w0 (Below.refl _ _) 1;obtain⟨q0,q1,q2,q3,q4,q5⟩:=Sx (hq w0 (Below.refl _ _));simp only [Ya,Yb,Yc] at p0 p1 q0 q1 q2 q3 q4 q5;clear hw0 hb0 hsz hp hq HF;rcases hk with hk | hk | hk
 all_goals
  rw [hk] at q0
  go_wp2_with fail
  go_ret
  exact⟨rfl,HB0.out⟩
theorem refFitsO(p:Pg) (E:Option Addr) (ec:Nat) (N:Option Addr) (nc:Nat) (i:Nat) (x:Ex) (A:Option Addr) (ca:Nat) (B:Option Addr) (cb:Nat) (On:Option Addr) (n oc:Nat) (on:List Cd) (w:World) (h:rdP w p E N) (hx:rdX w x A B) (ho:RdC w On n on) (hi:i<p.ns.length) (hk:x.k=17):
 Calls Try.prog 13 #[.agg (pgA p E ec N nc),.int .i64 i,.agg (exA x A ca B cb),.slice On n oc] w fun e w'=>e=.returned (.bool (false))∧Below w.heap.size w w':=by
 have HF:=Hd fun w0 hw=>cl_box2 (w:=w) (w1:=w0) (cs:=pgA p E ec N nc) (ds:=exA x A ca B cb) (T:=25) (U:=29) hw;have hmx:=RdS.max h.2;have hox:=RdS.max ho;have hd:decide ((i:Int)<0)=false:=decide_eq_false (by omega);have hd2:decide ((p.ns.length:Int)≤(i:Int))=false:=decide_eq_false (by omega);clear h hx ho;unfold exA at HF ⊢;rw [hk] at HF ⊢;unfold pgA at *;generalize p.ns.length=pn at *;generalize p.es.length=pe at *;generalize x.arms.length=al at *;generalize hsl:x.subs.length=sl at *
 go_enter Try.func13,Try.ntmps13
 go_upto_region 1 with(fail)
 generalize hw0:(w.alloc _).alloc _=w0;obtain⟨hb0,hsz,hp,hq⟩:=HF.out w0 hw0;have HB0:=Hd hb0;have HP:=Hd hp;have HX:=Hd hq;have p0:=hp w0 (Below.refl _ _) 0;have p1:=hp w0 (Below.refl _ _) 1;obtain⟨q0,q1,q2,q3,q4,q5⟩:=Sx (hq w0 (Below.refl _ _));simp only [Ya,Yb,Yc] at p0 p1 q0 q1 q2 q3 q4 q5;clear hw0 hb0 hsz hp hq HF
 go_wp2_with fail
 go_ret
 exact⟨rfl,HB0.out⟩
theorem refFitsV(p:Pg) (E:Option Addr) (ec:Nat) (N:Option Addr) (nc:Nat) (i:Nat) (x:Ex) (A:Option Addr) (ca:Nat) (B:Option Addr) (cb:Nat) (On:Option Addr) (n oc:Nat) (on:List Cd) (w:World) (h:rdP w p E N) (hx:rdX w x A B) (ho:RdC w On n on) (hi:i<p.ns.length) (hk:x.k=3) (hn:(ndAt p i).all.length≤1000):
 Calls Try.prog 13 #[.agg (pgA p E ec N nc),.int .i64 i,.agg (exA x A ca B cb),.slice On n oc] w fun e w'=>e=.returned (.bool (hasC p.es (ndAt p i) x.s on))∧Below w.heap.size w w':=by
 have HF:=Hd fun w0 hw=>cl_box2 (w:=w) (w1:=w0) (cs:=pgA p E ec N nc) (ds:=exA x A ca B cb) (T:=25) (U:=29) hw;have hmx:=RdS.max h.2;have hox:=RdS.max ho;have hd:decide ((i:Int)<0)=false:=decide_eq_false (by omega);have hd2:decide ((p.ns.length:Int)≤(i:Int))=false:=decide_eq_false (by omega);have HRW:=Hd fun w1 (hb:Below w.heap.size w w1)=>refRowIn p E ec N nc i x.s w1 (h.below hb) hi hn;have HON:=Hd ho;have HC:=Hd (show hasC p.es (ndAt p i) x.s on=(match rowC p.es (ndAt p i) x.s with | none=>false | some r=>sameC r on) from rfl);clear h hx ho hn;unfold RowPost at HRW;generalize hasC p.es (ndAt p i) x.s on=out at *;generalize rowC p.es (ndAt p i) x.s=orow at *;unfold exA at HF ⊢;rw [hk] at HF ⊢;unfold pgA at *;generalize p.ns.length=pn at *;generalize p.es.length=pe at *;generalize x.arms.length=al at *;generalize hsl:x.subs.length=sl at *
 go_enter Try.func13,Try.ntmps13
 go_upto_region 1 with(fail)
 generalize hw0:(w.alloc _).alloc _=w0;obtain⟨hb0,hsz,hp,hq⟩:=HF.out w0 hw0;have HB0:=Hd hb0;have HP:=Hd hp;have HX:=Hd hq;have p0:=hp w0 (Below.refl _ _) 0;have p1:=hp w0 (Below.refl _ _) 1;obtain⟨q0,q1,q2,q3,q4,q5⟩:=Sx (hq w0 (Below.refl _ _));simp only [Ya,Yb,Yc] at p0 p1 q0 q1 q2 q3 q4 q5;clear hw0 hb0 hsz hp hq HF;have HR0:=Hd (HRW.out w0 HB0.out);clear HRW
 go_wp2_with fail
 refine HR0.out.mono ?_;rintro e w1 ⟨hb1,hpost⟩;have HB1:=Hd (below_nextC HB0.out hb1);clear HR0 p0 p1 q0 q1 q2 q3 q4 q5 hb1 HP HX
 cases hor:orow with
 | none=>
  rw [hor] at hpost HC;subst hpost;have HO:=Hd (show out=false from HC.out)
  go_wp2_with fail
  go_ret
  exact⟨ret_boolC HO.out.symm,HB1.out⟩
 | some row=>
  rw [hor] at hpost HC;obtain⟨R,rc,rfl,hrr⟩:=hpost;have HSM:=Hd (refSame17 R row.length rc row On n oc on w1 hrr (HON.out.below HB1.out));have HO:=Hd (show out=sameC row on from HC.out);clear HC hrr hor;generalize sameC row on=sm at *;generalize row.length=m at *
  go_wp2_with fail
  refine HSM.out.mono ?_;rintro e w2 ⟨rfl,hb2⟩;have HB2:=Hd (below_nextC HB1.out hb2);clear hb2 HSM
  go_wp2_with fail
  go_ret
  exact⟨ret_boolC HO.out.symm,HB2.out⟩
theorem refFitsW(p:Pg) (E:Option Addr) (ec:Nat) (N:Option Addr) (nc:Nat) (i:Nat) (x:Ex) (A:Option Addr) (ca:Nat) (B:Option Addr) (cb:Nat) (On:Option Addr) (n oc:Nat) (on:List Cd) (w:World) (h:rdP w p E N) (hx:rdX w x A B) (ho:RdC w On n on) (hi:i<p.ns.length) (hk:x.k=11) (out:Bool)
 (hc:∀ w1,Below w.heap.size w w1→Calls Try.prog 28 #[.agg (pgA p E ec N nc),.int .i64 i,.agg (exA x A ca B cb),.slice On n oc] w1 fun e w'=>e=.returned (.bool out)∧Below w1.heap.size w1 w'):
 Calls Try.prog 13 #[.agg (pgA p E ec N nc),.int .i64 i,.agg (exA x A ca B cb),.slice On n oc] w fun e w'=>e=.returned (.bool (out))∧Below w.heap.size w w':=by
 have HF:=Hd fun w0 hw=>cl_box2 (w:=w) (w1:=w0) (cs:=pgA p E ec N nc) (ds:=exA x A ca B cb) (T:=25) (U:=29) hw;have hmx:=RdS.max h.2;have hox:=RdS.max ho;have hd:decide ((i:Int)<0)=false:=decide_eq_false (by omega);have hd2:decide ((p.ns.length:Int)≤(i:Int))=false:=decide_eq_false (by omega);have HC:=Hd hc;clear hc h hx ho;unfold exA at HC HF ⊢;rw [hk] at HC HF ⊢;unfold pgA at *;generalize p.ns.length=pn at *;generalize p.es.length=pe at *;generalize x.arms.length=al at *;generalize hsl:x.subs.length=sl at *
 go_enter Try.func13,Try.ntmps13
 go_upto_region 1 with(fail)
 generalize hw0:(w.alloc _).alloc _=w0;obtain⟨hb0,hsz,hp,hq⟩:=HF.out w0 hw0;have HB0:=Hd hb0;have HP:=Hd hp;have HX:=Hd hq;have p0:=hp w0 (Below.refl _ _) 0;have p1:=hp w0 (Below.refl _ _) 1;obtain⟨q0,q1,q2,q3,q4,q5⟩:=Sx (hq w0 (Below.refl _ _));simp only [Ya,Yb,Yc] at p0 p1 q0 q1 q2 q3 q4 q5;clear hw0 hb0 hsz hp hq HF;have HC0:=Hd (HC.out w0 HB0.out);clear HC
 go_wp2_with fail
 refine HC0.out.mono ?_;rintro e w1 ⟨rfl,hb1⟩;have HB1:=Hd (below_nextC HB0.out hb1);clear hb1 HC0
 go_wp2_with fail
 go_ret
 exact⟨rfl,HB1.out⟩
theorem refFitsM(p:Pg) (E:Option Addr) (ec:Nat) (N:Option Addr) (nc:Nat) (i:Nat) (x:Ex) (A:Option Addr) (ca:Nat) (B:Option Addr) (cb:Nat) (On:Option Addr) (n oc:Nat) (on:List Cd) (w:World) (h:rdP w p E N) (hx:rdX w x A B) (ho:RdC w On n on) (hi:i<p.ns.length) (hk:x.k=12) (out:Bool)
 (hc:∀ w1,Below w.heap.size w w1→Calls Try.prog 29 #[.agg (pgA p E ec N nc),.int .i64 i,.agg (exA x A ca B cb),.slice On n oc] w1 fun e w'=>e=.returned (.bool out)∧Below w1.heap.size w1 w'):
 Calls Try.prog 13 #[.agg (pgA p E ec N nc),.int .i64 i,.agg (exA x A ca B cb),.slice On n oc] w fun e w'=>e=.returned (.bool (out))∧Below w.heap.size w w':=by
 have HF:=Hd fun w0 hw=>cl_box2 (w:=w) (w1:=w0) (cs:=pgA p E ec N nc) (ds:=exA x A ca B cb) (T:=25) (U:=29) hw;have hmx:=RdS.max h.2;have hox:=RdS.max ho;have hd:decide ((i:Int)<0)=false:=decide_eq_false (by omega);have hd2:decide ((p.ns.length:Int)≤(i:Int))=false:=decide_eq_false (by omega);have HC:=Hd hc;clear hc h hx ho;unfold exA at HC HF ⊢;rw [hk] at HC HF ⊢;unfold pgA at *;generalize p.ns.length=pn at *;generalize p.es.length=pe at *;generalize x.arms.length=al at *;generalize hsl:x.subs.length=sl at *
 go_enter Try.func13,Try.ntmps13
 go_upto_region 1 with(fail)
 generalize hw0:(w.alloc _).alloc _=w0;obtain⟨hb0,hsz,hp,hq⟩:=HF.out w0 hw0;have HB0:=Hd hb0;have HP:=Hd hp;have HX:=Hd hq;have p0:=hp w0 (Below.refl _ _) 0;have p1:=hp w0 (Below.refl _ _) 1;obtain⟨q0,q1,q2,q3,q4,q5⟩:=Sx (hq w0 (Below.refl _ _));simp only [Ya,Yb,Yc] at p0 p1 q0 q1 q2 q3 q4 q5;clear hw0 hb0 hsz hp hq HF;have HC0:=Hd (HC.out w0 HB0.out);clear HC
 go_wp2_with fail
 refine HC0.out.mono ?_;rintro e w1 ⟨rfl,hb1⟩;have HB1:=Hd (below_nextC HB0.out hb1);clear hb1 HC0
 go_wp2_with fail
 go_ret
 exact⟨rfl,HB1.out⟩
theorem refFitsF(p:Pg) (E:Option Addr) (ec:Nat) (N:Option Addr) (nc:Nat) (i:Nat) (x:Ex) (A:Option Addr) (ca:Nat) (B:Option Addr) (cb:Nat) (On:Option Addr) (n oc:Nat) (on:List Cd) (w:World) (h:rdP w p E N) (hx:rdX w x A B) (ho:RdC w On n on) (hi:i<p.ns.length) (hk:x.k=8) (fs:List Ft)
 (hsub:∀ k,k<x.subs.length→∀ A' ca' B' cb' w1,Below w.heap.size w w1→rdX w1 (subX x k) A' B' →
  Calls Try.prog 13 #[.agg (pgA p E ec N nc),.int .i64 i,.agg (exA (subX x k) A' ca' B' cb'),.slice On n oc] w1 fun e w'=>e=.returned (.bool (fitAt fs k on))∧Below w1.heap.size w1 w'):
 Calls Try.prog 13 #[.agg (pgA p E ec N nc),.int .i64 i,.agg (exA x A ca B cb),.slice On n oc] w fun e w'=>e=.returned (.bool (decide (x.subs.length=2) && fitAt fs 1 on))∧Below w.heap.size w w':=by
 have HF:=Hd fun w0 hw=>cl_box2 (w:=w) (w1:=w0) (cs:=pgA p E ec N nc) (ds:=exA x A ca B cb) (T:=25) (U:=29) hw;have hmx:=RdS.max h.2;have hox:=RdS.max ho;have hd:decide ((i:Int)<0)=false:=decide_eq_false (by omega);have hd2:decide ((p.ns.length:Int)≤(i:Int))=false:=decide_eq_false (by omega);have HSB:=Hd fun k (hkk:k<x.subs.length)=>hx.sub hkk;have HSUB:=Hd hsub;have hsx:=hx.subs.2.1;clear hsub h hx ho;generalize hout:(decide (x.subs.length=2) && fitAt fs 1 on)=out at *;have HOUT:=Hd hout.symm;clear hout;unfold exA at HF HSUB ⊢;rw [hk] at HF ⊢;unfold pgA at *;generalize p.ns.length=pn at *;generalize p.es.length=pe at *;generalize x.arms.length=al at *;generalize hsl:x.subs.length=sl at *
 go_enter Try.func13,Try.ntmps13
 go_upto_region 1 with(fail)
 generalize hw0:(w.alloc _).alloc _=w0;obtain⟨hb0,hsz,hp,hq⟩:=HF.out w0 hw0;have HB0:=Hd hb0;have HP:=Hd hp;have HX:=Hd hq;have p0:=hp w0 (Below.refl _ _) 0;have p1:=hp w0 (Below.refl _ _) 1;obtain⟨q0,q1,q2,q3,q4,q5⟩:=Sx (hq w0 (Below.refl _ _));simp only [Ya,Yb,Yc] at p0 p1 q0 q1 q2 q3 q4 q5;clear hw0 hb0 hsz hp hq HF
 by_cases h2:sl=2
 · obtain⟨sb,so,rfl,hsb,hsc⟩:=HSB.out 1 (by omega);obtain⟨A',ca',B',cb',hrg,hrd⟩:=hsc 1 (by omega);obtain⟨s0,s1,s2,s3,s4,s5⟩:=rangeAt_six (rangeAt_keep hrg hsb fun p hp=>HB0.out.cell hp);simp only [Nat.one_mul] at s0 s1 s2 s3 s4 s5;have HCS:=Hd fun W (hb:Below w0.heap.size w0 W)=>HSUB.out 1 (by omega) A' ca' B' cb' W (below_nextC HB0.out hb) (hrd.below (below_nextC HB0.out hb));have HO:=Hd (show out=fitAt fs 1 on by rw [HOUT.out,decide_eq_true h2,Bool.true_and]);clear HOUT;have h1i:(1:Int)<(sl:Int):=by omega
   have h1e:((sl:Int)==2)=true:=by rw [h2];rfl
   clear hsc hrg hrd;generalize fitAt fs 1 on=ft at *;generalize subX x 1=y at *
   go_upto_region 12 with(fail)
   have l0:=fun d os=>cell_regrown p0 d os;have l1:=fun d os=>cell_regrown p1 d os;have l2:=fun d os=>cell_regrown q0 d os;have l3:=fun d os=>cell_regrown q1 d os;have l4:=fun d os=>cell_regrown q2 d os;have l5:=fun d os=>cell_regrown q3 d os;have l6:=fun d os=>cell_regrown q4 d os;have l7:=fun d os=>cell_regrown q5 d os;have l8:=fun d os=>cell_regrown s0 d os;have l9:=fun d os=>cell_regrown s1 d os;have l10:=fun d os=>cell_regrown s2 d os;have l11:=fun d os=>cell_regrown s3 d os;have l12:=fun d os=>cell_regrown s4 d os;have l13:=fun d os=>cell_regrown s5 d os;have HBQ:=Hd fun d os=>below_regrown w0 d os;have cA0:=fun d os=>Calls.regrown_of (HCS.out (grow (redrawn w0 d) os) (below_regrown w0 d os));refine wp_region_quiet_below (by kernel_rfl) (by kernel_rfl) ?_
   repeat (go_big_quiet_step (first | with_reducible exact cA0 _ _))
   refine wpQuiet_nil ?_;intro _ hw';obtain⟨⟨dq,osq⟩,hw''⟩:=hw';subst hw'';have HB1:=Hd (HBQ.out dq osq);clear l0 l1 l2 l3 l4 l5 l6 l7 l8 l9 l10 l11 l12 l13 cA0 p0 p1 q0 q1 q2 q3 q4 q5 s0 s1 s2 s3 s4 s5
   go_wp2_with fail
   go_ret
   exact⟨ret_boolC HO.out.symm,below_nextC HB0.out HB1.out⟩
 · have h1e:((sl:Int)==2)=false:=by rw [beq_eq_false_iff_ne];omega
   have HO:=Hd (show out=false by rw [HOUT.out,decide_eq_false h2,Bool.false_and])
   go_upto_region 12 with(fail)
   go_quiet (fail)
   go_wp2_with fail
   go_ret
   exact⟨ret_boolC HO.out.symm,below_drewN HB0.out _⟩
theorem refFitsA(p:Pg) (E:Option Addr) (ec:Nat) (N:Option Addr) (nc:Nat) (i:Nat) (x:Ex) (A:Option Addr) (ca:Nat) (B:Option Addr) (cb:Nat) (On:Option Addr) (n oc:Nat) (on:List Cd) (w:World) (h:rdP w p E N) (hx:rdX w x A B) (ho:RdC w On n on) (hi:i<p.ns.length) (k1:(x.k==1)=false) (k2:(x.k==2)=false) (k4:(x.k==4)=false) (k3:(x.k==3)=false) (k8:(x.k==8)=false) (k11:(x.k==11)=false) (k12:(x.k==12)=false) (k17:(x.k==17)=false) (fs:List Ft)
 (hsub:∀ k,k<x.subs.length→∀ A' ca' B' cb' w1,Below w.heap.size w w1→rdX w1 (subX x k) A' B' →
  Calls Try.prog 13 #[.agg (pgA p E ec N nc),.int .i64 i,.agg (exA (subX x k) A' ca' B' cb'),.slice On n oc] w1 fun e w'=>e=.returned (.bool (fitAt fs k on))∧Below w1.heap.size w1 w'):
 Calls Try.prog 13 #[.agg (pgA p E ec N nc),.int .i64 i,.agg (exA x A ca B cb),.slice On n oc] w fun e w'=>e=.returned (.bool ((List.range x.subs.length).all fun k=>fitAt fs k on))∧Below w.heap.size w w':=by
 have HF:=Hd fun w0 hw=>cl_box2 (w:=w) (w1:=w0) (cs:=pgA p E ec N nc) (ds:=exA x A ca B cb) (T:=25) (U:=29) hw;have hmx:=RdS.max h.2;have hox:=RdS.max ho;have hd:decide ((i:Int)<0)=false:=decide_eq_false (by omega);have hd2:decide ((p.ns.length:Int)≤(i:Int))=false:=decide_eq_false (by omega);have HSB:=Hd fun k (hkk:k<x.subs.length)=>hx.sub hkk;have HSUB:=Hd hsub;have hsx:=hx.subs.2.1;have HNO:=Hd fun k (hk:k<x.subs.length) h=>rangeC_no (f:=fun k=>fitAt fs k on) hk h;have HALL:=Hd fun h=>(rangeC_all (n:=x.subs.length) (f:=fun k=>fitAt fs k on)).2 h;clear hsub h hx ho;generalize ((List.range x.subs.length).all fun k=>fitAt fs k on)=out at *;unfold pgA exA at *;generalize p.ns.length=pn at *;generalize p.es.length=pe at *;generalize x.arms.length=al at *;generalize hsl:x.subs.length=sl at *
 go_enter Try.func13,Try.ntmps13
 go_upto_region 1 with(fail)
 generalize hw0:(w.alloc _).alloc _=w0;obtain⟨hb0,hsz,hp,hq⟩:=HF.out w0 hw0;have HB0:=Hd hb0;have HP:=Hd hp;have HX:=Hd hq;have p0:=hp w0 (Below.refl _ _) 0;have p1:=hp w0 (Below.refl _ _) 1;obtain⟨q0,q1,q2,q3,q4,q5⟩:=Sx (hq w0 (Below.refl _ _));simp only [Ya,Yb,Yc] at p0 p1 q0 q1 q2 q3 q4 q5;clear hw0 hb0 hsz hp hq HF
 go_wp2_with fail
 clear p0 p1 q0 q1 q2 q3 q4 q5
 go_loopw [11] (fun c wr=>∃ k:Nat,k≤sl∧c=.int .i64 k∧(∀ j,j<k→fitAt fs j on=true)∧Below w0.heap.size w0 wr) (fun c _=>sl-(intOf c).toNat)
 case atStart=>exact⟨0,Nat.zero_le _,rfl,fun j hj=>absurd hj (by omega),Below.refl _ _⟩
 case round=>
  obtain⟨k,hk,rfl,hto,hbr⟩:=hrel;have HTO:=Hd hto;have HBR:=Hd hbr;have HBW:=Hd (below_nextC HB0.out hbr);have p0:=HP.out wr hbr 0;have p1:=HP.out wr hbr 1;have q5:=HX.out wr hbr 5;simp only [Ya,Yb,Yc] at p0 p1 q5;clear hto hbr
  by_cases hlt:k<sl
  · obtain⟨sb,so,rfl,hsb,hsc⟩:=HSB.out k hlt;obtain⟨A',ca',B',cb',hrg,hrd⟩:=hsc k hlt;obtain⟨s0,s1,s2,s3,s4,s5⟩:=rangeAt_six (rangeAt_keep hrg hsb fun p hp=>HBW.out.cell hp);have HCS:=Hd fun W (hb:Below wr.heap.size wr W)=>HSUB.out k hlt A' ca' B' cb' W (below_nextC HBW.out hb) (hrd.below (below_nextC HBW.out hb));have HNK:=Hd (HNO.out k hlt);have HNX:=Hd fun(h:fitAt fs k on=true)=>to_next (P:=fun j=>fitAt fs j on=true) HTO.out h;clear hsc hrg hrd;generalize subX x k=y at *;generalize hft:fitAt fs k on=ft at *;clear hft
    go_upto_region 22 with(fail)
    have l0:=fun d os=>cell_regrown p0 d os;have l1:=fun d os=>cell_regrown p1 d os;have l2:=fun d os=>cell_regrown q5 d os;have l3:=fun d os=>cell_regrown s0 d os;have l4:=fun d os=>cell_regrown s1 d os;have l5:=fun d os=>cell_regrown s2 d os;have l6:=fun d os=>cell_regrown s3 d os;have l7:=fun d os=>cell_regrown s4 d os;have l8:=fun d os=>cell_regrown s5 d os;have HBQ:=Hd fun d os=>below_regrown wr d os;have cA0:=fun d os=>Calls.regrown_of (HCS.out (grow (redrawn wr d) os) (below_regrown wr d os));refine wp_region_quiet_below (by kernel_rfl) (by kernel_rfl) ?_
    repeat (go_big_quiet_step (first | with_reducible exact cA0 _ _))
    refine wpQuiet_nil ?_;intro _ hw';obtain⟨⟨dq,osq⟩,hw''⟩:=hw';subst hw'';have HB1:=Hd (HBQ.out dq osq);clear l0 l1 l2 l3 l4 l5 l6 l7 l8 cA0 p0 p1 q5 s0 s1 s2 s3 s4 s5
    cases ft with
    | false=>
     have HO:=Hd (show out=false from HNK.out rfl)
     go_wp2_with fail
     go_ret
     exact⟨ret_boolC HO.out.symm,below_nextC HBW.out HB1.out⟩
    | true=>
     have HT2:=Hd (HNX.out rfl)
     go_wp2_with fail
     go_roundw
     case rel=>exact⟨k+1,by omega,by go_num,HT2.out,below_nextC HBR.out HB1.out⟩
     case measure=>simp [intOf];omega
  · obtain rfl:k=sl:=by omega
    have HO:=Hd (show out=true from HALL.out fun j hj=>HTO.out j hj)
    go_wp2_with fail
    go_ret
    exact⟨ret_boolC HO.out.symm,HBW.out⟩
end
section
open Go.RowKit Go.Sort Go.BigFrame
theorem fitOf_no{p:Pg}{i:Int}{x:Ex}{on:List Cd}(h:i<0∨(p.ns.length:Int)≤i):fitOf p i x on=false:=if_pos h
theorem fitOf_in{p:Pg}{i:Nat}{x:Ex}{on:List Cd}(h:i<p.ns.length):fitOf p i x on=fitX p.es (ndAt p i) x on:=by
 unfold fitOf;rw [if_neg (by omega)];rfl
theorem refFitsX(p:Pg) (E:Option Addr) (ec:Nat) (N:Option Addr) (nc:Nat) (i:Nat) (hi:i<p.ns.length) (hn:(ndAt p i).all.length≤1000):
 ∀ x:Ex,∀ (A:Option Addr) (ca:Nat) (B:Option Addr) (cb:Nat) (On:Option Addr) (n oc:Nat) (on:List Cd) (w:World),rdP w p E N→rdX w x A B→RdC w On n on→sizeX x≤1000000→n+sizeX x≤2500000 →
  Calls Try.prog 13 #[.agg (pgA p E ec N nc),.int .i64 i,.agg (exA x A ca B cb),.slice On n oc] w fun e w'=>e=.returned (.bool (fitX p.es (ndAt p i) x on))∧Below w.heap.size w w':=by
 refine size_ind fun x ih A ca B cb On n oc on w h hx ho hs hns=>?_;have hsz:∀ k,k<x.subs.length→sizeX (subX x k)<sizeX x:=fun k hk=>size_sub (subX_mem hk)
 have hsub:∀ k,k<x.subs.length→∀ A' ca' B' cb' w1,Below w.heap.size w w1→rdX w1 (subX x k) A' B' →
  Calls Try.prog 13 #[.agg (pgA p E ec N nc),.int .i64 i,.agg (exA (subX x k) A' ca' B' cb'),.slice On n oc] w1 fun e w'=>e=.returned (.bool (fitAt (x.subs.map (fitX p.es (ndAt p i))) k on))∧Below w1.heap.size w1 w':=fun k hk A' ca' B' cb' w1 hb hr=>by
  rw [fitAt_eq hk];have:=hsz k hk;exact ih k hk A' ca' B' cb' On n oc on w1 (h.below hb) hr (ho.below hb) (by omega) (by omega)
 rw [fitX_eq];generalize hfs:x.subs.map (fitX p.es (ndAt p i))=fs at hsub;unfold fitK
 by_cases k1:(x.k==1 || x.k==2 || x.k==4)=true
 · rw [if_pos k1];exact refFitsC p E ec N nc i x A ca B cb On n oc on w h hx ho hi (by simpa [or_assoc] using k1)
 rw [if_neg k1]
 by_cases k3:(x.k==3)=true
 · rw [if_pos k3];exact refFitsV p E ec N nc i x A ca B cb On n oc on w h hx ho hi (by simpa using k3) hn
 rw [if_neg k3]
 by_cases k8:(x.k==8)=true
 · rw [if_pos k8];exact refFitsF p E ec N nc i x A ca B cb On n oc on w h hx ho hi (by simpa using k8) fs hsub
 rw [if_neg k8]
 by_cases k11:(x.k==11)=true
 · rw [if_pos k11];refine refFitsW p E ec N nc i x A ca B cb On n oc on w h hx ho hi (by simpa using k11) _ fun w1 hb=>?_;refine refWhen17 p E ec N nc i x A ca B cb On n oc on w1 (h.below hb) (hx.below hb) (ho.below hb) hi hn fs fun hk A' ca' B' cb' R m cr row w2 hb2 hr hrow hm=>?_;rw [← hfs,fitAt_eq hk];have:=hsz 0 hk;exact ih 0 hk A' ca' B' cb' R m cr row w2 ((h.below hb).below hb2) hr hrow (by omega) (by omega)
 rw [if_neg k11]
 by_cases k12:(x.k==12)=true
 · rw [if_pos k12];refine refFitsM p E ec N nc i x A ca B cb On n oc on w h hx ho hi (by simpa using k12) _ fun w1 hb=>?_;refine refMerge17 p E ec N nc i x A ca B cb On n oc on w1 (h.below hb) (hx.below hb) (ho.below hb) (by omega) hi hn fs fun k hk A' ca' B' cb' R cr row w2 hb2 hr hrow=>?_;rw [← hfs,fitAt_eq hk];have:=hsz k hk;exact ih k hk A' ca' B' cb' R (n+1) cr row w2 ((h.below hb).below hb2) hr hrow (by omega) (by omega)
 rw [if_neg k12]
 by_cases k17:(x.k==17)=true
 · rw [if_pos k17];exact refFitsO p E ec N nc i x A ca B cb On n oc on w h hx ho hi (by simpa using k17)
 rw [if_neg k17];simp only [Bool.or_eq_true,not_or,Bool.not_eq_true] at k1 k3 k8 k11 k12 k17;exact refFitsA p E ec N nc i x A ca B cb On n oc on w h hx ho hi k1.1.1 k1.1.2 k1.2 k3 k8 k11 k12 k17 fs hsub
theorem refFitsNo(p:Pg) (E:Option Addr) (ec:Nat) (N:Option Addr) (nc:Nat) (i:Int) (x:Ex) (A:Option Addr) (ca:Nat) (B:Option Addr) (cb:Nat) (On:Option Addr) (n oc:Nat) (w:World) (hi:i<0∨(p.ns.length:Int)≤i):
 Calls Try.prog 13 #[.agg (pgA p E ec N nc),.int .i64 i,.agg (exA x A ca B cb),.slice On n oc] w fun e w'=>e=.returned (.bool false)∧Below w.heap.size w w':=by
 have HF:=Hd fun w0 hw=>cl_box2 (w:=w) (w1:=w0) (cs:=pgA p E ec N nc) (ds:=exA x A ca B cb) (T:=25) (U:=29) hw;unfold pgA exA at *;generalize p.ns.length=pn at *
 go_enter Try.func13,Try.ntmps13
 go_upto_region 1 with(fail)
 generalize hw0:(w.alloc _).alloc _=w0;obtain⟨hb0,hsz,hp,hq⟩:=HF.out w0 hw0;have HB0:=Hd hb0;have p1:=hp w0 (Below.refl _ _) 1;simp only [Ya,Yb,Yc] at p1;clear hw0 hb0 hsz hp hq HF
 by_cases h0:i<0
 · have hd:decide (i<0)=true:=decide_eq_true h0
   go_wp2_with fail
   go_ret
   exact⟨rfl,HB0.out⟩
 · have hd:decide (i<0)=false:=decide_eq_false h0;have hle:(pn:Int)≤i:=by omega
   have hd2:decide ((pn:Int)≤i)=true:=decide_eq_true hle
   go_wp2_with fail
   go_ret
   exact⟨rfl,HB0.out⟩
theorem refFits17(p:Pg) (E:Option Addr) (ec:Nat) (N:Option Addr) (nc:Nat) (i:Int) (x:Ex) (A:Option Addr) (ca:Nat) (B:Option Addr) (cb:Nat) (On:Option Addr) (n oc:Nat) (on:List Cd) (w:World) (h:rdP w p E N) (hx:rdX w x A B) (ho:RdC w On n on)
 (hn:∀ j,j<p.ns.length→(ndAt p j).all.length≤1000) (hs:sizeX x≤1000000) (hns:n≤1000000):
 Calls Try.prog 13 #[.agg (pgA p E ec N nc),.int .i64 i,.agg (exA x A ca B cb),.slice On n oc] w fun e w'=>e=.returned (.bool (fitOf p i x on))∧Below w.heap.size w w':=by
 by_cases hi:i<0∨(p.ns.length:Int)≤i
 · rw [fitOf_no hi];exact refFitsNo p E ec N nc i x A ca B cb On n oc w hi
 · obtain⟨k,rfl⟩:∃ k:Nat,i=k:=⟨i.toNat,by omega⟩;rw [fitOf_in (by omega)];exact refFitsX p E ec N nc k (by omega) (hn k (by omega)) x A ca B cb On n oc on w h hx ho hs (by omega)
end
end Go.Proofs.Ytkbpdoomhfkngaa
