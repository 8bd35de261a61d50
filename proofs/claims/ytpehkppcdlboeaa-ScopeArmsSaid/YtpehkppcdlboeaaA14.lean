/- Parts of the proof: ScV, ScW. Conditions: each theorem's own. -/
import Derived.Test.YtpehkppcdlboeaaA13
namespace Go.Proofs.Ytpehkppcdlboeaa
set_option linter.unusedVariables false
set_option linter.unusedSimpArgs false
set_option maxRecDepth 100000
set_option maxHeartbeats 40000000
section
open Go.RowKit Go.Sort
def liveA:Dc:=⟨⟨#[97]⟩,1,0,0,⟨#[]⟩,⟨#[]⟩⟩
def liveB:Dc:=⟨⟨#[98]⟩,1,0,0,⟨#[]⟩,⟨#[]⟩⟩
def liveX:Ex:=.mk 3 0 ⟨#[99]⟩ 0 [] []
def liveQ:Qn:=⟨[⟨#[98]⟩],liveX⟩
def liveN:Nd:=⟨⟨#[102]⟩,[liveA],[liveB],[],[liveQ]⟩
def liveP:Pg:=⟨[],[liveN]⟩
theorem live_check:checkS liveP=(0,0,5):=by kernel_rfl
theorem live_tiny:TinyP liveP:=by
 refine⟨⟨by decide,fun j hj=>by simp [liveP] at hj⟩,by decide,fun j hj=>?_⟩;obtain rfl:j=0:=by simp [liveP] at hj;omega
 refine⟨by decide,by decide,by decide,by decide,by decide,fun i hi=>?_⟩;obtain rfl:i=0:=by simp [liveP,liveN] at hi;omega
 refine⟨by decide,by kernel_rfl,fun q hq=>?_⟩;obtain rfl:q=0:=by simp [liveP,liveN,liveQ] at hq;omega
 decide
theorem alloc_cells{w w':World}{cs:Array Value}{T:TypeId}(h:w.alloc (.cells cs T)=w'):Below w.heap.size w w'∧w'.heap.size=w.heap.size+1∧∀ w'',Below w'.heap.size w' w''→∀ j,w''.cell? ⟨w.heap.size,j,none⟩=cs[j]?:=by
 subst h;refine⟨(Below.refl _ _).alloc (Nat.le_refl _) _,by simp,fun w'' hb j=>?_⟩;rw [hb.cell (p:=⟨w.heap.size,j,none⟩) (by simp),World.cell?_alloc_new]
theorem rdD_of{w:World}{b:Nat}{d:Dc}(hb:b<w.heap.size) (h:∀ j,w.cell? ⟨b,j,none⟩=(dcA d)[j]?):RdD w (some ⟨b,0,none⟩) 1 [d]:=by
 refine⟨rfl,by omega,fun _=>⟨b,0,rfl,hb,fun i hi=>?_⟩⟩;obtain rfl:i=0:=by omega
 intro j v hv;rw [Nat.zero_mul,Nat.add_zero,Nat.zero_add,h j]
 simpa [dcA,dcL] using hv
theorem live_mem(w w6:World) (h:(((((w.alloc (.cells (dcA liveA) 45)).alloc (.cells (dcA liveB) 45)).alloc (.cells #[.string ⟨#[98]⟩] 9)).alloc
 (.cells (qnA liveQ (some ⟨w.heap.size+1+1,0,none⟩) 1 none 0 none 0) 52)).alloc (.cells (ndA liveN (some ⟨w.heap.size,0,none⟩) 1 (some ⟨w.heap.size+1,0,none⟩) 1 none 0 (some ⟨w.heap.size+1+1+1,0,none⟩) 1) 41)).alloc
 (.cells (ndA liveN (some ⟨w.heap.size,0,none⟩) 1 (some ⟨w.heap.size+1,0,none⟩) 1 none 0 (some ⟨w.heap.size+1+1+1,0,none⟩) 1) 41)=w6):
 rdP w6 liveP none (some ⟨w.heap.size+1+1+1+1+1,0,none⟩)∧Below w.heap.size w w6:=by
 generalize h1:w.alloc (.cells (dcA liveA) 45)=w1 at h;obtain⟨b1,e1,k1⟩:=alloc_cells h1;generalize h2:w1.alloc (.cells (dcA liveB) 45)=w2 at h;obtain⟨b2,e2,k2⟩:=alloc_cells h2;generalize h3:w2.alloc (.cells #[.string ⟨#[98]⟩] 9)=w3 at h;obtain⟨b3,e3,k3⟩:=alloc_cells h3;generalize h4:w3.alloc _=w4 at h;obtain⟨b4,e4,k4⟩:=alloc_cells h4;generalize h5:w4.alloc _=w5 at h;obtain⟨b5,e5,k5⟩:=alloc_cells h5;obtain⟨b6,e6,k6⟩:=alloc_cells h;have c5:Below w5.heap.size w5 w6:=b6;have c4:Below w4.heap.size w4 w6:=b5.trans (c5.mono b5.size);have c3:Below w3.heap.size w3 w6:=b4.trans (c4.mono b4.size);have c2:Below w2.heap.size w2 w6:=b3.trans (c3.mono b3.size);have c1:Below w1.heap.size w1 w6:=b2.trans (c2.mono b2.size);have c0:Below w.heap.size w w6:=b1.trans (c1.mono b1.size);rw [e1] at k2 e2;rw [e2] at k3 e3;rw [e3] at k4 e4;rw [e4] at e5;rw [e5] at k6 e6;have rA:RdD w6 (some ⟨w.heap.size,0,none⟩) 1 [liveA]:=rdD_of (by omega) (k1 w6 c1);have rB:RdD w6 (some ⟨w.heap.size+1,0,none⟩) 1 [liveB]:=rdD_of (by omega) (k2 w6 c2)
 have rT:RdT w6 (some ⟨w.heap.size+1+1,0,none⟩) 1 [⟨#[98]⟩]:=⟨rfl,by omega,fun _=>⟨_,0,rfl,by omega,fun i hi=>by
  obtain rfl:i=0:=by omega
  exact k3 w6 c3 0⟩⟩
 have rX:rdX w6 liveX none none:=by
  rw [rdX_eq];exact⟨RdT.nil_ _,RdX.nil_ _⟩
 have rQ:RdQ w6 (some ⟨w.heap.size+1+1+1,0,none⟩) 1 [liveQ]:=by
  refine⟨rfl,by omega,fun _=>⟨_,0,rfl,by omega,fun i hi=>?_⟩⟩;obtain rfl:i=0:=by omega
  refine⟨some ⟨w.heap.size+1+1,0,none⟩,1,none,0,none,0,k4 w6 c4 0,rT,fun j v hv=>?_,rX⟩;rw [show 0+0*7+1+j=j+1 by omega,k4 w6 c4 (j+1)];exact(show(qnA liveQ (some ⟨w.heap.size+1+1,0,none⟩) 1 none 0 none 0)[j+1]?=(exL liveX none 0 none 0)[j]? by simp [qnA,exL,liveQ]).trans hv
 refine⟨⟨RdE.nil_ _,⟨rfl,by decide,fun _=>⟨_,0,rfl,by omega,fun i hi=>?_⟩⟩⟩,c0⟩
 obtain rfl:i=0:=by
  have:liveP.ns.length=1:=rfl;omega
 refine⟨some ⟨w.heap.size,0,none⟩,1,some ⟨w.heap.size+1,0,none⟩,1,none,0,some ⟨w.heap.size+1+1+1,0,none⟩,1,fun j v hv=>?_,⟨rA,rB,RdS.nil_ _ _ _,rQ⟩⟩;rw [show 0+0*5+j=j by omega,k6 w6 (Below.refl _ _) j];exact(show(ndA liveN (some ⟨w.heap.size,0,none⟩) 1 (some ⟨w.heap.size+1,0,none⟩) 1 none 0 (some ⟨w.heap.size+1+1+1,0,none⟩) 1)[j]?=(ndL liveN (some ⟨w.heap.size,0,none⟩) 1 (some ⟨w.heap.size+1,0,none⟩) 1 none 0 (some ⟨w.heap.size+1+1+1,0,none⟩) 1)[j]? by simp [ndA,ndL]).trans hv
theorem live_any(w:World):Calls Try.prog 6 #[] w fun e w'=>e=.returned (.bool true)∧Below w.heap.size w w':=by
 have HL:=Hd fun w0 w6 (hr:rdP w6 liveP none (some ⟨w0+1+1+1+1+1,0,none⟩))=>(show Calls Try.prog 10 #[.agg (pgA liveP none 0 (some ⟨w0+1+1+1+1+1,0,none⟩) 1)] w6 fun e w'=>e=.returned (.agg #[.int .i64 0,.int .i64 0,.int .i64 5])∧Below w6.heap.size w6 w' by
  have:=scCheck liveP none 0 (some ⟨w0+1+1+1+1+1,0,none⟩) 1 w6 hr live_tiny;rw [live_check] at this;exact this)
 have HM:=Hd live_mem;have HFT:=Hd (refFault 0 0 5);unfold f3A at HFT
 go_enter Try.func6,Try.ntmps6
 go_upto_region 2 with(fail)
 generalize hw0:w.alloc _=w0;obtain⟨b0,e0,k0⟩:=alloc_cells hw0;have hlt0:w.heap.size<w0.heap.size:=by omega
 clear e0;have z0:=k0 w0 (Below.refl _ _) 0;have z1:=k0 w0 (Below.refl _ _) 1;have z2:=k0 w0 (Below.refl _ _) 2;simp only [Ya,Yb,Yc] at z0 z1 z2;have HB0:=Hd b0;have HK0:=Hd k0;clear hw0 k0 b0
 go_wp2_with fail
 generalize hw6:World.alloc _ _=w6;obtain⟨hr,hb⟩:=HM.out w0 w6 hw6;have HB:=Hd (HB0.out.trans (hb.mono HB0.out.size));have HL6:=Hd (HL.out w0.heap.size w6 hr);clear hw6 hr hb HM HL z0 z1 z2 HK0;refine HL6.out.mono ?_;rintro e w7 ⟨rfl,hb7⟩;have HB7:=Hd (HB.out.trans (hb7.mono HB.out.size));clear hb7
 go_wp2_with fail
 refine(HFT.out w7).mono ?_;rintro e w8 ⟨rfl,hb8⟩;have HB8:=Hd (HB7.out.trans (hb8.mono HB7.out.size));clear hb8
 go_wp2_with fail
 go_ret
 exact⟨rfl,HB8.out⟩
end
section
open Go.RowKit Go.Sort Go.BigFrame
theorem walkArms(A:Option Addr) (n c:Nat) (es:List En) (s:ByteArray) (w:World) (hE:RdE w A n es) (hs:s.size≤9223372036854775807):
 Calls Try.prog 3 #[.slice A n c,.string s] w fun e w'=>e=.returned (.bool true)∧Below w.heap.size w w':=by
 have HC:=Hd fun w1 (a:Below w.heap.size w w1)=>scArm A n c es s w1 (hE.below a);have HR:=Hd fun w1 (a:Below w.heap.size w w1)=>refArm15 A n c es s w1 (hE.below a);have HSM:=Hd (refEnSmall A n c es w hE);unfold armW f3A at HC HR;generalize ((armR es s).map (·.1)).getD 0=ra at *;generalize ((armR es s).map (·.2.1)).getD 0=rb at *;generalize ((armR es s).map (·.2.2)).getD 0=rc at *;generalize (armR es s).isSome=ok at *;clear hE
 go_enter Try.func3,Try.ntmps3
 go_wp2_with fail
 refine HSM.out.mono ?_;rintro r w' ⟨b1,rfl,-,rfl⟩
 cases b1 with
 | false=>
  go_wp2_with fail
  refine(live_any _).mono ?_;rintro r w1 ⟨rfl,hb1⟩;have HB1:=Hd hb1;clear hb1
  go_wp2_with fail
  go_ret
  exact⟨rfl,HB1.out⟩
 | true=>
  by_cases h5:500<s.size
  · have hd:decide ((500:Int)<(s.size:Int))=true:=decide_eq_true (by omega)
    go_wp2_with fail
    refine(live_any _).mono ?_;rintro r w1 ⟨rfl,hb1⟩;have HB1:=Hd hb1;clear hb1
    go_wp2_with fail
    go_ret
    exact⟨rfl,HB1.out⟩
  · have hd:decide ((500:Int)<(s.size:Int))=false:=decide_eq_false (by omega);have HC1:=Hd (HC.out w (Below.refl _ _))
    go_wp2_with fail
    refine HC1.out.mono ?_;rintro r w1 ⟨rfl,hb1⟩;have HB1:=Hd hb1;clear hb1 HC1
    go_upto_region 4 with(fail)
    generalize hw2:w1.alloc _=w2;obtain⟨b2,e2,k2⟩:=alloc_cells hw2;have HB2:=Hd (below_next HB1.out b2);have HK2:=Hd k2;have HR2:=Hd (HR.out w2 HB2.out);clear hw2 b2 k2 e2
    go_wp2_with fail
    refine HR2.out.mono ?_;rintro r w3 ⟨rfl,hb3⟩;have HK3:=Hd fun W (b:Below w3.heap.size w3 W) j=>HK2.out W (hb3.trans (b.mono hb3.size)) j;have HB3:=Hd (below_next HB2.out hb3);clear hb3 HR2 HK2
    go_upto_region 5 with(fail)
    generalize hw4:w3.alloc _=w4;obtain⟨b4,e4,k4⟩:=alloc_cells hw4;have HB4:=Hd (below_next HB3.out b4);obtain⟨x0,x1,x2,-,-,-⟩:=Sx (HK3.out w4 b4);have y0:=k4 w4 (Below.refl _ _) 0;have y1:=k4 w4 (Below.refl _ _) 1;have y2:=k4 w4 (Below.refl _ _) 2;simp only [Ya,Yb,Yc] at x0 x1 x2 y0 y1 y2;clear hw4 b4 k4 e4
    go_wp2_with fail
    refine(live_any w4).mono ?_;rintro r w5 ⟨rfl,hb5⟩;have HB5:=Hd (below_next HB4.out hb5);clear hb5
    go_wp2_with fail
    go_ret
    exact⟨rfl,HB5.out⟩
end
end Go.Proofs.Ytpehkppcdlboeaa
