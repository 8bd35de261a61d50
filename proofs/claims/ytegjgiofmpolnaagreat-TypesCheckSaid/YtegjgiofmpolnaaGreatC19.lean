/- Parts of the proof: TpJ, TpG, TpQ. Conditions: each theorem's own. -/
import Derived.Test.YtegjgiofmpolnaaGreatC18
namespace Go.Proofs.YtegjgiofmpolnaaGreat
set_option linter.unusedVariables false
set_option linter.unusedSimpArgs false
set_option maxRecDepth 100000
set_option maxHeartbeats 40000000
section
open Go.RowKit Go.Sort Go.BigFrame
theorem bW:(Tryz.prog.info? 38).map (·.size)=some (aC 0 0 0).size:=by kernel_rfl
theorem aKj(x:Ex) (A:Option Addr) (ca:Nat) (B:Option Addr) (cb:Nat) (S:Option Addr) (m sc:Nat) (ts:List T3) (w:World) (hS:aM w S m ts) (hk:x.k=7) (hm:3<=m):
 Calls Tryz.prog 82 #[.agg (aE x A ca B cb),.slice S m sc] w (eV w (if(fD (aB ts 0) && decide (aB ts 1=aB ts 2))=true then some (aB ts 1) else none)):=by
 have HF:=Hd fun w0 h=>mW (w:=w) (w0:=w0) (x:=x) (A:=A) (ca:=ca) (B:=B) (cb:=cb) (T:=35) (U:=38) h;obtain⟨sb,so,rfl,Ab,Ai⟩:=hS.at_ (i:=0) (by omega);obtain⟨a0,a1,a2⟩:=Ai 0 (by omega);obtain⟨b0,b1,b2⟩:=Ai 1 (by omega);obtain⟨c0,c1,c2⟩:=Ai 2 (by omega);simp only [Nat.zero_mul,Nat.add_zero,Nat.one_mul] at a0 a1 a2 b0 b1 b2 c0 c1 c2;have An:=hS.len;have Ap:=Hd fun w1 (hb:Below w.heap.size w w1)=>hS.below hb;unfold aE at HF ⊢;rw [hk] at HF ⊢;clear hS Ai hk;generalize aB ts 0=u at *;generalize aB ts 1=v at *;generalize aB ts 2=z at *;obtain⟨u0,u1,u2⟩:=u;obtain⟨v0,v1,v2⟩:=v;obtain⟨z0,z1,z2⟩:=z;have HT:=Hd (wB u0 u1 u2)
 dsimp only at a0 a1 a2 b0 b1 b2 c0 c1 c2
 unfold aC at HT;generalize fD (u0,u1,u2)=tt at *;generalize hO:(if(tt && decide ((v0,v1,v2)=(z0,z1,z2)))=true then some ((v0,v1,v2):T3) else none)=o;have HO:=Hd hO;clear hO
 go_enter Tryz.func82,Tryz.ntmps82
 go_upto_region 1 with(fail)
 generalize Ak:(w.alloc _).alloc _=w0;obtain⟨hR,Ac,Ad,Al⟩:=HF.o w0 Ak;have HR:=Hd hR;have Ag:=Hd Ad;have q0:=Ac w0 (Yg _ _) 0;have q3:=Ac w0 (Yg _ _) 3;simp only [Ya,Yb,Yc] at q0 q3;have a0:=(Ad.cell (p:=⟨sb,so,none⟩) Ab).trans a0;have a1:=(Ad.cell (p:=⟨sb,so+1,none⟩) Ab).trans a1;have a2:=(Ad.cell (p:=⟨sb,so+2,none⟩) Ab).trans a2;have b0:=(Ad.cell (p:=⟨sb,so+3,none⟩) Ab).trans b0;have b1:=(Ad.cell (p:=⟨sb,so+3+1,none⟩) Ab).trans b1;have b2:=(Ad.cell (p:=⟨sb,so+3+2,none⟩) Ab).trans b2;have c0:=(Ad.cell (p:=⟨sb,so+2*3,none⟩) Ab).trans c0;have c1:=(Ad.cell (p:=⟨sb,so+2*3+1,none⟩) Ab).trans c1;have c2:=(Ad.cell (p:=⟨sb,so+2*3+2,none⟩) Ab).trans c2;have Aq:0<m:=by omega
 have Ao:1<m:=by omega
 have Ar:2<m:=by omega
 clear Ak hR Ac Ad Al HF hm
 go_upto_region 7 with(fail)
 clear q3;have Aj:sb<w0.heap.size:=Yr Ab Ag.o.size;have Aa:sb≠w.heap.size+1:=by omega
 have Am:w.heap.size+1≠sb:=by omega
 have Aj:sb<w0.heap.size:=Yr Ab Ag.o.size;have Aa:sb≠w.heap.size+1:=by omega
 cases tt with
 | false=>
  refine bZ (l1:=[_,_,_,_,_,_,_,_,_,_,_,_,_,_,_,_]) (os:=_) (l2:=[_]) (p:=4) (tx:=36) (r:=w.heap.size+1) (T:=38) (zc:=aC 0 0 0) (by kernel_rfl) (by kernel_rfl) rfl HR.o rfl bW ?_
  repeat
   apply bR rfl (by simp)
   case h1=>
    intro wb hb;have l0:=fun d os=>Zr (aD hb Aa a0) d os;have l1:=fun d os=>Zr (aD hb Aa a1) d os;have l2:=fun d os=>Zr (aD hb Aa a2) d os;have l3:=fun d os=>Zr (aD hb Aa b0) d os;have l4:=fun d os=>Zr (aD hb Aa b1) d os;have l5:=fun d os=>Zr (aD hb Aa b2) d os;have l6:=fun d os=>Zr (aD hb Aa c0) d os;have l7:=fun d os=>Zr (aD hb Aa c1) d os;have l8:=fun d os=>Zr (aD hb Aa c2) d os;have cA:=fun d os=>Zh (HT.o (grow (redrawn wb d) os))
    go_big_quiet_step (first | with_reducible exact cA _ _)
    refine Xf ?_;simp only [List.getElem?_toArray,Zb,Yz];exact rfl
   simp only [Act.put,Yd,Ye,Yf]
  refine⟨aC v0 v1 v2,rfl,rfl,by simp [aC,Value.oneCell'],fun W hB hz=>?_⟩;have Ae:=Hd (bF hB Ag.o (Yh _) (Nat.le_succ _));have Af:=Hd hz;clear hB hz
  go_wp2_with fail
  exact Zt (aL (p:=4) (u:=5) rfl _ _ (w.heap.size+1) v0 v1 v2 rfl Af.o) rfl ⟨v0,v1,v2,(by rw [<- HO.o];rfl),fun t ht=>(by rw [<- HO.o] at ht;cases ht),Ae.o⟩
 | true=>
  rcases iC v0 v1 v2 z0 z1 z2 with⟨rfl,rfl,rfl,he⟩|⟨h1,he⟩|⟨rfl,h1,he⟩|⟨rfl,rfl,h1,he⟩
  . clear he;refine bZ (l1:=[_,_,_,_,_,_,_,_,_,_,_,_,_,_,_,_]) (os:=_) (l2:=[_]) (p:=4) (tx:=36) (r:=w.heap.size+1) (T:=38) (zc:=aC 0 0 0) (by kernel_rfl) (by kernel_rfl) rfl HR.o rfl bW ?_
    repeat
     apply bR rfl (by simp)
     case h1=>
      intro wb hb;have l0:=fun d os=>Zr (aD hb Aa a0) d os;have l1:=fun d os=>Zr (aD hb Aa a1) d os;have l2:=fun d os=>Zr (aD hb Aa a2) d os;have l3:=fun d os=>Zr (aD hb Aa b0) d os;have l4:=fun d os=>Zr (aD hb Aa b1) d os;have l5:=fun d os=>Zr (aD hb Aa b2) d os;have l6:=fun d os=>Zr (aD hb Aa c0) d os;have l7:=fun d os=>Zr (aD hb Aa c1) d os;have l8:=fun d os=>Zr (aD hb Aa c2) d os;have cA:=fun d os=>Zh (HT.o (grow (redrawn wb d) os))
      go_big_quiet_step (first | with_reducible exact cA _ _)
      refine Xf ?_;simp only [List.getElem?_toArray,Zb,Yz];exact rfl
     simp only [Act.put,Yd,Ye,Yf]
    refine⟨aC v0 v1 v2,rfl,rfl,by simp [aC,Value.oneCell'],fun W hB hz=>?_⟩;have Ae:=Hd (bF hB Ag.o (Yh _) (Nat.le_succ _));have Af:=Hd hz;clear hB hz
    go_wp2_with fail
    exact Zt (aL (p:=4) (u:=5) rfl _ _ (w.heap.size+1) v0 v1 v2 rfl Af.o) rfl ⟨v0,v1,v2,(by rw [show o=some (v0,v1,v2) by(rw [<- HO.o];simp)];rfl),fun t ht=>(by rw [show o=some (v0,v1,v2) by(rw [<- HO.o];simp)] at ht;exact(Option.some.inj ht).symm),Ae.o⟩
  . have HE:=Hd he;have Ah:=h1;simp only [Xa,ne_eq] at Ah;clear he;refine bZ (l1:=[_,_,_,_,_,_,_,_,_,_,_,_,_,_,_,_]) (os:=_) (l2:=[_]) (p:=4) (tx:=36) (r:=w.heap.size+1) (T:=38) (zc:=aC 0 0 0) (by kernel_rfl) (by kernel_rfl) rfl HR.o rfl bW ?_
    repeat
     apply bR rfl (by simp)
     case h1=>
      intro wb hb;have l0:=fun d os=>Zr (aD hb Aa a0) d os;have l1:=fun d os=>Zr (aD hb Aa a1) d os;have l2:=fun d os=>Zr (aD hb Aa a2) d os;have l3:=fun d os=>Zr (aD hb Aa b0) d os;have l4:=fun d os=>Zr (aD hb Aa b1) d os;have l5:=fun d os=>Zr (aD hb Aa b2) d os;have l6:=fun d os=>Zr (aD hb Aa c0) d os;have l7:=fun d os=>Zr (aD hb Aa c1) d os;have l8:=fun d os=>Zr (aD hb Aa c2) d os;have cA:=fun d os=>Zh (HT.o (grow (redrawn wb d) os))
      go_big_quiet_step (first | with_reducible exact cA _ _)
      refine Xf ?_;simp only [List.getElem?_toArray,Zb,Yz];exact rfl
     simp only [Act.put,Yd,Ye,Yf]
    refine⟨aC _ _ _,rfl,rfl,by simp [aC,Value.oneCell'],fun W hB hz=>?_⟩;have Ae:=Hd (bF hB Ag.o (Yh _) (Nat.le_succ _));have Af:=Hd hz;clear hB hz
    go_wp2_with fail
    exact Zt (aL (p:=4) (u:=5) rfl _ _ (w.heap.size+1) _ _ _ rfl Af.o) rfl ⟨_,_,_,(by rw [<- HO.o,Zy HE.o];rfl),fun t ht=>(by rw [<- HO.o,Zy HE.o] at ht;cases ht),Ae.o⟩
  . have HE:=Hd he;have Ah:=h1;simp only [Xa,ne_eq] at Ah;clear he;refine bZ (l1:=[_,_,_,_,_,_,_,_,_,_,_,_,_,_,_,_]) (os:=_) (l2:=[_]) (p:=4) (tx:=36) (r:=w.heap.size+1) (T:=38) (zc:=aC 0 0 0) (by kernel_rfl) (by kernel_rfl) rfl HR.o rfl bW ?_
    repeat
     apply bR rfl (by simp)
     case h1=>
      intro wb hb;have l0:=fun d os=>Zr (aD hb Aa a0) d os;have l1:=fun d os=>Zr (aD hb Aa a1) d os;have l2:=fun d os=>Zr (aD hb Aa a2) d os;have l3:=fun d os=>Zr (aD hb Aa b0) d os;have l4:=fun d os=>Zr (aD hb Aa b1) d os;have l5:=fun d os=>Zr (aD hb Aa b2) d os;have l6:=fun d os=>Zr (aD hb Aa c0) d os;have l7:=fun d os=>Zr (aD hb Aa c1) d os;have l8:=fun d os=>Zr (aD hb Aa c2) d os;have cA:=fun d os=>Zh (HT.o (grow (redrawn wb d) os))
      go_big_quiet_step (first | with_reducible exact cA _ _)
      refine Xf ?_;simp only [List.getElem?_toArray,Zb,Yz];exact rfl
     simp only [Act.put,Yd,Ye,Yf]
    refine⟨aC _ _ _,rfl,rfl,by simp [aC,Value.oneCell'],fun W hB hz=>?_⟩;have Ae:=Hd (bF hB Ag.o (Yh _) (Nat.le_succ _));have Af:=Hd hz;clear hB hz
    go_wp2_with fail
    exact Zt (aL (p:=4) (u:=5) rfl _ _ (w.heap.size+1) _ _ _ rfl Af.o) rfl ⟨_,_,_,(by rw [<- HO.o,Zy HE.o];rfl),fun t ht=>(by rw [<- HO.o,Zy HE.o] at ht;cases ht),Ae.o⟩
  . have HE:=Hd he;have Ah:=h1;simp only [Xa,ne_eq] at Ah;clear he;refine bZ (l1:=[_,_,_,_,_,_,_,_,_,_,_,_,_,_,_,_]) (os:=_) (l2:=[_]) (p:=4) (tx:=36) (r:=w.heap.size+1) (T:=38) (zc:=aC 0 0 0) (by kernel_rfl) (by kernel_rfl) rfl HR.o rfl bW ?_
    repeat
     apply bR rfl (by simp)
     case h1=>
      intro wb hb;have l0:=fun d os=>Zr (aD hb Aa a0) d os;have l1:=fun d os=>Zr (aD hb Aa a1) d os;have l2:=fun d os=>Zr (aD hb Aa a2) d os;have l3:=fun d os=>Zr (aD hb Aa b0) d os;have l4:=fun d os=>Zr (aD hb Aa b1) d os;have l5:=fun d os=>Zr (aD hb Aa b2) d os;have l6:=fun d os=>Zr (aD hb Aa c0) d os;have l7:=fun d os=>Zr (aD hb Aa c1) d os;have l8:=fun d os=>Zr (aD hb Aa c2) d os;have cA:=fun d os=>Zh (HT.o (grow (redrawn wb d) os))
      go_big_quiet_step (first | with_reducible exact cA _ _)
      refine Xf ?_;simp only [List.getElem?_toArray,Zb,Yz];exact rfl
     simp only [Act.put,Yd,Ye,Yf]
    refine⟨aC _ _ _,rfl,rfl,by simp [aC,Value.oneCell'],fun W hB hz=>?_⟩;have Ae:=Hd (bF hB Ag.o (Yh _) (Nat.le_succ _));have Af:=Hd hz;clear hB hz
    go_wp2_with fail
    exact Zt (aL (p:=4) (u:=5) rfl _ _ (w.heap.size+1) _ _ _ rfl Af.o) rfl ⟨_,_,_,(by rw [<- HO.o,Zy HE.o];rfl),fun t ht=>(by rw [<- HO.o,Zy HE.o] at ht;cases ht),Ae.o⟩
end
section
open Go.RowKit Go.Sort Go.BigFrame
def pT:Array Value:=#[.string ⟨#[]⟩,.int .i64 0,.int .i64 0,.int .i64 0,.string ⟨#[]⟩,.string ⟨#[]⟩]
theorem gV{W:World}{g:Nat}{d:Dc}(h:jO W g d) (j:Nat):W.cell? ⟨g,j,none⟩=(bC d)[j]?:=by
 have:=cell_setRow_same W g j _ (bC d) _ _ h;rwa [setRow_self W g _ _ _ h] at this
def pP(od:Option Dc) (ro:Option (Int × Int × Int)) (t:T3):Option T3:=
 match od with
 | none=>none
 | some d=>match ro with
  | none=>none
  | some r=>if((r.1,r.2.1,0):T3)=aO d then some t else none
theorem aPq{od:Option Dc}{ro:Option (Int × Int × Int)}{t:T3}(h:od.isSome=false):pP od ro t=none:=by cases od;rfl;cases h
theorem aPr{od:Option Dc}{ro:Option (Int × Int × Int)}{t:T3}(h:ro.isSome=false):pP od ro t=none:=by cases od <;> cases ro <;> first | rfl | cases h
theorem aPs{od:Option Dc}{ro:Option (Int × Int × Int)}{t:T3}{ra rb:Int}{dd:Dc}(h:od.isSome=true) (h':ro.isSome=true) (ha:(ro.map (·.1)).getD 0=ra) (hb:(ro.map (·.2.1)).getD 0=rb) (hd:od.getD default=dd):
 pP od ro t=if((ra,rb,0):T3)=(dd.k,dd.e,dd.l) then some t else none:=by
 subst ha hb hd
 cases od with
 | none=>cases h
 | some d=>cases ro with
  | none=>cases h'
  | some r=>rfl
theorem aKk(p:Pg) (E:Option Addr) (ec:Nat) (N:Option Addr) (nc:Nat) (i:Nat) (x:Ex) (A:Option Addr) (ca:Nat) (B:Option Addr) (cb:Nat) (S:Option Addr) (m sc:Nat) (ts:List T3) (w:World) (h:cW w p E N) (hr:aJ w x A B) (hS:aM w S m ts) (hk:x.k=11) (hm:1<=m) (hi:i<p.ns.length) (Ci:(aA p i).all.length<=1000) (Bm:0<x.arms.length) (o:Option T3) (ho:pP (aW (aA p i) x.s) (cU p.es (x.arms[0]?.getD ByteArray.empty)) (aB ts 0)=o):
 Calls Tryz.prog 81 #[.agg (aP p E ec N nc),.int .i64 i,.agg (aE x A ca B cb),.slice S m sc] w (eV w o):=by
 have HF:=Hd fun w0 h=>lA (w:=w) (w0:=w0) (p:=p) (E:=E) (ec:=ec) (N:=N) (nc:=nc) (x:=x) (A:=A) (ca:=ca) (B:=B) (cb:=cb) (T:=25) (U:=35) (V:=38) h;obtain⟨nb,no,A1,c1,A2,c2,A3,c3,A4,c4,rfl,An,Bd,d0,d1,d2,d3,d4⟩:=iN h.2 hi;have Am:=Hd fun w1 (hb:Below w.heap.size w w1)=>oY (aA p i) A1 c1 A2 c2 A3 c3 A4 c4 x.s w1 (Bd.below hb) Ci;obtain⟨ab,ao,rfl,Br,Ba⟩:=hr.arms.at_ Bm;have Au:=Ba 0 Bm;simp only [Nat.add_zero] at Au;obtain⟨sb,so,rfl,Ax,Bc⟩:=hS.at_ (i:=0) (by omega);obtain⟨a0,a1,a2⟩:=Bc 0 (by omega);simp only [Nat.zero_mul,Nat.add_zero] at a0 a1 a2;have Cd:=Hd fun w1 (hb:Below w.heap.size w w1)=>(hb.cell (p:=⟨ab,ao,none⟩) Br).trans Au
 have Be:=Hd (show ∀ w1,Below w.heap.size w w1->w1.cell? ⟨sb,so,none⟩=some (.int .i64 (aB ts 0).1)/\w1.cell? ⟨sb,so+1,none⟩=some (.int .i64 (aB ts 0).2.1)/\w1.cell? ⟨sb,so+2,none⟩=some (.int .i64 (aB ts 0).2.2) from
  fun w1 hb=>⟨(hb.cell (p:=⟨sb,so,none⟩) Ax).trans a0,(hb.cell (p:=⟨sb,so+1,none⟩) Ax).trans a1,(hb.cell (p:=⟨sb,so+2,none⟩) Ax).trans a2⟩)
 have As:=Hd fun w1 (hb:Below w.heap.size w w1)=>tX E p.es.length ec p.es (x.arms[0]?.getD ByteArray.empty) w1 (h.1.below hb);clear a0 a1 a2 Bc Ba Au hS;generalize x.arms[0]?.getD ByteArray.empty=ar at *;generalize cU p.es ar=ro at *;unfold nI at As;generalize Bl:(ro.map (·.1)).getD 0=ra at *;generalize Bj:(ro.map (·.2.1)).getD 0=rb at *;generalize Ck:(ro.map (·.2.2)).getD 0=rc at *;generalize Bi:ro.isSome=rs at *;generalize aB ts 0=tx at *;obtain⟨x0,x1,x2⟩:=tx
 dsimp only at Be
 unfold aA at Am ho;unfold mB nG at Am;generalize Bu:aW (p.ns[i]?.getD default) x.s=od at *;generalize Bo:p.ns[i]?.getD default=nd at *;unfold bL at Am;unfold aE at HF ⊢;unfold aP at HF ⊢;rw [hk] at HF ⊢
 have HD:=Hd (show ∀ w1,Below w.heap.size w w1->w1.cell? ⟨nb,no+i*5,none⟩=some (.string nd.nm)/\w1.cell? ⟨nb,no+i*5+1,none⟩=some (.slice A1 nd.ins.length c1)/\w1.cell? ⟨nb,no+i*5+2,none⟩=some (.slice A2 nd.outs.length c2)/\w1.cell? ⟨nb,no+i*5+3,none⟩=some (.slice A3 nd.vars.length c3)/\w1.cell? ⟨nb,no+i*5+4,none⟩=some (.slice A4 nd.eqs.length c4) from
  fun w1 hb=>⟨(hb.cell (p:=⟨nb,no+i*5,none⟩) An).trans d0,(hb.cell (p:=⟨nb,no+i*5+1,none⟩) An).trans d1,(hb.cell (p:=⟨nb,no+i*5+2,none⟩) An).trans d2,(hb.cell (p:=⟨nb,no+i*5+3,none⟩) An).trans d3,(hb.cell (p:=⟨nb,no+i*5+4,none⟩) An).trans d4⟩)
 clear d0 d1 d2 d3 d4 Bd hk h hr;generalize Bn:od.getD default=dd at *;generalize Bb:od.isSome=ds at *;unfold bC at Am;unfold aC at As;have HO:=Hd (show pP od ro (x0,x1,x2)=o from ho);have Cj:=Hd Bn;have Bh:=Hd Bb;have Bv:=Hd Bl;have Bq:=Hd Bj;have Bf:=Hd Bi;clear ho Bn Bb Bl Bj Ck Bi Bu Bo
 go_enter Tryz.func81,Tryz.ntmps81
 go_upto_region 1 with(fail)
 generalize Az:((w.alloc _).alloc _).alloc _=w0;obtain⟨Ay,Ca,hp,hx,hR⟩:=HF.o w0 Az;have Ag:=Hd Ay;have HR:=Hd hR;have HP:=Hd hp;have HX:=Hd hx;have q0:=hx w0 (Yg _ _) 0;have q2:=hx w0 (Yg _ _) 2;have p1:=hp w0 (Yg _ _) 1;simp only [Ya,Yb,Yc] at q0 q2 p1;obtain⟨d0,d1,d2,d3,d4⟩:=HD.o w0 Ay;have HQ:=Hd (show ∀ w1,Below w0.heap.size w0 w1->w1.cell? ⟨w.heap.size,1,none⟩=some (.slice (some ⟨nb,no,none⟩) p.ns.length nc)/\w1.cell? ⟨w.heap.size+1,2,none⟩=some (.string x.s)/\w1.cell? ⟨nb,no+i*5,none⟩=some (.string nd.nm)/\w1.cell? ⟨nb,no+i*5+1,none⟩=some (.slice A1 nd.ins.length c1)/\w1.cell? ⟨nb,no+i*5+2,none⟩=some (.slice A2 nd.outs.length c2)/\w1.cell? ⟨nb,no+i*5+3,none⟩=some (.slice A3 nd.vars.length c3)/\w1.cell? ⟨nb,no+i*5+4,none⟩=some (.slice A4 nd.eqs.length c4) from fun w1 hb=>⟨HP.o w1 hb 1,HX.o w1 hb 2,HD.o w1 (Ag.o.trans (hb.mono Ag.o.size))⟩);clear Az Ay Ca hp hx hR HF
 go_upto_region 5 with(fail)
 go_cut [10,11] (fun Cg Cf wx=>Cf=.bool ds/\∃ g,Cg=.pointer (some ⟨g,0,none⟩)/\w0.heap.size<=g/\jO wx g dd/\Below w0.heap.size w0 wx)
 case first=>
  have HL:=Hd (show ∀ wb,bY w0 wb->_ from fun wb hb=>HQ.o wb (cI hb));have Bw:=Hd (show ∀ wb,bY w0 wb->∀ d os,_ from fun wb hb d os=>Zh (Am.o (grow (redrawn wb d) os) ((Ag.o.trans ((cI hb).mono Ag.o.size)).trans ((Zs wb d os).mono (Ag.o.trans ((cI hb).mono Ag.o.size)).size))));refine vN (l1:=[_,_,_,_,_,_,_,_,_,_,_]) (oa:=_) (os:=_) (l2:=[_]) (d:=10) (tx:=45) (T:=58) (zc:=pT) (by kernel_rfl) (by kernel_rfl) rfl (by simp) (fun a W=>by rfl) rfl (by kernel_rfl) ?_
  repeat
   apply bR rfl (by simp)
   case h1=>
    intro wb hb;obtain⟨m0,m1,m2,m3,m4,m5,m6⟩:=HL.o wb hb;have l0:=fun d os=>Zr m0 d os;have l1:=fun d os=>Zr m1 d os;have l2:=fun d os=>Zr m2 d os;have l3:=fun d os=>Zr m3 d os;have l4:=fun d os=>Zr m4 d os;have l5:=fun d os=>Zr m5 d os;have l6:=fun d os=>Zr m6 d os;have cA:=Bw.o wb hb
    go_big_quiet_step (with_reducible exact cA _ _)
    exact Xf rfl
   simp only [Act.put,Yd,Ye,Yf]
  refine⟨bC dd,rfl,rfl,by simp [bC,Value.oneCell'],fun W g hW hg hz=>?_⟩;have Ah:=Hd (cI hW);have HZ:=Hd hz;have HG:=Hd hg;clear hW hg hz
  go_wp2_with fail
  go_meet
  case rel=>exact⟨rfl,g,rfl,HG.o,HZ.o,Ah.o⟩
 case rest=>
  obtain⟨rfl,g,rfl,hg,hz,Av⟩:=hcut;generalize wc=wx at *;have HZ:=Hd hz;have HG:=Hd hg;have Ap:=Hd Av;have q0:=HX.o wx Av 0;simp only [Ya,Yb,Yc] at q0;clear hz hg Av Am HD HQ d0 d1 d2 d3 d4 p1 q2
  go_upto_region 7 with(fail)
  go_cut [12,13,14] (fun Ch Bp Bt wy=>Bt=.bool rs/\Bp=.int .i64 rc/\∃ g2,Ch=.pointer (some ⟨g2,0,none⟩)/\wx.heap.size<=g2/\F3 38 wy g2 ra rb 0/\Below wx.heap.size wx wy)
  case first=>
   have HL:=Hd (show ∀ wb,Below wx.heap.size wx wb->wb.cell? ⟨w.heap.size,0,none⟩=some (.slice E p.es.length ec)/\wb.cell? ⟨w.heap.size+1,4,none⟩=some (.slice (some ⟨ab,ao,none⟩) x.arms.length ca)/\wb.cell? ⟨ab,ao,none⟩=some (.string ar)/\Below w.heap.size w wb from
    fun wb hb=>by
     have h0:=Ap.o.trans (hb.mono Ap.o.size);have h1:=Ag.o.trans (h0.mono Ag.o.size);exact⟨HP.o wb h0 0,HX.o wb h0 4,Cd.o wb h1,h1⟩)
   refine lO (l:=[_,_,_,_,_,_,_,_,_,_,_,_,_,_,_]) 11 12 _ _ (d:=12) (tx:=58) (T:=38) (zc:=aC 0 0 0) (by kernel_rfl) rfl rfl (by kernel_rfl) rfl (by simp) (fun a W=>by rfl) rfl (by kernel_rfl) ?_
   repeat
    first
    | refine lW rfl ?_
    | (apply lV rfl rfl (by simp)
       case h1=>
        intro wb hb;obtain⟨m0,m1,m2,m3⟩:=HL.o wb (cI hb);have l0:=fun d os=>Zr m0 d os;have l1:=fun d os=>Zr m1 d os;have l2:=fun d os=>Zr m2 d os;have cA:=fun d os=>Zh (As.o (grow (redrawn wb d) os) (m3.trans ((Zs wb d os).mono m3.size)));clear m3
        go_big_quiet_step (with_reducible exact cA _ _)
        exact Xf rfl
       simp only [Act.put,Yd,Ye,Yf])
   refine⟨aC ra rb 0,rfl,rfl,by simp [aC,Value.oneCell'],fun W g2 hW hg hz=>?_⟩;have Ah:=Hd (cI hW);have Cc:=Hd hz;have Cb:=Hd hg;clear hW hg hz
   go_wp2_with fail
   go_meet
   case rel=>exact⟨rfl,rfl,g2,rfl,Cb.o,Cc.o,Ah.o⟩
  case rest=>
   obtain⟨rfl,rfl,g2,rfl,Bx,Bg,Aw⟩:=hcut;generalize wc=wy at *;have Aj:=Ap.o.trans (Aw.mono Ap.o.size);have Aq:=Ag.o.trans (Aj.mono Ag.o.size);obtain⟨a0,a1,a2⟩:=Be.o wy Aq;have Ar:jO wy g dd:=(Aw.block g (Yl.1 HZ.o).1).trans HZ.o;have Bk:F3 38 wy (w.heap.size+1+1) 0 0 0:=HR.o.below Aj;have Ce:=(Yl.1 HZ.o).1;have Bz:=HR.o.lt;have Ab:sb≠w.heap.size+1+1:=by omega
   have Ac:g≠w.heap.size+1+1:=by have:=HG.o;omega
   have Aa:g2≠w.heap.size+1+1:=by have:=Ap.o.size;omega
   have k1:=gV Ar 1;have k2:=gV Ar 2;have k3:=gV Ar 3;obtain⟨f0,f1,f2,-,-,-⟩:=Sx Bg.cell;simp only [bC,aC,List.getElem?_toArray,Yz,Zb] at k1 k2 k3 f0 f1 f2;have Al:=Hd Bk;have Ah:=Hd Aq;have Cl:=Hd Aq.size;have Ak:=Hd (show w.heap.size<=w.heap.size+1+1 by omega);clear Bk Aq Aj Aw Bx Bg Ar Ce Bz q0
   go_upto_region 8 with(fail)
   have Cm:0<m:=hm
   cases ds with
   | false=>
    have Ad:=Hd (show o=none by rw [<- HO.o];exact aPq Bh.o);refine bZ (l1:=[_,_,_,_,_,_,_,_,_,_,_,_,_]) (os:=_) (l2:=[_]) (p:=8) (tx:=63) (r:=w.heap.size+1+1) (T:=38) (zc:=aC 0 0 0) (by kernel_rfl) (by kernel_rfl) rfl Al.o rfl bW ?_
    repeat
     apply bR rfl (by simp)
     case h1=>
      intro wb hb;have l0:=fun d os=>Zr (aD hb Ab a0) d os;have l1:=fun d os=>Zr (aD hb Ab a1) d os;have l2:=fun d os=>Zr (aD hb Ab a2) d os;have l3:=fun d os=>Zr (aD hb Ac k1) d os;have l4:=fun d os=>Zr (aD hb Ac k2) d os;have l5:=fun d os=>Zr (aD hb Ac k3) d os;have l6:=fun d os=>Zr (aD hb Aa f0) d os;have l7:=fun d os=>Zr (aD hb Aa f1) d os;have l8:=fun d os=>Zr (aD hb Aa f2) d os
      go_big_quiet_step (fail)
      refine Xf ?_;simp only [List.getElem?_toArray,Zb,Yz];exact rfl
     simp only [Act.put,Yd,Ye,Yf]
    refine⟨aC x0 x1 x2,rfl,rfl,by simp [aC,Value.oneCell'],fun W hB hz=>?_⟩;have Ae:=Hd (bF hB Ah.o (Yh _) Ak.o);have Af:=Hd hz;clear hB hz
    go_wp2_with fail
    exact Zt (aL (p:=8) (u:=9) rfl _ _ (w.heap.size+1+1) x0 x1 x2 rfl Af.o) rfl ⟨x0,x1,x2,(by rw [Ad.o];rfl),fun t ht=>(by rw [Ad.o] at ht;cases ht),Ae.o⟩
   | true=>
    cases rs with
    | false=>
     have Ad:=Hd (show o=none by rw [<- HO.o];exact aPr Bf.o);refine bZ (l1:=[_,_,_,_,_,_,_,_,_,_,_,_,_]) (os:=_) (l2:=[_]) (p:=8) (tx:=63) (r:=w.heap.size+1+1) (T:=38) (zc:=aC 0 0 0) (by kernel_rfl) (by kernel_rfl) rfl Al.o rfl bW ?_
     repeat
      apply bR rfl (by simp)
      case h1=>
       intro wb hb;have l0:=fun d os=>Zr (aD hb Ab a0) d os;have l1:=fun d os=>Zr (aD hb Ab a1) d os;have l2:=fun d os=>Zr (aD hb Ab a2) d os;have l3:=fun d os=>Zr (aD hb Ac k1) d os;have l4:=fun d os=>Zr (aD hb Ac k2) d os;have l5:=fun d os=>Zr (aD hb Ac k3) d os;have l6:=fun d os=>Zr (aD hb Aa f0) d os;have l7:=fun d os=>Zr (aD hb Aa f1) d os;have l8:=fun d os=>Zr (aD hb Aa f2) d os
       go_big_quiet_step (fail)
       refine Xf ?_;simp only [List.getElem?_toArray,Zb,Yz];exact rfl
      simp only [Act.put,Yd,Ye,Yf]
     refine⟨aC x0 x1 x2,rfl,rfl,by simp [aC,Value.oneCell'],fun W hB hz=>?_⟩;have Ae:=Hd (bF hB Ah.o (Yh _) Ak.o);have Af:=Hd hz;clear hB hz
     go_wp2_with fail
     exact Zt (aL (p:=8) (u:=9) rfl _ _ (w.heap.size+1+1) x0 x1 x2 rfl Af.o) rfl ⟨x0,x1,x2,(by rw [Ad.o];rfl),fun t ht=>(by rw [Ad.o] at ht;cases ht),Ae.o⟩
    | true=>
     have Ai:=Hd (aPs (t:=(x0,x1,x2)) Bh.o Bf.o Bv.o Bq.o Cj.o);rcases iC ra rb 0 dd.k dd.e dd.l with⟨h1,h2,h3,he⟩|⟨h1,he⟩|⟨h1',h1,he⟩|⟨h1',h2',h1,he⟩
     . have Ad:=Hd (show o=some (x0,x1,x2) by rw [<- HO.o,Ai.o,if_pos he]);clear he Ai;subst h1 h2;rw [<- h3] at k3;clear h3;generalize dd.k=dk at *;generalize dd.e=de at *;refine bZ (l1:=[_,_,_,_,_,_,_,_,_,_,_,_,_]) (os:=_) (l2:=[_]) (p:=8) (tx:=63) (r:=w.heap.size+1+1) (T:=38) (zc:=aC 0 0 0) (by kernel_rfl) (by kernel_rfl) rfl Al.o rfl bW ?_
       repeat
        apply bR rfl (by simp)
        case h1=>
         intro wb hb;have l0:=fun d os=>Zr (aD hb Ab a0) d os;have l1:=fun d os=>Zr (aD hb Ab a1) d os;have l2:=fun d os=>Zr (aD hb Ab a2) d os;have l3:=fun d os=>Zr (aD hb Ac k1) d os;have l4:=fun d os=>Zr (aD hb Ac k2) d os;have l5:=fun d os=>Zr (aD hb Ac k3) d os;have l6:=fun d os=>Zr (aD hb Aa f0) d os;have l7:=fun d os=>Zr (aD hb Aa f1) d os;have l8:=fun d os=>Zr (aD hb Aa f2) d os
         go_big_quiet_step (fail)
         refine Xf ?_;simp only [List.getElem?_toArray,Zb,Yz];exact rfl
        simp only [Act.put,Yd,Ye,Yf]
       refine⟨aC x0 x1 x2,rfl,rfl,by simp [aC,Value.oneCell'],fun W hB hz=>?_⟩;have Ae:=Hd (bF hB Ah.o (Yh _) Ak.o);have Af:=Hd hz;clear hB hz
       go_wp2_with fail
       exact Zt (aL (p:=8) (u:=9) rfl _ _ (w.heap.size+1+1) x0 x1 x2 rfl Af.o) rfl ⟨x0,x1,x2,(by rw [Ad.o];rfl),fun t ht=>(by rw [Ad.o] at ht;exact(Option.some.inj ht).symm),Ae.o⟩
     . have Ad:=Hd (show o=none by rw [<- HO.o,Ai.o,if_neg he]);have Ao:=h1;simp only [Xa,ne_eq] at Ao;clear he Ai;refine bZ (l1:=[_,_,_,_,_,_,_,_,_,_,_,_,_]) (os:=_) (l2:=[_]) (p:=8) (tx:=63) (r:=w.heap.size+1+1) (T:=38) (zc:=aC 0 0 0) (by kernel_rfl) (by kernel_rfl) rfl Al.o rfl bW ?_
       repeat
        apply bR rfl (by simp)
        case h1=>
         intro wb hb;have l0:=fun d os=>Zr (aD hb Ab a0) d os;have l1:=fun d os=>Zr (aD hb Ab a1) d os;have l2:=fun d os=>Zr (aD hb Ab a2) d os;have l3:=fun d os=>Zr (aD hb Ac k1) d os;have l4:=fun d os=>Zr (aD hb Ac k2) d os;have l5:=fun d os=>Zr (aD hb Ac k3) d os;have l6:=fun d os=>Zr (aD hb Aa f0) d os;have l7:=fun d os=>Zr (aD hb Aa f1) d os;have l8:=fun d os=>Zr (aD hb Aa f2) d os
         go_big_quiet_step (fail)
         refine Xf ?_;simp only [List.getElem?_toArray,Zb,Yz];exact rfl
        simp only [Act.put,Yd,Ye,Yf]
       refine⟨aC x0 x1 x2,rfl,rfl,by simp [aC,Value.oneCell'],fun W hB hz=>?_⟩;have Ae:=Hd (bF hB Ah.o (Yh _) Ak.o);have Af:=Hd hz;clear hB hz
       go_wp2_with fail
       exact Zt (aL (p:=8) (u:=9) rfl _ _ (w.heap.size+1+1) x0 x1 x2 rfl Af.o) rfl ⟨x0,x1,x2,(by rw [Ad.o];rfl),fun t ht=>(by rw [Ad.o] at ht;cases ht),Ae.o⟩
     . have Ad:=Hd (show o=none by rw [<- HO.o,Ai.o,if_neg he]);have Ao:=h1;simp only [Xa,ne_eq] at Ao;clear he Ai;subst h1';refine bZ (l1:=[_,_,_,_,_,_,_,_,_,_,_,_,_]) (os:=_) (l2:=[_]) (p:=8) (tx:=63) (r:=w.heap.size+1+1) (T:=38) (zc:=aC 0 0 0) (by kernel_rfl) (by kernel_rfl) rfl Al.o rfl bW ?_
       repeat
        apply bR rfl (by simp)
        case h1=>
         intro wb hb;have l0:=fun d os=>Zr (aD hb Ab a0) d os;have l1:=fun d os=>Zr (aD hb Ab a1) d os;have l2:=fun d os=>Zr (aD hb Ab a2) d os;have l3:=fun d os=>Zr (aD hb Ac k1) d os;have l4:=fun d os=>Zr (aD hb Ac k2) d os;have l5:=fun d os=>Zr (aD hb Ac k3) d os;have l6:=fun d os=>Zr (aD hb Aa f0) d os;have l7:=fun d os=>Zr (aD hb Aa f1) d os;have l8:=fun d os=>Zr (aD hb Aa f2) d os
         go_big_quiet_step (fail)
         refine Xf ?_;simp only [List.getElem?_toArray,Zb,Yz];exact rfl
        simp only [Act.put,Yd,Ye,Yf]
       refine⟨aC x0 x1 x2,rfl,rfl,by simp [aC,Value.oneCell'],fun W hB hz=>?_⟩;have Ae:=Hd (bF hB Ah.o (Yh _) Ak.o);have Af:=Hd hz;clear hB hz
       go_wp2_with fail
       exact Zt (aL (p:=8) (u:=9) rfl _ _ (w.heap.size+1+1) x0 x1 x2 rfl Af.o) rfl ⟨x0,x1,x2,(by rw [Ad.o];rfl),fun t ht=>(by rw [Ad.o] at ht;cases ht),Ae.o⟩
     . have Ad:=Hd (show o=none by rw [<- HO.o,Ai.o,if_neg he]);have Ao:=h1;simp only [Xa,ne_eq] at Ao;clear he Ai;subst h1' h2';refine bZ (l1:=[_,_,_,_,_,_,_,_,_,_,_,_,_]) (os:=_) (l2:=[_]) (p:=8) (tx:=63) (r:=w.heap.size+1+1) (T:=38) (zc:=aC 0 0 0) (by kernel_rfl) (by kernel_rfl) rfl Al.o rfl bW ?_
       repeat
        apply bR rfl (by simp)
        case h1=>
         intro wb hb;have l0:=fun d os=>Zr (aD hb Ab a0) d os;have l1:=fun d os=>Zr (aD hb Ab a1) d os;have l2:=fun d os=>Zr (aD hb Ab a2) d os;have l3:=fun d os=>Zr (aD hb Ac k1) d os;have l4:=fun d os=>Zr (aD hb Ac k2) d os;have l5:=fun d os=>Zr (aD hb Ac k3) d os;have l6:=fun d os=>Zr (aD hb Aa f0) d os;have l7:=fun d os=>Zr (aD hb Aa f1) d os;have l8:=fun d os=>Zr (aD hb Aa f2) d os
         go_big_quiet_step (fail)
         refine Xf ?_;simp only [List.getElem?_toArray,Zb,Yz];exact rfl
        simp only [Act.put,Yd,Ye,Yf]
       refine⟨aC x0 x1 x2,rfl,rfl,by simp [aC,Value.oneCell'],fun W hB hz=>?_⟩;have Ae:=Hd (bF hB Ah.o (Yh _) Ak.o);have Af:=Hd hz;clear hB hz
       go_wp2_with fail
       exact Zt (aL (p:=8) (u:=9) rfl _ _ (w.heap.size+1+1) x0 x1 x2 rfl Af.o) rfl ⟨x0,x1,x2,(by rw [Ad.o];rfl),fun t ht=>(by rw [Ad.o] at ht;cases ht),Ae.o⟩
end
section
open Go.RowKit Go.Sort Go.BigFrame
theorem aDp{p:Pg}{x:Ex}{ts:List T3}{j:Nat}(h:fB p x ts=some j):j<p.ns.length:=by
 unfold fB at h;rcases tY p x.s with e | ⟨k,e,hk⟩
 . rw [e] at h
   simp at h
 . rw [e] at h
   split at h
   . cases h
   . split at h
     . cases h
     . split at h
       . cases h
       . split at h
         . injection h with h;omega
         . cases h
def jN(o:Option Nat):Int:=match o with | none=>0 | some k=>(k:Int)
theorem aDq(o:Option Nat):aFt o=.tuple #[.int .i64 (jN o),.bool o.isSome]:=by cases o <;> rfl
theorem aBf{o:Option Nat}(h:o.isSome=true):∃ j,o=some j:=by cases o with | none=>cases h | some j=>exact⟨j,rfl⟩
def vB(p:Pg) (oj:Option Nat):Option T3:=match oj with | none=>none | some j=>if(aA p j).outs.length=1 then some (aO ((aA p j).outs[0]?.getD default)) else none
theorem aKl(p:Pg) (E:Option Addr) (ec:Nat) (N:Option Addr) (nc:Nat) (i:Nat) (x:Ex) (A:Option Addr) (ca:Nat) (B:Option Addr) (cb:Nat) (S:Option Addr) (m sc:Nat) (ts:List T3) (w:World) (h:cW w p E N) (hr:aJ w x A B) (hS:aM w S m ts) (hk:x.k=13) (Br:x.n=0\/x.n=1) (hi:i<p.ns.length) (Bj:(aA p i).all.length<=1000) (o:Option T3) (ho:vB p (fB p x ts)=o):
 Calls Tryz.prog 81 #[.agg (aP p E ec N nc),.int .i64 i,.agg (aE x A ca B cb),.slice S m sc] w (eV w o):=by
 have HF:=Hd fun w0 h=>lA (w:=w) (w0:=w0) (p:=p) (E:=E) (ec:=ec) (N:=N) (nc:=nc) (x:=x) (A:=A) (ca:=ca) (B:=B) (cb:=cb) (T:=25) (U:=35) (V:=38) h;obtain⟨nb,no,A1,c1,A2,c2,A3,c3,A4,c4,rfl,Ah,Bb,d0,d1,d2,d3,d4⟩:=iN h.2 hi;have Ag:=Hd fun w1 (hb:Below w.heap.size w w1)=>oY (aA p i) A1 c1 A2 c2 A3 c3 A4 c4 x.s w1 (Bb.below hb) Bj;have Ae:=Hd fun w1 (hb:Below w.heap.size w w1)=>aCg p E ec (some ⟨nb,no,none⟩) nc x A ca B cb S m sc ts w1 (h.below hb) (hS.below hb) Br;have Bq:=Hd fun j (hj:fB p x ts=some j)=>aDp hj;have Ar:=Hd fun j (hj:j<p.ns.length)=>(show ∃ A2 c2,cJ w (aA p j) (some ⟨0,0,none⟩) A2 (some ⟨0,0,none⟩) (some ⟨0,0,none⟩)\/True from⟨none,0,.inr trivial⟩);clear Ar;have Bf:=Hd h.2;clear hS;generalize Bx:fB p x ts=oj at *;simp only [aDq] at Ae;generalize Bg:jN oj=jv at *;generalize Ba:oj.isSome=js at *;have Bm:=Hd Bg;have Bc:=Hd Ba;clear Bg Ba Bx;unfold aA at Ag;unfold mB nG at Ag;generalize Bn:aW (p.ns[i]?.getD default) x.s=od at *;generalize Bl:p.ns[i]?.getD default=nd at *;unfold bL at Ag;unfold aE at HF Ae ⊢;unfold aP at HF Ae ⊢;rw [hk] at HF Ae ⊢
 have HD:=Hd (show ∀ w1,Below w.heap.size w w1->w1.cell? ⟨nb,no+i*5,none⟩=some (.string nd.nm)/\w1.cell? ⟨nb,no+i*5+1,none⟩=some (.slice A1 nd.ins.length c1)/\w1.cell? ⟨nb,no+i*5+2,none⟩=some (.slice A2 nd.outs.length c2)/\w1.cell? ⟨nb,no+i*5+3,none⟩=some (.slice A3 nd.vars.length c3)/\w1.cell? ⟨nb,no+i*5+4,none⟩=some (.slice A4 nd.eqs.length c4) from
  fun w1 hb=>⟨(hb.cell (p:=⟨nb,no+i*5,none⟩) Ah).trans d0,(hb.cell (p:=⟨nb,no+i*5+1,none⟩) Ah).trans d1,(hb.cell (p:=⟨nb,no+i*5+2,none⟩) Ah).trans d2,(hb.cell (p:=⟨nb,no+i*5+3,none⟩) Ah).trans d3,(hb.cell (p:=⟨nb,no+i*5+4,none⟩) Ah).trans d4⟩)
 clear d0 d1 d2 d3 d4 Bb hk h hr;generalize Bk:od.getD default=dd at *;generalize Az:od.isSome=ds at *;unfold bC at Ag;have HO:=Hd (show vB p oj=o from ho);have Cg:=Hd Bk;have Cb:=Hd Az;clear ho Bk Az Bn Bl
 go_enter Tryz.func81,Tryz.ntmps81
 go_upto_region 1 with(fail)
 generalize Ax:((w.alloc _).alloc _).alloc _=w0;obtain⟨Aw,Bp,hp,hx,hR⟩:=HF.o w0 Ax;have Ac:=Hd Aw;have HR:=Hd hR;have HP:=Hd hp;have HX:=Hd hx;have q0:=hx w0 (Yg _ _) 0;have q2:=hx w0 (Yg _ _) 2;have p1:=hp w0 (Yg _ _) 1;simp only [Ya,Yb,Yc] at q0 q2 p1;obtain⟨d0,d1,d2,d3,d4⟩:=HD.o w0 Aw;have HQ:=Hd (show ∀ w1,Below w0.heap.size w0 w1->w1.cell? ⟨w.heap.size,1,none⟩=some (.slice (some ⟨nb,no,none⟩) p.ns.length nc)/\w1.cell? ⟨w.heap.size+1,2,none⟩=some (.string x.s)/\w1.cell? ⟨nb,no+i*5,none⟩=some (.string nd.nm)/\w1.cell? ⟨nb,no+i*5+1,none⟩=some (.slice A1 nd.ins.length c1)/\w1.cell? ⟨nb,no+i*5+2,none⟩=some (.slice A2 nd.outs.length c2)/\w1.cell? ⟨nb,no+i*5+3,none⟩=some (.slice A3 nd.vars.length c3)/\w1.cell? ⟨nb,no+i*5+4,none⟩=some (.slice A4 nd.eqs.length c4) from fun w1 hb=>⟨HP.o w1 hb 1,HX.o w1 hb 2,HD.o w1 (Ac.o.trans (hb.mono Ac.o.size))⟩);clear Ax Aw Bp hp hx hR HF
 go_upto_region 5 with(fail)
 go_cut [10,11] (fun Bw Bt wx=>Bt=.bool ds/\∃ g,Bw=.pointer (some ⟨g,0,none⟩)/\w0.heap.size<=g/\jO wx g dd/\Below w0.heap.size w0 wx)
 case first=>
  have HL:=Hd (show ∀ wb,bY w0 wb->_ from fun wb hb=>HQ.o wb (cI hb));have Bo:=Hd (show ∀ wb,bY w0 wb->∀ d os,_ from fun wb hb d os=>Zh (Ag.o (grow (redrawn wb d) os) ((Ac.o.trans ((cI hb).mono Ac.o.size)).trans ((Zs wb d os).mono (Ac.o.trans ((cI hb).mono Ac.o.size)).size))));refine vN (l1:=[_,_,_,_,_,_,_,_,_,_,_]) (oa:=_) (os:=_) (l2:=[_]) (d:=10) (tx:=45) (T:=58) (zc:=pT) (by kernel_rfl) (by kernel_rfl) rfl (by simp) (fun a W=>by rfl) rfl (by kernel_rfl) ?_
  repeat
   apply bR rfl (by simp)
   case h1=>
    intro wb hb;obtain⟨m0,m1,m2,m3,m4,m5,m6⟩:=HL.o wb hb;have l0:=fun d os=>Zr m0 d os;have l1:=fun d os=>Zr m1 d os;have l2:=fun d os=>Zr m2 d os;have l3:=fun d os=>Zr m3 d os;have l4:=fun d os=>Zr m4 d os;have l5:=fun d os=>Zr m5 d os;have l6:=fun d os=>Zr m6 d os;have cA:=Bo.o wb hb
    go_big_quiet_step (with_reducible exact cA _ _)
    exact Xf rfl
   simp only [Act.put,Yd,Ye,Yf]
  refine⟨bC dd,rfl,rfl,by simp [bC,Value.oneCell'],fun W g hW hg hz=>?_⟩;have Aj:=Hd (cI hW);have HZ:=Hd hz;have HG:=Hd hg;clear hW hg hz
  go_wp2_with fail
  go_meet
  case rel=>exact⟨rfl,g,rfl,HG.o,HZ.o,Aj.o⟩
 case rest=>
  obtain⟨rfl,g,rfl,hg,hz,Aa⟩:=hcut;generalize wc=wx at *;have HZ:=Hd hz;have HG:=Hd hg;have Cc:=Hd Aa;obtain⟨q0,q1,q2,q3,q4,q5⟩:=Sx (HX.o wx Aa);have p0:=HP.o wx Aa 0;have p1:=HP.o wx Aa 1;simp only [Ya,Yb,Yc] at q0 q1 q2 q3 q4 q5 p0 p1;have Am:=Ac.o.trans (Aa.mono Ac.o.size);have Aj:=Hd Am;have Bh:=Hd (show ∀ W,Below wx.heap.size wx W->W.cell? ⟨w.heap.size,1,none⟩=some (.slice (some ⟨nb,no,none⟩) p.ns.length nc) from fun W h=>HP.o W (Aa.trans (h.mono Aa.size)) 1);have Bd:=Hd (show F3 38 wx (w.heap.size+1+1) 0 0 0 from HR.o.below Aa);have Be:=Hd (Ae.o wx Am);clear hz hg Aa Ag HD HQ d0 d1 d2 d3 d4 Am Ae HP HX HR
  go_wp2_with fail
  refine Be.o.mono ?_;rintro e wy ⟨rfl,Ak⟩;have Af:=Hd (Bd.o.below Ak);have Ad:=Hd (Aj.o.trans (Ak.mono Aj.o.size))
  have Cd:=Bh.o wy Ak
  clear Ak q0 q1 q2 q3 q4 q5 p0 p1 Be Bh Bd
  cases js with
  | false=>
   have Ab:=Hd (show o=none by rw [<- HO.o];have h:=Bc.o;cases oj with | none=>rfl | some j=>cases h)
   go_upto_region 13 with(fail)
   go_wp2_with (refine Zu rfl _ _ _ rfl (w.heap.size+1+1) _ rfl rfl _ _ Af.o bM rfl (by simp [Value.oneCell']) ?_)
   exact Zt (aL (p:=8) (u:=9) rfl _ _ (w.heap.size+1+1) 0 0 0 rfl (Af.o.set _ _ _)) rfl ⟨0,0,0,(by rw [Ab.o];rfl),fun t ht=>(by rw [Ab.o] at ht;cases ht),Xb Ad.o (by omega) _⟩
  | true=>
   obtain⟨j,Bu⟩:=aBf Bc.o;subst Bu;have hj:=Bq.o j rfl;obtain rfl:(j:Int)=jv:=Bm.o;obtain⟨Cf,Ca,B1,e1,B2,e2,B3,e3,B4,e4,Ap,As,Ai,f0,f1,f2,f3,f4⟩:=iN Bf.o hj;injection Ap with Ap;injection Ap with Au Av;subst Au Av;have Ay:p.ns[j]?.getD default=aA p j:=rfl;have Ao:=Hd (show cH w B2 (aA p j).outs.length (aA p j).outs from Ai.2.1);rw [Ay] at f2;have g2:=(Ad.o.cell (p:=⟨nb,no+j*5+2,none⟩) As).trans f2;have Al:=Hd (show(if(aA p j).outs.length=1 then some (aO ((aA p j).outs[0]?.getD default)) else none)=o from HO.o);clear f0 f1 f2 f3 f4 Ai Ay Bj hi;have Bz:=aQ.max Bf.o;generalize (aA p j).outs=ol at *;generalize p.ns.length=pn at *
   by_cases h1:ol.length=1
   . have Aq:=Ao.o;rw [h1] at Aq g2;obtain⟨ob,oo,rfl,An,Bi⟩:=uY Aq (i:=0) (by omega);obtain⟨s0,s1,s2⟩:=Bi 0 (by omega);have t0:=(Ad.o.cell (p:=⟨ob,oo+0*6+1,none⟩) An).trans s0;have t1:=(Ad.o.cell (p:=⟨ob,oo+0*6+2,none⟩) An).trans s1;have t2:=(Ad.o.cell (p:=⟨ob,oo+0*6+3,none⟩) An).trans s2;simp only [Nat.zero_mul,Nat.add_zero] at t0 t1 t2;have Ab:=Hd (show o=some (aO (ol[0]?.getD default)) by rw [<- Al.o,if_pos h1]);clear s0 s1 s2 Bi h1 Al HO Aq Ao;generalize aO (ol[0]?.getD default)=ty at *;obtain⟨y0,y1,y2⟩:=ty
     dsimp only at t0 t1 t2
     go_upto_region 14 with(fail)
     go_wp2_with (refine Zu rfl _ _ _ rfl (w.heap.size+1+1) _ rfl rfl _ _ Af.o bM rfl (by simp [Value.oneCell']) ?_)
     exact Zt (aL (p:=8) (u:=9) rfl _ _ (w.heap.size+1+1) y0 y1 y2 rfl (Af.o.set _ _ _)) rfl ⟨y0,y1,y2,(by rw [Ab.o];rfl),fun t ht=>(by rw [Ab.o] at ht;injection ht with ht;exact ht.symm),Xb Ad.o (by omega) _⟩
   . have Ab:=Hd (show o=none by rw [<- Al.o,if_neg h1]);have Ce:((ol.length:Int) != 1)=true:=bne_iff_ne.2 (by omega);have Bv:(ol.length==1)=false:=Xa.2 h1;clear h1 Al HO Ao;generalize ol.length=on at *
     go_upto_region 13 with(fail)
     go_wp2_with (refine Zu rfl _ _ _ rfl (w.heap.size+1+1) _ rfl rfl _ _ Af.o bM rfl (by simp [Value.oneCell']) ?_)
     exact Zt (aL (p:=8) (u:=9) rfl _ _ (w.heap.size+1+1) 0 0 0 rfl (Af.o.set _ _ _)) rfl ⟨0,0,0,(by rw [Ab.o];rfl),fun t ht=>(by rw [Ab.o] at ht;cases ht),Xb Ad.o (by omega) _⟩
end
end Go.Proofs.YtegjgiofmpolnaaGreat
