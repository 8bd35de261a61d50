/- Parts of the proof: TqF, PiG, PiH. Conditions: each theorem's own. -/
import Derived.Test.YtegjgiofmpolnaaGreatC21
import Derived.Test.YtegjgiofmpolnaaGreatC28
namespace Go.Proofs.YtegjgiofmpolnaaGreat
set_option linter.unusedVariables false
set_option linter.unusedSimpArgs false
set_option maxRecDepth 100000
set_option maxHeartbeats 40000000
section
open Go.RowKit Go.Sort Go.BigFrame
theorem aG{W:World}{g r j:Nat}{x y z:Value}(hn:g≠r):(((W.setCell ⟨r,0,none⟩ x).setCell ⟨r,1,none⟩ y).setCell ⟨r,2,none⟩ z).cell? ⟨g,j,none⟩=W.cell? ⟨g,j,none⟩ :=
 Ym (a:=⟨g,j,none⟩) (by rw [Below.heap_setCell _ _ _ _ (by exact hn),Below.heap_setCell _ _ _ _ (by exact hn),Below.heap_setCell _ _ _ _ (by exact hn)])
theorem aSj(p:Pg) (E:Option Addr) (ec:Nat) (N:Option Addr) (nc:Nat) (i:Nat) (x:Ex) (A:Option Addr) (ca:Nat) (B:Option Addr) (cb:Nat) (w:World) (h:cW w p E N) (hr:aJ w x A B) (hk:x.k=8) (h2:2<=x.subs.length) (Br:bG (aU x 0)<=1000000) (Ax:∀ q∈bI (aU x 0),cL q) (ou:Option T3)
 (Ay:∀ A' Cw B' Cp w1,Below w.heap.size w w1->aJ w (aU x 1) A' B'->Calls Tryz.prog 14 #[.agg (aP p E ec N nc),.int .i64 i,.agg (aE (aU x 1) A' Cw B' Cp)] w1 (aZ w1 ou)) (o:Option T3) (ho:rC (dL p.es (aU x 0)) ou=o):
 Calls Tryz.prog 42 #[.agg (aP p E ec N nc),.int .i64 i,.agg (aE x A ca B cb)] w (eV w o):=by
 have HF:=Hd fun w0 h=>lA (w:=w) (w0:=w0) (p:=p) (E:=E) (ec:=ec) (N:=N) (nc:=nc) (x:=x) (A:=A) (ca:=ca) (B:=B) (cb:=cb) (T:=25) (U:=35) (V:=38) h;obtain⟨b,Ae,rfl,hb,Bf⟩:=hr.sub (i:=0) (by omega);obtain⟨A0,Bx,B0,Bj,Aw,Au⟩:=Bf 0 (by omega);obtain⟨A1,Cv,B1,Cu,As,Ar⟩:=Bf 1 (by omega);have HC:=Hd fun w1 (hb:Below w.heap.size w w1)=>aBg E p.es.length ec p.es (aU x 0) A0 Bx B0 Bj w1 (h.1.below hb) (Au.below hb) Br Ax;have HU:=Hd fun w1 (hb:Below w.heap.size w w1)=>Ay A1 Cv B1 Cu w1 hb Ar;have Bk:=Hd fun w1 (Am:Below w.heap.size w w1)=>eG (jH Aw hb fun p hp=>Am.cell hp);have Bv:=Hd fun w1 (Am:Below w.heap.size w w1)=>eG (jH As hb fun p hp=>Am.cell hp);unfold jI aC at HC;unfold aZ aC at HU;generalize Da:dL p.es (aU x 0)=oc at *;clear Bf Aw As Au Ar Ay Br Ax h hr Da;generalize aU x 0=y at *;generalize aU x 1=z at *;unfold aP aE at HF ⊢;unfold aP aE at HU;unfold aE at HC;rw [hk] at HF ⊢;generalize p.es.length=pe at *;generalize p.ns.length=pn at *;generalize x.subs.length=m at *
 go_enter Tryz.func42,Tryz.ntmps42
 go_upto_region 1 with(fail)
 generalize Bl:((w.alloc _).alloc _).alloc _=w0;obtain⟨Bh,Cs,hp,hx,hR⟩:=HF.o w0 Bl;have Bc:=Hd Bh;have HR:=Hd hR;have HP:=Hd hp;have HX:=Hd hx;have p0:=hp w0 (Yg _ _) 0;have p1:=hp w0 (Yg _ _) 1;obtain⟨q0,q1,q2,q3,q4,q5⟩:=Sx (hx w0 (Yg _ _));simp only [Ya,Yb,Yc] at p0 p1 q0 q1 q2 q3 q4 q5;clear Bl Cs hp hx hR HF;obtain⟨c0,c1,c2,c3,c4,c5⟩:=Bk.o w0 Bh;simp only [Nat.zero_mul,Nat.add_zero] at c0 c1 c2 c3 c4 c5;have Df:0<m:=by omega
 have De:1<m:=by omega
 have Ag:b<w0.heap.size:=Yi _ _ c0;have Ce:w.heap.size<w0.heap.size:=Yi _ _ p0;have Cc:w.heap.size+1<w0.heap.size:=Yi _ _ q5;have Al:=Hd (show Below w.heap.size w (w0.drewN 1) from Bc.o.trans ((aY (Yg w0.heap.size w0) 1).mono Bc.o.size));have Av:=Hd (show Below w.heap.size w ((w0.drewN 1).alloc (.cells (aC 0 0 0) 38)) from Al.o.alloc Al.o.size _);clear Bh q1 q2 q3 q4 p1
 go_upto_region 11 with(fail)
 go_cut [13,14,15] (fun Cl Cn Cm wx=>Cm=.bool oc.isSome/\∃ S n c g,Cl=.slice S n c/\Cn=.pointer (some ⟨g,0,none⟩)/\w0.heap.size<=g/\(∃ a1 a2 a3 vs,F3 38 wx g a1 a2 a3/\∀ r,oc=some r->r=(vs,(a1,a2,a3)))/\Below w0.heap.size w0 wx)
 case first=>
  go_region_held3 (fun W=>W.cell? ⟨w.heap.size,0,none⟩=some (.slice E pe ec)/\W.cell? ⟨w.heap.size+1,5,none⟩=some (.slice (some ⟨b,Ae,none⟩) m cb)/\W.cell? ⟨b,Ae,none⟩=some (.int .i64 y.k)/\W.cell? ⟨b,Ae+1,none⟩=some (.int .i64 y.n)/\W.cell? ⟨b,Ae+2,none⟩=some (.string y.s)/\W.cell? ⟨b,Ae+3,none⟩=some (.int .i64 y.op)/\W.cell? ⟨b,Ae+4,none⟩=some (.slice A0 y.arms.length Bx)/\W.cell? ⟨b,Ae+5,none⟩=some (.slice B0 y.subs.length Bj)) (first | exact⟨p0,q5,c0,c1,c2,c3,c4,c5⟩ | exact⟨Ci,Cg,Ca,Bn,Cb,Bt,Cj,Bu⟩ | exact⟨(aG (Nat.ne_of_lt Ce)).trans Ci,(aG (Nat.ne_of_lt Cc)).trans Cg,(aG (Nat.ne_of_lt Ag)).trans Ca,(aG (Nat.ne_of_lt Ag)).trans Bn,(aG (Nat.ne_of_lt Ag)).trans Cb,(aG (Nat.ne_of_lt Ag)).trans Bt,(aG (Nat.ne_of_lt Ag)).trans Cj,(aG (Nat.ne_of_lt Ag)).trans Bu⟩ | go_keep)
   ((first
     | (go_at_call 18;refine(HC.o _ (by first | exact Al.o | exact Av.o)).mono ?_;rintro r Wa ⟨S,n,c,a1,a2,a3,vs,rfl,-,-,-,⟨hv,-⟩,Be⟩;have HV:=Hd hv;have Ak:Below w0.heap.size w0 Wa:=(by first | exact(aY (Yg w0.heap.size w0) 1).trans (Be.mono (Yh _)) | exact((aY (Yg w0.heap.size w0) 1).alloc (Yh _) (.cells (aC 0 0 0) 38)).trans (Be.mono (by simp)));have Ba:=Hd Ak;have Ci:=(Ak.cell (p:=⟨w.heap.size,0,none⟩) Ce).trans p0;have Cg:=(Ak.cell (p:=⟨w.heap.size+1,5,none⟩) Cc).trans q5;have Ca:=(Ak.cell (p:=⟨b,Ae,none⟩) Ag).trans c0;have Bn:=(Ak.cell (p:=⟨b,Ae+1,none⟩) Ag).trans c1;have Cb:=(Ak.cell (p:=⟨b,Ae+2,none⟩) Ag).trans c2;have Bt:=(Ak.cell (p:=⟨b,Ae+3,none⟩) Ag).trans c3;have Cj:=(Ak.cell (p:=⟨b,Ae+4,none⟩) Ag).trans c4;have Bu:=(Ak.cell (p:=⟨b,Ae+5,none⟩) Ag).trans c5;(first | (have FZ:F3 38 Wa w0.heap.size 0 0 0:=(Be.block w0.heap.size (by simp)).trans (Zw (w0.drewN 1) _);have z0:=FZ.cell 0;have z1:=FZ.cell 1;have z2:=FZ.cell 2;have fz:∀ j,Wa.frozen? ⟨w0.heap.size,j,none⟩=false:=(fun j=>frozen_of_row Wa _ j _ _ FZ);simp only [aC,List.getElem?_toArray,Yz,Zb] at z0 z1 z2) | skip);clear hv Be Ak)))
  all_goals
   go_wp2_with fail
   go_meet
   case rel=>first | exact⟨rfl,S,n,c,Wa.heap.size,rfl,rfl,Ba.o.size,⟨a1,a2,a3,vs,Zw _ _,HV.o⟩,Ba.o.alloc Ba.o.size _⟩ | exact⟨rfl,S,n,c,w0.heap.size,rfl,rfl,Yh _,⟨a1,a2,a3,vs,by rw [fX FZ];exact FZ.set _ _ _,HV.o⟩,by rw [fX FZ];exact Xb Ba.o (Yh _) _⟩
 case rest=>
  obtain⟨rfl,S,n,c,g,rfl,rfl,hg,⟨a1,a2,a3,vs,hf,hv⟩,An⟩:=hcut;generalize wc=wx at *;have HF:=Hd hf;have HV:=Hd hv;have HG:=Hd hg;have Cy:=Hd An;have Am:=Bc.o.trans (An.mono Bc.o.size);have Bd:=Hd Am;have r0:=HP.o wx An 0;have r1:=HP.o wx An 1;have r5:=HX.o wx An 5;simp only [Ya,Yb,Yc] at r0 r1 r5;obtain⟨d0,d1,d2,d3,d4,d5⟩:=Bv.o wx Am;simp only [Nat.one_mul] at d0 d1 d2 d3 d4 d5;have Cz:=Hd (HR.o.below An);have HO:=Hd ho;clear hf hv hg An Am ho p0 q0 q5 c0 c1 c2 c3 c4 c5 HC Bk Bv HP HX Al Av;generalize Bw:(ou.getD (0,0,0)).1=oa at *;generalize Bo:(ou.getD (0,0,0)).2.1=ob at *;generalize Cd:(ou.getD (0,0,0)).2.2=oz at *;generalize Bm:ou.isSome=us at *;generalize Ch:oc.isSome=cs at *;have Ct:=Hd (show ∀ r,ou=some r->r=(oa,ob,oz) from fun r h=>by subst h Bw Bo Cd;rfl);have Bq:=Hd Bm;have Bz:=Hd Ch;clear Bw Bo Cd Bm Ch
  go_upto_region 12 with(fail)
  refine lO (l:=[_,_,_,_,_,_,_,_,_,_,_,_,_]) 10 11 _ _ (d:=16) (tx:=73) (T:=38) (zc:=aC 0 0 0) (by kernel_rfl) rfl rfl (by kernel_rfl) rfl (by simp) (fun a W=>by rfl) rfl (by kernel_rfl) ?_
  repeat
   first
   | refine lW rfl ?_
   | (apply lV rfl rfl (by simp)
      case h1=>
       intro wb hb;have Aj:=cI hb;have l0:=fun d os=>Zr ((Aj.cell (Yi _ _ r0)).trans r0) d os;have l1:=fun d os=>Zr ((Aj.cell (Yi _ _ r1)).trans r1) d os;have l2:=fun d os=>Zr ((Aj.cell (Yi _ _ r5)).trans r5) d os;have m0:=fun d os=>Zr ((Aj.cell (Yi _ _ d0)).trans d0) d os;have m1:=fun d os=>Zr ((Aj.cell (Yi _ _ d1)).trans d1) d os;have m2:=fun d os=>Zr ((Aj.cell (Yi _ _ d2)).trans d2) d os;have m3:=fun d os=>Zr ((Aj.cell (Yi _ _ d3)).trans d3) d os;have m4:=fun d os=>Zr ((Aj.cell (Yi _ _ d4)).trans d4) d os;have m5:=fun d os=>Zr ((Aj.cell (Yi _ _ d5)).trans d5) d os;have h3:=Bd.o.trans (Aj.mono Bd.o.size);have cA:=fun d os=>Zh (HU.o (grow (redrawn wb d) os) (h3.trans ((Zs wb d os).mono h3.size)));clear h3 Aj
       go_big_quiet_step (with_reducible exact cA _ _)
       refine Xf ?_;simp only [List.getElem?_toArray,Zb,Yz];exact rfl
      simp only [Act.put,Yd,Ye,Yf])
  refine⟨aC oa ob oz,rfl,rfl,by simp [aC,Value.oneCell'],fun W g2 hW Cq hz=>?_⟩;have Az:=cI hW;have Cf:=HF.o.below Az;obtain⟨f0,f1,f2,-,-,-⟩:=Sx Cf.cell;have Bb:F3 38 W g2 oa ob oz:=hz;have g0:=Bb.cell 0;have g1:=Bb.cell 1;have Ao:=Bb.cell 2;simp only [aC,List.getElem?_toArray,Yz,Zb] at f0 f1 f2 g0 g1 Ao;have Aq:=Hd (Cz.o.below Az);have Af:=Hd (Bd.o.trans (Az.mono Bd.o.size));have Ap:=Hd (show w.heap.size<=w.heap.size+1+1 by omega);have Cr:=HR.o.lt;have Ab:g≠w.heap.size+1+1:=by have:=HG.o;omega
  have Aa:g2≠w.heap.size+1+1:=by have:=Cy.o.size;omega
  clear Az Cf Bb hW hz r0 r1 r5 d0 d1 d2 d3 d4 d5 HU Cr Cq
  show Exit.then _ _ .normal _ W
  simp only [Act.put,Yd,Ye,Yf]
  go_upto_region 13 with(fail)
  cases cs with
  | false=>
   have Ad:=Hd (show o=none by rw [<- HO.o];have h:=Bz.o;cases oc with | none=>rfl | some r=>cases h);refine bZ (l1:=[_,_,_,_,_,_,_,_,_,_]) (os:=_) (l2:=[_]) (p:=6) (tx:=75) (r:=w.heap.size+1+1) (T:=38) (zc:=aC 0 0 0) (by kernel_rfl) (by kernel_rfl) rfl Aq.o rfl bW ?_
   repeat
    apply bR rfl (by simp)
    case h1=>
     intro wb hb;have l0:=fun d os=>Zr (aD hb Ab f0) d os;have l1:=fun d os=>Zr (aD hb Ab f1) d os;have l2:=fun d os=>Zr (aD hb Ab f2) d os;have l3:=fun d os=>Zr (aD hb Aa g0) d os;have l4:=fun d os=>Zr (aD hb Aa g1) d os;have l5:=fun d os=>Zr (aD hb Aa Ao) d os
     go_big_quiet_step (fail)
     refine Xf ?_;simp only [List.getElem?_toArray,Zb,Yz];exact rfl
    simp only [Act.put,Yd,Ye,Yf]
   refine⟨aC oa ob oz,rfl,rfl,by simp [aC,Value.oneCell'],fun W2 hB Ac=>?_⟩;have Ah:=Hd (bF hB Af.o (Yh _) Ap.o);have Ai:=Hd Ac;clear hB Ac
   go_wp2_with fail
   exact Zt (aL (p:=6) (u:=7) rfl _ _ (w.heap.size+1+1) oa ob oz rfl Ai.o) rfl ⟨oa,ob,oz,(by rw [Ad.o];rfl),fun t ht=>(by rw [Ad.o] at ht;first | (cases ht;done) | (cases ht;rfl)),Ah.o⟩
  | true=>
   obtain⟨rc,Bi⟩:∃ r,oc=some r:=by have h:=Bz.o;cases oc with | none=>cases h | some r=>exact⟨r,rfl⟩
   have Db:=Hd (HV.o rc Bi);have Ck:=Hd Bi;clear Bi
   cases us with
   | false=>
    have Ad:=Hd (show o=none by rw [<- HO.o,Ck.o];have h:=Bq.o;cases ou with | none=>rfl | some r=>cases h);refine bZ (l1:=[_,_,_,_,_,_,_,_,_,_]) (os:=_) (l2:=[_]) (p:=6) (tx:=75) (r:=w.heap.size+1+1) (T:=38) (zc:=aC 0 0 0) (by kernel_rfl) (by kernel_rfl) rfl Aq.o rfl bW ?_
    repeat
     apply bR rfl (by simp)
     case h1=>
      intro wb hb;have l0:=fun d os=>Zr (aD hb Ab f0) d os;have l1:=fun d os=>Zr (aD hb Ab f1) d os;have l2:=fun d os=>Zr (aD hb Ab f2) d os;have l3:=fun d os=>Zr (aD hb Aa g0) d os;have l4:=fun d os=>Zr (aD hb Aa g1) d os;have l5:=fun d os=>Zr (aD hb Aa Ao) d os
      go_big_quiet_step (fail)
      refine Xf ?_;simp only [List.getElem?_toArray,Zb,Yz];exact rfl
     simp only [Act.put,Yd,Ye,Yf]
    refine⟨aC oa ob oz,rfl,rfl,by simp [aC,Value.oneCell'],fun W2 hB Ac=>?_⟩;have Ah:=Hd (bF hB Af.o (Yh _) Ap.o);have Ai:=Hd Ac;clear hB Ac
    go_wp2_with fail
    exact Zt (aL (p:=6) (u:=7) rfl _ _ (w.heap.size+1+1) oa ob oz rfl Ai.o) rfl ⟨oa,ob,oz,(by rw [Ad.o];rfl),fun t ht=>(by rw [Ad.o] at ht;first | (cases ht;done) | (cases ht;rfl)),Ah.o⟩
   | true=>
    obtain⟨ru,Bg⟩:∃ r,ou=some r:=by have h:=Bq.o;cases ou with | none=>cases h | some r=>exact⟨r,rfl⟩
    have Co:=Hd (Ct.o ru Bg);have Dd:=Hd Bg;have Bp:=Hd (show(if((a1,a2,a3):T3)=(oa,ob,oz) then some ((oa,ob,oz):T3) else none)=o by rw [<- HO.o,Ck.o,Dd.o,Db.o,Co.o];rfl);clear Bg;rcases iC a1 a2 a3 oa ob oz with⟨rfl,rfl,rfl,he⟩|⟨h1,he⟩|⟨rfl,h1,he⟩|⟨rfl,rfl,h1,he⟩
    . have Ad:=Hd (show o=some _ by rw [<- Bp.o,if_pos rfl]);clear he;refine bZ (l1:=[_,_,_,_,_,_,_,_,_,_]) (os:=_) (l2:=[_]) (p:=6) (tx:=75) (r:=w.heap.size+1+1) (T:=38) (zc:=aC 0 0 0) (by kernel_rfl) (by kernel_rfl) rfl Aq.o rfl bW ?_
      repeat
       apply bR rfl (by simp)
       case h1=>
        intro wb hb;have l0:=fun d os=>Zr (aD hb Ab f0) d os;have l1:=fun d os=>Zr (aD hb Ab f1) d os;have l2:=fun d os=>Zr (aD hb Ab f2) d os;have l3:=fun d os=>Zr (aD hb Aa g0) d os;have l4:=fun d os=>Zr (aD hb Aa g1) d os;have l5:=fun d os=>Zr (aD hb Aa Ao) d os
        go_big_quiet_step (fail)
        refine Xf ?_;simp only [List.getElem?_toArray,Zb,Yz];exact rfl
       simp only [Act.put,Yd,Ye,Yf]
      refine⟨aC a1 a2 a3,rfl,rfl,by simp [aC,Value.oneCell'],fun W2 hB Ac=>?_⟩;have Ah:=Hd (bF hB Af.o (Yh _) Ap.o);have Ai:=Hd Ac;clear hB Ac
      go_wp2_with fail
      exact Zt (aL (p:=6) (u:=7) rfl _ _ (w.heap.size+1+1) a1 a2 a3 rfl Ai.o) rfl ⟨a1,a2,a3,(by rw [Ad.o];rfl),fun t ht=>(by rw [Ad.o] at ht;first | (cases ht;done) | (cases ht;rfl)),Ah.o⟩
    all_goals
     have Ad:=Hd (show o=none by rw [<- Bp.o,if_neg he]);have Cx:=h1;simp only [Xa,ne_eq] at Cx;clear he
     skip
    . refine bZ (l1:=[_,_,_,_,_,_,_,_,_,_]) (os:=_) (l2:=[_]) (p:=6) (tx:=75) (r:=w.heap.size+1+1) (T:=38) (zc:=aC 0 0 0) (by kernel_rfl) (by kernel_rfl) rfl Aq.o rfl bW ?_
      repeat
       apply bR rfl (by simp)
       case h1=>
        intro wb hb;have l0:=fun d os=>Zr (aD hb Ab f0) d os;have l1:=fun d os=>Zr (aD hb Ab f1) d os;have l2:=fun d os=>Zr (aD hb Ab f2) d os;have l3:=fun d os=>Zr (aD hb Aa g0) d os;have l4:=fun d os=>Zr (aD hb Aa g1) d os;have l5:=fun d os=>Zr (aD hb Aa Ao) d os
        go_big_quiet_step (fail)
        refine Xf ?_;simp only [List.getElem?_toArray,Zb,Yz];exact rfl
       simp only [Act.put,Yd,Ye,Yf]
      refine⟨aC oa ob oz,rfl,rfl,by simp [aC,Value.oneCell'],fun W2 hB Ac=>?_⟩;have Ah:=Hd (bF hB Af.o (Yh _) Ap.o);have Ai:=Hd Ac;clear hB Ac
      go_wp2_with fail
      exact Zt (aL (p:=6) (u:=7) rfl _ _ (w.heap.size+1+1) oa ob oz rfl Ai.o) rfl ⟨oa,ob,oz,(by rw [Ad.o];rfl),fun t ht=>(by rw [Ad.o] at ht;first | (cases ht;done) | (cases ht;rfl)),Ah.o⟩
    . refine bZ (l1:=[_,_,_,_,_,_,_,_,_,_]) (os:=_) (l2:=[_]) (p:=6) (tx:=75) (r:=w.heap.size+1+1) (T:=38) (zc:=aC 0 0 0) (by kernel_rfl) (by kernel_rfl) rfl Aq.o rfl bW ?_
      repeat
       apply bR rfl (by simp)
       case h1=>
        intro wb hb;have l0:=fun d os=>Zr (aD hb Ab f0) d os;have l1:=fun d os=>Zr (aD hb Ab f1) d os;have l2:=fun d os=>Zr (aD hb Ab f2) d os;have l3:=fun d os=>Zr (aD hb Aa g0) d os;have l4:=fun d os=>Zr (aD hb Aa g1) d os;have l5:=fun d os=>Zr (aD hb Aa Ao) d os
        go_big_quiet_step (fail)
        refine Xf ?_;simp only [List.getElem?_toArray,Zb,Yz];exact rfl
       simp only [Act.put,Yd,Ye,Yf]
      refine⟨aC a1 ob oz,rfl,rfl,by simp [aC,Value.oneCell'],fun W2 hB Ac=>?_⟩;have Ah:=Hd (bF hB Af.o (Yh _) Ap.o);have Ai:=Hd Ac;clear hB Ac
      go_wp2_with fail
      exact Zt (aL (p:=6) (u:=7) rfl _ _ (w.heap.size+1+1) a1 ob oz rfl Ai.o) rfl ⟨a1,ob,oz,(by rw [Ad.o];rfl),fun t ht=>(by rw [Ad.o] at ht;first | (cases ht;done) | (cases ht;rfl)),Ah.o⟩
    . refine bZ (l1:=[_,_,_,_,_,_,_,_,_,_]) (os:=_) (l2:=[_]) (p:=6) (tx:=75) (r:=w.heap.size+1+1) (T:=38) (zc:=aC 0 0 0) (by kernel_rfl) (by kernel_rfl) rfl Aq.o rfl bW ?_
      repeat
       apply bR rfl (by simp)
       case h1=>
        intro wb hb;have l0:=fun d os=>Zr (aD hb Ab f0) d os;have l1:=fun d os=>Zr (aD hb Ab f1) d os;have l2:=fun d os=>Zr (aD hb Ab f2) d os;have l3:=fun d os=>Zr (aD hb Aa g0) d os;have l4:=fun d os=>Zr (aD hb Aa g1) d os;have l5:=fun d os=>Zr (aD hb Aa Ao) d os
        go_big_quiet_step (fail)
        refine Xf ?_;simp only [List.getElem?_toArray,Zb,Yz];exact rfl
       simp only [Act.put,Yd,Ye,Yf]
      refine⟨aC a1 a2 oz,rfl,rfl,by simp [aC,Value.oneCell'],fun W2 hB Ac=>?_⟩;have Ah:=Hd (bF hB Af.o (Yh _) Ap.o);have Ai:=Hd Ac;clear hB Ac
      go_wp2_with fail
      exact Zt (aL (p:=6) (u:=7) rfl _ _ (w.heap.size+1+1) a1 a2 oz rfl Ai.o) rfl ⟨a1,a2,oz,(by rw [Ad.o];rfl),fun t ht=>(by rw [Ad.o] at ht;first | (cases ht;done) | (cases ht;rfl)),Ah.o⟩
theorem aTc(p:Pg) (E:Option Addr) (ec:Nat) (N:Option Addr) (nc:Nat) (i:Nat):aFu p E ec N nc i:=fun x A ca B cb w h hr hk h2 Ac Aa ou Ab=>aSj p E ec N nc i x A ca B cb w h hr hk h2 Ac Aa ou Ab _ rfl
end
section
open Go.RowKit Go.Sort
theorem aIu(x:Nd) (A1:Option Addr) (c1:Nat) (A2:Option Addr) (c2:Nat) (A3:Option Addr) (c3:Nat) (A4:Option Addr) (c4:Nat) (w:World) (h:cJ w x A1 A2 A3 A4):
 Calls Tryz.prog 95 #[.agg (bL x A1 c1 A2 c2 A3 c3 A4 c4)] w fun e w'=>e=.returned (.string x.nm)/\Below w.heap.size w w':=by
 have HF:=Hd fun w1 hw=>iB w x A1 c1 A2 c2 A3 c3 A4 c4 w1 hw h;clear h;unfold bL at HF ⊢
 go_enter Tryz.func95,Tryz.ntmps95
 go_upto_region 1 with(fail)
 generalize Ac:w.alloc _=w1;obtain⟨Ab,hg,Ad,Aa⟩:=HF.o w1 Ac;have Ae:=Hd Ab;have q0:=Aa w1 (Yg _ _) 0;simp only [Ya,Yb,Yc] at q0;clear Ac Aa Ab HF Ad
 go_wp2_with fail
 go_ret
 exact⟨rfl,Ae.o⟩
theorem aIv(d:Dc) (w:World):
 Calls Tryz.prog 146 #[.agg (bC d)] w fun e w'=>e=.returned (.string d.nm)/\Below w.heap.size w w':=by
 have HF:=Hd fun w1 hw=>kZ w d w1 hw;unfold bC at HF ⊢
 go_enter Tryz.func146,Tryz.ntmps146
 go_upto_region 1 with(fail)
 generalize Ac:w.alloc _=w1;obtain⟨Ab,hg,Aa⟩:=HF.o w1 Ac;have Ad:=Hd Ab;have q0:=Aa w1 (Yg _ _) 0;simp only [Ya,Yb,Yc] at q0;clear Ac Aa Ab HF
 go_wp2_with fail
 go_ret
 exact⟨rfl,Ad.o⟩
theorem aQn(A:Option Addr) (n c:Nat) (l:List Dc) (w:World) (h:cH w A n l) (hn:n<=100) (hz:∀ s∈bD l,s.size<=maxLen):
 Calls Tryz.prog 145 #[.slice A n c,.func (.func 146) #[] #[]] w fun e w'=>e=.returned (.bool (bP (bD l)))/\Below w.heap.size w w':=by
 have HR:=Hd h;have Ah:=aQ.len h;obtain⟨i0,hi,Bc,Bk,Bb⟩:=info_parts oU;have Ba:=Hd fun(k:Nat) hk=>aA9 (l:=l) (k:=k) hk;have Bi:=Hd fun B cc w1 (a:aN w1 B n (bD l))=>qP B n cc (bD l) w1 a hz hn;have Bh:=Hd (show(bD l).take n=bD l from Yx (by rw [aCa,Ah];exact Yh _));have As:=Hd (fun w d w1 h=>kZ w d w1 h);have Aq:=Hd aIv;have Bg:=Hd Ah;clear h hz Ah;unfold bC at As Aq;generalize bD l=ss at *;generalize bP ss=Bn at *
 go_enter Tryz.func145,Tryz.ntmps145
 go_wp2_with fail
 go_loopw [5,10] (fun v i wr=>∃ k:Nat,k<=n/\i=.int .i64 k/\wr.ownsRow w.heap.size 9 1 v k ((ss.take k).map Value.string)/\Below w.heap.size w wr) (fun _ i _=>n-(intOf i).toNat)
 case atStart=>exact⟨0,Yq _,rfl,⟨rfl,.inl ⟨rfl,rfl⟩⟩,Yg _ _⟩
 case round=>
  obtain⟨k,hk,rfl,Ae,Am⟩:=hrel;have Af:=Hd Am;have Aw:=Hd Ae;clear Ae
  by_cases Ao:k<n
  . obtain⟨b,Bl,rfl,hb,d0,d1,d2,d3,d4,d5⟩:=qX (HR.o.below Am) Ao;have Bf:=Hd (Ba.o k (by rw [Bg.o];exact Ao))
    skip
    clear Am;generalize l[k]?.getD default=p at *;have Ar:=Hd fun w3 h=>As.o wr p  w3 h
    go_upto_region 5 with(fail)
    generalize Au:wr.alloc _=w3;obtain⟨Al,Bm,Aa⟩:=Ar.o w3 Au;have Ap:=Hd (Af.o.trans (Al.mono Af.o.size));have Ak:=Hd (tM Aw.o Al);obtain⟨e0,e1,e2,e3,e4,e5⟩:=Sx (Aa w3 (Yg _ _));simp only [Ya,Yb,Yc] at e0 e1 e2 e3 e4 e5;have Be:=Hd (Aq.o p  w3);clear Aa Al Au Ar d0 d1 d2 d3 d4 d5
    go_wp2_with fail
    refine Be.o.mono ?_;rintro e w4 ⟨rfl,Ai⟩;have Ag:=Hd (Ap.o.trans (Ai.mono Ap.o.size));have Ad:=Hd (tM Ak.o Ai);clear Ai e0 e1 e2 e3 e4 e5
    go_wp2_with (at_builtin;refine wpList_append_own_at _ rfl _ _ 32 rfl w.heap.size 9 i0 (.string ByteArray.empty) 1 16 Tryz.underlying32 hi Bc Bk Bb rfl (by decide) _ _ _ rfl (Ad.o.alloc _) ⟨w4.heap.size,0,none⟩ 1 1 [.string p.nm] rfl rfl (cell_one_new _ _ _) (lQ [p.nm]) (by unfold maxLen;omega) (by omega) (by have:=Ag.o.size;simp;omega) ?_;intro v' w5 Ab Ac An Aj;have Ax:=(Ag.o.alloc Ag.o.size (.cells #[.string p.nm] 9)).grown Ac (by have:=Ag.o.size;simp;omega) (fun j hj=>(Ad.o.lt j hj).1);have Bd:=Hd Ab;have Az:=Hd Ax;clear Ac Ab An Aj Ax)
    go_roundw
    case rel=>
     refine⟨k+1,by omega,by go_num,?_,Az.o⟩;rw [Bf.o,Zp];exact Bd.o
    case measure=>simp [intOf];omega
  . obtain rfl:k=n:=by omega
    have hO:=Aw.o;rw [Bh.o] at hO;obtain⟨B,cc,rfl,Ay,-⟩:=aN.of_own hO (by omega);have HO:=Hd (Bi.o B cc wr Ay);clear hO Ay
    go_wp2_with fail
    refine HO.o.mono ?_;rintro e w6 ⟨rfl,Av⟩;have Bj:=Hd (Af.o.trans (Av.mono Af.o.size));clear Av
    go_wp2_with fail
    go_ret
    exact⟨rfl,Bj.o⟩
theorem aQo(A:Option Addr) (n c:Nat) (l:List Nd) (w:World) (h:eW w A n l) (hn:n<=100) (hz:∀ s∈l.map Nd.nm,s.size<=maxLen):
 Calls Tryz.prog 94 #[.slice A n c,.func (.func 95) #[] #[]] w fun e w'=>e=.returned (.bool (bP (l.map Nd.nm)))/\Below w.heap.size w w':=by
 have HR:=Hd h;have Ai:=aQ.len h;obtain⟨i0,hi,Bf,Bn,Be⟩:=info_parts oU;have Bd:=Hd fun(k:Nat) hk=>xG (l:=l) (k:=k) hk;have Bl:=Hd fun B cc w1 (a:aN w1 B n (l.map Nd.nm))=>qP B n cc (l.map Nd.nm) w1 a hz hn;have Bk:=Hd (show(l.map Nd.nm).take n=l.map Nd.nm from Yx (by rw [List.length_map,Ai];exact Yh _));have Aw:=Hd iB;have As:=Hd aIu;have Bj:=Hd Ai;clear h hz Ai;unfold bL at Aw As;generalize l.map Nd.nm=ss at *;generalize bP ss=Bq at *
 go_enter Tryz.func94,Tryz.ntmps94
 go_wp2_with fail
 go_loopw [5,10] (fun v i wr=>∃ k:Nat,k<=n/\i=.int .i64 k/\wr.ownsRow w.heap.size 9 1 v k ((ss.take k).map Value.string)/\Below w.heap.size w wr) (fun _ i _=>n-(intOf i).toNat)
 case atStart=>exact⟨0,Yq _,rfl,⟨rfl,.inl ⟨rfl,rfl⟩⟩,Yg _ _⟩
 case round=>
  obtain⟨k,hk,rfl,Ae,An⟩:=hrel;have Af:=Hd An;have Az:=Hd Ae;clear Ae
  by_cases Ap:k<n
  . obtain⟨b,Bo,A1,c1,A2,c2,A3,c3,A4,c4,rfl,hb,Aq,d0,d1,d2,d3,d4⟩:=zE (HR.o.below An) Ap;have Bi:=Hd (Bd.o k (by rw [Bj.o];exact Ap));have Ah:=Hd Aq;clear An Aq;generalize l[k]?.getD default=p at *;have Av:=Hd fun w3 h=>Aw.o wr p A1 c1 A2 c2 A3 c3 A4 c4 w3 h Ah.o
    go_upto_region 5 with(fail)
    generalize Ax:wr.alloc _=w3;obtain⟨Am,Bp,Au,Aa⟩:=Av.o w3 Ax;have Ar:=Hd (Af.o.trans (Am.mono Af.o.size));have Al:=Hd (tM Az.o Am);obtain⟨e0,e1,e2,e3,e4,-⟩:=Sx (Aa w3 (Yg _ _));simp only [Ya,Yb,Yc] at e0 e1 e2 e3 e4;have Bh:=Hd (As.o p A1 c1 A2 c2 A3 c3 A4 c4 w3 Au);clear Aa Am Ax Av d0 d1 d2 d3 d4 Au
    go_wp2_with fail
    refine Bh.o.mono ?_;rintro e w4 ⟨rfl,Aj⟩;have Ag:=Hd (Ar.o.trans (Aj.mono Ar.o.size));have Ad:=Hd (tM Al.o Aj);clear Aj e0 e1 e2 e3 e4
    go_wp2_with (at_builtin;refine wpList_append_own_at _ rfl _ _ 32 rfl w.heap.size 9 i0 (.string ByteArray.empty) 1 16 Tryz.underlying32 hi Bf Bn Be rfl (by decide) _ _ _ rfl (Ad.o.alloc _) ⟨w4.heap.size,0,none⟩ 1 1 [.string p.nm] rfl rfl (cell_one_new _ _ _) (lQ [p.nm]) (by unfold maxLen;omega) (by omega) (by have:=Ag.o.size;simp;omega) ?_;intro v' w5 Ab Ac Ao Ak;have Ba:=(Ag.o.alloc Ag.o.size (.cells #[.string p.nm] 9)).grown Ac (by have:=Ag.o.size;simp;omega) (fun j hj=>(Ad.o.lt j hj).1);have Bg:=Hd Ab;have Bc:=Hd Ba;clear Ac Ab Ao Ak Ba)
    go_roundw
    case rel=>
     refine⟨k+1,by omega,by go_num,?_,Bc.o⟩;rw [Bi.o,Zp];exact Bg.o
    case measure=>simp [intOf];omega
  . obtain rfl:k=n:=by omega
    have hO:=Az.o;rw [Bk.o] at hO;obtain⟨B,cc,rfl,Bb,-⟩:=aN.of_own hO (by omega);have HO:=Hd (Bl.o B cc wr Bb);clear hO Bb
    go_wp2_with fail
    refine HO.o.mono ?_;rintro e w6 ⟨rfl,Ay⟩;have Bm:=Hd (Af.o.trans (Ay.mono Af.o.size));clear Ay
    go_wp2_with fail
    go_ret
    exact⟨rfl,Bm.o⟩
theorem aK4(x:Nd) (A1:Option Addr) (c1:Nat) (A2:Option Addr) (c2:Nat) (A3:Option Addr) (c3:Nat) (A4:Option Addr) (c4:Nat) (w:World) (h:cJ w x A1 A2 A3 A4) (hn:x.all.length<=100) (hz:∀ d∈x.all,d.nm.size<=maxLen):
 Calls Tryz.prog 96 #[.agg (bL x A1 c1 A2 c2 A3 c3 A4 c4)] w fun e w'=>e=.returned (.bool (!bP (bD x.all)))/\Below w.heap.size w w':=by
 have HF:=Hd fun w1 hw=>iB w x A1 c1 A2 c2 A3 c3 A4 c4 w1 hw h;have Ai:=Hd fun b w1 (a:cJ w1 x A1 A2 A3 A4) hc hb=>aCp x A1 c1 A2 c2 A3 c3 A4 b w1 a hc hb (by omega)
 have An:=Hd fun A c w1 (a:cH w1 A x.all.length x.all)=>aQn A x.all.length c x.all w1 a hn (fun s hs=>by
  obtain⟨d,hd,rfl⟩:=List.mem_map.1 hs;exact hz d hd)
 clear h hn hz;unfold bL at HF ⊢;unfold sD at Ai;generalize x.all=Ap at *;generalize bP (bD Ap)=Aq at *
 go_enter Tryz.func96,Tryz.ntmps96
 go_upto_region 1 with(fail)
 generalize Ag:w.alloc _=w1;obtain⟨Af,hg,Ac,Aa⟩:=HF.o w1 Ag;have Am:=Hd Af;obtain⟨-,q1,q2,q3,-,-⟩:=Sx (Aa w1 (Yg _ _));simp only [Ya,Yb,Yc] at q1 q2 q3;have Ab:=(Yg w1.heap.size w1).alloc (Yh _) (.cells #[.slice A1 x.ins.length c1,.slice A2 x.outs.length c2,.slice A3 x.vars.length c3] 50);have Aj:=Hd (Am.o.trans (Ab.mono Am.o.size));have Ae:=Hd (Ai.o w1.heap.size _ (Ac.below Ab) (fun j=>by rw [Zo]) (by simp));rw [hg] at Ae;clear Ag Aa Af Ab HF Ac
 go_wp2_with fail
 refine Ae.o.mono ?_;rintro e w3 ⟨A,c,rfl,Ak,Ah⟩;have Ad:=Hd (Aj.o.trans (Ah.mono Aj.o.size));have HO:=Hd (An.o A c w3 Ak);clear Ak Ah
 go_wp2_with fail
 refine HO.o.mono ?_;rintro e w4 ⟨rfl,Al⟩;have Ao:=Hd (Ad.o.trans (Al.mono Ad.o.size));clear Al
 go_wp2_with fail
 go_ret
 exact⟨rfl,Ao.o⟩
end
section
open Go.RowKit Go.Sort
theorem yZ(g:Nat) (lb:Array Value) (eg:∀ args w,(callFunc g args).run Tryz.prog w=.ok (.enter g args) w) (f:Nd->Bool) (b:Nat) (N:Option Addr) (nc:Nat) (ns:List Nd) (w:World)
 (hc:w.cell? ⟨b,1,none⟩=some (.slice N ns.length nc)) (hr:eW w N ns.length ns) (hp:pK g lb f ns w):
 Calls Tryz.prog 89 #[.func (.func g) #[] lb,.pointer (some ⟨b,0,none⟩)] w fun e w'=>e=.returned (.bool (ns.any f))/\Below w.heap.size w w':=by
 have HC:=Hd (aP1 g lb eg f N ns.length nc ns w hr hp);clear hr hp;generalize ns.any f=Ac at *
 go_enter Tryz.func89,Tryz.ntmps89
 go_wp2_with fail
 refine HC.o.mono ?_;rintro e w2 ⟨rfl,Aa⟩;have Ab:=Hd Aa;clear Aa
 go_wp2_with fail
 go_ret
 exact⟨rfl,Ab.o⟩
theorem uA{p:Pg}(ht:gI p){x:Nd}(hx:x∈p.ns):jC x:=by
 obtain⟨j,hj,rfl⟩:=Zi hx;have:=ht.2.2 j hj;rwa [Yk hj] at this
theorem aK5(p:Pg):dO p=if cV p.es=0 then(if p.ns.length=0 then 5 else if 6<p.ns.length then 4 else if p.ns.any iH then 4 else if(p.ns.any fun x=>!gH p.es.length bH bB x) then 1 else if !bP (p.ns.map Nd.nm) then 6 else if(p.ns.any fun x=>!bP (bD x.all)) then 6 else 0) else cV p.es:=by
 unfold dO pI sJ;rw [<- List.not_all_eq_any_not,<- List.not_all_eq_any_not];generalize p.ns.all (gH p.es.length bH bB)=a;generalize (p.ns.all fun n=>bP (bD n.all))=b;generalize bP (p.ns.map Nd.nm)=c
 cases a <;> cases b <;> cases c <;> rfl
theorem aQp(p:Pg) (E:Option Addr) (ec:Nat) (N:Option Addr) (nc:Nat) (w:World) (h:cW w p E N) (ht:gI p):
 Calls Tryz.prog 53 #[.agg (aP p E ec N nc)] w fun e w'=>e=.returned (.int .i64 (dO p))/\Below w.heap.size w w':=by
 have HF:=Hd fun w1 hw=>kH w p E ec N nc w1 hw h;have Bt:∀ fn first Bh w,(Instr.makeFunc fn first Bh).run Tryz.prog w=.ok (.func fn first Bh) w:=fun _ _ _ _=>rfl
 have Bj:=Hd fun w1 a=>aPe E p.es.length ec p.es w1 a ht.1.ok ht.1.few;have Bz:=aQ.max h.2;have Bw:=ht.1.1;have Br:=ht.2.1;have HE:=Hd (aK5 p);have HM:=Hd fun w1=>aHd E p.es.length ec w1;have Bc:=Hd fun w1=>(show pK 92 #[] iH p.ns w1 from fun x hx A1 c1 A2 c2 A3 c3 A4 c4 W _ hr=>aK2 x A1 c1 A2 c2 A3 c3 A4 c4 W hr)
 have Bb:=Hd fun bp bv be w1 (hb:lH w1 bp bv be E p.es.length ec)=>(show pK 141 #[.pointer (some ⟨bp,0,none⟩),.pointer (some ⟨bv,0,none⟩)] (fun x=>!gH p.es.length bH bB x) p.ns w1 from
  fun x hx A1 c1 A2 c2 A3 c3 A4 c4 W hW hr=>aSi x A1 c1 A2 c2 A3 c3 A4 c4 bp bv be E p.es.length ec W hr (uA ht hx).ok (by omega) (hb.below hW))
 have Ax:=Hd fun w1=>(show pK 96 #[] (fun x=>!bP (bD x.all)) p.ns w1 from
  fun x hx A1 c1 A2 c2 A3 c3 A4 c4 W _ hr=>aK4 x A1 c1 A2 c2 A3 c3 A4 c4 W hr (by have:=(uA ht hx).len;omega) (fun d hd=>((uA ht hx).ok.2.1 d hd).1))
 have Bp:=Hd fun w1 (a:eW w1 N p.ns.length p.ns)=>aQo N p.ns.length nc p.ns w1 a (by omega) (fun s hs=>by
  obtain⟨x,hx,rfl⟩:=List.mem_map.1 hs;exact(uA ht hx).ok.1)
 have Bm:=Hd fun b w1 hc a=>yZ 92 #[] (fun _ _=>rfl) iH b N nc p.ns w1 hc a (Bc.o w1);have Bl:=Hd fun b bp bv be w1 hc a (hb:lH w1 bp bv be E p.es.length ec)=>yZ 141 #[.pointer (some ⟨bp,0,none⟩),.pointer (some ⟨bv,0,none⟩)] (fun _ _=>rfl) (fun x=>!gH p.es.length bH bB x) b N nc p.ns w1 hc a (Bb.o bp bv be w1 hb);have Bn:=Hd fun b w1 hc a=>yZ 96 #[] (fun _ _=>rfl) (fun x=>!bP (bD x.all)) b N nc p.ns w1 hc a (Ax.o w1);clear Bc Bb Ax ht;unfold aP;generalize dO p=Ca at *;generalize p.ns.any iH=b1 at *;generalize (p.ns.any fun x=>!gH p.es.length bH bB x)=b2 at *;generalize (p.ns.any fun x=>!bP (bD x.all))=b3 at *;generalize bP (p.ns.map Nd.nm)=o1 at *
 go_enter Tryz.func53,Tryz.ntmps53
 go_upto_region 1 with(fail)
 generalize Bg:w.alloc _=w1;obtain⟨Ay,hg,Av,Aa⟩:=HF.o w1 Bg;have Bk:=Hd Ay;have HC:=Hd Aa;have Bo:=Hd (Bj.o w1 Av.1);have An:=Hd (show eW w1 N p.ns.length p.ns from Av.2);simp only [aP] at HC;have q0:=HC.o w1 (Yg _ _) 0;simp only [Ya,Yb,Yc] at q0;clear Bg Aa Ay HF h Av Bj;generalize cV p.es=en at *;generalize p.es.length=ne at *;have Bx:=Hd (Yg w1.heap.size w1);generalize Bq:p.ns.length=n at *;clear Bq
 go_wp2_with fail
 refine Bo.o.mono ?_;rintro e w2 ⟨rfl,Ah⟩;have Ar:=Hd Ah;have Ab:=Hd (Bk.o.trans (Ah.mono Bk.o.size));have p0:=HC.o w2 Ah 0;have p1:=HC.o w2 Ah 1;simp only [Ya,Yb,Yc] at p0 p1;clear Ah q0
 by_cases Am:en=0
 . subst Am;rw [if_pos rfl] at HE;rcases Nat.eq_zero_or_pos n with Aq | Aq
   . subst Aq;rw [if_pos rfl] at HE
     go_wp2_with fail
     go_ret
     exact⟨cF HE.o.symm,Ab.o⟩
   . rw [if_neg (by omega)] at HE;have Bu:((n:Int)==0)=false:=by rw [Xa];omega
     by_cases Au:6<n
     . rw [if_pos Au] at HE;have d6:decide ((6:Int)<(n:Int))=true:=Zx (by omega)
       go_wp2_with fail
       go_ret
       exact⟨cF HE.o.symm,Ab.o⟩
     . rw [if_neg Au] at HE;have d6:decide ((6:Int)<(n:Int))=false:=Zy (by omega);have Ba:=Hd (Bm.o w.heap.size w2 p1 (eW.below An.o Ar.o));clear Au Aq
       cases b1 with
       | true=>
        rw [if_pos rfl] at HE
        go_wp2_with fail
        refine Ba.o.mono ?_;rintro e w3 ⟨rfl,Af⟩;have Al:=Hd (Ab.o.trans (Af.mono Ab.o.size));clear Af p0 p1
        go_wp2_with fail
        go_ret
        exact⟨cF HE.o.symm,Al.o⟩
       | false=>
        rw [if_neg (by simp)] at HE
        go_wp2_with fail
        refine Ba.o.mono ?_;rintro e w3 ⟨rfl,Af⟩;have Aw:=Hd (Ar.o.trans (Af.mono Ar.o.size));have Al:=Hd (Ab.o.trans (Af.mono Ab.o.size));clear Af p0 p1;have p0:=HC.o w3 Aw.o 0;simp only [Ya,Yb,Yc] at p0
        go_wp2_with fail
        refine(HM.o w3).mono ?_;rintro e w4 ⟨bp,bv,be,rfl,Be,As⟩;have Ak:=Hd (Aw.o.trans (As.mono Aw.o.size));have Aj:=Hd (Al.o.trans (As.mono Al.o.size));clear As p0;have p1:=HC.o w4 Ak.o 1;simp only [Ya,Yb,Yc] at p1;have Bf:=Hd (Bl.o w.heap.size bp bv be w4 p1 (eW.below An.o Ak.o) Be);clear Be p1
        cases b2 with
        | true=>
         rw [if_pos rfl] at HE
         go_wp2_with fail
         refine Bf.o.mono ?_;rintro e w5 ⟨rfl,Ad⟩;have Ac:=Hd (Aj.o.trans (Ad.mono Aj.o.size));clear Ad
         go_wp2_with fail
         go_ret
         exact⟨cF HE.o.symm,Ac.o⟩
        | false=>
         rw [if_neg (by simp)] at HE
         go_wp2_with fail
         refine Bf.o.mono ?_;rintro e w5 ⟨rfl,Ad⟩;have Ao:=Hd (Ak.o.trans (Ad.mono Ak.o.size));have Ac:=Hd (Aj.o.trans (Ad.mono Aj.o.size));clear Ad;have p1:=HC.o w5 Ao.o 1;simp only [Ya,Yb,Yc] at p1;have Az:=Hd (Bp.o w5 (eW.below An.o Ao.o))
         cases o1 with
         | false=>
          rw [if_pos (show(!false)=true from rfl)] at HE
          go_wp2_with fail
          refine Az.o.mono ?_;rintro e w6 ⟨rfl,Ae⟩;have Ag:=Hd (Ac.o.trans (Ae.mono Ac.o.size));clear Ae p1
          go_wp2_with fail
          go_ret
          exact⟨cF HE.o.symm,Ag.o⟩
         | true=>
          rw [if_neg (by simp)] at HE
          go_wp2_with fail
          refine Az.o.mono ?_;rintro e w6 ⟨rfl,Ae⟩;have Bi:=Hd (Ao.o.trans (Ae.mono Ao.o.size));have Ag:=Hd (Ac.o.trans (Ae.mono Ac.o.size));clear Ae p1;have p1:=HC.o w6 Bi.o 1;simp only [Ya,Yb,Yc] at p1;have Bd:=Hd (Bn.o w.heap.size w6 p1 (eW.below An.o Bi.o));clear p1
          cases b3 with
          | true=>
           rw [if_pos rfl] at HE
           go_wp2_with fail
           refine Bd.o.mono ?_;rintro e w7 ⟨rfl,Ai⟩;have Ap:=Hd (Ag.o.trans (Ai.mono Ag.o.size));clear Ai
           go_wp2_with fail
           go_ret
           exact⟨cF HE.o.symm,Ap.o⟩
          | false=>
           rw [if_neg (by simp)] at HE
           go_wp2_with fail
           refine Bd.o.mono ?_;rintro e w7 ⟨rfl,Ai⟩;have Ap:=Hd (Ag.o.trans (Ai.mono Ag.o.size));clear Ai
           go_wp2_with fail
           go_ret
           exact⟨cF HE.o.symm,Ap.o⟩
 . rw [if_neg Am] at HE;have Bv:(en != 0)=true:=by rw [bne_iff_ne];exact Am
   clear Am
   go_wp2_with fail
   go_ret
   exact⟨cF HE.o.symm,Ab.o⟩
end
end Go.Proofs.YtegjgiofmpolnaaGreat
