/- Parts of the proof: TqF, TqD, TqE, TqG. Conditions: each theorem's own. -/
import Derived.Test.YtegjgiofmpolnaaGreatO21
namespace Go.Proofs.YtegjgiofmpolnaaGreat
set_option linter.unusedVariables false
set_option linter.unusedSimpArgs false
set_option maxRecDepth 100000
set_option maxHeartbeats 40000000
section
open Go.RowKit Go.Sort Go.BigFrame
theorem set3_cell{W:World}{g r j:Nat}{x y z:Value}(hn:g≠r):(((W.setCell ⟨r,0,none⟩ x).setCell ⟨r,1,none⟩ y).setCell ⟨r,2,none⟩ z).cell? ⟨g,j,none⟩=W.cell? ⟨g,j,none⟩ :=
 World.cell?_of_block (a:=⟨g,j,none⟩) (by rw [Below.heap_setCell _ _ _ _ (by exact hn),Below.heap_setCell _ _ _ _ (by exact hn),Below.heap_setCell _ _ _ _ (by exact hn)])
theorem refOfF(p:Pg) (E:Option Addr) (ec:Nat) (N:Option Addr) (nc:Nat) (i:Nat) (x:Ex) (A:Option Addr) (ca:Nat) (B:Option Addr) (cb:Nat) (w:World) (h:rdP w p E N) (hr:rdX w x A B) (hk:x.k=8) (h2:2≤x.subs.length) (hs0:sizeX (subX x 0)≤1000000) (hsh0:∀ q∈partsX (subX x 0),ShortP q) (ou:Option T3)
 (hsub:∀ A' ca' B' cb' w1,Below w.heap.size w w1→rdX w (subX x 1) A' B'→Calls Tryz.prog 14 #[.agg (pgA p E ec N nc),.int .i64 i,.agg (exA (subX x 1) A' ca' B' cb')] w1 (TyZ w1 ou)) (o:Option T3) (ho:fbyT (constT p.es (subX x 0)) ou=o):
 Calls Tryz.prog 42 #[.agg (pgA p E ec N nc),.int .i64 i,.agg (exA x A ca B cb)] w (TyAns w o):=by
 have HF:=Hd fun w0 h=>pe_box3 (w:=w) (w0:=w0) (p:=p) (E:=E) (ec:=ec) (N:=N) (nc:=nc) (x:=x) (A:=A) (ca:=ca) (B:=B) (cb:=cb) (T:=25) (U:=35) (V:=38) h;obtain⟨b,off,rfl,hb,hat⟩:=hr.sub (i:=0) (by omega);obtain⟨A0,ca0,B0,cb0,hrg0,hrd0⟩:=hat 0 (by omega);obtain⟨A1,ca1,B1,cb1,hrg1,hrd1⟩:=hat 1 (by omega);have HC:=Hd fun w1 (hb:Below w.heap.size w w1)=>refConst16 E p.es.length ec p.es (subX x 0) A0 ca0 B0 cb0 w1 (h.1.below hb) (hrd0.below hb) hs0 hsh0;have HU:=Hd fun w1 (hb:Below w.heap.size w w1)=>hsub A1 ca1 B1 cb1 w1 hb hrd1;have HE0:=Hd fun w1 (hbw:Below w.heap.size w w1)=>rangeAt_six (rangeAt_keep hrg0 hb fun p hp=>hbw.cell hp);have HE1:=Hd fun w1 (hbw:Below w.heap.size w w1)=>rangeAt_six (rangeAt_keep hrg1 hb fun p hp=>hbw.cell hp);unfold ConstAns f3A at HC;unfold TyZ f3A at HU;generalize hoc:constT p.es (subX x 0)=oc at *;clear hat hrg0 hrg1 hrd0 hrd1 hsub hs0 hsh0 h hr hoc;generalize subX x 0=y at *;generalize subX x 1=z at *;unfold pgA exA at HF ⊢;unfold pgA exA at HU;unfold exA at HC;rw [hk] at HF ⊢;generalize p.es.length=pe at *;generalize p.ns.length=pn at *;generalize x.subs.length=m at *
 go_enter Tryz.func42,Tryz.ntmps42
 go_upto_region 1 with(fail)
 generalize hw0:((w.alloc _).alloc _).alloc _=w0;obtain⟨hb0,hsz,hp,hx,hR⟩:=HF.out w0 hw0;have HB0:=Hd hb0;have HR:=Hd hR;have HP:=Hd hp;have HX:=Hd hx;have p0:=hp w0 (Below.refl _ _) 0;have p1:=hp w0 (Below.refl _ _) 1;obtain⟨q0,q1,q2,q3,q4,q5⟩:=Sx (hx w0 (Below.refl _ _));simp only [Ya,Yb,Yc] at p0 p1 q0 q1 q2 q3 q4 q5;clear hw0 hsz hp hx hR HF;obtain⟨c0,c1,c2,c3,c4,c5⟩:=HE0.out w0 hb0;simp only [Nat.zero_mul,Nat.add_zero] at c0 c1 c2 c3 c4 c5;have h0m:0<m:=by omega
 have h1m:1<m:=by omega
 have hlb:b<w0.heap.size:=World.block_lt_of_cell? _ _ c0;have hlp:w.heap.size<w0.heap.size:=World.block_lt_of_cell? _ _ p0;have hlx:w.heap.size+1<w0.heap.size:=World.block_lt_of_cell? _ _ q5;have HB0':=Hd (show Below w.heap.size w (w0.drewN 1) from HB0.out.trans ((below_drewN (Below.refl w0.heap.size w0) 1).mono HB0.out.size));have HB1':=Hd (show Below w.heap.size w ((w0.drewN 1).alloc (.cells (f3A 0 0 0) 38)) from HB0'.out.alloc HB0'.out.size _);clear hb0 q1 q2 q3 q4 p1
 go_upto_region 11 with(fail)
 go_cut [13,14,15] (fun v13 v14 v15 wx=>v15=.bool oc.isSome∧∃ S n c g,v13=.slice S n c∧v14=.pointer (some ⟨g,0,none⟩)∧w0.heap.size≤g∧(∃ a1 a2 a3 vs,F3 38 wx g a1 a2 a3∧∀ r,oc=some r→r=(vs,(a1,a2,a3)))∧Below w0.heap.size w0 wx)
 case first=>
  go_region_held3 (fun W=>W.cell? ⟨w.heap.size,0,none⟩=some (.slice E pe ec)∧W.cell? ⟨w.heap.size+1,5,none⟩=some (.slice (some ⟨b,off,none⟩) m cb)∧W.cell? ⟨b,off,none⟩=some (.int .i64 y.k)∧W.cell? ⟨b,off+1,none⟩=some (.int .i64 y.n)∧W.cell? ⟨b,off+2,none⟩=some (.string y.s)∧W.cell? ⟨b,off+3,none⟩=some (.int .i64 y.op)∧W.cell? ⟨b,off+4,none⟩=some (.slice A0 y.arms.length ca0)∧W.cell? ⟨b,off+5,none⟩=some (.slice B0 y.subs.length cb0)) (first | exact⟨p0,q5,c0,c1,c2,c3,c4,c5⟩ | exact⟨p0a,q5a,c0a,c1a,c2a,c3a,c4a,c5a⟩ | exact⟨(set3_cell (Nat.ne_of_lt hlp)).trans p0a,(set3_cell (Nat.ne_of_lt hlx)).trans q5a,(set3_cell (Nat.ne_of_lt hlb)).trans c0a,(set3_cell (Nat.ne_of_lt hlb)).trans c1a,(set3_cell (Nat.ne_of_lt hlb)).trans c2a,(set3_cell (Nat.ne_of_lt hlb)).trans c3a,(set3_cell (Nat.ne_of_lt hlb)).trans c4a,(set3_cell (Nat.ne_of_lt hlb)).trans c5a⟩ | go_keep)
   ((first
     | (go_at_call 18;refine(HC.out _ (by first | exact HB0'.out | exact HB1'.out)).mono ?_;rintro r Wa ⟨S,n,c,a1,a2,a3,vs,rfl,-,-,-,⟨hv,-⟩,hba⟩;have HV:=Hd hv;have hbA:Below w0.heap.size w0 Wa:=(by first | exact(below_drewN (Below.refl w0.heap.size w0) 1).trans (hba.mono (Nat.le_refl _)) | exact((below_drewN (Below.refl w0.heap.size w0) 1).alloc (Nat.le_refl _) (.cells (f3A 0 0 0) 38)).trans (hba.mono (by simp)));have HBA:=Hd hbA;have p0a:=(hbA.cell (p:=⟨w.heap.size,0,none⟩) hlp).trans p0;have q5a:=(hbA.cell (p:=⟨w.heap.size+1,5,none⟩) hlx).trans q5;have c0a:=(hbA.cell (p:=⟨b,off,none⟩) hlb).trans c0;have c1a:=(hbA.cell (p:=⟨b,off+1,none⟩) hlb).trans c1;have c2a:=(hbA.cell (p:=⟨b,off+2,none⟩) hlb).trans c2;have c3a:=(hbA.cell (p:=⟨b,off+3,none⟩) hlb).trans c3;have c4a:=(hbA.cell (p:=⟨b,off+4,none⟩) hlb).trans c4;have c5a:=(hbA.cell (p:=⟨b,off+5,none⟩) hlb).trans c5;(first | (have FZ:F3 38 Wa w0.heap.size 0 0 0:=(hba.block w0.heap.size (by simp)).trans (heap_alloc_new (w0.drewN 1) _);have z0:=FZ.cell 0;have z1:=FZ.cell 1;have z2:=FZ.cell 2;have fz:∀ j,Wa.frozen? ⟨w0.heap.size,j,none⟩=false:=(fun j=>frozen_of_row Wa _ j _ _ FZ);simp only [f3A,List.getElem?_toArray,List.getElem?_cons_zero,List.getElem?_cons_succ] at z0 z1 z2) | skip);clear hv hba hbA)))
  all_goals
   go_wp2_with fail
   go_meet
   case rel=>first | exact⟨rfl,S,n,c,Wa.heap.size,rfl,rfl,HBA.out.size,⟨a1,a2,a3,vs,heap_alloc_new _ _,HV.out⟩,HBA.out.alloc HBA.out.size _⟩ | exact⟨rfl,S,n,c,w0.heap.size,rfl,rfl,Nat.le_refl _,⟨a1,a2,a3,vs,by rw [f3_set FZ];exact FZ.set _ _ _,HV.out⟩,by rw [f3_set FZ];exact below_setRow HBA.out (Nat.le_refl _) _⟩
 case rest=>
  obtain⟨rfl,S,n,c,g,rfl,rfl,hg,⟨a1,a2,a3,vs,hf,hv⟩,hbx⟩:=hcut;generalize wc=wx at *;have HF:=Hd hf;have HV:=Hd hv;have HG:=Hd hg;have HBX:=Hd hbx;have hbw:=HB0.out.trans (hbx.mono HB0.out.size);have HBW:=Hd hbw;have r0:=HP.out wx hbx 0;have r1:=HP.out wx hbx 1;have r5:=HX.out wx hbx 5;simp only [Ya,Yb,Yc] at r0 r1 r5;obtain⟨d0,d1,d2,d3,d4,d5⟩:=HE1.out wx hbw;simp only [Nat.one_mul] at d0 d1 d2 d3 d4 d5;have HRX:=Hd (HR.out.below hbx);have HO:=Hd ho;clear hf hv hg hbx hbw ho p0 q0 q5 c0 c1 c2 c3 c4 c5 HC HE0 HE1 HP HX HB0' HB1';generalize hoa:(ou.getD (0,0,0)).1=oa at *;generalize hob:(ou.getD (0,0,0)).2.1=ob at *;generalize hoz:(ou.getD (0,0,0)).2.2=oz at *;generalize hus:ou.isSome=us at *;generalize hcs:oc.isSome=cs at *;have HUV:=Hd (show ∀ r,ou=some r→r=(oa,ob,oz) from fun r h=>by subst h hoa hob hoz;rfl);have HUS:=Hd hus;have HCS:=Hd hcs;clear hoa hob hoz hus hcs
  go_upto_region 12 with(fail)
  refine wp_region_mid (l:=[_,_,_,_,_,_,_,_,_,_,_,_,_]) 10 11 _ _ (d:=16) (tx:=73) (T:=38) (zc:=f3A 0 0 0) (by kernel_rfl) rfl rfl (by kernel_rfl) rfl (by simp) (fun a W=>by rfl) rfl (by kernel_rfl) ?_
  repeat
   first
   | refine fix_skipG rfl ?_
   | (apply fix_stepG rfl rfl (by simp)
      case h1=>
       intro wb hb;have hbb:=cls_below hb;have l0:=fun d os=>cell_regrown ((hbb.cell (World.block_lt_of_cell? _ _ r0)).trans r0) d os;have l1:=fun d os=>cell_regrown ((hbb.cell (World.block_lt_of_cell? _ _ r1)).trans r1) d os;have l2:=fun d os=>cell_regrown ((hbb.cell (World.block_lt_of_cell? _ _ r5)).trans r5) d os;have m0:=fun d os=>cell_regrown ((hbb.cell (World.block_lt_of_cell? _ _ d0)).trans d0) d os;have m1:=fun d os=>cell_regrown ((hbb.cell (World.block_lt_of_cell? _ _ d1)).trans d1) d os;have m2:=fun d os=>cell_regrown ((hbb.cell (World.block_lt_of_cell? _ _ d2)).trans d2) d os;have m3:=fun d os=>cell_regrown ((hbb.cell (World.block_lt_of_cell? _ _ d3)).trans d3) d os;have m4:=fun d os=>cell_regrown ((hbb.cell (World.block_lt_of_cell? _ _ d4)).trans d4) d os;have m5:=fun d os=>cell_regrown ((hbb.cell (World.block_lt_of_cell? _ _ d5)).trans d5) d os;have h3:=HBW.out.trans (hbb.mono HBW.out.size);have cA:=fun d os=>Calls.regrown_of (HU.out (grow (redrawn wb d) os) (h3.trans ((below_regrown wb d os).mono h3.size)));clear h3 hbb
       go_big_quiet_step (with_reducible exact cA _ _)
       refine wpQuiet_nil ?_;simp only [List.getElem?_toArray,List.getElem?_cons_succ,List.getElem?_cons_zero];exact rfl
      simp only [Act.put,Yd,Ye,Yf])
  refine⟨f3A oa ob oz,rfl,rfl,by simp [f3A,Value.oneCell'],fun W g2 hW hg2 hz=>?_⟩;have hcw:=cls_below hW;have hff:=HF.out.below hcw;obtain⟨f0,f1,f2,-,-,-⟩:=Sx hff.cell;have hzz:F3 38 W g2 oa ob oz:=hz;have g0:=hzz.cell 0;have g1:=hzz.cell 1;have g2':=hzz.cell 2;simp only [f3A,List.getElem?_toArray,List.getElem?_cons_zero,List.getElem?_cons_succ] at f0 f1 f2 g0 g1 g2';have HR2:=Hd (HRX.out.below hcw);have HBW2:=Hd (HBW.out.trans (hcw.mono HBW.out.size));have HLR:=Hd (show w.heap.size≤w.heap.size+1+1 by omega);have hrl:=HR.out.lt;have hn1:g≠w.heap.size+1+1:=by have:=HG.out;omega
  have hn2:g2≠w.heap.size+1+1:=by have:=HBX.out.size;omega
  clear hcw hff hzz hW hz r0 r1 r5 d0 d1 d2 d3 d4 d5 HU hrl hg2
  show Exit.then _ _ .normal _ W
  simp only [Act.put,Yd,Ye,Yf]
  go_upto_region 13 with(fail)
  cases cs with
  | false=>
   have HO2:=Hd (show o=none by rw [← HO.out];have h:=HCS.out;cases oc with | none=>rfl | some r=>cases h);refine wp_region_out (l1:=[_,_,_,_,_,_,_,_,_,_]) (os:=_) (l2:=[_]) (p:=6) (tx:=75) (r:=w.heap.size+1+1) (T:=38) (zc:=f3A 0 0 0) (by kernel_rfl) (by kernel_rfl) rfl HR2.out rfl infoTy0 ?_
   repeat
    apply fix_step rfl (by simp)
    case h1=>
     intro wb hb;have l0:=fun d os=>cell_regrown (bs_cell hb hn1 f0) d os;have l1:=fun d os=>cell_regrown (bs_cell hb hn1 f1) d os;have l2:=fun d os=>cell_regrown (bs_cell hb hn1 f2) d os;have l3:=fun d os=>cell_regrown (bs_cell hb hn2 g0) d os;have l4:=fun d os=>cell_regrown (bs_cell hb hn2 g1) d os;have l5:=fun d os=>cell_regrown (bs_cell hb hn2 g2') d os
     go_big_quiet_step (fail)
     refine wpQuiet_nil ?_;simp only [List.getElem?_toArray,List.getElem?_cons_succ,List.getElem?_cons_zero];exact rfl
    simp only [Act.put,Yd,Ye,Yf]
   refine⟨f3A oa ob oz,rfl,rfl,by simp [f3A,Value.oneCell'],fun W2 hB hz2=>?_⟩;have HB4:=Hd (bs_below hB HBW2.out (Nat.le_refl _) HLR.out);have HZ4:=Hd hz2;clear hB hz2
   go_wp2_with fail
   exact bodyPost_ret (res_ty2 (p:=6) (u:=7) rfl _ _ (w.heap.size+1+1) oa ob oz rfl HZ4.out) rfl ⟨oa,ob,oz,(by rw [HO2.out];rfl),fun t ht=>(by rw [HO2.out] at ht;first | (cases ht;done) | (cases ht;rfl)),HB4.out⟩
  | true=>
   obtain⟨rc,hrc⟩:∃ r,oc=some r:=by have h:=HCS.out;cases oc with | none=>cases h | some r=>exact⟨r,rfl⟩
   have HRC:=Hd (HV.out rc hrc);have HRQ:=Hd hrc;clear hrc
   cases us with
   | false=>
    have HO2:=Hd (show o=none by rw [← HO.out,HRQ.out];have h:=HUS.out;cases ou with | none=>rfl | some r=>cases h);refine wp_region_out (l1:=[_,_,_,_,_,_,_,_,_,_]) (os:=_) (l2:=[_]) (p:=6) (tx:=75) (r:=w.heap.size+1+1) (T:=38) (zc:=f3A 0 0 0) (by kernel_rfl) (by kernel_rfl) rfl HR2.out rfl infoTy0 ?_
    repeat
     apply fix_step rfl (by simp)
     case h1=>
      intro wb hb;have l0:=fun d os=>cell_regrown (bs_cell hb hn1 f0) d os;have l1:=fun d os=>cell_regrown (bs_cell hb hn1 f1) d os;have l2:=fun d os=>cell_regrown (bs_cell hb hn1 f2) d os;have l3:=fun d os=>cell_regrown (bs_cell hb hn2 g0) d os;have l4:=fun d os=>cell_regrown (bs_cell hb hn2 g1) d os;have l5:=fun d os=>cell_regrown (bs_cell hb hn2 g2') d os
      go_big_quiet_step (fail)
      refine wpQuiet_nil ?_;simp only [List.getElem?_toArray,List.getElem?_cons_succ,List.getElem?_cons_zero];exact rfl
     simp only [Act.put,Yd,Ye,Yf]
    refine⟨f3A oa ob oz,rfl,rfl,by simp [f3A,Value.oneCell'],fun W2 hB hz2=>?_⟩;have HB4:=Hd (bs_below hB HBW2.out (Nat.le_refl _) HLR.out);have HZ4:=Hd hz2;clear hB hz2
    go_wp2_with fail
    exact bodyPost_ret (res_ty2 (p:=6) (u:=7) rfl _ _ (w.heap.size+1+1) oa ob oz rfl HZ4.out) rfl ⟨oa,ob,oz,(by rw [HO2.out];rfl),fun t ht=>(by rw [HO2.out] at ht;first | (cases ht;done) | (cases ht;rfl)),HB4.out⟩
   | true=>
    obtain⟨ru,hru⟩:∃ r,ou=some r:=by have h:=HUS.out;cases ou with | none=>cases h | some r=>exact⟨r,rfl⟩
    have HRU:=Hd (HUV.out ru hru);have HRW:=Hd hru;have HOE:=Hd (show(if((a1,a2,a3):T3)=(oa,ob,oz) then some ((oa,ob,oz):T3) else none)=o by rw [← HO.out,HRQ.out,HRW.out,HRC.out,HRU.out];rfl);clear hru;rcases t3_cases a1 a2 a3 oa ob oz with⟨rfl,rfl,rfl,he⟩|⟨h1,he⟩|⟨rfl,h1,he⟩|⟨rfl,rfl,h1,he⟩
    · have HO2:=Hd (show o=some _ by rw [← HOE.out,if_pos rfl]);clear he;refine wp_region_out (l1:=[_,_,_,_,_,_,_,_,_,_]) (os:=_) (l2:=[_]) (p:=6) (tx:=75) (r:=w.heap.size+1+1) (T:=38) (zc:=f3A 0 0 0) (by kernel_rfl) (by kernel_rfl) rfl HR2.out rfl infoTy0 ?_
      repeat
       apply fix_step rfl (by simp)
       case h1=>
        intro wb hb;have l0:=fun d os=>cell_regrown (bs_cell hb hn1 f0) d os;have l1:=fun d os=>cell_regrown (bs_cell hb hn1 f1) d os;have l2:=fun d os=>cell_regrown (bs_cell hb hn1 f2) d os;have l3:=fun d os=>cell_regrown (bs_cell hb hn2 g0) d os;have l4:=fun d os=>cell_regrown (bs_cell hb hn2 g1) d os;have l5:=fun d os=>cell_regrown (bs_cell hb hn2 g2') d os
        go_big_quiet_step (fail)
        refine wpQuiet_nil ?_;simp only [List.getElem?_toArray,List.getElem?_cons_succ,List.getElem?_cons_zero];exact rfl
       simp only [Act.put,Yd,Ye,Yf]
      refine⟨f3A a1 a2 a3,rfl,rfl,by simp [f3A,Value.oneCell'],fun W2 hB hz2=>?_⟩;have HB4:=Hd (bs_below hB HBW2.out (Nat.le_refl _) HLR.out);have HZ4:=Hd hz2;clear hB hz2
      go_wp2_with fail
      exact bodyPost_ret (res_ty2 (p:=6) (u:=7) rfl _ _ (w.heap.size+1+1) a1 a2 a3 rfl HZ4.out) rfl ⟨a1,a2,a3,(by rw [HO2.out];rfl),fun t ht=>(by rw [HO2.out] at ht;first | (cases ht;done) | (cases ht;rfl)),HB4.out⟩
    all_goals
     have HO2:=Hd (show o=none by rw [← HOE.out,if_neg he]);have h1n:=h1;simp only [beq_eq_false_iff_ne,ne_eq] at h1n;clear he
     skip
    · refine wp_region_out (l1:=[_,_,_,_,_,_,_,_,_,_]) (os:=_) (l2:=[_]) (p:=6) (tx:=75) (r:=w.heap.size+1+1) (T:=38) (zc:=f3A 0 0 0) (by kernel_rfl) (by kernel_rfl) rfl HR2.out rfl infoTy0 ?_
      repeat
       apply fix_step rfl (by simp)
       case h1=>
        intro wb hb;have l0:=fun d os=>cell_regrown (bs_cell hb hn1 f0) d os;have l1:=fun d os=>cell_regrown (bs_cell hb hn1 f1) d os;have l2:=fun d os=>cell_regrown (bs_cell hb hn1 f2) d os;have l3:=fun d os=>cell_regrown (bs_cell hb hn2 g0) d os;have l4:=fun d os=>cell_regrown (bs_cell hb hn2 g1) d os;have l5:=fun d os=>cell_regrown (bs_cell hb hn2 g2') d os
        go_big_quiet_step (fail)
        refine wpQuiet_nil ?_;simp only [List.getElem?_toArray,List.getElem?_cons_succ,List.getElem?_cons_zero];exact rfl
       simp only [Act.put,Yd,Ye,Yf]
      refine⟨f3A oa ob oz,rfl,rfl,by simp [f3A,Value.oneCell'],fun W2 hB hz2=>?_⟩;have HB4:=Hd (bs_below hB HBW2.out (Nat.le_refl _) HLR.out);have HZ4:=Hd hz2;clear hB hz2
      go_wp2_with fail
      exact bodyPost_ret (res_ty2 (p:=6) (u:=7) rfl _ _ (w.heap.size+1+1) oa ob oz rfl HZ4.out) rfl ⟨oa,ob,oz,(by rw [HO2.out];rfl),fun t ht=>(by rw [HO2.out] at ht;first | (cases ht;done) | (cases ht;rfl)),HB4.out⟩
    · refine wp_region_out (l1:=[_,_,_,_,_,_,_,_,_,_]) (os:=_) (l2:=[_]) (p:=6) (tx:=75) (r:=w.heap.size+1+1) (T:=38) (zc:=f3A 0 0 0) (by kernel_rfl) (by kernel_rfl) rfl HR2.out rfl infoTy0 ?_
      repeat
       apply fix_step rfl (by simp)
       case h1=>
        intro wb hb;have l0:=fun d os=>cell_regrown (bs_cell hb hn1 f0) d os;have l1:=fun d os=>cell_regrown (bs_cell hb hn1 f1) d os;have l2:=fun d os=>cell_regrown (bs_cell hb hn1 f2) d os;have l3:=fun d os=>cell_regrown (bs_cell hb hn2 g0) d os;have l4:=fun d os=>cell_regrown (bs_cell hb hn2 g1) d os;have l5:=fun d os=>cell_regrown (bs_cell hb hn2 g2') d os
        go_big_quiet_step (fail)
        refine wpQuiet_nil ?_;simp only [List.getElem?_toArray,List.getElem?_cons_succ,List.getElem?_cons_zero];exact rfl
       simp only [Act.put,Yd,Ye,Yf]
      refine⟨f3A a1 ob oz,rfl,rfl,by simp [f3A,Value.oneCell'],fun W2 hB hz2=>?_⟩;have HB4:=Hd (bs_below hB HBW2.out (Nat.le_refl _) HLR.out);have HZ4:=Hd hz2;clear hB hz2
      go_wp2_with fail
      exact bodyPost_ret (res_ty2 (p:=6) (u:=7) rfl _ _ (w.heap.size+1+1) a1 ob oz rfl HZ4.out) rfl ⟨a1,ob,oz,(by rw [HO2.out];rfl),fun t ht=>(by rw [HO2.out] at ht;first | (cases ht;done) | (cases ht;rfl)),HB4.out⟩
    · refine wp_region_out (l1:=[_,_,_,_,_,_,_,_,_,_]) (os:=_) (l2:=[_]) (p:=6) (tx:=75) (r:=w.heap.size+1+1) (T:=38) (zc:=f3A 0 0 0) (by kernel_rfl) (by kernel_rfl) rfl HR2.out rfl infoTy0 ?_
      repeat
       apply fix_step rfl (by simp)
       case h1=>
        intro wb hb;have l0:=fun d os=>cell_regrown (bs_cell hb hn1 f0) d os;have l1:=fun d os=>cell_regrown (bs_cell hb hn1 f1) d os;have l2:=fun d os=>cell_regrown (bs_cell hb hn1 f2) d os;have l3:=fun d os=>cell_regrown (bs_cell hb hn2 g0) d os;have l4:=fun d os=>cell_regrown (bs_cell hb hn2 g1) d os;have l5:=fun d os=>cell_regrown (bs_cell hb hn2 g2') d os
        go_big_quiet_step (fail)
        refine wpQuiet_nil ?_;simp only [List.getElem?_toArray,List.getElem?_cons_succ,List.getElem?_cons_zero];exact rfl
       simp only [Act.put,Yd,Ye,Yf]
      refine⟨f3A a1 a2 oz,rfl,rfl,by simp [f3A,Value.oneCell'],fun W2 hB hz2=>?_⟩;have HB4:=Hd (bs_below hB HBW2.out (Nat.le_refl _) HLR.out);have HZ4:=Hd hz2;clear hB hz2
      go_wp2_with fail
      exact bodyPost_ret (res_ty2 (p:=6) (u:=7) rfl _ _ (w.heap.size+1+1) a1 a2 oz rfl HZ4.out) rfl ⟨a1,a2,oz,(by rw [HO2.out];rfl),fun t ht=>(by rw [HO2.out] at ht;first | (cases ht;done) | (cases ht;rfl)),HB4.out⟩
theorem fbyOK(p:Pg) (E:Option Addr) (ec:Nat) (N:Option Addr) (nc:Nat) (i:Nat):FbyOK p E ec N nc i:=fun x A ca B cb w h hr hk h2 hs0 hsh0 ou hsub=>refOfF p E ec N nc i x A ca B cb w h hr hk h2 hs0 hsh0 ou hsub _ rfl
end
section
open Go.RowKit Go.Sort Go.BigFrame
theorem checkS_N{p:Pg}(h:checkS p=(0,0,0)):checkN p=0:=by
 unfold checkS at h
 split at h
 · assumption
 · have:=congrArg (·.2.1) h
   simp at this
theorem types_of{p:Pg}{i:Nat}(ht:TinyP p) (h0:checkN p=0) (hi:i<p.ns.length):(∀ s d,declO (ndAt p i) s=some d→rightB p.es.length d.k d.e d.l=true)∧∀ j,j<(ndAt p i).eqs.length→GoodX ((ndAt p i).eqs[j]?.getD default).x:=by
 have hx:ndAt p i∈p.ns:=by
  unfold ndAt;rw [List.getElem?_eq_getElem hi];exact List.getElem_mem hi
 unfold checkN rightN at h0
 split at h0 <;> try (rename_i he;exact absurd h0 he)
 split at h0 <;> try (cases h0;done)
 split at h0 <;> try (cases h0;done)
 split at h0 <;> try (cases h0;done)
 split at h0 <;> try (cases h0;done)
 rename_i hr
 have h1:=List.all_eq_true.1 hr _ hx;unfold nodeB at h1;simp only [Bool.and_eq_true] at h1;refine⟨fun s d hd=>?_,fun k hk=>?_⟩
 · unfold declO at hd;have h2:=List.all_eq_true.1 h1.1.1.1.1 d (List.mem_of_find?_eq_some hd);unfold declB at h2;simp only [Bool.and_eq_true] at h2;simp only [h2]
 · have hm:(ndAt p i).eqs[k]?.getD default∈(ndAt p i).eqs:=by
    rw [List.getElem?_eq_getElem hk];exact List.getElem_mem hk
   have h3:=List.all_eq_true.1 h1.1.1.2 _ hm;unfold eqB at h3;simp only [Bool.and_eq_true] at h3;have h4:=h3.1.2;unfold rightX at h4;simp only [Bool.and_eq_true] at h4;have hq:=(ht.2.2 i hi).2.2.2.2.2 k hk;exact⟨tiny_sizeX hq.2.1,fun z hz=>⟨tiny_shortX hq.2.1 z hz,List.all_eq_true.1 h4.2 z hz⟩⟩
theorem refOfG(p:Pg) (E:Option Addr) (ec:Nat) (N:Option Addr) (nc:Nat) (i:Nat) (x:Ex) (A:Option Addr) (ca:Nat) (B:Option Addr) (cb:Nat) (w:World) (h:rdP w p E N) (hx:rdX w x A B) (ht:TinyP p) (h0:checkN p=0) (hi:i<p.ns.length) (hg:GoodX x):
 Calls Tryz.prog 14 #[.agg (pgA p E ec N nc),.int .i64 i,.agg (exA x A ca B cb)] w (TyZ w (typX p i x)):=
 refOfOf p E ec N nc i x A ca B cb w hi (RdS.max h.2) _ fun w1 hb=>refOfX p E ec N nc i hi (RdS.max h.2) (tiny_few (ht.2.2 i hi)).1 (types_of ht h0 hi).1 (fbyOK p E ec N nc i) x A ca B cb w1 (h.below hb) (hx.below hb) hg
theorem refOfAll(p:Pg) (E:Option Addr) (ec:Nat) (N:Option Addr) (nc:Nat) (i:Int) (x:Ex) (A:Option Addr) (ca:Nat) (B:Option Addr) (cb:Nat) (w:World) (h:rdP w p E N) (hx:rdX w x A B) (ht:TinyP p) (h0:checkN p=0) (hg:GoodX x):
 Calls Tryz.prog 14 #[.agg (pgA p E ec N nc),.int .i64 i,.agg (exA x A ca B cb)] w (TyZ w (typOf p i x)):=by
 by_cases hi:i<0∨(p.ns.length:Int)≤i
 · have:typOf p i x=none:=by
    unfold typOf
    first | (rw [if_pos hi]) | (rw [if_neg (by omega)]) | (simp only [hi];rfl)
   rw [this];exact refOfNo p E ec N nc i x A ca B cb w hi
 · obtain⟨n,rfl⟩:∃ n:Nat,i=n:=⟨i.toNat,by omega⟩
   have:typOf p n x=typX p n x:=by
    unfold typOf
    first | (rw [if_neg hi];rfl) | (rw [if_pos (by omega)];rfl)
   rw [this];exact refOfG p E ec N nc n x A ca B cb w h hx ht h0 (by omega) hg
end
section
open Go.RowKit Go.Sort Go.BigFrame
end
section
open Go.RowKit Go.Sort Go.BigFrame
theorem good_small{x:Ex}(ht:tinyX x=true) (hr:rightX x=true):GoodX x:=by
 unfold rightX at hr;simp only [Bool.and_eq_true] at hr;exact⟨tiny_sizeX ht,fun z hz=>⟨tiny_shortX ht z hz,List.all_eq_true.1 hr.2 z hz⟩⟩
theorem walkOf(p:Pg) (E:Option Addr) (ec:Nat) (N:Option Addr) (nc:Nat) (i:Int) (x:Ex) (A:Option Addr) (ca:Nat) (B:Option Addr) (cb:Nat) (w:World) (h:rdP w p E N) (hx:rdX w x A B)
 (hlive:∀ w,Calls Tryz.prog 7 #[] w fun e w'=>e=.returned (.bool true)∧Below w.heap.size w w')
 (HTO:∀ w,rdP w p E N→rdX w x A B→TinyP p→checkN p=0→GoodX x→rightX x=true→Calls Tryz.prog 13 #[.agg (pgA p E ec N nc),.int .i64 i,.agg (exA x A ca B cb)] w (TyZ w (typOf p i x))):
 Calls Tryz.prog 4 #[.agg (pgA p E ec N nc),.int .i64 i,.agg (exA x A ca B cb)] w fun e w'=>e=.returned (.bool true)∧Below w.heap.size w w':=by
 have HF:=Hd fun w0 h=>pe_box (w:=w) (w0:=w0) (p:=p) (E:=E) (ec:=ec) (N:=N) (nc:=nc) (x:=x) (A:=A) (ca:=ca) (B:=B) (cb:=cb) (T:=25) (U:=35) h;have HSM:=Hd fun w1 (hb:Below w.heap.size w w1)=>refPgSmall p E ec N nc w1 (h.below hb);have HTX:=Hd fun w1 (hb:Below w.heap.size w w1)=>refSmall x A ca B cb w1 (hx.below hb);have HRX:=Hd fun(ht:tinyX x=true) w1 (hb:Below w.heap.size w w1)=>refRight x A ca B cb w1 (hx.below hb) (tiny_sizeX ht) (tiny_shortX ht);have HCK:=Hd fun(ht:TinyP p) w1 (hb:Below w.heap.size w w1)=>refCheck15 p E ec N nc w1 (h.below hb) ht;have HTO:=Hd fun w1 (hb:Below w.heap.size w w1) (ht:TinyP p) (h0:checkS p=(0,0,0)) (h1:tinyX x=true) (h2:rightX x=true)=>HTO w1 (h.below hb) (hx.below hb) ht (checkS_N h0) (good_small h1 h2) h2;have HRO:=Hd fun w1 (hb:Below w.heap.size w w1) (ht:TinyP p) (h0:checkS p=(0,0,0)) (h1:tinyX x=true) (h2:rightX x=true)=>refOfAll p E ec N nc i x A ca B cb w1 (h.below hb) (hx.below hb) ht (checkS_N h0) (good_small h1 h2);have HLV:=Hd hlive;clear h hx hlive;unfold TyZ f3A at HTO HRO;unfold flV f3A at HCK;generalize typOf p i x=o at *;generalize (o.getD (0,0,0)).1=oa at *;generalize (o.getD (0,0,0)).2.1=ob at *;generalize (o.getD (0,0,0)).2.2=oz at *;generalize o.isSome=os at *;generalize tinyX x=tx at *;generalize rightX x=rx at *;generalize checkS p=cs at *;obtain⟨fa,fb,fc⟩:=cs;unfold pgA exA at *
 go_enter Tryz.func4,Tryz.ntmps4
 go_upto_region 1 with(fail)
 generalize hw0:(w.alloc _).alloc _=w0;obtain⟨hb0,hsz,hp,hx⟩:=HF.out w0 hw0;have HB0:=Hd hb0;have HP:=Hd hp;have HX:=Hd hx;clear hw0 hb0 hsz hp hx HF;have p0:=HP.out w0 (Below.refl _ _) 0;have p1:=HP.out w0 (Below.refl _ _) 1;obtain⟨q0,q1,q2,q3,q4,q5⟩:=Sx (HX.out w0 (Below.refl _ _));simp only [Ya,Yb,Yc] at p0 p1 q0 q1 q2 q3 q4 q5
 go_wp2_with fail
 refine(HSM.out w0 HB0.out).mono ?_;rintro e w1 ⟨b,rfl,ht,hb1⟩;clear p0 p1 q0 q1 q2 q3 q4 q5;have HB1:=Hd hb1
 cases b with
 | false=>
  clear hb1 ht
  go_wp2_with fail
  refine(HLV.out w1).mono ?_;rintro e wl ⟨rfl,hbl⟩;have HBL:=Hd (HB1.out.trans (hbl.mono HB1.out.size));clear hbl
  go_wp2_with fail
  go_ret
  exact⟨rfl,HB0.out.trans (HBL.out.mono HB0.out.size)⟩
 | true=>
  have HT:=Hd (ht rfl);have p0:=HP.out w1 hb1 0;have p1:=HP.out w1 hb1 1;obtain⟨q0,q1,q2,q3,q4,q5⟩:=Sx (HX.out w1 hb1);simp only [Ya,Yb,Yc] at p0 p1 q0 q1 q2 q3 q4 q5;clear ht hb1
  go_wp2_with fail
  refine(HTX.out w1 (HB0.out.trans (HB1.out.mono HB0.out.size))).mono ?_;rintro e w2 ⟨rfl,hb⟩;clear p0 p1 q0 q1 q2 q3 q4 q5;have hb2:=HB1.out.trans (hb.mono HB1.out.size);have HB2:=Hd hb2;clear hb
  cases tx with
  | false=>
   clear hb2
   go_wp2_with fail
   refine(HLV.out w2).mono ?_;rintro e wl ⟨rfl,hbl⟩;have HBL:=Hd (HB2.out.trans (hbl.mono HB2.out.size));clear hbl
   go_wp2_with fail
   go_ret
   exact⟨rfl,HB0.out.trans (HBL.out.mono HB0.out.size)⟩
  | true=>
   have p0:=HP.out w2 hb2 0;have p1:=HP.out w2 hb2 1;obtain⟨q0,q1,q2,q3,q4,q5⟩:=Sx (HX.out w2 hb2);simp only [Ya,Yb,Yc] at p0 p1 q0 q1 q2 q3 q4 q5;clear hb2
   go_wp2_with fail
   refine(HRX.out (by first | exact rfl | trivial) w2 (HB0.out.trans (HB2.out.mono HB0.out.size))).mono ?_;rintro e w3 ⟨rfl,hb⟩;clear p0 p1 q0 q1 q2 q3 q4 q5;have hb3:=HB2.out.trans (hb.mono HB2.out.size);have HB3:=Hd hb3;clear hb
   cases rx with
   | false=>
    clear hb3
    go_wp2_with fail
    refine(HLV.out w3).mono ?_;rintro e wl ⟨rfl,hbl⟩;have HBL:=Hd (HB3.out.trans (hbl.mono HB3.out.size));clear hbl
    go_wp2_with fail
    go_ret
    exact⟨rfl,HB0.out.trans (HBL.out.mono HB0.out.size)⟩
   | true=>
    have p0:=HP.out w3 hb3 0;have p1:=HP.out w3 hb3 1;obtain⟨q0,q1,q2,q3,q4,q5⟩:=Sx (HX.out w3 hb3);simp only [Ya,Yb,Yc] at p0 p1 q0 q1 q2 q3 q4 q5;clear hb3
    go_wp2_with fail
    refine(HCK.out HT.out w3 (HB0.out.trans (HB3.out.mono HB0.out.size))).mono ?_;rintro e w4 ⟨rfl,hb⟩;clear p0 p1 q0 q1 q2 q3 q4 q5;have hb4:=HB3.out.trans (hb.mono HB3.out.size);have HB4:=Hd hb4;clear hb
    by_cases hz:((fa,fb,fc):Fl)=(0,0,0)
    · injection hz with ha hbc;injection hbc with hb hc;subst ha hb hc;have p0:=HP.out w4 hb4 0;have p1:=HP.out w4 hb4 1;obtain⟨q0,q1,q2,q3,q4,q5⟩:=Sx (HX.out w4 hb4);simp only [Ya,Yb,Yc] at p0 p1 q0 q1 q2 q3 q4 q5;clear hb4
      go_wp2_with fail
      refine(HTO.out w4 (HB0.out.trans (HB4.out.mono HB0.out.size)) HT.out (by first | exact rfl | trivial) (by first | exact rfl | trivial) (by first | exact rfl | trivial)).mono ?_;rintro e w5 ⟨rfl,hb⟩;clear p0 p1 q0 q1 q2 q3 q4 q5;have hb5:=HB4.out.trans (hb.mono HB4.out.size);have HB5:=Hd hb5;clear hb hb5
      go_upto_region 4 with(fail)
      generalize hw6:w5.alloc _=w6;obtain⟨hb,hF6,hg6⟩:=ty_box hw6;have HF6:=Hd hF6;have hb6:=HB5.out.trans (hb.mono HB5.out.size);have HB6:=Hd hb6;clear hw6 hb hF6 hg6;have p0:=HP.out w6 hb6 0;have p1:=HP.out w6 hb6 1;obtain⟨q0,q1,q2,q3,q4,q5⟩:=Sx (HX.out w6 hb6);simp only [Ya,Yb,Yc] at p0 p1 q0 q1 q2 q3 q4 q5;clear hb6
      go_wp2_with fail
      refine(HRO.out w6 (HB0.out.trans (HB6.out.mono HB0.out.size)) HT.out (by first | exact rfl | trivial) (by first | exact rfl | trivial) (by first | exact rfl | trivial)).mono ?_;rintro e w7 ⟨rfl,hb⟩;clear p0 p1 q0 q1 q2 q3 q4 q5;have HB7:=Hd (HB6.out.trans (hb.mono HB6.out.size));have HF7:=Hd (HF6.out.below hb);clear hb
      go_upto_region 5 with(fail)
      generalize hw8:w7.alloc _=w8;obtain⟨hb,hF8,hg8⟩:=ty_box hw8;have HF8:=HF7.out.below hb;obtain⟨f0,f1,f2,-,-,-⟩:=Sx HF8.cell;obtain⟨e0,e1,e2,-,-,-⟩:=Sx hF8.cell;simp only [f3A,List.getElem?_toArray,List.getElem?_cons_zero,List.getElem?_cons_succ] at f0 f1 f2 e0 e1 e2;have HB8:=Hd (HB7.out.trans (hb.mono HB7.out.size));clear hw8 hb hF8 hg8 HF8
      go_wp2_with fail
      refine(HLV.out w8).mono ?_;rintro e wl ⟨rfl,hbl⟩;have HBL:=Hd (HB8.out.trans (hbl.mono HB8.out.size));clear hbl
      go_wp2_with fail
      go_ret
      exact⟨rfl,HB0.out.trans (HBL.out.mono HB0.out.size)⟩
    · clear hb4;have hne:=fl_ne hz;clear hz;rcases hne with ha | ⟨ha,hb⟩|⟨ha,hb,hc⟩
      · have ha2:(fa==0)=false:=by rw [bne_iff_ne] at ha;exact beq_eq_false_iff_ne.2 ha
        go_wp2_with fail
        refine(HLV.out w4).mono ?_;rintro e wl ⟨rfl,hbl⟩;have HBL:=Hd (HB4.out.trans (hbl.mono HB4.out.size));clear hbl
        go_wp2_with fail
        go_ret
        exact⟨rfl,HB0.out.trans (HBL.out.mono HB0.out.size)⟩
      · have hb2:(fb==0)=false:=by rw [bne_iff_ne] at hb;exact beq_eq_false_iff_ne.2 hb
        subst ha
        go_wp2_with fail
        refine(HLV.out w4).mono ?_;rintro e wl ⟨rfl,hbl⟩;have HBL:=Hd (HB4.out.trans (hbl.mono HB4.out.size));clear hbl
        go_wp2_with fail
        go_ret
        exact⟨rfl,HB0.out.trans (HBL.out.mono HB0.out.size)⟩
      · have hc2:(fc==0)=false:=by rw [bne_iff_ne] at hc;exact beq_eq_false_iff_ne.2 hc
        subst ha hb
        go_wp2_with fail
        refine(HLV.out w4).mono ?_;rintro e wl ⟨rfl,hbl⟩;have HBL:=Hd (HB4.out.trans (hbl.mono HB4.out.size));clear hbl
        go_wp2_with fail
        go_ret
        exact⟨rfl,HB0.out.trans (HBL.out.mono HB0.out.size)⟩
end
end Go.Proofs.YtegjgiofmpolnaaGreat
