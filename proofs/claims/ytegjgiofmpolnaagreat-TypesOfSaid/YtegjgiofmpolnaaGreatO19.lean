/- Parts of the proof: TpJ, TpG, TpQ. Conditions: each theorem's own. -/
import Derived.Test.YtegjgiofmpolnaaGreatO16
import Derived.Test.YtegjgiofmpolnaaGreatO18
namespace Go.Proofs.YtegjgiofmpolnaaGreat
set_option linter.unusedVariables false
set_option linter.unusedSimpArgs false
set_option maxRecDepth 100000
set_option maxHeartbeats 40000000
section
open Go.RowKit Go.Sort Go.BigFrame
theorem infoTy0:(Tryz.prog.info? 38).map (·.size)=some (f3A 0 0 0).size:=by kernel_rfl
theorem refPlain7(x:Ex) (A:Option Addr) (ca:Nat) (B:Option Addr) (cb:Nat) (S:Option Addr) (m sc:Nat) (ts:List T3) (w:World) (hS:RdY w S m ts) (hk:x.k=7) (hm:3≤m):
 Calls Tryz.prog 82 #[.agg (exA x A ca B cb),.slice S m sc] w (TyAns w (if(truthT (atT ts 0) && decide (atT ts 1=atT ts 2))=true then some (atT ts 1) else none)):=by
 have HF:=Hd fun w0 h=>box_res (w:=w) (w0:=w0) (x:=x) (A:=A) (ca:=ca) (B:=B) (cb:=cb) (T:=35) (U:=38) h;obtain⟨sb,so,rfl,hsb,hsc⟩:=hS.at_ (i:=0) (by omega);obtain⟨a0,a1,a2⟩:=hsc 0 (by omega);obtain⟨b0,b1,b2⟩:=hsc 1 (by omega);obtain⟨c0,c1,c2⟩:=hsc 2 (by omega);simp only [Nat.zero_mul,Nat.add_zero,Nat.one_mul] at a0 a1 a2 b0 b1 b2 c0 c1 c2;have hml:=hS.len;have HSS:=Hd fun w1 (hb:Below w.heap.size w w1)=>hS.below hb;unfold exA at HF ⊢;rw [hk] at HF ⊢;clear hS hsc hk;generalize atT ts 0=u at *;generalize atT ts 1=v at *;generalize atT ts 2=z at *;obtain⟨u0,u1,u2⟩:=u;obtain⟨v0,v1,v2⟩:=v;obtain⟨z0,z1,z2⟩:=z;have HT:=Hd (refTruth16 u0 u1 u2)
 dsimp only at a0 a1 a2 b0 b1 b2 c0 c1 c2
 unfold f3A at HT;generalize truthT (u0,u1,u2)=tt at *;generalize hO:(if(tt && decide ((v0,v1,v2)=(z0,z1,z2)))=true then some ((v0,v1,v2):T3) else none)=o;have HO:=Hd hO;clear hO
 go_enter Tryz.func82,Tryz.ntmps82
 go_upto_region 1 with(fail)
 generalize hw0:(w.alloc _).alloc _=w0;obtain⟨hR,hcell,hb0,hsz⟩:=HF.out w0 hw0;have HR:=Hd hR;have HB0:=Hd hb0;have q0:=hcell w0 (Below.refl _ _) 0;have q3:=hcell w0 (Below.refl _ _) 3;simp only [Ya,Yb,Yc] at q0 q3;have a0:=(hb0.cell (p:=⟨sb,so,none⟩) hsb).trans a0;have a1:=(hb0.cell (p:=⟨sb,so+1,none⟩) hsb).trans a1;have a2:=(hb0.cell (p:=⟨sb,so+2,none⟩) hsb).trans a2;have b0:=(hb0.cell (p:=⟨sb,so+3,none⟩) hsb).trans b0;have b1:=(hb0.cell (p:=⟨sb,so+3+1,none⟩) hsb).trans b1;have b2:=(hb0.cell (p:=⟨sb,so+3+2,none⟩) hsb).trans b2;have c0:=(hb0.cell (p:=⟨sb,so+2*3,none⟩) hsb).trans c0;have c1:=(hb0.cell (p:=⟨sb,so+2*3+1,none⟩) hsb).trans c1;have c2:=(hb0.cell (p:=⟨sb,so+2*3+2,none⟩) hsb).trans c2;have h0m:0<m:=by omega
 have h1m:1<m:=by omega
 have h2m:2<m:=by omega
 clear hw0 hR hcell hb0 hsz HF hm
 go_upto_region 7 with(fail)
 clear q3;have hsb0:sb<w0.heap.size:=Nat.lt_of_lt_of_le hsb HB0.out.size;have hne:sb≠w.heap.size+1:=by omega
 have hne2:w.heap.size+1≠sb:=by omega
 have hsb0:sb<w0.heap.size:=Nat.lt_of_lt_of_le hsb HB0.out.size;have hne:sb≠w.heap.size+1:=by omega
 cases tt with
 | false=>
  refine wp_region_out (l1:=[_,_,_,_,_,_,_,_,_,_,_,_,_,_,_,_]) (os:=_) (l2:=[_]) (p:=4) (tx:=36) (r:=w.heap.size+1) (T:=38) (zc:=f3A 0 0 0) (by kernel_rfl) (by kernel_rfl) rfl HR.out rfl infoTy0 ?_
  repeat
   apply fix_step rfl (by simp)
   case h1=>
    intro wb hb;have l0:=fun d os=>cell_regrown (bs_cell hb hne a0) d os;have l1:=fun d os=>cell_regrown (bs_cell hb hne a1) d os;have l2:=fun d os=>cell_regrown (bs_cell hb hne a2) d os;have l3:=fun d os=>cell_regrown (bs_cell hb hne b0) d os;have l4:=fun d os=>cell_regrown (bs_cell hb hne b1) d os;have l5:=fun d os=>cell_regrown (bs_cell hb hne b2) d os;have l6:=fun d os=>cell_regrown (bs_cell hb hne c0) d os;have l7:=fun d os=>cell_regrown (bs_cell hb hne c1) d os;have l8:=fun d os=>cell_regrown (bs_cell hb hne c2) d os;have cA:=fun d os=>Calls.regrown_of (HT.out (grow (redrawn wb d) os))
    go_big_quiet_step (first | with_reducible exact cA _ _)
    refine wpQuiet_nil ?_;simp only [List.getElem?_toArray,List.getElem?_cons_succ,List.getElem?_cons_zero];exact rfl
   simp only [Act.put,Yd,Ye,Yf]
  refine⟨f3A v0 v1 v2,rfl,rfl,by simp [f3A,Value.oneCell'],fun W hB hz=>?_⟩;have HB4:=Hd (bs_below hB HB0.out (Nat.le_refl _) (Nat.le_succ _));have HZ4:=Hd hz;clear hB hz
  go_wp2_with fail
  exact bodyPost_ret (res_ty2 (p:=4) (u:=5) rfl _ _ (w.heap.size+1) v0 v1 v2 rfl HZ4.out) rfl ⟨v0,v1,v2,(by rw [← HO.out];rfl),fun t ht=>(by rw [← HO.out] at ht;cases ht),HB4.out⟩
 | true=>
  rcases t3_cases v0 v1 v2 z0 z1 z2 with⟨rfl,rfl,rfl,he⟩|⟨h1,he⟩|⟨rfl,h1,he⟩|⟨rfl,rfl,h1,he⟩
  · clear he;refine wp_region_out (l1:=[_,_,_,_,_,_,_,_,_,_,_,_,_,_,_,_]) (os:=_) (l2:=[_]) (p:=4) (tx:=36) (r:=w.heap.size+1) (T:=38) (zc:=f3A 0 0 0) (by kernel_rfl) (by kernel_rfl) rfl HR.out rfl infoTy0 ?_
    repeat
     apply fix_step rfl (by simp)
     case h1=>
      intro wb hb;have l0:=fun d os=>cell_regrown (bs_cell hb hne a0) d os;have l1:=fun d os=>cell_regrown (bs_cell hb hne a1) d os;have l2:=fun d os=>cell_regrown (bs_cell hb hne a2) d os;have l3:=fun d os=>cell_regrown (bs_cell hb hne b0) d os;have l4:=fun d os=>cell_regrown (bs_cell hb hne b1) d os;have l5:=fun d os=>cell_regrown (bs_cell hb hne b2) d os;have l6:=fun d os=>cell_regrown (bs_cell hb hne c0) d os;have l7:=fun d os=>cell_regrown (bs_cell hb hne c1) d os;have l8:=fun d os=>cell_regrown (bs_cell hb hne c2) d os;have cA:=fun d os=>Calls.regrown_of (HT.out (grow (redrawn wb d) os))
      go_big_quiet_step (first | with_reducible exact cA _ _)
      refine wpQuiet_nil ?_;simp only [List.getElem?_toArray,List.getElem?_cons_succ,List.getElem?_cons_zero];exact rfl
     simp only [Act.put,Yd,Ye,Yf]
    refine⟨f3A v0 v1 v2,rfl,rfl,by simp [f3A,Value.oneCell'],fun W hB hz=>?_⟩;have HB4:=Hd (bs_below hB HB0.out (Nat.le_refl _) (Nat.le_succ _));have HZ4:=Hd hz;clear hB hz
    go_wp2_with fail
    exact bodyPost_ret (res_ty2 (p:=4) (u:=5) rfl _ _ (w.heap.size+1) v0 v1 v2 rfl HZ4.out) rfl ⟨v0,v1,v2,(by rw [show o=some (v0,v1,v2) by(rw [← HO.out];simp)];rfl),fun t ht=>(by rw [show o=some (v0,v1,v2) by(rw [← HO.out];simp)] at ht;exact(Option.some.inj ht).symm),HB4.out⟩
  · have HE:=Hd he;have h1n:=h1;simp only [beq_eq_false_iff_ne,ne_eq] at h1n;clear he;refine wp_region_out (l1:=[_,_,_,_,_,_,_,_,_,_,_,_,_,_,_,_]) (os:=_) (l2:=[_]) (p:=4) (tx:=36) (r:=w.heap.size+1) (T:=38) (zc:=f3A 0 0 0) (by kernel_rfl) (by kernel_rfl) rfl HR.out rfl infoTy0 ?_
    repeat
     apply fix_step rfl (by simp)
     case h1=>
      intro wb hb;have l0:=fun d os=>cell_regrown (bs_cell hb hne a0) d os;have l1:=fun d os=>cell_regrown (bs_cell hb hne a1) d os;have l2:=fun d os=>cell_regrown (bs_cell hb hne a2) d os;have l3:=fun d os=>cell_regrown (bs_cell hb hne b0) d os;have l4:=fun d os=>cell_regrown (bs_cell hb hne b1) d os;have l5:=fun d os=>cell_regrown (bs_cell hb hne b2) d os;have l6:=fun d os=>cell_regrown (bs_cell hb hne c0) d os;have l7:=fun d os=>cell_regrown (bs_cell hb hne c1) d os;have l8:=fun d os=>cell_regrown (bs_cell hb hne c2) d os;have cA:=fun d os=>Calls.regrown_of (HT.out (grow (redrawn wb d) os))
      go_big_quiet_step (first | with_reducible exact cA _ _)
      refine wpQuiet_nil ?_;simp only [List.getElem?_toArray,List.getElem?_cons_succ,List.getElem?_cons_zero];exact rfl
     simp only [Act.put,Yd,Ye,Yf]
    refine⟨f3A _ _ _,rfl,rfl,by simp [f3A,Value.oneCell'],fun W hB hz=>?_⟩;have HB4:=Hd (bs_below hB HB0.out (Nat.le_refl _) (Nat.le_succ _));have HZ4:=Hd hz;clear hB hz
    go_wp2_with fail
    exact bodyPost_ret (res_ty2 (p:=4) (u:=5) rfl _ _ (w.heap.size+1) _ _ _ rfl HZ4.out) rfl ⟨_,_,_,(by rw [← HO.out,decide_eq_false HE.out];rfl),fun t ht=>(by rw [← HO.out,decide_eq_false HE.out] at ht;cases ht),HB4.out⟩
  · have HE:=Hd he;have h1n:=h1;simp only [beq_eq_false_iff_ne,ne_eq] at h1n;clear he;refine wp_region_out (l1:=[_,_,_,_,_,_,_,_,_,_,_,_,_,_,_,_]) (os:=_) (l2:=[_]) (p:=4) (tx:=36) (r:=w.heap.size+1) (T:=38) (zc:=f3A 0 0 0) (by kernel_rfl) (by kernel_rfl) rfl HR.out rfl infoTy0 ?_
    repeat
     apply fix_step rfl (by simp)
     case h1=>
      intro wb hb;have l0:=fun d os=>cell_regrown (bs_cell hb hne a0) d os;have l1:=fun d os=>cell_regrown (bs_cell hb hne a1) d os;have l2:=fun d os=>cell_regrown (bs_cell hb hne a2) d os;have l3:=fun d os=>cell_regrown (bs_cell hb hne b0) d os;have l4:=fun d os=>cell_regrown (bs_cell hb hne b1) d os;have l5:=fun d os=>cell_regrown (bs_cell hb hne b2) d os;have l6:=fun d os=>cell_regrown (bs_cell hb hne c0) d os;have l7:=fun d os=>cell_regrown (bs_cell hb hne c1) d os;have l8:=fun d os=>cell_regrown (bs_cell hb hne c2) d os;have cA:=fun d os=>Calls.regrown_of (HT.out (grow (redrawn wb d) os))
      go_big_quiet_step (first | with_reducible exact cA _ _)
      refine wpQuiet_nil ?_;simp only [List.getElem?_toArray,List.getElem?_cons_succ,List.getElem?_cons_zero];exact rfl
     simp only [Act.put,Yd,Ye,Yf]
    refine⟨f3A _ _ _,rfl,rfl,by simp [f3A,Value.oneCell'],fun W hB hz=>?_⟩;have HB4:=Hd (bs_below hB HB0.out (Nat.le_refl _) (Nat.le_succ _));have HZ4:=Hd hz;clear hB hz
    go_wp2_with fail
    exact bodyPost_ret (res_ty2 (p:=4) (u:=5) rfl _ _ (w.heap.size+1) _ _ _ rfl HZ4.out) rfl ⟨_,_,_,(by rw [← HO.out,decide_eq_false HE.out];rfl),fun t ht=>(by rw [← HO.out,decide_eq_false HE.out] at ht;cases ht),HB4.out⟩
  · have HE:=Hd he;have h1n:=h1;simp only [beq_eq_false_iff_ne,ne_eq] at h1n;clear he;refine wp_region_out (l1:=[_,_,_,_,_,_,_,_,_,_,_,_,_,_,_,_]) (os:=_) (l2:=[_]) (p:=4) (tx:=36) (r:=w.heap.size+1) (T:=38) (zc:=f3A 0 0 0) (by kernel_rfl) (by kernel_rfl) rfl HR.out rfl infoTy0 ?_
    repeat
     apply fix_step rfl (by simp)
     case h1=>
      intro wb hb;have l0:=fun d os=>cell_regrown (bs_cell hb hne a0) d os;have l1:=fun d os=>cell_regrown (bs_cell hb hne a1) d os;have l2:=fun d os=>cell_regrown (bs_cell hb hne a2) d os;have l3:=fun d os=>cell_regrown (bs_cell hb hne b0) d os;have l4:=fun d os=>cell_regrown (bs_cell hb hne b1) d os;have l5:=fun d os=>cell_regrown (bs_cell hb hne b2) d os;have l6:=fun d os=>cell_regrown (bs_cell hb hne c0) d os;have l7:=fun d os=>cell_regrown (bs_cell hb hne c1) d os;have l8:=fun d os=>cell_regrown (bs_cell hb hne c2) d os;have cA:=fun d os=>Calls.regrown_of (HT.out (grow (redrawn wb d) os))
      go_big_quiet_step (first | with_reducible exact cA _ _)
      refine wpQuiet_nil ?_;simp only [List.getElem?_toArray,List.getElem?_cons_succ,List.getElem?_cons_zero];exact rfl
     simp only [Act.put,Yd,Ye,Yf]
    refine⟨f3A _ _ _,rfl,rfl,by simp [f3A,Value.oneCell'],fun W hB hz=>?_⟩;have HB4:=Hd (bs_below hB HB0.out (Nat.le_refl _) (Nat.le_succ _));have HZ4:=Hd hz;clear hB hz
    go_wp2_with fail
    exact bodyPost_ret (res_ty2 (p:=4) (u:=5) rfl _ _ (w.heap.size+1) _ _ _ rfl HZ4.out) rfl ⟨_,_,_,(by rw [← HO.out,decide_eq_false HE.out];rfl),fun t ht=>(by rw [← HO.out,decide_eq_false HE.out] at ht;cases ht),HB4.out⟩
end
section
open Go.RowKit Go.Sort Go.BigFrame
def dcZ:Array Value:=#[.string ⟨#[]⟩,.int .i64 0,.int .i64 0,.int .i64 0,.string ⟨#[]⟩,.string ⟨#[]⟩]
theorem rowD_cell{W:World}{g:Nat}{d:Dc}(h:RowD W g d) (j:Nat):W.cell? ⟨g,j,none⟩=(dcA d)[j]?:=by
 have:=cell_setRow_same W g j _ (dcA d) _ _ h;rwa [setRow_self W g _ _ _ h] at this
def flowW(od:Option Dc) (ro:Option (Int × Int × Int)) (t:T3):Option T3:=
 match od with
 | none=>none
 | some d=>match ro with
  | none=>none
  | some r=>if((r.1,r.2.1,0):T3)=tyD d then some t else none
theorem flowW_d{od:Option Dc}{ro:Option (Int × Int × Int)}{t:T3}(h:od.isSome=false):flowW od ro t=none:=by cases od;rfl;cases h
theorem flowW_r{od:Option Dc}{ro:Option (Int × Int × Int)}{t:T3}(h:ro.isSome=false):flowW od ro t=none:=by cases od <;> cases ro <;> first | rfl | cases h
theorem flowW_b{od:Option Dc}{ro:Option (Int × Int × Int)}{t:T3}{ra rb:Int}{dd:Dc}(h:od.isSome=true) (h':ro.isSome=true) (ha:(ro.map (·.1)).getD 0=ra) (hb:(ro.map (·.2.1)).getD 0=rb) (hd:od.getD default=dd):
 flowW od ro t=if((ra,rb,0):T3)=(dd.k,dd.e,dd.l) then some t else none:=by
 subst ha hb hd
 cases od with
 | none=>cases h
 | some d=>cases ro with
  | none=>cases h'
  | some r=>rfl
theorem refFlow11(p:Pg) (E:Option Addr) (ec:Nat) (N:Option Addr) (nc:Nat) (i:Nat) (x:Ex) (A:Option Addr) (ca:Nat) (B:Option Addr) (cb:Nat) (S:Option Addr) (m sc:Nat) (ts:List T3) (w:World) (h:rdP w p E N) (hr:rdX w x A B) (hS:RdY w S m ts) (hk:x.k=11) (hm:1≤m) (hi:i<p.ns.length) (hal:(ndAt p i).all.length≤1000) (har:0<x.arms.length) (o:Option T3) (ho:flowW (declO (ndAt p i) x.s) (armR p.es (x.arms[0]?.getD ByteArray.empty)) (atT ts 0)=o):
 Calls Tryz.prog 81 #[.agg (pgA p E ec N nc),.int .i64 i,.agg (exA x A ca B cb),.slice S m sc] w (TyAns w o):=by
 have HF:=Hd fun w0 h=>pe_box3 (w:=w) (w0:=w0) (p:=p) (E:=E) (ec:=ec) (N:=N) (nc:=nc) (x:=x) (A:=A) (ca:=ca) (B:=B) (cb:=cb) (T:=25) (U:=35) (V:=38) h;obtain⟨nb,no,A1,c1,A2,c2,A3,c3,A4,c4,rfl,hnb,hrd,d0,d1,d2,d3,d4⟩:=nd_at15 h.2 hi;have HDC:=Hd fun w1 (hb:Below w.heap.size w w1)=>refDeclN (ndAt p i) A1 c1 A2 c2 A3 c3 A4 c4 x.s w1 (hrd.below hb) hal;obtain⟨ab,ao,rfl,hab,hac⟩:=hr.arms.at_ har;have hc0:=hac 0 har;simp only [Nat.add_zero] at hc0;obtain⟨sb,so,rfl,hsb,hsc⟩:=hS.at_ (i:=0) (by omega);obtain⟨a0,a1,a2⟩:=hsc 0 (by omega);simp only [Nat.zero_mul,Nat.add_zero] at a0 a1 a2;have HAC:=Hd fun w1 (hb:Below w.heap.size w w1)=>(hb.cell (p:=⟨ab,ao,none⟩) hab).trans hc0
 have HSC:=Hd (show ∀ w1,Below w.heap.size w w1→w1.cell? ⟨sb,so,none⟩=some (.int .i64 (atT ts 0).1)∧w1.cell? ⟨sb,so+1,none⟩=some (.int .i64 (atT ts 0).2.1)∧w1.cell? ⟨sb,so+2,none⟩=some (.int .i64 (atT ts 0).2.2) from
  fun w1 hb=>⟨(hb.cell (p:=⟨sb,so,none⟩) hsb).trans a0,(hb.cell (p:=⟨sb,so+1,none⟩) hsb).trans a1,(hb.cell (p:=⟨sb,so+2,none⟩) hsb).trans a2⟩)
 have HRM:=Hd fun w1 (hb:Below w.heap.size w w1)=>refArm15 E p.es.length ec p.es (x.arms[0]?.getD ByteArray.empty) w1 (h.1.below hb);clear a0 a1 a2 hsc hac hc0 hS;generalize x.arms[0]?.getD ByteArray.empty=ar at *;generalize armR p.es ar=ro at *;unfold armW at HRM;generalize hra:(ro.map (·.1)).getD 0=ra at *;generalize hrb:(ro.map (·.2.1)).getD 0=rb at *;generalize hrc:(ro.map (·.2.2)).getD 0=rc at *;generalize hrs:ro.isSome=rs at *;generalize atT ts 0=tx at *;obtain⟨x0,x1,x2⟩:=tx
 dsimp only at HSC
 unfold ndAt at HDC ho;unfold DeclPost declV at HDC;generalize hdo:declO (p.ns[i]?.getD default) x.s=od at *;generalize hnd:p.ns[i]?.getD default=nd at *;unfold ndA at HDC;unfold exA at HF ⊢;unfold pgA at HF ⊢;rw [hk] at HF ⊢
 have HD:=Hd (show ∀ w1,Below w.heap.size w w1→w1.cell? ⟨nb,no+i*5,none⟩=some (.string nd.nm)∧w1.cell? ⟨nb,no+i*5+1,none⟩=some (.slice A1 nd.ins.length c1)∧w1.cell? ⟨nb,no+i*5+2,none⟩=some (.slice A2 nd.outs.length c2)∧w1.cell? ⟨nb,no+i*5+3,none⟩=some (.slice A3 nd.vars.length c3)∧w1.cell? ⟨nb,no+i*5+4,none⟩=some (.slice A4 nd.eqs.length c4) from
  fun w1 hb=>⟨(hb.cell (p:=⟨nb,no+i*5,none⟩) hnb).trans d0,(hb.cell (p:=⟨nb,no+i*5+1,none⟩) hnb).trans d1,(hb.cell (p:=⟨nb,no+i*5+2,none⟩) hnb).trans d2,(hb.cell (p:=⟨nb,no+i*5+3,none⟩) hnb).trans d3,(hb.cell (p:=⟨nb,no+i*5+4,none⟩) hnb).trans d4⟩)
 clear d0 d1 d2 d3 d4 hrd hk h hr;generalize hdd:od.getD default=dd at *;generalize hds:od.isSome=ds at *;unfold dcA at HDC;unfold f3A at HRM;have HO:=Hd (show flowW od ro (x0,x1,x2)=o from ho);have HDD:=Hd hdd;have HDS:=Hd hds;have HRA:=Hd hra;have HRB:=Hd hrb;have HRS:=Hd hrs;clear ho hdd hds hra hrb hrc hrs hdo hnd
 go_enter Tryz.func81,Tryz.ntmps81
 go_upto_region 1 with(fail)
 generalize hw0:((w.alloc _).alloc _).alloc _=w0;obtain⟨hb0,hsz,hp,hx,hR⟩:=HF.out w0 hw0;have HB0:=Hd hb0;have HR:=Hd hR;have HP:=Hd hp;have HX:=Hd hx;have q0:=hx w0 (Below.refl _ _) 0;have q2:=hx w0 (Below.refl _ _) 2;have p1:=hp w0 (Below.refl _ _) 1;simp only [Ya,Yb,Yc] at q0 q2 p1;obtain⟨d0,d1,d2,d3,d4⟩:=HD.out w0 hb0;have HQ:=Hd (show ∀ w1,Below w0.heap.size w0 w1→w1.cell? ⟨w.heap.size,1,none⟩=some (.slice (some ⟨nb,no,none⟩) p.ns.length nc)∧w1.cell? ⟨w.heap.size+1,2,none⟩=some (.string x.s)∧w1.cell? ⟨nb,no+i*5,none⟩=some (.string nd.nm)∧w1.cell? ⟨nb,no+i*5+1,none⟩=some (.slice A1 nd.ins.length c1)∧w1.cell? ⟨nb,no+i*5+2,none⟩=some (.slice A2 nd.outs.length c2)∧w1.cell? ⟨nb,no+i*5+3,none⟩=some (.slice A3 nd.vars.length c3)∧w1.cell? ⟨nb,no+i*5+4,none⟩=some (.slice A4 nd.eqs.length c4) from fun w1 hb=>⟨HP.out w1 hb 1,HX.out w1 hb 2,HD.out w1 (HB0.out.trans (hb.mono HB0.out.size))⟩);clear hw0 hb0 hsz hp hx hR HF
 go_upto_region 5 with(fail)
 go_cut [10,11] (fun v10 v11 wx=>v11=.bool ds∧∃ g,v10=.pointer (some ⟨g,0,none⟩)∧w0.heap.size≤g∧RowD wx g dd∧Below w0.heap.size w0 wx)
 case first=>
  have HL:=Hd (show ∀ wb,Cls w0 wb→_ from fun wb hb=>HQ.out wb (cls_below hb));have HCA:=Hd (show ∀ wb,Cls w0 wb→∀ d os,_ from fun wb hb d os=>Calls.regrown_of (HDC.out (grow (redrawn wb d) os) ((HB0.out.trans ((cls_below hb).mono HB0.out.size)).trans ((below_regrown wb d os).mono (HB0.out.trans ((cls_below hb).mono HB0.out.size)).size))));refine wp_region_var (l1:=[_,_,_,_,_,_,_,_,_,_,_]) (oa:=_) (os:=_) (l2:=[_]) (d:=10) (tx:=45) (T:=58) (zc:=dcZ) (by kernel_rfl) (by kernel_rfl) rfl (by simp) (fun a W=>by rfl) rfl (by kernel_rfl) ?_
  repeat
   apply fix_step rfl (by simp)
   case h1=>
    intro wb hb;obtain⟨m0,m1,m2,m3,m4,m5,m6⟩:=HL.out wb hb;have l0:=fun d os=>cell_regrown m0 d os;have l1:=fun d os=>cell_regrown m1 d os;have l2:=fun d os=>cell_regrown m2 d os;have l3:=fun d os=>cell_regrown m3 d os;have l4:=fun d os=>cell_regrown m4 d os;have l5:=fun d os=>cell_regrown m5 d os;have l6:=fun d os=>cell_regrown m6 d os;have cA:=HCA.out wb hb
    go_big_quiet_step (with_reducible exact cA _ _)
    exact wpQuiet_nil rfl
   simp only [Act.put,Yd,Ye,Yf]
  refine⟨dcA dd,rfl,rfl,by simp [dcA,Value.oneCell'],fun W g hW hg hz=>?_⟩;have HBW:=Hd (cls_below hW);have HZ:=Hd hz;have HG:=Hd hg;clear hW hg hz
  go_wp2_with fail
  go_meet
  case rel=>exact⟨rfl,g,rfl,HG.out,HZ.out,HBW.out⟩
 case rest=>
  obtain⟨rfl,g,rfl,hg,hz,hbx⟩:=hcut;generalize wc=wx at *;have HZ:=Hd hz;have HG:=Hd hg;have HBX:=Hd hbx;have q0:=HX.out wx hbx 0;simp only [Ya,Yb,Yc] at q0;clear hz hg hbx HDC HD HQ d0 d1 d2 d3 d4 p1 q2
  go_upto_region 7 with(fail)
  go_cut [12,13,14] (fun v12 v13 v14 wy=>v14=.bool rs∧v13=.int .i64 rc∧∃ g2,v12=.pointer (some ⟨g2,0,none⟩)∧wx.heap.size≤g2∧F3 38 wy g2 ra rb 0∧Below wx.heap.size wx wy)
  case first=>
   have HL:=Hd (show ∀ wb,Below wx.heap.size wx wb→wb.cell? ⟨w.heap.size,0,none⟩=some (.slice E p.es.length ec)∧wb.cell? ⟨w.heap.size+1,4,none⟩=some (.slice (some ⟨ab,ao,none⟩) x.arms.length ca)∧wb.cell? ⟨ab,ao,none⟩=some (.string ar)∧Below w.heap.size w wb from
    fun wb hb=>by
     have h0:=HBX.out.trans (hb.mono HBX.out.size);have h1:=HB0.out.trans (h0.mono HB0.out.size);exact⟨HP.out wb h0 0,HX.out wb h0 4,HAC.out wb h1,h1⟩)
   refine wp_region_mid (l:=[_,_,_,_,_,_,_,_,_,_,_,_,_,_,_]) 11 12 _ _ (d:=12) (tx:=58) (T:=38) (zc:=f3A 0 0 0) (by kernel_rfl) rfl rfl (by kernel_rfl) rfl (by simp) (fun a W=>by rfl) rfl (by kernel_rfl) ?_
   repeat
    first
    | refine fix_skipG rfl ?_
    | (apply fix_stepG rfl rfl (by simp)
       case h1=>
        intro wb hb;obtain⟨m0,m1,m2,m3⟩:=HL.out wb (cls_below hb);have l0:=fun d os=>cell_regrown m0 d os;have l1:=fun d os=>cell_regrown m1 d os;have l2:=fun d os=>cell_regrown m2 d os;have cA:=fun d os=>Calls.regrown_of (HRM.out (grow (redrawn wb d) os) (m3.trans ((below_regrown wb d os).mono m3.size)));clear m3
        go_big_quiet_step (with_reducible exact cA _ _)
        exact wpQuiet_nil rfl
       simp only [Act.put,Yd,Ye,Yf])
   refine⟨f3A ra rb 0,rfl,rfl,by simp [f3A,Value.oneCell'],fun W g2 hW hg hz=>?_⟩;have HBW:=Hd (cls_below hW);have HZ2:=Hd hz;have HG2:=Hd hg;clear hW hg hz
   go_wp2_with fail
   go_meet
   case rel=>exact⟨rfl,rfl,g2,rfl,HG2.out,HZ2.out,HBW.out⟩
  case rest=>
   obtain⟨rfl,rfl,g2,rfl,hg2,hz2,hby⟩:=hcut;generalize wc=wy at *;have hbw0:=HBX.out.trans (hby.mono HBX.out.size);have hbw:=HB0.out.trans (hbw0.mono HB0.out.size);obtain⟨a0,a1,a2⟩:=HSC.out wy hbw;have hzg:RowD wy g dd:=(hby.block g (Array.getElem?_eq_some_iff.1 HZ.out).1).trans HZ.out;have hR2:F3 38 wy (w.heap.size+1+1) 0 0 0:=HR.out.below hbw0;have hgl:=(Array.getElem?_eq_some_iff.1 HZ.out).1;have hrl:=HR.out.lt;have hns:sb≠w.heap.size+1+1:=by omega
   have hng:g≠w.heap.size+1+1:=by have:=HG.out;omega
   have hng2:g2≠w.heap.size+1+1:=by have:=HBX.out.size;omega
   have k1:=rowD_cell hzg 1;have k2:=rowD_cell hzg 2;have k3:=rowD_cell hzg 3;obtain⟨f0,f1,f2,-,-,-⟩:=Sx hz2.cell;simp only [dcA,f3A,List.getElem?_toArray,List.getElem?_cons_zero,List.getElem?_cons_succ] at k1 k2 k3 f0 f1 f2;have HR2:=Hd hR2;have HBW:=Hd hbw;have HLE:=Hd hbw.size;have HLR:=Hd (show w.heap.size≤w.heap.size+1+1 by omega);clear hR2 hbw hbw0 hby hg2 hz2 hzg hgl hrl q0
   go_upto_region 8 with(fail)
   have hm1:0<m:=hm
   cases ds with
   | false=>
    have HO2:=Hd (show o=none by rw [← HO.out];exact flowW_d HDS.out);refine wp_region_out (l1:=[_,_,_,_,_,_,_,_,_,_,_,_,_]) (os:=_) (l2:=[_]) (p:=8) (tx:=63) (r:=w.heap.size+1+1) (T:=38) (zc:=f3A 0 0 0) (by kernel_rfl) (by kernel_rfl) rfl HR2.out rfl infoTy0 ?_
    repeat
     apply fix_step rfl (by simp)
     case h1=>
      intro wb hb;have l0:=fun d os=>cell_regrown (bs_cell hb hns a0) d os;have l1:=fun d os=>cell_regrown (bs_cell hb hns a1) d os;have l2:=fun d os=>cell_regrown (bs_cell hb hns a2) d os;have l3:=fun d os=>cell_regrown (bs_cell hb hng k1) d os;have l4:=fun d os=>cell_regrown (bs_cell hb hng k2) d os;have l5:=fun d os=>cell_regrown (bs_cell hb hng k3) d os;have l6:=fun d os=>cell_regrown (bs_cell hb hng2 f0) d os;have l7:=fun d os=>cell_regrown (bs_cell hb hng2 f1) d os;have l8:=fun d os=>cell_regrown (bs_cell hb hng2 f2) d os
      go_big_quiet_step (fail)
      refine wpQuiet_nil ?_;simp only [List.getElem?_toArray,List.getElem?_cons_succ,List.getElem?_cons_zero];exact rfl
     simp only [Act.put,Yd,Ye,Yf]
    refine⟨f3A x0 x1 x2,rfl,rfl,by simp [f3A,Value.oneCell'],fun W hB hz=>?_⟩;have HB4:=Hd (bs_below hB HBW.out (Nat.le_refl _) HLR.out);have HZ4:=Hd hz;clear hB hz
    go_wp2_with fail
    exact bodyPost_ret (res_ty2 (p:=8) (u:=9) rfl _ _ (w.heap.size+1+1) x0 x1 x2 rfl HZ4.out) rfl ⟨x0,x1,x2,(by rw [HO2.out];rfl),fun t ht=>(by rw [HO2.out] at ht;cases ht),HB4.out⟩
   | true=>
    cases rs with
    | false=>
     have HO2:=Hd (show o=none by rw [← HO.out];exact flowW_r HRS.out);refine wp_region_out (l1:=[_,_,_,_,_,_,_,_,_,_,_,_,_]) (os:=_) (l2:=[_]) (p:=8) (tx:=63) (r:=w.heap.size+1+1) (T:=38) (zc:=f3A 0 0 0) (by kernel_rfl) (by kernel_rfl) rfl HR2.out rfl infoTy0 ?_
     repeat
      apply fix_step rfl (by simp)
      case h1=>
       intro wb hb;have l0:=fun d os=>cell_regrown (bs_cell hb hns a0) d os;have l1:=fun d os=>cell_regrown (bs_cell hb hns a1) d os;have l2:=fun d os=>cell_regrown (bs_cell hb hns a2) d os;have l3:=fun d os=>cell_regrown (bs_cell hb hng k1) d os;have l4:=fun d os=>cell_regrown (bs_cell hb hng k2) d os;have l5:=fun d os=>cell_regrown (bs_cell hb hng k3) d os;have l6:=fun d os=>cell_regrown (bs_cell hb hng2 f0) d os;have l7:=fun d os=>cell_regrown (bs_cell hb hng2 f1) d os;have l8:=fun d os=>cell_regrown (bs_cell hb hng2 f2) d os
       go_big_quiet_step (fail)
       refine wpQuiet_nil ?_;simp only [List.getElem?_toArray,List.getElem?_cons_succ,List.getElem?_cons_zero];exact rfl
      simp only [Act.put,Yd,Ye,Yf]
     refine⟨f3A x0 x1 x2,rfl,rfl,by simp [f3A,Value.oneCell'],fun W hB hz=>?_⟩;have HB4:=Hd (bs_below hB HBW.out (Nat.le_refl _) HLR.out);have HZ4:=Hd hz;clear hB hz
     go_wp2_with fail
     exact bodyPost_ret (res_ty2 (p:=8) (u:=9) rfl _ _ (w.heap.size+1+1) x0 x1 x2 rfl HZ4.out) rfl ⟨x0,x1,x2,(by rw [HO2.out];rfl),fun t ht=>(by rw [HO2.out] at ht;cases ht),HB4.out⟩
    | true=>
     have HFB:=Hd (flowW_b (t:=(x0,x1,x2)) HDS.out HRS.out HRA.out HRB.out HDD.out);rcases t3_cases ra rb 0 dd.k dd.e dd.l with⟨h1,h2,h3,he⟩|⟨h1,he⟩|⟨h1',h1,he⟩|⟨h1',h2',h1,he⟩
     · have HO2:=Hd (show o=some (x0,x1,x2) by rw [← HO.out,HFB.out,if_pos he]);clear he HFB;subst h1 h2;rw [← h3] at k3;clear h3;generalize dd.k=dk at *;generalize dd.e=de at *;refine wp_region_out (l1:=[_,_,_,_,_,_,_,_,_,_,_,_,_]) (os:=_) (l2:=[_]) (p:=8) (tx:=63) (r:=w.heap.size+1+1) (T:=38) (zc:=f3A 0 0 0) (by kernel_rfl) (by kernel_rfl) rfl HR2.out rfl infoTy0 ?_
       repeat
        apply fix_step rfl (by simp)
        case h1=>
         intro wb hb;have l0:=fun d os=>cell_regrown (bs_cell hb hns a0) d os;have l1:=fun d os=>cell_regrown (bs_cell hb hns a1) d os;have l2:=fun d os=>cell_regrown (bs_cell hb hns a2) d os;have l3:=fun d os=>cell_regrown (bs_cell hb hng k1) d os;have l4:=fun d os=>cell_regrown (bs_cell hb hng k2) d os;have l5:=fun d os=>cell_regrown (bs_cell hb hng k3) d os;have l6:=fun d os=>cell_regrown (bs_cell hb hng2 f0) d os;have l7:=fun d os=>cell_regrown (bs_cell hb hng2 f1) d os;have l8:=fun d os=>cell_regrown (bs_cell hb hng2 f2) d os
         go_big_quiet_step (fail)
         refine wpQuiet_nil ?_;simp only [List.getElem?_toArray,List.getElem?_cons_succ,List.getElem?_cons_zero];exact rfl
        simp only [Act.put,Yd,Ye,Yf]
       refine⟨f3A x0 x1 x2,rfl,rfl,by simp [f3A,Value.oneCell'],fun W hB hz=>?_⟩;have HB4:=Hd (bs_below hB HBW.out (Nat.le_refl _) HLR.out);have HZ4:=Hd hz;clear hB hz
       go_wp2_with fail
       exact bodyPost_ret (res_ty2 (p:=8) (u:=9) rfl _ _ (w.heap.size+1+1) x0 x1 x2 rfl HZ4.out) rfl ⟨x0,x1,x2,(by rw [HO2.out];rfl),fun t ht=>(by rw [HO2.out] at ht;exact(Option.some.inj ht).symm),HB4.out⟩
     · have HO2:=Hd (show o=none by rw [← HO.out,HFB.out,if_neg he]);have h1n:=h1;simp only [beq_eq_false_iff_ne,ne_eq] at h1n;clear he HFB;refine wp_region_out (l1:=[_,_,_,_,_,_,_,_,_,_,_,_,_]) (os:=_) (l2:=[_]) (p:=8) (tx:=63) (r:=w.heap.size+1+1) (T:=38) (zc:=f3A 0 0 0) (by kernel_rfl) (by kernel_rfl) rfl HR2.out rfl infoTy0 ?_
       repeat
        apply fix_step rfl (by simp)
        case h1=>
         intro wb hb;have l0:=fun d os=>cell_regrown (bs_cell hb hns a0) d os;have l1:=fun d os=>cell_regrown (bs_cell hb hns a1) d os;have l2:=fun d os=>cell_regrown (bs_cell hb hns a2) d os;have l3:=fun d os=>cell_regrown (bs_cell hb hng k1) d os;have l4:=fun d os=>cell_regrown (bs_cell hb hng k2) d os;have l5:=fun d os=>cell_regrown (bs_cell hb hng k3) d os;have l6:=fun d os=>cell_regrown (bs_cell hb hng2 f0) d os;have l7:=fun d os=>cell_regrown (bs_cell hb hng2 f1) d os;have l8:=fun d os=>cell_regrown (bs_cell hb hng2 f2) d os
         go_big_quiet_step (fail)
         refine wpQuiet_nil ?_;simp only [List.getElem?_toArray,List.getElem?_cons_succ,List.getElem?_cons_zero];exact rfl
        simp only [Act.put,Yd,Ye,Yf]
       refine⟨f3A x0 x1 x2,rfl,rfl,by simp [f3A,Value.oneCell'],fun W hB hz=>?_⟩;have HB4:=Hd (bs_below hB HBW.out (Nat.le_refl _) HLR.out);have HZ4:=Hd hz;clear hB hz
       go_wp2_with fail
       exact bodyPost_ret (res_ty2 (p:=8) (u:=9) rfl _ _ (w.heap.size+1+1) x0 x1 x2 rfl HZ4.out) rfl ⟨x0,x1,x2,(by rw [HO2.out];rfl),fun t ht=>(by rw [HO2.out] at ht;cases ht),HB4.out⟩
     · have HO2:=Hd (show o=none by rw [← HO.out,HFB.out,if_neg he]);have h1n:=h1;simp only [beq_eq_false_iff_ne,ne_eq] at h1n;clear he HFB;subst h1';refine wp_region_out (l1:=[_,_,_,_,_,_,_,_,_,_,_,_,_]) (os:=_) (l2:=[_]) (p:=8) (tx:=63) (r:=w.heap.size+1+1) (T:=38) (zc:=f3A 0 0 0) (by kernel_rfl) (by kernel_rfl) rfl HR2.out rfl infoTy0 ?_
       repeat
        apply fix_step rfl (by simp)
        case h1=>
         intro wb hb;have l0:=fun d os=>cell_regrown (bs_cell hb hns a0) d os;have l1:=fun d os=>cell_regrown (bs_cell hb hns a1) d os;have l2:=fun d os=>cell_regrown (bs_cell hb hns a2) d os;have l3:=fun d os=>cell_regrown (bs_cell hb hng k1) d os;have l4:=fun d os=>cell_regrown (bs_cell hb hng k2) d os;have l5:=fun d os=>cell_regrown (bs_cell hb hng k3) d os;have l6:=fun d os=>cell_regrown (bs_cell hb hng2 f0) d os;have l7:=fun d os=>cell_regrown (bs_cell hb hng2 f1) d os;have l8:=fun d os=>cell_regrown (bs_cell hb hng2 f2) d os
         go_big_quiet_step (fail)
         refine wpQuiet_nil ?_;simp only [List.getElem?_toArray,List.getElem?_cons_succ,List.getElem?_cons_zero];exact rfl
        simp only [Act.put,Yd,Ye,Yf]
       refine⟨f3A x0 x1 x2,rfl,rfl,by simp [f3A,Value.oneCell'],fun W hB hz=>?_⟩;have HB4:=Hd (bs_below hB HBW.out (Nat.le_refl _) HLR.out);have HZ4:=Hd hz;clear hB hz
       go_wp2_with fail
       exact bodyPost_ret (res_ty2 (p:=8) (u:=9) rfl _ _ (w.heap.size+1+1) x0 x1 x2 rfl HZ4.out) rfl ⟨x0,x1,x2,(by rw [HO2.out];rfl),fun t ht=>(by rw [HO2.out] at ht;cases ht),HB4.out⟩
     · have HO2:=Hd (show o=none by rw [← HO.out,HFB.out,if_neg he]);have h1n:=h1;simp only [beq_eq_false_iff_ne,ne_eq] at h1n;clear he HFB;subst h1' h2';refine wp_region_out (l1:=[_,_,_,_,_,_,_,_,_,_,_,_,_]) (os:=_) (l2:=[_]) (p:=8) (tx:=63) (r:=w.heap.size+1+1) (T:=38) (zc:=f3A 0 0 0) (by kernel_rfl) (by kernel_rfl) rfl HR2.out rfl infoTy0 ?_
       repeat
        apply fix_step rfl (by simp)
        case h1=>
         intro wb hb;have l0:=fun d os=>cell_regrown (bs_cell hb hns a0) d os;have l1:=fun d os=>cell_regrown (bs_cell hb hns a1) d os;have l2:=fun d os=>cell_regrown (bs_cell hb hns a2) d os;have l3:=fun d os=>cell_regrown (bs_cell hb hng k1) d os;have l4:=fun d os=>cell_regrown (bs_cell hb hng k2) d os;have l5:=fun d os=>cell_regrown (bs_cell hb hng k3) d os;have l6:=fun d os=>cell_regrown (bs_cell hb hng2 f0) d os;have l7:=fun d os=>cell_regrown (bs_cell hb hng2 f1) d os;have l8:=fun d os=>cell_regrown (bs_cell hb hng2 f2) d os
         go_big_quiet_step (fail)
         refine wpQuiet_nil ?_;simp only [List.getElem?_toArray,List.getElem?_cons_succ,List.getElem?_cons_zero];exact rfl
        simp only [Act.put,Yd,Ye,Yf]
       refine⟨f3A x0 x1 x2,rfl,rfl,by simp [f3A,Value.oneCell'],fun W hB hz=>?_⟩;have HB4:=Hd (bs_below hB HBW.out (Nat.le_refl _) HLR.out);have HZ4:=Hd hz;clear hB hz
       go_wp2_with fail
       exact bodyPost_ret (res_ty2 (p:=8) (u:=9) rfl _ _ (w.heap.size+1+1) x0 x1 x2 rfl HZ4.out) rfl ⟨x0,x1,x2,(by rw [HO2.out];rfl),fun t ht=>(by rw [HO2.out] at ht;cases ht),HB4.out⟩
end
section
open Go.RowKit Go.Sort Go.BigFrame
theorem callT_lt{p:Pg}{x:Ex}{ts:List T3}{j:Nat}(h:callT p x ts=some j):j<p.ns.length:=by
 unfold callT at h;rcases findN_in p x.s with e | ⟨k,e,hk⟩
 · rw [e] at h
   simp at h
 · rw [e] at h
   split at h
   · cases h
   · split at h
     · cases h
     · split at h
       · cases h
       · split at h
         · injection h with h;omega
         · cases h
def jN(o:Option Nat):Int:=match o with | none=>0 | some k=>(k:Int)
theorem callV_eq(o:Option Nat):callV o=.tuple #[.int .i64 (jN o),.bool o.isSome]:=by cases o <;> rfl
theorem isSome_get{o:Option Nat}(h:o.isSome=true):∃ j,o=some j:=by cases o with | none=>cases h | some j=>exact⟨j,rfl⟩
def flowC(p:Pg) (oj:Option Nat):Option T3:=match oj with | none=>none | some j=>if(ndAt p j).outs.length=1 then some (tyD ((ndAt p j).outs[0]?.getD default)) else none
theorem refFlow13(p:Pg) (E:Option Addr) (ec:Nat) (N:Option Addr) (nc:Nat) (i:Nat) (x:Ex) (A:Option Addr) (ca:Nat) (B:Option Addr) (cb:Nat) (S:Option Addr) (m sc:Nat) (ts:List T3) (w:World) (h:rdP w p E N) (hr:rdX w x A B) (hS:RdY w S m ts) (hk:x.k=13) (hn1:x.n=0∨x.n=1) (hi:i<p.ns.length) (hal:(ndAt p i).all.length≤1000) (o:Option T3) (ho:flowC p (callT p x ts)=o):
 Calls Tryz.prog 81 #[.agg (pgA p E ec N nc),.int .i64 i,.agg (exA x A ca B cb),.slice S m sc] w (TyAns w o):=by
 have HF:=Hd fun w0 h=>pe_box3 (w:=w) (w0:=w0) (p:=p) (E:=E) (ec:=ec) (N:=N) (nc:=nc) (x:=x) (A:=A) (ca:=ca) (B:=B) (cb:=cb) (T:=25) (U:=35) (V:=38) h;obtain⟨nb,no,A1,c1,A2,c2,A3,c3,A4,c4,rfl,hnb,hrd,d0,d1,d2,d3,d4⟩:=nd_at15 h.2 hi;have HDC:=Hd fun w1 (hb:Below w.heap.size w w1)=>refDeclN (ndAt p i) A1 c1 A2 c2 A3 c3 A4 c4 x.s w1 (hrd.below hb) hal;have HCL:=Hd fun w1 (hb:Below w.heap.size w w1)=>refCall16 p E ec (some ⟨nb,no,none⟩) nc x A ca B cb S m sc ts w1 (h.below hb) (hS.below hb) hn1;have HLT:=Hd fun j (hj:callT p x ts=some j)=>callT_lt hj;have HOUT:=Hd fun j (hj:j<p.ns.length)=>(show ∃ A2 c2,rdN w (ndAt p j) (some ⟨0,0,none⟩) A2 (some ⟨0,0,none⟩) (some ⟨0,0,none⟩)∨True from⟨none,0,.inr trivial⟩);clear HOUT;have HNS:=Hd h.2;clear hS;generalize hcl:callT p x ts=oj at *;simp only [callV_eq] at HCL;generalize hjv:jN oj=jv at *;generalize hjs:oj.isSome=js at *;have HJV:=Hd hjv;have HJS:=Hd hjs;clear hjv hjs hcl;unfold ndAt at HDC;unfold DeclPost declV at HDC;generalize hdo:declO (p.ns[i]?.getD default) x.s=od at *;generalize hnd:p.ns[i]?.getD default=nd at *;unfold ndA at HDC;unfold exA at HF HCL ⊢;unfold pgA at HF HCL ⊢;rw [hk] at HF HCL ⊢
 have HD:=Hd (show ∀ w1,Below w.heap.size w w1→w1.cell? ⟨nb,no+i*5,none⟩=some (.string nd.nm)∧w1.cell? ⟨nb,no+i*5+1,none⟩=some (.slice A1 nd.ins.length c1)∧w1.cell? ⟨nb,no+i*5+2,none⟩=some (.slice A2 nd.outs.length c2)∧w1.cell? ⟨nb,no+i*5+3,none⟩=some (.slice A3 nd.vars.length c3)∧w1.cell? ⟨nb,no+i*5+4,none⟩=some (.slice A4 nd.eqs.length c4) from
  fun w1 hb=>⟨(hb.cell (p:=⟨nb,no+i*5,none⟩) hnb).trans d0,(hb.cell (p:=⟨nb,no+i*5+1,none⟩) hnb).trans d1,(hb.cell (p:=⟨nb,no+i*5+2,none⟩) hnb).trans d2,(hb.cell (p:=⟨nb,no+i*5+3,none⟩) hnb).trans d3,(hb.cell (p:=⟨nb,no+i*5+4,none⟩) hnb).trans d4⟩)
 clear d0 d1 d2 d3 d4 hrd hk h hr;generalize hdd:od.getD default=dd at *;generalize hds:od.isSome=ds at *;unfold dcA at HDC;have HO:=Hd (show flowC p oj=o from ho);have HDD:=Hd hdd;have HDS:=Hd hds;clear ho hdd hds hdo hnd
 go_enter Tryz.func81,Tryz.ntmps81
 go_upto_region 1 with(fail)
 generalize hw0:((w.alloc _).alloc _).alloc _=w0;obtain⟨hb0,hsz,hp,hx,hR⟩:=HF.out w0 hw0;have HB0:=Hd hb0;have HR:=Hd hR;have HP:=Hd hp;have HX:=Hd hx;have q0:=hx w0 (Below.refl _ _) 0;have q2:=hx w0 (Below.refl _ _) 2;have p1:=hp w0 (Below.refl _ _) 1;simp only [Ya,Yb,Yc] at q0 q2 p1;obtain⟨d0,d1,d2,d3,d4⟩:=HD.out w0 hb0;have HQ:=Hd (show ∀ w1,Below w0.heap.size w0 w1→w1.cell? ⟨w.heap.size,1,none⟩=some (.slice (some ⟨nb,no,none⟩) p.ns.length nc)∧w1.cell? ⟨w.heap.size+1,2,none⟩=some (.string x.s)∧w1.cell? ⟨nb,no+i*5,none⟩=some (.string nd.nm)∧w1.cell? ⟨nb,no+i*5+1,none⟩=some (.slice A1 nd.ins.length c1)∧w1.cell? ⟨nb,no+i*5+2,none⟩=some (.slice A2 nd.outs.length c2)∧w1.cell? ⟨nb,no+i*5+3,none⟩=some (.slice A3 nd.vars.length c3)∧w1.cell? ⟨nb,no+i*5+4,none⟩=some (.slice A4 nd.eqs.length c4) from fun w1 hb=>⟨HP.out w1 hb 1,HX.out w1 hb 2,HD.out w1 (HB0.out.trans (hb.mono HB0.out.size))⟩);clear hw0 hb0 hsz hp hx hR HF
 go_upto_region 5 with(fail)
 go_cut [10,11] (fun v10 v11 wx=>v11=.bool ds∧∃ g,v10=.pointer (some ⟨g,0,none⟩)∧w0.heap.size≤g∧RowD wx g dd∧Below w0.heap.size w0 wx)
 case first=>
  have HL:=Hd (show ∀ wb,Cls w0 wb→_ from fun wb hb=>HQ.out wb (cls_below hb));have HCA:=Hd (show ∀ wb,Cls w0 wb→∀ d os,_ from fun wb hb d os=>Calls.regrown_of (HDC.out (grow (redrawn wb d) os) ((HB0.out.trans ((cls_below hb).mono HB0.out.size)).trans ((below_regrown wb d os).mono (HB0.out.trans ((cls_below hb).mono HB0.out.size)).size))));refine wp_region_var (l1:=[_,_,_,_,_,_,_,_,_,_,_]) (oa:=_) (os:=_) (l2:=[_]) (d:=10) (tx:=45) (T:=58) (zc:=dcZ) (by kernel_rfl) (by kernel_rfl) rfl (by simp) (fun a W=>by rfl) rfl (by kernel_rfl) ?_
  repeat
   apply fix_step rfl (by simp)
   case h1=>
    intro wb hb;obtain⟨m0,m1,m2,m3,m4,m5,m6⟩:=HL.out wb hb;have l0:=fun d os=>cell_regrown m0 d os;have l1:=fun d os=>cell_regrown m1 d os;have l2:=fun d os=>cell_regrown m2 d os;have l3:=fun d os=>cell_regrown m3 d os;have l4:=fun d os=>cell_regrown m4 d os;have l5:=fun d os=>cell_regrown m5 d os;have l6:=fun d os=>cell_regrown m6 d os;have cA:=HCA.out wb hb
    go_big_quiet_step (with_reducible exact cA _ _)
    exact wpQuiet_nil rfl
   simp only [Act.put,Yd,Ye,Yf]
  refine⟨dcA dd,rfl,rfl,by simp [dcA,Value.oneCell'],fun W g hW hg hz=>?_⟩;have HBW:=Hd (cls_below hW);have HZ:=Hd hz;have HG:=Hd hg;clear hW hg hz
  go_wp2_with fail
  go_meet
  case rel=>exact⟨rfl,g,rfl,HG.out,HZ.out,HBW.out⟩
 case rest=>
  obtain⟨rfl,g,rfl,hg,hz,hbx⟩:=hcut;generalize wc=wx at *;have HZ:=Hd hz;have HG:=Hd hg;have HBX:=Hd hbx;obtain⟨q0,q1,q2,q3,q4,q5⟩:=Sx (HX.out wx hbx);have p0:=HP.out wx hbx 0;have p1:=HP.out wx hbx 1;simp only [Ya,Yb,Yc] at q0 q1 q2 q3 q4 q5 p0 p1;have hbw:=HB0.out.trans (hbx.mono HB0.out.size);have HBW:=Hd hbw;have HPX:=Hd (show ∀ W,Below wx.heap.size wx W→W.cell? ⟨w.heap.size,1,none⟩=some (.slice (some ⟨nb,no,none⟩) p.ns.length nc) from fun W h=>HP.out W (hbx.trans (h.mono hbx.size)) 1);have HR2:=Hd (show F3 38 wx (w.heap.size+1+1) 0 0 0 from HR.out.below hbx);have HCX:=Hd (HCL.out wx hbw);clear hz hg hbx HDC HD HQ d0 d1 d2 d3 d4 hbw HCL HP HX HR
  go_wp2_with fail
  refine HCX.out.mono ?_;rintro e wy ⟨rfl,hby⟩;have HRY:=Hd (HR2.out.below hby);have HBY:=Hd (HBW.out.trans (hby.mono HBW.out.size))
  have p1y:=HPX.out wy hby
  clear hby q0 q1 q2 q3 q4 q5 p0 p1 HCX HPX HR2
  cases js with
  | false=>
   have HO2:=Hd (show o=none by rw [← HO.out];have h:=HJS.out;cases oj with | none=>rfl | some j=>cases h)
   go_upto_region 13 with(fail)
   go_wp2_with (refine wpList_store_row rfl _ _ _ rfl (w.heap.size+1+1) _ rfl rfl _ _ HRY.out ty3_info rfl (by simp [Value.oneCell']) ?_)
   exact bodyPost_ret (res_ty2 (p:=8) (u:=9) rfl _ _ (w.heap.size+1+1) 0 0 0 rfl (HRY.out.set _ _ _)) rfl ⟨0,0,0,(by rw [HO2.out];rfl),fun t ht=>(by rw [HO2.out] at ht;cases ht),below_setRow HBY.out (by omega) _⟩
  | true=>
   obtain⟨j,hoj⟩:=isSome_get HJS.out;subst hoj;have hj:=HLT.out j rfl;obtain rfl:(j:Int)=jv:=HJV.out;obtain⟨nb2,no2,B1,e1,B2,e2,B3,e3,B4,e4,heq,hnb2,hrd2,f0,f1,f2,f3,f4⟩:=nd_at15 HNS.out hj;injection heq with heq;injection heq with heq1 heq2;subst heq1 heq2;have hnm:p.ns[j]?.getD default=ndAt p j:=rfl;have HRO:=Hd (show RdD w B2 (ndAt p j).outs.length (ndAt p j).outs from hrd2.2.1);rw [hnm] at f2;have g2:=(HBY.out.cell (p:=⟨nb,no+j*5+2,none⟩) hnb2).trans f2;have HO1:=Hd (show(if(ndAt p j).outs.length=1 then some (tyD ((ndAt p j).outs[0]?.getD default)) else none)=o from HO.out);clear f0 f1 f2 f3 f4 hrd2 hnm hal hi;have hjm:=RdS.max HNS.out;generalize (ndAt p j).outs=ol at *;generalize p.ns.length=pn at *
   by_cases h1:ol.length=1
   · have hRO:=HRO.out;rw [h1] at hRO g2;obtain⟨ob,oo,rfl,hob,hoc⟩:=rdD_ty hRO (i:=0) (by omega);obtain⟨s0,s1,s2⟩:=hoc 0 (by omega);have t0:=(HBY.out.cell (p:=⟨ob,oo+0*6+1,none⟩) hob).trans s0;have t1:=(HBY.out.cell (p:=⟨ob,oo+0*6+2,none⟩) hob).trans s1;have t2:=(HBY.out.cell (p:=⟨ob,oo+0*6+3,none⟩) hob).trans s2;simp only [Nat.zero_mul,Nat.add_zero] at t0 t1 t2;have HO2:=Hd (show o=some (tyD (ol[0]?.getD default)) by rw [← HO1.out,if_pos h1]);clear s0 s1 s2 hoc h1 HO1 HO hRO HRO;generalize tyD (ol[0]?.getD default)=ty at *;obtain⟨y0,y1,y2⟩:=ty
     dsimp only at t0 t1 t2
     go_upto_region 14 with(fail)
     go_wp2_with (refine wpList_store_row rfl _ _ _ rfl (w.heap.size+1+1) _ rfl rfl _ _ HRY.out ty3_info rfl (by simp [Value.oneCell']) ?_)
     exact bodyPost_ret (res_ty2 (p:=8) (u:=9) rfl _ _ (w.heap.size+1+1) y0 y1 y2 rfl (HRY.out.set _ _ _)) rfl ⟨y0,y1,y2,(by rw [HO2.out];rfl),fun t ht=>(by rw [HO2.out] at ht;injection ht with ht;exact ht.symm),below_setRow HBY.out (by omega) _⟩
   · have HO2:=Hd (show o=none by rw [← HO1.out,if_neg h1]);have hne:((ol.length:Int) != 1)=true:=bne_iff_ne.2 (by omega);have hne2:(ol.length==1)=false:=beq_eq_false_iff_ne.2 h1;clear h1 HO1 HO HRO;generalize ol.length=on at *
     go_upto_region 13 with(fail)
     go_wp2_with (refine wpList_store_row rfl _ _ _ rfl (w.heap.size+1+1) _ rfl rfl _ _ HRY.out ty3_info rfl (by simp [Value.oneCell']) ?_)
     exact bodyPost_ret (res_ty2 (p:=8) (u:=9) rfl _ _ (w.heap.size+1+1) 0 0 0 rfl (HRY.out.set _ _ _)) rfl ⟨0,0,0,(by rw [HO2.out];rfl),fun t ht=>(by rw [HO2.out] at ht;cases ht),below_setRow HBY.out (by omega) _⟩
end
end Go.Proofs.YtegjgiofmpolnaaGreat
