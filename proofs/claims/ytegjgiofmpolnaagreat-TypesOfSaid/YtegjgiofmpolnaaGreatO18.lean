/- Parts of the proof: TpH, TpU. Conditions: each theorem's own. -/
import Derived.Test.YtegjgiofmpolnaaGreatO14
import Derived.Test.YtegjgiofmpolnaaGreatO15
import Derived.Test.YtegjgiofmpolnaaGreatO17
namespace Go.Proofs.YtegjgiofmpolnaaGreat
set_option linter.unusedVariables false
set_option linter.unusedSimpArgs false
set_option maxRecDepth 100000
set_option maxHeartbeats 40000000
section
open Go.RowKit Go.Sort Go.BigFrame
theorem F3.regrown{T:TypeId}{W:World}{g:Nat}{a b c:Int}(h:F3 T W g a b c) (d:Nat) (os:Array Obj):F3 T (grow (redrawn W d) os) g a b c:=h.below (below_regrown W d os)
theorem unTy_3(op:Int) (t:T3) (w:World):Calls Tryz.prog 126 #[.int .i64 op,.agg (f3A t.1 t.2.1 t.2.2)] w fun r w'=>r=.returned (.tuple #[.agg (f3A ((unTyI op t.1 t.2.1 t.2.2).getD 0) 0 0),.bool (optT (unTyI op t.1 t.2.1 t.2.2)).isSome])∧Below w.heap.size w w' :=
 (refUnTy op t.1 t.2.1 t.2.2 w).mono fun r w' ⟨h,hb⟩=>⟨by rw [h];cases unTyI op t.1 t.2.1 t.2.2 <;> rfl,hb⟩
def binT(op:Int) (t u:T3):Option Int:=binTyI op (isP 1 t.1 t.2.1 t.2.2 && isP 1 u.1 u.2.1 u.2.2) (isP 2 t.1 t.2.1 t.2.2 && isP 2 u.1 u.2.1 u.2.2) (sameB t.1 t.2.1 t.2.2 u.1 u.2.1 u.2.2)
theorem binTy_3(op:Int) (t u:T3) (w:World):Calls Tryz.prog 127 #[.int .i64 op,.agg (f3A t.1 t.2.1 t.2.2),.agg (f3A u.1 u.2.1 u.2.2)] w fun r w'=>r=.returned (.tuple #[.agg (f3A ((binT op t u).getD 0) 0 0),.bool (optT (binT op t u)).isSome])∧Below w.heap.size w w' :=
 (refBinTy op t.1 t.2.1 t.2.2 u.1 u.2.1 u.2.2 w).mono fun r w' ⟨h,hb⟩=>⟨by rw [h];unfold binT;cases binTyI op _ _ _ <;> rfl,hb⟩
theorem optT_some{o:Option Int}{t:T3}(h:optT o=some t):t=(o.getD 0,0,0):=by
 cases o with
 | none=>cases h
 | some k=>exact(Option.some.inj h).symm
theorem refPlain5(x:Ex) (A:Option Addr) (ca:Nat) (B:Option Addr) (cb:Nat) (S:Option Addr) (m sc:Nat) (ts:List T3) (w:World) (hS:RdY w S m ts) (hk:x.k=5) (hm:1≤m):
 Calls Tryz.prog 82 #[.agg (exA x A ca B cb),.slice S m sc] w (TyAns w (optT (unTyI x.op (atT ts 0).1 (atT ts 0).2.1 (atT ts 0).2.2))):=by
 have HF:=Hd fun w0 h=>box_res (w:=w) (w0:=w0) (x:=x) (A:=A) (ca:=ca) (B:=B) (cb:=cb) (T:=35) (U:=38) h;obtain⟨sb,so,rfl,hsb,hsc⟩:=hS.at_ (i:=0) (by omega);obtain⟨a0,a1,a2⟩:=hsc 0 (by omega);simp only [Nat.zero_mul,Nat.add_zero,Nat.one_mul] at a0 a1 a2;have hml:=hS.len;have HSS:=Hd fun w1 (hb:Below w.heap.size w w1)=>hS.below hb;have HC:=Hd fun w1=>unTy_3 x.op (atT ts 0) w1;unfold exA at HF ⊢;rw [hk] at HF ⊢;clear hS hsc hk;generalize hu:atT ts 0=u at *;obtain⟨u0,u1,u2⟩:=u
 dsimp only at a0 a1 a2 HC
 unfold f3A at HC
 go_enter Tryz.func82,Tryz.ntmps82
 go_upto_region 1 with(fail)
 generalize hw0:(w.alloc _).alloc _=w0;obtain⟨hR,hcell,hb0,hsz⟩:=HF.out w0 hw0;have HR:=Hd hR;have HB0:=Hd hb0;have q0:=hcell w0 (Below.refl _ _) 0;have q3:=hcell w0 (Below.refl _ _) 3;simp only [Ya,Yb,Yc] at q0 q3;have a0:=(hb0.cell (p:=⟨sb,so,none⟩) hsb).trans a0;have a1:=(hb0.cell (p:=⟨sb,so+1,none⟩) hsb).trans a1;have a2:=(hb0.cell (p:=⟨sb,so+2,none⟩) hsb).trans a2;have h0m:0<m:=by omega
 clear hw0 hR hcell hb0 hsz HF hm
 go_upto_region 3 with(fail)
 have l0:=fun d os=>cell_regrown q3 d os;have l1:=fun d os=>cell_regrown a0 d os;have l2:=fun d os=>cell_regrown a1 d os;have l3:=fun d os=>cell_regrown a2 d os;have cA:=fun d os=>Calls.regrown_of (HC.out (grow (redrawn w0 d) os));refine wp_region_quiet_tail (l1:=[_,_,_,_,_,_,_,_]) (l2:=[_,_]) (by kernel_rfl) (by kernel_rfl) (by kernel_rfl) (by kernel_rfl) (by kernel_rfl) ?_
 repeat (go_big_quiet_step (first | with_reducible exact cA _ _))
 refine wpQuiet_nil ?_;intro _ hw';obtain⟨⟨dq,osq⟩,hw''⟩:=hw';subst hw'';have HR1:=Hd (HR.out.regrown dq osq);have HB1:=Hd (HB0.out.trans ((below_regrown w0 dq osq).mono HB0.out.size));clear cA l0 l1 l2 l3;generalize grow (redrawn w0 dq) osq=wq at *
 go_wp2_with (refine wpList_store_row rfl _ _ _ rfl (w.heap.size+1) _ rfl rfl _ _ HR1.out ty3_info rfl (by simp [Value.oneCell']) ?_)
 exact bodyPost_ret (res_ty2 (p:=4) (u:=5) rfl _ _ (w.heap.size+1) _ 0 0 rfl (HR1.out.set _ 0 0)) rfl ⟨_,0,0,rfl,fun t ht=>optT_some ht,below_setRow HB1.out (by omega) _⟩
theorem refPlain6(x:Ex) (A:Option Addr) (ca:Nat) (B:Option Addr) (cb:Nat) (S:Option Addr) (m sc:Nat) (ts:List T3) (w:World) (hS:RdY w S m ts) (hk:x.k=6) (hm:2≤m):
 Calls Tryz.prog 82 #[.agg (exA x A ca B cb),.slice S m sc] w (TyAns w (optT (binT x.op (atT ts 0) (atT ts 1)))):=by
 have HF:=Hd fun w0 h=>box_res (w:=w) (w0:=w0) (x:=x) (A:=A) (ca:=ca) (B:=B) (cb:=cb) (T:=35) (U:=38) h;obtain⟨sb,so,rfl,hsb,hsc⟩:=hS.at_ (i:=0) (by omega);obtain⟨a0,a1,a2⟩:=hsc 0 (by omega);obtain⟨b0,b1,b2⟩:=hsc 1 (by omega);simp only [Nat.zero_mul,Nat.add_zero,Nat.one_mul] at a0 a1 a2 b0 b1 b2;have hml:=hS.len;have HSS:=Hd fun w1 (hb:Below w.heap.size w w1)=>hS.below hb;have HC:=Hd fun w1=>binTy_3 x.op (atT ts 0) (atT ts 1) w1;unfold exA at HF ⊢;rw [hk] at HF ⊢;clear hS hsc hk;generalize atT ts 0=u at *;generalize atT ts 1=v at *;obtain⟨u0,u1,u2⟩:=u;obtain⟨v0,v1,v2⟩:=v
 dsimp only at a0 a1 a2 b0 b1 b2 HC
 unfold f3A at HC;generalize binT x.op (u0,u1,u2) (v0,v1,v2)=o at *
 go_enter Tryz.func82,Tryz.ntmps82
 go_upto_region 1 with(fail)
 generalize hw0:(w.alloc _).alloc _=w0;obtain⟨hR,hcell,hb0,hsz⟩:=HF.out w0 hw0;have HR:=Hd hR;have HB0:=Hd hb0;have q0:=hcell w0 (Below.refl _ _) 0;have q3:=hcell w0 (Below.refl _ _) 3;simp only [Ya,Yb,Yc] at q0 q3;have a0:=(hb0.cell (p:=⟨sb,so,none⟩) hsb).trans a0;have a1:=(hb0.cell (p:=⟨sb,so+1,none⟩) hsb).trans a1;have a2:=(hb0.cell (p:=⟨sb,so+2,none⟩) hsb).trans a2;have b0:=(hb0.cell (p:=⟨sb,so+3,none⟩) hsb).trans b0;have b1:=(hb0.cell (p:=⟨sb,so+3+1,none⟩) hsb).trans b1;have b2:=(hb0.cell (p:=⟨sb,so+3+2,none⟩) hsb).trans b2;have h0m:0<m:=by omega
 have h1m:1<m:=by omega
 clear hw0 hR hcell hb0 hsz HF hm
 go_upto_region 5 with(fail)
 have l0:=fun d os=>cell_regrown q3 d os;have l1:=fun d os=>cell_regrown a0 d os;have l2:=fun d os=>cell_regrown a1 d os;have l3:=fun d os=>cell_regrown a2 d os;have l4:=fun d os=>cell_regrown b0 d os;have l5:=fun d os=>cell_regrown b1 d os;have l6:=fun d os=>cell_regrown b2 d os;have cA:=fun d os=>Calls.regrown_of (HC.out (grow (redrawn w0 d) os));refine wp_region_quiet_tail (l1:=[_,_,_,_,_,_,_,_,_,_,_]) (l2:=[_,_]) (by kernel_rfl) (by kernel_rfl) (by kernel_rfl) (by kernel_rfl) (by kernel_rfl) ?_
 repeat (go_big_quiet_step (first | with_reducible exact cA _ _))
 refine wpQuiet_nil ?_;intro _ hw';obtain⟨⟨dq,osq⟩,hw''⟩:=hw';subst hw'';have HR1:=Hd (HR.out.regrown dq osq);have HB1:=Hd (HB0.out.trans ((below_regrown w0 dq osq).mono HB0.out.size));clear cA l0 l1 l2 l3 l4 l5 l6;generalize grow (redrawn w0 dq) osq=wq at *
 go_wp2_with (refine wpList_store_row rfl _ _ _ rfl (w.heap.size+1) _ rfl rfl _ _ HR1.out ty3_info rfl (by simp [Value.oneCell']) ?_)
 exact bodyPost_ret (res_ty2 (p:=4) (u:=5) rfl _ _ (w.heap.size+1) _ 0 0 rfl (HR1.out.set _ 0 0)) rfl ⟨_,0,0,rfl,fun t ht=>optT_some ht,below_setRow HB1.out (by omega) _⟩
end
section
open Go.RowKit Go.Sort Go.BigFrame
theorem infoI64:(Tryz.prog.info? 2).map (fun i=>(i.zero,i.size,i.bytes))=some (some (.int .i64 0),1,8):=by kernel_rfl
theorem own_apart{w:World}{base:Nat}{e T:TypeId}{size:Nat}{v:Value}{n:Nat}{xs:List Value}{g:Nat}{cs:Array Value}(h:w.ownsRow base e size v n xs) (hg:w.heap[g]?=some (Obj.cells cs T)) (hT:T≠e):some g≠v.ownBlock:=by
 rcases h.2 with⟨rfl,_⟩|⟨g',cap,cur,rfl,_,h2,_⟩
 · intro e;cases e
 · intro he;have he:g=g':=by simpa [Value.ownBlock] using he
   subst he;rw [hg] at h2;have h2:=Option.some.inj h2;injection h2 with _ h3;exact hT h3
theorem own_belowU{w w':World}{base:Nat}{e:TypeId}{size n:Nat}{v:Value}{xs:List Value}(h:w.ownsRow base e size v n xs) (hb:Below w.heap.size w w'):w'.ownsRow base e size v n xs:=by
 refine⟨h.1,?_⟩;rcases h.2 with h2 | ⟨g,cap,cur,hv,hg,hh,hr⟩
 · exact .inl h2
 · exact .inr ⟨g,cap,cur,hv,hg,(hb.block g (Array.getElem?_eq_some_iff.1 hh).1).trans hh,hr⟩
theorem row3_other{W:World}{g r:Nat}{x y z a b c:Value}(hn:g≠r) (h:W.cell? ⟨g,0,none⟩=some a∧W.cell? ⟨g,1,none⟩=some b∧W.cell? ⟨g,2,none⟩=some c):
 (((W.setCell ⟨r,0,none⟩ x).setCell ⟨r,1,none⟩ y).setCell ⟨r,2,none⟩ z).cell? ⟨g,0,none⟩=some a∧(((W.setCell ⟨r,0,none⟩ x).setCell ⟨r,1,none⟩ y).setCell ⟨r,2,none⟩ z).cell? ⟨g,1,none⟩=some b∧(((W.setCell ⟨r,0,none⟩ x).setCell ⟨r,1,none⟩ y).setCell ⟨r,2,none⟩ z).cell? ⟨g,2,none⟩=some c:=by
 have k:∀ j,(((W.setCell ⟨r,0,none⟩ x).setCell ⟨r,1,none⟩ y).setCell ⟨r,2,none⟩ z).cell? ⟨g,j,none⟩=W.cell? ⟨g,j,none⟩:=fun j=>World.cell?_of_block (a:=⟨g,j,none⟩) (by
  rw [Below.heap_setCell _ _ _ _ (by exact hn),Below.heap_setCell _ _ _ _ (by exact hn),Below.heap_setCell _ _ _ _ (by exact hn)])
 exact⟨(k 0).trans h.1,(k 1).trans h.2.1,(k 2).trans h.2.2⟩
theorem below_grown2{w w6 w9:World}{o:Obj}{row:Option Nat}(h:Below w.heap.size w w6) (hg:((w6.alloc o).drewN 1).grownBy w9 row) (hr:∀ j,row=some j→w.heap.size≤j):Below w.heap.size w w9:=
 (below_drewN (h.alloc h.size o) 1).grown hg (by have:=h.size;show w.heap.size≤(w6.alloc o).heap.size;rw [World.size_alloc];omega) hr
theorem own_setRow{w:World}{base:Nat}{e:TypeId}{size n:Nat}{v:Value}{xs:List Value}{r:Nat}(h:w.ownsRow base e size v n xs) (hn:some r≠v.ownBlock) (cs:Array Value):(w.setRow r cs).ownsRow base e size v n xs:=by
 refine⟨h.1,?_⟩;rcases h.2 with h2 | ⟨g,cap,cur,hv,hg,hh,hr⟩
 · exact .inl h2
 · refine .inr ⟨g,cap,cur,hv,hg,(setRow_other _ _ _ _ (fun e=>hn ?_)).trans hh,hr⟩;rw [hv,← e];rfl
theorem arrT_len{es:List En}{l:List Ex}:∀ {k:Nat}{r:List Int × T3},arrT es l k=some r→r.1.length=k
 | 0,r,h=>by simp only [arrT] at h;injection h with h;subst h;rfl
 | k+1,r,h=>by
  simp only [arrT] at h
  cases h1:arrT es l k with
  | none=>rw [h1] at h;cases h
  | some r' =>
   rw [h1] at h;simp only at h
   cases h2:litT es (l[k]?.getD default) with
   | none=>rw [h2] at h;cases h
   | some t=>
    rw [h2] at h;simp only at h
    split at h
    · cases h
    · injection h with h;subst h
      simp [arrT_len h1]
theorem arrT_none{es:List En}{l:List Ex}:∀ {k m:Nat},k≤m→arrT es l k=none→arrT es l m=none
 | k,0,h,hn=>by
  obtain rfl:k=0:=by omega
  exact hn
 | k,m+1,h,hn=>by
  by_cases e:k=m+1
  · subst e;exact hn
  · simp only [arrT,arrT_none (k:=k) (m:=m) (by omega) hn]
theorem constT_arr{es:List En}{x:Ex}(h:(rightX x && constX x)=true) (hk:x.k=14):constT es x=(arrT es x.subs x.subs.length).map fun r=>(r.1,(r.2.1,r.2.2.1,(x.subs.length:Int))):=by
 unfold constT;rw [if_neg (by rw [h];decide),if_pos (by rw [hk];rfl)]
theorem RdI.of_own{w:World}{base:Nat}{v:Value}{n:Nat}{l:List Int}(h:w.ownsRow base 2 1 v n (l.map (Value.int .i64))) (hn:n≤1000):∃ A c,v=.slice A n c∧RdI w A n l∧n≤c∧c≤maxLen:=by
 have hl:l.length=n:=by simpa using h.1
 rcases h.2 with⟨rfl,rfl⟩|⟨g,cap,cur,rfl,hb,hg,hnc,hcm,hcs,ht⟩
 · exact⟨none,0,rfl,⟨hl,by omega,fun h=>absurd h (by omega)⟩,Nat.le_refl _,by unfold maxLen;omega⟩
 · refine⟨_,cap,rfl,⟨hl,by omega,fun _=>⟨g,0,rfl,(Array.getElem?_eq_some_iff.1 hg).1,fun i hi=>?_⟩⟩,hnc,hcm⟩
   show w.cell? ⟨g,0+i*1,none⟩=some (.int .i64 (l[i]?.getD default))
   have h1:(cur.toList.take (n*1))[i]?=(l.map (Value.int .i64))[i]?:=by rw [ht]
   have hil:i<l.length:=by omega
   rw [List.getElem?_take,if_pos (by omega),List.getElem?_map,Array.getElem?_toList,List.getElem?_eq_getElem hil] at h1;simp only [World.cell?,hg];rw [List.getElem?_eq_getElem hil,show 0+i*1=i by omega]
   simpa using h1
theorem refConstArr(l:Option Addr) (n c:Nat) (es:List En) (x:Ex) (A:Option Addr) (ca:Nat) (B:Option Addr) (cb:Nat) (w:World) (hE:RdE w l n es) (hr:rdX w x A B) (hs:sizeX x≤1000000) (hsh:∀ p∈partsX x,ShortP p) (hyes:(rightX x && constX x)=true) (hk:x.k=14) (m:Nat) (hml:x.subs.length=m) (oo:Option (List Int × T3)) (hoo:arrT es x.subs m=oo):
 Calls Tryz.prog 18 #[.slice l n c,.agg (exA x A ca B cb)] w (ConstAns w (oo.map fun r=>(r.1,(r.2.1,r.2.2.1,(m:Int))))):=by
 have hlit:∀ k,k<x.subs.length→literalX (subX x k)=true:=fun k hkk=>by
  simp only [Bool.and_eq_true] at hyes;have:=hyes.2;unfold constX at this;rw [if_pos (by rw [hk];rfl)] at this;exact List.all_eq_true.1 this _ (by unfold subX;rw [List.getElem?_eq_getElem hkk];exact List.getElem_mem _)
 have hlen60:x.subs.length≤60:=by
  simp only [Bool.and_eq_true] at hyes;have h1:=hyes.1;unfold rightX at h1;simp only [Bool.and_eq_true,Bool.not_eq_true',decide_eq_false_iff_not] at h1;have h2:=sizeX_eq x;have h3:=sizes_len x.subs;omega
 have HF:=Hd fun w0 h=>xt_box (w:=w) (w0:=w0) (x:=x) (A:=A) (ca:=ca) (B:=B) (cb:=cb) h;have HRI:=Hd fun w1 (hb:Below w.heap.size w w1)=>refRight x A ca B cb w1 (hr.below hb) hs hsh;have HCO:=Hd fun w1 (hb:Below w.heap.size w w1)=>refConst x A ca B cb w1 (hr.below hb);have HSUB:=Hd fun k (hkk:k<x.subs.length)=>hr.sub hkk;have HLI:=Hd fun k (hkk:k<x.subs.length) A' ca' B' cb' w1 (hb:Below w.heap.size w w1) (hrd:rdX w (subX x k) A' B')=>refLit16 l n c es (subX x k) A' ca' B' cb' w1 (hE.below hb) (hrd.below hb) (hlit k hkk);have hkb:(x.k != 14)=false:=by rw [hk];rfl
 simp only [Bool.and_eq_true] at hyes;rw [hyes.1] at HRI;rw [hyes.2] at HCO;clear hE hr hs hsh hyes hlit hk;have HOO:=Hd hoo;have HSL:=Hd (show ∀ k,subX x k=x.subs[k]?.getD default from fun k=>rfl);have HAN:=Hd (fun k (hk:k≤x.subs.length) h=>arrT_none (es:=es) (l:=x.subs) (k:=k) (m:=x.subs.length) hk h);unfold litV at HLI;unfold exA at HF HRI HCO HLI ⊢;unfold f3A at HLI;have HM:=Hd hml;rw [hml] at *;clear hoo
 go_enter Tryz.func18,Tryz.ntmps18
 go_upto_region 1 with(fail)
 generalize hw0:(w.alloc _).alloc _=w0;obtain⟨hR,hx,hb0,hsz⟩:=HF.out w0 hw0;have HR:=Hd hR;have HX:=Hd hx;have HB0:=Hd hb0;obtain⟨q0,q1,q2,q3,q4,q5⟩:=Sx (hx w0 (Below.refl _ _));simp only [Ya,Yb,Yc] at q0 q1 q2 q3 q4 q5;have HR1:=Hd (HRI.out w0 hb0);clear hw0 hR hx hb0 hsz HF HRI
 go_wp2_with fail
 refine HR1.out.mono ?_;rintro e w1 ⟨rfl,hb1⟩;have HRY:=Hd (HR.out.below hb1);have HB1:=Hd (HB0.out.trans (hb1.mono HB0.out.size));have HX1:=Hd fun w' (h:Below w1.heap.size w1 w') j=>HX.out w' (hb1.trans (h.mono hb1.size)) j;obtain⟨r0,r1,r2,r3,r4,r5⟩:=Sx (HX.out w1 hb1);simp only [Ya,Yb,Yc] at r0 r1 r2 r3 r4 r5;have HC1:=Hd (HCO.out w1 HB1.out);clear hb1 q0 q1 q2 q3 q4 q5 HR1 HCO HX
 go_wp2_with fail
 refine HC1.out.mono ?_;rintro e w2 ⟨rfl,hb2⟩;have HRZ:=Hd (HRY.out.below hb2);have HB2:=Hd (HB1.out.trans (hb2.mono HB1.out.size));have HX2:=Hd fun w' (h:Below w2.heap.size w2 w') j=>HX1.out w' (hb2.trans (h.mono hb2.size)) j;have s0:=HX1.out w2 hb2 0;simp only [Ya,Yb,Yc] at s0;have hOW:=World.ownsRow_lit (base:=w2.heap.size) (e:=2) (size:=1) w2 #[] 0 (Nat.le_refl _) (by decide) rfl;have hlr:=HRZ.out.lt;clear hb2 r0 r1 r2 r3 r4 r5 HC1 HRY HX1
 go_upto_region 9 with(fail)
 generalize hw3:w2.alloc _=w3 at *;have hb3:Below w2.heap.size w2 w3:=by rw [← hw3];exact(Below.refl _ _).alloc (Nat.le_refl _) _
 have hg3:w3.heap.size=w2.heap.size+1:=by rw [← hw3];simp
 generalize hw4:w3.alloc _=w4;obtain⟨hb4,hF4,hg4⟩:=f3_box hw4;have hOW4:=own_belowU hOW hb4;rw [hg3] at hF4;have hb24:=hb3.trans (hb4.mono (by omega));have HOW:=Hd hOW4;have HF4:=Hd hF4;have HB24:=Hd hb24;clear hw3 hw4 hb3 hg3 hb4 hF4 hg4 hOW4 hb24 hOW s0;obtain⟨i0,hi0,ji0,ji1,ji2⟩:=info_parts infoI64;have HL2:=Hd hlr
 go_wp2_with fail
 go_loopw [10,12] (fun v i wr=>∃ (k:Nat) (vs:List Int) (t:T3),k≤m∧i=.int .i64 k∧arrT es x.subs k=some (vs,t)∧wr.ownsRow w2.heap.size 2 1 v k (vs.map (Value.int .i64))∧F3 38 wr (w2.heap.size+1) t.1 t.2.1 t.2.2∧Below w2.heap.size w2 wr) (fun _ i _=>m-(intOf i).toNat)
 case atStart=>exact⟨0,[],(0,0,0),Nat.zero_le _,rfl,rfl,HOW.out,HF4.out,HB24.out⟩
 case round=>
  obtain⟨k,vs,t,hk,rfl,harr,hown,hf3,hbr⟩:=hrel;have HARR:=Hd harr;have HOWN:=Hd hown;have HF3:=Hd hf3;have HBR:=Hd hbr;have hbw:=HB2.out.trans (hbr.mono HB2.out.size);have HBW:=Hd hbw;have q5:=HX2.out wr hbr 5;have q0:=HX2.out wr hbr 0;simp only [Ya,Yb,Yc] at q5 q0;obtain⟨t0,t1,t2⟩:=t
  dsimp only at HARR HF3
  clear harr hown hf3 HOW HF4 HB24
  by_cases hlt:k<m
  · obtain⟨b,off,rfl,hb,hat⟩:=HSUB.out k hlt;obtain⟨A',ca',B',cb',hrg,hrd⟩:=hat k hlt;obtain⟨c0,c1,c2,c3,c4,c5⟩:=rangeAt_six (rangeAt_keep hrg hb fun p hp=>hbw.cell hp);have HLK:=Hd (HLI.out k hlt A' ca' B' cb' wr hbw hrd);have HNX:=Hd (show arrT es x.subs (k+1)=(match litT es (subX x k) with | none=>none | some u=>if 0<k∧¬ u.1=(t0,t1,t2) then none else some (vs++[u.2],u.1)) by simp only [arrT,HARR.out,← HSL.out];rfl);have HN1:=Hd (HAN.out (k+1) (by omega));clear hat hrg hrd hbr hbw;generalize litT es (subX x k)=o at *;generalize subX x k=y at *;generalize hov:(o.map (·.2)).getD 0=ov at *;generalize hoa:(o.map (·.1.1)).getD 0=oa at *;generalize hob:(o.map (·.1.2.1)).getD 0=ob at *;generalize hoc:(o.map (·.1.2.2)).getD 0=oc at *;generalize hos:o.isSome=os at *;have HV:=Hd (show ∀ r,o=some r→r=((oa,ob,oc),ov) from fun r h=>by subst h hov hoa hob hoc;rfl);have HS:=Hd hos;clear hov hoa hob hoc hos
    go_wp2_with fail
    refine HLK.out.mono ?_;rintro e w5 ⟨rfl,hb5⟩;have HOW5:=Hd (own_belowU HOWN.out hb5);have HF5:=Hd (HF3.out.below hb5);have HB5:=Hd (HBR.out.trans (hb5.mono HBR.out.size));clear hb5 q0 q5 c0 c1 c2 c3 c4 c5 HLK HOWN HF3
    go_upto_region 13 with(fail)
    generalize hw6:w5.alloc _=w6;obtain⟨hb6,hF6,hg6⟩:=ty_box hw6;have HOW6:=Hd (own_belowU HOW5.out hb6);have HT6:=Hd (HF5.out.below hb6);have HB6:=Hd (HB5.out.trans (hb6.mono HB5.out.size));have HF6:=Hd hF6;have HG6:=Hd (show w2.heap.size+1<w5.heap.size from HF5.out.lt);have HG7:=Hd hg6;clear hw6 hb6 hF6 hg6 HOW5 HF5 HB5;generalize w5.heap.size=g at *;obtain⟨f0,f1,f2,-,-,-⟩:=Sx HF6.out.cell;obtain⟨e0,e1,e2,-,-,-⟩:=Sx HT6.out.cell;simp only [f3A,List.getElem?_toArray,List.getElem?_cons_zero,List.getElem?_cons_succ] at f0 f1 f2 e0 e1 e2
    cases os with
    | false=>
     have HO:=Hd (show o=none by have:=HS.out;cases o with | none=>rfl | some r=>cases this);have HRS:=Hd (show oo=none by rw [← HOO.out];exact HN1.out (by rw [HNX.out,HO.out]));have HRR:=Hd (show F3 38 w6 (w.heap.size+1) 0 0 0 from(HB6.out.block _ HL2.out).trans HRZ.out);have HBW6:=Hd (HB2.out.trans (HB6.out.mono HB2.out.size))
     go_upto_region 14 with(fail)
     go_wp2_with (refine wpList_store_row rfl _ _ _ rfl (w.heap.size+1) _ rfl rfl _ _ HRR.out ty3_info rfl (by simp [Value.oneCell']) ?_)
     exact bodyPost_ret (res_xty (p:=5) (u:=4) (v:=6) rfl _ _ (w.heap.size+1) 0 0 0 rfl (HRR.out.set _ _ _)) rfl ⟨none,0,0,0,0,0,[],by rw [HRS.out];rfl,RdI.nil_ _,Nat.le_refl _,by unfold maxLen;omega,⟨fun r h=>(by rw [HRS.out] at h;cases h),fun _=>⟨rfl,rfl,rfl,rfl⟩⟩,below_setRow HBW6.out (by omega) _⟩
    | true=>
     have HO:=Hd (show o=some ((oa,ob,oc),ov) by have:=HS.out;cases h:o with | none=>rw [h] at this;cases this | some r=>rw [HV.out r h])
     by_cases hk0:k=0
     · have HNY:=Hd (show arrT es x.subs (k+1)=some (vs++[ov],(oa,ob,oc)) by rw [HNX.out,HO.out];simp only;rw [if_neg (by omega)]);have HL6:=Hd (show w2.heap.size≤w6.heap.size from HB6.out.size);have hgl:=HF6.out.lt;have htl:=HT6.out.lt;have a0:=(World.cell?_alloc_lt w6 (.cells #[.int .i64 ov] 2) ⟨g,0,none⟩ hgl).trans f0;have a1:=(World.cell?_alloc_lt w6 (.cells #[.int .i64 ov] 2) ⟨g,1,none⟩ hgl).trans f1;have a2:=(World.cell?_alloc_lt w6 (.cells #[.int .i64 ov] 2) ⟨g,2,none⟩ hgl).trans f2;have n1:w2.heap.size+1≠g:=by have:=HG6.out;omega
       have n2:g≠w2.heap.size+1:=by have:=HG6.out;omega
       have HN1:=Hd n1
       go_upto_region 15 with(fail)
       go_region_held3 (fun W=>W.cell? ⟨g,0,none⟩=some (.int .i64 oa)∧W.cell? ⟨g,1,none⟩=some (.int .i64 ob)∧W.cell? ⟨g,2,none⟩=some (.int .i64 oc)) (first | exact⟨f0,f1,f2⟩ | exact⟨a0,a1,a2⟩ | exact⟨b0,b1,b2⟩ | exact row3_other (Ne.symm HN1.out) ⟨b0,b1,b2⟩)
        ((first | (refine step_append_any (by rfl) _ _ 44 (by rfl) w2.heap.size 2 i0 (.int .i64 0) 1 8 Tryz.underlying44 hi0 ji0 ji1 ji2 rfl (by decide) u10 k (vs.map (Value.int .i64)) (by rfl) (own_belowU HOW6.out (below_drewN ((Below.refl w6.heap.size w6).alloc (Nat.le_refl _) (.cells #[.int .i64 ov] 2)) 1)) (some ⟨w6.heap.size,0,none⟩) 1 1 [.int .i64 ov] (by rfl) rfl (fun h=>by cases h) (fun ad e j u hu=>by cases e;exact cell_one_new w6 (.int .i64 ov) 2 j u hu) (by simp [Value.oneCell']) (by unfold maxLen;omega) (by omega) (by have:=HL6.out;simp;omega) ?_;intro A9 c9 w9 hown9 hgr9 hloc9;have HOW9:=Hd hown9;have HF9:=Hd (show F3 38 w9 g oa ob oc from(hgr9.block g (by show g<(w6.alloc _).heap.size;rw [World.size_alloc];omega) (own_apart HOW6.out HF6.out (by decide))).trans (HF6.out.below (below_drewN ((Below.refl w6.heap.size w6).alloc (Nat.le_refl _) (.cells #[.int .i64 ov] 2)) 1)));have HT9:=Hd (show F3 38 w9 (w2.heap.size+1) t0 t1 t2 from(hgr9.block (w2.heap.size+1) (by show w2.heap.size+1<(w6.alloc _).heap.size;rw [World.size_alloc];omega) (own_apart HOW6.out HT6.out (by decide))).trans (HT6.out.below (below_drewN ((Below.refl w6.heap.size w6).alloc (Nat.le_refl _) (.cells #[.int .i64 ov] 2)) 1)));have HB9:=Hd (below_grown2 HB6.out hgr9 (fun j hj=>(HOW6.out.lt j hj).1));have b0:=HF9.out.cell 0;have b1:=HF9.out.cell 1;have b2:=HF9.out.cell 2;have d0:=HT9.out.cell 0;have d1:=HT9.out.cell 1;have d2:=HT9.out.cell 2;have fz:∀ j,w9.frozen? ⟨w2.heap.size+1,j,none⟩=false:=(fun j=>frozen_of_row w9 _ j _ _ HT9.out);simp only [f3A,List.getElem?_toArray,List.getElem?_cons_zero,List.getElem?_cons_succ] at b0 b1 b2 d0 d1 d2;clear hown9 hgr9 hloc9)))
       generalize hwz:World.setCell _ _ _=wz;rw [f3_set HT9.out] at hwz;have HOWz:=Hd (show wz.ownsRow w2.heap.size 2 1 (.slice A9 (k+1) c9) (k+1) ((vs++[ov]).map (Value.int .i64)) by rw [← hwz,List.map_append];exact own_setRow HOW9.out (own_apart HOW9.out HT9.out (by decide)) _);have HFz:=Hd (show F3 38 wz (w2.heap.size+1) oa ob oc by rw [← hwz];exact HT9.out.set _ _ _);have HBz:=Hd (show Below w2.heap.size w2 wz by rw [← hwz];exact below_setRow HB9.out (by omega) _);clear hwz a0 a1 a2 b0 b1 b2 d0 d1 d2 fz f0 f1 f2 e0 e1 e2
       go_wp2_with fail
       go_roundw
       case rel=>exact⟨k+1,vs++[ov],(oa,ob,oc),by omega,by go_num,HNY.out,(by first | exact HOWz.out | (have h9:=HOWz.out;rw [hk0] at h9 ⊢;exact h9)),HFz.out,HBz.out⟩
       case measure=>simp [intOf];omega
     · have hkp:(0:Int)<(k:Int):=by omega
       rcases t3_cases oa ob oc t0 t1 t2 with⟨rfl,rfl,rfl,he⟩|⟨h1,he⟩|⟨rfl,h1,he⟩|⟨rfl,rfl,h1,he⟩
       · have HNY:=Hd (show arrT es x.subs (k+1)=some (vs++[ov],(oa,ob,oc)) by rw [HNX.out,HO.out];simp only;rw [if_neg (by simp)]);have HL6:=Hd (show w2.heap.size≤w6.heap.size from HB6.out.size);have hgl:=HF6.out.lt;have htl:=HT6.out.lt;have a0:=(World.cell?_alloc_lt w6 (.cells #[.int .i64 ov] 2) ⟨g,0,none⟩ hgl).trans f0;have a1:=(World.cell?_alloc_lt w6 (.cells #[.int .i64 ov] 2) ⟨g,1,none⟩ hgl).trans f1;have a2:=(World.cell?_alloc_lt w6 (.cells #[.int .i64 ov] 2) ⟨g,2,none⟩ hgl).trans f2;have n1:w2.heap.size+1≠g:=by have:=HG6.out;omega
         have n2:g≠w2.heap.size+1:=by have:=HG6.out;omega
         have HN1:=Hd n1
         go_upto_region 15 with(fail)
         go_region_held3 (fun W=>W.cell? ⟨g,0,none⟩=some (.int .i64 oa)∧W.cell? ⟨g,1,none⟩=some (.int .i64 ob)∧W.cell? ⟨g,2,none⟩=some (.int .i64 oc)) (first | exact⟨f0,f1,f2⟩ | exact⟨a0,a1,a2⟩ | exact⟨b0,b1,b2⟩ | exact row3_other (Ne.symm HN1.out) ⟨b0,b1,b2⟩)
          ((first | (refine step_append_any (by rfl) _ _ 44 (by rfl) w2.heap.size 2 i0 (.int .i64 0) 1 8 Tryz.underlying44 hi0 ji0 ji1 ji2 rfl (by decide) u10 k (vs.map (Value.int .i64)) (by rfl) (own_belowU HOW6.out (below_drewN ((Below.refl w6.heap.size w6).alloc (Nat.le_refl _) (.cells #[.int .i64 ov] 2)) 1)) (some ⟨w6.heap.size,0,none⟩) 1 1 [.int .i64 ov] (by rfl) rfl (fun h=>by cases h) (fun ad e j u hu=>by cases e;exact cell_one_new w6 (.int .i64 ov) 2 j u hu) (by simp [Value.oneCell']) (by unfold maxLen;omega) (by omega) (by have:=HL6.out;simp;omega) ?_;intro A9 c9 w9 hown9 hgr9 hloc9;have HOW9:=Hd hown9;have HF9:=Hd (show F3 38 w9 g oa ob oc from(hgr9.block g (by show g<(w6.alloc _).heap.size;rw [World.size_alloc];omega) (own_apart HOW6.out HF6.out (by decide))).trans (HF6.out.below (below_drewN ((Below.refl w6.heap.size w6).alloc (Nat.le_refl _) (.cells #[.int .i64 ov] 2)) 1)));have HT9:=Hd (show F3 38 w9 (w2.heap.size+1) oa ob oc from(hgr9.block (w2.heap.size+1) (by show w2.heap.size+1<(w6.alloc _).heap.size;rw [World.size_alloc];omega) (own_apart HOW6.out HT6.out (by decide))).trans (HT6.out.below (below_drewN ((Below.refl w6.heap.size w6).alloc (Nat.le_refl _) (.cells #[.int .i64 ov] 2)) 1)));have HB9:=Hd (below_grown2 HB6.out hgr9 (fun j hj=>(HOW6.out.lt j hj).1));have b0:=HF9.out.cell 0;have b1:=HF9.out.cell 1;have b2:=HF9.out.cell 2;have d0:=HT9.out.cell 0;have d1:=HT9.out.cell 1;have d2:=HT9.out.cell 2;have fz:∀ j,w9.frozen? ⟨w2.heap.size+1,j,none⟩=false:=(fun j=>frozen_of_row w9 _ j _ _ HT9.out);simp only [f3A,List.getElem?_toArray,List.getElem?_cons_zero,List.getElem?_cons_succ] at b0 b1 b2 d0 d1 d2;clear hown9 hgr9 hloc9)))
         generalize hwz:World.setCell _ _ _=wz;rw [f3_set HT9.out] at hwz;have HOWz:=Hd (show wz.ownsRow w2.heap.size 2 1 (.slice A9 (k+1) c9) (k+1) ((vs++[ov]).map (Value.int .i64)) by rw [← hwz,List.map_append];exact own_setRow HOW9.out (own_apart HOW9.out HT9.out (by decide)) _);have HFz:=Hd (show F3 38 wz (w2.heap.size+1) oa ob oc by rw [← hwz];exact HT9.out.set _ _ _);have HBz:=Hd (show Below w2.heap.size w2 wz by rw [← hwz];exact below_setRow HB9.out (by omega) _);clear hwz a0 a1 a2 b0 b1 b2 d0 d1 d2 fz f0 f1 f2 e0 e1 e2
         go_wp2_with fail
         go_roundw
         case rel=>exact⟨k+1,vs++[ov],(oa,ob,oc),by omega,by go_num,HNY.out,(by first | exact HOWz.out | (have h9:=HOWz.out;rw [hk0] at h9 ⊢;exact h9)),HFz.out,HBz.out⟩
         case measure=>simp [intOf];omega
       all_goals
        have HRS:=Hd (show oo=none by rw [← HOO.out];exact HN1.out (by rw [HNX.out,HO.out];simp only;rw [if_pos ⟨by omega,he⟩]));clear he;have HRR:=Hd (show F3 38 w6 (w.heap.size+1) 0 0 0 from(HB6.out.block _ HL2.out).trans HRZ.out);have HBW6:=Hd (HB2.out.trans (HB6.out.mono HB2.out.size))
        go_upto_region 14 with(fail)
        go_wp2_with (refine wpList_store_row rfl _ _ _ rfl (w.heap.size+1) _ rfl rfl _ _ HRR.out ty3_info rfl (by simp [Value.oneCell']) ?_)
        exact bodyPost_ret (res_xty (p:=5) (u:=4) (v:=6) rfl _ _ (w.heap.size+1) 0 0 0 rfl (HRR.out.set _ _ _)) rfl ⟨none,0,0,0,0,0,[],by rw [HRS.out];rfl,RdI.nil_ _,Nat.le_refl _,by unfold maxLen;omega,⟨fun r h=>(by rw [HRS.out] at h;cases h),fun _=>⟨rfl,rfl,rfl,rfl⟩⟩,below_setRow HBW6.out (by omega) _⟩
  · obtain rfl:k=m:=by omega
    obtain⟨S,c',rfl,hri,hnc,hcm⟩:=RdI.of_own HOWN.out (by omega);have HRI2:=Hd hri;obtain⟨e0,e1,e2,-,-,-⟩:=Sx HF3.out.cell;simp only [f3A,List.getElem?_toArray,List.getElem?_cons_zero,List.getElem?_cons_succ] at e0 e1 e2;have fz:=frozen_of_row wr (w2.heap.size+1) 2 _ _ HF3.out
    have hnS:∀ b o,S=some ⟨b,o,none⟩→0<k→some (w2.heap.size+1)≠some b:=fun b o e _=>by
     have:=own_apart HOWN.out HF3.out (by decide);rw [e] at this;exact this
    have HNS:=Hd hnS;have HNB:=Hd (fun b o (e:S=some ⟨b,o,none⟩)=>(show w2.heap.size≤b from(HOWN.out.lt b (by rw [e];rfl)).1));have HRW:=Hd ((HBR.out.block _ HL2.out).trans HRZ.out);clear hri hnS hbr hbw q0
    go_upto_region 17 with(fail)
    generalize hw7:wr.setCell _ _=w7;rw [setCell_eq_setRow _ _ _ _ _ _ _ HF3.out,show(f3A t0 t1 t2).setIfInBounds 2 (.int .i64 (k:Int))=f3A t0 t1 k from rfl] at hw7;have hF7:F3 38 w7 (w2.heap.size+1) t0 t1 k:=by rw [← hw7];exact HF3.out.set _ _ _
    have hR7:F3 38 w7 (w.heap.size+1) 0 0 0:=by rw [← hw7];exact(setRow_other _ _ _ _ (by have:=HL2.out;omega)).trans HRW.out
    have hB7:Below w2.heap.size w2 w7:=by rw [← hw7];exact below_setRow HBR.out (by omega) _
    have hI7:RdI w7 S k vs:=⟨HRI2.out.1,HRI2.out.2.1,fun h0=>by
     obtain⟨b,o,e,hb,hc⟩:=HRI2.out.2.2 h0;refine⟨b,o,e,by rw [← hw7];simpa [World.setRow] using hb,fun i hi=>?_⟩;rw [← hw7];exact(World.cell?_of_block (a:=⟨b,_,none⟩) (setRow_other _ _ _ _ (fun h=>HNS.out b o e h0 (congrArg some (show b=w2.heap.size+1 from h).symm)))).trans (hc i hi)⟩
    have HF7:=Hd hF7;have HR7:=Hd hR7;have HB7:=Hd (HB2.out.trans (hB7.mono HB2.out.size));have HI7:=Hd hI7;clear hw7 hF7 hR7 hB7 hI7 e0 e1 e2 fz q5;obtain⟨f0,f1,f2,-,-,-⟩:=Sx HF7.out.cell;obtain⟨r0,r1,r2,-,-,-⟩:=Sx HR7.out.cell;simp only [f3A,List.getElem?_toArray,List.getElem?_cons_zero,List.getElem?_cons_succ] at f0 f1 f2 r0 r1 r2;have fz:∀ j,w7.frozen? ⟨w.heap.size+1,j,none⟩=false:=fun j=>frozen_of_row w7 _ j _ _ HR7.out;have n1:w.heap.size+1≠w2.heap.size+1:=by have:=HL2.out;omega
    have n2:w2.heap.size+1≠w.heap.size+1:=by have:=HL2.out;omega
    generalize hg11:w2.heap.size+1=g11 at *;have HOS:=Hd (show oo=some (vs,(t0,t1,t2)) by rw [← HOO.out];exact HARR.out)
    go_region
    have hI8:=HI7.out;generalize hw8:World.drew _=w8;obtain⟨hF,hB⟩:=f3_out HR7.out HB7.out (by omega) hw8;rw [f3_set HR7.out] at hw8
    have hI9:RdI w8 S k vs:=⟨hI8.1,hI8.2.1,fun h0=>by
     obtain⟨b,o,e,hb,hc⟩:=hI8.2.2 h0;refine⟨b,o,e,by rw [← hw8];simpa [World.setRow] using hb,fun i hi=>?_⟩;rw [← hw8];have hbne:b≠w.heap.size+1:=by have:=HNB.out b o e;have:=HL2.out;omega
     exact(World.cell?_of_block (a:=⟨b,_,none⟩) (setRow_other _ _ _ _ hbne)).trans (hc i hi)⟩
    have HF8:=Hd hF;have HB8:=Hd hB;have HI9:=Hd hI9;clear hw8 hF hB hI9 hI8
    go_wp2_with fail
    exact bodyPost_ret (res_xty (p:=5) (u:=4) (v:=6) rfl _ _ (w.heap.size+1) t0 t1 k rfl HF8.out) rfl ⟨S,k,c',t0,t1,k,vs,by rw [HOS.out];rfl,HI9.out,hnc,hcm,⟨fun r h=>(by
     rw [HOS.out] at h;injection h with h;exact h.symm),fun h=>(by rw [HOS.out] at h;cases h)⟩,HB8.out⟩
end
end Go.Proofs.YtegjgiofmpolnaaGreat
