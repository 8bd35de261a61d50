/- Parts of the proof: TrS. Conditions: each theorem's own. -/
import Derived.Test.YtkbpdoomhfkngaaGreatR26
import Derived.Test.YtkbpdoomhfkngaaGreatR30
namespace Go.Proofs.YtkbpdoomhfkngaaGreat
set_option linter.unusedVariables false
set_option linter.unusedSimpArgs false
set_option maxRecDepth 100000
set_option maxHeartbeats 40000000
section
open Go.RowKit Go.Sort Go.BigFrame
theorem RdY.of_ownC{w:World}{base:Nat}{e:TypeId}{v:Value}{n:Nat}{l:List T3}(h:w.ownsRow base e 3 v n (flY l)) (hm:n≤9223372036854775807):∃ A c,v=.slice A n c∧RdY w A n l∧SlY A n c:=by
 obtain⟨A,c,hv,hr⟩:=RdY.of_own h hm;refine⟨A,c,hv,hr,?_⟩;rcases h.2 with⟨h1,h2⟩|⟨g,cap,cur,h1,hg,hh,hnc,hcm,hcs,ht⟩
 · rw [hv] at h1;injection h1 with e1 e2 e3;subst e1 e2 e3;exact⟨Nat.le_refl _,by unfold maxLen;omega,.inl ⟨rfl,rfl,rfl⟩⟩
 · rw [hv] at h1;injection h1 with e1 e2 e3;subst e1 e3;exact⟨hnc,hcm,.inr ⟨_,_,rfl⟩⟩
def EachAns(w:World) (o:Option (List T3)) (e:Ending) (w':World):Prop:=
 ∃ S n c ts,e=.returned (.tuple #[.slice S n c,.bool o.isSome])∧(∀ r,o=some r→r=ts∧RdY w' S n ts∧SlY S n c)∧Below w.heap.size w w'
theorem trEach(p:Pg) (x:Nd) (r:Rm) (B:Option Addr) (n cb:Nat) (xs:List Ex) (w:World) (h:rdRm w p x r) (hx:RdX w B n xs) (hn:n≤1000) (l:List (Option T3)) (hll:l.length=n) (oo:Option (List T3)) (hoo:seqO l=oo)
 (hsub:∀ k,k<n→∀ A' ca' B' cb' w1,Below w.heap.size w w1→rdX w1 (xs[k]?.getD default) A' B'→Calls Tryz.prog 76 #[.agg (rvA p x r),.agg (exA (xs[k]?.getD default) A' ca' B' cb')] w1 (TyZ w1 (l[k]?.getD none))):
 Calls Tryz.prog 77 #[.agg (rvA p x r),.slice B n cb] w (EachAns w oo):=by
 have HAT:=Hd fun k (hk:k<n)=>hx.at_ hk;have HSUB:=Hd hsub;have HOO:=Hd hoo;have HLL:=Hd hll;have HSN:=Hd fun k ts (hk:k<l.length) (h:seqO (l.take k)=some ts) a (ha:l[k]?.getD none=some a)=>seqO_take hk h ha;have HNO:=Hd fun k (hk:k<l.length) (h:l[k]?.getD none=none)=>seqO_none hk h;have HEND:=Hd (show l.take n=l from List.take_of_length_le (by omega));have HZ:=Hd (show seqO (l.take 0)=some [] from rfl);have HBX:=Hd box_facts;obtain⟨i0,z0,hi0,hz1,hz0,hz2,hz3⟩:=info_three infoTy3;clear h hx hsub hoo hll;unfold TyZ f3A at HSUB;unfold rvA exA at *
 go_enter Tryz.func77,Tryz.ntmps77
 go_upto_region 1 with(fail)
 generalize hw0:w.alloc _=w0;obtain⟨hb0,hsz,hce⟩:=any_box hw0;have HB0:=Hd hb0;have HC:=Hd hce;clear hw0 hb0 hsz hce
 go_wp2_with fail
 go_loopw [6,13] (fun v i wr=>∃ (k:Nat) (ts:List T3),k≤n∧i=.int .i64 k∧seqO (l.take k)=some ts∧wr.ownsRow w0.heap.size 41 3 v k (flY ts)∧Below w0.heap.size w0 wr) (fun _ i _=>n-(intOf i).toNat)
 case atStart=>exact⟨0,[],Nat.zero_le _,rfl,HZ.out,World.ownsRow_nil _ _ _ _,Below.refl _ _⟩
 case round=>
  obtain⟨k,ts,hk,rfl,hseq,hown,hbr⟩:=hrel;have HSQ:=Hd hseq;have HOWN:=Hd hown;have HBR:=Hd hbr;have HBW:=Hd (below_next2 HB0.out hbr);clear hseq hown hbr
  by_cases hlt:k<n
  · obtain⟨b,off,rfl,hb,hat⟩:=HAT.out k hlt;obtain⟨A',ca',B',cb',hrg,hrd⟩:=hat k hlt;obtain⟨c0,c1,c2,c3,c4,c5⟩:=rangeAt_six (rangeAt_keep hrg hb fun p hp=>HBW.out.cell hp);have HRD:=Hd (hrd.below HBW.out);have HLK:=Hd fun w1 hb hrd=>HSUB.out k hlt A' ca' B' cb' w1 hb hrd;have HNK:=Hd (HNO.out k (by rw [HLL.out];exact hlt));have HSK:=Hd (HSN.out k ts (by rw [HLL.out];exact hlt) HSQ.out);clear hat hrg hrd;generalize xs[k]?.getD default=y at *;have HX:=Hd fun w1 hw=>HBX.out wr y A' ca' B' cb' w1 hw HRD.out;generalize l[k]?.getD none=o at *;generalize hoa:(o.getD (0,0,0)).1=oa at *;generalize hob:(o.getD (0,0,0)).2.1=ob at *;generalize hoc:(o.getD (0,0,0)).2.2=oc at *;generalize hos:o.isSome=os at *;have HV:=Hd (show ∀ r,o=some r→r=(oa,ob,oc) from fun r h=>by subst h hoa hob hoc;rfl);have HS:=Hd hos;clear hoa hob hoc hos
    go_upto_region 5 with(fail)
    generalize hw4:wr.alloc _=w4;obtain⟨hb4,hg4,hrd4,hce⟩:=HX.out w4 hw4;obtain⟨e0,e1,e2,e3,e4,e5⟩:=Sx (hce w4 (Below.refl _ _));have HBR4:=Hd (below_next2 HBR.out hb4);have HB4:=Hd (below_next2 HBW.out hb4);have HOW4:=Hd (own_belowU HOWN.out hb4);obtain⟨q0,q1,q2,q3,q4,q5⟩:=Sx (HC.out w4 HBR4.out);have q6:=HC.out w4 HBR4.out 6;simp only [Ya,Yb,Yc] at e0 e1 e2 e3 e4 e5 q0 q1 q2 q3 q4 q5 q6;have HL4:=Hd (HLK.out w4 HB4.out hrd4);clear hw4 hb4 hg4 hrd4 hce c0 c1 c2 c3 c4 c5 HX HRD HLK
    go_wp2_with fail
    refine HL4.out.mono ?_;rintro e w5 ⟨rfl,hb5⟩;have HBR5:=Hd (below_next2 HBR4.out hb5);have HB5:=Hd (below_next2 HB4.out hb5);have HOW5:=Hd (own_belowU HOW4.out hb5);clear hb5 e0 e1 e2 e3 e4 e5 q0 q1 q2 q3 q4 q5 q6 HL4
    go_upto_region 6 with(fail)
    generalize hw6:w5.alloc _=w6;obtain⟨hb6,hF6,hg6⟩:=ty_box hw6;have HBR6:=Hd (below_next2 HBR5.out hb6);have HB6:=Hd (below_next2 HB5.out hb6);have HOW6:=Hd (own_belowU HOW5.out hb6);obtain⟨f0,f1,f2,-,-,-⟩:=Sx hF6.cell;simp only [f3A,List.getElem?_toArray,List.getElem?_cons_zero,List.getElem?_cons_succ] at f0 f1 f2;clear hw6 hb6 hF6 hg6
    cases os with
    | false=>
     have HO:=Hd (show oo=none by rw [← HOO.out];exact HNK.out (by have:=HS.out;cases o with | none=>rfl | some r=>cases this))
     go_wp2_with fail
     try go_ret2
     exact⟨none,0,0,[],by rw [HO.out];rfl,fun r h=>(by rw [HO.out] at h;cases h),HB6.out⟩
    | true=>
     have HO:=Hd (show o=some (oa,ob,oc) by have:=HS.out;cases h:o with | none=>rw [h] at this;cases this | some r=>rw [HV.out r h]);have HSY:=Hd (HSK.out _ HO.out);have hwz:=HBR6.out.size
     go_wp2_with (at_builtin;refine wpList_append_own_at _ rfl _ _ 93 rfl w0.heap.size 41 i0 z0 3 24 Tryz.underlying93 hi0 hz1 hz0 hz2 hz3 (by decide) u6 k (flY ts) rfl (own_belowU HOW6.out ((Below.refl w6.heap.size w6).alloc (Nat.le_refl _) (.cells #[.int .i64 oa,.int .i64 ob,.int .i64 oc] 41))) ⟨w6.heap.size,0,none⟩ 1 1 [.int .i64 oa,.int .i64 ob,.int .i64 oc] rfl rfl (fun j u hu=>World.news_of_block (heap_alloc_new _ _) j u hu) (by simp [Value.oneCell']) (by unfold maxLen;omega) (by omega) (by simp;omega) ?_;intro v' w9 hown' hgrow hnil hloc;have HO9:=Hd hown';have HB9:=Hd (show Below w0.heap.size w0 w9 from(HBR6.out.alloc HBR6.out.size _).grown hgrow (by simp;omega) (fun j hj=>(HOW6.out.lt j hj).1));clear hown' hgrow hnil hloc)
     go_roundw
     case rel=>exact⟨k+1,ts++[(oa,ob,oc)],by omega,by go_num,HSY.out,by rw [flY_app,flY_one];exact HO9.out,HB9.out⟩
     case measure=>simp [intOf];omega
  · obtain rfl:k=n:=by omega
    have HO:=Hd (show oo=some ts by rw [← HOO.out,← HEND.out];exact HSQ.out);obtain⟨S,c,rfl,hry,hsl⟩:=RdY.of_ownC HOWN.out (by omega);have HRY:=Hd hry;have HSL:=Hd hsl;clear hry hsl
    go_wp2_with fail
    try go_ret2
    exact⟨S,k,c,ts,by rw [HO.out];rfl,fun r h=>(by rw [HO.out] at h;injection h with h;exact⟨h.symm,HRY.out,HSL.out⟩),HBW.out⟩
theorem trOfC1(p:Pg) (x:Nd) (r:Rm) (y:Ex) (A:Option Addr) (ca:Nat) (B:Option Addr) (cb:Nat) (w:World) (h:rdRm w p x r) (hr:rdX w y A B) (hk:y.k=1) (hs:sizeX y≤1000000) (hsh:∀ q∈partsX y,ShortP q) (o:Option T3) (ho:(constT p.es y).map (·.2)=o):
 Calls Tryz.prog 76 #[.agg (rvA p x r),.agg (exA y A ca B cb)] w (TyZ w o):=by
 have HF:=Hd fun w0 hw=>any_box2Z (w:=w) (w1:=w0) (cs:=rvA p x r) (ds:=exA y A ca B cb) (T:=69) (U:=52) (V:=41) hw;have HC:=Hd fun w1 (hb:Below w.heap.size w w1)=>trConst r.E p.es.length r.ec p.es y A ca B cb w1 (h.1.1.below hb) (hr.below hb) hs hsh;have HO:=Hd ho;clear h hr hs hsh ho;generalize constT p.es y=oc at *;unfold ConstAns f3A at HC;unfold rvA exA at *;rw [hk] at HF HC ⊢
 go_enter Tryz.func76,Tryz.ntmps76
 go_upto_region 1 with(fail)
 generalize hw0:((w.alloc _).alloc _).alloc _=w0;obtain⟨hb0,hsz,hce,hce2,hR⟩:=HF.out w0 hw0;have HB0:=Hd hb0;have HR:=Hd hR;have HP:=Hd hce;have HX:=Hd hce2;have q0:=hce w0 (Below.refl _ _) 0;obtain⟨r0,r1,r2,r3,r4,r5⟩:=Sx (hce2 w0 (Below.refl _ _));simp only [Ya,Yb,Yc] at q0 r0 r1 r2 r3 r4 r5;clear hw0 hb0 hsz hce hce2 hR HF
 go_wp2_with fail
 refine(HC.out w0 HB0.out).mono ?_;rintro e w1 ⟨S,n,c,a,b,d,vs,rfl,-,-,-,⟨hv,hv0⟩,hb1⟩;have HB1:=Hd (below_next2 HB0.out hb1);have HR1:=Hd (HR.out.below hb1)
 have HV:=Hd (show ∀ e w',(e=.returned (.tuple #[.agg (f3A a b d),.bool oc.isSome])∧Below w.heap.size w w')→TyZ w o e w' from fun e w' h=>by
  rw [← HO.out]
  cases hoc:oc with
  | none=>
   obtain⟨-,h1,h2,h3⟩:=hv0 hoc;rw [h1,h2,h3,hoc] at h;exact h
  | some cc=>
   have:=hv cc hoc;rw [hoc] at h;subst this;exact h)
 clear hb1 hv hv0 HC q0 r0 r1 r2 r3 r4 r5
 go_upto_region 6 with(fail)
 generalize hw2:w1.alloc _=w2;obtain⟨hb2,hF2,hg2⟩:=ty_box hw2;have HB2:=Hd (below_next2 HB1.out hb2);have HR2:=Hd (HR1.out.below hb2);obtain⟨f0,f1,f2,-,-,-⟩:=Sx hF2.cell;simp only [f3A,List.getElem?_toArray,List.getElem?_cons_zero,List.getElem?_cons_succ] at f0 f1 f2;clear hw2 hb2 hF2 hg2
 go_wp2_with (refine wpList_store_row rfl _ _ _ rfl (w.heap.size+1+1) _ rfl rfl _ _ HR2.out ty3_info rfl (by simp [Value.oneCell']) ?_)
 exact bodyPost_ret (res_ty2 (p:=4) (u:=5) rfl _ _ (w.heap.size+1+1) a b d rfl (HR2.out.set a b d)) rfl (HV.out _ _ ⟨rfl,below_setRow HB2.out (by omega) _⟩)
theorem trOfC2(p:Pg) (x:Nd) (r:Rm) (y:Ex) (A:Option Addr) (ca:Nat) (B:Option Addr) (cb:Nat) (w:World) (h:rdRm w p x r) (hr:rdX w y A B) (hk:y.k=2) (hs:sizeX y≤1000000) (hsh:∀ q∈partsX y,ShortP q) (o:Option T3) (ho:(constT p.es y).map (·.2)=o):
 Calls Tryz.prog 76 #[.agg (rvA p x r),.agg (exA y A ca B cb)] w (TyZ w o):=by
 have HF:=Hd fun w0 hw=>any_box2Z (w:=w) (w1:=w0) (cs:=rvA p x r) (ds:=exA y A ca B cb) (T:=69) (U:=52) (V:=41) hw;have HC:=Hd fun w1 (hb:Below w.heap.size w w1)=>trConst r.E p.es.length r.ec p.es y A ca B cb w1 (h.1.1.below hb) (hr.below hb) hs hsh;have HO:=Hd ho;clear h hr hs hsh ho;generalize constT p.es y=oc at *;unfold ConstAns f3A at HC;unfold rvA exA at *;rw [hk] at HF HC ⊢
 go_enter Tryz.func76,Tryz.ntmps76
 go_upto_region 1 with(fail)
 generalize hw0:((w.alloc _).alloc _).alloc _=w0;obtain⟨hb0,hsz,hce,hce2,hR⟩:=HF.out w0 hw0;have HB0:=Hd hb0;have HR:=Hd hR;have HP:=Hd hce;have HX:=Hd hce2;have q0:=hce w0 (Below.refl _ _) 0;obtain⟨r0,r1,r2,r3,r4,r5⟩:=Sx (hce2 w0 (Below.refl _ _));simp only [Ya,Yb,Yc] at q0 r0 r1 r2 r3 r4 r5;clear hw0 hb0 hsz hce hce2 hR HF
 go_wp2_with fail
 refine(HC.out w0 HB0.out).mono ?_;rintro e w1 ⟨S,n,c,a,b,d,vs,rfl,-,-,-,⟨hv,hv0⟩,hb1⟩;have HB1:=Hd (below_next2 HB0.out hb1);have HR1:=Hd (HR.out.below hb1)
 have HV:=Hd (show ∀ e w',(e=.returned (.tuple #[.agg (f3A a b d),.bool oc.isSome])∧Below w.heap.size w w')→TyZ w o e w' from fun e w' h=>by
  rw [← HO.out]
  cases hoc:oc with
  | none=>
   obtain⟨-,h1,h2,h3⟩:=hv0 hoc;rw [h1,h2,h3,hoc] at h;exact h
  | some cc=>
   have:=hv cc hoc;rw [hoc] at h;subst this;exact h)
 clear hb1 hv hv0 HC q0 r0 r1 r2 r3 r4 r5
 go_upto_region 6 with(fail)
 generalize hw2:w1.alloc _=w2;obtain⟨hb2,hF2,hg2⟩:=ty_box hw2;have HB2:=Hd (below_next2 HB1.out hb2);have HR2:=Hd (HR1.out.below hb2);obtain⟨f0,f1,f2,-,-,-⟩:=Sx hF2.cell;simp only [f3A,List.getElem?_toArray,List.getElem?_cons_zero,List.getElem?_cons_succ] at f0 f1 f2;clear hw2 hb2 hF2 hg2
 go_wp2_with (refine wpList_store_row rfl _ _ _ rfl (w.heap.size+1+1) _ rfl rfl _ _ HR2.out ty3_info rfl (by simp [Value.oneCell']) ?_)
 exact bodyPost_ret (res_ty2 (p:=4) (u:=5) rfl _ _ (w.heap.size+1+1) a b d rfl (HR2.out.set a b d)) rfl (HV.out _ _ ⟨rfl,below_setRow HB2.out (by omega) _⟩)
theorem trOfC4(p:Pg) (x:Nd) (r:Rm) (y:Ex) (A:Option Addr) (ca:Nat) (B:Option Addr) (cb:Nat) (w:World) (h:rdRm w p x r) (hr:rdX w y A B) (hk:y.k=4) (hs:sizeX y≤1000000) (hsh:∀ q∈partsX y,ShortP q) (o:Option T3) (ho:(constT p.es y).map (·.2)=o):
 Calls Tryz.prog 76 #[.agg (rvA p x r),.agg (exA y A ca B cb)] w (TyZ w o):=by
 have HF:=Hd fun w0 hw=>any_box2Z (w:=w) (w1:=w0) (cs:=rvA p x r) (ds:=exA y A ca B cb) (T:=69) (U:=52) (V:=41) hw;have HC:=Hd fun w1 (hb:Below w.heap.size w w1)=>trConst r.E p.es.length r.ec p.es y A ca B cb w1 (h.1.1.below hb) (hr.below hb) hs hsh;have HO:=Hd ho;clear h hr hs hsh ho;generalize constT p.es y=oc at *;unfold ConstAns f3A at HC;unfold rvA exA at *;rw [hk] at HF HC ⊢
 go_enter Tryz.func76,Tryz.ntmps76
 go_upto_region 1 with(fail)
 generalize hw0:((w.alloc _).alloc _).alloc _=w0;obtain⟨hb0,hsz,hce,hce2,hR⟩:=HF.out w0 hw0;have HB0:=Hd hb0;have HR:=Hd hR;have HP:=Hd hce;have HX:=Hd hce2;have q0:=hce w0 (Below.refl _ _) 0;obtain⟨r0,r1,r2,r3,r4,r5⟩:=Sx (hce2 w0 (Below.refl _ _));simp only [Ya,Yb,Yc] at q0 r0 r1 r2 r3 r4 r5;clear hw0 hb0 hsz hce hce2 hR HF
 go_wp2_with fail
 refine(HC.out w0 HB0.out).mono ?_;rintro e w1 ⟨S,n,c,a,b,d,vs,rfl,-,-,-,⟨hv,hv0⟩,hb1⟩;have HB1:=Hd (below_next2 HB0.out hb1);have HR1:=Hd (HR.out.below hb1)
 have HV:=Hd (show ∀ e w',(e=.returned (.tuple #[.agg (f3A a b d),.bool oc.isSome])∧Below w.heap.size w w')→TyZ w o e w' from fun e w' h=>by
  rw [← HO.out]
  cases hoc:oc with
  | none=>
   obtain⟨-,h1,h2,h3⟩:=hv0 hoc;rw [h1,h2,h3,hoc] at h;exact h
  | some cc=>
   have:=hv cc hoc;rw [hoc] at h;subst this;exact h)
 clear hb1 hv hv0 HC q0 r0 r1 r2 r3 r4 r5
 go_upto_region 6 with(fail)
 generalize hw2:w1.alloc _=w2;obtain⟨hb2,hF2,hg2⟩:=ty_box hw2;have HB2:=Hd (below_next2 HB1.out hb2);have HR2:=Hd (HR1.out.below hb2);obtain⟨f0,f1,f2,-,-,-⟩:=Sx hF2.cell;simp only [f3A,List.getElem?_toArray,List.getElem?_cons_zero,List.getElem?_cons_succ] at f0 f1 f2;clear hw2 hb2 hF2 hg2
 go_wp2_with (refine wpList_store_row rfl _ _ _ rfl (w.heap.size+1+1) _ rfl rfl _ _ HR2.out ty3_info rfl (by simp [Value.oneCell']) ?_)
 exact bodyPost_ret (res_ty2 (p:=4) (u:=5) rfl _ _ (w.heap.size+1+1) a b d rfl (HR2.out.set a b d)) rfl (HV.out _ _ ⟨rfl,below_setRow HB2.out (by omega) _⟩)
theorem trOfV(p:Pg) (x:Nd) (r:Rm) (y:Ex) (A:Option Addr) (ca:Nat) (B:Option Addr) (cb:Nat) (w:World) (h:rdRm w p x r) (hk:y.k=3) (o:Option T3) (ho:(declO x y.s).map tyD=o):
 Calls Tryz.prog 76 #[.agg (rvA p x r),.agg (exA y A ca B cb)] w (TyZ w o):=by
 have HF:=Hd fun w0 hw=>any_box2Z (w:=w) (w1:=w0) (cs:=rvA p x r) (ds:=exA y A ca B cb) (T:=69) (U:=52) (V:=41) hw;have HC:=Hd fun w1 (hb:Below w.heap.size w w1)=>trVariable p x r y.s w1 (h.below hb);rw [ho] at HC;have HZ:=Hd (show ∀ e w',(e=.returned (.tuple #[.agg (f3A (o.getD (0,0,0)).1 (o.getD (0,0,0)).2.1 (o.getD (0,0,0)).2.2),.bool o.isSome])∧Below w.heap.size w w')→TyZ w o e w' from fun e w' h=>h);unfold TyZ at HC;generalize TyZ w o=post at *;generalize o.isSome=os at *;generalize (o.getD (0,0,0)).1=x0 at *;generalize (o.getD (0,0,0)).2.1=x1 at *;generalize (o.getD (0,0,0)).2.2=x2 at *;clear h ho;unfold f3A at HC HZ;unfold rvA exA at *;rw [hk] at HF ⊢
 go_enter Tryz.func76,Tryz.ntmps76
 go_upto_region 1 with(fail)
 generalize hw0:((w.alloc _).alloc _).alloc _=w0;obtain⟨hb0,hsz,hce,hce2,hR⟩:=HF.out w0 hw0;have HB0:=Hd hb0;have HR:=Hd hR;have HP:=Hd hce;have HX:=Hd hce2;obtain⟨q0,q1,q2,q3,q4,q5⟩:=Sx (hce w0 (Below.refl _ _));have q6:=hce w0 (Below.refl _ _) 6;have r0:=hce2 w0 (Below.refl _ _) 0;have r2:=hce2 w0 (Below.refl _ _) 2;simp only [Ya,Yb,Yc] at q0 q1 q2 q3 q4 q5 q6 r0 r2;clear hw0 hb0 hsz hce hce2 hR HF
 go_wp2_with fail
 refine(HC.out w0 HB0.out).mono ?_;rintro e w1 ⟨rfl,hb1⟩;have HB1:=Hd (below_next2 HB0.out hb1);have HR1:=Hd (HR.out.below hb1);clear hb1 HC
 go_wp2_with (refine wpList_store_row rfl _ _ _ rfl (w.heap.size+1+1) _ rfl rfl _ _ HR1.out ty3_info rfl (by simp [Value.oneCell']) ?_)
 exact bodyPost_ret (res_ty2 (p:=4) (u:=5) rfl _ _ (w.heap.size+1+1) x0 x1 x2 rfl (HR1.out.set x0 x1 x2)) rfl (HZ.out _ _ ⟨rfl,below_setRow HB1.out (by omega) _⟩)
theorem trOfS(p:Pg) (x:Nd) (r:Rm) (y:Ex) (A:Option Addr) (ca:Nat) (B:Option Addr) (cb:Nat) (w:World) (h:rdRm w p x r) (hk:y.k≠1∧y.k≠2∧y.k≠3∧y.k≠4) (oo:Option (List T3)) (ov:List T3→Option T3) (HEA:∀ w1,Below w.heap.size w w1→Calls Tryz.prog 77 #[.agg (rvA p x r),.slice B y.subs.length cb] w1 (EachAns w1 oo)) (HOV:∀ ts,oo=some ts→∀ S n c w1,Below w.heap.size w w1→RdY w1 S n ts→SlY S n c→Calls Tryz.prog 115 #[.agg (rvA p x r),.agg (exA y A ca B cb),.slice S n c] w1 (TyZ w1 (ov ts))) (o:Option T3) (ho:oo.bind ov=o):
 Calls Tryz.prog 76 #[.agg (rvA p x r),.agg (exA y A ca B cb)] w (TyZ w o):=by
 have HF:=Hd fun w0 hw=>any_box2Z (w:=w) (w1:=w0) (cs:=rvA p x r) (ds:=exA y A ca B cb) (T:=69) (U:=52) (V:=41) hw;have HE:=Hd HEA;have HV:=Hd HOV;have HO:=Hd ho;clear h HEA HOV ho;unfold EachAns at HE;unfold rvA exA at *;generalize y.k=k at *;have k1:(k==1)=false:=by simpa using hk.1
 have k2:(k==2)=false:=by simpa using hk.2.1
 have k3:(k==3)=false:=by simpa using hk.2.2.1
 have k4:(k==4)=false:=by simpa using hk.2.2.2
 clear hk
 go_enter Tryz.func76,Tryz.ntmps76
 go_upto_region 1 with(fail)
 generalize hw0:((w.alloc _).alloc _).alloc _=w0;obtain⟨hb0,hsz,hce,hce2,hR⟩:=HF.out w0 hw0;have HB0:=Hd hb0;have HR:=Hd hR;have HP:=Hd hce;have HX:=Hd hce2;obtain⟨q0,q1,q2,q3,q4,q5⟩:=Sx (hce w0 (Below.refl _ _));have q6:=hce w0 (Below.refl _ _) 6;have r0:=hce2 w0 (Below.refl _ _) 0;have r5:=hce2 w0 (Below.refl _ _) 5;simp only [Ya,Yb,Yc] at q0 q1 q2 q3 q4 q5 q6 r0 r5;clear hw0 hb0 hsz hce hce2 hR HF
 go_wp2_with fail
 refine(HE.out w0 HB0.out).mono ?_;rintro e w1 ⟨S,n,c,us,rfl,hus,hb1⟩;have HB1:=Hd (below_next2 HB0.out hb1);have HR1:=Hd (HR.out.below hb1);obtain⟨q0,q1,q2,q3,q4,q5⟩:=Sx (HP.out w1 hb1);have q6:=HP.out w1 hb1 6;obtain⟨r0,r1,r2,r3,r4,r5⟩:=Sx (HX.out w1 hb1);simp only [Ya,Yb,Yc] at q0 q1 q2 q3 q4 q5 q6 r0 r1 r2 r3 r4 r5;have HU:=Hd hus;clear hb1 hus HE HP HX
 cases oo with
 | none=>
  have HO:=Hd (show o=none from HO.out.symm)
  go_wp2_with (refine wpList_store_row rfl _ _ _ rfl (w.heap.size+1+1) _ rfl rfl _ _ HR1.out ty3_info rfl (by simp [Value.oneCell']) ?_)
  exact bodyPost_ret (res_ty2 (p:=4) (u:=5) rfl _ _ (w.heap.size+1+1) 0 0 0 rfl (HR1.out.set 0 0 0)) rfl (by rw [HO.out];exact⟨rfl,below_setRow HB1.out (by omega) _⟩)
 | some ts=>
  obtain⟨h1,h2,h3⟩:=HU.out ts rfl;subst h1;have HC:=Hd (HV.out ts rfl S n c w1 HB1.out h2 h3);rw [show ov ts=o from HO.out] at HC;have HZ:=Hd (show ∀ e w',(e=.returned (.tuple #[.agg (f3A (o.getD (0,0,0)).1 (o.getD (0,0,0)).2.1 (o.getD (0,0,0)).2.2),.bool o.isSome])∧Below w.heap.size w w')→TyZ w o e w' from fun e w' h=>h);unfold TyZ at HC;clear h2 h3 HU HV HO;generalize TyZ w o=post at *;generalize o.isSome=os at *;generalize (o.getD (0,0,0)).1=x0 at *;generalize (o.getD (0,0,0)).2.1=x1 at *;generalize (o.getD (0,0,0)).2.2=x2 at *;unfold f3A at HC HZ
  go_wp2_with fail
  refine HC.out.mono ?_;rintro e w2 ⟨rfl,hb2⟩;have HB2:=Hd (below_next2 HB1.out hb2);have HR2:=Hd (HR1.out.below hb2);clear hb2 HC
  go_wp2_with (refine wpList_store_row rfl _ _ _ rfl (w.heap.size+1+1) _ rfl rfl _ _ HR2.out ty3_info rfl (by simp [Value.oneCell']) ?_)
  exact bodyPost_ret (res_ty2 (p:=4) (u:=5) rfl _ _ (w.heap.size+1+1) x0 x1 x2 rfl (HR2.out.set x0 x1 x2)) rfl (HZ.out _ _ ⟨rfl,below_setRow HB2.out (by omega) _⟩)
end
end Go.Proofs.YtkbpdoomhfkngaaGreat
