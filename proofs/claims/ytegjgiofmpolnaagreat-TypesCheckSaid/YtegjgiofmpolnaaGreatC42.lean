/- Parts of the proof: TrS. Conditions: each theorem's own. -/
import Derived.Test.YtegjgiofmpolnaaGreatC34
import Derived.Test.YtegjgiofmpolnaaGreatC37
namespace Go.Proofs.YtegjgiofmpolnaaGreat
set_option linter.unusedVariables false
set_option linter.unusedSimpArgs false
set_option maxRecDepth 100000
set_option maxHeartbeats 40000000
section
open Go.RowKit Go.Sort Go.BigFrame
theorem aM.of_ownC{w:World}{base:Nat}{e:TypeId}{v:Value}{n:Nat}{l:List T3}(h:w.ownsRow base e 3 v n (fJ l)) (hm:n<=9223372036854775807):∃ A c,v=.slice A n c/\aM w A n l/\oQ A n c:=by
 obtain⟨A,c,hv,hr⟩:=aM.of_own h hm;refine⟨A,c,hv,hr,?_⟩;rcases h.2 with⟨h1,h2⟩|⟨g,cap,cur,h1,hg,hh,hnc,hcm,hcs,ht⟩
 . rw [hv] at h1;injection h1 with e1 e2 e3;subst e1 e2 e3;exact⟨Yh _,by unfold maxLen;omega,.inl ⟨rfl,rfl,rfl⟩⟩
 . rw [hv] at h1;injection h1 with e1 e2 e3;subst e1 e3;exact⟨hnc,hcm,.inr ⟨_,_,rfl⟩⟩
def qN(w:World) (o:Option (List T3)) (e:Ending) (w':World):Prop:=
 ∃ S n c ts,e=.returned (.tuple #[.slice S n c,.bool o.isSome])/\(∀ r,o=some r->r=ts/\aM w' S n ts/\oQ S n c)/\Below w.heap.size w w'
theorem aFm(p:Pg) (x:Nd) (r:Rm) (B:Option Addr) (n cb:Nat) (xs:List Ex) (w:World) (h:cY w p x r) (hx:eA w B n xs) (hn:n<=1000) (l:List (Option T3)) (Bx:l.length=n) (oo:Option (List T3)) (Be:bK l=oo)
 (Ai:∀ k,k<n->∀ A' Ap B' An w1,Below w.heap.size w w1->aJ w1 (xs[k]?.getD default) A' B'->Calls Tryz.prog 41 #[.agg (aT p x r),.agg (aE (xs[k]?.getD default) A' Ap B' An)] w1 (aZ w1 (l[k]?.getD none))):
 Calls Tryz.prog 79 #[.agg (aT p x r),.slice B n cb] w (qN w oo):=by
 have Cd:=Hd fun k (hk:k<n)=>hx.at_ hk;have Ah:=Hd Ai;have Bk:=Hd Be;have Bo:=Hd Bx;have Cj:=Hd fun k ts (hk:k<l.length) (h:bK (l.take k)=some ts) a (ha:l[k]?.getD none=some a)=>wT hk h ha;have Cq:=Hd fun k (hk:k<l.length) (h:l[k]?.getD none=none)=>tK hk h;have Aw:=Hd (show l.take n=l from Yx (by omega));have HZ:=Hd (show bK (l.take 0)=some [] from rfl);have Cm:=Hd eC;obtain⟨i0,z0,Cp,Ct,Cr,Cf,Cs⟩:=nO rW;clear h hx Ai Be Bx;unfold aZ aC at Ah;unfold aT aE at *
 go_enter Tryz.func79,Tryz.ntmps79
 go_upto_region 1 with(fail)
 generalize Bd:w.alloc _=w0;obtain⟨Bw,Ck,Aj⟩:=lB Bd;have Cl:=Hd Bw;have HC:=Hd Aj;clear Bd Bw Ck Aj
 go_wp2_with fail
 go_loopw [6,13] (fun v i wr=>∃ (k:Nat) (ts:List T3),k<=n/\i=.int .i64 k/\bK (l.take k)=some ts/\wr.ownsRow w0.heap.size 38 3 v k (fJ ts)/\Below w0.heap.size w0 wr) (fun _ i _=>n-(intOf i).toNat)
 case atStart=>exact⟨0,[],Yq _,rfl,HZ.o,World.ownsRow_nil _ _ _ _,Yg _ _⟩
 case round=>
  obtain⟨k,ts,hk,rfl,Al,Ak,Av⟩:=hrel;have Bt:=Hd Al;have Af:=Hd Ak;have Cb:=Hd Av;have As:=Hd (aR Cl.o Av);clear Al Ak Av
  by_cases Ae:k<n
  . obtain⟨b,Cx,rfl,hb,Bm⟩:=Cd.o k Ae;obtain⟨A',Ap,B',An,Br,Ao⟩:=Bm k Ae;obtain⟨c0,c1,c2,c3,c4,c5⟩:=eG (jH Br hb fun p hp=>As.o.cell hp);have Bu:=Hd (Ao.below As.o);have Bi:=Hd fun w1 hb Ao=>Ah.o k Ae A' Ap B' An w1 hb Ao;have Cn:=Hd (Cq.o k (by rw [Bo.o];exact Ae));have Cg:=Hd (Cj.o k ts (by rw [Bo.o];exact Ae) Bt.o);clear Bm Br Ao;generalize xs[k]?.getD default=y at *;have HX:=Hd fun w1 hw=>Cm.o wr y A' Ap B' An w1 hw Bu.o;generalize l[k]?.getD none=o at *;generalize Bn:(o.getD (0,0,0)).1=oa at *;generalize Bj:(o.getD (0,0,0)).2.1=ob at *;generalize Bz:(o.getD (0,0,0)).2.2=oc at *;generalize Bq:o.isSome=os at *;have HV:=Hd (show ∀ r,o=some r->r=(oa,ob,oc) from fun r h=>by subst h Bn Bj Bz;rfl);have HS:=Hd Bq;clear Bn Bj Bz Bq
    go_upto_region 5 with(fail)
    generalize Bc:wr.alloc _=w4;obtain⟨Aq,Cw,Am,Aj⟩:=HX.o w4 Bc;obtain⟨e0,e1,e2,e3,e4,e5⟩:=Sx (Aj w4 (Yg _ _));have Ac:=Hd (aR Cb.o Aq);have Bl:=Hd (aR As.o Aq);have Ax:=Hd (fK Af.o Aq);obtain⟨q0,q1,q2,q3,q4,q5⟩:=Sx (HC.o w4 Ac.o);have q6:=HC.o w4 Ac.o 6;simp only [Ya,Yb,Yc] at e0 e1 e2 e3 e4 e5 q0 q1 q2 q3 q4 q5 q6;have Bp:=Hd (Bi.o w4 Bl.o Am);clear Bc Aq Cw Am Aj c0 c1 c2 c3 c4 c5 HX Bu Bi
    go_wp2_with fail
    refine Bp.o.mono ?_;rintro e w5 ⟨rfl,Ar⟩;have Ba:=Hd (aR Ac.o Ar);have Cc:=Hd (aR Bl.o Ar);have Az:=Hd (fK Ax.o Ar);clear Ar e0 e1 e2 e3 e4 e5 q0 q1 q2 q3 q4 q5 q6 Bp
    go_upto_region 6 with(fail)
    generalize Bg:w5.alloc _=w6;obtain⟨Au,Bf,Ca⟩:=gM Bg;have Ad:=Hd (aR Ba.o Au);have Cv:=Hd (aR Cc.o Au);have Ag:=Hd (fK Az.o Au);obtain⟨f0,f1,f2,-,-,-⟩:=Sx Bf.cell;simp only [aC,List.getElem?_toArray,Yz,Zb] at f0 f1 f2;clear Bg Au Bf Ca
    cases os with
    | false=>
     have HO:=Hd (show oo=none by rw [<- Bk.o];exact Cn.o (by have:=HS.o;cases o with | none=>rfl | some r=>cases this))
     go_wp2_with fail
     try go_ret2
     exact⟨none,0,0,[],by rw [HO.o];rfl,fun r h=>(by rw [HO.o] at h;cases h),Cv.o⟩
    | true=>
     have HO:=Hd (show o=some (oa,ob,oc) by have:=HS.o;cases h:o with | none=>rw [h] at this;cases this | some r=>rw [HV.o r h]);have Ce:=Hd (Cg.o _ HO.o);have Cy:=Ad.o.size
     go_wp2_with (at_builtin;refine wpList_append_own_at _ rfl _ _ 99 rfl w0.heap.size 38 i0 z0 3 24 Tryz.underlying99 Cp Ct Cr Cf Cs (by decide) u6 k (fJ ts) rfl (fK Ag.o ((Yg w6.heap.size w6).alloc (Yh _) (.cells #[.int .i64 oa,.int .i64 ob,.int .i64 oc] 38))) ⟨w6.heap.size,0,none⟩ 1 1 [.int .i64 oa,.int .i64 ob,.int .i64 oc] rfl rfl (fun j u hu=>World.news_of_block (Zw _ _) j u hu) (by simp [Value.oneCell']) (by unfold maxLen;omega) (by omega) (by simp;omega) ?_;intro v' w9 Aa Ab Bb Ay;have Ci:=Hd Aa;have Cu:=Hd (show Below w0.heap.size w0 w9 from(Ad.o.alloc Ad.o.size _).grown Ab (by simp;omega) (fun j hj=>(Ag.o.lt j hj).1));clear Aa Ab Bb Ay)
     go_roundw
     case rel=>exact⟨k+1,ts++[(oa,ob,oc)],by omega,by go_num,Ce.o,by rw [rU,rV];exact Ci.o,Cu.o⟩
     case measure=>simp [intOf];omega
  . obtain rfl:k=n:=by omega
    have HO:=Hd (show oo=some ts by rw [<- Bk.o,<- Aw.o];exact Bt.o);obtain⟨S,c,rfl,Bv,Bh⟩:=aM.of_ownC Af.o (by omega);have Ch:=Hd Bv;have Co:=Hd Bh;clear Bv Bh
    go_wp2_with fail
    try go_ret2
    exact⟨S,k,c,ts,by rw [HO.o];rfl,fun r h=>(by rw [HO.o] at h;injection h with h;exact⟨h.symm,Ch.o,Co.o⟩),As.o⟩
theorem aSo(p:Pg) (x:Nd) (r:Rm) (y:Ex) (A:Option Addr) (ca:Nat) (B:Option Addr) (cb:Nat) (w:World) (h:cY w p x r) (hr:aJ w y A B) (hk:y.k=1) (hs:bG y<=1000000) (Ai:∀ q∈bI y,cL q) (o:Option T3) (ho:(dL p.es y).map (·.2)=o):
 Calls Tryz.prog 41 #[.agg (aT p x r),.agg (aE y A ca B cb)] w (aZ w o):=by
 have HF:=Hd fun w0 hw=>fL (w:=w) (w1:=w0) (cs:=aT p x r) (ds:=aE y A ca B cb) (T:=60) (U:=35) (V:=38) hw;have HC:=Hd fun w1 (hb:Below w.heap.size w w1)=>uQ r.E p.es.length r.ec p.es y A ca B cb w1 (h.1.1.below hb) (hr.below hb) hs Ai;have HO:=Hd ho;clear h hr hs Ai ho;generalize dL p.es y=oc at *;unfold jI aC at HC;unfold aT aE at *;rw [hk] at HF HC ⊢
 go_enter Tryz.func41,Tryz.ntmps41
 go_upto_region 1 with(fail)
 generalize Af:((w.alloc _).alloc _).alloc _=w0;obtain⟨Ag,Ap,Ad,Aa,hR⟩:=HF.o w0 Af;have Al:=Hd Ag;have HR:=Hd hR;have HP:=Hd Ad;have HX:=Hd Aa;have q0:=Ad w0 (Yg _ _) 0;obtain⟨r0,r1,r2,r3,r4,r5⟩:=Sx (Aa w0 (Yg _ _));simp only [Ya,Yb,Yc] at q0 r0 r1 r2 r3 r4 r5;clear Af Ag Ap Ad Aa hR HF
 go_wp2_with fail
 refine(HC.o w0 Al.o).mono ?_;rintro e w1 ⟨S,n,c,a,b,d,vs,rfl,-,-,-,⟨hv,Ak⟩,Ae⟩;have Ar:=Hd (aR Al.o Ae);have An:=Hd (HR.o.below Ae)
 have HV:=Hd (show ∀ e w',(e=.returned (.tuple #[.agg (aC a b d),.bool oc.isSome])/\Below w.heap.size w w')->aZ w o e w' from fun e w' h=>by
  rw [<- HO.o]
  cases Ab:oc with
  | none=>
   obtain⟨-,h1,h2,h3⟩:=Ak Ab;rw [h1,h2,h3,Ab] at h;exact h
  | some cc=>
   have:=hv cc Ab;rw [Ab] at h;subst this;exact h)
 clear Ae hv Ak HC q0 r0 r1 r2 r3 r4 r5
 go_upto_region 6 with(fail)
 generalize Aj:w1.alloc _=w2;obtain⟨Ac,Am,Ao⟩:=gM Aj;have Aq:=Hd (aR Ar.o Ac);have Ah:=Hd (An.o.below Ac);obtain⟨f0,f1,f2,-,-,-⟩:=Sx Am.cell;simp only [aC,List.getElem?_toArray,Yz,Zb] at f0 f1 f2;clear Aj Ac Am Ao
 go_wp2_with (refine Zu rfl _ _ _ rfl (w.heap.size+1+1) _ rfl rfl _ _ Ah.o bM rfl (by simp [Value.oneCell']) ?_)
 exact Zt (aL (p:=4) (u:=5) rfl _ _ (w.heap.size+1+1) a b d rfl (Ah.o.set a b d)) rfl (HV.o _ _ ⟨rfl,Xb Aq.o (by omega) _⟩)
theorem aSp(p:Pg) (x:Nd) (r:Rm) (y:Ex) (A:Option Addr) (ca:Nat) (B:Option Addr) (cb:Nat) (w:World) (h:cY w p x r) (hr:aJ w y A B) (hk:y.k=2) (hs:bG y<=1000000) (Ai:∀ q∈bI y,cL q) (o:Option T3) (ho:(dL p.es y).map (·.2)=o):
 Calls Tryz.prog 41 #[.agg (aT p x r),.agg (aE y A ca B cb)] w (aZ w o):=by
 have HF:=Hd fun w0 hw=>fL (w:=w) (w1:=w0) (cs:=aT p x r) (ds:=aE y A ca B cb) (T:=60) (U:=35) (V:=38) hw;have HC:=Hd fun w1 (hb:Below w.heap.size w w1)=>uQ r.E p.es.length r.ec p.es y A ca B cb w1 (h.1.1.below hb) (hr.below hb) hs Ai;have HO:=Hd ho;clear h hr hs Ai ho;generalize dL p.es y=oc at *;unfold jI aC at HC;unfold aT aE at *;rw [hk] at HF HC ⊢
 go_enter Tryz.func41,Tryz.ntmps41
 go_upto_region 1 with(fail)
 generalize Af:((w.alloc _).alloc _).alloc _=w0;obtain⟨Ag,Ap,Ad,Aa,hR⟩:=HF.o w0 Af;have Al:=Hd Ag;have HR:=Hd hR;have HP:=Hd Ad;have HX:=Hd Aa;have q0:=Ad w0 (Yg _ _) 0;obtain⟨r0,r1,r2,r3,r4,r5⟩:=Sx (Aa w0 (Yg _ _));simp only [Ya,Yb,Yc] at q0 r0 r1 r2 r3 r4 r5;clear Af Ag Ap Ad Aa hR HF
 go_wp2_with fail
 refine(HC.o w0 Al.o).mono ?_;rintro e w1 ⟨S,n,c,a,b,d,vs,rfl,-,-,-,⟨hv,Ak⟩,Ae⟩;have Ar:=Hd (aR Al.o Ae);have An:=Hd (HR.o.below Ae)
 have HV:=Hd (show ∀ e w',(e=.returned (.tuple #[.agg (aC a b d),.bool oc.isSome])/\Below w.heap.size w w')->aZ w o e w' from fun e w' h=>by
  rw [<- HO.o]
  cases Ab:oc with
  | none=>
   obtain⟨-,h1,h2,h3⟩:=Ak Ab;rw [h1,h2,h3,Ab] at h;exact h
  | some cc=>
   have:=hv cc Ab;rw [Ab] at h;subst this;exact h)
 clear Ae hv Ak HC q0 r0 r1 r2 r3 r4 r5
 go_upto_region 6 with(fail)
 generalize Aj:w1.alloc _=w2;obtain⟨Ac,Am,Ao⟩:=gM Aj;have Aq:=Hd (aR Ar.o Ac);have Ah:=Hd (An.o.below Ac);obtain⟨f0,f1,f2,-,-,-⟩:=Sx Am.cell;simp only [aC,List.getElem?_toArray,Yz,Zb] at f0 f1 f2;clear Aj Ac Am Ao
 go_wp2_with (refine Zu rfl _ _ _ rfl (w.heap.size+1+1) _ rfl rfl _ _ Ah.o bM rfl (by simp [Value.oneCell']) ?_)
 exact Zt (aL (p:=4) (u:=5) rfl _ _ (w.heap.size+1+1) a b d rfl (Ah.o.set a b d)) rfl (HV.o _ _ ⟨rfl,Xb Aq.o (by omega) _⟩)
theorem aSq(p:Pg) (x:Nd) (r:Rm) (y:Ex) (A:Option Addr) (ca:Nat) (B:Option Addr) (cb:Nat) (w:World) (h:cY w p x r) (hr:aJ w y A B) (hk:y.k=4) (hs:bG y<=1000000) (Ai:∀ q∈bI y,cL q) (o:Option T3) (ho:(dL p.es y).map (·.2)=o):
 Calls Tryz.prog 41 #[.agg (aT p x r),.agg (aE y A ca B cb)] w (aZ w o):=by
 have HF:=Hd fun w0 hw=>fL (w:=w) (w1:=w0) (cs:=aT p x r) (ds:=aE y A ca B cb) (T:=60) (U:=35) (V:=38) hw;have HC:=Hd fun w1 (hb:Below w.heap.size w w1)=>uQ r.E p.es.length r.ec p.es y A ca B cb w1 (h.1.1.below hb) (hr.below hb) hs Ai;have HO:=Hd ho;clear h hr hs Ai ho;generalize dL p.es y=oc at *;unfold jI aC at HC;unfold aT aE at *;rw [hk] at HF HC ⊢
 go_enter Tryz.func41,Tryz.ntmps41
 go_upto_region 1 with(fail)
 generalize Af:((w.alloc _).alloc _).alloc _=w0;obtain⟨Ag,Ap,Ad,Aa,hR⟩:=HF.o w0 Af;have Al:=Hd Ag;have HR:=Hd hR;have HP:=Hd Ad;have HX:=Hd Aa;have q0:=Ad w0 (Yg _ _) 0;obtain⟨r0,r1,r2,r3,r4,r5⟩:=Sx (Aa w0 (Yg _ _));simp only [Ya,Yb,Yc] at q0 r0 r1 r2 r3 r4 r5;clear Af Ag Ap Ad Aa hR HF
 go_wp2_with fail
 refine(HC.o w0 Al.o).mono ?_;rintro e w1 ⟨S,n,c,a,b,d,vs,rfl,-,-,-,⟨hv,Ak⟩,Ae⟩;have Ar:=Hd (aR Al.o Ae);have An:=Hd (HR.o.below Ae)
 have HV:=Hd (show ∀ e w',(e=.returned (.tuple #[.agg (aC a b d),.bool oc.isSome])/\Below w.heap.size w w')->aZ w o e w' from fun e w' h=>by
  rw [<- HO.o]
  cases Ab:oc with
  | none=>
   obtain⟨-,h1,h2,h3⟩:=Ak Ab;rw [h1,h2,h3,Ab] at h;exact h
  | some cc=>
   have:=hv cc Ab;rw [Ab] at h;subst this;exact h)
 clear Ae hv Ak HC q0 r0 r1 r2 r3 r4 r5
 go_upto_region 6 with(fail)
 generalize Aj:w1.alloc _=w2;obtain⟨Ac,Am,Ao⟩:=gM Aj;have Aq:=Hd (aR Ar.o Ac);have Ah:=Hd (An.o.below Ac);obtain⟨f0,f1,f2,-,-,-⟩:=Sx Am.cell;simp only [aC,List.getElem?_toArray,Yz,Zb] at f0 f1 f2;clear Aj Ac Am Ao
 go_wp2_with (refine Zu rfl _ _ _ rfl (w.heap.size+1+1) _ rfl rfl _ _ Ah.o bM rfl (by simp [Value.oneCell']) ?_)
 exact Zt (aL (p:=4) (u:=5) rfl _ _ (w.heap.size+1+1) a b d rfl (Ah.o.set a b d)) rfl (HV.o _ _ ⟨rfl,Xb Aq.o (by omega) _⟩)
theorem aTg(p:Pg) (x:Nd) (r:Rm) (y:Ex) (A:Option Addr) (ca:Nat) (B:Option Addr) (cb:Nat) (w:World) (h:cY w p x r) (hk:y.k=3) (o:Option T3) (ho:(aW x y.s).map aO=o):
 Calls Tryz.prog 41 #[.agg (aT p x r),.agg (aE y A ca B cb)] w (aZ w o):=by
 have HF:=Hd fun w0 hw=>fL (w:=w) (w1:=w0) (cs:=aT p x r) (ds:=aE y A ca B cb) (T:=60) (U:=35) (V:=38) hw;have HC:=Hd fun w1 (hb:Below w.heap.size w w1)=>wH p x r y.s w1 (h.below hb);rw [ho] at HC;have HZ:=Hd (show ∀ e w',(e=.returned (.tuple #[.agg (aC (o.getD (0,0,0)).1 (o.getD (0,0,0)).2.1 (o.getD (0,0,0)).2.2),.bool o.isSome])/\Below w.heap.size w w')->aZ w o e w' from fun e w' h=>h);unfold aZ at HC;generalize aZ w o=Ah at *;generalize o.isSome=os at *;generalize (o.getD (0,0,0)).1=x0 at *;generalize (o.getD (0,0,0)).2.1=x1 at *;generalize (o.getD (0,0,0)).2.2=x2 at *;clear h ho;unfold aC at HC HZ;unfold aT aE at *;rw [hk] at HF ⊢
 go_enter Tryz.func41,Tryz.ntmps41
 go_upto_region 1 with(fail)
 generalize Ad:((w.alloc _).alloc _).alloc _=w0;obtain⟨Af,Ai,Ab,Aa,hR⟩:=HF.o w0 Ad;have Ag:=Hd Af;have HR:=Hd hR;have HP:=Hd Ab;have HX:=Hd Aa;obtain⟨q0,q1,q2,q3,q4,q5⟩:=Sx (Ab w0 (Yg _ _));have q6:=Ab w0 (Yg _ _) 6;have r0:=Aa w0 (Yg _ _) 0;have r2:=Aa w0 (Yg _ _) 2;simp only [Ya,Yb,Yc] at q0 q1 q2 q3 q4 q5 q6 r0 r2;clear Ad Af Ai Ab Aa hR HF
 go_wp2_with fail
 refine(HC.o w0 Ag.o).mono ?_;rintro e w1 ⟨rfl,Ac⟩;have Aj:=Hd (aR Ag.o Ac);have Ae:=Hd (HR.o.below Ac);clear Ac HC
 go_wp2_with (refine Zu rfl _ _ _ rfl (w.heap.size+1+1) _ rfl rfl _ _ Ae.o bM rfl (by simp [Value.oneCell']) ?_)
 exact Zt (aL (p:=4) (u:=5) rfl _ _ (w.heap.size+1+1) x0 x1 x2 rfl (Ae.o.set x0 x1 x2)) rfl (HZ.o _ _ ⟨rfl,Xb Aj.o (by omega) _⟩)
theorem vF(p:Pg) (x:Nd) (r:Rm) (y:Ex) (A:Option Addr) (ca:Nat) (B:Option Addr) (cb:Nat) (w:World) (h:cY w p x r) (hk:y.k≠1/\y.k≠2/\y.k≠3/\y.k≠4) (oo:Option (List T3)) (ov:List T3->Option T3) (Ak:∀ w1,Below w.heap.size w w1->Calls Tryz.prog 79 #[.agg (aT p x r),.slice B y.subs.length cb] w1 (qN w1 oo)) (Al:∀ ts,oo=some ts->∀ S n c w1,Below w.heap.size w w1->aM w1 S n ts->oQ S n c->Calls Tryz.prog 80 #[.agg (aT p x r),.agg (aE y A ca B cb),.slice S n c] w1 (aZ w1 (ov ts))) (o:Option T3) (ho:oo.bind ov=o):
 Calls Tryz.prog 41 #[.agg (aT p x r),.agg (aE y A ca B cb)] w (aZ w o):=by
 have HF:=Hd fun w0 hw=>fL (w:=w) (w1:=w0) (cs:=aT p x r) (ds:=aE y A ca B cb) (T:=60) (U:=35) (V:=38) hw;have HE:=Hd Ak;have HV:=Hd Al;have HO:=Hd ho;clear h Ak Al ho;unfold qN at HE;unfold aT aE at *;generalize y.k=k at *;have k1:(k==1)=false:=by simpa using hk.1
 have k2:(k==2)=false:=by simpa using hk.2.1
 have k3:(k==3)=false:=by simpa using hk.2.2.1
 have k4:(k==4)=false:=by simpa using hk.2.2.2
 clear hk
 go_enter Tryz.func41,Tryz.ntmps41
 go_upto_region 1 with(fail)
 generalize Ag:((w.alloc _).alloc _).alloc _=w0;obtain⟨Am,Ao,Ac,Aa,hR⟩:=HF.o w0 Ag;have Aj:=Hd Am;have HR:=Hd hR;have HP:=Hd Ac;have HX:=Hd Aa;obtain⟨q0,q1,q2,q3,q4,q5⟩:=Sx (Ac w0 (Yg _ _));have q6:=Ac w0 (Yg _ _) 6;have r0:=Aa w0 (Yg _ _) 0;have r5:=Aa w0 (Yg _ _) 5;simp only [Ya,Yb,Yc] at q0 q1 q2 q3 q4 q5 q6 r0 r5;clear Ag Am Ao Ac Aa hR HF
 go_wp2_with fail
 refine(HE.o w0 Aj.o).mono ?_;rintro e w1 ⟨S,n,c,us,rfl,Ah,Ab⟩;have Af:=Hd (aR Aj.o Ab);have Ae:=Hd (HR.o.below Ab);obtain⟨q0,q1,q2,q3,q4,q5⟩:=Sx (HP.o w1 Ab);have q6:=HP.o w1 Ab 6;obtain⟨r0,r1,r2,r3,r4,r5⟩:=Sx (HX.o w1 Ab);simp only [Ya,Yb,Yc] at q0 q1 q2 q3 q4 q5 q6 r0 r1 r2 r3 r4 r5;have HU:=Hd Ah;clear Ab Ah HE HP HX
 cases oo with
 | none=>
  have HO:=Hd (show o=none from HO.o.symm)
  go_wp2_with (refine Zu rfl _ _ _ rfl (w.heap.size+1+1) _ rfl rfl _ _ Ae.o bM rfl (by simp [Value.oneCell']) ?_)
  exact Zt (aL (p:=4) (u:=5) rfl _ _ (w.heap.size+1+1) 0 0 0 rfl (Ae.o.set 0 0 0)) rfl (by rw [HO.o];exact⟨rfl,Xb Af.o (by omega) _⟩)
 | some ts=>
  obtain⟨h1,h2,h3⟩:=HU.o ts rfl;subst h1;have HC:=Hd (HV.o ts rfl S n c w1 Af.o h2 h3);rw [show ov ts=o from HO.o] at HC;have HZ:=Hd (show ∀ e w',(e=.returned (.tuple #[.agg (aC (o.getD (0,0,0)).1 (o.getD (0,0,0)).2.1 (o.getD (0,0,0)).2.2),.bool o.isSome])/\Below w.heap.size w w')->aZ w o e w' from fun e w' h=>h);unfold aZ at HC;clear h2 h3 HU HV HO;generalize aZ w o=An at *;generalize o.isSome=os at *;generalize (o.getD (0,0,0)).1=x0 at *;generalize (o.getD (0,0,0)).2.1=x1 at *;generalize (o.getD (0,0,0)).2.2=x2 at *;unfold aC at HC HZ
  go_wp2_with fail
  refine HC.o.mono ?_;rintro e w2 ⟨rfl,Ad⟩;have Ap:=Hd (aR Af.o Ad);have Ai:=Hd (Ae.o.below Ad);clear Ad HC
  go_wp2_with (refine Zu rfl _ _ _ rfl (w.heap.size+1+1) _ rfl rfl _ _ Ai.o bM rfl (by simp [Value.oneCell']) ?_)
  exact Zt (aL (p:=4) (u:=5) rfl _ _ (w.heap.size+1+1) x0 x1 x2 rfl (Ai.o.set x0 x1 x2)) rfl (HZ.o _ _ ⟨rfl,Xb Ap.o (by omega) _⟩)
end
end Go.Proofs.YtegjgiofmpolnaaGreat
