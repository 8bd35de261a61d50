/- Parts of the proof: TpR, TpV, TpW, TpX, TpY, TpZ, TqA. Conditions: each theorem's own. -/
import Derived.Deep.AppendLies
import Derived.Test.YtegjgiofmpolnaaGreatC20
namespace Go.Proofs.YtegjgiofmpolnaaGreat
set_option linter.unusedVariables false
set_option linter.unusedSimpArgs false
set_option maxRecDepth 100000
set_option maxHeartbeats 40000000
section
open Go.RowKit Go.Sort
def oM(k:Int):Nat:=if k=9 then 2 else if k=13 then 0 else 1
theorem aPv{p:Pg}{i:Nat}{x:Ex}{ts:List T3}(hk:x.k=9):fO p i x ts=if aB ts 0=aB ts 1 then some (aB ts 0) else none:=by unfold fO;rw [hk];rfl
theorem aM9{p:Pg}{i:Nat}{x:Ex}{ts:List T3}(hk:x.k=10):fO p i x ts=some (aB ts 0):=by unfold fO;rw [hk];rfl
theorem aNa{p:Pg}{i:Nat}{x:Ex}{ts:List T3}(hk:x.k=11):pP (aW (aA p i) x.s) (cU p.es (x.arms[0]?.getD ByteArray.empty)) (aB ts 0)=fO p i x ts:=by
 unfold fO pP;rw [hk];cases aW (aA p i) x.s <;> cases cU p.es (x.arms[0]?.getD ByteArray.empty) <;> rfl
theorem aNb{p:Pg}{i:Nat}{x:Ex}{ts:List T3}(hk:x.k=12):qV (aW (aA p i) x.s) (fun d=>dH ts && jK p.es (aO d) x.arms) (aB ts 0)=fO p i x ts:=by
 unfold fO qV;rw [hk];cases aW (aA p i) x.s <;> rfl
theorem aNc{p:Pg}{i:Nat}{x:Ex}{ts:List T3}(hk:x.k=13):vB p (fB p x ts)=fO p i x ts:=by
 unfold fO vB;rw [hk];cases fB p x ts <;> rfl
theorem aNd(p:Pg) (E:Option Addr) (ec:Nat) (N:Option Addr) (nc:Nat) (i:Nat) (x:Ex) (A:Option Addr) (ca:Nat) (B:Option Addr) (cb:Nat) (S:Option Addr) (m sc:Nat) (ts:List T3) (w:World) (h:cW w p E N) (hr:aJ w x A B) (hS:aM w S m ts)
 (Ae:9<=x.k) (Af:x.k<=13) (hm:oM x.k<=m) (hi:i<p.ns.length) (Aa:(aA p i).all.length<=1000) (Ab:x.k=11->0<x.arms.length) (Ad:x.k=13->x.n=0\/x.n=1) (Ac:∀ d,aW (aA p i) x.s=some d->bH p.es.length d.k d.e d.l=true):
 Calls Tryz.prog 81 #[.agg (aP p E ec N nc),.int .i64 i,.agg (aE x A ca B cb),.slice S m sc] w (eV w (fO p i x ts)):=by
 rcases(show x.k=9\/x.k=10\/x.k=11\/x.k=12\/x.k=13 by omega) with hk | hk | hk | hk | hk
 . rw [aPv hk];exact aM8 p E ec N nc i x A ca B cb S m sc ts w hS hk (by rw [hk] at hm;exact hm)
 . rw [aM9 hk];exact aKg p E ec N nc i x A ca B cb S m sc ts w hS hk (by rw [hk] at hm;exact hm)
 . exact aKk p E ec N nc i x A ca B cb S m sc ts w h hr hS hk (by rw [hk] at hm;exact hm) hi Aa (Ab hk) _ (aNa hk)
 . exact aKn p E ec N nc i x A ca B cb S m sc ts w h hr hS hk (by rw [hk] at hm;exact hm) hi Aa Ac _ (aNb hk)
 . exact aKl p E ec N nc i x A ca B cb S m sc ts w h hr hS hk (Ad hk) hi Aa _ (aNc hk)
end
section
open Go.RowKit Go.Sort
theorem aBg(l:Option Addr) (n c:Nat) (es:List En) (x:Ex) (A:Option Addr) (ca:Nat) (B:Option Addr) (cb:Nat) (w:World) (hE:bV w l n es) (hr:aJ w x A B) (hs:bG x<=1000000) (Aa:∀ p∈bI x,cL p):
 Calls Tryz.prog 18 #[.slice l n c,.agg (aE x A ca B cb)] w (jI w (dL es x)):=by
 cases h:(bB x && dC x) with
 | false=>
  rw [wU h];exact aIh l n c x A ca B cb w hr hs Aa h
 | true=>
  by_cases hk:x.k=14
  . rw [wC h hk];exact aHa l n c es x A ca B cb w hE hr hs Aa h hk _ rfl _ rfl
  . rw [tE h hk];exact aG9 l n c es x A ca B cb w hE hr hs Aa h hk
def fJ(l:List T3):List Value:=l.flatMap lM
theorem aPw(l:List T3):(fJ l).length=l.length*3:=by
 induction l with
 | nil=>rfl
 | cons d l ih=>simp only [fJ,List.flatMap_cons,Yn,Yo] at ih ⊢;rw [ih];simp [lM];omega
theorem rU(a b:List T3):fJ (a++b)=fJ a++fJ b:=by simp [fJ]
theorem rV(d:T3):fJ [d]=lM d:=by simp [fJ]
theorem aFd:∀ (l:List T3) (i j:Nat),i<l.length->j<3->(fJ l)[i*3+j]?=(lM (l[i]?.getD default))[j]?
 | t::ts,0,j,_,hj=>by
  have hz:j<(lM t).length:=by simpa [lM] using hj
  simp only [fJ,List.flatMap_cons,Nat.zero_mul,Nat.zero_add];rw [List.getElem?_append_left hz]
  simp
 | t::ts,i+1,j,hi,hj=>by
  have ih:=aFd ts i j (by simpa using hi) hj;have hz:(lM t).length=3:=by simp [lM]
  simp only [fJ,List.flatMap_cons];rw [List.getElem?_append_right (by rw [hz];omega),hz,show(i+1)*3+j-3=i*3+j by omega]
  simpa [fJ] using ih
section
variable {w w':World}{A:Option Addr}{n:Nat}{l:List T3}
theorem aM.of_own{base:Nat}{e:TypeId}{v:Value}(h:w.ownsRow base e 3 v n (fJ l)) (hm:n<=9223372036854775807):∃ A c,v=.slice A n c/\aM w A n l:=by
 have hl:l.length=n:=by
  have:=h.1;rw [aPw] at this;omega
 rcases h.2 with⟨rfl,rfl⟩|⟨g,cap,cur,rfl,hg,hh,hnc,hcm,hcs,ht⟩
 . obtain rfl:l=[]:=Zq hl;exact⟨none,0,rfl,aQ.nil_ _ _ _⟩
 . refine⟨_,cap,rfl,hl,hm,fun hn=>⟨g,0,rfl,(Yl.1 hh).1,fun i hi=>?_⟩⟩;intro j v hv
   have hj:j<3:=by
    rcases Nat.lt_or_ge j 3 with h | h
    . exact h
    . rw [List.getElem?_eq_none (by simpa [lM] using h)] at hv;cases hv
   rw [Nat.zero_add,h.cellAt (i*3+j) (by omega),aFd l i j (by omega) hj,hv]
end
theorem rW:(Tryz.prog.info? 38).map (fun i=>(i.size,i.bytes,i.zero.map fun z=>z.cells.size))=some (3,24,some 3):=by kernel_rfl
def aZ(w:World) (o:Option T3) (e:Ending) (w':World):Prop:=e=.returned (.tuple #[.agg (aC (o.getD (0,0,0)).1 (o.getD (0,0,0)).2.1 (o.getD (0,0,0)).2.2),.bool o.isSome])/\Below w.heap.size w w'
def iO(w:World) (o:Option (List T3)) (e:Ending) (w':World):Prop:=
 ∃ S n c ts,e=.returned (.tuple #[.slice S n c,.bool o.isSome])/\(∀ r,o=some r->r=ts/\aM w' S n ts)/\Below w.heap.size w w'
theorem aNe{w w0:World}{p:Pg}{E:Option Addr}{ec:Nat}{N:Option Addr}{nc:Nat}{x:Ex}{A:Option Addr}{ca:Nat}{B:Option Addr}{cb:Nat}
 (h:(w.alloc (.cells (aP p E ec N nc) 25)).alloc (.cells (aE x A ca B cb) 35)=w0):
 Below w.heap.size w w0/\w0.heap.size=w.heap.size+2/\(∀ w',Below w0.heap.size w0 w'->∀ j,w'.cell? ⟨w.heap.size,j,none⟩=(aP p E ec N nc)[j]?)/\(∀ w',Below w0.heap.size w0 w'->∀ j,w'.cell? ⟨w.heap.size+1,j,none⟩=(aE x A ca B cb)[j]?):=yX h
end
section
open Go.RowKit Go.Sort Go.BigFrame
theorem aEr(p:Pg) (E:Option Addr) (ec:Nat) (N:Option Addr) (nc:Nat) (i:Nat) (x:Ex) (A:Option Addr) (ca:Nat) (B:Option Addr) (cb:Nat) (w:World) (hi:i<p.ns.length) (Ar:p.ns.length<=9223372036854775807) (o:Option T3)
 (Ak:∀ w1,Below w.heap.size w w1->Calls Tryz.prog 42 #[.agg (aP p E ec N nc),.int .i64 i,.agg (aE x A ca B cb)] w1 (eV w1 o)):
 Calls Tryz.prog 14 #[.agg (aP p E ec N nc),.int .i64 i,.agg (aE x A ca B cb)] w (aZ w o):=by
 have HF:=Hd fun w0 h=>lA (w:=w) (w0:=w0) (p:=p) (E:=E) (ec:=ec) (N:=N) (nc:=nc) (x:=x) (A:=A) (ca:=ca) (B:=B) (cb:=cb) (T:=25) (U:=35) (V:=38) h;have Ab:=Hd Ak;clear Ak;unfold aP aE at HF Ab ⊢;unfold eV at Ab;generalize p.ns.length=pn at *
 go_enter Tryz.func14,Tryz.ntmps14
 go_upto_region 1 with(fail)
 generalize Af:((w.alloc _).alloc _).alloc _=w0;obtain⟨Ad,Aq,hp,hx,hR⟩:=HF.o w0 Af;have Am:=Hd Ad;have HR:=Hd hR;have p0:=hp w0 (Yg _ _) 0;have p1:=hp w0 (Yg _ _) 1;obtain⟨q0,q1,q2,q3,q4,q5⟩:=Sx (hx w0 (Yg _ _));simp only [Ya,Yb,Yc] at p0 p1 q0 q1 q2 q3 q4 q5;have Ah:=Hd (Ab.o w0 Ad);clear Af Ad Aq hp hx hR HF Ab;have hd:decide ((i:Int)<0)=false:=Zy (by omega);have As:decide ((pn:Int)<=(i:Int))=false:=Zy (by omega)
 go_wp2_with fail
 refine Ah.o.mono ?_;rintro e w1 ⟨a,b,c,rfl,hv,Ae⟩;have Ag:=Hd (HR.o.below Ae);have An:=Hd (Am.o.trans (Ae.mono Am.o.size));have HV:=Hd hv;clear Ae hv Ah p0 p1 q0 q1 q2 q3 q4 q5;generalize Aj:o.isSome=os at *;have HS:=Hd Aj;clear Aj;unfold aC
 go_upto_region 4 with(fail)
 generalize Ai:w1.alloc _=w2;obtain⟨Ac,Ao,Ap⟩:=gM Ai;have Aa:=Hd (Ag.o.below Ac);have Al:=Hd (An.o.trans (Ac.mono An.o.size));obtain⟨f0,f1,f2,-,-,-⟩:=Sx Ao.cell;simp only [aC,List.getElem?_toArray,Yz,Zb] at f0 f1 f2;have hn:w1.heap.size≠w.heap.size+1+1:=by have:=Ag.o.lt;omega
 clear Ai Ac Ao Ap
 cases os with
 | false=>
  have HO:=Hd (show o=none by have:=HS.o;cases o with | none=>rfl | some r=>cases this)
  go_upto_region 5 with(fail)
  go_wp2_with (refine Zu rfl _ _ _ rfl (w.heap.size+1+1) _ rfl rfl _ _ Aa.o bM rfl (by simp [Value.oneCell']) ?_)
  exact Zt (aL (p:=6) (u:=7) rfl _ _ (w.heap.size+1+1) 0 0 0 rfl (Aa.o.set _ _ _)) rfl ⟨by rw [HO.o];rfl,Xb Al.o (by omega) _⟩
 | true=>
  have HO:=Hd (show o=some (a,b,c) by have:=HS.o;cases h:o with | none=>rw [h] at this;cases this | some r=>rw [HV.o r h])
  go_upto_region 6 with(fail)
  go_wp2_with (refine Zu rfl _ _ _ rfl (w.heap.size+1+1) _ rfl rfl _ _ Aa.o bM rfl (by simp [Value.oneCell']) ?_)
  exact Zt (aL (p:=6) (u:=7) rfl _ _ (w.heap.size+1+1) a b c rfl (Aa.o.set _ _ _)) rfl ⟨by rw [HO.o];rfl,Xb Al.o (by omega) _⟩
end
section
open Go.RowKit Go.Sort Go.BigFrame
theorem aCj(p:Pg) (E:Option Addr) (ec:Nat) (N:Option Addr) (nc:Nat) (i:Nat) (x:Ex) (A:Option Addr) (ca:Nat) (B:Option Addr) (cb:Nat) (w:World) (hr:aJ w x A B) (m:Nat) (Ao:x.subs.length=m) (hm:m<=1000000) (l:List (Option T3)) (Br:l.length=m) (oo:Option (List T3)) (Ay:bK l=oo)
 (Al:∀ k,k<m->∀ A' As B' Aq w1,Below w.heap.size w w1->aJ w (aU x k) A' B'->Calls Tryz.prog 14 #[.agg (aP p E ec N nc),.int .i64 i,.agg (aE (aU x k) A' As B' Aq)] w1 (aZ w1 (l[k]?.getD none))):
 Calls Tryz.prog 63 #[.agg (aP p E ec N nc),.int .i64 i,.agg (aE x A ca B cb)] w (iO w oo):=by
 have HF:=Hd fun w0 h=>aNe (w:=w) (w0:=w0) (p:=p) (E:=E) (ec:=ec) (N:=N) (nc:=nc) (x:=x) (A:=A) (ca:=ca) (B:=B) (cb:=cb) h;have Ba:=Hd fun k (Ca:k<x.subs.length)=>hr.sub Ca;have Ab:=Hd Al;have Be:=Hd Ay;have Bj:=Hd Br;have Cc:=Hd fun k ts (hk:k<l.length) (h:bK (l.take k)=some ts) a (ha:l[k]?.getD none=some a)=>wT hk h ha;have Cg:=Hd fun k (hk:k<l.length) (h:l[k]?.getD none=none)=>tK hk h;have Ar:=Hd (show l.take m=l from Yx (by omega));have Ah:=Hd (show bK (l.take 0)=some [] from rfl);obtain⟨i0,z0,Cf,Cj,Ch,Bw,Ci⟩:=nO rW;rw [Ao] at Ba;clear hr Al Ay Br;unfold aP at HF Ab ⊢;unfold aE at HF Ab ⊢;rw [Ao] at HF ⊢;unfold aZ at Ab;generalize p.ns.length=pn at *;generalize p.es.length=pe at *;clear Ao
 go_enter Tryz.func63,Tryz.ntmps63
 go_upto_region 1 with(fail)
 generalize Ax:(w.alloc _).alloc _=w0;obtain⟨Bq,Cd,hp,hx⟩:=HF.o w0 Ax;have Bg:=Hd Bq;have HP:=Hd hp;have HX:=Hd hx;have Bo:=World.ownsRow_lit (base:=w0.heap.size) (e:=38) (size:=3) w0 #[] 0 (Yh _) (by decide) rfl;have Bk:=Hd Bo;have Bi:=Hd ((Yg w0.heap.size w0).alloc (Yh _) (.cells #[] 38));clear Ax Bq Cd hp hx HF Bo
 go_upto_region 2 with(fail)
 generalize w0.alloc _=wN at *
 go_wp2_with fail
 go_loopw [8,9] (fun v i wr=>∃ (k:Nat) (ts:List T3),k<=m/\i=.int .i64 k/\bK (l.take k)=some ts/\wr.ownsRow w0.heap.size 38 3 v k (fJ ts)/\Below w0.heap.size w0 wr) (fun _ i _=>m-(intOf i).toNat)
 case atStart=>exact⟨0,[],Yq _,rfl,Ah.o,Bk.o,Bi.o⟩
 case round=>
  obtain⟨k,ts,hk,rfl,An,Am,Af⟩:=hrel;have Bn:=Hd An;have Ak:=Hd Am;have Az:=Hd Af;have Ap:=Bg.o.trans (Af.mono Bg.o.size);have Aj:=Hd Ap;have p0:=HP.o wr Af 0;have p1:=HP.o wr Af 1;have q5:=HX.o wr Af 5;simp only [Ya,Yb,Yc] at p0 p1 q5;clear An Am Bk Bi
  by_cases Ag:k<m
  . obtain⟨b,Cl,rfl,hb,Bf⟩:=Ba.o k Ag;obtain⟨A',As,B',Aq,Bm,Bb⟩:=Bf k Ag;obtain⟨c0,c1,c2,c3,c4,c5⟩:=eG (jH Bm hb fun p hp=>Ap.cell hp);have Bc:=Hd fun w1 (Bu:Below w.heap.size w w1)=>Ab.o k Ag A' As B' Aq w1 Bu Bb;have Ce:=Hd (Cg.o k (by rw [Bj.o];exact Ag));have Bx:=Hd (Cc.o k ts (by rw [Bj.o];exact Ag) Bn.o);clear Bf Bm Bb Af Ap;generalize aU x k=y at *;generalize l[k]?.getD none=o at *;generalize Bh:(o.getD (0,0,0)).1=oa at *;generalize Bd:(o.getD (0,0,0)).2.1=ob at *;generalize Bt:(o.getD (0,0,0)).2.2=oc at *;generalize Bl:o.isSome=os at *;have HV:=Hd (show ∀ r,o=some r->r=(oa,ob,oc) from fun r h=>by subst h Bh Bd Bt;rfl);have HS:=Hd Bl;clear Bh Bd Bt Bl;unfold aC at Bc
    go_upto_region 5 with(fail)
    refine lO (l:=[_,_,_,_,_,_,_,_,_,_,_,_,_,_]) 11 12 _ _ (d:=10) (tx:=29) (T:=38) (zc:=aC 0 0 0) (by kernel_rfl) rfl rfl (by kernel_rfl) rfl (by simp) (fun a W=>by rfl) rfl (by kernel_rfl) ?_
    repeat
     first
     | refine lW rfl ?_
     | (apply lV rfl rfl (by simp)
        case h1=>
         intro wb hb;have Aa:=cI hb;have l0:=fun d os=>Zr ((Aa.cell (Yi _ _ p0)).trans p0) d os;have l1:=fun d os=>Zr ((Aa.cell (Yi _ _ p1)).trans p1) d os;have l2:=fun d os=>Zr ((Aa.cell (Yi _ _ q5)).trans q5) d os;have m0:=fun d os=>Zr ((Aa.cell (Yi _ _ c0)).trans c0) d os;have m1:=fun d os=>Zr ((Aa.cell (Yi _ _ c1)).trans c1) d os;have m2:=fun d os=>Zr ((Aa.cell (Yi _ _ c2)).trans c2) d os;have m3:=fun d os=>Zr ((Aa.cell (Yi _ _ c3)).trans c3) d os;have m4:=fun d os=>Zr ((Aa.cell (Yi _ _ c4)).trans c4) d os;have m5:=fun d os=>Zr ((Aa.cell (Yi _ _ c5)).trans c5) d os;have h3:=Aj.o.trans (Aa.mono Aj.o.size);have cA:=fun d os=>Zh (Bc.o (grow (redrawn wb d) os) (h3.trans ((Zs wb d os).mono h3.size)));clear h3 Aa
         go_big_quiet_step (with_reducible exact cA _ _)
         refine Xf ?_;simp only [List.getElem?_toArray,Zb,Yz];exact rfl
        simp only [Act.put,Yd,Ye,Yf])
    refine⟨aC oa ob oc,rfl,rfl,by simp [aC,Value.oneCell'],fun W g hW hg hz=>?_⟩;have Au:=Hd (cI hW);have HZ:=Hd (show F3 38 W g oa ob oc from hz);have HG:=Hd hg;clear hW hg hz p0 p1 q5 c0 c1 c2 c3 c4 c5
    show Exit.then _ _ .normal _ W
    simp only [Act.put,Yd,Ye,Yf];have Ai:=Hd (fK Ak.o (Au.o));have Ae:=Hd (Az.o.trans (Au.o.mono Az.o.size))
    cases os with
    | false=>
     have HO:=Hd (show oo=none by rw [<- Be.o];exact Ce.o (by have:=HS.o;cases o with | none=>rfl | some r=>cases this))
     go_wp2_with fail
     try go_ret2
     exact⟨none,0,0,[],by rw [HO.o];rfl,fun r h=>(by rw [HO.o] at h;cases h),Aj.o.trans (Au.o.mono Aj.o.size)⟩
    | true=>
     have HO:=Hd (show o=some (oa,ob,oc) by have:=HS.o;cases h:o with | none=>rw [h] at this;cases this | some r=>rw [HV.o r h]);have Bv:=Hd (Bx.o _ HO.o);obtain⟨f0,f1,f2,-,-,-⟩:=Sx HZ.o.cell;simp only [aC,List.getElem?_toArray,Yz,Zb] at f0 f1 f2;have Cm:=Ae.o.size
     go_wp2_with (at_builtin;refine wpList_append_own_at _ rfl _ _ 99 rfl w0.heap.size 38 i0 z0 3 24 Tryz.underlying99 Cf Cj Ch Bw Ci (by decide) u8 k (fJ ts) rfl (fK Ai.o ((Yg W.heap.size W).alloc (Yh _) (.cells #[.int .i64 oa,.int .i64 ob,.int .i64 oc] 38))) ⟨W.heap.size,0,none⟩ 1 1 [.int .i64 oa,.int .i64 ob,.int .i64 oc] rfl rfl (fun j u hu=>World.news_of_block (Zw _ _) j u hu) (by simp [Value.oneCell']) (by unfold maxLen;omega) (by omega) (by simp;omega) ?_;intro v' w9 Ac Ad Aw Av;have Cb:=Hd Ac;have Ck:=Hd (show Below w0.heap.size w0 w9 from(Ae.o.alloc Ae.o.size _).grown Ad (by simp;omega) (fun j hj=>(Ai.o.lt j hj).1));clear Ac Ad Aw Av)
     go_roundw
     case rel=>exact⟨k+1,ts++[(oa,ob,oc)],by omega,by go_num,Bv.o,by rw [rU,rV];exact Cb.o,Ck.o⟩
     case measure=>simp [intOf];omega
  . obtain rfl:k=m:=by omega
    have HO:=Hd (show oo=some ts by rw [<- Be.o,<- Ar.o];exact Bn.o);obtain⟨S,c,rfl,Bp⟩:=aM.of_own Ak.o (by omega);have Bz:=Hd Bp;clear Bp
    go_wp2_with fail
    try go_ret2
    exact⟨S,k,c,ts,by rw [HO.o];rfl,fun r h=>(by rw [HO.o] at h;injection h with h;exact⟨h.symm,Bz.o⟩),Aj.o⟩
end
section
open Go.RowKit Go.Sort Go.BigFrame
theorem aRv(p:Pg) (E:Option Addr) (ec:Nat) (N:Option Addr) (nc:Nat) (i:Nat) (x:Ex) (A:Option Addr) (ca:Nat) (B:Option Addr) (cb:Nat) (w:World) (h:cW w p E N) (hr:aJ w x A B) (hk:x.k=1\/x.k=2\/x.k=4) (hs:bG x<=1000000) (Ae:∀ q∈bI x,cL q) (o:Option T3) (ho:(dL p.es x).map (·.2)=o):
 Calls Tryz.prog 42 #[.agg (aP p E ec N nc),.int .i64 i,.agg (aE x A ca B cb)] w (eV w o):=by
 have HF:=Hd fun w0 h=>lA (w:=w) (w0:=w0) (p:=p) (E:=E) (ec:=ec) (N:=N) (nc:=nc) (x:=x) (A:=A) (ca:=ca) (B:=B) (cb:=cb) (T:=25) (U:=35) (V:=38) h;have HC:=Hd fun w1 (hb:Below w.heap.size w w1)=>aBg E p.es.length ec p.es x A ca B cb w1 (h.1.below hb) (hr.below hb) hs Ae;unfold jI at HC;generalize dL p.es x=oc at *;clear h hr hs Ae;unfold aP aE at HF ⊢;unfold aE at HC;generalize p.es.length=pe at *;generalize p.ns.length=pn at *;rcases hk with hk | hk | hk
 all_goals
  rw [hk] at HF HC ⊢
  go_enter Tryz.func42,Tryz.ntmps42
  go_upto_region 1 with(fail)
  generalize Ad:((w.alloc _).alloc _).alloc _=w0;obtain⟨Ac,Ao,hp,hx,hR⟩:=HF.o w0 Ad;have Ag:=Hd Ac;have HR:=Hd hR;have HP:=Hd hp;have HX:=Hd hx;have p0:=hp w0 (Yg _ _) 0;have p1:=hp w0 (Yg _ _) 1;obtain⟨q0,q1,q2,q3,q4,q5⟩:=Sx (hx w0 (Yg _ _));simp only [Ya,Yb,Yc] at p0 p1 q0 q1 q2 q3 q4 q5;clear Ad Ao hp hx hR HF;have Ai:=Hd (HC.o w0 Ac);clear Ac HC
  go_wp2_with fail
  refine Ai.o.mono ?_;rintro e w1 ⟨S,n,c,a,b,d,vs,rfl,-,-,-,⟨hv,-⟩,Aa⟩;have Ak:=Hd (HR.o.below Aa);have Am:=Hd (Ag.o.trans (Aa.mono Ag.o.size));have HV:=Hd hv;clear Aa hv Ai p0 p1 q0 q1 q2 q3 q4 q5;generalize Ah:oc.isSome=os at *;have HS:=Hd Ah;clear Ah;unfold aC
  go_upto_region 6 with(fail)
  generalize Al:w1.alloc _=w2;obtain⟨Ab,Aj,An⟩:=gM Al;have Af:=Hd (Ak.o.below Ab);have Ap:=Hd (Am.o.trans (Ab.mono Am.o.size));obtain⟨f0,f1,f2,-,-,-⟩:=Sx Aj.cell;simp only [aC,List.getElem?_toArray,Yz,Zb] at f0 f1 f2;have hn:w1.heap.size≠w.heap.size+1+1:=by have:=Ak.o.lt;omega
  clear Al Ab Aj An
  go_wp2_with (refine Zu rfl _ _ _ rfl (w.heap.size+1+1) _ rfl rfl _ _ Af.o bM rfl (by simp [Value.oneCell']) ?_)
  exact Zt (aL (p:=6) (u:=7) rfl _ _ (w.heap.size+1+1) a b d rfl (Af.o.set _ _ _)) rfl ⟨a,b,d,by rw [<- ho,Option.isSome_map,HS.o];rfl,fun t ht=>(by
   rw [<- ho] at ht;obtain⟨r,h1,rfl⟩:=Option.map_eq_some_iff.1 ht;rw [HV.o r h1]),Xb Ap.o (by omega) _⟩
theorem aRw(p:Pg) (E:Option Addr) (ec:Nat) (N:Option Addr) (nc:Nat) (i:Nat) (x:Ex) (A:Option Addr) (ca:Nat) (B:Option Addr) (cb:Nat) (w:World) (hk:x.k=17) (o:Option T3) (ho:none=o):
 Calls Tryz.prog 42 #[.agg (aP p E ec N nc),.int .i64 i,.agg (aE x A ca B cb)] w (eV w o):=by
 subst ho;have HF:=Hd fun w0 h=>lA (w:=w) (w0:=w0) (p:=p) (E:=E) (ec:=ec) (N:=N) (nc:=nc) (x:=x) (A:=A) (ca:=ca) (B:=B) (cb:=cb) (T:=25) (U:=35) (V:=38) h;unfold aP aE at HF ⊢;generalize p.es.length=pe at *;generalize p.ns.length=pn at *;rw [hk] at HF ⊢
 go_enter Tryz.func42,Tryz.ntmps42
 go_upto_region 1 with(fail)
 generalize Aa:((w.alloc _).alloc _).alloc _=w0;obtain⟨Ab,Ac,hp,hx,hR⟩:=HF.o w0 Aa;have Ad:=Hd Ab;have HR:=Hd hR;have HP:=Hd hp;have HX:=Hd hx;have p0:=hp w0 (Yg _ _) 0;have p1:=hp w0 (Yg _ _) 1;obtain⟨q0,q1,q2,q3,q4,q5⟩:=Sx (hx w0 (Yg _ _));simp only [Ya,Yb,Yc] at p0 p1 q0 q1 q2 q3 q4 q5;clear Aa Ac hp hx hR HF;clear Ab
 go_upto_region 15 with(fail)
 go_wp2_with (refine Zu rfl _ _ _ rfl (w.heap.size+1+1) _ rfl rfl _ _ HR.o bM rfl (by simp [Value.oneCell']) ?_)
 exact Zt (aL (p:=6) (u:=7) rfl _ _ (w.heap.size+1+1) 0 0 0 rfl (HR.o.set _ _ _)) rfl ⟨0,0,0,rfl,fun t ht=>(by cases ht),Xb Ad.o (by omega) _⟩
theorem aRx(p:Pg) (E:Option Addr) (ec:Nat) (N:Option Addr) (nc:Nat) (i:Nat) (x:Ex) (A:Option Addr) (ca:Nat) (B:Option Addr) (cb:Nat) (w:World) (hk:(x.k=5\/x.k=6\/x.k=7\/x.k=14\/x.k=15\/x.k=16)\/(9<=x.k/\x.k<=13)) (os:Option (List T3)) (o:Option T3)
 (Ac:∀ w1,Below w.heap.size w w1->Calls Tryz.prog 63 #[.agg (aP p E ec N nc),.int .i64 i,.agg (aE x A ca B cb)] w1 (iO w1 os))
 (Ad:os=none->o=none)
 (Ab:9<=x.k->x.k<=13->∀ ts,os=some ts->∀ S n c w1,Below w.heap.size w w1->aM w1 S n ts->Calls Tryz.prog 81 #[.agg (aP p E ec N nc),.int .i64 i,.agg (aE x A ca B cb),.slice S n c] w1 (eV w1 o))
 (Aa:(x.k=5\/x.k=6\/x.k=7\/x.k=14\/x.k=15\/x.k=16)->∀ ts,os=some ts->∀ S n c w1,Below w.heap.size w w1->aM w1 S n ts->Calls Tryz.prog 82 #[.agg (aE x A ca B cb),.slice S n c] w1 (eV w1 o)):
 Calls Tryz.prog 42 #[.agg (aP p E ec N nc),.int .i64 i,.agg (aE x A ca B cb)] w (eV w o):=by
 have HF:=Hd fun w0 h=>lA (w:=w) (w0:=w0) (p:=p) (E:=E) (ec:=ec) (N:=N) (nc:=nc) (x:=x) (A:=A) (ca:=ca) (B:=B) (cb:=cb) (T:=25) (U:=35) (V:=38) h;have HS:=Hd Ac;have Aj:=Hd Ab;have Ai:=Hd Aa;have Aw:=Hd Ad;clear Ac Ab Aa Ad;unfold aP aE at HF ⊢;unfold aP aE at HS Aj;unfold aE at Ai;unfold iO at HS;unfold eV at Aj Ai;generalize p.es.length=pe at *;generalize p.ns.length=pn at *;generalize x.k=k at *;have HK:=Hd hk;have b1:(k==1)=false:=Xa.2 (by omega);have b2:(k==2)=false:=Xa.2 (by omega);have b4:(k==4)=false:=Xa.2 (by omega);have b3:(k==3)=false:=Xa.2 (by omega);have b8:(k==8)=false:=Xa.2 (by omega);have Ay:(k==17)=false:=Xa.2 (by omega);clear hk
 go_enter Tryz.func42,Tryz.ntmps42
 go_upto_region 1 with(fail)
 generalize Ap:((w.alloc _).alloc _).alloc _=w0;obtain⟨An,Ax,hp,hx,hR⟩:=HF.o w0 Ap;have Ar:=Hd An;have HR:=Hd hR;have HP:=Hd hp;have HX:=Hd hx;have p0:=hp w0 (Yg _ _) 0;have p1:=hp w0 (Yg _ _) 1;obtain⟨q0,q1,q2,q3,q4,q5⟩:=Sx (hx w0 (Yg _ _));simp only [Ya,Yb,Yc] at p0 p1 q0 q1 q2 q3 q4 q5;clear Ap Ax hp hx hR HF;have Av:=Hd (HS.o w0 An);clear An HS
 go_wp2_with fail
 refine Av.o.mono ?_;rintro e w1 ⟨S,n,c,ts,rfl,hv,Ag⟩;have Al:=Hd (HR.o.below Ag);have Af:=Hd (Ar.o.trans (Ag.mono Ar.o.size));have HV:=Hd hv;obtain⟨r0,r1,r2,r3,r4,r5⟩:=Sx (HX.o w1 Ag);have s0:=HP.o w1 Ag 0;have s1:=HP.o w1 Ag 1;simp only [Ya,Yb,Yc] at r0 r1 r2 r3 r4 r5 s0 s1;clear Ag hv Av p0 p1 q0 q1 q2 q3 q4 q5 HX HP b1 b2 b4 b3 b8 Ay
 cases os with
 | none=>
  obtain rfl:=Aw.o rfl
  go_upto_region 18 with(fail)
  go_wp2_with (refine Zu rfl _ _ _ rfl (w.heap.size+1+1) _ rfl rfl _ _ Al.o bM rfl (by simp [Value.oneCell']) ?_)
  exact Zt (aL (p:=6) (u:=7) rfl _ _ (w.heap.size+1+1) 0 0 0 rfl (Al.o.set _ _ _)) rfl ⟨0,0,0,rfl,fun t ht=>(by cases ht),Xb Af.o (by omega) _⟩
 | some us=>
  obtain⟨he,Ak⟩:=HV.o us rfl;subst he;rcases HK.o with hk | ⟨hk1,hk2⟩
  . have As:=Hd (Ai.o hk us rfl S n c w1 Af.o Ak)
    have Aq:(decide ((9:Int)<=k) && decide (k<=13))=false:=by
     rcases hk with rfl | rfl | rfl | rfl | rfl | rfl <;> rfl
    have Az:=Hd Aq;clear Aq Ai Aj Ak;rcases hk with rfl | rfl | rfl | rfl | rfl | rfl
    all_goals
     go_wp2_with fail
     refine As.o.mono ?_;rintro e w2 ⟨a,b,d,rfl,hv,Ae⟩;have Ah:=Hd (Al.o.below Ae);have Ao:=Hd (Af.o.trans (Ae.mono Af.o.size));have Am:=Hd hv;clear Ae hv As r0 r1 r2 r3 r4 r5 s0 s1;unfold aC
     go_wp2_with (refine Zu rfl _ _ _ rfl (w.heap.size+1+1) _ rfl rfl _ _ Ah.o bM rfl (by simp [Value.oneCell']) ?_)
     exact Zt (aL (p:=6) (u:=7) rfl _ _ (w.heap.size+1+1) a b d rfl (Ah.o.set _ _ _)) rfl ⟨a,b,d,rfl,Am.o,Xb Ao.o (by omega) _⟩
  . have Au:=Hd (Aj.o hk1 hk2 us rfl S n c w1 Af.o Ak);have d1:decide ((9:Int)<=k)=true:=Zx hk1;have d2:decide (k<=(13:Int))=true:=Zx hk2;clear Ai Aj Ak hk1 hk2
    go_wp2_with fail
    refine Au.o.mono ?_;rintro e w2 ⟨a,b,d,rfl,hv,Ae⟩;have Ah:=Hd (Al.o.below Ae);have Ao:=Hd (Af.o.trans (Ae.mono Af.o.size));have Am:=Hd hv;clear Ae hv Au r0 r1 r2 r3 r4 r5 s0 s1;unfold aC
    go_wp2_with (refine Zu rfl _ _ _ rfl (w.heap.size+1+1) _ rfl rfl _ _ Ah.o bM rfl (by simp [Value.oneCell']) ?_)
    exact Zt (aL (p:=6) (u:=7) rfl _ _ (w.heap.size+1+1) a b d rfl (Ah.o.set _ _ _)) rfl ⟨a,b,d,rfl,Am.o,Xb Ao.o (by omega) _⟩
end
section
open Go.RowKit Go.Sort Go.BigFrame
theorem aRy(p:Pg) (E:Option Addr) (ec:Nat) (N:Option Addr) (nc:Nat) (i:Nat) (x:Ex) (A:Option Addr) (ca:Nat) (B:Option Addr) (cb:Nat) (w:World) (h:cW w p E N) (hi:i<p.ns.length) (Ao:(aA p i).all.length<=1000) (hk:x.k=3) (o:Option T3) (ho:(aW (aA p i) x.s).map aO=o):
 Calls Tryz.prog 42 #[.agg (aP p E ec N nc),.int .i64 i,.agg (aE x A ca B cb)] w (eV w o):=by
 have HF:=Hd fun w0 h=>lA (w:=w) (w0:=w0) (p:=p) (E:=E) (ec:=ec) (N:=N) (nc:=nc) (x:=x) (A:=A) (ca:=ca) (B:=B) (cb:=cb) (T:=25) (U:=35) (V:=38) h;obtain⟨nb,no,A1,c1,A2,c2,A3,c3,A4,c4,rfl,Ac,Ah,d0,d1,d2,d3,d4⟩:=iN h.2 hi;have Ab:=Hd fun w1 (hb:Below w.heap.size w w1)=>oY (aA p i) A1 c1 A2 c2 A3 c3 A4 c4 x.s w1 (Ah.below hb) Ao;unfold mB nG at Ab
 have HO:=Hd (show ∀ dd,(aW (aA p i) x.s).getD default=dd->(aW (aA p i) x.s).isSome=o.isSome/\∀ t,o=some t->t=(dd.k,dd.e,dd.l) from fun dd hd=>by
  subst hd ho
  cases aW (aA p i) x.s with
  | none=>exact⟨rfl,fun t h=>(by cases h)⟩
  | some d=>exact⟨rfl,fun t h=>(by injection h with h;exact h.symm)⟩)
 unfold aA at Ab HO;generalize Al:aW (p.ns[i]?.getD default) x.s=od at *;generalize Ak:p.ns[i]?.getD default=nd at *;unfold bL at Ab;unfold aP aE at HF ⊢;rw [hk] at HF ⊢
 have HD:=Hd (show ∀ w1,Below w.heap.size w w1->w1.cell? ⟨nb,no+i*5,none⟩=some (.string nd.nm)/\w1.cell? ⟨nb,no+i*5+1,none⟩=some (.slice A1 nd.ins.length c1)/\w1.cell? ⟨nb,no+i*5+2,none⟩=some (.slice A2 nd.outs.length c2)/\w1.cell? ⟨nb,no+i*5+3,none⟩=some (.slice A3 nd.vars.length c3)/\w1.cell? ⟨nb,no+i*5+4,none⟩=some (.slice A4 nd.eqs.length c4) from
  fun w1 hb=>⟨(hb.cell (p:=⟨nb,no+i*5,none⟩) Ac).trans d0,(hb.cell (p:=⟨nb,no+i*5+1,none⟩) Ac).trans d1,(hb.cell (p:=⟨nb,no+i*5+2,none⟩) Ac).trans d2,(hb.cell (p:=⟨nb,no+i*5+3,none⟩) Ac).trans d3,(hb.cell (p:=⟨nb,no+i*5+4,none⟩) Ac).trans d4⟩)
 clear d0 d1 d2 d3 d4 Ah hk h;generalize Aq:od.getD default=dd at *;generalize Ap:od.isSome=ds at *;unfold bC at Ab;have Ag:=Hd (HO.o dd rfl);clear Al Ak HO;generalize p.es.length=pe at *;generalize p.ns.length=pn at *
 go_enter Tryz.func42,Tryz.ntmps42
 go_upto_region 1 with(fail)
 generalize Af:((w.alloc _).alloc _).alloc _=w0;obtain⟨Ae,Am,hp,hx,hR⟩:=HF.o w0 Af;have Ad:=Hd Ae;have HR:=Hd hR;have HP:=Hd hp;have HX:=Hd hx;have p0:=hp w0 (Yg _ _) 0;have p1:=hp w0 (Yg _ _) 1;obtain⟨q0,q1,q2,q3,q4,q5⟩:=Sx (hx w0 (Yg _ _));simp only [Ya,Yb,Yc] at p0 p1 q0 q1 q2 q3 q4 q5;clear Af Am hp hx hR HF;obtain⟨d0,d1,d2,d3,d4⟩:=HD.o w0 Ae
 go_upto_region 8 with(fail)
 refine lO (l:=[_,_,_,_,_,_,_,_,_,_,_,_,_,_]) 11 12 _ _ (d:=11) (tx:=47) (T:=58) (zc:=pT) (by kernel_rfl) rfl rfl (by kernel_rfl) rfl (by simp) (fun a W=>by rfl) rfl (by kernel_rfl) ?_
 repeat
  first
  | refine lW rfl ?_
  | (apply lV rfl rfl (by simp)
     case h1=>
      intro wb hb;have Aa:=cI hb;have l0:=fun d os=>Zr ((Aa.cell (Yi _ _ p1)).trans p1) d os;have l1:=fun d os=>Zr ((Aa.cell (Yi _ _ q2)).trans q2) d os;have m0:=fun d os=>Zr ((Aa.cell (Yi _ _ d0)).trans d0) d os;have m1:=fun d os=>Zr ((Aa.cell (Yi _ _ d1)).trans d1) d os;have m2:=fun d os=>Zr ((Aa.cell (Yi _ _ d2)).trans d2) d os;have m3:=fun d os=>Zr ((Aa.cell (Yi _ _ d3)).trans d3) d os;have m4:=fun d os=>Zr ((Aa.cell (Yi _ _ d4)).trans d4) d os;have h3:=Ad.o.trans (Aa.mono Ad.o.size);have cA:=fun d os=>Zh (Ab.o (grow (redrawn wb d) os) (h3.trans ((Zs wb d os).mono h3.size)));clear h3 Aa
      go_big_quiet_step (with_reducible exact cA _ _)
      refine Xf ?_;simp only [List.getElem?_toArray,Zb,Yz];exact rfl
     simp only [Act.put,Yd,Ye,Yf])
 refine⟨bC dd,rfl,rfl,by simp [bC,Value.oneCell'],fun W g hW hg hz=>?_⟩;have Ai:=Hd (cI hW);have k1:=gV (d:=dd) hz 1;have k2:=gV (d:=dd) hz 2;have k3:=gV (d:=dd) hz 3;simp only [bC,List.getElem?_toArray,Yz,Zb] at k1 k2 k3;have Aj:=Hd (HR.o.below Ai.o);have An:=Hd (Ad.o.trans (Ai.o.mono Ad.o.size));have hn:g≠w.heap.size+1+1:=by have:=HR.o.lt;omega
 clear hW hg hz p0 p1 q0 q1 q2 q3 q4 q5 d0 d1 d2 d3 d4 Ae Ab HD
 show Exit.then _ _ .normal _ W
 simp only [Act.put,Yd,Ye,Yf]
 go_wp2_with (refine Zu rfl _ _ _ rfl (w.heap.size+1+1) _ rfl rfl _ _ Aj.o bM rfl (by simp [Value.oneCell']) ?_)
 exact Zt (aL (p:=6) (u:=7) rfl _ _ (w.heap.size+1+1) dd.k dd.e dd.l rfl (Aj.o.set _ _ _)) rfl ⟨dd.k,dd.e,dd.l,by rw [<- Ag.o.1];rfl,Ag.o.2,Xb An.o (by omega) _⟩
end
section
open Go.RowKit Go.Sort
def rC(oc:Option (List Int × T3)) (ou:Option T3):Option T3:=match oc with | none=>none | some c=>match ou with | none=>none | some u=>if c.2=u then some u else none
def aFu(p:Pg) (E:Option Addr) (ec:Nat) (N:Option Addr) (nc:Nat) (i:Nat):Prop:=
 ∀ (x:Ex) (A:Option Addr) (ca:Nat) (B:Option Addr) (cb:Nat) (w:World),cW w p E N->aJ w x A B->x.k=8->2<=x.subs.length->bG (aU x 0)<=1000000->(∀ q∈bI (aU x 0),cL q)->∀ ou:Option T3,
  (∀ A' Ab B' Aa w1,Below w.heap.size w w1->aJ w (aU x 1) A' B'->Calls Tryz.prog 14 #[.agg (aP p E ec N nc),.int .i64 i,.agg (aE (aU x 1) A' Ab B' Aa)] w1 (aZ w1 ou)) ->
  Calls Tryz.prog 42 #[.agg (aP p E ec N nc),.int .i64 i,.agg (aE x A ca B cb)] w (eV w (rC (dL p.es (aU x 0)) ou))
def jE(x:Ex):Prop:=bG x<=1000000/\∀ q∈bI x,cL q/\bA q=true
theorem wD:∀ {l:List Ex}{i:Nat}{q:Ex},i<l.length->q∈bI (l[i]?.getD default)->q∈dR l
 | [],i,q,h,_=>absurd h (by simp)
 | x::l,0,q,_,hq=>by
  simp only [Yz,Yt] at hq;simp only [dR];exact List.mem_append_left _ hq
 | x::l,i+1,q,h,hq=>by
  simp only [Zb] at hq;simp only [dR];exact List.mem_append_right _ (wD (by simpa using h) hq)
theorem jE.sub{x:Ex}(h:jE x){k:Nat}(hk:k<x.subs.length):jE (aU x k):=by
 have hm:aU x k∈x.subs:=by unfold aU;rw [Yk hk];exact Zg _
 refine⟨?_,fun q hq=>h.2 q ?_⟩
 . have h1:=h.1;have h2:=aBu hm;rw [kG] at h1;omega
 . rw [pZ];exact List.mem_cons_of_mem _ (wD hk hq)
theorem jE.self{x:Ex}(h:jE x):cL x/\bA x=true:=h.2 x (by rw [pZ];exact List.mem_cons_self)
theorem rX{p:Pg}{i:Nat}{x:Ex}{k:Nat}(hk:k<x.subs.length):(x.subs.map (cG p i))[k]?.getD none=cG p i (aU x k):=by
 unfold aU;rw [List.getElem?_map,Yk hk];rfl
theorem oX{x:Ex}(h:bA x=true):(dA x).1<=x.subs.length:=by
 unfold bA at h;simp only [Ys,decide_eq_true_eq] at h;exact h.1.1.2
theorem aCk{x:Ex}(h:bA x=true):1<=x.k/\x.k<=17:=by
 unfold bA at h;simp only [Ys,decide_eq_true_eq] at h;exact⟨h.1.1.1.1.1.1.1,h.1.1.1.1.1.1.2⟩
theorem wE{x:Ex}(h:bA x=true):dS x=true:=by
 unfold bA at h;simp only [Ys] at h;exact h.1.1.1.2
theorem qG{x:Ex}(h:bA x=true) (hk:x.k=13):x.n=0\/x.n=1:=by
 unfold bA at h;simp only [Ys] at h;exact aAy h.1.1.1.1.1.2 hk
theorem aBh{x:Ex}(h:bA x=true) (hk:x.k=5\/x.k=6\/x.k=7\/x.k=14\/x.k=15\/x.k=16):mE x.k<=x.subs.length:=by
 have h1:=oX h;rcases hk with hk | hk | hk | hk | hk | hk <;> (unfold dA at h1;rw [hk] at h1 ⊢;simp [mE] at h1 ⊢;omega)
theorem aCl{x:Ex}(h:bA x=true) (Aa:9<=x.k) (Ab:x.k<=13):oM x.k<=x.subs.length/\(x.k=11->0<x.arms.length):=by
 have h1:=oX h;have h2:=wE h;rcases(show x.k=9\/x.k=10\/x.k=11\/x.k=12\/x.k=13 by omega) with hk | hk | hk | hk | hk <;> (unfold dA at h1;unfold dS at h2;rw [hk] at h1 h2 ⊢;(try simp [oM] at h1 h2 ⊢) <;> (try omega))
theorem aRz{x:Ex}(h:bA x=true) (hk:x.k=8):2<=x.subs.length:=by
 have h1:=oX h;rw [yP hk] at h1
 simp at h1
 omega
theorem rN{p:Pg}{i:Nat}{x:Ex}{l:List (Option T3)}(hk:x.k=1\/x.k=2\/x.k=4):(dL p.es x).map (·.2)=iS p i x l:=by rcases hk with hk | hk | hk <;> (unfold iS;rw [hk];rfl)
theorem aEs{p:Pg}{i:Nat}{x:Ex}{l:List (Option T3)}(hk:x.k=3):(aW (aA p i) x.s).map aO=iS p i x l:=by unfold iS;rw [hk];rfl
theorem aEt{p:Pg}{i:Nat}{x:Ex}{l:List (Option T3)}(hk:x.k=8):iS p i x l=rC (dL p.es (aU x 0)) (l[1]?.getD none):=by
 unfold iS rC;rw [hk];rfl
theorem aEu{p:Pg}{i:Nat}{x:Ex}{l:List (Option T3)}(hk:x.k=17):none=iS p i x l:=by unfold iS;rw [hk];rfl
theorem xJ{p:Pg}{i:Nat}{x:Ex}{l:List (Option T3)}(hk:(x.k=5\/x.k=6\/x.k=7\/x.k=14\/x.k=15\/x.k=16)\/(9<=x.k/\x.k<=13)) (h:bK l=none):iS p i x l=none:=by
 unfold iS;rw [h];rcases(show x.k=5\/x.k=6\/x.k=7\/x.k=14\/x.k=15\/x.k=16\/x.k=9\/x.k=10\/x.k=11\/x.k=12\/x.k=13 by omega) with hk | hk | hk | hk | hk | hk | hk | hk | hk | hk | hk <;> (rw [hk];rfl)
theorem aDr{p:Pg}{i:Nat}{x:Ex}{l:List (Option T3)}{ts:List T3}(Ab:9<=x.k) (Aa:x.k<=13) (h:bK l=some ts):iS p i x l=fO p i x ts:=by
 unfold iS;rw [h];rcases(show x.k=9\/x.k=10\/x.k=11\/x.k=12\/x.k=13 by omega) with hk | hk | hk | hk | hk <;> (rw [hk];rfl)
theorem tL{p:Pg}{i:Nat}{x:Ex}{l:List (Option T3)}{ts:List T3}(hk:x.k=5\/x.k=6\/x.k=7\/x.k=14\/x.k=15\/x.k=16) (h:bK l=some ts):iS p i x l=fW x ts:=by
 unfold iS;rw [h];rcases hk with hk | hk | hk | hk | hk | hk <;> (rw [hk];rfl)
theorem aR0(p:Pg) (E:Option Addr) (ec:Nat) (N:Option Addr) (nc:Nat) (i:Nat) (hi:i<p.ns.length) (Ap:p.ns.length<=9223372036854775807) (Am:(aA p i).all.length<=1000) (Ao:∀ s d,aW (aA p i) s=some d->bH p.es.length d.k d.e d.l=true) (H8:aFu p E ec N nc i):
 ∀ (x:Ex) (A:Option Addr) (ca:Nat) (B:Option Addr) (cb:Nat) (w:World),cW w p E N->aJ w x A B->jE x ->
  Calls Tryz.prog 42 #[.agg (aP p E ec N nc),.int .i64 i,.agg (aE x A ca B cb)] w (eV w (cG p i x)):=by
 refine nV fun x ih A ca B cb w h hr hg=>?_;obtain⟨Aq,Ae⟩:=hg.self;obtain⟨Ai,Aj⟩:=aCk Ae
 have Ag:∀ k,k<x.subs.length->∀ A' Ab B' Aa w1,Below w.heap.size w w1->aJ w1 (aU x k) A' B'->Calls Tryz.prog 14 #[.agg (aP p E ec N nc),.int .i64 i,.agg (aE (aU x k) A' Ab B' Aa)] w1 (aZ w1 (cG p i (aU x k))):=
  fun k hk A' Ab B' Aa w1 hb Af=>aEr p E ec N nc i (aU x k) A' Ab B' Aa w1 hi Ap _ fun w2 Ac=>ih k hk A' Ab B' Aa w2 (h.below (hb.trans (Ac.mono hb.size))) (Af.below Ac) (hg.sub hk)
 have hs:=hr.subs.max
 have Al:x.subs.length<=1000000:=by
  have h1:=tG x.subs;have h2:=kG x;have h3:=hg.1;omega
 rw [kK]
 by_cases hc:x.k=1\/x.k=2\/x.k=4
 . exact aRv p E ec N nc i x A ca B cb w h hr hc hg.1 (fun q hq=>(hg.2 q hq).1) _ (rN hc)
 by_cases h3:x.k=3
 . exact aRy p E ec N nc i x A ca B cb w h hi Am h3 _ (aEs h3)
 by_cases h8:x.k=8
 . have h2:=aRz Ae h8;rw [aEt h8,rX (by omega)];exact H8 x A ca B cb w h hr h8 h2 (hg.sub (by omega)).1 (fun q hq=>((hg.sub (by omega)).2 q hq).1) _ (fun A' Ab B' Aa w1 hb Af=>Ag 1 (by omega) A' Ab B' Aa w1 hb (Af.below hb))
 by_cases An:x.k=17
 . exact aRw p E ec N nc i x A ca B cb w An _ (aEu An)
 have hk:(x.k=5\/x.k=6\/x.k=7\/x.k=14\/x.k=15\/x.k=16)\/(9<=x.k/\x.k<=13):=by omega
 refine aRx p E ec N nc i x A ca B cb w hk (bK (x.subs.map (cG p i))) _ (fun w1 hb=>?_) (fun hn=>xJ hk hn) (fun Ai Aj ts Ah S n c w1 hb Ad=>?_) (fun Ak ts Ah S n c w1 hb Ad=>?_)
 . exact aCj p E ec N nc i x A ca B cb w1 (hr.below hb) x.subs.length rfl Al (x.subs.map (cG p i)) (by simp) _ rfl (fun k hk A' Ab B' Aa w2 Ac Af=>by
    rw [rX hk];exact Ag k hk A' Ab B' Aa w2 (hb.trans (Ac.mono hb.size)) (Af.below Ac))
 . obtain⟨hf,ha⟩:=aCl Ae Ai Aj;rw [aDr Ai Aj Ah];have hn:=oZ Ah;have hl:=Ad.len;rw [List.length_map] at hn;exact aNd p E ec N nc i x A ca B cb S n c ts w1 (h.below hb) (hr.below hb) Ad Ai Aj (by omega) hi Am ha (qG Ae) (Ao x.s)
 . rw [tL Ak Ah];have hn:=oZ Ah;have hl:=Ad.len;rw [List.length_map] at hn;exact aKm x A ca B cb S n c ts w1 Ad Ak (by have:=aBh Ae Ak;omega)
end
end Go.Proofs.YtegjgiofmpolnaaGreat
