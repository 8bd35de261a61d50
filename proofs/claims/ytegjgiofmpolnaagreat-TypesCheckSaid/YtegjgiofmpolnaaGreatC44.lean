/- Parts of the proof: TrV, TrW, TrX, TrY. Conditions: each theorem's own. -/
import Derived.Test.YtegjgiofmpolnaaGreatC43
namespace Go.Proofs.YtegjgiofmpolnaaGreat
set_option linter.unusedVariables false
set_option linter.unusedSimpArgs false
set_option maxRecDepth 100000
set_option maxHeartbeats 40000000
section
open Go.RowKit Go.Sort Go.BigFrame
theorem aD2{p:Pg}(h:dO p=0):cV p.es=0:=by
 unfold dO at h
 split at h
 . assumption
 . exact h
theorem aCu{p:Pg}(ht:gI p):∀ j,j<p.ns.length->(aA p j).ins.length<=1000/\(aA p j).outs.length<=1000:=fun j hj=>by
 have h1:=(nY (ht.2.2 j hj)).1;rw [oB] at h1;unfold aA;omega
theorem aF9(p:Pg) (E:Option Addr) (ec:Nat) (N:Option Addr) (nc:Nat) (i:Int) (x:Ex) (A:Option Addr) (ca:Nat) (B:Option Addr) (cb:Nat) (w:World) (h:cW w p E N) (hx:aJ w x A B) (ht:gI p) (h0:dO p=0) (hg:jE x) (Al:bB x=true):
 Calls Tryz.prog 13 #[.agg (aP p E ec N nc),.int .i64 i,.agg (aE x A ca B cb)] w (aZ w (jD p i x)):=by
 have HF:=Hd fun w0 hw=>fL (w:=w) (w1:=w0) (cs:=aP p E ec N nc) (ds:=aE x A ca B cb) (T:=25) (U:=35) (V:=38) hw;have Ay:=aQ.max h.2
 by_cases Am:i<0
 . have HO:=Hd (show jD p i x=none by unfold jD;rw [if_pos (.inl Am)]);rw [HO.o];have hd:decide (i<0)=true:=Zx Am;clear h hx ht h0 hg Al;unfold aP aE at *
   go_enter Tryz.func13,Tryz.ntmps13
   go_upto_region 1 with(fail)
   generalize Ab:((w.alloc _).alloc _).alloc _=w0;obtain⟨Ad,Aj,Ac,Aa,hR⟩:=HF.o w0 Ab;have Ah:=Hd Ad;have HR:=Hd hR;clear Ab Ad Aj Ac Aa hR HF
   go_wp2_with (refine Zu rfl _ _ _ rfl (w.heap.size+1+1) _ rfl rfl _ _ HR.o bM rfl (by simp [Value.oneCell']) ?_)
   exact Zt (aL (p:=6) (u:=7) rfl _ _ (w.heap.size+1+1) 0 0 0 rfl (HR.o.set 0 0 0)) rfl (gE (rfl) ⟨rfl,Xb Ah.o (by omega) _⟩)
 by_cases Ao:(p.ns.length:Int)<=i
 . have HO:=Hd (show jD p i x=none by unfold jD;rw [if_pos (.inr Ao)]);rw [HO.o];have hd:decide (i<0)=false:=Zy Am;have Ax:decide ((p.ns.length:Int)<=i)=true:=Zx Ao;clear h hx ht h0 hg Al;unfold aP aE at *
   go_enter Tryz.func13,Tryz.ntmps13
   go_upto_region 1 with(fail)
   generalize Ab:((w.alloc _).alloc _).alloc _=w0;obtain⟨Ad,Aj,Ac,Aa,hR⟩:=HF.o w0 Ab;have Ah:=Hd Ad;have HR:=Hd hR;have q1:=Ac w0 (Yg _ _) 1;simp only [Ya,Yb,Yc] at q1;clear Ab Ad Aj Ac Aa hR HF
   go_wp2_with (refine Zu rfl _ _ _ rfl (w.heap.size+1+1) _ rfl rfl _ _ HR.o bM rfl (by simp [Value.oneCell']) ?_)
   exact Zt (aL (p:=6) (u:=7) rfl _ _ (w.heap.size+1+1) 0 0 0 rfl (HR.o.set 0 0 0)) rfl (gE (rfl) ⟨rfl,Xb Ah.o (by omega) _⟩)
 obtain⟨n,rfl⟩:∃ n:Nat,i=n:=⟨i.toNat,by omega⟩;have hn:n<p.ns.length:=by omega
 have An:=Hd fun w1 (hb:Below w.heap.size w w1)=>rY x A ca B cb w1 (hx.below hb) hg.1 (fun q hq=>(hg.2 q hq).1);rw [Al] at An;obtain⟨nb,no,A1,c1,A2,c2,A3,c3,A4,c4,hN,Ae,Aq,d0,d1,d2,d3,d4⟩:=iN h.2 hn;have Af:=Hd fun w1 (hb:Below w.heap.size w w1)=>zL p n ⟨E,ec,N,nc,A1,c1,A2,c2,A3,c3,A4,c4⟩ (aD2 h0) (rQ ht h0 hn).1 (aCu ht) x A ca B cb w1 ⟨h.below hb,Aq.below hb⟩ (hx.below hb) hg;rw [show cG p n x=jD p n x by unfold jD;rw [if_neg (by omega)];rfl] at Af;have HZ:=Hd (show ∀ e w',(e=.returned (.tuple #[.agg (aC ((jD p n x).getD (0,0,0)).1 ((jD p n x).getD (0,0,0)).2.1 ((jD p n x).getD (0,0,0)).2.2),.bool (jD p n x).isSome])/\Below w.heap.size w w')->aZ w (jD p n x) e w' from fun e w' h=>h);generalize jD p n x=o at *;generalize aZ w o=Au at *;unfold aZ at Af;generalize o.isSome=os at *;generalize (o.getD (0,0,0)).1=x0 at *;generalize (o.getD (0,0,0)).2.1=x1 at *;generalize (o.getD (0,0,0)).2.2=x2 at *
 have HD:=Hd (show ∀ w1,Below w.heap.size w w1->w1.cell? ⟨nb,no+n*5,none⟩=some (.string (aA p n).nm)/\w1.cell? ⟨nb,no+n*5+1,none⟩=some (.slice A1 (aA p n).ins.length c1)/\w1.cell? ⟨nb,no+n*5+2,none⟩=some (.slice A2 (aA p n).outs.length c2)/\w1.cell? ⟨nb,no+n*5+3,none⟩=some (.slice A3 (aA p n).vars.length c3)/\w1.cell? ⟨nb,no+n*5+4,none⟩=some (.slice A4 (aA p n).eqs.length c4) from
  fun w1 hb=>⟨(hb.cell (p:=⟨nb,no+n*5,none⟩) Ae).trans d0,(hb.cell (p:=⟨nb,no+n*5+1,none⟩) Ae).trans d1,(hb.cell (p:=⟨nb,no+n*5+2,none⟩) Ae).trans d2,(hb.cell (p:=⟨nb,no+n*5+3,none⟩) Ae).trans d3,(hb.cell (p:=⟨nb,no+n*5+4,none⟩) Ae).trans d4⟩)
 have As:=Hd Ae;clear h hx ht h0 hg Al Aq d0 d1 d2 d3 d4 Ae;unfold aC at Af HZ;unfold aT at Af;unfold aP aE at *
 dsimp only at Af
 rw [hN] at Af HF ⊢;generalize aA p n=nd at *;have hd:decide ((n:Int)<0)=false:=Zy Am;have Ax:decide ((p.ns.length:Int)<=(n:Int))=false:=Zy Ao;have Az:(n:Int)<(p.ns.length:Int):=by omega
 go_enter Tryz.func13,Tryz.ntmps13
 go_upto_region 1 with(fail)
 generalize Ab:((w.alloc _).alloc _).alloc _=w0;obtain⟨Ad,Aj,Ac,Aa,hR⟩:=HF.o w0 Ab;have Ah:=Hd Ad;have HR:=Hd hR;have HP:=Hd Ac;have HX:=Hd Aa;have q1:=Ac w0 (Yg _ _) 1;obtain⟨r0,r1,r2,r3,r4,r5⟩:=Sx (Aa w0 (Yg _ _));simp only [Ya,Yb,Yc] at q1 r0 r1 r2 r3 r4 r5;clear Ab Ad Aj Ac Aa hR HF
 go_wp2_with fail
 refine(An.o w0 Ah.o).mono ?_;rintro e w1 ⟨rfl,Ag⟩;have Ap:=Hd (aR Ah.o Ag);have HR:=Hd (HR.o.below Ag);have q0:=HP.o w1 Ag 0;have q1:=HP.o w1 Ag 1;obtain⟨r0,r1,r2,r3,r4,r5⟩:=Sx (HX.o w1 Ag);simp only [Ya,Yb,Yc] at q0 q1 r0 r1 r2 r3 r4 r5;obtain⟨d0,d1,d2,d3,d4⟩:=HD.o w1 Ap.o;have Ar:w.heap.size≠w.heap.size+1+1:=by omega
 have Ai:w.heap.size+1≠w.heap.size+1+1:=by omega
 have Ak:nb≠w.heap.size+1+1:=by have:=As.o;omega
 clear Ag An HP HX HD As
 go_upto_region 3 with(fail)
 refine bZ (l1:=[_,_,_,_,_,_,_,_,_,_,_]) (os:=_) (l2:=[_]) (p:=6) (tx:=32) (r:=w.heap.size+1+1) (T:=38) (zc:=aC 0 0 0) (by kernel_rfl) (by kernel_rfl) rfl HR.o rfl bW ?_
 repeat
  apply bR rfl (by simp)
  case h1=>
   intro wb hb;have l0:=fun d os=>Zr (aD hb Ar q0) d os;have l1:=fun d os=>Zr (aD hb Ar q1) d os;have l2:=fun d os=>Zr (aD hb Ai r0) d os;have l3:=fun d os=>Zr (aD hb Ai r1) d os;have l4:=fun d os=>Zr (aD hb Ai r2) d os;have l5:=fun d os=>Zr (aD hb Ai r3) d os;have l6:=fun d os=>Zr (aD hb Ai r4) d os;have l7:=fun d os=>Zr (aD hb Ai r5) d os;have m0:=fun d os=>Zr (aD hb Ak d0) d os;have m1:=fun d os=>Zr (aD hb Ak d1) d os;have m2:=fun d os=>Zr (aD hb Ak d2) d os;have m3:=fun d os=>Zr (aD hb Ak d3) d os;have m4:=fun d os=>Zr (aD hb Ak d4) d os;have cA:=fun d os=>Zh (Af.o (grow (redrawn wb d) os) (aR (bF hb Ap.o (Yh _) (by omega)) (Zs wb d os)))
   go_big_quiet_step (first | with_reducible exact cA _ _)
   refine Xf ?_;simp only [List.getElem?_toArray,Zb,Yz];exact rfl
  simp only [Act.put,Yd,Ye,Yf]
 refine⟨aC x0 x1 x2,rfl,rfl,by simp [aC,Value.oneCell'],fun W hB hz=>?_⟩;have Av:=Hd (bF hB Ap.o (Yh _) (by omega));have Aw:=Hd hz;clear hB hz
 go_wp2_with fail
 exact Zt (aL (p:=6) (u:=7) rfl _ _ (w.heap.size+1+1) x0 x1 x2 rfl Aw.o) rfl (HZ.o _ _ ⟨rfl,Av.o⟩)
end
section
open Go.RowKit Go.Sort Go.BigFrame
theorem wI{f:Nat->Fl}(h:∀ j,(f j).2.2=0->f j=(0,0,0)):∀ {n:Nat},(eH ((0,0,0):Fl) f n).2.2=0->eH ((0,0,0):Fl) f n=(0,0,0)
 | 0,_=>rfl
 | n+1,hh=>by
  rw [eH] at hh ⊢
  by_cases h1:eH ((0,0,0):Fl) f n=(0,0,0)
  . rw [if_pos h1] at hh ⊢;exact h n hh
  . rw [if_neg h1] at hh;exact absurd (wI h hh) h1
theorem aRa{p:Pg}{i j:Nat}(h:(gC p i j).2.2=0):gC p i j=(0,0,0):=by
 unfold gC at h ⊢
 by_cases h1:eB p i j=0
 . rw [if_pos h1]
 . rw [if_neg h1] at h;exact absurd h h1
theorem aLo{p:Pg}{i:Nat}(h:(dU p i).2.2=0):dU p i=(0,0,0):=by
 unfold dU at h ⊢
 split at h
 . simp at h
 rename_i h1
 rw [if_neg h1]
 split at h
 . rename_i h2
   rw [if_pos h2]
   split at h
   . rename_i h3
     rw [if_pos h3]
   . simp at h
 . rename_i h2
   exact absurd (wI (fun j=>aRa) h) h2
theorem aI7{p:Pg}(h:(dE p).2.2=0):dE p=(0,0,0):=by
 unfold dE at h ⊢
 split at h
 . rename_i h1
   rw [if_pos h1];exact wI (fun j=>aLo) h
 . rename_i h1
   exact absurd h h1
theorem aBs{p:Pg}{i:Nat}(h0:dE p=(0,0,0)) (hi:i<p.ns.length):jS (aA p i)=true/\(aA p i).all.all (jP p (aA p i))=true/\∀ j,j<(aA p i).eqs.length->∀ k,k<((aA p i).eqs[j]?.getD default).ns.length->fS (aA p i) (((aA p i).eqs[j]?.getD default).ns[k]?.getD ByteArray.empty)=true:=by
 have hc:=uB h0
 have hx:aA p i∈p.ns:=by
  unfold aA;rw [Yk hi];exact Zg hi
 have hn:dU p i=(0,0,0):=by
  unfold dE at h0;rw [if_pos hc] at h0;exact sX h0 i hi
 refine⟨?_,?_,fun j hj k hk=>?_⟩
 . unfold dO pI at hc
   split at hc
   . split at hc <;> try (cases hc;done)
     split at hc <;> try (cases hc;done)
     split at hc <;> try (cases hc;done)
     split at hc
     . rename_i hr
       have h1:=Zf.1 hr _ hx;unfold gH at h1;simp only [Ys] at h1;exact h1.1.1.1.2
     . cases hc
   . rename_i he
     exact absurd hc he
 . unfold dU at hn
   split at hn
   . simp at hn
   . rename_i h1
     simpa using h1
 . unfold dU at hn
   split at hn
   . simp at hn
   split at hn
   . rename_i h2
     have h3:=sX h2 j hj;unfold gC at h3
     have h4:eB p i j=0:=by
      by_cases h5:eB p i j=0
      . exact h5
      . rw [if_neg h5] at h3;injection h3 with _ h3;injection h3 with _ h3
     unfold eB at h4
     split at h4
     . rename_i h5
       have h6:=sX h5 k hk;unfold jU at h6
       split at h6
       . cases h6
       . rename_i h7
         simpa using h7
     . rename_i h5
       exact absurd h4 h5
   . rename_i h2
     exact absurd hn h2
theorem aRb{p:Pg}{i:Nat}{d:Dc}(Aa:jP p (aA p i) d=true):mL p.es (aA p i) d=!iU p i d:=by
 unfold mL iU;unfold jP at Aa
 cases h1:(d.on.toList==[]) with
 | true=>rfl
 | false=>
  rw [h1,Bool.false_or,Ys] at Aa;unfold fS cM at Aa;obtain⟨dd,hd⟩:=Option.isSome_iff_exists.1 Aa.1;obtain⟨r,hr⟩:=Option.isSome_iff_exists.1 Aa.2;rw [hd,hr];unfold eR;rw [List.all_cons,List.all_nil,Bool.and_true];unfold gO fR;rw [hr];simp only;rw [hd];rfl
theorem aCv{α:Type}{f g:α->Bool}:∀ {l:List α},(∀ a∈l,f a=g a)->l.any f=l.any g
 | [],_=>rfl
 | a::l,h=>by
  rw [List.any_cons,List.any_cons,h a (by simp),aCv fun b hb=>h b (by simp [hb])]
theorem aLp{p:Pg}{i:Nat}(hp:jS (aA p i)=true) (ho:(aA p i).all.all (jP p (aA p i))=true):(aA p i).vars.any (mL p.es (aA p i))=!(aA p i).all.all (iU p i):=by
 have h1:((aA p i).ins++(aA p i).outs).all (iU p i)=true:=by
  rw [Zf];intro d hd;have:=Zf.1 hp d hd;unfold gB at this;unfold iU;rw [Zc,this];rfl
 have h2:(aA p i).vars.any (mL p.es (aA p i))=(aA p i).vars.any fun d=>!iU p i d:=by
  refine aCv fun d hd=>aRb (Zf.1 ho d ?_);unfold Nd.all;exact List.mem_append_right _ hd
 rw [h2];unfold Nd.all;rw [List.all_append,h1,Bool.true_and,List.not_all_eq_any_not]
theorem aCw{f g:Nat->Bool}:∀ {l:List Nat},(∀ a∈l,f a=g a)->l.all f=l.all g
 | [],_=>rfl
 | a::l,h=>by
  rw [List.all_cons,List.all_cons,h a (by simp),aCw fun b hb=>h b (by simp [hb])]
theorem aOn{p:Pg}{i:Nat}{q:Qn}(hv:∀ k,k<q.ns.length->fS (aA p i) (q.ns[k]?.getD ByteArray.empty)=true):lD p i q=!iT p i q:=by
 unfold lD iT
 cases fF p i q.x with
 | none=>rfl
 | some u=>
  simp only
  congr 1
  unfold kA
  by_cases hl:q.ns.length=u.length
  . rw [Zx hl,Zx hl.symm,Bool.true_and,Bool.true_and,hl];refine aCw fun k hk=>?_;have hk:=List.mem_range.1 hk;have h1:=hv k (by omega);unfold fS at h1;obtain⟨d,hd⟩:=Option.isSome_iff_exists.1 h1;unfold fR;rw [hd];rfl
  . rw [Zy hl,Zy (fun e=>hl e.symm),Bool.false_and,Bool.false_and]
theorem aHe{α:Type} [Inhabited α] (f:α->Bool) (l:List α):((∀ j,j<l.length->f (l[j]?.getD default)=false)/\bE f l 0=-1)\/∃ k:Nat,k<l.length/\(∀ j,j<k->f (l[j]?.getD default)=false)/\f (l[k]?.getD default)=true/\bE f l 0=(k:Int):=by
 have Aa:∀ n,n<=l.length->(∀ j,j<n->f (l[j]?.getD default)=false)\/∃ k,k<n/\(∀ j,j<k->f (l[j]?.getD default)=false)/\f (l[k]?.getD default)=true:=by
  intro n
  induction n with
  | zero=>exact fun _=>.inl fun j hj=>absurd hj (by omega)
  | succ n ih=>
   intro hn;rcases ih (by omega) with h | ⟨k,hk,h1,h2⟩
   . cases hf:f (l[n]?.getD default) with
     | false=>exact .inl (dK h hf)
     | true=>exact .inr ⟨n,by omega,h,hf⟩
   . exact .inr ⟨k,by omega,h1,h2⟩
 rcases Aa l.length (Yh _) with h | ⟨k,hk,h1,h2⟩
 . exact .inl ⟨h,nP h⟩
 . refine .inr ⟨k,hk,h1,h2,?_⟩;have:=nR (i:=0) hk h1 h2;rwa [Nat.zero_add] at this
theorem aRc(p:Pg) (i:Nat) (r:Rm) (he:cV p.es=0) (Ad:∀ s d,aW (aA p i) s=some d->bH p.es.length d.k d.e d.l=true) (Aa:∀ j,j<p.ns.length->(aA p j).ins.length<=1000/\(aA p j).outs.length<=1000)
 (y:Ex) (A:Option Addr) (ca:Nat) (B:Option Addr) (cb:Nat) (w:World) (h:cY w p (aA p i) r) (hr:aJ w y A B) (hg:jE y):
 Calls Tryz.prog 59 #[.agg (aT p (aA p i) r),.agg (aE y A ca B cb)] w (iO w (fF p i y)):=by
 by_cases hk:y.k=13
 . have e:fF p i y=(bK (y.subs.map (cG p i))).bind fun ts=>(fB p y ts).map fun j=>(aA p j).outs.map aO:=by
    unfold fF;rw [hk]
    show(match bK (y.subs.map (cG p i)) with | none=>none | some ts=>(fB p y ts).map fun j=>(aA p j).outs.map aO)=_
    cases bK (y.subs.map (cG p i)) <;> rfl
   rw [e];obtain⟨Af,Ab⟩:=hg.self
   have Ah:y.subs.length<=8+y.arms.length:=by
    have h2:=aE1 (qG hg.self.2);unfold bA at Ab;simp only [Ys,decide_eq_true_eq] at Ab;have h3:=Ab.1.2;omega
   refine aI6 p i r y A ca B cb w hk _ _ (fun w1 hb=>?_) (fun ts Ak S n c w1 hb Ac Ag=>?_)
   . exact aFm p (aA p i) r B y.subs.length cb y.subs w1 (h.below hb) (hr.below hb).subs (by have:=Af.2.2;omega) (y.subs.map (cG p i)) (by simp) _ rfl (fun k hk A' Al B' Ai w2 Ae Aj=>by
      rw [rX hk];exact zL p i r he Ad Aa (aU y k) A' Al B' Ai w2 (h.below (hb.trans (Ae.mono hb.size))) Aj (hg.sub hk))
   . have hn:=oZ Ak;rw [List.length_map] at hn;have hl:=Ac.len;have ha:=oX Ab;unfold dA at ha
     simp [hk] at ha
     exact aFl p (aA p i) r y A ca B cb S n c ts w1 (h.below hb) Ac Ag (qG Ab hk) (by omega) Aa
 . have e:fF p i y=(cG p i y).map fun t=>[t]:=by
    unfold fF;rw [if_neg (by simpa using hk)]
   rw [e];exact aLn p i r y A ca B cb w hk _ fun w1 hb=>zL p i r he Ad Aa y A ca B cb w1 (h.below hb) (hr.below hb) hg
theorem aRd(p:Pg) (E:Option Addr) (ec:Nat) (N:Option Addr) (nc:Nat) (w:World) (h:cW w p E N) (ht:gI p):
 Calls Tryz.prog 8 #[.agg (aP p E ec N nc)] w fun e w'=>e=.returned (kW (gL p))/\Below w.heap.size w w':=by
 have Dr:=aQ.max h.2;have HF:=Hd fun w0 hw=>aD1 (w:=w) (w1:=w0) (cs:=aP p E ec N nc) (T:=25) (U:=30) hw;have Ag:=Hd fun w1 (hb:Below w.heap.size w w1)=>aQu p E ec N nc w1 (h.below hb) ht;have Dt:∀ fn first Cj w,(Instr.makeFunc fn first Cj).run Tryz.prog w=.ok (.func fn first Cj) w:=fun _ _ _ _=>rfl
 have Ci:=Hd fun w1 (hb:Below w.heap.size w w1)=>(show eW w1 N p.ns.length p.ns from(h.below hb).2)
 by_cases hz:dE p=(0,0,0)
 . have hc:=uB hz;have Aj:=Hd (show gL p=eH ((0,0,0):Fl) (fE p) p.ns.length by unfold gL;rw [if_pos hz]);have Bl:=Hd fun k (hk:k<p.ns.length) hn hy=>mP (z:=((0,0,0):Fl)) (f:=fE p) (n:=p.ns.length) hk hn hy;have Dg:=Hd fun hn=>lX (z:=((0,0,0):Fl)) (f:=fE p) (n:=p.ns.length) hn
   have Dp:=Hd fun k (hk:k<p.ns.length)=>(show fE p k=if(aA p k).vars.any (mL p.es (aA p k))=true then((k:Int),-1,7) else eH ((0,0,0):Fl) (jZ p k) (aA p k).eqs.length by
    obtain⟨h1,h2,_⟩:=aBs hz hk;rw [aLp h1 h2];unfold fE
    cases (aA p k).all.all (iU p k) <;> rfl)
   have Cs:=Hd fun k (hk:k<p.ns.length)=>(show eH ((0,0,0):Fl) (jZ p k) (aA p k).eqs.length=if 0<=bE (lD p k) (aA p k).eqs 0 then((k:Int),bE (lD p k) (aA p k).eqs 0,7) else(0,0,0) by
    obtain⟨_,_,h3⟩:=aBs hz hk;have hw:∀ j,j<(aA p k).eqs.length->lD p k ((aA p k).eqs[j]?.getD default)=!iT p k ((aA p k).eqs[j]?.getD default):=fun j hj=>aOn (h3 j hj);rcases aHe (lD p k) (aA p k).eqs with⟨h4,h5⟩|⟨m,hm,h4,h5,h6⟩
    . rw [h5,if_neg (by omega)];refine lX fun j hj=>?_;have:=h4 j hj;rw [hw j hj] at this;unfold jZ;rw [if_pos (by simpa using this)]
    . rw [h6,if_pos (by omega)]
      have h7:jZ p k m=((k:Int),(m:Int),7):=by
       rw [hw m hm] at h5;unfold jZ;rw [if_neg (by simpa using h5)]
      rw [mP hm (fun j hj=>?_) (by rw [h7];intro e;injection e with _ e;injection e with _ e;cases e),h7];have:=h4 j hj;rw [hw j (by omega)] at this;unfold jZ;rw [if_pos (by simpa using this)])
   have Di:=Hd fun k (hk:k<p.ns.length) (r:Rm) (Bf:r.E=E) (Bp:r.N=N) w1 (hb:Below w.heap.size w w1) (Ae:cJ w1 (aA p k) r.A1 r.A2 r.A3 r.A4)=>tZ 24 (.agg (aT p (aA p k) r)) (fun _ _=>rfl) (mL p.es (aA p k)) r.A3 (aA p k).vars.length r.c3 (aA p k).vars w1 Ae.2.2.1
    fun d hd W hW=>aI1 p (aA p k) r d W ⟨by rw [Bf,Bp];exact h.below (hb.trans (hW.mono hb.size)),Ae.below hW⟩
   have Dj:=Hd fun k (hk:k<p.ns.length) (r:Rm) (Bf:r.E=E) (Bp:r.N=N) w1 (hb:Below w.heap.size w w1) (Ae:cJ w1 (aA p k) r.A1 r.A2 r.A3 r.A4)=>aI4 26 (.agg (aT p (aA p k) r)) (fun _ _=>rfl) (lD p k) r.A4 (aA p k).eqs.length r.c4 (aA p k).eqs w1 Ae.2.2.2
    fun q hq BN cN A ca B cb W hW Ck=>(by
     obtain⟨j,hj,rfl⟩:=Zi hq;have Bv:cY W p (aA p k) r:=⟨by rw [Bf,Bp];exact h.below (hb.trans (hW.mono hb.size)),Ae.below hW⟩;have Bw:=(rQ ht hc hk).2 j hj;rw [Yk hj,Yt] at Bw;exact aQ9 p k r _ BN cN A ca B cb W Bv Ck.1 Ck.2 fun w2 Ab Cw=>aRc p k r (aD2 hc) (rQ ht hc hk).1 (aCu ht) _ A ca B cb w2 (Bv.below Ab) Cw Bw)
   rw [hz] at Ag;unfold kW aC at Ag;clear h ht hz hc;generalize gL p=Bn at *;generalize Bk:p.ns.length=pn at *;unfold aP at *;rw [Bk] at HF Ag ⊢;have Dk:=Hd Bk;clear Bk
   go_enter Tryz.func8,Tryz.ntmps8
   go_upto_region 1 with(fail)
   generalize Am:(w.alloc _).alloc _=w0;obtain⟨As,Bm,Af,hR⟩:=HF.o w0 Am;have Ap:=Hd As;have HR:=Hd hR;have HP:=Hd Af;have q0:=Af w0 (Yg _ _) 0;have q1:=Af w0 (Yg _ _) 1;simp only [Ya,Yb,Yc] at q0 q1;clear Am As Bm Af hR HF
   go_wp2_with fail
   refine(Ag.o w0 Ap.o).mono ?_;rintro e w1 ⟨rfl,Ad⟩;have Br:=Hd (aR Ap.o Ad);have Dm:=Hd Ad;have Ar:=Hd (HR.o.below Ad);clear Ad q0 q1 Ag HR
   go_upto_region 2 with(fail)
   generalize Au:w1.alloc _=w2;obtain⟨Ab,Aq,Bi⟩:=gM Au;have Bq:=Hd (aR Br.o Ab);have Bx:=Hd (aR Dm.o Ab);have Ay:=Hd (Ar.o.below Ab);have f2:=Aq.cell 2;have q1:=HP.o w2 Bx.o 1;simp only [aC,List.getElem?_toArray,Yz,Zb] at f2 q1;clear Au Ab Aq Bi Ar
   go_wp2_with fail
   go_loopw [17] (fun c wr=>∃ k:Nat,k<=pn/\c=.int .i64 k/\(∀ a,a<k->fE p a=(0,0,0))/\Below w2.heap.size w2 wr) (fun c _=>pn-(intOf c).toNat)
   case atStart=>exact⟨0,Yq _,rfl,fun a ha=>absurd ha (by omega),Yg _ _⟩
   case round=>
    obtain⟨k,hk,rfl,Co,An⟩:=hrel;have Bj:=Hd Co;have Bg:=Hd (aR Bq.o An);have Ct:=Hd (aR Bx.o An);have Cv:=Hd An;have Bo:=Hd (Ay.o.below An);clear Co An
    by_cases Ai:k<pn
    . obtain⟨b,Ds,A1,c1,A2,c2,A3,c3,A4,c4,hN,hb,Ae,d0,d1,d2,d3,d4⟩:=iN (Ci.o wr Bg.o) Ai;have Ce:=Hd (Dp.o k Ai);have Cn:=Hd (Cs.o k Ai);have Cd:=Hd (Bl.o k Ai Bj.o);have Be:=Hd fun w1 (hb:Below w.heap.size w w1) (hq:cJ w1 (aA p k) A1 A2 A3 A4)=>Di.o k Ai ⟨E,ec,N,nc,A1,c1,A2,c2,A3,c3,A4,c4⟩ rfl rfl w1 hb hq;have Bb:=Hd fun w1 (hb:Below w.heap.size w w1) (hq:cJ w1 (aA p k) A1 A2 A3 A4)=>Dj.o k Ai ⟨E,ec,N,nc,A1,c1,A2,c2,A3,c3,A4,c4⟩ rfl rfl w1 hb hq;have Dh:=Hd (show cJ wr (aA p k) A1 A2 A3 A4 from Ae);unfold aT at Be Bb
      dsimp only at Be Bb
      have Bt:p.ns[k]?.getD default=aA p k:=rfl;rw [Bt] at d0 d1 d2 d3 d4;clear Bt Ae;subst hN;rw [Dk.o] at Be Bb;generalize (aA p k).vars.any (mL p.es (aA p k))=mb at *;generalize eH ((0,0,0):Fl) (jZ p k) (aA p k).eqs.length=ff at *;generalize bE (lD p k) (aA p k).eqs 0=fi at *;generalize aA p k=nd at *
      go_upto_region 7 with(fail)
      generalize Bu:wr.alloc _=w4;obtain⟨Ak,Dn,Ah⟩:=lB Bu;have Cy:=Hd (aR Bg.o Ak);have Cf:=Hd (aR Ct.o Ak);have Db:=Hd (aR Cv.o Ak);have Dl:=Hd (Bo.o.below Ak);have Cx:=Hd (Dh.o.below Ak);have Cr:=Hd Ah;obtain⟨e0,e1,e2,e3,e4,-⟩:=Sx (Ah w4 (Yg _ _));have q0:=HP.o w4 Cf.o 0;have q1:=HP.o w4 Cf.o 1;simp only [Ya,Yb,Yc] at e0 e1 e2 e3 e4 q0 q1;clear Bu Ak Dn Ah d0 d1 d2 d3 d4
      go_upto_region 8 with(fail)
      generalize Bz:w4.alloc _=w5;obtain⟨Al,Cu,Ac⟩:=lB Bz;have Bh:=Hd (aR Cy.o Al);have Cz:=Hd (aR Db.o Al);have Cc:=Hd (Dl.o.below Al);have Ca:=Hd (Cx.o.below Al);have Cb:=Hd Ac;have Cg:=Hd fun w' (hb:Below w5.heap.size w5 w') j=>Cr.o w' (aR Al hb) j;have e3:=Cg.o w5 (Yg _ _) 3;obtain⟨f0,f1,f2,f3,f4,f5⟩:=Sx (Ac w5 (Yg _ _));have f6:=Ac w5 (Yg _ _) 6;simp only [Ya,Yb,Yc] at e3 f0 f1 f2 f3 f4 f5 f6;have Ax:=Hd (Be.o w5 Bh.o Ca.o);clear Bz Al Cu Ac e0 e1 e2 e4 q0 q1
      cases mb with
      | true=>
       have Av:=Hd (show fE p k=((k:Int),-1,7) from Ce.o);have Ao:=Hd (show Bn=((k:Int),-1,7) by rw [Aj.o,Cd.o (by rw [Av.o];intro e;injection e with _ e;injection e with _ e;cases e)];exact Av.o)
       go_wp2_with fail
       refine Ax.o.mono ?_;rintro e w6 ⟨rfl,Aa⟩;have Bd:=Hd (aR Bh.o Aa);have Ba:=Hd (Cc.o.below Aa);clear Aa Ax
       go_wp2_with (refine Zu rfl _ _ _ rfl (w.heap.size+1) _ rfl rfl _ _ Ba.o eQ rfl (by simp [aC,Value.oneCell']) ?_)
       exact Zt (eZ (p:=2) rfl _ _ (w.heap.size+1) k (-1) 7 rfl (Ba.o.set _ _ _)) rfl ⟨by rw [Ao.o];rfl,Xb Bd.o (Nat.le_succ _) _⟩
      | false=>
       have Av:=Hd (show fE p k=ff from Ce.o)
       go_wp2_with fail
       refine Ax.o.mono ?_;rintro e w6 ⟨rfl,Aa⟩;have Bd:=Hd (aR Bh.o Aa);have De:=Hd (aR Cz.o Aa);have Ba:=Hd (Cc.o.below Aa);have Df:=Hd (Ca.o.below Aa);have e4:=Cg.o w6 Aa 4;obtain⟨f0,f1,f2,f3,f4,f5⟩:=Sx (Cb.o w6 Aa);have f6:=Cb.o w6 Aa 6;simp only [Ya,Yb,Yc] at e4 f0 f1 f2 f3 f4 f5 f6;have Ch:=Hd (Bb.o w6 Bd.o Df.o);clear Aa Ax e3
       go_wp2_with fail
       refine Ch.o.mono ?_;rintro e w7 ⟨rfl,Az⟩;have Cp:=Hd (aR Bd.o Az);have Cq:=Hd (aR De.o Az);have Cm:=Hd (Ba.o.below Az);clear Az Ch e4 f0 f1 f2 f3 f4 f5 f6
       by_cases Bc:0<=fi
       . have hd:decide (0<=fi)=true:=Zx Bc;have Aw:=Hd (show fE p k=((k:Int),fi,7) by rw [Av.o,Cn.o,if_pos Bc]);have Ao:=Hd (show Bn=((k:Int),fi,7) by rw [Aj.o,Cd.o (by rw [Aw.o];intro e;injection e with _ e;injection e with _ e;cases e)];exact Aw.o)
         go_wp2_with (refine Zu rfl _ _ _ rfl (w.heap.size+1) _ rfl rfl _ _ Cm.o eQ rfl (by simp [aC,Value.oneCell']) ?_)
         exact Zt (eZ (p:=2) rfl _ _ (w.heap.size+1) k fi 7 rfl (Cm.o.set _ _ _)) rfl ⟨by rw [Ao.o];rfl,Xb Cp.o (Nat.le_succ _) _⟩
       . have hd:decide (0<=fi)=false:=Zy Bc;have Aw:=Hd (show fE p k=(0,0,0) by rw [Av.o,Cn.o,if_neg Bc]);have Dd:=Hd (dK (P:=fun a=>fE p a=(0,0,0)) Bj.o Aw.o)
         go_wp2_with fail
         go_roundw
         case rel=>exact⟨k+1,by omega,by go_num,Dd.o,Cq.o⟩
         case measure=>simp [intOf];omega
    . have Dq:k=pn:=by omega
      have Ao:=Hd (show Bn=(0,0,0) by rw [Aj.o];exact Dg.o fun a ha=>Bj.o a (by omega))
      go_wp2_with (refine Zu rfl _ _ _ rfl (w.heap.size+1) _ rfl rfl _ _ Bo.o eQ rfl (by simp [aC,Value.oneCell']) ?_)
      exact Zt (eZ (p:=2) rfl _ _ (w.heap.size+1) 0 0 0 rfl (Bo.o.set _ _ _)) rfl ⟨by rw [Ao.o];rfl,Xb Bg.o (Nat.le_succ _) _⟩
 . have Aj:=Hd (show gL p=dE p by unfold gL;rw [if_neg hz]);have Cl:(dE p).2.2≠0:=fun e=>hz (aI7 e);have Da:((dE p).2.2 != 0)=true:=bne_iff_ne.2 Cl;rw [Aj.o];unfold kW aC at *;clear h ht hz Cl Aj Ci;unfold aP at *;generalize (dE p).1=a at *;generalize (dE p).2.1=b at *;generalize (dE p).2.2=c at *
   go_enter Tryz.func8,Tryz.ntmps8
   go_upto_region 1 with(fail)
   generalize Am:(w.alloc _).alloc _=w0;obtain⟨As,Bm,Af,hR⟩:=HF.o w0 Am;have Ap:=Hd As;have HR:=Hd hR;have q0:=Af w0 (Yg _ _) 0;have q1:=Af w0 (Yg _ _) 1;simp only [Ya,Yb,Yc] at q0 q1;clear Am As Bm Af hR HF
   go_wp2_with fail
   refine(Ag.o w0 Ap.o).mono ?_;rintro e w1 ⟨rfl,Ad⟩;have Br:=Hd (aR Ap.o Ad);have Ar:=Hd (HR.o.below Ad);clear Ad q0 q1 Ag HR
   go_upto_region 2 with(fail)
   generalize Au:w1.alloc _=w2;obtain⟨Ab,Aq,Bi⟩:=gM Au;have Bq:=Hd (aR Br.o Ab);have Ay:=Hd (Ar.o.below Ab);obtain⟨f0,f1,f2,-,-,-⟩:=Sx Aq.cell;simp only [aC,List.getElem?_toArray,Yz,Zb] at f0 f1 f2;clear Au Ab Aq Bi Ar
   go_wp2_with (refine Zu rfl _ _ _ rfl (w.heap.size+1) _ rfl rfl _ _ Ay.o eQ rfl (by simp [aC,Value.oneCell']) ?_)
   exact Zt (eZ (p:=2) rfl _ _ (w.heap.size+1) a b c rfl (Ay.o.set _ _ _)) rfl ⟨rfl,Xb Bq.o (Nat.le_succ _) _⟩
end
section
open Go.RowKit Go.Sort Go.BigFrame
def vG:Dc:=⟨⟨#[97]⟩,1,0,0,⟨#[]⟩,⟨#[]⟩⟩
def vH:Dc:=⟨⟨#[98]⟩,1,0,0,⟨#[]⟩,⟨#[]⟩⟩
def sK:Nd:=⟨⟨#[102]⟩,[vG],[vH],[],[]⟩
def iJ:Pg:=⟨[],[sK]⟩
def vI:Ex:=.mk 3 0 ⟨#[97]⟩ 0 [] []
def vJ:Ex:=.mk 1 1 ⟨#[]⟩ 0 [] []
def lI(op:Int):Ex:=.mk 6 0 ⟨#[]⟩ op [] [vI,vJ]
theorem aBt:dO iJ=0:=by kernel_rfl
theorem aCx:gI iJ:=by
 refine⟨⟨by decide,fun j hj=>by simp [iJ] at hj⟩,by decide,fun j hj=>?_⟩;obtain rfl:j=0:=by simp [iJ] at hj;omega
 refine⟨by decide,by decide,by decide,by decide,by decide,fun i hi=>?_⟩
 simp [iJ,sK] at hi
theorem aLq:jD iJ 0 (lI 3)=some (1,0,0):=by kernel_rfl
theorem aLr:jD iJ 0 (lI 8)=none:=by kernel_rfl
theorem aAo:bB (lI 3)=true:=by kernel_rfl
theorem aAp:bB (lI 8)=true:=by kernel_rfl
theorem aI8:jE (lI 3):=aBp (by kernel_rfl) aAo
theorem aI9:jE (lI 8):=aBp (by kernel_rfl) aAp
theorem lR{w w':World}{cs:Array Value}{T:TypeId}(h:w.alloc (.cells cs T)=w'):Below w.heap.size w w'/\w'.heap.size=w.heap.size+1/\∀ Aa,Below w'.heap.size w' Aa->∀ j,Aa.cell? ⟨w.heap.size,j,none⟩=cs[j]?:=by
 subst h;refine⟨(Yg _ _).alloc (Yh _) _,by simp,fun Aa hb j=>?_⟩;rw [hb.cell (p:=⟨w.heap.size,j,none⟩) (by simp),Zo]
theorem aFo{w:World}{b:Nat}{d:Dc}(hb:b<w.heap.size) (h:∀ j,w.cell? ⟨b,j,none⟩=(bC d)[j]?):cH w (some ⟨b,0,none⟩) 1 [d]:=by
 refine⟨rfl,by omega,fun _=>⟨b,0,rfl,hb,fun i hi=>?_⟩⟩;obtain rfl:i=0:=by omega
 intro j v hv;rw [Nat.zero_mul,Nat.add_zero,Nat.zero_add,h j]
 simpa [bC,kU] using hv
theorem aOo(w w6:World) (h:((((w.alloc (.cells (bC vG) 58)).alloc (.cells (bC vH) 58)).alloc
 (.cells (bL sK (some ⟨w.heap.size,0,none⟩) 1 (some ⟨w.heap.size+1,0,none⟩) 1 none 0 none 0) 53)).alloc (.cells (aP iJ none 0 (some ⟨w.heap.size+1+1,0,none⟩) 1) 25))=w6):
 cW w6 iJ none (some ⟨w.heap.size+1+1,0,none⟩)/\Below w.heap.size w w6/\w.heap.size+1+1+1<w6.heap.size/\∀ Aa,Below w6.heap.size w6 Aa->∀ j,Aa.cell? ⟨w.heap.size+1+1+1,j,none⟩=(aP iJ none 0 (some ⟨w.heap.size+1+1,0,none⟩) 1)[j]?:=by
 generalize h1:w.alloc (.cells (bC vG) 58)=w1 at h;obtain⟨b1,e1,k1⟩:=lR h1;generalize h2:w1.alloc (.cells (bC vH) 58)=w2 at h;obtain⟨b2,e2,k2⟩:=lR h2;generalize h3:w2.alloc _=w3 at h;obtain⟨b3,e3,k3⟩:=lR h3;obtain⟨b4,e4,k4⟩:=lR h;have c3:Below w3.heap.size w3 w6:=b4;have c2:Below w2.heap.size w2 w6:=b3.trans (c3.mono b3.size);have c1:Below w1.heap.size w1 w6:=b2.trans (c2.mono b2.size);have c0:Below w.heap.size w w6:=b1.trans (c1.mono b1.size);rw [e1] at k2 e2;rw [e2] at k3 e3;rw [e3] at k4 e4;have rA:cH w6 (some ⟨w.heap.size,0,none⟩) 1 [vG]:=aFo (by omega) (k1 w6 c1);have rB:cH w6 (some ⟨w.heap.size+1,0,none⟩) 1 [vH]:=aFo (by omega) (k2 w6 c2);refine⟨⟨bV.nil_ _,⟨rfl,by decide,fun _=>⟨_,0,rfl,by omega,fun i hi=>?_⟩⟩⟩,c0,by omega,k4⟩
 obtain rfl:i=0:=by
  have:iJ.ns.length=1:=rfl;omega
 refine⟨some ⟨w.heap.size,0,none⟩,1,some ⟨w.heap.size+1,0,none⟩,1,none,0,none,0,fun j v hv=>?_,⟨rA,rB,aQ.nil_ _ _ _,aQ.nil_ _ _ _⟩⟩;rw [show 0+0*5+j=j by omega,k3 w6 c3 j];exact(show(bL sK (some ⟨w.heap.size,0,none⟩) 1 (some ⟨w.heap.size+1,0,none⟩) 1 none 0 none 0)[j]?=(sR sK (some ⟨w.heap.size,0,none⟩) 1 (some ⟨w.heap.size+1,0,none⟩) 1 none 0 none 0)[j]? by simp [bL,sR]).trans hv
theorem aCy(op:Int) (w w':World) (h:w.alloc (.cells #[.int .i64 3,.int .i64 0,.string ⟨#[97]⟩,.int .i64 0,.slice none 0 0,.slice none 0 0,.int .i64 1,.int .i64 1,.string ⟨#[]⟩,.int .i64 0,.slice none 0 0,.slice none 0 0] 35)=w'):
 aJ w' (lI op) none (some ⟨w.heap.size,0,none⟩)/\Below w.heap.size w w':=by
 obtain⟨b,e,k⟩:=lR h;have k:=k w' (Yg _ _);refine⟨oE.2 ⟨aN.nil_ _,rfl,(show 2<=9223372036854775807 by decide),fun _=>⟨_,0,rfl,by omega,?_⟩⟩,b⟩;refine⟨⟨none,0,none,0,fun j v hv=>?_,oE.2 ⟨aN.nil_ _,eA.nil_ _⟩⟩,⟨none,0,none,0,fun j v hv=>?_,oE.2 ⟨aN.nil_ _,eA.nil_ _⟩⟩,trivial⟩
 . rw [show 0+j=j by omega,k j]
   match j with
   | 0 | 1 | 2 | 3 | 4 | 5=>exact hv
   | j+6=>simp [gQ] at hv
 . rw [show 0+6+j=j+6 by omega,k (j+6)]
   match j with
   | 0 | 1 | 2 | 3 | 4 | 5=>exact hv
   | j+6=>simp [gQ] at hv
theorem aOp(w:World):Calls Tryz.prog 7 #[] w fun e w'=>e=.returned (.bool true)/\Below w.heap.size w w':=by
 have HM:=Hd aOo;have Ao:=Hd (aCy 3);have An:=Hd (aCy 8)
 have Az:=Hd fun N w6 B (hr:cW w6 iJ none N) (hx:aJ w6 (lI 3) none B)=>(show Calls Tryz.prog 13 #[.agg #[.slice none 0 0,.slice N 1 1],.int .i64 0,.agg #[.int .i64 6,.int .i64 0,.string ⟨#[]⟩,.int .i64 3,.slice none 0 0,.slice B 2 2]] w6 fun e w'=>e=.returned (.tuple #[.agg #[.int .i64 1,.int .i64 0,.int .i64 0],.bool true])/\Below w6.heap.size w6 w' by
  have:=aF9 iJ none 0 N 1 0 (lI 3) none 0 B 2 w6 hr hx aCx aBt aI8 aAo;rw [aLq] at this;exact this)
 have Ax:=Hd fun N w6 B (hr:cW w6 iJ none N) (hx:aJ w6 (lI 8) none B)=>(show Calls Tryz.prog 13 #[.agg #[.slice none 0 0,.slice N 1 1],.int .i64 0,.agg #[.int .i64 6,.int .i64 0,.string ⟨#[]⟩,.int .i64 8,.slice none 0 0,.slice B 2 2]] w6 fun e w'=>e=.returned (.tuple #[.agg #[.int .i64 0,.int .i64 0,.int .i64 0],.bool false])/\Below w6.heap.size w6 w' by
  have:=aF9 iJ none 0 N 1 0 (lI 8) none 0 B 2 w6 hr hx aCx aBt aI9 aAp;rw [aLr] at this;exact this)
 go_enter Tryz.func7,Tryz.ntmps7
 go_upto_region 2 with(fail)
 generalize Ak:w.alloc _=w0;obtain⟨b0,e0,k0⟩:=lR Ak;have Bc:w.heap.size<w0.heap.size:=by omega
 clear e0;have z0:=k0 w0 (Yg _ _) 0;have z1:=k0 w0 (Yg _ _) 1;have z2:=k0 w0 (Yg _ _) 2;simp only [Ya,Yb,Yc] at z0 z1 z2;have Au:=Hd b0;have Ad:=Hd k0;clear Ak k0 b0
 go_upto_region 3 with(fail)
 generalize Aw:World.alloc _ _=w1;obtain⟨hp,hb,Bf,hk⟩:=HM.o w0 w1 Aw;have Bb:=Hd (Au.o.trans (hb.mono Au.o.size));have HP:=Hd hp;have HK:=Hd hk;have Ad:=Hd fun Aa (h:Below w1.heap.size w1 Aa)=>Ad.o Aa (hb.trans (h.mono hb.size));clear Aw hp hb hk HM z0 z1 z2
 go_upto_region 4 with(fail)
 generalize Aj:(w1.alloc _).alloc _=w2
 obtain⟨Ac,Ar,As⟩:Below w1.heap.size w1 w2/\(∀ Aa,Below w2.heap.size w2 Aa->∀ j,Aa.cell? ⟨w1.heap.size,j,none⟩=(aE vI none 0 none 0)[j]?)/\(∀ Aa,Below w2.heap.size w2 Aa->∀ j,Aa.cell? ⟨w1.heap.size+1,j,none⟩=(aE vJ none 0 none 0)[j]?):=by
  generalize Be:w1.alloc _=wa at Aj;obtain⟨ba,ea,ka⟩:=lR Be;obtain⟨bb,eb,kb⟩:=lR Aj;rw [ea] at kb;exact⟨ba.trans (bb.mono ba.size),fun Aa h=>ka Aa (bb.trans (h.mono bb.size)),kb⟩
 have Ba:=Hd (Bb.o.trans (Ac.mono Bb.o.size));have HP:=Hd (HP.o.below Ac);have HK:=Hd fun Aa (h:Below w2.heap.size w2 Aa)=>HK.o Aa (Ac.trans (h.mono Ac.size));have Ad:=Hd fun Aa (h:Below w2.heap.size w2 Aa)=>Ad.o Aa (Ac.trans (h.mono Ac.size));have Ah:=Hd Ar;have Ag:=Hd As;have Bg:=Hd Ac.size;clear Aj Ac Ar As;have p0:=HK.o w2 (Yg _ _) 0;have p1:=HK.o w2 (Yg _ _) 1;obtain⟨x0,x1,x2,x3,x4,x5⟩:=Sx (Ah.o w2 (Yg _ _));obtain⟨y0,y1,y2,y3,y4,y5⟩:=Sx (Ag.o w2 (Yg _ _));simp only [aP,aE,iJ,vI,vJ,Ex.k,Ex.n,Ex.s,Ex.op,Ex.arms,Ex.subs,Yo,Zd,List.getElem?_toArray,Yz,Zb] at p0 p1 x0 x1 x2 x3 x4 x5 y0 y1 y2 y3 y4 y5
 go_wp2_with fail
 generalize Av:World.alloc _ _=w3;obtain⟨hx,hb⟩:=Ao.o _ _ Av;have hp:=HP.o.below hb;clear Av Ao p0 p1 x0 x1 x2 x3 x4 x5 y0 y1 y2 y3 y4 y5;refine(Az.o _ _ _ hp hx).mono ?_;rintro e w4 ⟨rfl,Af⟩;have Af:=hb.trans (Af.mono hb.size);clear hx hp hb Az
 go_upto_region 5 with(fail)
 generalize Ap:World.alloc _ _=w5;obtain⟨b5,e5,k5⟩:=lR Ap;have Ab:=Af.trans (b5.mono Af.size);have Aq:=Hd k5;have Am:=Hd (Ba.o.trans (Ab.mono Ba.o.size));have HP:=Hd (HP.o.below Ab);have HK:=Hd fun Aa (h:Below w5.heap.size w5 Aa)=>HK.o Aa (Ab.trans (h.mono Ab.size));have Ad:=Hd fun Aa (h:Below w5.heap.size w5 Aa)=>Ad.o Aa (Ab.trans (h.mono Ab.size));have Ah:=Hd fun Aa (h:Below w5.heap.size w5 Aa)=>Ah.o Aa (Ab.trans (h.mono Ab.size));have Ag:=Hd fun Aa (h:Below w5.heap.size w5 Aa)=>Ag.o Aa (Ab.trans (h.mono Ab.size));clear Ap Af b5 e5 k5 Ab;have p0:=HK.o w5 (Yg _ _) 0;have p1:=HK.o w5 (Yg _ _) 1;obtain⟨x0,x1,x2,x3,x4,x5⟩:=Sx (Ah.o w5 (Yg _ _));obtain⟨y0,y1,y2,y3,y4,y5⟩:=Sx (Ag.o w5 (Yg _ _));simp only [aP,aE,iJ,vI,vJ,Ex.k,Ex.n,Ex.s,Ex.op,Ex.arms,Ex.subs,Yo,Zd,List.getElem?_toArray,Yz,Zb] at p0 p1 x0 x1 x2 x3 x4 x5 y0 y1 y2 y3 y4 y5
 go_wp2_with fail
 generalize Al:World.alloc _ _=w6;obtain⟨hx,hb⟩:=An.o _ _ Al;have hp:=HP.o.below hb;clear Al An p0 p1 x0 x1 x2 x3 x4 x5 y0 y1 y2 y3 y4 y5;refine(Ax.o _ _ _ hp hx).mono ?_;rintro e w7 ⟨rfl,Ae⟩;have Ae:=hb.trans (Ae.mono hb.size);clear hx hp hb Ax
 go_upto_region 6 with(fail)
 generalize Ay:World.alloc _ _=w8;obtain⟨b8,e8,k8⟩:=lR Ay;have Ai:=Ae.trans (b8.mono Ae.size);have Bd:=Hd (Am.o.trans (Ai.mono Am.o.size));obtain⟨u0,u1,u2,-,-,-⟩:=Sx (Aq.o w8 Ai);obtain⟨v0,v1,v2,-,-,-⟩:=Sx (Ad.o w8 Ai);simp only [Ya,Yb,Yc] at u0 u1 u2 v0 v1 v2;clear Ay Ae b8 e8 k8 Ai HK Ad Ah Ag Aq
 go_wp2_with fail
 go_ret
 exact⟨rfl,Bd.o⟩
end
section
open Go.RowKit Go.Sort Go.BigFrame
theorem walkCheckR(p:Pg) (E:Option Addr) (ec:Nat) (N:Option Addr) (nc:Nat) (w:World) (h:cW w p E N):
 Calls Tryz.prog 3 #[.agg (aP p E ec N nc)] w fun e w'=>e=.returned (.bool true)/\Below w.heap.size w w' :=
 aK9 p E ec N nc w h aOp fun w h ht=>aRd p E ec N nc w h ht
end
end Go.Proofs.YtegjgiofmpolnaaGreat
