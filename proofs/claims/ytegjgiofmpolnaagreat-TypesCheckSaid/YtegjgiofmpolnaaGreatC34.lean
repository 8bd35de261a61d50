/- Parts of the proof: TrB, TrC, TrE. Conditions: each theorem's own. -/
import Derived.Test.YtegjgiofmpolnaaGreatC30
import Derived.Test.YtegjgiofmpolnaaGreatC33
namespace Go.Proofs.YtegjgiofmpolnaaGreat
set_option linter.unusedVariables false
set_option linter.unusedSimpArgs false
set_option maxRecDepth 100000
set_option maxHeartbeats 40000000
section
open Go.RowKit Go.Sort Go.BigFrame
def zO(o:Option (T3 × Int)):Value:=.tuple #[.agg (aC ((o.map (·.1.1)).getD 0) ((o.map (·.1.2.1)).getD 0) ((o.map (·.1.2.2)).getD 0)),.int .i64 ((o.map (·.2)).getD 0),.bool o.isSome]
theorem aQ2(l:Option Addr) (n c:Nat) (es:List En) (x:Ex) (A:Option Addr) (ca:Nat) (B:Option Addr) (cb:Nat) (w:World) (hE:bV w l n es) (hr:aJ w x A B) (hx:cK x=true):
 Calls Tryz.prog 86 #[.slice l n c,.agg (aE x A ca B cb)] w fun e w'=>e=.returned (zO (dF es x))/\Below w.heap.size w w':=by
 have HF:=Hd fun w0 h=>mW (w:=w) (w0:=w0) (x:=x) (A:=A) (ca:=ca) (B:=B) (cb:=cb) (T:=35) (U:=38) h;have Ak:=Hd fun w1 (hb:Below w.heap.size w w1)=>zK l n c es x.s w1 (hE.below hb);have Ai:=Hd qI;have HS:=Hd (show dF es x=if(x.k==1)=true then some ((1,0,0),x.n) else if(x.k==2)=true then some ((2,0,0),x.n) else if(x.k==5)=true then some ((1,0,0),wrap64 (-(aU x 0).n)) else(cU es x.s).map fun r=>((r.1,r.2.1,0),r.2.2) from rfl)
 have Af:=Hd fun w1 (hb:Below w.heap.size w w1) (h5:x.k=5)=>(show ∃ b Ae,B=some ⟨b,Ae,none⟩/\x.subs.length=1/\w1.cell? ⟨b,Ae+1,none⟩=some (.int .i64 (aU x 0).n) from by
  have h1:x.subs.length=1:=by
   unfold cK at hx;rw [h5] at hx
   simp at hx
   exact hx.1.2
  obtain⟨b,Ae,e,Ax,Au⟩:=(hr.below hb).sub (i:=0) (by omega);obtain⟨A',c',B',d',Av,_⟩:=Au 0 (by omega);obtain⟨c0,c1,-⟩:=eG Av;exact⟨b,Ae,e,h1,by simpa using c1⟩)
 clear hE hr hx;unfold aE at HF ⊢;unfold aC at Ai;generalize dF es x=Al at *;generalize cU es x.s=ar at *;generalize hk:x.k=k at *
 by_cases h1:k=1
 . subst h1;have HN:=Hd (show Al=some ((1,0,0),x.n) from HS.o);rw [HN.o]
   go_enter Tryz.func86,Tryz.ntmps86
   go_upto_region 1 with(fail)
   generalize Ac:(w.alloc _).alloc _=w0;obtain⟨hR,Aa,Ab,Am⟩:=HF.o w0 Ac;have HR:=Hd hR;have Ad:=Hd Ab;have q0:=Aa w0 (Yg _ _) 0;have q1:=Aa w0 (Yg _ _) 1;simp only [Ya,Yb,Yc] at q0 q1;have Aj:w.heap.size≠w.heap.size+1:=by omega
   clear Ac hR Aa Ab HF Af Ak HS
   go_upto_region 3 with(fail)
   refine bZ (l1:=[_,_,_]) (os:=_) (l2:=[_,_]) (p:=4) (tx:=11) (r:=w.heap.size+1) (T:=38) (zc:=aC 0 0 0) (by kernel_rfl) (by kernel_rfl) rfl HR.o rfl bW ?_
   repeat
    apply bR rfl (by simp)
    case h1=>
     intro wb hb;have l0:=fun d os=>Zr (aD hb Aj q1) d os;have cA:=fun d os=>Zh (Ai.o 1 (grow (redrawn wb d) os))
     go_big_quiet_step (first | with_reducible exact cA _ _)
     refine Xf ?_;simp only [List.getElem?_toArray,Zb,Yz];exact rfl
    simp only [Act.put,Yd,Ye,Yf]
   refine⟨aC 1 0 0,rfl,rfl,by simp [aC,Value.oneCell'],fun W hB hz=>?_⟩;have Ag:=Hd (bF hB Ad.o (Yh _) (Nat.le_succ _));have Ah:=Hd hz;clear hB hz
   go_wp2_with fail
   exact Zt (kJ (p:=4) (u:=5) (v:=6) rfl _ _ (w.heap.size+1) 1 0 0 rfl Ah.o) rfl ⟨rfl,Ag.o⟩
 have e1:(k==1)=false:=by simpa using h1
 by_cases h2:k=2
 . subst h2;have HN:=Hd (show Al=some ((2,0,0),x.n) from HS.o);rw [HN.o]
   go_enter Tryz.func86,Tryz.ntmps86
   go_upto_region 1 with(fail)
   generalize Ac:(w.alloc _).alloc _=w0;obtain⟨hR,Aa,Ab,Am⟩:=HF.o w0 Ac;have HR:=Hd hR;have Ad:=Hd Ab;have q0:=Aa w0 (Yg _ _) 0;have q1:=Aa w0 (Yg _ _) 1;simp only [Ya,Yb,Yc] at q0 q1;have Aj:w.heap.size≠w.heap.size+1:=by omega
   clear Ac hR Aa Ab HF Af Ak HS
   go_upto_region 7 with(fail)
   refine bZ (l1:=[_,_,_]) (os:=_) (l2:=[_,_]) (p:=4) (tx:=25) (r:=w.heap.size+1) (T:=38) (zc:=aC 0 0 0) (by kernel_rfl) (by kernel_rfl) rfl HR.o rfl bW ?_
   repeat
    apply bR rfl (by simp)
    case h1=>
     intro wb hb;have l0:=fun d os=>Zr (aD hb Aj q1) d os;have cA:=fun d os=>Zh (Ai.o 2 (grow (redrawn wb d) os))
     go_big_quiet_step (first | with_reducible exact cA _ _)
     refine Xf ?_;simp only [List.getElem?_toArray,Zb,Yz];exact rfl
    simp only [Act.put,Yd,Ye,Yf]
   refine⟨aC 2 0 0,rfl,rfl,by simp [aC,Value.oneCell'],fun W hB hz=>?_⟩;have Ag:=Hd (bF hB Ad.o (Yh _) (Nat.le_succ _));have Ah:=Hd hz;clear hB hz
   go_wp2_with fail
   exact Zt (kJ (p:=4) (u:=5) (v:=6) rfl _ _ (w.heap.size+1) 2 0 0 rfl Ah.o) rfl ⟨rfl,Ag.o⟩
 have e2:(k==2)=false:=by simpa using h2
 by_cases h5:k=5
 . subst h5;obtain⟨b,Ae,rfl,hl,hc⟩:=Af.o w (Yg _ _) rfl;have Ar:=Hd hc;generalize (aU x 0).n=z at *;have HN:=Hd (show Al=some ((1,0,0),wrap64 (-z)) from HS.o);rw [HN.o];rw [hl] at HF ⊢;have Ao:=Yi _ _ hc
   go_enter Tryz.func86,Tryz.ntmps86
   go_upto_region 1 with(fail)
   generalize Ac:(w.alloc _).alloc _=w0;obtain⟨hR,Aa,Ab,Am⟩:=HF.o w0 Ac;have HR:=Hd hR;have Ad:=Hd Ab;have q0:=Aa w0 (Yg _ _) 0;have q5:=Aa w0 (Yg _ _) 5;simp only [Ya,Yb,Yc] at q0 q5;have c1:=(Ab.cell (p:=⟨b,Ae+1,none⟩) Ao).trans Ar.o;have Aj:w.heap.size≠w.heap.size+1:=by omega
   have As:b<w.heap.size:=Ao;have Aq:b≠w.heap.size+1:=by omega
   clear Ac hR Aa Ab Am HF Af Ak HS hc h1 h2 e1 e2
   go_upto_region 5 with(fail)
   refine bZ (l1:=[_,_,_,_,_,_,_]) (os:=_) (l2:=[_,_]) (p:=4) (tx:=16) (r:=w.heap.size+1) (T:=38) (zc:=aC 0 0 0) (by kernel_rfl) (by kernel_rfl) rfl HR.o rfl bW ?_
   repeat
    apply bR rfl (by simp)
    case h1=>
     intro wb hb;have l0:=fun d os=>Zr (aD hb Aj q5) d os;have l1:=fun d os=>Zr (aD hb Aq c1) d os;have cA:=fun d os=>Zh (Ai.o 1 (grow (redrawn wb d) os))
     go_big_quiet_step (first | with_reducible exact cA _ _)
     refine Xf ?_;simp only [List.getElem?_toArray,Zb,Yz];exact rfl
    simp only [Act.put,Yd,Ye,Yf]
   refine⟨aC 1 0 0,rfl,rfl,by simp [aC,Value.oneCell'],fun W hB hz=>?_⟩;have Ag:=Hd (bF hB Ad.o (Yh _) (Nat.le_succ _));have Ah:=Hd hz;clear hB hz
   go_wp2_with fail
   exact Zt (kJ (p:=4) (u:=5) (v:=6) rfl _ _ (w.heap.size+1) 1 0 0 rfl Ah.o) rfl ⟨rfl,Ag.o⟩
 have e5:(k==5)=false:=by simpa using h5
 have HV:=Hd (show zO Al=.tuple #[.agg (aC ((ar.map (·.1)).getD 0) ((ar.map (·.2.1)).getD 0) 0),.int .i64 ((ar.map (·.2.2)).getD 0),.bool ar.isSome] from by
  rw [HS.o,e1,e2,e5]
  cases ar <;> rfl)
 unfold nI aC at Ak;unfold aC at HV;rw [HV.o];clear HV HS h1 h2 h5 Af Ai;generalize (ar.map (·.2.2)).getD 0=z at *;generalize (ar.map (·.1)).getD 0=a at *;generalize (ar.map (·.2.1)).getD 0=b at *;generalize ar.isSome=t at *;clear Al ar
 go_enter Tryz.func86,Tryz.ntmps86
 go_upto_region 1 with(fail)
 generalize Ac:(w.alloc _).alloc _=w0;obtain⟨hR,Aa,Ab,Am⟩:=HF.o w0 Ac;have HR:=Hd hR;have Ad:=Hd Ab;have q0:=Aa w0 (Yg _ _) 0;have q2:=Aa w0 (Yg _ _) 2;simp only [Ya,Yb,Yc] at q0 q2;clear Ac hR Aa Ab HF
 go_wp2_with fail
 refine(Ak.o w0 Ad.o).mono ?_;rintro e w1 ⟨rfl,An⟩;have Ap:=Hd (HR.o.below An);have Aw:=Hd (Ad.o.trans (An.mono Ad.o.size));clear An q0 q2
 go_wp2_with (refine Zu rfl _ _ _ rfl (w.heap.size+1) _ rfl rfl _ _ Ap.o bM rfl (by simp [Value.oneCell']) ?_)
 exact Zt (kJ (p:=4) (u:=5) (v:=6) rfl _ _ (w.heap.size+1) a b 0 rfl (Ap.o.set a b 0)) rfl ⟨rfl,Xb Aw.o (by omega) _⟩
end
section
open Go.RowKit Go.Sort Go.BigFrame
theorem aTe{w:World}{base:Nat}{e T:TypeId}{size:Nat}{v:Value}{n:Nat}{xs:List Value}(h:w.ownsRow base e size v n xs){g:Nat}{cs:Array Value}(hg:w.heap[g]?=some (Obj.cells cs T)) (hT:e≠T){k:Nat}(hk:v.ownBlock=some k):g≠k:=by
 rcases h.2 with⟨rfl,_⟩|⟨g',cap,cur,rfl,_,h2,_⟩
 . cases hk
 . simp only [Value.ownBlock,Option.some.injEq] at hk;intro he;subst hk;subst he;rw [hg] at h2;have h2:=Option.some.inj h2;injection h2 with _ h3;exact hT h3.symm
theorem aFk{w:World}{base Aa:Nat}{e e':TypeId}{size Ab:Nat}{v v':Value}{n n':Nat}{xs Ad:List Value}(h:w.ownsRow base e size v n xs) (h':w.ownsRow Aa e' Ab v' n' Ad) (hT:e≠e'){k:Nat}(hk:v.ownBlock=some k):v'.ownBlock≠some k:=by
 rcases h'.2 with⟨rfl,_⟩|⟨g,cap,cur,rfl,hg,hh,r⟩
 . intro h;cases h
 . intro Ac;simp only [Value.ownBlock,Option.some.injEq] at Ac;subst Ac;exact aTe h hh hT hk rfl
theorem aCt{w w':World}{base k:Nat}{v:Value}{e:TypeId}{size:Nat}{xs:List Value}{row:Option Nat}(h:w.ownsRow base e size v k xs) (hg:w.grownBy w' row) (hn:∀ g,v.ownBlock=some g->row≠some g):w'.ownsRow base e size v k xs:=by
 refine⟨h.1,?_⟩;rcases h.2 with h | ⟨g,cap,cur,e1,hg2,hh,r2⟩
 . exact .inl h
 . exact .inr ⟨g,cap,cur,e1,hg2,(hg.block g (Yl.1 hh).1 (fun e=>hn g (by rw [e1];rfl) e.symm)).trans hh,r2⟩
structure TW (w0 X:World) (v u:Value) (k k':Nat) (vs:List Int) (ts:List T3):Prop where
 V:X.ownsRow w0.heap.size 2 1 v k (vs.map (Value.int .i64))
 T:X.ownsRow w0.heap.size 38 3 u k' (fJ ts)
 B:Below w0.heap.size w0 X
section
variable {w0 X X':World}{v u:Value}{k k':Nat}{vs:List Int}{ts:List T3}
theorem TW.below(h:TW w0 X v u k k' vs ts) (hb:Below X.heap.size X X'):TW w0 X' v u k k' vs ts:=⟨fK h.V hb,fK h.T hb,h.B.trans (hb.mono h.B.size)⟩
theorem TW.alloc(h:TW w0 X v u k k' vs ts) (o:Obj):TW w0 (X.alloc o) v u k k' vs ts:=h.below ((Yg _ _).alloc (Yh _) o)
theorem TW.drew(h:TW w0 X v u k k' vs ts):TW w0 X.drew v u k k' vs ts:=h.below (Below.drew (Yg _ _))
theorem qB{ops:Array Oper}{o:Oper}{a:Act}{K:Act->World->Prop}{Q:Exit->Act->World->Prop}{E:Prop}{ov:Int}{gs:Nat}(Af:o.guard=none) (s x:Operand)
 (ho:o.op=.call { callee:=.builtin .append,args:=#[s,x],argTypes:=#[44,44] })
 (hs:a.eval s=v) (hx:a.eval x=.slice (some ⟨gs,0,none⟩) 1 1) (hk:k<=1000)
 (hT:TW w0 X v u k k' vs ts) (Aa:X.heap[gs]?=some (Obj.cells #[.int .i64 ov] 2))
 (h:∀ (A':Option Addr) (c':Nat) (X':World),TW w0 X' (.slice A' (k+1) c') u (k+1) k' (vs++[ov]) ts->(∀ (g:Nat) (cs:Array Value),X.heap[g]?=some (Obj.cells cs 38)->X'.heap[g]?=some (Obj.cells cs 38))->K (a.put o.dst (.slice A' (k+1) c')) X'):
 if Region.wanted o (yielded ops a.tmps)=true then Oper.wp Tryz.prog o a X K Q else E:=by
 obtain⟨i0,Ab,Ad,Ae,Ac⟩:=info_parts aEq;refine oR Af s x _ ho w0.heap.size _ i0 (.int .i64 0) 1 8 Tryz.underlying44 Ab Ad Ae Ac rfl (by decide) v k _ hs hT.V (some ⟨gs,0,none⟩) 1 1 [.int .i64 ov] hx rfl (fun h=>by cases h) (fun ad e j u hu=>by cases e;exact World.news_of_block Aa j u hu) (by simp [Value.oneCell']) (by unfold maxLen;omega) (by omega) hT.B.size ?_;intro A' c' X' h1 h2 _
 exact h A' c' X' ⟨by rw [Zp];exact h1,aCt hT.T h2 (fun g hg=>aFk hT.T hT.V (by decide) hg),hT.B.grown h2 hT.B.size (fun j hj=>(hT.V.lt j hj).1)⟩
  (fun g cs hg=>(h2.block g (Yl.1 hg).1 (mT hT.V hg (by decide))).trans hg)
theorem qJ{ops:Array Oper}{o:Oper}{a:Act}{K:Act->World->Prop}{Q:Exit->Act->World->Prop}{E:Prop}{oa ob oc:Int}{gs:Nat}(Ag:o.guard=none) (s x:Operand)
 (ho:o.op=.call { callee:=.builtin .append,args:=#[s,x],argTypes:=#[99,99] })
 (hs:a.eval s=u) (hx:a.eval x=.slice (some ⟨gs,0,none⟩) 1 1) (hk:k'<=1000)
 (hT:TW w0 X v u k k' vs ts) (Aa:X.heap[gs]?=some (Obj.cells #[.int .i64 oa,.int .i64 ob,.int .i64 oc] 38))
 (h:∀ (A':Option Addr) (c':Nat) (X':World),TW w0 X' v (.slice A' (k'+1) c') k (k'+1) vs (ts++[(oa,ob,oc)])->(∀ (g:Nat) (cs:Array Value),X.heap[g]?=some (Obj.cells cs 2)->X'.heap[g]?=some (Obj.cells cs 2))->(∀ g:Nat,g<X.heap.size->some g≠u.ownBlock->X'.heap[g]?=X.heap[g]?)->K (a.put o.dst (.slice A' (k'+1) c')) X'):
 if Region.wanted o (yielded ops a.tmps)=true then Oper.wp Tryz.prog o a X K Q else E:=by
 obtain⟨i0,z0,Ab,Ac,Ae,Ad,Af⟩:=nO rW;refine oR Ag s x _ ho w0.heap.size _ i0 z0 3 24 Tryz.underlying99 Ab Ac Ae Ad Af (by decide) u k' _ hs hT.T (some ⟨gs,0,none⟩) 1 1 [.int .i64 oa,.int .i64 ob,.int .i64 oc] hx rfl (fun h=>by cases h) (fun ad e j u hu=>by cases e;exact World.news_of_block Aa j u hu) (by simp [Value.oneCell']) (by unfold maxLen;omega) (by omega) hT.B.size ?_;intro A' c' X' h1 h2 _
 exact h A' c' X' ⟨aCt hT.V h2 (fun g hg=>aFk hT.V hT.T (by decide) hg),by rw [rU,rV];exact h1,hT.B.grown h2 hT.B.size (fun j hj=>(hT.T.lt j hj).1)⟩
  (fun g cs hg=>(h2.block g (Yl.1 hg).1 (mT hT.T hg (by decide))).trans hg) (fun g hg hn=>h2.block g hg hn)
end
def aN9(w:World) (o:Option (List Int × T3)) (e:Ending) (w':World):Prop:=
 ∃ S n c a b d vs,e=.returned (.tuple #[.slice S n c,.agg (aC a b d),.bool o.isSome])/\cZ w' S n vs/\n<=c/\c<=maxLen/\((∀ r,o=some r->r=(vs,(a,b,d)))/\(o=none->vs=[]/\a=0/\b=0/\d=0))/\Below w.heap.size w w'/\∀ b Aa,S=some ⟨b,Aa,none⟩->w.heap.size<=b
theorem aGp{β:Type}{f:Ex->Option β}{l:List Ex}{k:Nat}(hk:k<l.length):bK ((l.take (k+1)).map f)=match bK ((l.take k).map f) with | none=>none | some ts=>(f (l[k]?.getD default)).map fun a=>ts++[a]:=by
 rw [List.take_succ_eq_append_getElem hk,Zp,Xg,List.map_nil,wW,Yk hk];rfl
theorem aGq{β:Type}{f:Ex->Option β}{l:List Ex}{k:Nat}(hk:k<l.length) (h:f (l[k]?.getD default)=none):bK (l.map f)=none:=by
 refine tK (k:=k) (by rw [List.length_map];exact hk) ?_;rw [List.getElem?_map,Yk hk];rw [Yk hk] at h;exact h
theorem aDz{W:World}{g:Nat}{a b c:Int}{T:TypeId}(h:W.heap[g]?=some (Obj.cells #[.int .i64 a,.int .i64 b,.int .i64 c] T)):W.cell? ⟨g,0,none⟩=some (.int .i64 a)/\W.cell? ⟨g,1,none⟩=some (.int .i64 b)/\W.cell? ⟨g,2,none⟩=some (.int .i64 c):=by
 have h:F3 T W g a b c:=h;exact⟨h.cell 0,h.cell 1,h.cell 2⟩
theorem aTf{X X':World}{u:Value}{g:Nat}{o:Obj}(hl:∀ g,g<X.heap.size->some g≠u.ownBlock->X'.heap[g]?=X.heap[g]?) (hn:some g≠u.ownBlock) (h:X.heap[g]?=some o):X'.heap[g]?=some o:=(hl g (Yl.1 h).1 hn).trans h
theorem aD0(l:Option Addr) (ln lc:Nat) (es:List En) (A:Option Addr) (n c:Nat) (xs:List Ex) (w:World) (hE:bV w l ln es) (hr:eA w A n xs) (Av:∀ k,k<n->cK (xs[k]?.getD default)=true) (h0:0<n) (hn:n<=60) (oo:Option (List Int × T3)) (Bq:mK es xs=oo):
 Calls Tryz.prog 47 #[.slice l ln lc,.slice A n c] w (aN9 w oo):=by
 have Dw:=hr.len;have Az:=Hd fun k (hk:k<n) A' Bb B' Ay w1 (hb:Below w.heap.size w w1) (Aq:aJ w1 (xs[k]?.getD default) A' B')=>aQ2 l ln lc es (xs[k]?.getD default) A' Bb B' Ay w1 (hE.below hb) Aq (Av k hk);have Bx:=Hd fun k (hk:k<n)=>hr.at_ hk;have Cc:=Hd fun k (hk:k<n)=>aGp (f:=dF es) (l:=xs) (k:=k) (by omega);have Ch:=Hd fun k (hk:k<n) h=>aGq (f:=dF es) (l:=xs) (k:=k) (by omega) h;have Bd:=Hd (show xs.take n=xs from Yx (by omega));have HZ:=Hd (show bK ((xs.take 0).map (dF es))=some [] from rfl);have Cb:=Hd (show oo=match bK (xs.map (dF es)) with | none=>none | some rs=>oN rs from Bq.symm);have An:=Hd kS;have Bj:=Hd eC;clear hE hr Av Bq;unfold zO aC at Az;unfold aC at An;unfold aE at Az Bj
 go_enter Tryz.func47,Tryz.ntmps47
 go_upto_region 1 with(fail)
 generalize Bo:w.alloc _=w0;obtain⟨Ct,hR,Dx⟩:=jA Bo;have Ba:=Hd Ct;have HR:=Hd hR;clear Bo Ct hR
 go_wp2_with fail
 go_loopw [7,8,16] (fun v u i wr=>∃ (k:Nat) (rs:List (T3 × Int)),k<=n/\i=.int .i64 k/\bK ((xs.take k).map (dF es))=some rs/\TW w0 wr v u k k (rs.map (·.2)) (rs.map (·.1))) (fun _ _ i _=>n-(intOf i).toNat)
 case atStart=>exact⟨0,[],Yq _,rfl,HZ.o,⟨World.ownsRow_nil _ _ _ _,World.ownsRow_nil _ _ _ _,Yg _ _⟩⟩
 case round=>
  obtain⟨k,rs,hk,rfl,Aw,Bc⟩:=hrel;have Co:=Hd Aw;have Ac:=Hd Bc;have Aj:=Hd (Ba.o.trans (Bc.B.mono Ba.o.size));have Cr:=Hd (HR.o.below Bc.B);clear Aw Bc
  by_cases Ar:k<n
  . obtain⟨b,Bg,rfl,hb,Cd⟩:=Bx.o k Ar;obtain⟨A',Bb,B',Ay,Cn,Aq⟩:=Cd k Ar;obtain⟨c0,c1,c2,c3,c4,c5⟩:=eG (jH Cn hb fun p hp=>Aj.o.cell hp);have Dp:=Hd (Aq.below Aj.o);have Dh:=Hd fun w1 hb Aq=>Az.o k Ar A' Bb B' Ay w1 hb Aq;have Dk:=Hd (Ch.o k Ar);have Df:=Hd (Cc.o k Ar);clear Cd Cn Aq;generalize xs[k]?.getD default=y at *;have HX:=Hd fun w1 hw=>Bj.o wr y A' Bb B' Ay w1 hw Dp.o;generalize dF es y=o at *;generalize Bw:(o.map (·.2)).getD 0=ov at *;generalize Cf:(o.map (·.1.1)).getD 0=oa at *;generalize Ca:(o.map (·.1.2.1)).getD 0=ob at *;generalize Cu:(o.map (·.1.2.2)).getD 0=oc at *;generalize Cm:o.isSome=os at *;have HV:=Hd (show ∀ r,o=some r->r=((oa,ob,oc),ov) from fun r h=>by subst h Bw Cf Ca Cu;rfl);have HS:=Hd Cm;clear Bw Cf Ca Cu Cm
    go_upto_region 6 with(fail)
    generalize Bn:wr.alloc _=w4;obtain⟨Bi,Du,Ax,Cq⟩:=HX.o w4 Bn;obtain⟨e0,e1,e2,e3,e4,e5⟩:=Sx (Cq w4 (Yg _ _));simp only [Ya,Yb,Yc] at e0 e1 e2 e3 e4 e5;have Bp:=Hd (Ac.o.below Bi);have De:=Hd (Aj.o.trans (Bi.mono Aj.o.size));have Ck:=Hd (Dh.o w4 De.o Ax);clear Bn Bi Du Ax Cq c0 c1 c2 c3 c4 c5 HX
    go_wp2_with fail
    refine Ck.o.mono ?_;rintro e w5 ⟨rfl,Cg⟩;have Bh:=Hd (Bp.o.below Cg);clear Cg e0 e1 e2 e3 e4 e5 Ck
    go_upto_region 7 with(fail)
    generalize Ap:w5.alloc _=w6;obtain⟨Ci,Bt,Cv⟩:=gM Ap;have Ac:=Hd (Bh.o.below Ci);have Ce:=Hd (HR.o.below Ac.o.B);have Dt:=Hd (Ba.o.trans (Ac.o.B.mono Ba.o.size));have Db:=Hd (show some w5.heap.size≠u8.ownBlock from fun e=>by have:=(Bh.o.T.lt _ e.symm).2;omega);have Bv:=Hd (show w6.heap[w5.heap.size]?=some (Obj.cells #[.int .i64 oa,.int .i64 ob,.int .i64 oc] 38) from Bt);clear Ap Ci Bt Cv Bp Bh;generalize w5.heap.size=g at *
    cases os with
    | false=>
     have HO:=Hd (show o=none by have:=HS.o;cases o with | none=>rfl | some r=>cases this);have Ai:=Hd (show oo=none by rw [Cb.o,Dk.o HO.o])
     go_wp2_with (refine Zu rfl _ _ _ rfl w.heap.size _ rfl rfl _ _ Ce.o bM rfl (by simp [Value.oneCell']) ?_)
     exact Zt (gW (p:=5) (u:=4) (v:=6) rfl _ _ w.heap.size 0 0 0 rfl (Ce.o.set _ _ _)) rfl ⟨none,0,0,0,0,0,[],by rw [Ai.o];rfl,cZ.nil_ _,Yh _,by unfold maxLen;omega,⟨fun r h=>(by rw [Ai.o] at h;cases h),fun _=>⟨rfl,rfl,rfl,rfl⟩⟩,Xb Dt.o (Yh _) _,fun b Bg h=>(by cases h)⟩
    | true=>
     have HO:=Hd (show o=some ((oa,ob,oc),ov) by have:=HS.o;cases h:o with | none=>rw [h] at this;cases this | some r=>rw [HV.o r h]);have Dn:=Hd (show bK ((xs.take (k+1)).map (dF es))=some (rs++[((oa,ob,oc),ov)]) by rw [Df.o,Co.o,HO.o];rfl);obtain⟨f0,f1,f2⟩:=aDz Bv.o;have Ah:k<=1000:=by omega
     go_upto_region 9 with(fail)
     go_region_held3 (fun W=>W.cell? ⟨g,0,none⟩=some (.int .i64 oa)/\W.cell? ⟨g,1,none⟩=some (.int .i64 ob)/\W.cell? ⟨g,2,none⟩=some (.int .i64 oc)) (first | with_reducible exact⟨f0,f1,f2⟩ | (refine aDz (T:=38) ?_;repeat' (first | with_reducible exact Bv.o | with_reducible refine iW ?_ | with_reducible refine dX _ ?_ | with_reducible refine Ak.o _ _ ?_ | with_reducible refine aTf Ao.o Db.o ?_)))
      ((first
        | (refine qB (by rfl) _ _ (by rfl) (by rfl) (by rfl) Ah ((Ac.o.alloc _).drew) (Zw _ _) ?_;intro A9 c9 w9 Ab Ad;have Ac:=Hd Ab;have Ak:=Hd Ad;clear Ab Ad)
        | (refine qB (by rfl) _ _ (by rfl) (by rfl) (by rfl) Ah (((Ac.o.alloc _).alloc _).drew) (dX _ (Zw _ _)) ?_;intro A9 c9 w9 Ab Ad;have Ac:=Hd Ab;have Ak:=Hd Ad;clear Ab Ad)
        | (refine qB (by rfl) _ _ (by rfl) (by rfl) (by rfl) Ah (((Ac.o.alloc _).alloc _).drew) (heap_alloc2_new _ _ _) ?_;intro A9 c9 w9 Ab Ad;have Ac:=Hd Ab;have Ak:=Hd Ad;clear Ab Ad)
        | (refine qB (by rfl) _ _ (by rfl) (by rfl) (by rfl) Ah (Ac.o.alloc _) (Zw _ _) ?_;intro A9 c9 w9 Ab Ad;have Ac:=Hd Ab;have Ak:=Hd Ad;clear Ab Ad)
        | (refine qB (by rfl) _ _ (by rfl) (by rfl) (by rfl) Ah (Ac.o) (Am.o _ _ (dX _ (Zw _ _))) ?_;intro A9 c9 w9 Ab Ad;have Ac:=Hd Ab;have Ak:=Hd Ad;clear Ab Ad)
        | (refine qB (by rfl) _ _ (by rfl) (by rfl) (by rfl) Ah (Ac.o) (Am.o _ _ (heap_alloc2_new _ _ _)) ?_;intro A9 c9 w9 Ab Ad;have Ac:=Hd Ab;have Ak:=Hd Ad;clear Ab Ad)
        | (refine qJ (by rfl) _ _ (by rfl) (by rfl) (by rfl) Ah ((Ac.o.alloc _).drew) (Zw _ _) ?_;intro A8 c8 w8 Aa Ae Af;have Ac:=Hd Aa;have Am:=Hd Ae;have Ao:=Hd Af;clear Aa Ae Af)
        | (refine qJ (by rfl) _ _ (by rfl) (by rfl) (by rfl) Ah (((Ac.o.alloc _).alloc _).drew) (dX _ (Zw _ _)) ?_;intro A8 c8 w8 Aa Ae Af;have Ac:=Hd Aa;have Am:=Hd Ae;have Ao:=Hd Af;clear Aa Ae Af)
        | (refine qJ (by rfl) _ _ (by rfl) (by rfl) (by rfl) Ah (((Ac.o.alloc _).alloc _).drew) (heap_alloc2_new _ _ _) ?_;intro A8 c8 w8 Aa Ae Af;have Ac:=Hd Aa;have Am:=Hd Ae;have Ao:=Hd Af;clear Aa Ae Af)
        | (refine qJ (by rfl) _ _ (by rfl) (by rfl) (by rfl) Ah (Ac.o.alloc _) (Zw _ _) ?_;intro A8 c8 w8 Aa Ae Af;have Ac:=Hd Aa;have Am:=Hd Ae;have Ao:=Hd Af;clear Aa Ae Af)
        | (refine qJ (by rfl) _ _ (by rfl) (by rfl) (by rfl) Ah (Ac.o) (Ak.o _ _ (dX _ (Zw _ _))) ?_;intro A8 c8 w8 Aa Ae Af;have Ac:=Hd Aa;have Am:=Hd Ae;have Ao:=Hd Af;clear Aa Ae Af)
        | (refine qJ (by rfl) _ _ (by rfl) (by rfl) (by rfl) Ah (Ac.o) (Ak.o _ _ (heap_alloc2_new _ _ _)) ?_;intro A8 c8 w8 Aa Ae Af;have Ac:=Hd Aa;have Am:=Hd Ae;have Ao:=Hd Af;clear Aa Ae Af)))
     all_goals
      go_wp2_with fail
      go_roundw
      case rel=>exact⟨k+1,rs++[((oa,ob,oc),ov)],by omega,by go_num,Dn.o,by rw [Zp,Zp];exact Ac.o⟩
      case measure=>simp [intOf];omega
  . obtain rfl:k=n:=by omega
    have Cj:=Hd (show oo=oN rs by rw [Cb.o];have:=Co.o;rw [Bd.o] at this;rw [this])
    have Dm:rs.length=k:=by
     have:=Ac.o.V.1
     simpa using this
    obtain⟨S,cS,rfl,Bl⟩:=aM.of_own Ac.o.T (by omega);obtain⟨D,cD,rfl,Bf,Br,Cl⟩:=cZ.of_own Ac.o.V (by omega);have Dg:=Hd Bl;have Cs:=Hd Bf;obtain⟨sb,so,rfl,Dy,Bu⟩:=Bl.at_ h0;obtain⟨db,Cp,rfl,Dr,Dq⟩:=Bf.2.2 h0;have Ds:=(Ac.o.V.lt db rfl).1;have Cy:=(Ac.o.T.lt sb rfl).1;have Cz:=Hd (show db≠w.heap.size by omega);have Dd:=Hd (show w.heap.size<db by omega);have Dl:=Hd (show sb≠w.heap.size by omega);clear Dr Dq Ds Cy;obtain⟨d0,d1,d2⟩:=Bu 0 h0;simp only [Nat.zero_mul,Nat.add_zero] at d0 d1 d2;have Di:=Hd Br;have Dj:=Hd Cl;have As:=Hd (show dH (rs.map (·.1))=dV (aB (rs.map (·.1)) 0) (rs.map (·.1)) from rfl);have Bz:=Hd (show oN rs=if dH (rs.map (·.1))=true then some (rs.map (·.2),aB (rs.map (·.1)) 0) else none from rfl);clear Bl Bf Bu Br Cl;generalize Ea:rs.map (·.1)=ts at *;generalize Dv:rs.map (·.2)=vs at *;generalize Dz:aB ts 0=ta at *;obtain⟨t0,t1,t2⟩:=ta
    dsimp only at d0 d1 d2
    have Bk:=Hd (An.o t0 t1 t2 (some ⟨sb,so,none⟩) k cS ts wr Dg.o);rw [<- As.o] at Bk;generalize dH ts=al at *;clear Az An Bj Bx Cc Ch As
    cases al with
    | false=>
     have Ai:=Hd (show oo=none by rw [Cj.o,Bz.o];rfl)
     go_wp2_with fail
     refine Bk.o.mono ?_;rintro e w2 ⟨rfl,Ag⟩;have Bm:=Hd (Aj.o.trans (Ag.mono Aj.o.size));have Al:=Hd (Cr.o.below Ag);have Au:=Hd (Cs.o.below Ag);have d0:=(Ag.cell (Yi _ _ d0)).trans d0;have d1:=(Ag.cell (Yi _ _ d1)).trans d1;have d2:=(Ag.cell (Yi _ _ d2)).trans d2;clear Ag
     go_wp2_with (refine Zu rfl _ _ _ rfl w.heap.size _ rfl rfl _ _ Al.o bM rfl (by simp [Value.oneCell']) ?_)
     exact Zt (gW (p:=5) (u:=4) (v:=6) rfl _ _ w.heap.size 0 0 0 rfl (Al.o.set _ _ _)) rfl ⟨none,0,0,0,0,0,[],by rw [Ai.o];rfl,cZ.nil_ _,Yh _,by unfold maxLen;omega,⟨fun r h=>(by rw [Ai.o] at h;cases h),fun _=>⟨rfl,rfl,rfl,rfl⟩⟩,Xb Bm.o (Yh _) _,fun b Bg h=>(by cases h)⟩
    | true=>
     have Ai:=Hd (show oo=some (vs,(t0,t1,t2)) by rw [Cj.o,Bz.o];rfl)
     go_wp2_with fail
     refine Bk.o.mono ?_;rintro e w2 ⟨rfl,Ag⟩;have Bm:=Hd (Aj.o.trans (Ag.mono Aj.o.size));have Al:=Hd (Cr.o.below Ag);have Au:=Hd (Cs.o.below Ag);have d0:=(Ag.cell (Yi _ _ d0)).trans d0;have d1:=(Ag.cell (Yi _ _ d1)).trans d1;have d2:=(Ag.cell (Yi _ _ d2)).trans d2;clear Ag;obtain⟨v0,v1,v2,-,-,-⟩:=Sx Al.o.cell;simp only [aC,List.getElem?_toArray,Yz,Zb] at v0 v1 v2;have fz:∀ j,w2.frozen? ⟨w.heap.size,j,none⟩=false:=fun j=>frozen_of_row _ _ j _ _ Al.o;have n1:=Dl.o;have n2:w.heap.size≠sb:=Ne.symm n1
     go_upto_region 13 with(fail)
     go_region
     have hI:=Au.o.set (r:=w.heap.size) Cz.o (aC t0 t1 t2);generalize Be:World.drew _=w5;have Ap:=Be;rw [fX Al.o] at Ap;obtain⟨hF,hB⟩:=qR Al.o Bm.o (Yh _) Be;have Cw:=Hd hF;have Cx:=Hd hB;have Da:=Hd (show cZ w5 (some ⟨db,Cp,none⟩) k vs by rw [<- Ap];exact hI);clear Be Ap hF hB hI
     go_wp2_with fail
     exact Zt (gW (p:=5) (u:=4) (v:=6) rfl _ _ w.heap.size t0 t1 t2 rfl Cw.o) rfl ⟨some ⟨db,Cp,none⟩,k,cD,t0,t1,t2,vs,by rw [Ai.o];rfl,Da.o,Di.o,Dj.o,⟨fun r h=>(by rw [Ai.o] at h;exact(Option.some.inj h).symm),fun h=>(by rw [Ai.o] at h;cases h)⟩,Cx.o,fun b Bg h=>(by injection h with h;injection h with h1 _;rw [<- h1];exact Nat.le_of_lt Dd.o)⟩
end
section
open Go.RowKit Go.Sort Go.BigFrame
theorem eA.lit1{w:World}{x:Ex}{A:Option Addr}{ca:Nat}{B:Option Addr}{cb:Nat}(h:aJ w x A B) (T:TypeId):eA (w.alloc (.cells (aE x A ca B cb) T)) (some ⟨w.heap.size,0,none⟩) 1 [x]:=
 ⟨rfl,by omega,fun _=>⟨_,0,rfl,by simp,xP [x] fun i hi=>by
  obtain rfl:i=0:=by simpa using hi
  refine⟨A,ca,B,cb,?_,h.alloc _⟩;intro j v hv;rw [Zo,show 0+0*6+j=j by omega]
  show(aE x A ca B cb)[j]?=some v
  rw [<- aSs,List.getElem?_toArray];exact hv⟩⟩
theorem cZ.setN{w:World}{S:Option Addr}{r n:Nat}{l:List Int}(h:cZ w S n l) (hn:∀ b Aa,S=some ⟨b,Aa,none⟩->b<w.heap.size->b≠r) (cs:Array Value):cZ (w.setRow r cs) S n l:=
 ⟨h.1,h.2.1,fun h0=>by
  obtain⟨b,Aa,e,hb,hc⟩:=h.2.2 h0;exact⟨b,Aa,e,by simpa [World.setRow] using hb,fun i hi=>(Ym (a:=⟨b,_,none⟩) (setRow_other _ _ _ _ (hn b Aa e hb))).trans (hc i hi)⟩⟩
theorem aLi(l:Option Addr) (n c:Nat) (x:Ex) (A:Option Addr) (ca:Nat) (B:Option Addr) (cb:Nat) (w:World) (hr:aJ w x A B) (hs:bG x<=1000000) (Al:∀ p∈bI x,cL p) (An:(bB x && dC x)=false):
 Calls Tryz.prog 17 #[.slice l n c,.agg (aE x A ca B cb)] w (jI w none):=by
 have HF:=Hd fun w0 h=>qS (w:=w) (w0:=w0) (x:=x) (A:=A) (ca:=ca) (B:=B) (cb:=cb) h;have Ac:=Hd fun w1 (hb:Below w.heap.size w w1)=>rY x A ca B cb w1 (hr.below hb) hs Al;have Ai:=Hd fun w1 (hb:Below w.heap.size w w1)=>uJ x A ca B cb w1 (hr.below hb);clear hr hs Al;generalize bB x=br at *;generalize dC x=bc at *;unfold aE at HF Ac Ai ⊢
 go_enter Tryz.func17,Tryz.ntmps17
 go_upto_region 1 with(fail)
 generalize Aj:(w.alloc _).alloc _=w0;obtain⟨hR,hx,Ah,Ao⟩:=HF.o w0 Aj;have HR:=Hd hR;have HX:=Hd hx;have Af:=Hd Ah;obtain⟨q0,q1,q2,q3,q4,q5⟩:=Sx (hx w0 (Yg _ _));simp only [Ya,Yb,Yc] at q0 q1 q2 q3 q4 q5;have Ae:=Hd (Ai.o w0 Ah);clear Aj hR hx Ah Ao HF Ai
 cases bc with
 | false=>
  go_wp2_with fail
  refine Ae.o.mono ?_;rintro e w1 ⟨rfl,Aa⟩;have Ad:=Hd (HR.o.below Aa);have Ab:=Hd (Af.o.trans (Aa.mono Af.o.size));clear Aa q0 q1 q2 q3 q4 q5 Ae Ac
  go_wp2_with (refine Zu rfl _ _ _ rfl (w.heap.size+1) _ rfl rfl _ _ Ad.o bM rfl (by simp [Value.oneCell']) ?_)
  exact Zt (gW (p:=5) (u:=4) (v:=6) rfl _ _ (w.heap.size+1) 0 0 0 rfl (Ad.o.set _ _ _)) rfl ⟨none,0,0,0,0,0,[],rfl,cZ.nil_ _,Yh _,by unfold maxLen;omega,⟨fun r h=>(by cases h),fun _=>⟨rfl,rfl,rfl,rfl⟩⟩,Xb Ab.o (by omega) _⟩
 | true=>
  obtain rfl:br=false:=by simpa using An
  go_wp2_with fail
  refine Ae.o.mono ?_;rintro e w1 ⟨rfl,Aa⟩;have Ad:=Hd (HR.o.below Aa);have Ab:=Hd (Af.o.trans (Aa.mono Af.o.size));have Aq:=Hd fun w' (h:Below w1.heap.size w1 w') j=>HX.o w' (Aa.trans (h.mono Aa.size)) j;obtain⟨r0,r1,r2,r3,r4,r5⟩:=Sx (HX.o w1 Aa);simp only [Ya,Yb,Yc] at r0 r1 r2 r3 r4 r5;have Ak:=Hd (Ac.o w1 Ab.o);clear Aa q0 q1 q2 q3 q4 q5 Ae Ac
  go_wp2_with fail
  refine Ak.o.mono ?_;rintro e w2 ⟨rfl,Ag⟩;have Am:=Hd (Ad.o.below Ag);have Ap:=Hd (Ab.o.trans (Ag.mono Ab.o.size));clear Ag r0 r1 r2 r3 r4 r5 Ak Aq
  go_wp2_with (refine Zu rfl _ _ _ rfl (w.heap.size+1) _ rfl rfl _ _ Am.o bM rfl (by simp [Value.oneCell']) ?_)
  exact Zt (gW (p:=5) (u:=4) (v:=6) rfl _ _ (w.heap.size+1) 0 0 0 rfl (Am.o.set _ _ _)) rfl ⟨none,0,0,0,0,0,[],rfl,cZ.nil_ _,Yh _,by unfold maxLen;omega,⟨fun r h=>(by cases h),fun _=>⟨rfl,rfl,rfl,rfl⟩⟩,Xb Ap.o (by omega) _⟩
theorem aIz(l:Option Addr) (n c:Nat) (es:List En) (x:Ex) (A:Option Addr) (ca:Nat) (B:Option Addr) (cb:Nat) (w:World) (hE:bV w l n es) (hr:aJ w x A B) (hs:bG x<=1000000) (Aq:∀ p∈bI x,cL p) (Aa:(bB x && dC x)=true) (hk:x.k≠14) (oo:Option (List Int × T3)) (Ac:mK es [x]=oo):
 Calls Tryz.prog 17 #[.slice l n c,.agg (aE x A ca B cb)] w (jI w oo):=by
 have Ae:cK x=true:=by
  simp only [Ys] at Aa;have:=Aa.2;unfold dC at this;rwa [if_neg (by simpa using hk)] at this
 have HF:=Hd fun w0 h=>qS (w:=w) (w0:=w0) (x:=x) (A:=A) (ca:=ca) (B:=B) (cb:=cb) h;have Aj:=Hd fun w1 (hb:Below w.heap.size w w1)=>rY x A ca B cb w1 (hr.below hb) hs Aq;have Ah:=Hd fun w1 (hb:Below w.heap.size w w1)=>uJ x A ca B cb w1 (hr.below hb);have Au:=Hd fun w1 S (hb:Below w.heap.size w w1) (Ak:eA w1 S 1 [x])=>aD0 l n c es S 1 1 [x] w1 (hE.below hb) Ak (fun k hk=>(by obtain rfl:k=0:=(by omega);exact Ae)) (by omega) (by omega) oo Ac;have An:=Hd fun w1 (hb:Below w.heap.size w w1)=>eA.lit1 (ca:=ca) (cb:=cb) (hr.below hb) 35;have Bm:(x.k != 14)=true:=bne_iff_ne.2 hk;simp only [Ys] at Aa;rw [Aa.1] at Aj;rw [Aa.2] at Ah;clear hE hr hs Aq Aa Ae hk Ac;unfold aE at HF Aj Ah An ⊢
 go_enter Tryz.func17,Tryz.ntmps17
 go_upto_region 1 with(fail)
 generalize Ap:(w.alloc _).alloc _=w0;obtain⟨hR,hx,Am,Bg⟩:=HF.o w0 Ap;have HR:=Hd hR;have HX:=Hd hx;have Av:=Hd Am;obtain⟨q0,q1,q2,q3,q4,q5⟩:=Sx (hx w0 (Yg _ _));simp only [Ya,Yb,Yc] at q0 q1 q2 q3 q4 q5;have As:=Hd (Ah.o w0 Am);clear Ap hR hx Am Bg HF Ah
 go_wp2_with fail
 refine As.o.mono ?_;rintro e w1 ⟨rfl,Ab⟩;have Bf:=Hd (HR.o.below Ab);have Ao:=Hd (Av.o.trans (Ab.mono Av.o.size));have Az:=Hd fun w' (h:Below w1.heap.size w1 w') j=>HX.o w' (Ab.trans (h.mono Ab.size)) j;obtain⟨r0,r1,r2,r3,r4,r5⟩:=Sx (HX.o w1 Ab);simp only [Ya,Yb,Yc] at r0 r1 r2 r3 r4 r5;have Ba:=Hd (Aj.o w1 Ao.o);clear Ab q0 q1 q2 q3 q4 q5 As Aj
 go_wp2_with fail
 refine Ba.o.mono ?_;rintro e w2 ⟨rfl,Ai⟩;have Bb:=Hd (Bf.o.below Ai);have Ag:=Hd (Ao.o.trans (Ai.mono Ao.o.size));obtain⟨s0,s1,s2,s3,s4,s5⟩:=Sx (Az.o w2 Ai);simp only [Ya,Yb,Yc] at s0 s1 s2 s3 s4 s5;have Bj:=Hd (An.o w2 Ag.o);have Bc:=Hd fun w3 hb Ak=>Au.o w3 (some ⟨w2.heap.size,0,none⟩) hb Ak;have Bn:=Bb.o.lt;clear Ai r0 r1 r2 r3 r4 r5 Ba Az An Au
 go_wp2_with fail
 refine(Bc.o _ (Ag.o.alloc Ag.o.size _) Bj.o).mono ?_;rintro e w3 ⟨S,m,sc,a,b,d,vs,rfl,Ar,Aw,Ay,Ac,Af,Ad⟩;have Af:=((Yg w2.heap.size w2).alloc (Yh _) (.cells #[.int .i64 x.k,.int .i64 x.n,.string x.s,.int .i64 x.op,.slice A x.arms.length ca,.slice B x.subs.length cb] 35)).trans (Af.mono (by simp));have Ax:=Hd (Bb.o.below Af);have Be:=Hd (Ag.o.trans (Af.mono Ag.o.size));have Bl:=Hd Ar;have Bd:=Hd Ac;have Bk:=Hd Aw;have Bh:=Hd Ay;have Bi:=Hd (show ∀ b Al,S=some ⟨b,Al,none⟩->b<w3.heap.size->b≠w.heap.size+1 from fun b Al h _=>by have:=Ad b Al h;simp at this;omega);clear Af Ar Ac Aw Ay Ad s0 s1 s2 s3 s4 s5
 go_wp2_with (refine Zu rfl _ _ _ rfl (w.heap.size+1) _ rfl rfl _ _ Ax.o bM rfl (by simp [Value.oneCell',aC]) ?_)
 exact Zt (gW (p:=5) (u:=4) (v:=6) rfl _ _ (w.heap.size+1) a b d rfl (Ax.o.set _ _ _)) rfl ⟨S,m,sc,a,b,d,vs,rfl,Bl.o.setN Bi.o _,Bk.o,Bh.o,Bd.o,Xb Be.o (by omega) _⟩
theorem aI0(l:Option Addr) (n c:Nat) (es:List En) (x:Ex) (A:Option Addr) (ca:Nat) (B:Option Addr) (cb:Nat) (w:World) (hE:bV w l n es) (hr:aJ w x A B) (hs:bG x<=1000000) (Bh:∀ p∈bI x,cL p) (Ah:(bB x && dC x)=true) (hk:x.k=14) (m:Nat) (hm:x.subs.length=m) (oo:Option (List Int × T3)) (Ae:mK es x.subs=oo):
 Calls Tryz.prog 17 #[.slice l n c,.agg (aE x A ca B cb)] w (jI w (oo.map fun r=>(r.1,(r.2.1,r.2.2.1,(r.1.length:Int))))):=by
 have Ac:=Ah;simp only [Ys] at Ac
 have Ai:x.subs.all cK=true:=by
  have:=Ac.2;unfold dC at this;rwa [if_pos (by rw [hk];rfl)] at this
 have Ab:m<=60:=by
  have h1:=Ac.1;unfold bB at h1;simp only [Ys,Bool.not_eq_true',decide_eq_false_iff_not] at h1;have h2:=kG x;have h3:=tG x.subs;omega
 have Aj:0<m:=by
  have h1:=Ac.1;unfold bB at h1;simp only [Ys,Zf] at h1;have h2:=h1.2 x (by rw [pZ];exact List.mem_cons_self);have h3:=oX h2;unfold dA at h3;rw [hk] at h3
  simp at h3
  omega
 have HF:=Hd fun w0 h=>qS (w:=w) (w0:=w0) (x:=x) (A:=A) (ca:=ca) (B:=B) (cb:=cb) h;have Ar:=Hd fun w1 (hb:Below w.heap.size w w1)=>rY x A ca B cb w1 (hr.below hb) hs Bh;have Al:=Hd fun w1 (hb:Below w.heap.size w w1)=>uJ x A ca B cb w1 (hr.below hb);have Bo:=Hd fun w1 (hb:Below w.heap.size w w1)=>aD0 l n c es B m cb x.subs w1 (hE.below hb) (by rw [<- hm];exact(hr.below hb).subs) (fun k hk=>Zf.1 Ai _ (by rw [Yk (by omega)];exact Zg _)) Aj Ab oo Ae;have Cr:(x.k != 14)=false:=by rw [hk];rfl
 rw [Ac.1] at Ar;rw [Ac.2] at Al;clear hE hr hs Bh Ah Ai hk Ae Ac Aj;unfold aE at HF Ar Al ⊢;rw [hm] at *
 go_enter Tryz.func17,Tryz.ntmps17
 go_upto_region 1 with(fail)
 generalize Bg:(w.alloc _).alloc _=w0;obtain⟨hR,hx,Az,Ch⟩:=HF.o w0 Bg;have HR:=Hd hR;have HX:=Hd hx;have Bq:=Hd Az;obtain⟨q0,q1,q2,q3,q4,q5⟩:=Sx (hx w0 (Yg _ _));simp only [Ya,Yb,Yc] at q0 q1 q2 q3 q4 q5;have Bn:=Hd (Al.o w0 Az);clear Bg hR hx Az Ch HF Al
 go_wp2_with fail
 refine Bn.o.mono ?_;rintro e w1 ⟨rfl,Ad⟩;have Cg:=Hd (HR.o.below Ad);have Bd:=Hd (Bq.o.trans (Ad.mono Bq.o.size));have Bw:=Hd fun w' (h:Below w1.heap.size w1 w') j=>HX.o w' (Ad.trans (h.mono Ad.size)) j;obtain⟨r0,r1,r2,r3,r4,r5⟩:=Sx (HX.o w1 Ad);simp only [Ya,Yb,Yc] at r0 r1 r2 r3 r4 r5;have Bz:=Hd (Ar.o w1 Bd.o);clear Ad q0 q1 q2 q3 q4 q5 Bn Ar
 go_wp2_with fail
 refine Bz.o.mono ?_;rintro e w2 ⟨rfl,An⟩;have Ca:=Hd (Cg.o.below An);have Bc:=Hd (Bd.o.trans (An.mono Bd.o.size));obtain⟨s0,s1,s2,s3,s4,s5⟩:=Sx (Bw.o w2 An);simp only [Ya,Yb,Yc] at s0 s1 s2 s3 s4 s5;have Cf:=Hd (Bo.o w2 Bc.o);have Cs:=Ca.o.lt;clear An r0 r1 r2 r3 r4 r5 Bz Bw Bo
 go_wp2_with fail
 refine Cf.o.mono ?_;rintro e w3 ⟨S,q,sc,a,b,d,vs,rfl,Aw,Bt,Bv,Ae,Bb,Ag⟩;have Bu:=Hd (Ca.o.below Bb);have Ax:=Hd (Bc.o.trans (Bb.mono Bc.o.size));have Be:=Hd Aw;have Bk:=Hd Ae;have Cm:=Hd Bt;have Ci:=Hd Bv;have Cj:=Hd (show ∀ b Aa,S=some ⟨b,Aa,none⟩->b<w3.heap.size->b≠w.heap.size+1 from fun b Aa h _=>by have:=Ag b Aa h;omega);have Bp:=Aw.1;have Bj:=Hd Bp;clear Bb Aw Ae Bt Bv Ag s0 s1 s2 s3 s4 s5 Bp;unfold aC
 go_upto_region 6 with(fail)
 generalize Bf:w3.alloc _=w4;obtain⟨Ap,Ak,Cu⟩:=gM Bf;have Cq:=Bu.o.lt;have Cb:=Hd (Bu.o.below Ap);have Bl:=Hd (Ax.o.trans (Ap.mono Ax.o.size));have Aq:=Hd (Be.o.below Ap);have Cp:=Hd (show ∀ b Aa,S=some ⟨b,Aa,none⟩->b<w3.heap.size->b≠w3.heap.size from fun b Aa h hb=>by omega);have Cc:=Hd (show w.heap.size+1≠w3.heap.size by omega);have q2:=Ak.cell 2;simp only [aC,List.getElem?_toArray,Yz,Zb] at q2;have fz:=frozen_of_row w4 w3.heap.size 2 _ _ Ak;have As:=Hd Ak
 have Af:=Hd (show ∀ b Aa,S=some ⟨b,Aa,none⟩->0<q->b<w3.heap.size from fun b Aa h h0=>by
  obtain⟨b',Ck,e,hb,_⟩:=Be.o.2.2 h0;rw [e] at h;injection h with h;injection h with h1 _;omega)
 have Cl:w.heap.size<=w3.heap.size:=Ax.o.size;clear Bf Ap Ak
 go_upto_region 7 with(fail)
 generalize hg:w3.heap.size=g at *;generalize Am:w4.setCell ⟨g,2,none⟩ (.int .i64 (q:Int))=w5;rw [Xd _ _ _ _ _ _ _ As.o,show(aC a b d).setIfInBounds 2 (.int .i64 (q:Int))=aC a b q from rfl] at Am
 have h5:F3 38 w5 g a b q/\F3 38 w5 (w.heap.size+1) 0 0 0/\Below w.heap.size w w5:=by
  rw [<- Am];exact⟨As.o.set _ _ _,(setRow_other _ _ _ _ Cc.o).trans Cb.o,Xb Bl.o Cl _⟩
 have Br:cZ w5 S q vs:=by
  by_cases h0:0<q
  . rw [<- Am];exact Aq.o.setN (fun b Aa h hb=>by have:=Af.o b Aa h h0;omega) _
  . exact⟨Aq.o.1,Aq.o.2.1,fun h=>absurd h h0⟩
 obtain⟨Bi,Ao,Bx⟩:=h5;have Bm:=Hd Ao;have Cd:=Hd Bx;have Av:=Hd Br;obtain⟨d0,d1,d2,-,-,-⟩:=Sx Bi.cell;obtain⟨v0,v1,v2,-,-,-⟩:=Sx Ao.cell;simp only [aC,List.getElem?_toArray,Yz,Zb] at d0 d1 d2 v0 v1 v2;have Ct:∀ j,w5.frozen? ⟨w.heap.size+1,j,none⟩=false:=fun j=>frozen_of_row _ _ j _ _ Ao;have n1:=Cc.o;have n2:g≠w.heap.size+1:=Ne.symm n1;have Ba:=Hd (show ∀ b Aa,S=some ⟨b,Aa,none⟩->0<q->b≠w.heap.size+1 from fun b Aa h h0=>Cj.o b Aa h (Af.o b Aa h h0));clear Am Bi Ao Bx Br q2 fz As Cb Aq Be Bl
 go_wp2_with fail
 go_region
 have hI:cZ (w5.setRow (w.heap.size+1) (aC a b q)) S q vs:=by
  by_cases h0:0<q
  . exact Av.o.setN (fun b Aa h hb=>Ba.o b Aa h h0) _
  . exact⟨Av.o.1,Av.o.2.1,fun h=>absurd h h0⟩
 generalize Au:World.drew _=w6;have Ay:=Au;rw [fX Bm.o] at Ay;obtain⟨hF,hB⟩:=qR Bm.o Cd.o (by omega) Au;have Ce:=Hd hF;have Co:=Hd hB;have Cn:=Hd (show cZ w6 S q vs by rw [<- Ay];exact hI);clear Au Ay hF hB hI
 go_wp2_with fail
 refine Zt (gW (p:=5) (u:=4) (v:=6) rfl _ _ (w.heap.size+1) a b q rfl Ce.o) rfl ⟨S,q,sc,a,b,q,vs,(by rw [Option.isSome_map];rfl),Cn.o,Cm.o,Ci.o,⟨fun r h=>?_,fun h=>?_⟩,Co.o⟩
 . obtain⟨r',h1,rfl⟩:=Option.map_eq_some_iff.1 h;have:=Bk.o.1 r' h1;subst this
   show(vs,(a,b,(vs.length:Int)))=_
   rw [Bj.o]
 . have h1:oo=none:=by cases oo with | none=>rfl | some r=>cases h
   obtain⟨e1,e2,e3,e4⟩:=Bk.o.2 h1;have:=Bj.o;rw [e1] at this;exact⟨e1,e2,e3,by simp at this;omega⟩
theorem uQ(l:Option Addr) (n c:Nat) (es:List En) (x:Ex) (A:Option Addr) (ca:Nat) (B:Option Addr) (cb:Nat) (w:World) (hE:bV w l n es) (hr:aJ w x A B) (hs:bG x<=1000000) (Aa:∀ p∈bI x,cL p):
 Calls Tryz.prog 17 #[.slice l n c,.agg (aE x A ca B cb)] w (jI w (dL es x)):=by
 cases h:(bB x && dC x) with
 | false=>
  rw [wU h];exact aLi l n c x A ca B cb w hr hs Aa h
 | true=>
  by_cases hk:x.k=14
  . have e:dL es x=(mK es x.subs).map fun r=>(r.1,(r.2.1,r.2.2.1,(r.1.length:Int))):=by
     rw [wC h hk]
     cases ha:gJ es x.subs x.subs.length with
     | none=>rw [<- xN,ha];rfl
     | some r=>
      rw [<- xN,ha];simp only [Option.map_some,aDo ha]
    rw [e];exact aI0 l n c es x A ca B cb w hE hr hs Aa h hk _ rfl _ rfl
  . rw [tE h hk,<- aN7];exact aIz l n c es x A ca B cb w hE hr hs Aa h hk _ rfl
end
end Go.Proofs.YtegjgiofmpolnaaGreat
