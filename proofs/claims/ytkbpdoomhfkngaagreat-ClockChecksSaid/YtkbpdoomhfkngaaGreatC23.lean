/- A part of the proof. Conditions: each theorem's own. -/
import Derived.Test.YtkbpdoomhfkngaaGreatC16
import Derived.Test.YtkbpdoomhfkngaaGreatC22
namespace Go.Proofs.YtkbpdoomhfkngaaGreat
set_option linter.unusedVariables false
set_option linter.unusedSimpArgs false
set_option maxRecDepth 100000
set_option maxHeartbeats 40000000
section
open Go.RowKit Go.Sort Go.BigFrame
def vlV(o:Option (T3 × Int)):Value:=.tuple #[.agg (aF ((o.map (·.1.1)).getD 0) ((o.map (·.1.2.1)).getD 0) ((o.map (·.1.2.2)).getD 0)),.int .i64 ((o.map (·.2)).getD 0),.bool o.isSome]
theorem bEg(l:Option Addr)(n c:Nat)(es:List En)(x:Ex)(A:Option Addr)(ca:Nat)(B:Option Addr)(cb:Nat)(w:World)(hE:bU w l n es)(hr:aH w x A B)(hx:cV x=true):
 Calls Tryz.prog 171 #[.slice l n c,.agg (aE x A ca B cb)] w fun e w'=>e=.returned (vlV (dU es x))/\Below w.heap.size w w':=by
 have HF:=Hd fun w0 h=>oP (w:=w) (w0:=w0) (x:=x) (A:=A) (ca:=ca) (B:=B) (cb:=cb) (T:=52) (U:=41) h;have Cq:=Hd fun w1 (hb:Below w.heap.size w w1)=>zZ l n c es x.s w1 (hE.below hb);have Gz:=Hd tA;have HS:=Hd (show dU es x=if(x.k==1)=true then some ((1,0,0),x.n) else if(x.k==2)=true then some ((2,0,0),x.n) else if(x.k==5)=true then some ((1,0,0),wrap64 (-(aM x 0).n)) else(bP es x.s).map fun r=>((r.1,r.2.1,0),r.2.2) from rfl);have Aq:=Hd fun w1 (hb:Below w.heap.size w w1) (h5:x.k=5)=>(show ∃ b off,B=some ⟨b,off,none⟩/\x.subs.length=1/\w1.cell? ⟨b,off+1,none⟩=some (.int .i64 (aM x 0).n) from by
  have h1:x.subs.length=1:=by
   unfold cV at hx;rw[h5]at hx;simp at hx;exact hx.1.2
  obtain⟨b,off,e,Ia,Ca⟩:=(hr.below hb).sub (i:=0) aA;obtain⟨A',c',B',d',Nt,_⟩:=Ca 0 aA;obtain⟨c0,c1,-⟩:=dT Nt;exact⟨b,off,e,h1,by simpa using c1⟩)
 clear hE hr hx;unfold aE at HF⊢;unfold aF at Gz;generalize dU es x=Au at *;generalize bP es x.s=ar at *;generalize hk:x.k=k at *;by_cases h1:k=1
 . subst h1;have HN:=Hd (show Au=some ((1,0,0),x.n)from HS.o);rw[HN.o];go_in
   go_upto_region 1 with(fail);generalize Ai:(w.alloc _).alloc _=w0;obtain⟨hR,hcell,Ae,Al⟩:=HF.o w0 Ai;have HR:=Hd hR;have Af:=Hd Ae;have q0:=hcell w0 (Yg _ _) 0;have q1:=hcell w0 (Yg _ _) 1;simp only[Ya,Yb,Yc]at q0 q1;have An:w.heap.size≠w.heap.size+1:=aA;clear Ai hR hcell Ae HF Aq Cq HS;go_upto_region 3 with(fail);refine dL (l1:=[_,_,_]) (os:=_) (l2:=[_,_]) (p:=4) (tx:=11) (r:=w.heap.size+1) (T:=41) (zc:=aF 0 0 0) aC aC rfl HR.o rfl dI ?_
   repeat
    apply dH rfl aG;case h1=>
     intro wb hb;have l0:=fun d os=>Zs (aJ hb An q1) d os;exact aRx
    simp only[Act.put,Yd,Ye,Yf]
   exact aRn
 have e1:(k==1)=false:=aAv;by_cases h2:k=2
 . subst h2;have HN:=Hd (show Au=some ((2,0,0),x.n)from HS.o);rw[HN.o];go_in
   go_upto_region 1 with(fail);generalize Ai:(w.alloc _).alloc _=w0;obtain⟨hR,hcell,Ae,Al⟩:=HF.o w0 Ai;have HR:=Hd hR;have Af:=Hd Ae;have q0:=hcell w0 (Yg _ _) 0;have q1:=hcell w0 (Yg _ _) 1;simp only[Ya,Yb,Yc]at q0 q1;have An:w.heap.size≠w.heap.size+1:=aA;clear Ai hR hcell Ae HF Aq Cq HS;go_upto_region 7 with(fail);refine dL (l1:=[_,_,_]) (os:=_) (l2:=[_,_]) (p:=4) (tx:=25) (r:=w.heap.size+1) (T:=41) (zc:=aF 0 0 0) aC aC rfl HR.o rfl dI ?_
   repeat
    apply dH rfl aG;case h1=>
     intro wb hb;have l0:=fun d os=>Zs (aJ hb An q1) d os;have cA:=fun d os=>Zi (Gz.o 2 (grow (redrawn wb d) os));go_big_quiet_step (first|with_reducible exact cA _ _);exact aEa
    simp only[Act.put,Yd,Ye,Yf]
   refine⟨aF 2 0 0,rfl,rfl,by simp[aF,Value.oneCell'],fun W hB hz=>?_⟩;have Be:=Hd (dG hB Af.o (Yh _) (Nat.le_succ _));have Dq:=Hd hz;clear hB hz;go_wp2_with fail;exact Zu (rO (p:=4) (u:=5) (v:=6) rfl _ _ (w.heap.size+1) 2 0 0 rfl Dq.o) rfl ⟨rfl,Be.o⟩
 have e2:(k==2)=false:=aAw;by_cases h5:k=5
 . subst h5;obtain⟨b,off,rfl,hl,hc⟩:=Aq.o w (Yg _ _) rfl;have He:=Hd hc;generalize (aM x 0).n=z at *;have HN:=Hd (show Au=some ((1,0,0),wrap64 (-z))from HS.o);rw[HN.o];rw[hl]at HF⊢;have Bp:=Yi _ _ hc;go_in
   go_upto_region 1 with(fail);generalize Ai:(w.alloc _).alloc _=w0;obtain⟨hR,hcell,Ae,Al⟩:=HF.o w0 Ai;have HR:=Hd hR;have Af:=Hd Ae;have q0:=hcell w0 (Yg _ _) 0;have q5:=hcell w0 (Yg _ _) 5;simp only[Ya,Yb,Yc]at q0 q5;have c1:=(Ae.cell (p:=⟨b,off+1,none⟩) Bp).trans He.o;have An:w.heap.size≠w.heap.size+1:=aA;have Jx:b<w.heap.size:=Bp;have Bx:b≠w.heap.size+1:=aA;clear Ai hR hcell Ae Al HF Aq Cq HS hc h1 h2 e1 e2;go_upto_region 5 with(fail);refine dL (l1:=[_,_,_,_,_,_,_]) (os:=_) (l2:=[_,_]) (p:=4) (tx:=16) (r:=w.heap.size+1) (T:=41) (zc:=aF 0 0 0) aC aC rfl HR.o rfl dI ?_
   repeat
    apply dH rfl aG;case h1=>
     intro wb hb;have l0:=fun d os=>Zs (aJ hb An q5) d os;have l1:=fun d os=>Zs (aJ hb Bx c1) d os;exact aRx
    simp only[Act.put,Yd,Ye,Yf]
   exact aRn
 have e5:(k==5)=false:=pG;have HV:=Hd (show vlV Au=.tuple #[.agg (aF ((ar.map (·.1)).getD 0) ((ar.map (·.2.1)).getD 0) 0),.int .i64 ((ar.map (·.2.2)).getD 0),.bool ar.isSome] from by
  rw[HS.o,e1,e2,e5];cases ar<;>rfl)
 unfold lG aF at Cq;unfold aF at HV;rw[HV.o];clear HV HS h1 h2 h5 Aq Gz;generalize (ar.map (·.2.2)).getD 0=z at *;generalize (ar.map (·.1)).getD 0=a at *;generalize (ar.map (·.2.1)).getD 0=b at *;generalize ar.isSome=t at *;clear Au ar;go_in
 go_upto_region 1 with(fail);generalize Ai:(w.alloc _).alloc _=w0;obtain⟨hR,hcell,Ae,Al⟩:=HF.o w0 Ai;have HR:=Hd hR;have Af:=Hd Ae;have q0:=hcell w0 (Yg _ _) 0;have q2:=hcell w0 (Yg _ _) 2;simp only[Ya,Yb,Yc]at q0 q2;clear Ai hR hcell Ae HF;go_wp2_with fail;refine(Cq.o w0 Af.o).mono ?_;rintro e w1 ⟨rfl,Aa⟩;have Bi:=Hd (HR.o.below Aa);have Ac:=Hd (Af.o.tr Aa);clear Aa q0 q2;go_wp2_with (refine Zv rfl _ _ _ rfl (w.heap.size+1) _ rfl rfl _ _ Bi.o cW rfl aQ ?_);exact Zu (rO (p:=4) (u:=5) (v:=6) rfl _ _ (w.heap.size+1) a b 0 rfl (Bi.o.set a b 0)) rfl ⟨rfl,Xc Ac.o aA _⟩
theorem bHp{w:World}{base:Nat}{e T:TypeId}{size:Nat}{v:Value}{n:Nat}{xs:List Value}(h:w.ownsRow base e size v n xs){g:Nat}{cs:Array Value}(hg:w.heap[g]?=some (Obj.cells cs T))(hT:e≠T){k:Nat}(hk:v.ownBlock=some k):g≠k:=by
 rcases h.2 with⟨rfl,_⟩|⟨g',cap,cur,rfl,_,h2,_⟩;· cases hk
 . simp only[Value.ownBlock,Option.some.injEq]at hk;intro he;subst hk;subst he;rw[hg]at h2;have h2:=Option.some.inj h2;injection h2 with _ h3;exact hT h3.symm
theorem aL1{w:World}{base Aq:Nat}{e e':TypeId}{size Bp:Nat}{v v':Value}{n n':Nat}{xs Jx:List Value}(h:w.ownsRow base e size v n xs)(h':w.ownsRow Aq e' Bp v' n' Jx)(hT:e≠e'){k:Nat}(hk:v.ownBlock=some k):v'.ownBlock≠some k:=by
 rcases h'.2 with⟨rfl,_⟩|⟨g,cap,cur,rfl,hg,hh,r⟩;· intro h;cases h
 . intro Bx;simp only[Value.ownBlock,Option.some.injEq]at Bx;subst Bx;exact bHp h hh hT hk rfl
theorem aIx{w w':World}{base k:Nat}{v:Value}{e:TypeId}{size:Nat}{xs:List Value}{row:Option Nat}(h:w.ownsRow base e size v k xs)(hg:w.grownBy w' row)(hn:∀g,v.ownBlock=some g->row≠some g):w'.ownsRow base e size v k xs:=by
 refine⟨h.1,?_⟩;rcases h.2 with h|⟨g,cap,cur,e1,hg2,hh,r2⟩;· exact .inl h
 . exact .inr ⟨g,cap,cur,e1,hg2,(hg.block g (Yl.1 hh).1 (fun e=>hn g (by rw[e1];rfl) e.symm)).trans hh,r2⟩
structure TW (w0 X:World)(v u:Value)(k k':Nat)(vs:List Int)(ts:List T3):Prop where
 V:X.ownsRow w0.heap.size 2 1 v k (vs.map (Value.int .i64))
 T:X.ownsRow w0.heap.size 41 3 u k' (gC ts)
 B:Below w0.heap.size w0 X
section
variable {w0 X X':World}{v u:Value}{k k':Nat}{vs:List Int}{ts:List T3}
theorem TW.below(h:TW w0 X v u k k' vs ts)(hb:Below X.heap.size X X'):TW w0 X' v u k k' vs ts:=⟨gE h.V hb,gE h.T hb,h.B.tr hb⟩
theorem TW.alloc(h:TW w0 X v u k k' vs ts)(o:Obj):TW w0 (X.alloc o) v u k k' vs ts:=h.below ((Yg _ _).alloc (Yh _) o)
theorem TW.drewN(h:TW w0 X v u k k' vs ts)(n:Nat):TW w0 (X.drewN n) v u k k' vs ts:=h.below (bG (Yg _ _) n)
theorem TW.drew(h:TW w0 X v u k k' vs ts):TW w0 X.drew v u k k' vs ts:=h.below (Below.drew (Yg _ _))
theorem sV{ops:Array Oper}{o:Oper}{a:Act}{K:Act->World->Prop}{Q:Exit->Act->World->Prop}{E:Prop}{ov:Int}{gs:Nat}(Bp:o.guard=none)(s x:Operand)
 (ho:o.op=.call { callee:=.builtin .append,args:=#[s,x],argTypes:=#[146,146] })
 (hs:a.eval s=v)(hx:a.eval x=.slice (some ⟨gs,0,none⟩) 1 1)(hk:k<=1000)
 (hT:TW w0 X v u k k' vs ts)(Aq:X.heap[gs]?=some (Obj.cells #[.int .i64 ov] 2))
 (h:∀(A':Option Addr)(c':Nat)(X':World),TW w0 X' (.slice A' (k+1) c') u (k+1) k' (vs++[ov]) ts->(∀(g:Nat)(cs:Array Value),X.heap[g]?=some (Obj.cells cs 41)->X'.heap[g]?=some (Obj.cells cs 41))->K (a.put o.dst (.slice A' (k+1) c')) X'):
 if Region.wanted o (yielded ops a.tmps)=true then Oper.wp Tryz.prog o a X K Q else E:=by
 obtain⟨i0,Bx,Li,Lh,Lb⟩:=info_parts aKz;refine qO Bp s x _ ho w0.heap.size _ i0 (.int .i64 0) 1 8 Tryz.underlying146 Bx Li Lh Lb rfl bS v k _ hs hT.V (some ⟨gs,0,none⟩) 1 1 [.int .i64 ov] hx rfl (fun h=>by cases h) (fun ad e j u hu=>by cases e;exact World.news_of_block Aq j u hu) aQ dP aA hT.B.size ?_;intro A' c' X' h1 h2 _;exact h A' c' X' ⟨by rw[Zq];exact h1,aIx hT.T h2 (fun g hg=>aL1 hT.T hT.V bS hg),hT.B.grown h2 hT.B.size (fun j hj=>(hT.V.lt j hj).1)⟩
  (fun g cs hg=>(h2.block g (Yl.1 hg).1 (pP hT.V hg bS)).trans hg)
theorem tB{ops:Array Oper}{o:Oper}{a:Act}{K:Act->World->Prop}{Q:Exit->Act->World->Prop}{E:Prop}{oa ob oc:Int}{gs:Nat}(Bp:o.guard=none)(s x:Operand)
 (ho:o.op=.call { callee:=.builtin .append,args:=#[s,x],argTypes:=#[93,93] })
 (hs:a.eval s=u)(hx:a.eval x=.slice (some ⟨gs,0,none⟩) 1 1)(hk:k'<=1000)
 (hT:TW w0 X v u k k' vs ts)(Aq:X.heap[gs]?=some (Obj.cells #[.int .i64 oa,.int .i64 ob,.int .i64 oc] 41))
 (h:∀(A':Option Addr)(c':Nat)(X':World),TW w0 X' v (.slice A' (k'+1) c') k (k'+1) vs (ts++[(oa,ob,oc)])->(∀(g:Nat)(cs:Array Value),X.heap[g]?=some (Obj.cells cs 2)->X'.heap[g]?=some (Obj.cells cs 2))->(∀g:Nat,g<X.heap.size->some g≠u.ownBlock->X'.heap[g]?=X.heap[g]?)->K (a.put o.dst (.slice A' (k'+1) c')) X'):
 if Region.wanted o (yielded ops a.tmps)=true then Oper.wp Tryz.prog o a X K Q else E:=by
 obtain⟨i0,z0,Nu,Jx,Bx,Cu,Nt⟩:=kG vH;refine qO Bp s x _ ho w0.heap.size _ i0 z0 3 24 Tryz.underlying93 Nu Jx Bx Cu Nt bS u k' _ hs hT.T (some ⟨gs,0,none⟩) 1 1 [.int .i64 oa,.int .i64 ob,.int .i64 oc] hx rfl (fun h=>by cases h) (fun ad e j u hu=>by cases e;exact World.news_of_block Aq j u hu) aQ dP aA hT.B.size ?_;intro A' c' X' h1 h2 _;exact h A' c' X' ⟨aIx hT.V h2 (fun g hg=>aL1 hT.V hT.T bS hg),by rw[yZ,zA];exact h1,hT.B.grown h2 hT.B.size (fun j hj=>(hT.T.lt j hj).1)⟩
  (fun g cs hg=>(h2.block g (Yl.1 hg).1 (pP hT.T hg bS)).trans hg) (fun g hg hn=>h2.block g hg hn)
end
def bA6(w:World)(o:Option (List Int × T3))(e:Ending)(w':World):Prop:=
 ∃S n c a b d vs,e=.returned (.tuple #[.slice S n c,.agg (aF a b d),.bool o.isSome])/\dK w' S n vs/\n<=c/\c<=maxLen/\((∀r,o=some r->r=(vs,(a,b,d)))/\(o=none->vs=[]/\a=0/\b=0/\d=0))/\Below w.heap.size w w'/\∀b off,S=some ⟨b,off,none⟩->w.heap.size<=b
theorem aSw{β:Type}{f:Ex->Option β}{l:List Ex}{k:Nat}(hk:k<l.length):bV ((l.take (k+1)).map f)=match bV ((l.take k).map f)with|none=>none|some ts=>(f (l[k]?.getD default)).map fun a=>ts++[a]:=by
 rw[List.take_succ_eq_append_getElem hk,Zq,Xh,List.map_nil,aCa,Yk hk];rfl
theorem aSx{β:Type}{f:Ex->Option β}{l:List Ex}{k:Nat}(hk:k<l.length)(h:f (l[k]?.getD default)=none):bV (l.map f)=none:=by
 refine xQ (k:=k) (by rw[List.length_map];exact hk) ?_;rw[List.getElem?_map,Yk hk];rw[Yk hk]at h;exact h
theorem aJ4{W:World}{g:Nat}{a b c:Int}{T:TypeId}(h:W.heap[g]?=some (Obj.cells #[.int .i64 a,.int .i64 b,.int .i64 c] T)):W.cell? ⟨g,0,none⟩=some (.int .i64 a)/\W.cell? ⟨g,1,none⟩=some (.int .i64 b)/\W.cell? ⟨g,2,none⟩=some (.int .i64 c):=by
 have h:F3 T W g a b c:=h;exact⟨h.cell 0,h.cell 1,h.cell 2⟩
theorem bHq{X X':World}{u:Value}{g:Nat}{o:Obj}(hl:∀g,g<X.heap.size->some g≠u.ownBlock->X'.heap[g]?=X.heap[g]?)(hn:some g≠u.ownBlock)(h:X.heap[g]?=some o):X'.heap[g]?=some o:=(hl g (Yl.1 h).1 hn).trans h
theorem aJ5(l:Option Addr)(ln lc:Nat)(es:List En)(A:Option Addr)(n c:Nat)(xs:List Ex)(w:World)(hE:bU w l ln es)(hr:eQ w A n xs)(Nz:∀k,k<n->cV (xs[k]?.getD default)=true)(h0:0<n)(hn:n<=60)(oo:Option (List Int × T3))(Fw:nX es xs=oo):
 Calls Tryz.prog 142 #[.slice l ln lc,.slice A n c] w (bA6 w oo):=by
 have Da:=hr.len;have Oe:=Hd fun k (hk:k<n) A' Of B' Od w1 (hb:Below w.heap.size w w1)(Ap:aH w1 (xs[k]?.getD default) A' B')=>bEg l ln lc es (xs[k]?.getD default) A' Of B' Od w1 (hE.below hb) Ap (Nz k hk);have Kt:=Hd fun k (hk:k<n)=>hr.at_ hk;have Ow:=Hd fun k (hk:k<n)=>aSw (f:=dU es) (l:=xs) (k:=k) aA;have Cj:=Hd fun k (hk:k<n) h=>aSx (f:=dU es) (l:=xs) (k:=k) aA h;have Ol:=Hd (show xs.take n=xs from Yx aA);have HZ:=Hd (show bV ((xs.take 0).map (dU es))=some []from rfl);have Pi:=Hd (show oo=match bV (xs.map (dU es))with|none=>none|some rs=>qH rs from Fw.symm);have Dl:=Hd mB;have Bt:=Hd fB;clear hE hr Nz Fw;unfold vlV aF at Oe;unfold aF at Dl;unfold aE at Oe Bt;go_in
 go_upto_region 1 with(fail);generalize Ai:w.alloc _=w0;obtain⟨Ae,hR,Me⟩:=lV Ai;have Af:=Hd Ae;have HR:=Hd hR;clear Ai Ae hR;go_wp2_with fail;go_loopw [7,8,16] (fun v u i wr=>∃(k:Nat)(rs:List (T3 × Int)),k<=n/\i=.int .i64 k/\bV ((xs.take k).map (dU es))=some rs/\TW w0 wr v u k k (rs.map (·.2)) (rs.map (·.1))) (fun _ _ i _=>n-(intOf i).toNat)
 case atStart=>exact⟨0,[],Yq _,rfl,HZ.o,⟨World.ownsRow_nil _ _ _ _,World.ownsRow_nil _ _ _ _,Yg _ _⟩⟩
 case round=>
  obtain⟨k,rs,hk,rfl,Oc,Lo⟩:=hrel;have Pd:=Hd Oc;have Bx:=Hd Lo;have Cm:=Hd (Af.o.tr Lo.B);have Db:=Hd (HR.o.below Lo.B);clear Oc Lo;by_cases Ah:k<n
  . obtain⟨b,off,rfl,hb,Ca⟩:=Kt.o k Ah;obtain⟨A',Of,B',Od,Pf,Ap⟩:=Ca k Ah;obtain⟨c0,c1,c2,c3,c4,c5⟩:=dT (fT Pf hb fun p hp=>Cm.o.cell hp);have Ed:=Hd (Ap.below Cm.o);have Px:=Hd fun w1 hb Ap=>Oe.o k Ah A' Of B' Od w1 hb Ap;have Fi:=Hd (Cj.o k Ah);have Gn:=Hd (Ow.o k Ah);clear Ca Pf Ap;generalize xs[k]?.getD default=y at *;have HX:=Hd fun w1 hw=>Bt.o wr y A' Of B' Od w1 hw Ed.o;generalize dU es y=o at *;generalize Ou:(o.map (·.2)).getD 0=ov at *;generalize Pa:(o.map (·.1.1)).getD 0=oa at *;generalize Ov:(o.map (·.1.2.1)).getD 0=ob at *;generalize Dk:(o.map (·.1.2.2)).getD 0=oc at *;generalize Ox:o.isSome=os at *;have HV:=Hd (show ∀r,o=some r->r=((oa,ob,oc),ov)from fun r h=>by subst h Ou Pa Ov Dk;rfl);have HS:=Hd Ox;clear Ou Pa Ov Dk Ox;go_upto_region 6 with(fail);generalize Om:wr.alloc _=w4;obtain⟨Bk,Py,Oa,Bf⟩:=HX.o w4 Om;obtain⟨e0,e1,e2,e3,e4,e5⟩:=Sx (Bf w4 (Yg _ _));simp only[Ya,Yb,Yc]at e0 e1 e2 e3 e4 e5;have Pj:=Hd (Bx.o.below Bk);have Be:=Hd (Cm.o.tr Bk);have Pb:=Hd (Px.o w4 Be.o Oa);clear Om Bk Py Oa Bf c0 c1 c2 c3 c4 c5 HX;go_wp2_with fail;refine Pb.o.mono ?_;rintro e w5 ⟨rfl,Bv⟩;have Oj:=Hd (Pj.o.below Bv);clear Bv e0 e1 e2 e3 e4 e5 Pb;go_upto_region 7 with(fail);generalize Ny:w5.alloc _=w6;obtain⟨Ci,Oz,Pv⟩:=iB Ny;have Bx:=Hd (Oj.o.below Ci);have On:=Hd (HR.o.below Bx.o.B);have Du:=Hd (Af.o.tr Bx.o.B);have Pu:=Hd (show some w5.heap.size≠u8.ownBlock from fun e=>by have:=(Oj.o.T.lt _ e.symm).2;omega);have Pc:=Hd (show w6.heap[w5.heap.size]?=some (Obj.cells #[.int .i64 oa,.int .i64 ob,.int .i64 oc] 41)from Oz);clear Ny Ci Oz Pv Pj Oj;generalize w5.heap.size=g at *;cases os with
    |false=>
     have HO:=Hd (show o=none by have:=HS.o;cases o with|none=>rfl|some r=>cases this);have Fe:=Hd (show oo=none by rw[Pi.o,Fi.o HO.o]);go_wp2_with (refine Zv rfl _ _ _ rfl w.heap.size _ rfl rfl _ _ On.o cW rfl aQ ?_);exact Zu (jV (p:=5) (u:=4) (v:=6) rfl _ _ w.heap.size 0 0 0 rfl (On.o.set _ _ _)) rfl ⟨none,0,0,0,0,0,[],by rw[Fe.o];rfl,dK.nil_ _,Yh _,by unfold maxLen;omega,⟨fun r h=>wG,fun _=>⟨rfl,rfl,rfl,rfl⟩⟩,Xc Du.o (Yh _) _,fun b off h=>mY⟩
    |true=>
     have HO:=Hd (show o=some ((oa,ob,oc),ov)by have:=HS.o;cases h:o with|none=>rw[h]at this;cases this|some r=>rw[HV.o r h]);have Eg:=Hd (show bV ((xs.take (k+1)).map (dU es))=some (rs++[((oa,ob,oc),ov)])by rw[Gn.o,Pd.o,HO.o];rfl);obtain⟨f0,f1,f2⟩:=aJ4 Pc.o;have Nv:k<=1000:=aA;go_upto_region 9 with(fail);go_region_held3 (fun W=>W.cell? ⟨g,0,none⟩=some (.int .i64 oa)/\W.cell? ⟨g,1,none⟩=some (.int .i64 ob)/\W.cell? ⟨g,2,none⟩=some (.int .i64 oc)) (first|with_reducible exact⟨f0,f1,f2⟩|(refine aJ4 (T:=41) ?_;repeat' (first|with_reducible exact Pc.o|with_reducible refine qX ?_|with_reducible refine hZ _ ?_|with_reducible refine Nw.o _ _ ?_|with_reducible refine bHq Ef.o Pu.o ?_)))
      ((first
        |(refine sV aX _ _ aX aX aX Nv ((Bx.o.alloc _).drew) (Zx _ _) ?_;intro A9 c9 w9 Aq Nu;have Bx:=Hd Aq;have Nw:=Hd Nu;clear Aq Nu)
        |(refine sV aX _ _ aX aX aX Nv (((Bx.o.alloc _).alloc _).drew) (hZ _ (Zx _ _)) ?_;intro A9 c9 w9 Aq Nu;have Bx:=Hd Aq;have Nw:=Hd Nu;clear Aq Nu)
        |(refine sV aX _ _ aX aX aX Nv (((Bx.o.alloc _).alloc _).drew) (heap_alloc2_new _ _ _) ?_;intro A9 c9 w9 Aq Nu;have Bx:=Hd Aq;have Nw:=Hd Nu;clear Aq Nu)
        |(refine sV aX _ _ aX aX aX Nv (Bx.o.alloc _) (Zx _ _) ?_;intro A9 c9 w9 Aq Nu;have Bx:=Hd Aq;have Nw:=Hd Nu;clear Aq Nu)
        |(refine sV aX _ _ aX aX aX Nv (Bx.o) (Nx.o _ _ (hZ _ (Zx _ _))) ?_;intro A9 c9 w9 Aq Nu;have Bx:=Hd Aq;have Nw:=Hd Nu;clear Aq Nu)
        |(refine sV aX _ _ aX aX aX Nv (Bx.o) (Nx.o _ _ (heap_alloc2_new _ _ _)) ?_;intro A9 c9 w9 Aq Nu;have Bx:=Hd Aq;have Nw:=Hd Nu;clear Aq Nu)
        |(refine tB aX _ _ aX aX aX Nv ((Bx.o.alloc _).drew) (Zx _ _) ?_;intro A8 c8 w8 Bp Nt Jx;have Bx:=Hd Bp;have Nx:=Hd Nt;have Ef:=Hd Jx;clear Bp Nt Jx)
        |(refine tB aX _ _ aX aX aX Nv (((Bx.o.alloc _).alloc _).drew) (hZ _ (Zx _ _)) ?_;intro A8 c8 w8 Bp Nt Jx;have Bx:=Hd Bp;have Nx:=Hd Nt;have Ef:=Hd Jx;clear Bp Nt Jx)
        |(refine tB aX _ _ aX aX aX Nv (((Bx.o.alloc _).alloc _).drew) (heap_alloc2_new _ _ _) ?_;intro A8 c8 w8 Bp Nt Jx;have Bx:=Hd Bp;have Nx:=Hd Nt;have Ef:=Hd Jx;clear Bp Nt Jx)
        |(refine tB aX _ _ aX aX aX Nv (Bx.o.alloc _) (Zx _ _) ?_;intro A8 c8 w8 Bp Nt Jx;have Bx:=Hd Bp;have Nx:=Hd Nt;have Ef:=Hd Jx;clear Bp Nt Jx)
        |(refine tB aX _ _ aX aX aX Nv (Bx.o) (Nw.o _ _ (hZ _ (Zx _ _))) ?_;intro A8 c8 w8 Bp Nt Jx;have Bx:=Hd Bp;have Nx:=Hd Nt;have Ef:=Hd Jx;clear Bp Nt Jx)
        |(refine tB aX _ _ aX aX aX Nv (Bx.o) (Nw.o _ _ (heap_alloc2_new _ _ _)) ?_;intro A8 c8 w8 Bp Nt Jx;have Bx:=Hd Bp;have Nx:=Hd Nt;have Ef:=Hd Jx;clear Bp Nt Jx)))
     all_goals
      go_wp2_with fail;go_roundw;case rel=>exact⟨k+1,rs++[((oa,ob,oc),ov)],by omega,by go_num,Eg.o,by rw[Zq,Zq];exact Bx.o⟩
      case measure=>simp[intOf];omega
  . obtain rfl:k=n:=by omega
    have Oq:=Hd (show oo=qH rs by rw[Pi.o];have:=Pd.o;rw[Ol.o]at this;rw[this]);have Pm:rs.length=k:=by
     have:=Bx.o.V.1
     simpa using this
    obtain⟨S,cS,rfl,Cz⟩:=aR.of_own Bx.o.T aA;obtain⟨D,cD,rfl,Oi,Pe,Oy⟩:=dK.of_own Bx.o.V aA;have Ew:=Hd Cz;have Ps:=Hd Oi;obtain⟨sb,so,rfl,Az,Ot⟩:=Cz.at_ h0;obtain⟨db,Ph,rfl,Pn,Pk⟩:=Oi.2.2 h0;have Pp:=(Bx.o.V.lt db rfl).1;have Po:=(Bx.o.T.lt sb rfl).1;have Ku:=Hd (show db≠w.heap.size by omega);have Pq:=Hd (show w.heap.size<db by omega);have Ab:=Hd (show sb≠w.heap.size by omega);clear Pn Pk Pp Po;obtain⟨d0,d1,d2⟩:=Ot 0 h0;simp only[Nat.zero_mul,Nat.add_zero]at d0 d1 d2;have Pr:=Hd Pe;have Qa:=Hd Oy;have Ob:=Hd (show eA (rs.map (·.1))=eP (aD (rs.map (·.1)) 0) (rs.map (·.1))from rfl);have Oo:=Hd (show qH rs=if eA (rs.map (·.1))=true then some (rs.map (·.2),aD (rs.map (·.1)) 0)else none from rfl);clear Cz Oi Ot Pe Oy;generalize Qd:rs.map (·.1)=ts at *;generalize Qb:rs.map (·.2)=vs at *;generalize Qc:aD ts 0=ta at *;obtain⟨t0,t1,t2⟩:=ta;dsimp only at d0 d1 d2;have Oh:=Hd (Dl.o t0 t1 t2 (some ⟨sb,so,none⟩) k cS ts wr Ew.o);rw[<-Ob.o]at Oh;generalize eA ts=al at *;clear Oe Dl Bt Kt Ow Cj Ob;cases al with
    |false=>
     have Fe:=Hd (show oo=none by rw[Oq.o,Oo.o];rfl);go_wp2_with fail;refine Oh.o.mono ?_;rintro e w2 ⟨rfl,Ad⟩;have Aj:=Hd (Cm.o.tr Ad);have Ce:=Hd (Db.o.below Ad);have d0:=(Ad.cell (Yi _ _ d0)).trans d0;have d1:=(Ad.cell (Yi _ _ d1)).trans d1;have d2:=(Ad.cell (Yi _ _ d2)).trans d2;clear Ad;go_wp2_with (refine Zv rfl _ _ _ rfl w.heap.size _ rfl rfl _ _ Ce.o cW rfl aQ ?_);exact Zu (jV (p:=5) (u:=4) (v:=6) rfl _ _ w.heap.size 0 0 0 rfl (Ce.o.set _ _ _)) rfl ⟨none,0,0,0,0,0,[],by rw[Fe.o];rfl,dK.nil_ _,Yh _,by unfold maxLen;omega,⟨fun r h=>wG,fun _=>⟨rfl,rfl,rfl,rfl⟩⟩,Xc Aj.o (Yh _) _,fun b off h=>mY⟩
    |true=>
     have Fe:=Hd (show oo=some (vs,(t0,t1,t2))by rw[Oq.o,Oo.o];rfl);go_wp2_with fail;refine Oh.o.mono ?_;rintro e w2 ⟨rfl,Ad⟩;have Aj:=Hd (Cm.o.tr Ad);have Ce:=Hd (Db.o.below Ad);have Og:=Hd (Ps.o.below Ad);have d0:=(Ad.cell (Yi _ _ d0)).trans d0;have d1:=(Ad.cell (Yi _ _ d1)).trans d1;have d2:=(Ad.cell (Yi _ _ d2)).trans d2;clear Ad;obtain⟨v0,v1,v2,-,-,-⟩:=Sx Ce.o.cell;simp only[aF,List.getElem?_toArray,Yz,Zb]at v0 v1 v2;have fz:∀j,w2.frozen? ⟨w.heap.size,j,none⟩=false:=fun j=>frozen_of_row _ _ j _ _ Ce.o;have n1:=Ab.o;have n2:w.heap.size≠sb:=Ne.symm n1;go_upto_region 13 with(fail);go_region;have hI:=Og.o.set (r:=w.heap.size) Ku.o (aF t0 t1 t2);generalize Ok:World.drew _=w5;have Ny:=Ok;rw[kN Ce.o]at Ny;obtain⟨hF,hB⟩:=tL Ce.o Aj.o (Yh _) Ok;have Pw:=Hd hF;have Ck:=Hd hB;have Pz:=Hd (show dK w5 (some ⟨db,Ph,none⟩) k vs by rw[<-Ny];exact hI);clear Ok Ny hF hB hI;go_wp2_with fail;exact Zu (jV (p:=5) (u:=4) (v:=6) rfl _ _ w.heap.size t0 t1 t2 rfl Pw.o) rfl ⟨some ⟨db,Ph,none⟩,k,cD,t0,t1,t2,vs,by rw[Fe.o];rfl,Pz.o,Pr.o,Qa.o,⟨fun r h=>(by rw[Fe.o]at h;exact(Option.some.inj h).symm),fun h=>wG⟩,Ck.o,fun b off h=>(by injection h with h;injection h with h1 _;rw[<-h1];exact Nat.le_of_lt Pq.o)⟩
end
section
open Go.RowKit Go.Sort Go.BigFrame
theorem eQ.lit1{w:World}{x:Ex}{A:Option Addr}{ca:Nat}{B:Option Addr}{cb:Nat}(h:aH w x A B)(T:TypeId):eQ (w.alloc (.cells (aE x A ca B cb) T)) (some ⟨w.heap.size,0,none⟩) 1 [x]:=
 ⟨rfl,by omega,fun _=>⟨_,0,rfl,by simp,aC0 [x] fun i hi=>by
  obtain rfl:i=0:=by simpa using hi
  refine⟨A,ca,B,cb,?_,h.alloc _⟩;intro j v hv;rw[Zp,show 0+0*6+j=j by omega];show(aE x A ca B cb)[j]?=some v;rw[<-bG4,List.getElem?_toArray];exact hv⟩⟩
theorem dK.setN{w:World}{S:Option Addr}{r n:Nat}{l:List Int}(h:dK w S n l)(hn:∀b off,S=some ⟨b,off,none⟩->b<w.heap.size->b≠r)(cs:Array Value):dK (w.setRow r cs) S n l:=
 ⟨h.1,h.2.1,fun h0=>by
  obtain⟨b,off,e,hb,hc⟩:=h.2.2 h0;exact⟨b,off,e,by simpa[World.setRow]using hb,fun i hi=>(Ym (a:=⟨b,_,none⟩) (setRow_other _ _ _ _ (hn b off e hb))).trans (hc i hi)⟩⟩
theorem aX3(l:Option Addr)(n c:Nat)(x:Ex)(A:Option Addr)(ca:Nat)(B:Option Addr)(cb:Nat)(w:World)(hr:aH w x A B)(hs:bD x<=1000000)(Jx:∀p∈bL x,cX p)(Hr:(bH x && dQ x)=false):
 Calls Tryz.prog 114 #[.slice l n c,.agg (aE x A ca B cb)] w (kL w none):=by
 have HF:=Hd fun w0 h=>tM (w:=w) (w0:=w0) (x:=x) (A:=A) (ca:=ca) (B:=B) (cb:=cb) h;have Aq:=Hd fun w1 (hb:Below w.heap.size w w1)=>yY x A ca B cb w1 (hr.below hb) hs Jx;have Bx:=Hd fun w1 (hb:Below w.heap.size w w1)=>yT x A ca B cb w1 (hr.below hb);clear hr hs Jx;generalize bH x=br at *;generalize dQ x=bc at *;unfold aE at HF Aq Bx⊢;go_in
 go_upto_region 1 with(fail);generalize Ai:(w.alloc _).alloc _=w0;obtain⟨hR,hx,Ae,Al⟩:=HF.o w0 Ai;have HR:=Hd hR;have HX:=Hd hx;have Af:=Hd Ae;obtain⟨q0,q1,q2,q3,q4,q5⟩:=Sx (hx w0 (Yg _ _));simp only[Ya,Yb,Yc]at q0 q1 q2 q3 q4 q5;have Bp:=Hd (Bx.o w0 Ae);clear Ai hR hx Ae Al HF Bx;cases bc with
 |false=>
  go_wp2_with fail;refine Bp.o.mono ?_;rintro e w1 ⟨rfl,Aa⟩;have Ew:=Hd (HR.o.below Aa);have Ac:=Hd (Af.o.tr Aa);clear Aa q0 q1 q2 q3 q4 q5 Bp Aq;exact aQ4
 |true=>
  obtain rfl:br=false:=by simpa using Hr
  go_wp2_with fail;refine Bp.o.mono ?_;rintro e w1 ⟨rfl,Aa⟩;have Ew:=Hd (HR.o.below Aa);have Ac:=Hd (Af.o.tr Aa);obtain⟨r0,r1,r2,r3,r4,r5⟩:=Sx (HX.o w1 Aa);simp only[Ya,Yb,Yc]at r0 r1 r2 r3 r4 r5;have Bi:=Hd (Aq.o w1 Ac.o);clear Aa q0 q1 q2 q3 q4 q5 Bp Aq;go_wp2_with fail;refine Bi.o.mono ?_;rintro e w2 ⟨rfl,Ad⟩;have Es:=Hd (Ew.o.below Ad);have Aj:=Hd (Ac.o.tr Ad);clear Ad r0 r1 r2 r3 r4 r5 Bi;exact aQ5
theorem aVa(l:Option Addr)(n c:Nat)(es:List En)(x:Ex)(A:Option Addr)(ca:Nat)(B:Option Addr)(cb:Nat)(w:World)(hE:bU w l n es)(hr:aH w x A B)(hs:bD x<=1000000)(Nz:∀p∈bL x,cX p)(Ea:(bH x && dQ x)=true)(hk:x.k≠14)(oo:Option (List Int × T3))(Fw:nX es [x]=oo):
 Calls Tryz.prog 114 #[.slice l n c,.agg (aE x A ca B cb)] w (kL w oo):=by
 have Aq:cV x=true:=by
  exact aNu
 have HF:=Hd fun w0 h=>tM (w:=w) (w0:=w0) (x:=x) (A:=A) (ca:=ca) (B:=B) (cb:=cb) h;have Bx:=Hd fun w1 (hb:Below w.heap.size w w1)=>yY x A ca B cb w1 (hr.below hb) hs Nz;have Jx:=Hd fun w1 (hb:Below w.heap.size w w1)=>yT x A ca B cb w1 (hr.below hb);have Nv:=Hd fun w1 S (hb:Below w.heap.size w w1)(Ap:eQ w1 S 1 [x])=>aJ5 l n c es S 1 1 [x] w1 (hE.below hb) Ap (fun k hk=>(by obtain rfl:k=0:=aA;exact Aq)) aA aA oo Fw;have Ih:=Hd fun w1 (hb:Below w.heap.size w w1)=>eQ.lit1 (ca:=ca) (cb:=cb) (hr.below hb) 52;have Oh:(x.k !=14)=true:=bne_iff_ne.2 hk;simp only[Ys]at Ea;rw[Ea.1]at Bx;rw[Ea.2]at Jx;clear hE hr hs Nz Ea Aq hk Fw;unfold aE at HF Bx Jx Ih⊢;go_in
 go_upto_region 1 with(fail);generalize Ai:(w.alloc _).alloc _=w0;obtain⟨hR,hx,Ae,Al⟩:=HF.o w0 Ai;have HR:=Hd hR;have HX:=Hd hx;have Af:=Hd Ae;obtain⟨q0,q1,q2,q3,q4,q5⟩:=Sx (hx w0 (Yg _ _));simp only[Ya,Yb,Yc]at q0 q1 q2 q3 q4 q5;have Nu:=Hd (Jx.o w0 Ae);clear Ai hR hx Ae Al HF Jx;go_wp2_with fail;refine Nu.o.mono ?_;rintro e w1 ⟨rfl,Aa⟩;have Ew:=Hd (HR.o.below Aa);have Ac:=Hd (Af.o.tr Aa);have Ff:=Hd fun w' (h:Below w1.heap.size w1 w') j=>HX.o w' (Aa.tr h) j;obtain⟨r0,r1,r2,r3,r4,r5⟩:=Sx (HX.o w1 Aa);simp only[Ya,Yb,Yc]at r0 r1 r2 r3 r4 r5;have Bi:=Hd (Bx.o w1 Ac.o);clear Aa q0 q1 q2 q3 q4 q5 Nu Bx;go_wp2_with fail;refine Bi.o.mono ?_;rintro e w2 ⟨rfl,Ad⟩;have Es:=Hd (Ew.o.below Ad);have Aj:=Hd (Ac.o.tr Ad);obtain⟨s0,s1,s2,s3,s4,s5⟩:=Sx (Ff.o w2 Ad);simp only[Ya,Yb,Yc]at s0 s1 s2 s3 s4 s5;have Jr:=Hd (Ih.o w2 Aj.o);have Ob:=Hd fun w3 hb Ap=>Nv.o w3 (some ⟨w2.heap.size,0,none⟩) hb Ap;have Og:=Es.o.lt;clear Ad r0 r1 r2 r3 r4 r5 Bi Ff Ih Nv;go_wp2_with fail;refine(Ob.o _ (Aj.o.alloc Aj.o.size _) Jr.o).mono ?_;rintro e w3 ⟨S,m,sc,a,b,d,vs,rfl,Nt,Ny,Nw,Fw,Ak,Bp⟩;have Ak:=((Yg w2.heap.size w2).alloc (Yh _) (.cells #[.int .i64 x.k,.int .i64 x.n,.string x.s,.int .i64 x.op,.slice A x.arms.length ca,.slice B x.subs.length cb] 52)).trans (Ak.mono aG);have Nx:=Hd (Es.o.below Ak);have Ax:=Hd (Aj.o.tr Ak);have Oc:=Hd Nt;have Of:=Hd Fw;have Od:=Hd Ny;have Oe:=Hd Nw;have Oa:=Hd (show ∀b off,S=some ⟨b,off,none⟩->b<w3.heap.size->b≠w.heap.size+1 from fun b off h _=>by have:=Bp b off h;simp at this;omega);clear Ak Nt Fw Ny Nw Bp s0 s1 s2 s3 s4 s5;go_wp2_with (refine Zv rfl _ _ _ rfl (w.heap.size+1) _ rfl rfl _ _ Nx.o cW rfl (by simp[Value.oneCell',aF]) ?_);exact Zu (jV (p:=5) (u:=4) (v:=6) rfl _ _ (w.heap.size+1) a b d rfl (Nx.o.set _ _ _)) rfl ⟨S,m,sc,a,b,d,vs,rfl,Oc.o.setN Oa.o _,Od.o,Oe.o,Of.o,Xc Ax.o aA _⟩
theorem aVb(l:Option Addr)(n c:Nat)(es:List En)(x:Ex)(A:Option Addr)(ca:Nat)(B:Option Addr)(cb:Nat)(w:World)(hE:bU w l n es)(hr:aH w x A B)(hs:bD x<=1000000)(Ox:∀p∈bL x,cX p)(Ea:(bH x && dQ x)=true)(hk:x.k=14)(m:Nat)(hm:x.subs.length=m)(oo:Option (List Int × T3))(Fw:nX es x.subs=oo):
 Calls Tryz.prog 114 #[.slice l n c,.agg (aE x A ca B cb)] w (kL w (oo.map fun r=>(r.1,(r.2.1,r.2.2.1,(r.1.length:Int))))):=by
 have Av:=Ea;simp only[Ys]at Av;have Bp:x.subs.all cV=true:=by
  have:=Av.2
  unfold dQ at this;rwa[if_pos uA]at this
 have Aq:m<=60:=by
  have h1:=Av.1;exact aM6
 have Bx:0<m:=by
  have h1:=Av.1;unfold bH at h1;simp only[Ys,Zg]at h1;have h2:=h1.2 x aAi;have h3:=rD h2;unfold eV at h3;rw[hk]at h3;simp at h3;omega
 have HF:=Hd fun w0 h=>tM (w:=w) (w0:=w0) (x:=x) (A:=A) (ca:=ca) (B:=B) (cb:=cb) h;have Nx:=Hd fun w1 (hb:Below w.heap.size w w1)=>yY x A ca B cb w1 (hr.below hb) hs Ox;have Ny:=Hd fun w1 (hb:Below w.heap.size w w1)=>yT x A ca B cb w1 (hr.below hb);have Ol:=Hd fun w1 (hb:Below w.heap.size w w1)=>aJ5 l n c es B m cb x.subs w1 (hE.below hb) (by rw[<-hm];exact(hr.below hb).subs) (fun k hk=>Zg.1 Bp _ (by rw[Yk aA];exact Zh _)) Bx Aq oo Fw;have Ph:(x.k !=14)=false:=uA;rw[Av.1]at Nx;rw[Av.2]at Ny;clear hE hr hs Ox Ea Bp hk Fw Av Bx;unfold aE at HF Nx Ny⊢;rw[hm]at *;go_in
 go_upto_region 1 with(fail);generalize Ai:(w.alloc _).alloc _=w0;obtain⟨hR,hx,Ae,Al⟩:=HF.o w0 Ai;have HR:=Hd hR;have HX:=Hd hx;have Af:=Hd Ae;obtain⟨q0,q1,q2,q3,q4,q5⟩:=Sx (hx w0 (Yg _ _));simp only[Ya,Yb,Yc]at q0 q1 q2 q3 q4 q5;have Oj:=Hd (Ny.o w0 Ae);clear Ai hR hx Ae Al HF Ny;go_wp2_with fail;refine Oj.o.mono ?_;rintro e w1 ⟨rfl,Aa⟩;have Ew:=Hd (HR.o.below Aa);have Ac:=Hd (Af.o.tr Aa);have Ff:=Hd fun w' (h:Below w1.heap.size w1 w') j=>HX.o w' (Aa.tr h) j;obtain⟨r0,r1,r2,r3,r4,r5⟩:=Sx (HX.o w1 Aa);simp only[Ya,Yb,Yc]at r0 r1 r2 r3 r4 r5;have Bi:=Hd (Nx.o w1 Ac.o);clear Aa q0 q1 q2 q3 q4 q5 Oj Nx;go_wp2_with fail;refine Bi.o.mono ?_;rintro e w2 ⟨rfl,Ad⟩;have Es:=Hd (Ew.o.below Ad);have Aj:=Hd (Ac.o.tr Ad);obtain⟨s0,s1,s2,s3,s4,s5⟩:=Sx (Ff.o w2 Ad);simp only[Ya,Yb,Yc]at s0 s1 s2 s3 s4 s5;have Oz:=Hd (Ol.o w2 Aj.o);have Pf:=Es.o.lt;clear Ad r0 r1 r2 r3 r4 r5 Bi Ff Ol;go_wp2_with fail;refine Oz.o.mono ?_;rintro e w3 ⟨S,q,sc,a,b,d,vs,rfl,Ob,Ot,Om,Fw,Ak,Jx⟩;have On:=Hd (Es.o.below Ak);have Ax:=Hd (Aj.o.tr Ak);have Oc:=Hd Ob;have Ow:=Hd Fw;have Pd:=Hd Ot;have Pe:=Hd Om;have Oy:=Hd (show ∀b off,S=some ⟨b,off,none⟩->b<w3.heap.size->b≠w.heap.size+1 from fun b off h _=>by have:=Jx b off h;omega);have Oo:=Ob.1;have Oq:=Hd Oo;clear Ak Ob Fw Ot Om Jx s0 s1 s2 s3 s4 s5 Oo;unfold aF;go_upto_region 6 with(fail);generalize Oh:w3.alloc _=w4;obtain⟨Bk,Nv,Pk⟩:=iB Oh;have Pj:=On.o.lt;have Oi:=Hd (On.o.below Bk);have Be:=Hd (Ax.o.tr Bk);have Nu:=Hd (Oc.o.below Bk);have Ou:=Hd (show w.heap.size+1≠w3.heap.size by omega);have q2:=Nv.cell 2;simp only[aF,List.getElem?_toArray,Yz,Zb]at q2;have fz:=frozen_of_row w4 w3.heap.size 2 _ _ Nv;have Iz:=Hd Nv
 have Nt:=Hd (show ∀ b off,S=some ⟨b,off,none⟩->0<q->b<w3.heap.size from fun b off h h0=>by
  obtain⟨b',Kd,e,hb,_⟩:=Oc.o.2.2 h0;rw[e]at h;injection h with h;injection h with h1 _
  omega)
 have Pa:w.heap.size<=w3.heap.size:=Ax.o.size;clear Oh Bk Nv;go_upto_region 7 with(fail);generalize hg:w3.heap.size=g at *;generalize Nw:w4.setCell ⟨g,2,none⟩ (.int .i64 (q:Int))=w5;rw[Xe _ _ _ _ _ _ _ Iz.o,show(aF a b d).setIfInBounds 2 (.int .i64 (q:Int))=aF a b q from rfl]at Nw;have h5:F3 41 w5 g a b q/\F3 41 w5 (w.heap.size+1) 0 0 0/\Below w.heap.size w w5:=by
  rw[<-Nw];exact⟨Iz.o.set _ _ _,(setRow_other _ _ _ _ Ou.o).trans Oi.o,Xc Be.o Pa _⟩
 have Ok:dK w5 S q vs:=by
  by_cases h0:0<q
  . rw[<-Nw];exact Nu.o.setN (fun b off h hb=>by have:=Nt.o b off h h0;omega) _
  . exact⟨Nu.o.1,Nu.o.2.1,fun h=>absurd h h0⟩
 obtain⟨Og,Nz,Jj⟩:=h5;have Ov:=Hd Nz;have Ck:=Hd Jj;have Oe:=Hd Ok;obtain⟨d0,d1,d2,-,-,-⟩:=Sx Og.cell;obtain⟨v0,v1,v2,-,-,-⟩:=Sx Nz.cell;simp only[aF,List.getElem?_toArray,Yz,Zb]at d0 d1 d2 v0 v1 v2;have Pi:∀j,w5.frozen? ⟨w.heap.size+1,j,none⟩=false:=fun j=>frozen_of_row _ _ j _ _ Nz;have n1:=Ou.o;have n2:g≠w.heap.size+1:=Ne.symm n1;have Od:=Hd (show ∀b off,S=some ⟨b,off,none⟩->0<q->b≠w.heap.size+1 from fun b off h h0=>Oy.o b off h (Nt.o b off h h0));clear Nw Og Nz Jj Ok q2 fz Iz Oi Nu Oc Be;go_wp2_with fail;go_region;have hI:dK (w5.setRow (w.heap.size+1) (aF a b q)) S q vs:=by
  by_cases h0:0<q;· exact Oe.o.setN (fun b off h hb=>Od.o b off h h0) _
  . exact⟨Oe.o.1,Oe.o.2.1,fun h=>absurd h h0⟩
 generalize Oa:World.drew _=w6;have Of:=Oa;rw[kN Ov.o]at Of;obtain⟨hF,hB⟩:=tL Ov.o Ck.o aA Oa;have Pc:=Hd hF;have Du:=Hd hB;have Pb:=Hd (show dK w6 S q vs by rw[<-Of];exact hI);clear Oa Of hF hB hI;go_wp2_with fail;refine Zu (jV (p:=5) (u:=4) (v:=6) rfl _ _ (w.heap.size+1) a b q rfl Pc.o) rfl ⟨S,q,sc,a,b,q,vs,(by rw[Option.isSome_map];rfl),Pb.o,Pd.o,Pe.o,⟨fun r h=>?_,fun h=>?_⟩,Du.o⟩
 . obtain⟨r',h1,rfl⟩:=Option.map_eq_some_iff.1 h
   have:=Ow.o.1 r' h1
   subst this;show(vs,(a,b,(vs.length:Int)))=_;rw[Oq.o]
 . have h1:oo=none:=by cases oo with|none=>rfl|some r=>cases h
   obtain⟨e1,e2,e3,e4⟩:=Ow.o.2 h1
   have:=Oq.o
   rw[e1]at this;exact⟨e1,e2,e3,by simp at this;omega⟩
theorem zB(l:Option Addr)(n c:Nat)(es:List En)(x:Ex)(A:Option Addr)(ca:Nat)(B:Option Addr)(cb:Nat)(w:World)(hE:bU w l n es)(hr:aH w x A B)(hs:bD x<=1000000)(Aq:∀p∈bL x,cX p):
 Calls Tryz.prog 114 #[.slice l n c,.agg (aE x A ca B cb)] w (kL w (eG es x)):=by
 cases h:(bH x && dQ x)with
 |false=>
  rw[aB9 h];exact aX3 l n c x A ca B cb w hr hs Aq h
 |true=>
  by_cases hk:x.k=14
  . have e:eG es x=(nX es x.subs).map fun r=>(r.1,(r.2.1,r.2.2.1,(r.1.length:Int))):=by
     rw[aBr h hk];cases ha:iD es x.subs x.subs.length with
     |none=>rw[<-aCu,ha];rfl
     |some r=>
      rw[<-aCu,ha];simp only[Option.map_some,aJw ha]
    rw[e];exact aVb l n c es x A ca B cb w hE hr hs Aq h hk _ rfl _ rfl
  . rw[xM h hk,<-bA4];exact aVa l n c es x A ca B cb w hE hr hs Aq h hk _ rfl
structure Rm where
 E:Option Addr
 ec:Nat
 N:Option Addr
 nc:Nat
 A1:Option Addr
 c1:Nat
 A2:Option Addr
 c2:Nat
 A3:Option Addr
 c3:Nat
 A4:Option Addr
 c4:Nat
def aY(p:Pg)(x:Nd)(r:Rm):Array Value:=#[.slice r.E p.es.length r.ec,.slice r.N p.ns.length r.nc,.string x.nm,.slice r.A1 x.ins.length r.c1,.slice r.A2 x.outs.length r.c2,.slice r.A3 x.vars.length r.c3,.slice r.A4 x.eqs.length r.c4]
def dF(w:World)(p:Pg)(x:Nd)(r:Rm):Prop:=cJ w p r.E r.N/\cF w x r.A1 r.A2 r.A3 r.A4
theorem dF.below{w w':World}{p:Pg}{x:Nd}{r:Rm}(h:dF w p x r)(hb:Below w.heap.size w w'):dF w' p x r:=⟨h.1.below hb,h.2.below hb⟩
theorem lQ{w w1:World}{cs:Array Value}{T:TypeId}(h:w.alloc (.cells cs T)=w1):Below w.heap.size w w1/\w1.heap.size=w.heap.size+1/\∀w',Below w1.heap.size w1 w'->∀j,w'.cell? ⟨w.heap.size,j,none⟩=cs[j]?:=by
 subst h;refine⟨(Yg _ _).alloc (Yh _) _,by simp,pO (T:=T) (Zx _ _)⟩
theorem lO{w w1:World}{cs ds:Array Value}{T U:TypeId}(h:(w.alloc (.cells cs T)).alloc (.cells ds U)=w1):Below w.heap.size w w1/\w1.heap.size=w.heap.size+2/\(∀w',Below w1.heap.size w1 w'->∀j,w'.cell? ⟨w.heap.size,j,none⟩=cs[j]?)/\(∀w',Below w1.heap.size w1 w'->∀j,w'.cell? ⟨w.heap.size+1,j,none⟩=ds[j]?):=by
 subst h;refine⟨((Yg _ _).alloc (Yh _) _).alloc aG _,by simp,pO (T:=T) (hZ _ (Zx _ _)),pO (T:=U) (heap_alloc2_new _ _ _)⟩
theorem aCv{w w1:World}{cs:Array Value}{T U:TypeId}(h:(w.alloc (.cells cs T)).alloc (.cells #[.int .i64 0,.int .i64 0,.int .i64 0] U)=w1):Below w.heap.size w w1/\w1.heap.size=w.heap.size+2/\(∀w',Below w1.heap.size w1 w'->∀j,w'.cell? ⟨w.heap.size,j,none⟩=cs[j]?)/\F3 U w1 (w.heap.size+1) 0 0 0:=by
 have h2:=lO h;subst h;exact⟨h2.1,h2.2.1,h2.2.2.1,heap_alloc2_new _ _ _⟩
theorem gO{w w1:World}{cs ds:Array Value}{T U V:TypeId}(h:((w.alloc (.cells cs T)).alloc (.cells ds U)).alloc (.cells #[.int .i64 0,.int .i64 0,.int .i64 0] V)=w1):Below w.heap.size w w1/\w1.heap.size=w.heap.size+3/\(∀w',Below w1.heap.size w1 w'->∀j,w'.cell? ⟨w.heap.size,j,none⟩=cs[j]?)/\(∀w',Below w1.heap.size w1 w'->∀j,w'.cell? ⟨w.heap.size+1,j,none⟩=ds[j]?)/\F3 V w1 (w.heap.size+1+1) 0 0 0:=by
 generalize Ai:(w.alloc (.cells cs T)).alloc (.cells ds U)=w0 at h;obtain⟨h1,h2,h3,h4⟩:=lO Ai;subst h;have hb:=(Yg w0.heap.size w0).alloc (Yh _) (.cells #[.int .i64 0,.int .i64 0,.int .i64 0] V);refine⟨h1.tr hb,by simp;omega,fun w' Ia j=>h3 w' (hb.tr Ia) j,fun w' Ia j=>h4 w' (hb.tr Ia) j,?_⟩;have h0:=F3.new V w0 0 0 0;rwa[show w0.heap.size=w.heap.size+1+1 by omega]at h0
theorem aT{w w1 w2:World}(h:Below w.heap.size w w1)(hb:Below w1.heap.size w1 w2):Below w.heap.size w w2:=h.tr hb
theorem aBu(p:Pg)(x:Nd)(r:Rm)(s:ByteArray)(w:World)(h:dF w p x r):
 Calls Tryz.prog 79 #[.agg (aY p x r),.string s] w (bF w ((aZ x s).map aS)):=by
 have Dv:=Hd fun w1 (hb:Below w.heap.size w w1)=>aLn x r.A1 r.c1 r.A2 r.c2 r.A3 r.c3 r.A4 r.c4 s w1 (h.below hb).2;unfold nL kY at Dv
 have HZ:=Hd (show ∀ e w',(e=.returned (.tuple #[.agg (aF ((aZ x s).getD default).k ((aZ x s).getD default).e ((aZ x s).getD default).l),.bool (aZ x s).isSome])/\Below w.heap.size w w')->bF w ((aZ x s).map aS) e w' from fun e w' h=>by
  cases hd:aZ x s with
  |none=>rw[hd]at h;exact h
  |some d=>rw[hd]at h;exact h)
 generalize bF w ((aZ x s).map aS)=Aq at *;generalize (aZ x s).getD default=dd at *;generalize (aZ x s).isSome=ds at *;unfold aU bK at Dv;unfold aF at HZ;clear h;unfold aY;go_in
 go_upto_region 1 with(fail);generalize Ai:(w.alloc _).alloc _=w0;obtain⟨Ae,Al,Bf,hR⟩:=aCv Ai;have Af:=Hd Ae;have HR:=Hd hR;obtain⟨-,-,q2,q3,q4,q5⟩:=Sx (Bf w0 (Yg _ _));have q6:=Bf w0 (Yg _ _) 6;simp only[Ya,Yb,Yc]at q2 q3 q4 q5 q6;clear Ai Ae Al Bf hR;go_wp2_with fail;refine(Dv.o w0 Af.o).mono ?_;rintro e w1 ⟨rfl,Aa⟩;have Bi:=Hd (HR.o.below Aa);have Ac:=Hd (aT Af.o Aa);clear Aa q2 q3 q4 q5 q6 Dv;go_upto_region 2 with(fail);generalize Br:w1.alloc _=w2;obtain⟨Ad,hg2,Bf⟩:=lQ Br;have Ce:=Hd (Bi.o.below Ad);have Aj:=Hd (aT Ac.o Ad);obtain⟨-,e1,e2,e3,-,-⟩:=Sx (Bf w2 (Yg _ _));simp only[Ya,Yb,Yc]at e1 e2 e3;clear Br Ad hg2 Bf Bi;go_wp2_with (refine Zv rfl _ _ _ rfl (w.heap.size+1) _ rfl rfl _ _ Ce.o cW rfl aQ ?_);exact Zu (bA (p:=4) (u:=5) rfl _ _ (w.heap.size+1) dd.k dd.e dd.l rfl (Ce.o.set _ _ _)) rfl (HZ.o _ _ ⟨rfl,Xc Aj.o aA _⟩)
theorem aPb(p:Pg)(x:Nd)(r:Rm)(s:ByteArray)(a b c:Int)(w:World)(h:dF w p x r):
 Calls Tryz.prog 49 #[.agg (aY p x r),.string s,.agg (aF a b c)] w fun e w'=>e=.returned (.bool (gM x s (a,b,c)))/\Below w.heap.size w w':=by
 have Aq:=Hd fun w1 (hb:Below w.heap.size w w1)=>aBu p x r s w1 (h.below hb);have HB:=Hd (show gM x s (a,b,c)=match (aZ x s).map aS with|none=>false|some t=>decide (t=(a,b,c))from by unfold gM;cases aZ x s<;>rfl);clear h;generalize gM x s (a,b,c)=Au at *;generalize (aZ x s).map aS=o at *;unfold bF aF at Aq;unfold aY aF at *;cases o with
 |none=>
  have HO:=Hd (show Au=false from HB.o);simp only[Option.getD_none,Option.isSome_none]at Aq;go_in
  go_upto_region 1 with(fail);generalize Ai:(w.alloc _).alloc _=w0;obtain⟨Ae,Al,Bf,As⟩:=lO Ai;have Af:=Hd Ae;obtain⟨q0,q1,q2,q3,q4,q5⟩:=Sx (Bf w0 (Yg _ _));have q6:=Bf w0 (Yg _ _) 6;simp only[Ya,Yb,Yc]at q0 q1 q2 q3 q4 q5 q6;clear Ai Ae Al Bf As;go_wp2_with fail;refine(Aq.o w0 Af.o).mono ?_;rintro e w1 ⟨rfl,Aa⟩;have Ac:=Hd (aT Af.o Aa);clear Aa q0 q1 q2 q3 q4 q5 q6 Aq;go_upto_region 2 with(fail);exact aMo
 |some t=>
  obtain⟨t0,t1,t2⟩:=t;simp only[Yt,Option.isSome_some]at Aq;rcases jD t0 t1 t2 a b c with⟨h0,h1,h2,he⟩|⟨h1,he⟩|⟨h0,h1,he⟩|⟨h0,h1,h2,he⟩
  all_goals
   have HO:=Hd (show Au=_ from HB.o.trans (by first|exact Zy he|exact Zz he));clear he;try subst h0
   try subst h1
   try subst h2
   go_in
   go_upto_region 1 with(fail);generalize Ai:(w.alloc _).alloc _=w0;obtain⟨Ae,Al,Bf,As⟩:=lO Ai;have Af:=Hd Ae;have Bp:=Hd As;obtain⟨q0,q1,q2,q3,q4,q5⟩:=Sx (Bf w0 (Yg _ _));have q6:=Bf w0 (Yg _ _) 6;simp only[Ya,Yb,Yc]at q0 q1 q2 q3 q4 q5 q6;clear Ai Ae Al Bf As;go_wp2_with fail;refine(Aq.o w0 Af.o).mono ?_;rintro e w1 ⟨rfl,Aa⟩;have Ac:=Hd (aT Af.o Aa);have Gj:=Hd fun w' (hb:Below w1.heap.size w1 w') j=>Bp.o w' (aT Aa hb) j;clear Aa q0 q1 q2 q3 q4 q5 q6 Aq;go_upto_region 2 with(fail);generalize Br:w1.alloc _=w2;obtain⟨Ad,hg2,Bf⟩:=lQ Br;have Aj:=Hd (aT Ac.o Ad);obtain⟨e0,e1,e2,-,-,-⟩:=Sx (Bf w2 (Yg _ _));obtain⟨f0,f1,f2,-,-,-⟩:=Sx (Gj.o w2 Ad);simp only[Ya,Yb,Yc]at e0 e1 e2 f0 f1 f2;clear Br Ad hg2 Bf;go_wp2_with fail;go_ret;exact⟨aL HO.o.symm,Aj.o⟩
theorem bA7{es:List En}{n:Nd}{s:ByteArray}{arms:List ByteArray}{k:Nat}(hk:k<arms.length)(h:iH es n s (arms[k]?.getD ByteArray.empty)=false):fL es n s arms=false:=by
 unfold fL;rw[List.all_eq_false];exact⟨_,Zh hk,by rw[Yk hk]at h;simpa using h⟩
theorem aX4{es:List En}{n:Nd}{s:ByteArray}{arms:List ByteArray}(h:∀j,j<arms.length->iH es n s (arms[j]?.getD ByteArray.empty)=true):fL es n s arms=true:=by
 unfold fL;rw[Zg];intro a ha;obtain⟨j,hj,rfl⟩:=Zj ha
 have:=h j hj
 exact vT
theorem aDi(p:Pg)(x:Nd)(r:Rm)(s:ByteArray)(A:Option Addr)(n c:Nat)(arms:List ByteArray)(w:World)(h:dF w p x r)(hA:aP w A n arms):
 Calls Tryz.prog 46 #[.agg (aY p x r),.string s,.slice A n c] w fun e w'=>e=.returned (.bool (fL p.es x s arms))/\Below w.heap.size w w':=by
 have Da:=hA.len;have Nu:=hA.max;have Cq:=Hd fun(a:ByteArray) w1 (hb:Below w.heap.size w w1)=>zZ r.E p.es.length r.ec p.es a w1 (h.below hb).1.1;have Nt:=Hd fun a b c w1 (hb:Below w.heap.size w w1)=>aPb p x r s a b c w1 (h.below hb);have Cj:=Hd fun k (hk:k<n) hf=>bA7 (es:=p.es) (n:=x) (s:=s) (arms:=arms) (k:=k) aA hf;have Jv:=Hd fun hf=>aX4 (es:=p.es) (n:=x) (s:=s) (arms:=arms) hf;have Jx:=Hd (show ∀a,iH p.es x s a=match bP p.es a with|none=>false|some q=>gM x s (q.1,q.2.1,0)from fun a=>rfl);have Hp:=Hd hA;clear h hA;unfold lG at Cq;generalize fL p.es x s arms=Au at *;unfold aY aF at *;go_in
 go_upto_region 1 with(fail);generalize Ai:w.alloc _=w0;obtain⟨Ae,Al,Bf⟩:=lQ Ai;have Af:=Hd Ae;have HC:=Hd Bf;clear Ai Ae Al Bf;go_wp2_with fail;go_loopw [14] (fun i wr=>∃k:Nat,k<=n/\i=.int .i64 k/\(∀j,j<k->iH p.es x s (arms[j]?.getD ByteArray.empty)=true)/\Below w0.heap.size w0 wr) (fun i _=>n-(intOf i).toNat)
 case atStart=>exact⟨0,Yq _,rfl,fun j hj=>absurd hj aA,Yg _ _⟩
 case round=>
  obtain⟨k,hk,rfl,Bc,Ay⟩:=hrel;have Cg:=Hd Bc;have Cm:=Hd Ay;have Bo:=Hd (aT Af.o Ay);clear Bc Ay;by_cases Ah:k<n
  . obtain⟨b,off,rfl,hb,hc⟩:=(Hp.o.below Bo.o).at_ Ah;have d0:=hc k Ah;have HN:=Hd (Cj.o k Ah);have Dx:=Hd fun e=>dC (P:=fun j=>iH p.es x s (arms[j]?.getD ByteArray.empty)=true) Cg.o e;have q0:=HC.o wr Cm.o 0;simp only[Ya,Yb,Yc]at q0;clear hc;generalize arms[k]?.getD ByteArray.empty=a at d0 HN Dx;have Bp:=Hd (Jx.o a);have Aq:=Hd (Cq.o a wr Bo.o);generalize bP p.es a=o at Bp Aq;cases o with
    |none=>
     have HO:=Hd (HN.o Bp.o);simp only[Option.map_none,Option.getD_none,Option.isSome_none]at Aq;go_wp2_with fail;refine Aq.o.mono ?_;rintro e w1 ⟨rfl,Aa⟩;have Ac:=Hd (aT Bo.o Aa);clear Aa Aq d0 q0;go_upto_region 5 with(fail);exact aMo
    |some q=>
     obtain⟨qa,qb,qc⟩:=q;simp only[Option.map_some,Yt,Option.isSome_some]at Aq;have Bp:=Hd (show iH p.es x s a=gM x s (qa,qb,0)from Bp.o);have Bx:=Hd fun w1 hb=>Nt.o qa qb 0 w1 hb;generalize gM x s (qa,qb,0)=hb at *;go_wp2_with fail;refine Aq.o.mono ?_;rintro e w1 ⟨rfl,Aa⟩;have Ac:=Hd (aT Bo.o Aa);have Ih:=Hd (aT Cm.o Aa);clear Aa Aq d0 q0;go_upto_region 5 with(fail);generalize Br:w1.alloc _=w2;obtain⟨Ad,hg2,Bf⟩:=lQ Br;have Aj:=Hd (aT Ac.o Ad);have Ef:=Hd (aT Ih.o Ad);obtain⟨e0,e1,e2,-,-,-⟩:=Sx (Bf w2 (Yg _ _));obtain⟨q0,q1,q2,q3,q4,q5⟩:=Sx (HC.o w2 Ef.o);have q6:=HC.o w2 Ef.o 6;simp only[Ya,Yb,Yc]at e0 e1 e2 q0 q1 q2 q3 q4 q5 q6;clear Br Ad hg2 Bf;cases hb with
     |false=>
      have HO:=Hd (HN.o Bp.o);go_wp2_with fail;refine(Bx.o w2 Aj.o).mono ?_;rintro e w3 ⟨rfl,Ak⟩;have Ax:=Hd (aT Aj.o Ak);clear Ak;go_wp2_with fail;go_ret;exact⟨aL HO.o.symm,Ax.o⟩
     |true=>
      have HO:=Hd (Dx.o Bp.o);go_wp2_with fail;refine(Bx.o w2 Aj.o).mono ?_;rintro e w3 ⟨rfl,Ak⟩;have Ax:=Hd (aT Ef.o Ak);clear Ak;go_wp2_with fail;go_roundw;case rel=>exact⟨k+1,by omega,by go_num,HO.o,Ax.o⟩
      case measure=>simp[intOf];omega
  . exact aNv
theorem aP.lit2(w:World)(a b:ByteArray)(T:TypeId):aP (w.alloc (.cells #[.string a,.string b] T)) (some ⟨w.heap.size,0,none⟩) 2 [a,b]:=
 ⟨rfl,by omega,fun _=>⟨_,0,rfl,by simp,fun i hi=>by
  rw[Zp];rcases(show i=0\/i=1 by omega)with rfl|rfl<;>rfl⟩⟩
theorem aP.lit1(w:World)(a:ByteArray)(T:TypeId):aP (w.alloc (.cells #[.string a] T)) (some ⟨w.heap.size,0,none⟩) 1 [a]:=
 ⟨rfl,by omega,fun _=>⟨_,0,rfl,by simp,fun i hi=>by
  rw[Zp];obtain rfl:i=0:=by omega
  rfl⟩⟩
theorem bA8{es:List En}{n:Nd}{s:ByteArray}{arms:List ByteArray}(h:fL es n s arms=true)(h1:0<arms.length)(Fc:∀d,aZ n s=some d->bQ es.length d.k d.e d.l=true):
 ∃d,aZ n s=some d/\(d.k=2\/(d.k=3/\∃m:Nat,d.e=m/\m<es.length)):=by
 obtain⟨a,l,rfl⟩:=List.exists_cons_of_length_pos h1;unfold fL at h;rw[List.all_cons,Ys]at h;have h:=h.1;cases hd:aZ n s with
 |none=>
  unfold iH gM at h;rw[hd]at h;split at h<;>cases h
 |some d=>
  refine⟨d,rfl,?_⟩;have hr:=Fc d hd;rcases aK8 hd h with h|h;· exact .inl (congrArg (·.1) h)
  . have hk:d.k=3:=h.1;refine .inr ⟨hk,?_⟩;unfold bQ at hr;rw[hk]at hr;simp only[Ys,decide_eq_true_eq]at hr;have h2:=hr.2;rw[if_neg aA]at h2;have h2:=of_decide_eq_true h2;exact⟨d.e.toNat,by omega,by omega⟩
theorem bA9(p:Pg)(x:Nd)(r:Rm)(s:ByteArray)(A:Option Addr)(n c:Nat)(arms:List ByteArray)(w:World)(h:dF w p x r)(hA:aP w A n arms)(hn:0<n)(Fc:∀d,aZ x s=some d->bQ p.es.length d.k d.e d.l=true):
 Calls Tryz.prog 146 #[.agg (aY p x r),.string s,.slice A n c] w fun e w'=>e=.returned (.bool (rQ p.es x s arms))/\Below w.heap.size w w':=by
 have Da:=hA.len;have Gh:=Hd fun w1 (hb:Below w.heap.size w w1)=>aDi p x r s A n c arms w1 (h.below hb) (hA.below hb);have Bp:=Hd fun w1 (hb:Below w.heap.size w w1)=>aBu p x r s w1 (h.below hb);have Ha:=Hd fun(B:Option Addr)(m d:Nat)(tt:List ByteArray) w1 (hb:Below w.heap.size w w1)(ht:aP w1 B m tt)=>aKh A B n m c d arms tt w1 (hA.below hb) ht;have Ny:=Hd h.1.1;have Hy:=Hd fun ht=>bA8 (es:=p.es) (n:=x) (s:=s) (arms:=arms) ht aA Fc;have Iu:=Hd (show rQ p.es x s arms=(fL p.es x s arms && (if((gZ (aZ x s)).1==2)=true then eK arms [lZ,lW]else eK arms (cM p.es (gZ (aZ x s)).2.1.toNat)))from rfl);clear h hA Fc;generalize rQ p.es x s arms=Au at *;generalize fL p.es x s arms=tb at *;unfold bF aF at Bp;unfold aY at *;go_in
 go_upto_region 1 with(fail);generalize Ai:w.alloc _=w0;obtain⟨Ae,Al,Bf⟩:=lQ Ai;have Af:=Hd Ae;have HC:=Hd Bf;obtain⟨q0,q1,q2,q3,q4,q5⟩:=Sx (Bf w0 (Yg _ _));have q6:=Bf w0 (Yg _ _) 6;simp only[Ya,Yb,Yc]at q0 q1 q2 q3 q4 q5 q6;have Jx:=Hd (Gh.o w0 Ae);clear Ai Ae Al Bf Gh;cases tb with
 |false=>
  have HO:=Hd (show Au=false by rw[Iu.o];rfl);go_wp2_with fail;refine Jx.o.mono ?_;rintro e w1 ⟨rfl,Aa⟩;have Ac:=Hd (aT Af.o Aa);clear Aa;exact aOy
 |true=>
  obtain⟨d,hd,Nt⟩:=Hy.o rfl;rw[hd]at Bp Iu;simp only[Option.map_some,Yt,Option.isSome_some,aS]at Bp;have Iu:=Hd (show Au=(if(d.k==2)=true then eK arms [lZ,lW]else eK arms (cM p.es d.e.toNat))by rw[Iu.o,Bool.true_and];rfl);have Nv:=Hd Nt;clear hd Hy Nt;generalize d.k=dk at *;generalize d.e=de at *;generalize d.l=dl at *;go_wp2_with fail;refine Jx.o.mono ?_;rintro e w1 ⟨rfl,Aa⟩;have Ac:=Hd (aT Af.o Aa);have Ih:=Hd Aa;obtain⟨q0,q1,q2,q3,q4,q5⟩:=Sx (HC.o w1 Aa);have q6:=HC.o w1 Aa 6;simp only[Ya,Yb,Yc]at q0 q1 q2 q3 q4 q5 q6;clear Aa Jx;go_wp2_with fail;refine(Bp.o w1 Ac.o).mono ?_;rintro e w2 ⟨rfl,Ad⟩;have Aj:=Hd (aT Ac.o Ad);have Ef:=Hd (aT Ih.o Ad);clear Ad q0 q1 q2 q3 q4 q5 q6 Bp;go_upto_region 4 with(fail);generalize Cr:w2.alloc _=w3;obtain⟨Ak,Nw,Aq⟩:=lQ Cr;have Ax:=Hd (aT Aj.o Ak);have Nx:=Hd (aT Ef.o Ak);have e0:=Aq w3 (Yg _ _) 0;have e1:=Aq w3 (Yg _ _) 1;have q0:=HC.o w3 Nx.o 0;simp only[Ya,Yb,Yc]at e0 e1 q0;clear Cr Ak Nw Aq;rcases Nv.o with hk|⟨hk,m,hm,hml⟩
  . subst hk;have HO:=Hd (show Au=eK arms [lZ,lW]from Iu.o);have Bx:=Hd (Ha.o (some ⟨w3.heap.size,0,none⟩) 2 2 [lZ,lW] _ (Ax.o.alloc Ax.o.size _) (aP.lit2 w3 lZ lW 9));unfold lZ lW at Bx;go_wp2_with fail;refine Bx.o.mono ?_;rintro e w4 ⟨rfl,Bk⟩;have Be:=Hd (aT (Ax.o.alloc Ax.o.size _) Bk);exact aOn
  . subst hk hm;have HO:=Hd (show Au=eK arms (cM p.es m)from Iu.o);obtain⟨b,off,hE,hb,hc⟩:=(Ny.o.below Ax.o).at_ hml;obtain⟨-,A',n',c',Nz,Nu⟩:=hc m hml;rw[hE]at q0;have Bx:=Hd (Ha.o A' n' c' (cM p.es m) w3 Ax.o Nu);clear hc Nu;go_wp2_with fail;refine Bx.o.mono ?_;rintro e w4 ⟨rfl,Bk⟩;have Be:=Hd (aT Ax.o Bk);exact aOn
end
end Go.Proofs.YtkbpdoomhfkngaaGreat
