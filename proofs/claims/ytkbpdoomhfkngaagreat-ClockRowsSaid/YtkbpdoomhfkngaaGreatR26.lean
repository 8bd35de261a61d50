/- Parts of the proof: TrB, TrC, TrE. Conditions: each theorem's own. -/
import Derived.Test.YtkbpdoomhfkngaaGreatR18
import Derived.Test.YtkbpdoomhfkngaaGreatR25
namespace Go.Proofs.YtkbpdoomhfkngaaGreat
set_option linter.unusedVariables false
set_option linter.unusedSimpArgs false
set_option maxRecDepth 100000
set_option maxHeartbeats 40000000
section
open Go.RowKit Go.Sort Go.BigFrame
def vlV(o:Option (T3 × Int)):Value:=.tuple #[.agg (f3A ((o.map (·.1.1)).getD 0) ((o.map (·.1.2.1)).getD 0) ((o.map (·.1.2.2)).getD 0)),.int .i64 ((o.map (·.2)).getD 0),.bool o.isSome]
theorem trValue(l:Option Addr) (n c:Nat) (es:List En) (x:Ex) (A:Option Addr) (ca:Nat) (B:Option Addr) (cb:Nat) (w:World) (hE:RdE w l n es) (hr:rdX w x A B) (hx:literalX x=true):
 Calls Tryz.prog 171 #[.slice l n c,.agg (exA x A ca B cb)] w fun e w'=>e=.returned (vlV (litT es x))∧Below w.heap.size w w':=by
 have HF:=Hd fun w0 h=>box_res (w:=w) (w0:=w0) (x:=x) (A:=A) (ca:=ca) (B:=B) (cb:=cb) (T:=52) (U:=41) h;have HAR:=Hd fun w1 (hb:Below w.heap.size w w1)=>scArm l n c es x.s w1 (hE.below hb);have HSI:=Hd trSingle;have HS:=Hd (show litT es x=if(x.k==1)=true then some ((1,0,0),x.n) else if(x.k==2)=true then some ((2,0,0),x.n) else if(x.k==5)=true then some ((1,0,0),wrap64 (-(subX x 0).n)) else(armR es x.s).map fun r=>((r.1,r.2.1,0),r.2.2) from rfl)
 have HSB:=Hd fun w1 (hb:Below w.heap.size w w1) (h5:x.k=5)=>(show ∃ b off,B=some ⟨b,off,none⟩∧x.subs.length=1∧w1.cell? ⟨b,off+1,none⟩=some (.int .i64 (subX x 0).n) from by
  have h1:x.subs.length=1:=by
   unfold literalX at hx;rw [h5] at hx
   simp at hx
   exact hx.1.2
  obtain⟨b,off,e,hb',hat⟩:=(hr.below hb).sub (i:=0) (by omega);obtain⟨A',c',B',d',hrg,_⟩:=hat 0 (by omega);obtain⟨c0,c1,-⟩:=rangeAt_six hrg;exact⟨b,off,e,h1,by simpa using c1⟩)
 clear hE hr hx;unfold exA at HF ⊢;unfold f3A at HSI;generalize litT es x=out at *;generalize armR es x.s=ar at *;generalize hk:x.k=k at *
 by_cases h1:k=1
 · subst h1;have HN:=Hd (show out=some ((1,0,0),x.n) from HS.out);rw [HN.out]
   go_enter Tryz.func171,Tryz.ntmps171
   go_upto_region 1 with(fail)
   generalize hw0:(w.alloc _).alloc _=w0;obtain⟨hR,hcell,hb0,hsz⟩:=HF.out w0 hw0;have HR:=Hd hR;have HB0:=Hd hb0;have q0:=hcell w0 (Below.refl _ _) 0;have q1:=hcell w0 (Below.refl _ _) 1;simp only [Ya,Yb,Yc] at q0 q1;have hne:w.heap.size≠w.heap.size+1:=by omega
   clear hw0 hR hcell hb0 HF HSB HAR HS
   go_upto_region 3 with(fail)
   refine wp_region_out (l1:=[_,_,_]) (os:=_) (l2:=[_,_]) (p:=4) (tx:=11) (r:=w.heap.size+1) (T:=41) (zc:=f3A 0 0 0) (by kernel_rfl) (by kernel_rfl) rfl HR.out rfl infoTy0 ?_
   repeat
    apply fix_step rfl (by simp)
    case h1=>
     intro wb hb;have l0:=fun d os=>cell_regrown (bs_cell hb hne q1) d os;have cA:=fun d os=>Calls.regrown_of (HSI.out 1 (grow (redrawn wb d) os))
     go_big_quiet_step (first | with_reducible exact cA _ _)
     refine wpQuiet_nil ?_;simp only [List.getElem?_toArray,List.getElem?_cons_succ,List.getElem?_cons_zero];exact rfl
    simp only [Act.put,Yd,Ye,Yf]
   refine⟨f3A 1 0 0,rfl,rfl,by simp [f3A,Value.oneCell'],fun W hB hz=>?_⟩;have HB4:=Hd (bs_below hB HB0.out (Nat.le_refl _) (Nat.le_succ _));have HZ4:=Hd hz;clear hB hz
   go_wp2_with fail
   exact bodyPost_ret (res_ty3 (p:=4) (u:=5) (v:=6) rfl _ _ (w.heap.size+1) 1 0 0 rfl HZ4.out) rfl ⟨rfl,HB4.out⟩
 have e1:(k==1)=false:=by simpa using h1
 by_cases h2:k=2
 · subst h2;have HN:=Hd (show out=some ((2,0,0),x.n) from HS.out);rw [HN.out]
   go_enter Tryz.func171,Tryz.ntmps171
   go_upto_region 1 with(fail)
   generalize hw0:(w.alloc _).alloc _=w0;obtain⟨hR,hcell,hb0,hsz⟩:=HF.out w0 hw0;have HR:=Hd hR;have HB0:=Hd hb0;have q0:=hcell w0 (Below.refl _ _) 0;have q1:=hcell w0 (Below.refl _ _) 1;simp only [Ya,Yb,Yc] at q0 q1;have hne:w.heap.size≠w.heap.size+1:=by omega
   clear hw0 hR hcell hb0 HF HSB HAR HS
   go_upto_region 7 with(fail)
   refine wp_region_out (l1:=[_,_,_]) (os:=_) (l2:=[_,_]) (p:=4) (tx:=25) (r:=w.heap.size+1) (T:=41) (zc:=f3A 0 0 0) (by kernel_rfl) (by kernel_rfl) rfl HR.out rfl infoTy0 ?_
   repeat
    apply fix_step rfl (by simp)
    case h1=>
     intro wb hb;have l0:=fun d os=>cell_regrown (bs_cell hb hne q1) d os;have cA:=fun d os=>Calls.regrown_of (HSI.out 2 (grow (redrawn wb d) os))
     go_big_quiet_step (first | with_reducible exact cA _ _)
     refine wpQuiet_nil ?_;simp only [List.getElem?_toArray,List.getElem?_cons_succ,List.getElem?_cons_zero];exact rfl
    simp only [Act.put,Yd,Ye,Yf]
   refine⟨f3A 2 0 0,rfl,rfl,by simp [f3A,Value.oneCell'],fun W hB hz=>?_⟩;have HB4:=Hd (bs_below hB HB0.out (Nat.le_refl _) (Nat.le_succ _));have HZ4:=Hd hz;clear hB hz
   go_wp2_with fail
   exact bodyPost_ret (res_ty3 (p:=4) (u:=5) (v:=6) rfl _ _ (w.heap.size+1) 2 0 0 rfl HZ4.out) rfl ⟨rfl,HB4.out⟩
 have e2:(k==2)=false:=by simpa using h2
 by_cases h5:k=5
 · subst h5;obtain⟨b,off,rfl,hl,hc⟩:=HSB.out w (Below.refl _ _) rfl;have HSC:=Hd hc;generalize (subX x 0).n=z at *;have HN:=Hd (show out=some ((1,0,0),wrap64 (-z)) from HS.out);rw [HN.out];rw [hl] at HF ⊢;have hbl:=World.block_lt_of_cell? _ _ hc
   go_enter Tryz.func171,Tryz.ntmps171
   go_upto_region 1 with(fail)
   generalize hw0:(w.alloc _).alloc _=w0;obtain⟨hR,hcell,hb0,hsz⟩:=HF.out w0 hw0;have HR:=Hd hR;have HB0:=Hd hb0;have q0:=hcell w0 (Below.refl _ _) 0;have q5:=hcell w0 (Below.refl _ _) 5;simp only [Ya,Yb,Yc] at q0 q5;have c1:=(hb0.cell (p:=⟨b,off+1,none⟩) hbl).trans HSC.out;have hne:w.heap.size≠w.heap.size+1:=by omega
   have hbl2:b<w.heap.size:=hbl;have hnb:b≠w.heap.size+1:=by omega
   clear hw0 hR hcell hb0 hsz HF HSB HAR HS hc h1 h2 e1 e2
   go_upto_region 5 with(fail)
   refine wp_region_out (l1:=[_,_,_,_,_,_,_]) (os:=_) (l2:=[_,_]) (p:=4) (tx:=16) (r:=w.heap.size+1) (T:=41) (zc:=f3A 0 0 0) (by kernel_rfl) (by kernel_rfl) rfl HR.out rfl infoTy0 ?_
   repeat
    apply fix_step rfl (by simp)
    case h1=>
     intro wb hb;have l0:=fun d os=>cell_regrown (bs_cell hb hne q5) d os;have l1:=fun d os=>cell_regrown (bs_cell hb hnb c1) d os;have cA:=fun d os=>Calls.regrown_of (HSI.out 1 (grow (redrawn wb d) os))
     go_big_quiet_step (first | with_reducible exact cA _ _)
     refine wpQuiet_nil ?_;simp only [List.getElem?_toArray,List.getElem?_cons_succ,List.getElem?_cons_zero];exact rfl
    simp only [Act.put,Yd,Ye,Yf]
   refine⟨f3A 1 0 0,rfl,rfl,by simp [f3A,Value.oneCell'],fun W hB hz=>?_⟩;have HB4:=Hd (bs_below hB HB0.out (Nat.le_refl _) (Nat.le_succ _));have HZ4:=Hd hz;clear hB hz
   go_wp2_with fail
   exact bodyPost_ret (res_ty3 (p:=4) (u:=5) (v:=6) rfl _ _ (w.heap.size+1) 1 0 0 rfl HZ4.out) rfl ⟨rfl,HB4.out⟩
 have e5:(k==5)=false:=by simpa using h5
 have HV:=Hd (show vlV out=.tuple #[.agg (f3A ((ar.map (·.1)).getD 0) ((ar.map (·.2.1)).getD 0) 0),.int .i64 ((ar.map (·.2.2)).getD 0),.bool ar.isSome] from by
  rw [HS.out,e1,e2,e5]
  cases ar <;> rfl)
 unfold armW f3A at HAR;unfold f3A at HV;rw [HV.out];clear HV HS h1 h2 h5 HSB HSI;generalize (ar.map (·.2.2)).getD 0=z at *;generalize (ar.map (·.1)).getD 0=a at *;generalize (ar.map (·.2.1)).getD 0=b at *;generalize ar.isSome=t at *;clear out ar
 go_enter Tryz.func171,Tryz.ntmps171
 go_upto_region 1 with(fail)
 generalize hw0:(w.alloc _).alloc _=w0;obtain⟨hR,hcell,hb0,hsz⟩:=HF.out w0 hw0;have HR:=Hd hR;have HB0:=Hd hb0;have q0:=hcell w0 (Below.refl _ _) 0;have q2:=hcell w0 (Below.refl _ _) 2;simp only [Ya,Yb,Yc] at q0 q2;clear hw0 hR hcell hb0 HF
 go_wp2_with fail
 refine(HAR.out w0 HB0.out).mono ?_;rintro e w1 ⟨rfl,hb1⟩;have HR1:=Hd (HR.out.below hb1);have HB1:=Hd (HB0.out.trans (hb1.mono HB0.out.size));clear hb1 q0 q2
 go_wp2_with (refine wpList_store_row rfl _ _ _ rfl (w.heap.size+1) _ rfl rfl _ _ HR1.out ty3_info rfl (by simp [Value.oneCell']) ?_)
 exact bodyPost_ret (res_ty3 (p:=4) (u:=5) (v:=6) rfl _ _ (w.heap.size+1) a b 0 rfl (HR1.out.set a b 0)) rfl ⟨rfl,below_setRow HB1.out (by omega) _⟩
end
section
open Go.RowKit Go.Sort Go.BigFrame
theorem ow_ne{w:World}{base:Nat}{e T:TypeId}{size:Nat}{v:Value}{n:Nat}{xs:List Value}(h:w.ownsRow base e size v n xs){g:Nat}{cs:Array Value}(hg:w.heap[g]?=some (Obj.cells cs T)) (hT:e≠T){k:Nat}(hk:v.ownBlock=some k):g≠k:=by
 rcases h.2 with⟨rfl,_⟩|⟨g',cap,cur,rfl,_,h2,_⟩
 · cases hk
 · simp only [Value.ownBlock,Option.some.injEq] at hk;intro he;subst hk;subst he;rw [hg] at h2;have h2:=Option.some.inj h2;injection h2 with _ h3;exact hT h3.symm
theorem ow_ne2{w:World}{base base':Nat}{e e':TypeId}{size size':Nat}{v v':Value}{n n':Nat}{xs xs':List Value}(h:w.ownsRow base e size v n xs) (h':w.ownsRow base' e' size' v' n' xs') (hT:e≠e'){k:Nat}(hk:v.ownBlock=some k):v'.ownBlock≠some k:=by
 rcases h'.2 with⟨rfl,_⟩|⟨g,cap,cur,rfl,hg,hh,r⟩
 · intro h;cases h
 · intro hk';simp only [Value.ownBlock,Option.some.injEq] at hk';subst hk';exact ow_ne h hh hT hk rfl
theorem own_grown{w w':World}{base k:Nat}{v:Value}{e:TypeId}{size:Nat}{xs:List Value}{row:Option Nat}(h:w.ownsRow base e size v k xs) (hg:w.grownBy w' row) (hn:∀ g,v.ownBlock=some g→row≠some g):w'.ownsRow base e size v k xs:=by
 refine⟨h.1,?_⟩;rcases h.2 with h | ⟨g,cap,cur,e1,hg2,hh,r2⟩
 · exact .inl h
 · exact .inr ⟨g,cap,cur,e1,hg2,(hg.block g (Array.getElem?_eq_some_iff.1 hh).1 (fun e=>hn g (by rw [e1];rfl) e.symm)).trans hh,r2⟩
structure TW (w0 X:World) (v u:Value) (k k':Nat) (vs:List Int) (ts:List T3):Prop where
 V:X.ownsRow w0.heap.size 2 1 v k (vs.map (Value.int .i64))
 T:X.ownsRow w0.heap.size 41 3 u k' (flY ts)
 B:Below w0.heap.size w0 X
section
variable {w0 X X':World}{v u:Value}{k k':Nat}{vs:List Int}{ts:List T3}
theorem TW.below(h:TW w0 X v u k k' vs ts) (hb:Below X.heap.size X X'):TW w0 X' v u k k' vs ts:=⟨own_belowU h.V hb,own_belowU h.T hb,h.B.trans (hb.mono h.B.size)⟩
theorem TW.alloc(h:TW w0 X v u k k' vs ts) (o:Obj):TW w0 (X.alloc o) v u k k' vs ts:=h.below ((Below.refl _ _).alloc (Nat.le_refl _) o)
theorem TW.drewN(h:TW w0 X v u k k' vs ts) (n:Nat):TW w0 (X.drewN n) v u k k' vs ts:=h.below (below_drewN (Below.refl _ _) n)
theorem TW.drew(h:TW w0 X v u k k' vs ts):TW w0 X.drew v u k k' vs ts:=h.below (Below.drew (Below.refl _ _))
theorem step_ints{ops:Array Oper}{o:Oper}{a:Act}{K:Act→World→Prop}{Q:Exit→Act→World→Prop}{E:Prop}{ov:Int}{gs:Nat}(hgd:o.guard=none) (s x:Operand)
 (ho:o.op=.call { callee:=.builtin .append,args:=#[s,x],argTypes:=#[146,146] })
 (hs:a.eval s=v) (hx:a.eval x=.slice (some ⟨gs,0,none⟩) 1 1) (hk:k≤1000)
 (hT:TW w0 X v u k k' vs ts) (hsrc:X.heap[gs]?=some (Obj.cells #[.int .i64 ov] 2))
 (h:∀ (A':Option Addr) (c':Nat) (X':World),TW w0 X' (.slice A' (k+1) c') u (k+1) k' (vs++[ov]) ts→(∀ (g:Nat) (cs:Array Value),X.heap[g]?=some (Obj.cells cs 41)→X'.heap[g]?=some (Obj.cells cs 41))→K (a.put o.dst (.slice A' (k+1) c')) X'):
 if Region.wanted o (yielded ops a.tmps)=true then Oper.wp Tryz.prog o a X K Q else E:=by
 obtain⟨i0,hi0,ji0,ji1,ji2⟩:=info_parts infoI64;refine step_append_any hgd s x _ ho w0.heap.size _ i0 (.int .i64 0) 1 8 Tryz.underlying146 hi0 ji0 ji1 ji2 rfl (by decide) v k _ hs hT.V (some ⟨gs,0,none⟩) 1 1 [.int .i64 ov] hx rfl (fun h=>by cases h) (fun ad e j u hu=>by cases e;exact World.news_of_block hsrc j u hu) (by simp [Value.oneCell']) (by unfold maxLen;omega) (by omega) hT.B.size ?_;intro A' c' X' h1 h2 _
 exact h A' c' X' ⟨by rw [List.map_append];exact h1,own_grown hT.T h2 (fun g hg=>ow_ne2 hT.T hT.V (by decide) hg),hT.B.grown h2 hT.B.size (fun j hj=>(hT.V.lt j hj).1)⟩
  (fun g cs hg=>(h2.block g (Array.getElem?_eq_some_iff.1 hg).1 (own_apart hT.V hg (by decide))).trans hg)
theorem step_tys{ops:Array Oper}{o:Oper}{a:Act}{K:Act→World→Prop}{Q:Exit→Act→World→Prop}{E:Prop}{oa ob oc:Int}{gs:Nat}(hgd:o.guard=none) (s x:Operand)
 (ho:o.op=.call { callee:=.builtin .append,args:=#[s,x],argTypes:=#[93,93] })
 (hs:a.eval s=u) (hx:a.eval x=.slice (some ⟨gs,0,none⟩) 1 1) (hk:k'≤1000)
 (hT:TW w0 X v u k k' vs ts) (hsrc:X.heap[gs]?=some (Obj.cells #[.int .i64 oa,.int .i64 ob,.int .i64 oc] 41))
 (h:∀ (A':Option Addr) (c':Nat) (X':World),TW w0 X' v (.slice A' (k'+1) c') k (k'+1) vs (ts++[(oa,ob,oc)])→(∀ (g:Nat) (cs:Array Value),X.heap[g]?=some (Obj.cells cs 2)→X'.heap[g]?=some (Obj.cells cs 2))→(∀ g:Nat,g<X.heap.size→some g≠u.ownBlock→X'.heap[g]?=X.heap[g]?)→K (a.put o.dst (.slice A' (k'+1) c')) X'):
 if Region.wanted o (yielded ops a.tmps)=true then Oper.wp Tryz.prog o a X K Q else E:=by
 obtain⟨i0,z0,hi0,hz1,hz0,hz2,hz3⟩:=info_three infoTy3;refine step_append_any hgd s x _ ho w0.heap.size _ i0 z0 3 24 Tryz.underlying93 hi0 hz1 hz0 hz2 hz3 (by decide) u k' _ hs hT.T (some ⟨gs,0,none⟩) 1 1 [.int .i64 oa,.int .i64 ob,.int .i64 oc] hx rfl (fun h=>by cases h) (fun ad e j u hu=>by cases e;exact World.news_of_block hsrc j u hu) (by simp [Value.oneCell']) (by unfold maxLen;omega) (by omega) hT.B.size ?_;intro A' c' X' h1 h2 _
 exact h A' c' X' ⟨own_grown hT.V h2 (fun g hg=>ow_ne2 hT.V hT.T (by decide) hg),by rw [flY_app,flY_one];exact h1,hT.B.grown h2 hT.B.size (fun j hj=>(hT.T.lt j hj).1)⟩
  (fun g cs hg=>(h2.block g (Array.getElem?_eq_some_iff.1 hg).1 (own_apart hT.T hg (by decide))).trans hg) (fun g hg hn=>h2.block g hg hn)
end
def ConstNew(w:World) (o:Option (List Int × T3)) (e:Ending) (w':World):Prop:=
 ∃ S n c a b d vs,e=.returned (.tuple #[.slice S n c,.agg (f3A a b d),.bool o.isSome])∧RdI w' S n vs∧n≤c∧c≤maxLen∧((∀ r,o=some r→r=(vs,(a,b,d)))∧(o=none→vs=[]∧a=0∧b=0∧d=0))∧Below w.heap.size w w'∧∀ b off,S=some ⟨b,off,none⟩→w.heap.size≤b
theorem seqO_map_take{β:Type}{f:Ex→Option β}{l:List Ex}{k:Nat}(hk:k<l.length):seqO ((l.take (k+1)).map f)=match seqO ((l.take k).map f) with | none=>none | some ts=>(f (l[k]?.getD default)).map fun a=>ts++[a]:=by
 rw [List.take_succ_eq_append_getElem hk,List.map_append,List.map_cons,List.map_nil,seqO_snoc,List.getElem?_eq_getElem hk];rfl
theorem seqO_map_none{β:Type}{f:Ex→Option β}{l:List Ex}{k:Nat}(hk:k<l.length) (h:f (l[k]?.getD default)=none):seqO (l.map f)=none:=by
 refine seqO_none (k:=k) (by rw [List.length_map];exact hk) ?_;rw [List.getElem?_map,List.getElem?_eq_getElem hk];rw [List.getElem?_eq_getElem hk] at h;exact h
theorem f3_three{W:World}{g:Nat}{a b c:Int}{T:TypeId}(h:W.heap[g]?=some (Obj.cells #[.int .i64 a,.int .i64 b,.int .i64 c] T)):W.cell? ⟨g,0,none⟩=some (.int .i64 a)∧W.cell? ⟨g,1,none⟩=some (.int .i64 b)∧W.cell? ⟨g,2,none⟩=some (.int .i64 c):=by
 have h:F3 T W g a b c:=h;exact⟨h.cell 0,h.cell 1,h.cell 2⟩
theorem keep2{X X':World}{u:Value}{g:Nat}{o:Obj}(hl:∀ g,g<X.heap.size→some g≠u.ownBlock→X'.heap[g]?=X.heap[g]?) (hn:some g≠u.ownBlock) (h:X.heap[g]?=some o):X'.heap[g]?=some o:=(hl g (Array.getElem?_eq_some_iff.1 h).1 hn).trans h
theorem trValues(l:Option Addr) (ln lc:Nat) (es:List En) (A:Option Addr) (n c:Nat) (xs:List Ex) (w:World) (hE:RdE w l ln es) (hr:RdX w A n xs) (hlit:∀ k,k<n→literalX (xs[k]?.getD default)=true) (h0:0<n) (hn:n≤60) (oo:Option (List Int × T3)) (hoo:valsT es xs=oo):
 Calls Tryz.prog 142 #[.slice l ln lc,.slice A n c] w (ConstNew w oo):=by
 have hln:=hr.len;have HVL:=Hd fun k (hk:k<n) A' ca' B' cb' w1 (hb:Below w.heap.size w w1) (hrd:rdX w1 (xs[k]?.getD default) A' B')=>trValue l ln lc es (xs[k]?.getD default) A' ca' B' cb' w1 (hE.below hb) hrd (hlit k hk);have HAT:=Hd fun k (hk:k<n)=>hr.at_ hk;have HSN:=Hd fun k (hk:k<n)=>seqO_map_take (f:=litT es) (l:=xs) (k:=k) (by omega);have HNO:=Hd fun k (hk:k<n) h=>seqO_map_none (f:=litT es) (l:=xs) (k:=k) (by omega) h;have HEND:=Hd (show xs.take n=xs from List.take_of_length_le (by omega));have HZ:=Hd (show seqO ((xs.take 0).map (litT es))=some [] from rfl);have HOO:=Hd (show oo=match seqO (xs.map (litT es)) with | none=>none | some rs=>valsR rs from hoo.symm);have HALL:=Hd trAll;have HBX:=Hd box_facts;clear hE hr hlit hoo;unfold vlV f3A at HVL;unfold f3A at HALL;unfold exA at HVL HBX
 go_enter Tryz.func142,Tryz.ntmps142
 go_upto_region 1 with(fail)
 generalize hw0:w.alloc _=w0;obtain⟨hb0,hR,hg0⟩:=f3_box hw0;have HB0:=Hd hb0;have HR:=Hd hR;clear hw0 hb0 hR
 go_wp2_with fail
 go_loopw [7,8,16] (fun v u i wr=>∃ (k:Nat) (rs:List (T3 × Int)),k≤n∧i=.int .i64 k∧seqO ((xs.take k).map (litT es))=some rs∧TW w0 wr v u k k (rs.map (·.2)) (rs.map (·.1))) (fun _ _ i _=>n-(intOf i).toNat)
 case atStart=>exact⟨0,[],Nat.zero_le _,rfl,HZ.out,⟨World.ownsRow_nil _ _ _ _,World.ownsRow_nil _ _ _ _,Below.refl _ _⟩⟩
 case round=>
  obtain⟨k,rs,hk,rfl,hseq,htw⟩:=hrel;have HSQ:=Hd hseq;have HTW:=Hd htw;have HBR:=Hd (HB0.out.trans (htw.B.mono HB0.out.size));have HRR:=Hd (HR.out.below htw.B);clear hseq htw
  by_cases hlt:k<n
  · obtain⟨b,off,rfl,hb,hat⟩:=HAT.out k hlt;obtain⟨A',ca',B',cb',hrg,hrd⟩:=hat k hlt;obtain⟨c0,c1,c2,c3,c4,c5⟩:=rangeAt_six (rangeAt_keep hrg hb fun p hp=>HBR.out.cell hp);have HRD:=Hd (hrd.below HBR.out);have HV1:=Hd fun w1 hb hrd=>HVL.out k hlt A' ca' B' cb' w1 hb hrd;have HNK:=Hd (HNO.out k hlt);have HSK:=Hd (HSN.out k hlt);clear hat hrg hrd;generalize xs[k]?.getD default=y at *;have HX:=Hd fun w1 hw=>HBX.out wr y A' ca' B' cb' w1 hw HRD.out;generalize litT es y=o at *;generalize hov:(o.map (·.2)).getD 0=ov at *;generalize hoa:(o.map (·.1.1)).getD 0=oa at *;generalize hob:(o.map (·.1.2.1)).getD 0=ob at *;generalize hoc:(o.map (·.1.2.2)).getD 0=oc at *;generalize hos:o.isSome=os at *;have HV:=Hd (show ∀ r,o=some r→r=((oa,ob,oc),ov) from fun r h=>by subst h hov hoa hob hoc;rfl);have HS:=Hd hos;clear hov hoa hob hoc hos
    go_upto_region 6 with(fail)
    generalize hw4:wr.alloc _=w4;obtain⟨hb4,hg4,hrd4,hce⟩:=HX.out w4 hw4;obtain⟨e0,e1,e2,e3,e4,e5⟩:=Sx (hce w4 (Below.refl _ _));simp only [Ya,Yb,Yc] at e0 e1 e2 e3 e4 e5;have HT4:=Hd (HTW.out.below hb4);have HB4:=Hd (HBR.out.trans (hb4.mono HBR.out.size));have HV4:=Hd (HV1.out w4 HB4.out hrd4);clear hw4 hb4 hg4 hrd4 hce c0 c1 c2 c3 c4 c5 HX
    go_wp2_with fail
    refine HV4.out.mono ?_;rintro e w5 ⟨rfl,hb5⟩;have HT5:=Hd (HT4.out.below hb5);clear hb5 e0 e1 e2 e3 e4 e5 HV4
    go_upto_region 7 with(fail)
    generalize hw6:w5.alloc _=w6;obtain⟨hb6,hF6,hg6⟩:=ty_box hw6;have HTW:=Hd (HT5.out.below hb6);have HR6:=Hd (HR.out.below HTW.out.B);have HB6:=Hd (HB0.out.trans (HTW.out.B.mono HB0.out.size));have HNE:=Hd (show some w5.heap.size≠u8.ownBlock from fun e=>by have:=(HT5.out.T.lt _ e.symm).2;omega);have HF6:=Hd (show w6.heap[w5.heap.size]?=some (Obj.cells #[.int .i64 oa,.int .i64 ob,.int .i64 oc] 41) from hF6);clear hw6 hb6 hF6 hg6 HT4 HT5;generalize w5.heap.size=g at *
    cases os with
    | false=>
     have HO:=Hd (show o=none by have:=HS.out;cases o with | none=>rfl | some r=>cases this);have HRS:=Hd (show oo=none by rw [HOO.out,HNK.out HO.out])
     go_wp2_with (refine wpList_store_row rfl _ _ _ rfl w.heap.size _ rfl rfl _ _ HR6.out ty3_info rfl (by simp [Value.oneCell']) ?_)
     exact bodyPost_ret (res_xty (p:=5) (u:=4) (v:=6) rfl _ _ w.heap.size 0 0 0 rfl (HR6.out.set _ _ _)) rfl ⟨none,0,0,0,0,0,[],by rw [HRS.out];rfl,RdI.nil_ _,Nat.le_refl _,by unfold maxLen;omega,⟨fun r h=>(by rw [HRS.out] at h;cases h),fun _=>⟨rfl,rfl,rfl,rfl⟩⟩,below_setRow HB6.out (Nat.le_refl _) _,fun b off h=>(by cases h)⟩
    | true=>
     have HO:=Hd (show o=some ((oa,ob,oc),ov) by have:=HS.out;cases h:o with | none=>rw [h] at this;cases this | some r=>rw [HV.out r h]);have HNS:=Hd (show seqO ((xs.take (k+1)).map (litT es))=some (rs++[((oa,ob,oc),ov)]) by rw [HSK.out,HSQ.out,HO.out];rfl);obtain⟨f0,f1,f2⟩:=f3_three HF6.out;have hk1:k≤1000:=by omega
     go_upto_region 9 with(fail)
     go_region_held3 (fun W=>W.cell? ⟨g,0,none⟩=some (.int .i64 oa)∧W.cell? ⟨g,1,none⟩=some (.int .i64 ob)∧W.cell? ⟨g,2,none⟩=some (.int .i64 oc)) (first | with_reducible exact⟨f0,f1,f2⟩ | (refine f3_three (T:=41) ?_;repeat' (first | with_reducible exact HF6.out | with_reducible refine heap_drew ?_ | with_reducible refine heap_up _ ?_ | with_reducible refine HK1.out _ _ ?_ | with_reducible refine keep2 HL2.out HNE.out ?_)))
      ((first
        | (refine step_ints (by rfl) _ _ (by rfl) (by rfl) (by rfl) hk1 ((HTW.out.alloc _).drew) (heap_alloc_new _ _) ?_;intro A9 c9 w9 htw9 hk9;have HTW:=Hd htw9;have HK1:=Hd hk9;clear htw9 hk9)
        | (refine step_ints (by rfl) _ _ (by rfl) (by rfl) (by rfl) hk1 (((HTW.out.alloc _).alloc _).drew) (heap_up _ (heap_alloc_new _ _)) ?_;intro A9 c9 w9 htw9 hk9;have HTW:=Hd htw9;have HK1:=Hd hk9;clear htw9 hk9)
        | (refine step_ints (by rfl) _ _ (by rfl) (by rfl) (by rfl) hk1 (((HTW.out.alloc _).alloc _).drew) (heap_alloc2_new _ _ _) ?_;intro A9 c9 w9 htw9 hk9;have HTW:=Hd htw9;have HK1:=Hd hk9;clear htw9 hk9)
        | (refine step_ints (by rfl) _ _ (by rfl) (by rfl) (by rfl) hk1 (HTW.out.alloc _) (heap_alloc_new _ _) ?_;intro A9 c9 w9 htw9 hk9;have HTW:=Hd htw9;have HK1:=Hd hk9;clear htw9 hk9)
        | (refine step_ints (by rfl) _ _ (by rfl) (by rfl) (by rfl) hk1 (HTW.out) (HK2.out _ _ (heap_up _ (heap_alloc_new _ _))) ?_;intro A9 c9 w9 htw9 hk9;have HTW:=Hd htw9;have HK1:=Hd hk9;clear htw9 hk9)
        | (refine step_ints (by rfl) _ _ (by rfl) (by rfl) (by rfl) hk1 (HTW.out) (HK2.out _ _ (heap_alloc2_new _ _ _)) ?_;intro A9 c9 w9 htw9 hk9;have HTW:=Hd htw9;have HK1:=Hd hk9;clear htw9 hk9)
        | (refine step_tys (by rfl) _ _ (by rfl) (by rfl) (by rfl) hk1 ((HTW.out.alloc _).drew) (heap_alloc_new _ _) ?_;intro A8 c8 w8 htw8 hk8 hl8;have HTW:=Hd htw8;have HK2:=Hd hk8;have HL2:=Hd hl8;clear htw8 hk8 hl8)
        | (refine step_tys (by rfl) _ _ (by rfl) (by rfl) (by rfl) hk1 (((HTW.out.alloc _).alloc _).drew) (heap_up _ (heap_alloc_new _ _)) ?_;intro A8 c8 w8 htw8 hk8 hl8;have HTW:=Hd htw8;have HK2:=Hd hk8;have HL2:=Hd hl8;clear htw8 hk8 hl8)
        | (refine step_tys (by rfl) _ _ (by rfl) (by rfl) (by rfl) hk1 (((HTW.out.alloc _).alloc _).drew) (heap_alloc2_new _ _ _) ?_;intro A8 c8 w8 htw8 hk8 hl8;have HTW:=Hd htw8;have HK2:=Hd hk8;have HL2:=Hd hl8;clear htw8 hk8 hl8)
        | (refine step_tys (by rfl) _ _ (by rfl) (by rfl) (by rfl) hk1 (HTW.out.alloc _) (heap_alloc_new _ _) ?_;intro A8 c8 w8 htw8 hk8 hl8;have HTW:=Hd htw8;have HK2:=Hd hk8;have HL2:=Hd hl8;clear htw8 hk8 hl8)
        | (refine step_tys (by rfl) _ _ (by rfl) (by rfl) (by rfl) hk1 (HTW.out) (HK1.out _ _ (heap_up _ (heap_alloc_new _ _))) ?_;intro A8 c8 w8 htw8 hk8 hl8;have HTW:=Hd htw8;have HK2:=Hd hk8;have HL2:=Hd hl8;clear htw8 hk8 hl8)
        | (refine step_tys (by rfl) _ _ (by rfl) (by rfl) (by rfl) hk1 (HTW.out) (HK1.out _ _ (heap_alloc2_new _ _ _)) ?_;intro A8 c8 w8 htw8 hk8 hl8;have HTW:=Hd htw8;have HK2:=Hd hk8;have HL2:=Hd hl8;clear htw8 hk8 hl8)))
     all_goals
      go_wp2_with fail
      go_roundw
      case rel=>exact⟨k+1,rs++[((oa,ob,oc),ov)],by omega,by go_num,HNS.out,by rw [List.map_append,List.map_append];exact HTW.out⟩
      case measure=>simp [intOf];omega
  · obtain rfl:k=n:=by omega
    have HOF:=Hd (show oo=valsR rs by rw [HOO.out];have:=HSQ.out;rw [HEND.out] at this;rw [this])
    have hln2:rs.length=k:=by
     have:=HTW.out.V.1
     simpa using this
    obtain⟨S,cS,rfl,hry⟩:=RdY.of_own HTW.out.T (by omega);obtain⟨D,cD,rfl,hri,hcc,hcm⟩:=RdI.of_own HTW.out.V (by omega);have HRY:=Hd hry;have HRI:=Hd hri;obtain⟨sb,so,rfl,hsb,hsc⟩:=hry.at_ h0;obtain⟨db,dof,rfl,hdb,hdc⟩:=hri.2.2 h0;have hdl:=(HTW.out.V.lt db rfl).1;have hsl:=(HTW.out.T.lt sb rfl).1;have HDL:=Hd (show db≠w.heap.size by omega);have HDB:=Hd (show w.heap.size<db by omega);have HSL:=Hd (show sb≠w.heap.size by omega);clear hdb hdc hdl hsl;obtain⟨d0,d1,d2⟩:=hsc 0 h0;simp only [Nat.zero_mul,Nat.add_zero] at d0 d1 d2;have HCC:=Hd hcc;have HCM:=Hd hcm;have HAT0:=Hd (show allT (rs.map (·.1))=allB (atT (rs.map (·.1)) 0) (rs.map (·.1)) from rfl);have HVR:=Hd (show valsR rs=if allT (rs.map (·.1))=true then some (rs.map (·.2),atT (rs.map (·.1)) 0) else none from rfl);clear hry hri hsc hcc hcm;generalize hts:rs.map (·.1)=ts at *;generalize hvs:rs.map (·.2)=vs at *;generalize hta:atT ts 0=ta at *;obtain⟨t0,t1,t2⟩:=ta
    dsimp only at d0 d1 d2
    have HA1:=Hd (HALL.out t0 t1 t2 (some ⟨sb,so,none⟩) k cS ts wr HRY.out);rw [← HAT0.out] at HA1;generalize allT ts=al at *;clear HVL HALL HBX HAT HSN HNO HAT0
    cases al with
    | false=>
     have HRS:=Hd (show oo=none by rw [HOF.out,HVR.out];rfl)
     go_wp2_with fail
     refine HA1.out.mono ?_;rintro e w2 ⟨rfl,hb2⟩;have HB2:=Hd (HBR.out.trans (hb2.mono HBR.out.size));have HR2:=Hd (HRR.out.below hb2);have HRI2:=Hd (HRI.out.below hb2);have d0:=(hb2.cell (World.block_lt_of_cell? _ _ d0)).trans d0;have d1:=(hb2.cell (World.block_lt_of_cell? _ _ d1)).trans d1;have d2:=(hb2.cell (World.block_lt_of_cell? _ _ d2)).trans d2;clear hb2
     go_wp2_with (refine wpList_store_row rfl _ _ _ rfl w.heap.size _ rfl rfl _ _ HR2.out ty3_info rfl (by simp [Value.oneCell']) ?_)
     exact bodyPost_ret (res_xty (p:=5) (u:=4) (v:=6) rfl _ _ w.heap.size 0 0 0 rfl (HR2.out.set _ _ _)) rfl ⟨none,0,0,0,0,0,[],by rw [HRS.out];rfl,RdI.nil_ _,Nat.le_refl _,by unfold maxLen;omega,⟨fun r h=>(by rw [HRS.out] at h;cases h),fun _=>⟨rfl,rfl,rfl,rfl⟩⟩,below_setRow HB2.out (Nat.le_refl _) _,fun b off h=>(by cases h)⟩
    | true=>
     have HRS:=Hd (show oo=some (vs,(t0,t1,t2)) by rw [HOF.out,HVR.out];rfl)
     go_wp2_with fail
     refine HA1.out.mono ?_;rintro e w2 ⟨rfl,hb2⟩;have HB2:=Hd (HBR.out.trans (hb2.mono HBR.out.size));have HR2:=Hd (HRR.out.below hb2);have HRI2:=Hd (HRI.out.below hb2);have d0:=(hb2.cell (World.block_lt_of_cell? _ _ d0)).trans d0;have d1:=(hb2.cell (World.block_lt_of_cell? _ _ d1)).trans d1;have d2:=(hb2.cell (World.block_lt_of_cell? _ _ d2)).trans d2;clear hb2;obtain⟨v0,v1,v2,-,-,-⟩:=Sx HR2.out.cell;simp only [f3A,List.getElem?_toArray,List.getElem?_cons_zero,List.getElem?_cons_succ] at v0 v1 v2;have fz:∀ j,w2.frozen? ⟨w.heap.size,j,none⟩=false:=fun j=>frozen_of_row _ _ j _ _ HR2.out;have n1:=HSL.out;have n2:w.heap.size≠sb:=Ne.symm n1
     go_upto_region 13 with(fail)
     go_region
     have hI:=HRI2.out.set (r:=w.heap.size) HDL.out (f3A t0 t1 t2);generalize hw5:World.drew _=w5;have hw6:=hw5;rw [f3_set HR2.out] at hw6;obtain⟨hF,hB⟩:=f3_out HR2.out HB2.out (Nat.le_refl _) hw5;have HF5:=Hd hF;have HB5:=Hd hB;have HI5:=Hd (show RdI w5 (some ⟨db,dof,none⟩) k vs by rw [← hw6];exact hI);clear hw5 hw6 hF hB hI
     go_wp2_with fail
     exact bodyPost_ret (res_xty (p:=5) (u:=4) (v:=6) rfl _ _ w.heap.size t0 t1 t2 rfl HF5.out) rfl ⟨some ⟨db,dof,none⟩,k,cD,t0,t1,t2,vs,by rw [HRS.out];rfl,HI5.out,HCC.out,HCM.out,⟨fun r h=>(by rw [HRS.out] at h;exact(Option.some.inj h).symm),fun h=>(by rw [HRS.out] at h;cases h)⟩,HB5.out,fun b off h=>(by injection h with h;injection h with h1 _;rw [← h1];exact Nat.le_of_lt HDB.out)⟩
end
section
open Go.RowKit Go.Sort Go.BigFrame
theorem RdX.lit1{w:World}{x:Ex}{A:Option Addr}{ca:Nat}{B:Option Addr}{cb:Nat}(h:rdX w x A B) (T:TypeId):RdX (w.alloc (.cells (exA x A ca B cb) T)) (some ⟨w.heap.size,0,none⟩) 1 [x]:=
 ⟨rfl,by omega,fun _=>⟨_,0,rfl,by simp,rdXs_of [x] fun i hi=>by
  obtain rfl:i=0:=by simpa using hi
  refine⟨A,ca,B,cb,?_,h.alloc _⟩;intro j v hv;rw [World.cell?_alloc_new,show 0+0*6+j=j by omega]
  show(exA x A ca B cb)[j]?=some v
  rw [← exL_A,List.getElem?_toArray];exact hv⟩⟩
theorem RdI.setN{w:World}{S:Option Addr}{r n:Nat}{l:List Int}(h:RdI w S n l) (hn:∀ b off,S=some ⟨b,off,none⟩→b<w.heap.size→b≠r) (cs:Array Value):RdI (w.setRow r cs) S n l:=
 ⟨h.1,h.2.1,fun h0=>by
  obtain⟨b,off,e,hb,hc⟩:=h.2.2 h0;exact⟨b,off,e,by simpa [World.setRow] using hb,fun i hi=>(World.cell?_of_block (a:=⟨b,_,none⟩) (setRow_other _ _ _ _ (hn b off e hb))).trans (hc i hi)⟩⟩
theorem trConstNo(l:Option Addr) (n c:Nat) (x:Ex) (A:Option Addr) (ca:Nat) (B:Option Addr) (cb:Nat) (w:World) (hr:rdX w x A B) (hs:sizeX x≤1000000) (hsh:∀ p∈partsX x,ShortP p) (hno:(rightX x && constX x)=false):
 Calls Tryz.prog 114 #[.slice l n c,.agg (exA x A ca B cb)] w (ConstAns w none):=by
 have HF:=Hd fun w0 h=>xt_box (w:=w) (w0:=w0) (x:=x) (A:=A) (ca:=ca) (B:=B) (cb:=cb) h;have HRI:=Hd fun w1 (hb:Below w.heap.size w w1)=>exRight x A ca B cb w1 (hr.below hb) hs hsh;have HCO:=Hd fun w1 (hb:Below w.heap.size w w1)=>exConst x A ca B cb w1 (hr.below hb);clear hr hs hsh;generalize rightX x=br at *;generalize constX x=bc at *;unfold exA at HF HRI HCO ⊢
 go_enter Tryz.func114,Tryz.ntmps114
 go_upto_region 1 with(fail)
 generalize hw0:(w.alloc _).alloc _=w0;obtain⟨hR,hx,hb0,hsz⟩:=HF.out w0 hw0;have HR:=Hd hR;have HX:=Hd hx;have HB0:=Hd hb0;obtain⟨q0,q1,q2,q3,q4,q5⟩:=Sx (hx w0 (Below.refl _ _));simp only [Ya,Yb,Yc] at q0 q1 q2 q3 q4 q5;have HC1:=Hd (HCO.out w0 hb0);clear hw0 hR hx hb0 hsz HF HCO
 cases bc with
 | false=>
  go_wp2_with fail
  refine HC1.out.mono ?_;rintro e w1 ⟨rfl,hb1⟩;have HRY:=Hd (HR.out.below hb1);have HB1:=Hd (HB0.out.trans (hb1.mono HB0.out.size));clear hb1 q0 q1 q2 q3 q4 q5 HC1 HRI
  go_wp2_with (refine wpList_store_row rfl _ _ _ rfl (w.heap.size+1) _ rfl rfl _ _ HRY.out ty3_info rfl (by simp [Value.oneCell']) ?_)
  exact bodyPost_ret (res_xty (p:=5) (u:=4) (v:=6) rfl _ _ (w.heap.size+1) 0 0 0 rfl (HRY.out.set _ _ _)) rfl ⟨none,0,0,0,0,0,[],rfl,RdI.nil_ _,Nat.le_refl _,by unfold maxLen;omega,⟨fun r h=>(by cases h),fun _=>⟨rfl,rfl,rfl,rfl⟩⟩,below_setRow HB1.out (by omega) _⟩
 | true=>
  obtain rfl:br=false:=by simpa using hno
  go_wp2_with fail
  refine HC1.out.mono ?_;rintro e w1 ⟨rfl,hb1⟩;have HRY:=Hd (HR.out.below hb1);have HB1:=Hd (HB0.out.trans (hb1.mono HB0.out.size));have HX1:=Hd fun w' (h:Below w1.heap.size w1 w') j=>HX.out w' (hb1.trans (h.mono hb1.size)) j;obtain⟨r0,r1,r2,r3,r4,r5⟩:=Sx (HX.out w1 hb1);simp only [Ya,Yb,Yc] at r0 r1 r2 r3 r4 r5;have HR1:=Hd (HRI.out w1 HB1.out);clear hb1 q0 q1 q2 q3 q4 q5 HC1 HRI
  go_wp2_with fail
  refine HR1.out.mono ?_;rintro e w2 ⟨rfl,hb2⟩;have HRZ:=Hd (HRY.out.below hb2);have HB2:=Hd (HB1.out.trans (hb2.mono HB1.out.size));clear hb2 r0 r1 r2 r3 r4 r5 HR1 HX1
  go_wp2_with (refine wpList_store_row rfl _ _ _ rfl (w.heap.size+1) _ rfl rfl _ _ HRZ.out ty3_info rfl (by simp [Value.oneCell']) ?_)
  exact bodyPost_ret (res_xty (p:=5) (u:=4) (v:=6) rfl _ _ (w.heap.size+1) 0 0 0 rfl (HRZ.out.set _ _ _)) rfl ⟨none,0,0,0,0,0,[],rfl,RdI.nil_ _,Nat.le_refl _,by unfold maxLen;omega,⟨fun r h=>(by cases h),fun _=>⟨rfl,rfl,rfl,rfl⟩⟩,below_setRow HB2.out (by omega) _⟩
theorem trConstLit(l:Option Addr) (n c:Nat) (es:List En) (x:Ex) (A:Option Addr) (ca:Nat) (B:Option Addr) (cb:Nat) (w:World) (hE:RdE w l n es) (hr:rdX w x A B) (hs:sizeX x≤1000000) (hsh:∀ p∈partsX x,ShortP p) (hyes:(rightX x && constX x)=true) (hk:x.k≠14) (oo:Option (List Int × T3)) (hoo:valsT es [x]=oo):
 Calls Tryz.prog 114 #[.slice l n c,.agg (exA x A ca B cb)] w (ConstAns w oo):=by
 have hlit:literalX x=true:=by
  simp only [Bool.and_eq_true] at hyes;have:=hyes.2;unfold constX at this;rwa [if_neg (by simpa using hk)] at this
 have HF:=Hd fun w0 h=>xt_box (w:=w) (w0:=w0) (x:=x) (A:=A) (ca:=ca) (B:=B) (cb:=cb) h;have HRI:=Hd fun w1 (hb:Below w.heap.size w w1)=>exRight x A ca B cb w1 (hr.below hb) hs hsh;have HCO:=Hd fun w1 (hb:Below w.heap.size w w1)=>exConst x A ca B cb w1 (hr.below hb);have HVS:=Hd fun w1 S (hb:Below w.heap.size w w1) (hrd:RdX w1 S 1 [x])=>trValues l n c es S 1 1 [x] w1 (hE.below hb) hrd (fun k hk=>(by obtain rfl:k=0:=(by omega);exact hlit)) (by omega) (by omega) oo hoo;have HL1:=Hd fun w1 (hb:Below w.heap.size w w1)=>RdX.lit1 (ca:=ca) (cb:=cb) (hr.below hb) 52;have hkb:(x.k != 14)=true:=bne_iff_ne.2 hk;simp only [Bool.and_eq_true] at hyes;rw [hyes.1] at HRI;rw [hyes.2] at HCO;clear hE hr hs hsh hyes hlit hk hoo;unfold exA at HF HRI HCO HL1 ⊢
 go_enter Tryz.func114,Tryz.ntmps114
 go_upto_region 1 with(fail)
 generalize hw0:(w.alloc _).alloc _=w0;obtain⟨hR,hx,hb0,hsz⟩:=HF.out w0 hw0;have HR:=Hd hR;have HX:=Hd hx;have HB0:=Hd hb0;obtain⟨q0,q1,q2,q3,q4,q5⟩:=Sx (hx w0 (Below.refl _ _));simp only [Ya,Yb,Yc] at q0 q1 q2 q3 q4 q5;have HC1:=Hd (HCO.out w0 hb0);clear hw0 hR hx hb0 hsz HF HCO
 go_wp2_with fail
 refine HC1.out.mono ?_;rintro e w1 ⟨rfl,hb1⟩;have HRY:=Hd (HR.out.below hb1);have HB1:=Hd (HB0.out.trans (hb1.mono HB0.out.size));have HX1:=Hd fun w' (h:Below w1.heap.size w1 w') j=>HX.out w' (hb1.trans (h.mono hb1.size)) j;obtain⟨r0,r1,r2,r3,r4,r5⟩:=Sx (HX.out w1 hb1);simp only [Ya,Yb,Yc] at r0 r1 r2 r3 r4 r5;have HR1:=Hd (HRI.out w1 HB1.out);clear hb1 q0 q1 q2 q3 q4 q5 HC1 HRI
 go_wp2_with fail
 refine HR1.out.mono ?_;rintro e w2 ⟨rfl,hb2⟩;have HRZ:=Hd (HRY.out.below hb2);have HB2:=Hd (HB1.out.trans (hb2.mono HB1.out.size));obtain⟨s0,s1,s2,s3,s4,s5⟩:=Sx (HX1.out w2 hb2);simp only [Ya,Yb,Yc] at s0 s1 s2 s3 s4 s5;have HLX:=Hd (HL1.out w2 HB2.out);have HVX:=Hd fun w3 hb hrd=>HVS.out w3 (some ⟨w2.heap.size,0,none⟩) hb hrd;have hlz:=HRZ.out.lt;clear hb2 r0 r1 r2 r3 r4 r5 HR1 HX1 HL1 HVS
 go_wp2_with fail
 refine(HVX.out _ (HB2.out.alloc HB2.out.size _) HLX.out).mono ?_;rintro e w3 ⟨S,m,sc,a,b,d,vs,rfl,hri,hmc,hcm,hoo,hb3,hnew⟩;have hb3:=((Below.refl w2.heap.size w2).alloc (Nat.le_refl _) (.cells #[.int .i64 x.k,.int .i64 x.n,.string x.s,.int .i64 x.op,.slice A x.arms.length ca,.slice B x.subs.length cb] 52)).trans (hb3.mono (by simp));have HR3:=Hd (HRZ.out.below hb3);have HB3:=Hd (HB2.out.trans (hb3.mono HB2.out.size));have HI3:=Hd hri;have HOO:=Hd hoo;have HMC:=Hd hmc;have HCM:=Hd hcm;have HNW:=Hd (show ∀ b off,S=some ⟨b,off,none⟩→b<w3.heap.size→b≠w.heap.size+1 from fun b off h _=>by have:=hnew b off h;simp at this;omega);clear hb3 hri hoo hmc hcm hnew s0 s1 s2 s3 s4 s5
 go_wp2_with (refine wpList_store_row rfl _ _ _ rfl (w.heap.size+1) _ rfl rfl _ _ HR3.out ty3_info rfl (by simp [Value.oneCell',f3A]) ?_)
 exact bodyPost_ret (res_xty (p:=5) (u:=4) (v:=6) rfl _ _ (w.heap.size+1) a b d rfl (HR3.out.set _ _ _)) rfl ⟨S,m,sc,a,b,d,vs,rfl,HI3.out.setN HNW.out _,HMC.out,HCM.out,HOO.out,below_setRow HB3.out (by omega) _⟩
theorem trConstArr(l:Option Addr) (n c:Nat) (es:List En) (x:Ex) (A:Option Addr) (ca:Nat) (B:Option Addr) (cb:Nat) (w:World) (hE:RdE w l n es) (hr:rdX w x A B) (hs:sizeX x≤1000000) (hsh:∀ p∈partsX x,ShortP p) (hyes:(rightX x && constX x)=true) (hk:x.k=14) (m:Nat) (hm:x.subs.length=m) (oo:Option (List Int × T3)) (hoo:valsT es x.subs=oo):
 Calls Tryz.prog 114 #[.slice l n c,.agg (exA x A ca B cb)] w (ConstAns w (oo.map fun r=>(r.1,(r.2.1,r.2.2.1,(r.1.length:Int))))):=by
 have hr1:=hyes;simp only [Bool.and_eq_true] at hr1
 have hlit:x.subs.all literalX=true:=by
  have:=hr1.2;unfold constX at this;rwa [if_pos (by rw [hk];rfl)] at this
 have hlen60:m≤60:=by
  have h1:=hr1.1;unfold rightX at h1;simp only [Bool.and_eq_true,Bool.not_eq_true',decide_eq_false_iff_not] at h1;have h2:=sizeX_eq x;have h3:=sizes_len x.subs;omega
 have hpos:0<m:=by
  have h1:=hr1.1;unfold rightX at h1;simp only [Bool.and_eq_true,List.all_eq_true] at h1;have h2:=h1.2 x (by rw [partsX_eq];exact List.mem_cons_self);have h3:=part_subs h2;unfold subsX at h3;rw [hk] at h3
  simp at h3
  omega
 have HF:=Hd fun w0 h=>xt_box (w:=w) (w0:=w0) (x:=x) (A:=A) (ca:=ca) (B:=B) (cb:=cb) h;have HRI:=Hd fun w1 (hb:Below w.heap.size w w1)=>exRight x A ca B cb w1 (hr.below hb) hs hsh;have HCO:=Hd fun w1 (hb:Below w.heap.size w w1)=>exConst x A ca B cb w1 (hr.below hb);have HVS:=Hd fun w1 (hb:Below w.heap.size w w1)=>trValues l n c es B m cb x.subs w1 (hE.below hb) (by rw [← hm];exact(hr.below hb).subs) (fun k hk=>List.all_eq_true.1 hlit _ (by rw [List.getElem?_eq_getElem (by omega)];exact List.getElem_mem _)) hpos hlen60 oo hoo;have hkb:(x.k != 14)=false:=by rw [hk];rfl
 rw [hr1.1] at HRI;rw [hr1.2] at HCO;clear hE hr hs hsh hyes hlit hk hoo hr1 hpos;unfold exA at HF HRI HCO ⊢;rw [hm] at *
 go_enter Tryz.func114,Tryz.ntmps114
 go_upto_region 1 with(fail)
 generalize hw0:(w.alloc _).alloc _=w0;obtain⟨hR,hx,hb0,hsz⟩:=HF.out w0 hw0;have HR:=Hd hR;have HX:=Hd hx;have HB0:=Hd hb0;obtain⟨q0,q1,q2,q3,q4,q5⟩:=Sx (hx w0 (Below.refl _ _));simp only [Ya,Yb,Yc] at q0 q1 q2 q3 q4 q5;have HC1:=Hd (HCO.out w0 hb0);clear hw0 hR hx hb0 hsz HF HCO
 go_wp2_with fail
 refine HC1.out.mono ?_;rintro e w1 ⟨rfl,hb1⟩;have HRY:=Hd (HR.out.below hb1);have HB1:=Hd (HB0.out.trans (hb1.mono HB0.out.size));have HX1:=Hd fun w' (h:Below w1.heap.size w1 w') j=>HX.out w' (hb1.trans (h.mono hb1.size)) j;obtain⟨r0,r1,r2,r3,r4,r5⟩:=Sx (HX.out w1 hb1);simp only [Ya,Yb,Yc] at r0 r1 r2 r3 r4 r5;have HR1:=Hd (HRI.out w1 HB1.out);clear hb1 q0 q1 q2 q3 q4 q5 HC1 HRI
 go_wp2_with fail
 refine HR1.out.mono ?_;rintro e w2 ⟨rfl,hb2⟩;have HRZ:=Hd (HRY.out.below hb2);have HB2:=Hd (HB1.out.trans (hb2.mono HB1.out.size));obtain⟨s0,s1,s2,s3,s4,s5⟩:=Sx (HX1.out w2 hb2);simp only [Ya,Yb,Yc] at s0 s1 s2 s3 s4 s5;have HVX:=Hd (HVS.out w2 HB2.out);have hlz:=HRZ.out.lt;clear hb2 r0 r1 r2 r3 r4 r5 HR1 HX1 HVS
 go_wp2_with fail
 refine HVX.out.mono ?_;rintro e w3 ⟨S,q,sc,a,b,d,vs,rfl,hri,hmc,hcm,hoo,hb3,hnew⟩;have HR3:=Hd (HRZ.out.below hb3);have HB3:=Hd (HB2.out.trans (hb3.mono HB2.out.size));have HI3:=Hd hri;have HOO:=Hd hoo;have HMC:=Hd hmc;have HCM:=Hd hcm;have HNW:=Hd (show ∀ b off,S=some ⟨b,off,none⟩→b<w3.heap.size→b≠w.heap.size+1 from fun b off h _=>by have:=hnew b off h;omega);have hqv:=hri.1;have HQV:=Hd hqv;clear hb3 hri hoo hmc hcm hnew s0 s1 s2 s3 s4 s5 hqv;unfold f3A
 go_upto_region 6 with(fail)
 generalize hw4:w3.alloc _=w4;obtain⟨hb4,hF4,hg4⟩:=ty_box hw4;have hl3:=HR3.out.lt;have HR4:=Hd (HR3.out.below hb4);have HB4:=Hd (HB3.out.trans (hb4.mono HB3.out.size));have HI4:=Hd (HI3.out.below hb4);have HNG:=Hd (show ∀ b off,S=some ⟨b,off,none⟩→b<w3.heap.size→b≠w3.heap.size from fun b off h hb=>by omega);have HNR:=Hd (show w.heap.size+1≠w3.heap.size by omega);have q2:=hF4.cell 2;simp only [f3A,List.getElem?_toArray,List.getElem?_cons_zero,List.getElem?_cons_succ] at q2;have fz:=frozen_of_row w4 w3.heap.size 2 _ _ hF4;have HF4:=Hd hF4
 have HI3s:=Hd (show ∀ b off,S=some ⟨b,off,none⟩→0<q→b<w3.heap.size from fun b off h h0=>by
  obtain⟨b',off',e,hb,_⟩:=HI3.out.2.2 h0;rw [e] at h;injection h with h;injection h with h1 _;omega)
 have hgl:w.heap.size≤w3.heap.size:=HB3.out.size;clear hw4 hb4 hF4
 go_upto_region 7 with(fail)
 generalize hg:w3.heap.size=g at *;generalize hw5:w4.setCell ⟨g,2,none⟩ (.int .i64 (q:Int))=w5;rw [setCell_eq_setRow _ _ _ _ _ _ _ HF4.out,show(f3A a b d).setIfInBounds 2 (.int .i64 (q:Int))=f3A a b q from rfl] at hw5
 have h5:F3 41 w5 g a b q∧F3 41 w5 (w.heap.size+1) 0 0 0∧Below w.heap.size w w5:=by
  rw [← hw5];exact⟨HF4.out.set _ _ _,(setRow_other _ _ _ _ HNR.out).trans HR4.out,below_setRow HB4.out hgl _⟩
 have hI5:RdI w5 S q vs:=by
  by_cases h0:0<q
  · rw [← hw5];exact HI4.out.setN (fun b off h hb=>by have:=HI3s.out b off h h0;omega) _
  · exact⟨HI4.out.1,HI4.out.2.1,fun h=>absurd h h0⟩
 obtain⟨hF5,hR5,hB5⟩:=h5;have HR5:=Hd hR5;have HB5:=Hd hB5;have HI5:=Hd hI5;obtain⟨d0,d1,d2,-,-,-⟩:=Sx hF5.cell;obtain⟨v0,v1,v2,-,-,-⟩:=Sx hR5.cell;simp only [f3A,List.getElem?_toArray,List.getElem?_cons_zero,List.getElem?_cons_succ] at d0 d1 d2 v0 v1 v2;have fz5:∀ j,w5.frozen? ⟨w.heap.size+1,j,none⟩=false:=fun j=>frozen_of_row _ _ j _ _ hR5;have n1:=HNR.out;have n2:g≠w.heap.size+1:=Ne.symm n1;have HNW2:=Hd (show ∀ b off,S=some ⟨b,off,none⟩→0<q→b≠w.heap.size+1 from fun b off h h0=>HNW.out b off h (HI3s.out b off h h0));clear hw5 hF5 hR5 hB5 hI5 q2 fz HF4 HR4 HI4 HI3 HB4
 go_wp2_with fail
 go_region
 have hI:RdI (w5.setRow (w.heap.size+1) (f3A a b q)) S q vs:=by
  by_cases h0:0<q
  · exact HI5.out.setN (fun b off h hb=>HNW2.out b off h h0) _
  · exact⟨HI5.out.1,HI5.out.2.1,fun h=>absurd h h0⟩
 generalize hw6:World.drew _=w6;have hw7:=hw6;rw [f3_set HR5.out] at hw7;obtain⟨hF,hB⟩:=f3_out HR5.out HB5.out (by omega) hw6;have HF6:=Hd hF;have HB6:=Hd hB;have HI6:=Hd (show RdI w6 S q vs by rw [← hw7];exact hI);clear hw6 hw7 hF hB hI
 go_wp2_with fail
 refine bodyPost_ret (res_xty (p:=5) (u:=4) (v:=6) rfl _ _ (w.heap.size+1) a b q rfl HF6.out) rfl ⟨S,q,sc,a,b,q,vs,(by rw [Option.isSome_map];rfl),HI6.out,HMC.out,HCM.out,⟨fun r h=>?_,fun h=>?_⟩,HB6.out⟩
 · obtain⟨r',h1,rfl⟩:=Option.map_eq_some_iff.1 h;have:=HOO.out.1 r' h1;subst this
   show(vs,(a,b,(vs.length:Int)))=_
   rw [HQV.out]
 · have h1:oo=none:=by cases oo with | none=>rfl | some r=>cases h
   obtain⟨e1,e2,e3,e4⟩:=HOO.out.2 h1;have:=HQV.out;rw [e1] at this;exact⟨e1,e2,e3,by simp at this;omega⟩
theorem trConst(l:Option Addr) (n c:Nat) (es:List En) (x:Ex) (A:Option Addr) (ca:Nat) (B:Option Addr) (cb:Nat) (w:World) (hE:RdE w l n es) (hr:rdX w x A B) (hs:sizeX x≤1000000) (hsh:∀ p∈partsX x,ShortP p):
 Calls Tryz.prog 114 #[.slice l n c,.agg (exA x A ca B cb)] w (ConstAns w (constT es x)):=by
 cases h:(rightX x && constX x) with
 | false=>
  rw [constT_no h];exact trConstNo l n c x A ca B cb w hr hs hsh h
 | true=>
  by_cases hk:x.k=14
  · have e:constT es x=(valsT es x.subs).map fun r=>(r.1,(r.2.1,r.2.2.1,(r.1.length:Int))):=by
     rw [constT_arr h hk]
     cases ha:arrT es x.subs x.subs.length with
     | none=>rw [← vals_arr,ha];rfl
     | some r=>
      rw [← vals_arr,ha];simp only [Option.map_some,arrT_len ha]
    rw [e];exact trConstArr l n c es x A ca B cb w hE hr hs hsh h hk _ rfl _ rfl
  · rw [constT_lit h hk,← vals_one];exact trConstLit l n c es x A ca B cb w hE hr hs hsh h hk _ rfl
end
end Go.Proofs.YtkbpdoomhfkngaaGreat
