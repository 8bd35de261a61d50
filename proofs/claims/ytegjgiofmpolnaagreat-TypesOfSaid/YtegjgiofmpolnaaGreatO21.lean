/- Parts of the proof: TpR, TpV, TpW, TpX, TpY, TpZ, TqA, TqB, TqC. Conditions: each theorem's own. -/
import Derived.Deep.AppendLies
import Derived.Test.YtegjgiofmpolnaaGreatO20
namespace Go.Proofs.YtegjgiofmpolnaaGreat
set_option linter.unusedVariables false
set_option linter.unusedSimpArgs false
set_option maxRecDepth 100000
set_option maxHeartbeats 40000000
section
open Go.RowKit Go.Sort
def flowN(k:Int):Nat:=if k=9 then 2 else if k=13 then 0 else 1
theorem flowT_9{p:Pg}{i:Nat}{x:Ex}{ts:List T3}(hk:x.k=9):flowT p i x ts=if atT ts 0=atT ts 1 then some (atT ts 0) else none:=by unfold flowT;rw [hk];rfl
theorem flowT_10{p:Pg}{i:Nat}{x:Ex}{ts:List T3}(hk:x.k=10):flowT p i x ts=some (atT ts 0):=by unfold flowT;rw [hk];rfl
theorem flowT_11{p:Pg}{i:Nat}{x:Ex}{ts:List T3}(hk:x.k=11):flowW (declO (ndAt p i) x.s) (armR p.es (x.arms[0]?.getD ByteArray.empty)) (atT ts 0)=flowT p i x ts:=by
 unfold flowT flowW;rw [hk];cases declO (ndAt p i) x.s <;> cases armR p.es (x.arms[0]?.getD ByteArray.empty) <;> rfl
theorem flowT_12{p:Pg}{i:Nat}{x:Ex}{ts:List T3}(hk:x.k=12):flowM (declO (ndAt p i) x.s) (fun d=>allT ts && armsT p.es (tyD d) x.arms) (atT ts 0)=flowT p i x ts:=by
 unfold flowT flowM;rw [hk];cases declO (ndAt p i) x.s <;> rfl
theorem flowT_13{p:Pg}{i:Nat}{x:Ex}{ts:List T3}(hk:x.k=13):flowC p (callT p x ts)=flowT p i x ts:=by
 unfold flowT flowC;rw [hk];cases callT p x ts <;> rfl
theorem refFlowT(p:Pg) (E:Option Addr) (ec:Nat) (N:Option Addr) (nc:Nat) (i:Nat) (x:Ex) (A:Option Addr) (ca:Nat) (B:Option Addr) (cb:Nat) (S:Option Addr) (m sc:Nat) (ts:List T3) (w:World) (h:rdP w p E N) (hr:rdX w x A B) (hS:RdY w S m ts)
 (hk1:9≤x.k) (hk2:x.k≤13) (hm:flowN x.k≤m) (hi:i<p.ns.length) (hal:(ndAt p i).all.length≤1000) (har:x.k=11→0<x.arms.length) (hn1:x.k=13→x.n=0∨x.n=1) (hrt:∀ d,declO (ndAt p i) x.s=some d→rightB p.es.length d.k d.e d.l=true):
 Calls Tryz.prog 81 #[.agg (pgA p E ec N nc),.int .i64 i,.agg (exA x A ca B cb),.slice S m sc] w (TyAns w (flowT p i x ts)):=by
 rcases(show x.k=9∨x.k=10∨x.k=11∨x.k=12∨x.k=13 by omega) with hk | hk | hk | hk | hk
 · rw [flowT_9 hk];exact refFlow9 p E ec N nc i x A ca B cb S m sc ts w hS hk (by rw [hk] at hm;exact hm)
 · rw [flowT_10 hk];exact refFlow10 p E ec N nc i x A ca B cb S m sc ts w hS hk (by rw [hk] at hm;exact hm)
 · exact refFlow11 p E ec N nc i x A ca B cb S m sc ts w h hr hS hk (by rw [hk] at hm;exact hm) hi hal (har hk) _ (flowT_11 hk)
 · exact refFlow12 p E ec N nc i x A ca B cb S m sc ts w h hr hS hk (by rw [hk] at hm;exact hm) hi hal hrt _ (flowT_12 hk)
 · exact refFlow13 p E ec N nc i x A ca B cb S m sc ts w h hr hS hk (hn1 hk) hi hal _ (flowT_13 hk)
end
section
open Go.RowKit Go.Sort
theorem refConst16(l:Option Addr) (n c:Nat) (es:List En) (x:Ex) (A:Option Addr) (ca:Nat) (B:Option Addr) (cb:Nat) (w:World) (hE:RdE w l n es) (hr:rdX w x A B) (hs:sizeX x≤1000000) (hsh:∀ p∈partsX x,ShortP p):
 Calls Tryz.prog 18 #[.slice l n c,.agg (exA x A ca B cb)] w (ConstAns w (constT es x)):=by
 cases h:(rightX x && constX x) with
 | false=>
  rw [constT_no h];exact refConstNo l n c x A ca B cb w hr hs hsh h
 | true=>
  by_cases hk:x.k=14
  · rw [constT_arr h hk];exact refConstArr l n c es x A ca B cb w hE hr hs hsh h hk _ rfl _ rfl
  · rw [constT_lit h hk];exact refConstLit l n c es x A ca B cb w hE hr hs hsh h hk
def flY(l:List T3):List Value:=l.flatMap tyL3
theorem flY_len(l:List T3):(flY l).length=l.length*3:=by
 induction l with
 | nil=>rfl
 | cons d l ih=>simp only [flY,List.flatMap_cons,List.length_append,List.length_cons] at ih ⊢;rw [ih];simp [tyL3];omega
theorem flY_app(a b:List T3):flY (a++b)=flY a++flY b:=by simp [flY]
theorem flY_one(d:T3):flY [d]=tyL3 d:=by simp [flY]
theorem flY_at:∀ (l:List T3) (i j:Nat),i<l.length→j<3→(flY l)[i*3+j]?=(tyL3 (l[i]?.getD default))[j]?
 | t::ts,0,j,_,hj=>by
  have hz:j<(tyL3 t).length:=by simpa [tyL3] using hj
  simp only [flY,List.flatMap_cons,Nat.zero_mul,Nat.zero_add];rw [List.getElem?_append_left hz]
  simp
 | t::ts,i+1,j,hi,hj=>by
  have ih:=flY_at ts i j (by simpa using hi) hj;have hz:(tyL3 t).length=3:=by simp [tyL3]
  simp only [flY,List.flatMap_cons];rw [List.getElem?_append_right (by rw [hz];omega),hz,show(i+1)*3+j-3=i*3+j by omega]
  simpa [flY] using ih
section
variable {w w':World}{A:Option Addr}{n:Nat}{l:List T3}
theorem RdY.of_own{base:Nat}{e:TypeId}{v:Value}(h:w.ownsRow base e 3 v n (flY l)) (hm:n≤9223372036854775807):∃ A c,v=.slice A n c∧RdY w A n l:=by
 have hl:l.length=n:=by
  have:=h.1;rw [flY_len] at this;omega
 rcases h.2 with⟨rfl,rfl⟩|⟨g,cap,cur,rfl,hg,hh,hnc,hcm,hcs,ht⟩
 · obtain rfl:l=[]:=List.eq_nil_of_length_eq_zero hl;exact⟨none,0,rfl,RdS.nil_ _ _ _⟩
 · refine⟨_,cap,rfl,hl,hm,fun hn=>⟨g,0,rfl,(Array.getElem?_eq_some_iff.1 hh).1,fun i hi=>?_⟩⟩;intro j v hv
   have hj:j<3:=by
    rcases Nat.lt_or_ge j 3 with h | h
    · exact h
    · rw [List.getElem?_eq_none (by simpa [tyL3] using h)] at hv;cases hv
   rw [Nat.zero_add,h.cellAt (i*3+j) (by omega),flY_at l i j (by omega) hj,hv]
end
theorem infoTy3:(Tryz.prog.info? 38).map (fun i=>(i.size,i.bytes,i.zero.map fun z=>z.cells.size))=some (3,24,some 3):=by kernel_rfl
def TyZ(w:World) (o:Option T3) (e:Ending) (w':World):Prop:=e=.returned (.tuple #[.agg (f3A (o.getD (0,0,0)).1 (o.getD (0,0,0)).2.1 (o.getD (0,0,0)).2.2),.bool o.isSome])∧Below w.heap.size w w'
def SubsAns(w:World) (o:Option (List T3)) (e:Ending) (w':World):Prop:=
 ∃ S n c ts,e=.returned (.tuple #[.slice S n c,.bool o.isSome])∧(∀ r,o=some r→r=ts∧RdY w' S n ts)∧Below w.heap.size w w'
theorem pair_box{w w0:World}{p:Pg}{E:Option Addr}{ec:Nat}{N:Option Addr}{nc:Nat}{x:Ex}{A:Option Addr}{ca:Nat}{B:Option Addr}{cb:Nat}
 (h:(w.alloc (.cells (pgA p E ec N nc) 25)).alloc (.cells (exA x A ca B cb) 35)=w0):
 Below w.heap.size w w0∧w0.heap.size=w.heap.size+2∧(∀ w',Below w0.heap.size w0 w'→∀ j,w'.cell? ⟨w.heap.size,j,none⟩=(pgA p E ec N nc)[j]?)∧(∀ w',Below w0.heap.size w0 w'→∀ j,w'.cell? ⟨w.heap.size+1,j,none⟩=(exA x A ca B cb)[j]?):=pe_box h
end
section
open Go.RowKit Go.Sort Go.BigFrame
theorem refOfNo(p:Pg) (E:Option Addr) (ec:Nat) (N:Option Addr) (nc:Nat) (i:Int) (x:Ex) (A:Option Addr) (ca:Nat) (B:Option Addr) (cb:Nat) (w:World) (hi:i<0∨(p.ns.length:Int)≤i):
 Calls Tryz.prog 14 #[.agg (pgA p E ec N nc),.int .i64 i,.agg (exA x A ca B cb)] w (TyZ w none):=by
 have HF:=Hd fun w0 h=>pe_box3 (w:=w) (w0:=w0) (p:=p) (E:=E) (ec:=ec) (N:=N) (nc:=nc) (x:=x) (A:=A) (ca:=ca) (B:=B) (cb:=cb) (T:=25) (U:=35) (V:=38) h;unfold pgA exA at HF ⊢;generalize p.ns.length=pn at *
 go_enter Tryz.func14,Tryz.ntmps14
 go_upto_region 1 with(fail)
 generalize hw0:((w.alloc _).alloc _).alloc _=w0;obtain⟨hb0,hsz,hp,hx,hR⟩:=HF.out w0 hw0;have HB0:=Hd hb0;have HR:=Hd hR;have p1:=hp w0 (Below.refl _ _) 1;simp only [Ya,Yb,Yc] at p1;clear hw0 hb0 hsz hp hx hR HF
 by_cases h0:i<0
 · have hd:decide (i<0)=true:=decide_eq_true h0
   go_upto_region 2 with(fail)
   go_wp2_with (refine wpList_store_row rfl _ _ _ rfl (w.heap.size+1+1) _ rfl rfl _ _ HR.out ty3_info rfl (by simp [Value.oneCell']) ?_)
   exact bodyPost_ret (res_ty2 (p:=6) (u:=7) rfl _ _ (w.heap.size+1+1) 0 0 0 rfl (HR.out.set _ _ _)) rfl ⟨rfl,below_setRow HB0.out (by omega) _⟩
 · have hd:decide (i<0)=false:=decide_eq_false h0;have hle:(pn:Int)≤i:=by omega
   have hd2:decide ((pn:Int)≤i)=true:=decide_eq_true hle
   go_upto_region 2 with(fail)
   go_wp2_with (refine wpList_store_row rfl _ _ _ rfl (w.heap.size+1+1) _ rfl rfl _ _ HR.out ty3_info rfl (by simp [Value.oneCell']) ?_)
   exact bodyPost_ret (res_ty2 (p:=6) (u:=7) rfl _ _ (w.heap.size+1+1) 0 0 0 rfl (HR.out.set _ _ _)) rfl ⟨rfl,below_setRow HB0.out (by omega) _⟩
theorem refOfOf(p:Pg) (E:Option Addr) (ec:Nat) (N:Option Addr) (nc:Nat) (i:Nat) (x:Ex) (A:Option Addr) (ca:Nat) (B:Option Addr) (cb:Nat) (w:World) (hi:i<p.ns.length) (hmx:p.ns.length≤9223372036854775807) (o:Option T3)
 (hof:∀ w1,Below w.heap.size w w1→Calls Tryz.prog 42 #[.agg (pgA p E ec N nc),.int .i64 i,.agg (exA x A ca B cb)] w1 (TyAns w1 o)):
 Calls Tryz.prog 14 #[.agg (pgA p E ec N nc),.int .i64 i,.agg (exA x A ca B cb)] w (TyZ w o):=by
 have HF:=Hd fun w0 h=>pe_box3 (w:=w) (w0:=w0) (p:=p) (E:=E) (ec:=ec) (N:=N) (nc:=nc) (x:=x) (A:=A) (ca:=ca) (B:=B) (cb:=cb) (T:=25) (U:=35) (V:=38) h;have HOF:=Hd hof;clear hof;unfold pgA exA at HF HOF ⊢;unfold TyAns at HOF;generalize p.ns.length=pn at *
 go_enter Tryz.func14,Tryz.ntmps14
 go_upto_region 1 with(fail)
 generalize hw0:((w.alloc _).alloc _).alloc _=w0;obtain⟨hb0,hsz,hp,hx,hR⟩:=HF.out w0 hw0;have HB0:=Hd hb0;have HR:=Hd hR;have p0:=hp w0 (Below.refl _ _) 0;have p1:=hp w0 (Below.refl _ _) 1;obtain⟨q0,q1,q2,q3,q4,q5⟩:=Sx (hx w0 (Below.refl _ _));simp only [Ya,Yb,Yc] at p0 p1 q0 q1 q2 q3 q4 q5;have HCL:=Hd (HOF.out w0 hb0);clear hw0 hb0 hsz hp hx hR HF HOF;have hd:decide ((i:Int)<0)=false:=decide_eq_false (by omega);have hd2:decide ((pn:Int)≤(i:Int))=false:=decide_eq_false (by omega)
 go_wp2_with fail
 refine HCL.out.mono ?_;rintro e w1 ⟨a,b,c,rfl,hv,hb1⟩;have HR1:=Hd (HR.out.below hb1);have HB1:=Hd (HB0.out.trans (hb1.mono HB0.out.size));have HV:=Hd hv;clear hb1 hv HCL p0 p1 q0 q1 q2 q3 q4 q5;generalize hos:o.isSome=os at *;have HS:=Hd hos;clear hos;unfold f3A
 go_upto_region 4 with(fail)
 generalize hw2:w1.alloc _=w2;obtain⟨hb2,hF2,hg2⟩:=ty_box hw2;have HR2:=Hd (HR1.out.below hb2);have HB2:=Hd (HB1.out.trans (hb2.mono HB1.out.size));obtain⟨f0,f1,f2,-,-,-⟩:=Sx hF2.cell;simp only [f3A,List.getElem?_toArray,List.getElem?_cons_zero,List.getElem?_cons_succ] at f0 f1 f2;have hn:w1.heap.size≠w.heap.size+1+1:=by have:=HR1.out.lt;omega
 clear hw2 hb2 hF2 hg2
 cases os with
 | false=>
  have HO:=Hd (show o=none by have:=HS.out;cases o with | none=>rfl | some r=>cases this)
  go_upto_region 5 with(fail)
  go_wp2_with (refine wpList_store_row rfl _ _ _ rfl (w.heap.size+1+1) _ rfl rfl _ _ HR2.out ty3_info rfl (by simp [Value.oneCell']) ?_)
  exact bodyPost_ret (res_ty2 (p:=6) (u:=7) rfl _ _ (w.heap.size+1+1) 0 0 0 rfl (HR2.out.set _ _ _)) rfl ⟨by rw [HO.out];rfl,below_setRow HB2.out (by omega) _⟩
 | true=>
  have HO:=Hd (show o=some (a,b,c) by have:=HS.out;cases h:o with | none=>rw [h] at this;cases this | some r=>rw [HV.out r h])
  go_upto_region 6 with(fail)
  go_wp2_with (refine wpList_store_row rfl _ _ _ rfl (w.heap.size+1+1) _ rfl rfl _ _ HR2.out ty3_info rfl (by simp [Value.oneCell']) ?_)
  exact bodyPost_ret (res_ty2 (p:=6) (u:=7) rfl _ _ (w.heap.size+1+1) a b c rfl (HR2.out.set _ _ _)) rfl ⟨by rw [HO.out];rfl,below_setRow HB2.out (by omega) _⟩
end
section
open Go.RowKit Go.Sort Go.BigFrame
theorem refSubs16(p:Pg) (E:Option Addr) (ec:Nat) (N:Option Addr) (nc:Nat) (i:Nat) (x:Ex) (A:Option Addr) (ca:Nat) (B:Option Addr) (cb:Nat) (w:World) (hr:rdX w x A B) (m:Nat) (hml:x.subs.length=m) (hm:m≤1000000) (l:List (Option T3)) (hll:l.length=m) (oo:Option (List T3)) (hoo:seqO l=oo)
 (hsub:∀ k,k<m→∀ A' ca' B' cb' w1,Below w.heap.size w w1→rdX w (subX x k) A' B'→Calls Tryz.prog 14 #[.agg (pgA p E ec N nc),.int .i64 i,.agg (exA (subX x k) A' ca' B' cb')] w1 (TyZ w1 (l[k]?.getD none))):
 Calls Tryz.prog 63 #[.agg (pgA p E ec N nc),.int .i64 i,.agg (exA x A ca B cb)] w (SubsAns w oo):=by
 have HF:=Hd fun w0 h=>pair_box (w:=w) (w0:=w0) (p:=p) (E:=E) (ec:=ec) (N:=N) (nc:=nc) (x:=x) (A:=A) (ca:=ca) (B:=B) (cb:=cb) h;have HSB:=Hd fun k (hkk:k<x.subs.length)=>hr.sub hkk;have HSUB:=Hd hsub;have HOO:=Hd hoo;have HLL:=Hd hll;have HSN:=Hd fun k ts (hk:k<l.length) (h:seqO (l.take k)=some ts) a (ha:l[k]?.getD none=some a)=>seqO_take hk h ha;have HNO:=Hd fun k (hk:k<l.length) (h:l[k]?.getD none=none)=>seqO_none hk h;have HEND:=Hd (show l.take m=l from List.take_of_length_le (by omega));have HZERO:=Hd (show seqO (l.take 0)=some [] from rfl);obtain⟨i0,z0,hi0,hz1,hz0,hz2,hz3⟩:=info_three infoTy3;rw [hml] at HSB;clear hr hsub hoo hll;unfold pgA at HF HSUB ⊢;unfold exA at HF HSUB ⊢;rw [hml] at HF ⊢;unfold TyZ at HSUB;generalize p.ns.length=pn at *;generalize p.es.length=pe at *;clear hml
 go_enter Tryz.func63,Tryz.ntmps63
 go_upto_region 1 with(fail)
 generalize hw0:(w.alloc _).alloc _=w0;obtain⟨hb0,hsz,hp,hx⟩:=HF.out w0 hw0;have HB0:=Hd hb0;have HP:=Hd hp;have HX:=Hd hx;have hOW:=World.ownsRow_lit (base:=w0.heap.size) (e:=38) (size:=3) w0 #[] 0 (Nat.le_refl _) (by decide) rfl;have HOW:=Hd hOW;have HBN:=Hd ((Below.refl w0.heap.size w0).alloc (Nat.le_refl _) (.cells #[] 38));clear hw0 hb0 hsz hp hx HF hOW
 go_upto_region 2 with(fail)
 generalize w0.alloc _=wN at *
 go_wp2_with fail
 go_loopw [8,9] (fun v i wr=>∃ (k:Nat) (ts:List T3),k≤m∧i=.int .i64 k∧seqO (l.take k)=some ts∧wr.ownsRow w0.heap.size 38 3 v k (flY ts)∧Below w0.heap.size w0 wr) (fun _ i _=>m-(intOf i).toNat)
 case atStart=>exact⟨0,[],Nat.zero_le _,rfl,HZERO.out,HOW.out,HBN.out⟩
 case round=>
  obtain⟨k,ts,hk,rfl,hseq,hown,hbr⟩:=hrel;have HSQ:=Hd hseq;have HOWN:=Hd hown;have HBR:=Hd hbr;have hbw:=HB0.out.trans (hbr.mono HB0.out.size);have HBW:=Hd hbw;have p0:=HP.out wr hbr 0;have p1:=HP.out wr hbr 1;have q5:=HX.out wr hbr 5;simp only [Ya,Yb,Yc] at p0 p1 q5;clear hseq hown HOW HBN
  by_cases hlt:k<m
  · obtain⟨b,off,rfl,hb,hat⟩:=HSB.out k hlt;obtain⟨A',ca',B',cb',hrg,hrd⟩:=hat k hlt;obtain⟨c0,c1,c2,c3,c4,c5⟩:=rangeAt_six (rangeAt_keep hrg hb fun p hp=>hbw.cell hp);have HLK:=Hd fun w1 (hb1:Below w.heap.size w w1)=>HSUB.out k hlt A' ca' B' cb' w1 hb1 hrd;have HNK:=Hd (HNO.out k (by rw [HLL.out];exact hlt));have HSK:=Hd (HSN.out k ts (by rw [HLL.out];exact hlt) HSQ.out);clear hat hrg hrd hbr hbw;generalize subX x k=y at *;generalize l[k]?.getD none=o at *;generalize hoa:(o.getD (0,0,0)).1=oa at *;generalize hob:(o.getD (0,0,0)).2.1=ob at *;generalize hoc:(o.getD (0,0,0)).2.2=oc at *;generalize hos:o.isSome=os at *;have HV:=Hd (show ∀ r,o=some r→r=(oa,ob,oc) from fun r h=>by subst h hoa hob hoc;rfl);have HS:=Hd hos;clear hoa hob hoc hos;unfold f3A at HLK
    go_upto_region 5 with(fail)
    refine wp_region_mid (l:=[_,_,_,_,_,_,_,_,_,_,_,_,_,_]) 11 12 _ _ (d:=10) (tx:=29) (T:=38) (zc:=f3A 0 0 0) (by kernel_rfl) rfl rfl (by kernel_rfl) rfl (by simp) (fun a W=>by rfl) rfl (by kernel_rfl) ?_
    repeat
     first
     | refine fix_skipG rfl ?_
     | (apply fix_stepG rfl rfl (by simp)
        case h1=>
         intro wb hb;have hbb:=cls_below hb;have l0:=fun d os=>cell_regrown ((hbb.cell (World.block_lt_of_cell? _ _ p0)).trans p0) d os;have l1:=fun d os=>cell_regrown ((hbb.cell (World.block_lt_of_cell? _ _ p1)).trans p1) d os;have l2:=fun d os=>cell_regrown ((hbb.cell (World.block_lt_of_cell? _ _ q5)).trans q5) d os;have m0:=fun d os=>cell_regrown ((hbb.cell (World.block_lt_of_cell? _ _ c0)).trans c0) d os;have m1:=fun d os=>cell_regrown ((hbb.cell (World.block_lt_of_cell? _ _ c1)).trans c1) d os;have m2:=fun d os=>cell_regrown ((hbb.cell (World.block_lt_of_cell? _ _ c2)).trans c2) d os;have m3:=fun d os=>cell_regrown ((hbb.cell (World.block_lt_of_cell? _ _ c3)).trans c3) d os;have m4:=fun d os=>cell_regrown ((hbb.cell (World.block_lt_of_cell? _ _ c4)).trans c4) d os;have m5:=fun d os=>cell_regrown ((hbb.cell (World.block_lt_of_cell? _ _ c5)).trans c5) d os;have h3:=HBW.out.trans (hbb.mono HBW.out.size);have cA:=fun d os=>Calls.regrown_of (HLK.out (grow (redrawn wb d) os) (h3.trans ((below_regrown wb d os).mono h3.size)));clear h3 hbb
         go_big_quiet_step (with_reducible exact cA _ _)
         refine wpQuiet_nil ?_;simp only [List.getElem?_toArray,List.getElem?_cons_succ,List.getElem?_cons_zero];exact rfl
        simp only [Act.put,Yd,Ye,Yf])
    refine⟨f3A oa ob oc,rfl,rfl,by simp [f3A,Value.oneCell'],fun W g hW hg hz=>?_⟩;have HBX:=Hd (cls_below hW);have HZ:=Hd (show F3 38 W g oa ob oc from hz);have HG:=Hd hg;clear hW hg hz p0 p1 q5 c0 c1 c2 c3 c4 c5
    show Exit.then _ _ .normal _ W
    simp only [Act.put,Yd,Ye,Yf];have HOWX:=Hd (own_belowU HOWN.out (HBX.out));have HBRX:=Hd (HBR.out.trans (HBX.out.mono HBR.out.size))
    cases os with
    | false=>
     have HO:=Hd (show oo=none by rw [← HOO.out];exact HNK.out (by have:=HS.out;cases o with | none=>rfl | some r=>cases this))
     go_wp2_with fail
     try go_ret2
     exact⟨none,0,0,[],by rw [HO.out];rfl,fun r h=>(by rw [HO.out] at h;cases h),HBW.out.trans (HBX.out.mono HBW.out.size)⟩
    | true=>
     have HO:=Hd (show o=some (oa,ob,oc) by have:=HS.out;cases h:o with | none=>rw [h] at this;cases this | some r=>rw [HV.out r h]);have HSY:=Hd (HSK.out _ HO.out);obtain⟨f0,f1,f2,-,-,-⟩:=Sx HZ.out.cell;simp only [f3A,List.getElem?_toArray,List.getElem?_cons_zero,List.getElem?_cons_succ] at f0 f1 f2;have hwz:=HBRX.out.size
     go_wp2_with (at_builtin;refine wpList_append_own_at _ rfl _ _ 99 rfl w0.heap.size 38 i0 z0 3 24 Tryz.underlying99 hi0 hz1 hz0 hz2 hz3 (by decide) u8 k (flY ts) rfl (own_belowU HOWX.out ((Below.refl W.heap.size W).alloc (Nat.le_refl _) (.cells #[.int .i64 oa,.int .i64 ob,.int .i64 oc] 38))) ⟨W.heap.size,0,none⟩ 1 1 [.int .i64 oa,.int .i64 ob,.int .i64 oc] rfl rfl (fun j u hu=>World.news_of_block (heap_alloc_new _ _) j u hu) (by simp [Value.oneCell']) (by unfold maxLen;omega) (by omega) (by simp;omega) ?_;intro v' w9 hown' hgrow hnil hloc;have HO9:=Hd hown';have HB9:=Hd (show Below w0.heap.size w0 w9 from(HBRX.out.alloc HBRX.out.size _).grown hgrow (by simp;omega) (fun j hj=>(HOWX.out.lt j hj).1));clear hown' hgrow hnil hloc)
     go_roundw
     case rel=>exact⟨k+1,ts++[(oa,ob,oc)],by omega,by go_num,HSY.out,by rw [flY_app,flY_one];exact HO9.out,HB9.out⟩
     case measure=>simp [intOf];omega
  · obtain rfl:k=m:=by omega
    have HO:=Hd (show oo=some ts by rw [← HOO.out,← HEND.out];exact HSQ.out);obtain⟨S,c,rfl,hry⟩:=RdY.of_own HOWN.out (by omega);have HRY:=Hd hry;clear hry
    go_wp2_with fail
    try go_ret2
    exact⟨S,k,c,ts,by rw [HO.out];rfl,fun r h=>(by rw [HO.out] at h;injection h with h;exact⟨h.symm,HRY.out⟩),HBW.out⟩
end
section
open Go.RowKit Go.Sort Go.BigFrame
theorem refOfC(p:Pg) (E:Option Addr) (ec:Nat) (N:Option Addr) (nc:Nat) (i:Nat) (x:Ex) (A:Option Addr) (ca:Nat) (B:Option Addr) (cb:Nat) (w:World) (h:rdP w p E N) (hr:rdX w x A B) (hk:x.k=1∨x.k=2∨x.k=4) (hs:sizeX x≤1000000) (hsh:∀ q∈partsX x,ShortP q) (o:Option T3) (ho:(constT p.es x).map (·.2)=o):
 Calls Tryz.prog 42 #[.agg (pgA p E ec N nc),.int .i64 i,.agg (exA x A ca B cb)] w (TyAns w o):=by
 have HF:=Hd fun w0 h=>pe_box3 (w:=w) (w0:=w0) (p:=p) (E:=E) (ec:=ec) (N:=N) (nc:=nc) (x:=x) (A:=A) (ca:=ca) (B:=B) (cb:=cb) (T:=25) (U:=35) (V:=38) h;have HC:=Hd fun w1 (hb:Below w.heap.size w w1)=>refConst16 E p.es.length ec p.es x A ca B cb w1 (h.1.below hb) (hr.below hb) hs hsh;unfold ConstAns at HC;generalize constT p.es x=oc at *;clear h hr hs hsh;unfold pgA exA at HF ⊢;unfold exA at HC;generalize p.es.length=pe at *;generalize p.ns.length=pn at *;rcases hk with hk | hk | hk
 all_goals
  rw [hk] at HF HC ⊢
  go_enter Tryz.func42,Tryz.ntmps42
  go_upto_region 1 with(fail)
  generalize hw0:((w.alloc _).alloc _).alloc _=w0;obtain⟨hb0,hsz,hp,hx,hR⟩:=HF.out w0 hw0;have HB0:=Hd hb0;have HR:=Hd hR;have HP:=Hd hp;have HX:=Hd hx;have p0:=hp w0 (Below.refl _ _) 0;have p1:=hp w0 (Below.refl _ _) 1;obtain⟨q0,q1,q2,q3,q4,q5⟩:=Sx (hx w0 (Below.refl _ _));simp only [Ya,Yb,Yc] at p0 p1 q0 q1 q2 q3 q4 q5;clear hw0 hsz hp hx hR HF;have HC0:=Hd (HC.out w0 hb0);clear hb0 HC
  go_wp2_with fail
  refine HC0.out.mono ?_;rintro e w1 ⟨S,n,c,a,b,d,vs,rfl,-,-,-,⟨hv,-⟩,hb1⟩;have HR1:=Hd (HR.out.below hb1);have HB1:=Hd (HB0.out.trans (hb1.mono HB0.out.size));have HV:=Hd hv;clear hb1 hv HC0 p0 p1 q0 q1 q2 q3 q4 q5;generalize hos:oc.isSome=os at *;have HS:=Hd hos;clear hos;unfold f3A
  go_upto_region 6 with(fail)
  generalize hw2:w1.alloc _=w2;obtain⟨hb2,hF2,hg2⟩:=ty_box hw2;have HR2:=Hd (HR1.out.below hb2);have HB2:=Hd (HB1.out.trans (hb2.mono HB1.out.size));obtain⟨f0,f1,f2,-,-,-⟩:=Sx hF2.cell;simp only [f3A,List.getElem?_toArray,List.getElem?_cons_zero,List.getElem?_cons_succ] at f0 f1 f2;have hn:w1.heap.size≠w.heap.size+1+1:=by have:=HR1.out.lt;omega
  clear hw2 hb2 hF2 hg2
  go_wp2_with (refine wpList_store_row rfl _ _ _ rfl (w.heap.size+1+1) _ rfl rfl _ _ HR2.out ty3_info rfl (by simp [Value.oneCell']) ?_)
  exact bodyPost_ret (res_ty2 (p:=6) (u:=7) rfl _ _ (w.heap.size+1+1) a b d rfl (HR2.out.set _ _ _)) rfl ⟨a,b,d,by rw [← ho,Option.isSome_map,HS.out];rfl,fun t ht=>(by
   rw [← ho] at ht;obtain⟨r,h1,rfl⟩:=Option.map_eq_some_iff.1 ht;rw [HV.out r h1]),below_setRow HB2.out (by omega) _⟩
theorem refOfK(p:Pg) (E:Option Addr) (ec:Nat) (N:Option Addr) (nc:Nat) (i:Nat) (x:Ex) (A:Option Addr) (ca:Nat) (B:Option Addr) (cb:Nat) (w:World) (hk:x.k=17) (o:Option T3) (ho:none=o):
 Calls Tryz.prog 42 #[.agg (pgA p E ec N nc),.int .i64 i,.agg (exA x A ca B cb)] w (TyAns w o):=by
 subst ho;have HF:=Hd fun w0 h=>pe_box3 (w:=w) (w0:=w0) (p:=p) (E:=E) (ec:=ec) (N:=N) (nc:=nc) (x:=x) (A:=A) (ca:=ca) (B:=B) (cb:=cb) (T:=25) (U:=35) (V:=38) h;unfold pgA exA at HF ⊢;generalize p.es.length=pe at *;generalize p.ns.length=pn at *;rw [hk] at HF ⊢
 go_enter Tryz.func42,Tryz.ntmps42
 go_upto_region 1 with(fail)
 generalize hw0:((w.alloc _).alloc _).alloc _=w0;obtain⟨hb0,hsz,hp,hx,hR⟩:=HF.out w0 hw0;have HB0:=Hd hb0;have HR:=Hd hR;have HP:=Hd hp;have HX:=Hd hx;have p0:=hp w0 (Below.refl _ _) 0;have p1:=hp w0 (Below.refl _ _) 1;obtain⟨q0,q1,q2,q3,q4,q5⟩:=Sx (hx w0 (Below.refl _ _));simp only [Ya,Yb,Yc] at p0 p1 q0 q1 q2 q3 q4 q5;clear hw0 hsz hp hx hR HF;clear hb0
 go_upto_region 15 with(fail)
 go_wp2_with (refine wpList_store_row rfl _ _ _ rfl (w.heap.size+1+1) _ rfl rfl _ _ HR.out ty3_info rfl (by simp [Value.oneCell']) ?_)
 exact bodyPost_ret (res_ty2 (p:=6) (u:=7) rfl _ _ (w.heap.size+1+1) 0 0 0 rfl (HR.out.set _ _ _)) rfl ⟨0,0,0,rfl,fun t ht=>(by cases ht),below_setRow HB0.out (by omega) _⟩
theorem refOfS(p:Pg) (E:Option Addr) (ec:Nat) (N:Option Addr) (nc:Nat) (i:Nat) (x:Ex) (A:Option Addr) (ca:Nat) (B:Option Addr) (cb:Nat) (w:World) (hk:(x.k=5∨x.k=6∨x.k=7∨x.k=14∨x.k=15∨x.k=16)∨(9≤x.k∧x.k≤13)) (os:Option (List T3)) (o:Option T3)
 (hsubs:∀ w1,Below w.heap.size w w1→Calls Tryz.prog 63 #[.agg (pgA p E ec N nc),.int .i64 i,.agg (exA x A ca B cb)] w1 (SubsAns w1 os))
 (hnone:os=none→o=none)
 (hflow:9≤x.k→x.k≤13→∀ ts,os=some ts→∀ S n c w1,Below w.heap.size w w1→RdY w1 S n ts→Calls Tryz.prog 81 #[.agg (pgA p E ec N nc),.int .i64 i,.agg (exA x A ca B cb),.slice S n c] w1 (TyAns w1 o))
 (hplain:(x.k=5∨x.k=6∨x.k=7∨x.k=14∨x.k=15∨x.k=16)→∀ ts,os=some ts→∀ S n c w1,Below w.heap.size w w1→RdY w1 S n ts→Calls Tryz.prog 82 #[.agg (exA x A ca B cb),.slice S n c] w1 (TyAns w1 o)):
 Calls Tryz.prog 42 #[.agg (pgA p E ec N nc),.int .i64 i,.agg (exA x A ca B cb)] w (TyAns w o):=by
 have HF:=Hd fun w0 h=>pe_box3 (w:=w) (w0:=w0) (p:=p) (E:=E) (ec:=ec) (N:=N) (nc:=nc) (x:=x) (A:=A) (ca:=ca) (B:=B) (cb:=cb) (T:=25) (U:=35) (V:=38) h;have HS:=Hd hsubs;have HFL:=Hd hflow;have HPL:=Hd hplain;have HNN:=Hd hnone;clear hsubs hflow hplain hnone;unfold pgA exA at HF ⊢;unfold pgA exA at HS HFL;unfold exA at HPL;unfold SubsAns at HS;unfold TyAns at HFL HPL;generalize p.es.length=pe at *;generalize p.ns.length=pn at *;generalize x.k=k at *;have HK:=Hd hk;have b1:(k==1)=false:=beq_eq_false_iff_ne.2 (by omega);have b2:(k==2)=false:=beq_eq_false_iff_ne.2 (by omega);have b4:(k==4)=false:=beq_eq_false_iff_ne.2 (by omega);have b3:(k==3)=false:=beq_eq_false_iff_ne.2 (by omega);have b8:(k==8)=false:=beq_eq_false_iff_ne.2 (by omega);have b17:(k==17)=false:=beq_eq_false_iff_ne.2 (by omega);clear hk
 go_enter Tryz.func42,Tryz.ntmps42
 go_upto_region 1 with(fail)
 generalize hw0:((w.alloc _).alloc _).alloc _=w0;obtain⟨hb0,hsz,hp,hx,hR⟩:=HF.out w0 hw0;have HB0:=Hd hb0;have HR:=Hd hR;have HP:=Hd hp;have HX:=Hd hx;have p0:=hp w0 (Below.refl _ _) 0;have p1:=hp w0 (Below.refl _ _) 1;obtain⟨q0,q1,q2,q3,q4,q5⟩:=Sx (hx w0 (Below.refl _ _));simp only [Ya,Yb,Yc] at p0 p1 q0 q1 q2 q3 q4 q5;clear hw0 hsz hp hx hR HF;have HS0:=Hd (HS.out w0 hb0);clear hb0 HS
 go_wp2_with fail
 refine HS0.out.mono ?_;rintro e w1 ⟨S,n,c,ts,rfl,hv,hb1⟩;have HR1:=Hd (HR.out.below hb1);have HB1:=Hd (HB0.out.trans (hb1.mono HB0.out.size));have HV:=Hd hv;obtain⟨r0,r1,r2,r3,r4,r5⟩:=Sx (HX.out w1 hb1);have s0:=HP.out w1 hb1 0;have s1:=HP.out w1 hb1 1;simp only [Ya,Yb,Yc] at r0 r1 r2 r3 r4 r5 s0 s1;clear hb1 hv HS0 p0 p1 q0 q1 q2 q3 q4 q5 HX HP b1 b2 b4 b3 b8 b17
 cases os with
 | none=>
  obtain rfl:=HNN.out rfl
  go_upto_region 18 with(fail)
  go_wp2_with (refine wpList_store_row rfl _ _ _ rfl (w.heap.size+1+1) _ rfl rfl _ _ HR1.out ty3_info rfl (by simp [Value.oneCell']) ?_)
  exact bodyPost_ret (res_ty2 (p:=6) (u:=7) rfl _ _ (w.heap.size+1+1) 0 0 0 rfl (HR1.out.set _ _ _)) rfl ⟨0,0,0,rfl,fun t ht=>(by cases ht),below_setRow HB1.out (by omega) _⟩
 | some us=>
  obtain⟨he,hry⟩:=HV.out us rfl;subst he;rcases HK.out with hk | ⟨hk1,hk2⟩
  · have HPC:=Hd (HPL.out hk us rfl S n c w1 HB1.out hry)
    have hlt:(decide ((9:Int)≤k) && decide (k≤13))=false:=by
     rcases hk with rfl | rfl | rfl | rfl | rfl | rfl <;> rfl
    have HLT:=Hd hlt;clear hlt HPL HFL hry;rcases hk with rfl | rfl | rfl | rfl | rfl | rfl
    all_goals
     go_wp2_with fail
     refine HPC.out.mono ?_;rintro e w2 ⟨a,b,d,rfl,hv,hb2⟩;have HR2:=Hd (HR1.out.below hb2);have HB2:=Hd (HB1.out.trans (hb2.mono HB1.out.size));have HV2:=Hd hv;clear hb2 hv HPC r0 r1 r2 r3 r4 r5 s0 s1;unfold f3A
     go_wp2_with (refine wpList_store_row rfl _ _ _ rfl (w.heap.size+1+1) _ rfl rfl _ _ HR2.out ty3_info rfl (by simp [Value.oneCell']) ?_)
     exact bodyPost_ret (res_ty2 (p:=6) (u:=7) rfl _ _ (w.heap.size+1+1) a b d rfl (HR2.out.set _ _ _)) rfl ⟨a,b,d,rfl,HV2.out,below_setRow HB2.out (by omega) _⟩
  · have HFC:=Hd (HFL.out hk1 hk2 us rfl S n c w1 HB1.out hry);have d1:decide ((9:Int)≤k)=true:=decide_eq_true hk1;have d2:decide (k≤(13:Int))=true:=decide_eq_true hk2;clear HPL HFL hry hk1 hk2
    go_wp2_with fail
    refine HFC.out.mono ?_;rintro e w2 ⟨a,b,d,rfl,hv,hb2⟩;have HR2:=Hd (HR1.out.below hb2);have HB2:=Hd (HB1.out.trans (hb2.mono HB1.out.size));have HV2:=Hd hv;clear hb2 hv HFC r0 r1 r2 r3 r4 r5 s0 s1;unfold f3A
    go_wp2_with (refine wpList_store_row rfl _ _ _ rfl (w.heap.size+1+1) _ rfl rfl _ _ HR2.out ty3_info rfl (by simp [Value.oneCell']) ?_)
    exact bodyPost_ret (res_ty2 (p:=6) (u:=7) rfl _ _ (w.heap.size+1+1) a b d rfl (HR2.out.set _ _ _)) rfl ⟨a,b,d,rfl,HV2.out,below_setRow HB2.out (by omega) _⟩
end
section
open Go.RowKit Go.Sort Go.BigFrame
theorem refOfV(p:Pg) (E:Option Addr) (ec:Nat) (N:Option Addr) (nc:Nat) (i:Nat) (x:Ex) (A:Option Addr) (ca:Nat) (B:Option Addr) (cb:Nat) (w:World) (h:rdP w p E N) (hi:i<p.ns.length) (hal:(ndAt p i).all.length≤1000) (hk:x.k=3) (o:Option T3) (ho:(declO (ndAt p i) x.s).map tyD=o):
 Calls Tryz.prog 42 #[.agg (pgA p E ec N nc),.int .i64 i,.agg (exA x A ca B cb)] w (TyAns w o):=by
 have HF:=Hd fun w0 h=>pe_box3 (w:=w) (w0:=w0) (p:=p) (E:=E) (ec:=ec) (N:=N) (nc:=nc) (x:=x) (A:=A) (ca:=ca) (B:=B) (cb:=cb) (T:=25) (U:=35) (V:=38) h;obtain⟨nb,no,A1,c1,A2,c2,A3,c3,A4,c4,rfl,hnb,hrd,d0,d1,d2,d3,d4⟩:=nd_at15 h.2 hi;have HDC:=Hd fun w1 (hb:Below w.heap.size w w1)=>refDeclN (ndAt p i) A1 c1 A2 c2 A3 c3 A4 c4 x.s w1 (hrd.below hb) hal;unfold DeclPost declV at HDC
 have HO:=Hd (show ∀ dd,(declO (ndAt p i) x.s).getD default=dd→(declO (ndAt p i) x.s).isSome=o.isSome∧∀ t,o=some t→t=(dd.k,dd.e,dd.l) from fun dd hd=>by
  subst hd ho
  cases declO (ndAt p i) x.s with
  | none=>exact⟨rfl,fun t h=>(by cases h)⟩
  | some d=>exact⟨rfl,fun t h=>(by injection h with h;exact h.symm)⟩)
 unfold ndAt at HDC HO;generalize hdo:declO (p.ns[i]?.getD default) x.s=od at *;generalize hnd:p.ns[i]?.getD default=nd at *;unfold ndA at HDC;unfold pgA exA at HF ⊢;rw [hk] at HF ⊢
 have HD:=Hd (show ∀ w1,Below w.heap.size w w1→w1.cell? ⟨nb,no+i*5,none⟩=some (.string nd.nm)∧w1.cell? ⟨nb,no+i*5+1,none⟩=some (.slice A1 nd.ins.length c1)∧w1.cell? ⟨nb,no+i*5+2,none⟩=some (.slice A2 nd.outs.length c2)∧w1.cell? ⟨nb,no+i*5+3,none⟩=some (.slice A3 nd.vars.length c3)∧w1.cell? ⟨nb,no+i*5+4,none⟩=some (.slice A4 nd.eqs.length c4) from
  fun w1 hb=>⟨(hb.cell (p:=⟨nb,no+i*5,none⟩) hnb).trans d0,(hb.cell (p:=⟨nb,no+i*5+1,none⟩) hnb).trans d1,(hb.cell (p:=⟨nb,no+i*5+2,none⟩) hnb).trans d2,(hb.cell (p:=⟨nb,no+i*5+3,none⟩) hnb).trans d3,(hb.cell (p:=⟨nb,no+i*5+4,none⟩) hnb).trans d4⟩)
 clear d0 d1 d2 d3 d4 hrd hk h;generalize hdd:od.getD default=dd at *;generalize hds:od.isSome=ds at *;unfold dcA at HDC;have HO2:=Hd (HO.out dd rfl);clear hdo hnd HO;generalize p.es.length=pe at *;generalize p.ns.length=pn at *
 go_enter Tryz.func42,Tryz.ntmps42
 go_upto_region 1 with(fail)
 generalize hw0:((w.alloc _).alloc _).alloc _=w0;obtain⟨hb0,hsz,hp,hx,hR⟩:=HF.out w0 hw0;have HB0:=Hd hb0;have HR:=Hd hR;have HP:=Hd hp;have HX:=Hd hx;have p0:=hp w0 (Below.refl _ _) 0;have p1:=hp w0 (Below.refl _ _) 1;obtain⟨q0,q1,q2,q3,q4,q5⟩:=Sx (hx w0 (Below.refl _ _));simp only [Ya,Yb,Yc] at p0 p1 q0 q1 q2 q3 q4 q5;clear hw0 hsz hp hx hR HF;obtain⟨d0,d1,d2,d3,d4⟩:=HD.out w0 hb0
 go_upto_region 8 with(fail)
 refine wp_region_mid (l:=[_,_,_,_,_,_,_,_,_,_,_,_,_,_]) 11 12 _ _ (d:=11) (tx:=47) (T:=58) (zc:=dcZ) (by kernel_rfl) rfl rfl (by kernel_rfl) rfl (by simp) (fun a W=>by rfl) rfl (by kernel_rfl) ?_
 repeat
  first
  | refine fix_skipG rfl ?_
  | (apply fix_stepG rfl rfl (by simp)
     case h1=>
      intro wb hb;have hbb:=cls_below hb;have l0:=fun d os=>cell_regrown ((hbb.cell (World.block_lt_of_cell? _ _ p1)).trans p1) d os;have l1:=fun d os=>cell_regrown ((hbb.cell (World.block_lt_of_cell? _ _ q2)).trans q2) d os;have m0:=fun d os=>cell_regrown ((hbb.cell (World.block_lt_of_cell? _ _ d0)).trans d0) d os;have m1:=fun d os=>cell_regrown ((hbb.cell (World.block_lt_of_cell? _ _ d1)).trans d1) d os;have m2:=fun d os=>cell_regrown ((hbb.cell (World.block_lt_of_cell? _ _ d2)).trans d2) d os;have m3:=fun d os=>cell_regrown ((hbb.cell (World.block_lt_of_cell? _ _ d3)).trans d3) d os;have m4:=fun d os=>cell_regrown ((hbb.cell (World.block_lt_of_cell? _ _ d4)).trans d4) d os;have h3:=HB0.out.trans (hbb.mono HB0.out.size);have cA:=fun d os=>Calls.regrown_of (HDC.out (grow (redrawn wb d) os) (h3.trans ((below_regrown wb d os).mono h3.size)));clear h3 hbb
      go_big_quiet_step (with_reducible exact cA _ _)
      refine wpQuiet_nil ?_;simp only [List.getElem?_toArray,List.getElem?_cons_succ,List.getElem?_cons_zero];exact rfl
     simp only [Act.put,Yd,Ye,Yf])
 refine⟨dcA dd,rfl,rfl,by simp [dcA,Value.oneCell'],fun W g hW hg hz=>?_⟩;have HBX:=Hd (cls_below hW);have k1:=rowD_cell (d:=dd) hz 1;have k2:=rowD_cell (d:=dd) hz 2;have k3:=rowD_cell (d:=dd) hz 3;simp only [dcA,List.getElem?_toArray,List.getElem?_cons_zero,List.getElem?_cons_succ] at k1 k2 k3;have HRW:=Hd (HR.out.below HBX.out);have HBW:=Hd (HB0.out.trans (HBX.out.mono HB0.out.size));have hn:g≠w.heap.size+1+1:=by have:=HR.out.lt;omega
 clear hW hg hz p0 p1 q0 q1 q2 q3 q4 q5 d0 d1 d2 d3 d4 hb0 HDC HD
 show Exit.then _ _ .normal _ W
 simp only [Act.put,Yd,Ye,Yf]
 go_wp2_with (refine wpList_store_row rfl _ _ _ rfl (w.heap.size+1+1) _ rfl rfl _ _ HRW.out ty3_info rfl (by simp [Value.oneCell']) ?_)
 exact bodyPost_ret (res_ty2 (p:=6) (u:=7) rfl _ _ (w.heap.size+1+1) dd.k dd.e dd.l rfl (HRW.out.set _ _ _)) rfl ⟨dd.k,dd.e,dd.l,by rw [← HO2.out.1];rfl,HO2.out.2,below_setRow HBW.out (by omega) _⟩
end
section
open Go.RowKit Go.Sort
def fbyT(oc:Option (List Int × T3)) (ou:Option T3):Option T3:=match oc with | none=>none | some c=>match ou with | none=>none | some u=>if c.2=u then some u else none
def FbyOK(p:Pg) (E:Option Addr) (ec:Nat) (N:Option Addr) (nc:Nat) (i:Nat):Prop:=
 ∀ (x:Ex) (A:Option Addr) (ca:Nat) (B:Option Addr) (cb:Nat) (w:World),rdP w p E N→rdX w x A B→x.k=8→2≤x.subs.length→sizeX (subX x 0)≤1000000→(∀ q∈partsX (subX x 0),ShortP q)→∀ ou:Option T3,
  (∀ A' ca' B' cb' w1,Below w.heap.size w w1→rdX w (subX x 1) A' B'→Calls Tryz.prog 14 #[.agg (pgA p E ec N nc),.int .i64 i,.agg (exA (subX x 1) A' ca' B' cb')] w1 (TyZ w1 ou)) →
  Calls Tryz.prog 42 #[.agg (pgA p E ec N nc),.int .i64 i,.agg (exA x A ca B cb)] w (TyAns w (fbyT (constT p.es (subX x 0)) ou))
def GoodX(x:Ex):Prop:=sizeX x≤1000000∧∀ q∈partsX x,ShortP q∧partX q=true
theorem mem_partss:∀ {l:List Ex}{i:Nat}{q:Ex},i<l.length→q∈partsX (l[i]?.getD default)→q∈partssX l
 | [],i,q,h,_=>absurd h (by simp)
 | x::l,0,q,_,hq=>by
  simp only [List.getElem?_cons_zero,Option.getD_some] at hq;simp only [partssX];exact List.mem_append_left _ hq
 | x::l,i+1,q,h,hq=>by
  simp only [List.getElem?_cons_succ] at hq;simp only [partssX];exact List.mem_append_right _ (mem_partss (by simpa using h) hq)
theorem GoodX.sub{x:Ex}(h:GoodX x){k:Nat}(hk:k<x.subs.length):GoodX (subX x k):=by
 have hm:subX x k∈x.subs:=by unfold subX;rw [List.getElem?_eq_getElem hk];exact List.getElem_mem _
 refine⟨?_,fun q hq=>h.2 q ?_⟩
 · have h1:=h.1;have h2:=sizes_mem hm;rw [sizeX_eq] at h1;omega
 · rw [partsX_eq];exact List.mem_cons_of_mem _ (mem_partss hk hq)
theorem GoodX.self{x:Ex}(h:GoodX x):ShortP x∧partX x=true:=h.2 x (by rw [partsX_eq];exact List.mem_cons_self)
theorem typ_get{p:Pg}{i:Nat}{x:Ex}{k:Nat}(hk:k<x.subs.length):(x.subs.map (typX p i))[k]?.getD none=typX p i (subX x k):=by
 unfold subX;rw [List.getElem?_map,List.getElem?_eq_getElem hk];rfl
theorem part_subs{x:Ex}(h:partX x=true):(subsX x).1≤x.subs.length:=by
 unfold partX at h;simp only [Bool.and_eq_true,decide_eq_true_eq] at h;exact h.1.1.2
theorem part_kind{x:Ex}(h:partX x=true):1≤x.k∧x.k≤17:=by
 unfold partX at h;simp only [Bool.and_eq_true,decide_eq_true_eq] at h;exact⟨h.1.1.1.1.1.1.1,h.1.1.1.1.1.1.2⟩
theorem part_armsB{x:Ex}(h:partX x=true):armsX x=true:=by
 unfold partX at h;simp only [Bool.and_eq_true] at h;exact h.1.1.1.2
theorem part_n13{x:Ex}(h:partX x=true) (hk:x.k=13):x.n=0∨x.n=1:=by
 unfold partX at h;simp only [Bool.and_eq_true] at h;exact numbers_13 h.1.1.1.1.1.2 hk
theorem part_plain{x:Ex}(h:partX x=true) (hk:x.k=5∨x.k=6∨x.k=7∨x.k=14∨x.k=15∨x.k=16):plainN x.k≤x.subs.length:=by
 have h1:=part_subs h;rcases hk with hk | hk | hk | hk | hk | hk <;> (unfold subsX at h1;rw [hk] at h1 ⊢;simp [plainN] at h1 ⊢;omega)
theorem part_flow{x:Ex}(h:partX x=true) (hk1:9≤x.k) (hk2:x.k≤13):flowN x.k≤x.subs.length∧(x.k=11→0<x.arms.length):=by
 have h1:=part_subs h;have h2:=part_armsB h;rcases(show x.k=9∨x.k=10∨x.k=11∨x.k=12∨x.k=13 by omega) with hk | hk | hk | hk | hk <;> (unfold subsX at h1;unfold armsX at h2;rw [hk] at h1 h2 ⊢;(try simp [flowN] at h1 h2 ⊢) <;> (try omega))
theorem part_8{x:Ex}(h:partX x=true) (hk:x.k=8):2≤x.subs.length:=by
 have h1:=part_subs h;rw [subs_8 hk] at h1
 simp at h1
 omega
theorem ofT_const{p:Pg}{i:Nat}{x:Ex}{l:List (Option T3)}(hk:x.k=1∨x.k=2∨x.k=4):(constT p.es x).map (·.2)=ofT p i x l:=by rcases hk with hk | hk | hk <;> (unfold ofT;rw [hk];rfl)
theorem ofT_var{p:Pg}{i:Nat}{x:Ex}{l:List (Option T3)}(hk:x.k=3):(declO (ndAt p i) x.s).map tyD=ofT p i x l:=by unfold ofT;rw [hk];rfl
theorem ofT_fby{p:Pg}{i:Nat}{x:Ex}{l:List (Option T3)}(hk:x.k=8):ofT p i x l=fbyT (constT p.es (subX x 0)) (l[1]?.getD none):=by
 unfold ofT fbyT;rw [hk];rfl
theorem ofT_old{p:Pg}{i:Nat}{x:Ex}{l:List (Option T3)}(hk:x.k=17):none=ofT p i x l:=by unfold ofT;rw [hk];rfl
theorem ofT_none{p:Pg}{i:Nat}{x:Ex}{l:List (Option T3)}(hk:(x.k=5∨x.k=6∨x.k=7∨x.k=14∨x.k=15∨x.k=16)∨(9≤x.k∧x.k≤13)) (h:seqO l=none):ofT p i x l=none:=by
 unfold ofT;rw [h];rcases(show x.k=5∨x.k=6∨x.k=7∨x.k=14∨x.k=15∨x.k=16∨x.k=9∨x.k=10∨x.k=11∨x.k=12∨x.k=13 by omega) with hk | hk | hk | hk | hk | hk | hk | hk | hk | hk | hk <;> (rw [hk];rfl)
theorem ofT_flow{p:Pg}{i:Nat}{x:Ex}{l:List (Option T3)}{ts:List T3}(hk1:9≤x.k) (hk2:x.k≤13) (h:seqO l=some ts):ofT p i x l=flowT p i x ts:=by
 unfold ofT;rw [h];rcases(show x.k=9∨x.k=10∨x.k=11∨x.k=12∨x.k=13 by omega) with hk | hk | hk | hk | hk <;> (rw [hk];rfl)
theorem ofT_plain{p:Pg}{i:Nat}{x:Ex}{l:List (Option T3)}{ts:List T3}(hk:x.k=5∨x.k=6∨x.k=7∨x.k=14∨x.k=15∨x.k=16) (h:seqO l=some ts):ofT p i x l=plainT x ts:=by
 unfold ofT;rw [h];rcases hk with hk | hk | hk | hk | hk | hk <;> (rw [hk];rfl)
theorem refOfX(p:Pg) (E:Option Addr) (ec:Nat) (N:Option Addr) (nc:Nat) (i:Nat) (hi:i<p.ns.length) (hmx:p.ns.length≤9223372036854775807) (hal:(ndAt p i).all.length≤1000) (hrt:∀ s d,declO (ndAt p i) s=some d→rightB p.es.length d.k d.e d.l=true) (H8:FbyOK p E ec N nc i):
 ∀ (x:Ex) (A:Option Addr) (ca:Nat) (B:Option Addr) (cb:Nat) (w:World),rdP w p E N→rdX w x A B→GoodX x →
  Calls Tryz.prog 42 #[.agg (pgA p E ec N nc),.int .i64 i,.agg (exA x A ca B cb)] w (TyAns w (typX p i x)):=by
 refine size_ind fun x ih A ca B cb w h hr hg=>?_;obtain⟨hsh,hpt⟩:=hg.self;obtain⟨hk1,hk2⟩:=part_kind hpt
 have hsub:∀ k,k<x.subs.length→∀ A' ca' B' cb' w1,Below w.heap.size w w1→rdX w1 (subX x k) A' B'→Calls Tryz.prog 14 #[.agg (pgA p E ec N nc),.int .i64 i,.agg (exA (subX x k) A' ca' B' cb')] w1 (TyZ w1 (typX p i (subX x k))):=
  fun k hk A' ca' B' cb' w1 hb hrd=>refOfOf p E ec N nc i (subX x k) A' ca' B' cb' w1 hi hmx _ fun w2 hb2=>ih k hk A' ca' B' cb' w2 (h.below (hb.trans (hb2.mono hb.size))) (hrd.below hb2) (hg.sub hk)
 have hs:=hr.subs.max
 have hlen:x.subs.length≤1000000:=by
  have h1:=sizes_len x.subs;have h2:=sizeX_eq x;have h3:=hg.1;omega
 rw [typX_eq]
 by_cases hc:x.k=1∨x.k=2∨x.k=4
 · exact refOfC p E ec N nc i x A ca B cb w h hr hc hg.1 (fun q hq=>(hg.2 q hq).1) _ (ofT_const hc)
 by_cases h3:x.k=3
 · exact refOfV p E ec N nc i x A ca B cb w h hi hal h3 _ (ofT_var h3)
 by_cases h8:x.k=8
 · have h2:=part_8 hpt h8;rw [ofT_fby h8,typ_get (by omega)];exact H8 x A ca B cb w h hr h8 h2 (hg.sub (by omega)).1 (fun q hq=>((hg.sub (by omega)).2 q hq).1) _ (fun A' ca' B' cb' w1 hb hrd=>hsub 1 (by omega) A' ca' B' cb' w1 hb (hrd.below hb))
 by_cases h17:x.k=17
 · exact refOfK p E ec N nc i x A ca B cb w h17 _ (ofT_old h17)
 have hk:(x.k=5∨x.k=6∨x.k=7∨x.k=14∨x.k=15∨x.k=16)∨(9≤x.k∧x.k≤13):=by omega
 refine refOfS p E ec N nc i x A ca B cb w hk (seqO (x.subs.map (typX p i))) _ (fun w1 hb=>?_) (fun hn=>ofT_none hk hn) (fun hk1 hk2 ts hts S n c w1 hb hry=>?_) (fun hkp ts hts S n c w1 hb hry=>?_)
 · exact refSubs16 p E ec N nc i x A ca B cb w1 (hr.below hb) x.subs.length rfl hlen (x.subs.map (typX p i)) (by simp) _ rfl (fun k hk A' ca' B' cb' w2 hb2 hrd=>by
    rw [typ_get hk];exact hsub k hk A' ca' B' cb' w2 (hb.trans (hb2.mono hb.size)) (hrd.below hb2))
 · obtain⟨hf,ha⟩:=part_flow hpt hk1 hk2;rw [ofT_flow hk1 hk2 hts];have hn:=seqO_len hts;have hl:=hry.len;rw [List.length_map] at hn;exact refFlowT p E ec N nc i x A ca B cb S n c ts w1 (h.below hb) (hr.below hb) hry hk1 hk2 (by omega) hi hal ha (part_n13 hpt) (hrt x.s)
 · rw [ofT_plain hkp hts];have hn:=seqO_len hts;have hl:=hry.len;rw [List.length_map] at hn;exact refPlainT x A ca B cb S n c ts w1 hry hkp (by have:=part_plain hpt hkp;omega)
end
section
open Go.RowKit Go.Sort Go.BigFrame
end
section
open Go.RowKit Go.Sort Go.BigFrame
end
end Go.Proofs.YtegjgiofmpolnaaGreat
