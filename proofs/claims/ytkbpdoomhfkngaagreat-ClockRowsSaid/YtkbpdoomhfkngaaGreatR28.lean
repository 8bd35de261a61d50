/- Parts of the proof: TrD, TrF. Conditions: each theorem's own. -/
import Derived.Test.YtkbpdoomhfkngaaGreatR18
import Derived.Test.YtkbpdoomhfkngaaGreatR25
namespace Go.Proofs.YtkbpdoomhfkngaaGreat
set_option linter.unusedVariables false
set_option linter.unusedSimpArgs false
set_option maxRecDepth 100000
set_option maxHeartbeats 40000000
section
open Go.RowKit Go.Sort Go.BigFrame
structure Rm where
 E:Option Addr
 ec:Nat
 N:Option Addr
 nc:Nat
 A1:Option Addr
 c1:Nat
 A2:Option Addr
 c2:Nat
 A3:Option Addr
 c3:Nat
 A4:Option Addr
 c4:Nat
def rvA(p:Pg) (x:Nd) (r:Rm):Array Value:=#[.slice r.E p.es.length r.ec,.slice r.N p.ns.length r.nc,.string x.nm,.slice r.A1 x.ins.length r.c1,.slice r.A2 x.outs.length r.c2,.slice r.A3 x.vars.length r.c3,.slice r.A4 x.eqs.length r.c4]
def rdRm(w:World) (p:Pg) (x:Nd) (r:Rm):Prop:=rdP w p r.E r.N∧rdN w x r.A1 r.A2 r.A3 r.A4
theorem rdRm.below{w w':World}{p:Pg}{x:Nd}{r:Rm}(h:rdRm w p x r) (hb:Below w.heap.size w w'):rdRm w' p x r:=⟨h.1.below hb,h.2.below hb⟩
theorem any_box{w w1:World}{cs:Array Value}{T:TypeId}(h:w.alloc (.cells cs T)=w1):Below w.heap.size w w1∧w1.heap.size=w.heap.size+1∧∀ w',Below w1.heap.size w1 w'→∀ j,w'.cell? ⟨w.heap.size,j,none⟩=cs[j]?:=by
 subst h;refine⟨(Below.refl _ _).alloc (Nat.le_refl _) _,by simp,row_later (T:=T) (heap_alloc_new _ _)⟩
theorem any_box2{w w1:World}{cs ds:Array Value}{T U:TypeId}(h:(w.alloc (.cells cs T)).alloc (.cells ds U)=w1):Below w.heap.size w w1∧w1.heap.size=w.heap.size+2∧(∀ w',Below w1.heap.size w1 w'→∀ j,w'.cell? ⟨w.heap.size,j,none⟩=cs[j]?)∧(∀ w',Below w1.heap.size w1 w'→∀ j,w'.cell? ⟨w.heap.size+1,j,none⟩=ds[j]?):=by
 subst h;refine⟨((Below.refl _ _).alloc (Nat.le_refl _) _).alloc (by simp) _,by simp,row_later (T:=T) (heap_up _ (heap_alloc_new _ _)),row_later (T:=U) (heap_alloc2_new _ _ _)⟩
theorem any_boxZ{w w1:World}{cs:Array Value}{T U:TypeId}(h:(w.alloc (.cells cs T)).alloc (.cells #[.int .i64 0,.int .i64 0,.int .i64 0] U)=w1):Below w.heap.size w w1∧w1.heap.size=w.heap.size+2∧(∀ w',Below w1.heap.size w1 w'→∀ j,w'.cell? ⟨w.heap.size,j,none⟩=cs[j]?)∧F3 U w1 (w.heap.size+1) 0 0 0:=by
 have h2:=any_box2 h;subst h;exact⟨h2.1,h2.2.1,h2.2.2.1,heap_alloc2_new _ _ _⟩
theorem any_box2Z{w w1:World}{cs ds:Array Value}{T U V:TypeId}(h:((w.alloc (.cells cs T)).alloc (.cells ds U)).alloc (.cells #[.int .i64 0,.int .i64 0,.int .i64 0] V)=w1):Below w.heap.size w w1∧w1.heap.size=w.heap.size+3∧(∀ w',Below w1.heap.size w1 w'→∀ j,w'.cell? ⟨w.heap.size,j,none⟩=cs[j]?)∧(∀ w',Below w1.heap.size w1 w'→∀ j,w'.cell? ⟨w.heap.size+1,j,none⟩=ds[j]?)∧F3 V w1 (w.heap.size+1+1) 0 0 0:=by
 generalize hw0:(w.alloc (.cells cs T)).alloc (.cells ds U)=w0 at h;obtain⟨h1,h2,h3,h4⟩:=any_box2 hw0;subst h;have hb:=(Below.refl w0.heap.size w0).alloc (Nat.le_refl _) (.cells #[.int .i64 0,.int .i64 0,.int .i64 0] V);refine⟨h1.trans (hb.mono h1.size),by simp;omega,fun w' hb' j=>h3 w' (hb.trans (hb'.mono hb.size)) j,fun w' hb' j=>h4 w' (hb.trans (hb'.mono hb.size)) j,?_⟩;have h0:=F3.new V w0 0 0 0;rwa [show w0.heap.size=w.heap.size+1+1 by omega] at h0
theorem below_next2{w w1 w2:World}(h:Below w.heap.size w w1) (hb:Below w1.heap.size w1 w2):Below w.heap.size w w2:=h.trans (hb.mono h.size)
theorem trVariable(p:Pg) (x:Nd) (r:Rm) (s:ByteArray) (w:World) (h:rdRm w p x r):
 Calls Tryz.prog 79 #[.agg (rvA p x r),.string s] w (TyZ w ((declO x s).map tyD)):=by
 have HDC:=Hd fun w1 (hb:Below w.heap.size w w1)=>pgDecl x r.A1 r.c1 r.A2 r.c2 r.A3 r.c3 r.A4 r.c4 s w1 (h.below hb).2;unfold DeclPost declV at HDC
 have HZ:=Hd (show ∀ e w',(e=.returned (.tuple #[.agg (f3A ((declO x s).getD default).k ((declO x s).getD default).e ((declO x s).getD default).l),.bool (declO x s).isSome])∧Below w.heap.size w w')→TyZ w ((declO x s).map tyD) e w' from fun e w' h=>by
  cases hd:declO x s with
  | none=>rw [hd] at h;exact h
  | some d=>rw [hd] at h;exact h)
 generalize TyZ w ((declO x s).map tyD)=post at *;generalize (declO x s).getD default=dd at *;generalize (declO x s).isSome=ds at *;unfold dcA ndA at HDC;unfold f3A at HZ;clear h;unfold rvA
 go_enter Tryz.func79,Tryz.ntmps79
 go_upto_region 1 with(fail)
 generalize hw0:(w.alloc _).alloc _=w0;obtain⟨hb0,hsz,hce,hR⟩:=any_boxZ hw0;have HB0:=Hd hb0;have HR:=Hd hR;obtain⟨-,-,q2,q3,q4,q5⟩:=Sx (hce w0 (Below.refl _ _));have q6:=hce w0 (Below.refl _ _) 6;simp only [Ya,Yb,Yc] at q2 q3 q4 q5 q6;clear hw0 hb0 hsz hce hR
 go_wp2_with fail
 refine(HDC.out w0 HB0.out).mono ?_;rintro e w1 ⟨rfl,hb1⟩;have HR1:=Hd (HR.out.below hb1);have HB1:=Hd (below_next2 HB0.out hb1);clear hb1 q2 q3 q4 q5 q6 HDC
 go_upto_region 2 with(fail)
 generalize hw2:w1.alloc _=w2;obtain⟨hb2,hg2,hce⟩:=any_box hw2;have HR2:=Hd (HR1.out.below hb2);have HB2:=Hd (below_next2 HB1.out hb2);obtain⟨-,e1,e2,e3,-,-⟩:=Sx (hce w2 (Below.refl _ _));simp only [Ya,Yb,Yc] at e1 e2 e3;clear hw2 hb2 hg2 hce HR1
 go_wp2_with (refine wpList_store_row rfl _ _ _ rfl (w.heap.size+1) _ rfl rfl _ _ HR2.out ty3_info rfl (by simp [Value.oneCell']) ?_)
 exact bodyPost_ret (res_ty2 (p:=4) (u:=5) rfl _ _ (w.heap.size+1) dd.k dd.e dd.l rfl (HR2.out.set _ _ _)) rfl (HZ.out _ _ ⟨rfl,below_setRow HB2.out (by omega) _⟩)
theorem trHas(p:Pg) (x:Nd) (r:Rm) (s:ByteArray) (a b c:Int) (w:World) (h:rdRm w p x r):
 Calls Tryz.prog 49 #[.agg (rvA p x r),.string s,.agg (f3A a b c)] w fun e w'=>e=.returned (.bool (hasB x s (a,b,c)))∧Below w.heap.size w w':=by
 have HVR:=Hd fun w1 (hb:Below w.heap.size w w1)=>trVariable p x r s w1 (h.below hb);have HB:=Hd (show hasB x s (a,b,c)=match (declO x s).map tyD with | none=>false | some t=>decide (t=(a,b,c)) from by unfold hasB;cases declO x s <;> rfl);clear h;generalize hasB x s (a,b,c)=out at *;generalize (declO x s).map tyD=o at *;unfold TyZ f3A at HVR;unfold rvA f3A at *
 cases o with
 | none=>
  have HO:=Hd (show out=false from HB.out);simp only [Option.getD_none,Option.isSome_none] at HVR
  go_enter Tryz.func49,Tryz.ntmps49
  go_upto_region 1 with(fail)
  generalize hw0:(w.alloc _).alloc _=w0;obtain⟨hb0,hsz,hce,hce2⟩:=any_box2 hw0;have HB0:=Hd hb0;have HC:=Hd hce;have HC2:=Hd hce2;obtain⟨q0,q1,q2,q3,q4,q5⟩:=Sx (hce w0 (Below.refl _ _));have q6:=hce w0 (Below.refl _ _) 6;simp only [Ya,Yb,Yc] at q0 q1 q2 q3 q4 q5 q6;clear hw0 hb0 hsz hce hce2
  go_wp2_with fail
  refine(HVR.out w0 HB0.out).mono ?_;rintro e w1 ⟨rfl,hb1⟩;have HB1:=Hd (below_next2 HB0.out hb1);clear hb1 q0 q1 q2 q3 q4 q5 q6 HVR
  go_upto_region 2 with(fail)
  generalize hw2:w1.alloc _=w2;obtain⟨hb2,hg2,hce⟩:=any_box hw2;have HB2:=Hd (below_next2 HB1.out hb2);clear hw2 hb2 hg2 hce
  go_wp2_with fail
  go_ret
  exact⟨ret_bool HO.out.symm,HB2.out⟩
 | some t=>
  obtain⟨t0,t1,t2⟩:=t;simp only [Option.getD_some,Option.isSome_some] at HVR;rcases t3_cases t0 t1 t2 a b c with⟨h0,h1,h2,he⟩|⟨h1,he⟩|⟨h0,h1,he⟩|⟨h0,h1,h2,he⟩
  all_goals
   have HO:=Hd (show out=_ from HB.out.trans (by first | exact decide_eq_true he | exact decide_eq_false he));clear he
   try subst h0
   try subst h1
   try subst h2
   go_enter Tryz.func49,Tryz.ntmps49
   go_upto_region 1 with(fail)
   generalize hw0:(w.alloc _).alloc _=w0;obtain⟨hb0,hsz,hce,hce2⟩:=any_box2 hw0;have HB0:=Hd hb0;have HC:=Hd hce;have HC2:=Hd hce2;obtain⟨q0,q1,q2,q3,q4,q5⟩:=Sx (hce w0 (Below.refl _ _));have q6:=hce w0 (Below.refl _ _) 6;simp only [Ya,Yb,Yc] at q0 q1 q2 q3 q4 q5 q6;clear hw0 hb0 hsz hce hce2
   go_wp2_with fail
   refine(HVR.out w0 HB0.out).mono ?_;rintro e w1 ⟨rfl,hb1⟩;have HB1:=Hd (below_next2 HB0.out hb1);have HC3:=Hd fun w' (hb:Below w1.heap.size w1 w') j=>HC2.out w' (below_next2 hb1 hb) j;clear hb1 q0 q1 q2 q3 q4 q5 q6 HVR
   go_upto_region 2 with(fail)
   generalize hw2:w1.alloc _=w2;obtain⟨hb2,hg2,hce⟩:=any_box hw2;have HB2:=Hd (below_next2 HB1.out hb2);obtain⟨e0,e1,e2,-,-,-⟩:=Sx (hce w2 (Below.refl _ _));obtain⟨f0,f1,f2,-,-,-⟩:=Sx (HC3.out w2 hb2);simp only [Ya,Yb,Yc] at e0 e1 e2 f0 f1 f2;clear hw2 hb2 hg2 hce
   go_wp2_with fail
   go_ret
   exact⟨ret_bool HO.out.symm,HB2.out⟩
end
section
open Go.RowKit Go.Sort Go.BigFrame
theorem takes_no{es:List En}{n:Nd}{s:ByteArray}{arms:List ByteArray}{k:Nat}(hk:k<arms.length) (h:takeB es n s (arms[k]?.getD ByteArray.empty)=false):takesB es n s arms=false:=by
 unfold takesB;rw [List.all_eq_false];exact⟨_,List.getElem_mem hk,by rw [List.getElem?_eq_getElem hk] at h;simpa using h⟩
theorem takes_yes{es:List En}{n:Nd}{s:ByteArray}{arms:List ByteArray}(h:∀ j,j<arms.length→takeB es n s (arms[j]?.getD ByteArray.empty)=true):takesB es n s arms=true:=by
 unfold takesB;rw [List.all_eq_true];intro a ha;obtain⟨j,hj,rfl⟩:=List.getElem_of_mem ha;have:=h j hj;rwa [List.getElem?_eq_getElem hj] at this
theorem trTakes(p:Pg) (x:Nd) (r:Rm) (s:ByteArray) (A:Option Addr) (n c:Nat) (arms:List ByteArray) (w:World) (h:rdRm w p x r) (hA:RdT w A n arms):
 Calls Tryz.prog 46 #[.agg (rvA p x r),.string s,.slice A n c] w fun e w'=>e=.returned (.bool (takesB p.es x s arms))∧Below w.heap.size w w':=by
 have hln:=hA.len;have hmx:=hA.max;have HAR:=Hd fun(a:ByteArray) w1 (hb:Below w.heap.size w w1)=>scArm r.E p.es.length r.ec p.es a w1 (h.below hb).1.1;have HHS:=Hd fun a b c w1 (hb:Below w.heap.size w w1)=>trHas p x r s a b c w1 (h.below hb);have HNO:=Hd fun k (hk:k<n) hf=>takes_no (es:=p.es) (n:=x) (s:=s) (arms:=arms) (k:=k) (by omega) hf;have HYS:=Hd fun hf=>takes_yes (es:=p.es) (n:=x) (s:=s) (arms:=arms) hf;have HTB:=Hd (show ∀ a,takeB p.es x s a=match armR p.es a with | none=>false | some q=>hasB x s (q.1,q.2.1,0) from fun a=>rfl);have HRA:=Hd hA;clear h hA;unfold armW at HAR;generalize takesB p.es x s arms=out at *;unfold rvA f3A at *
 go_enter Tryz.func46,Tryz.ntmps46
 go_upto_region 1 with(fail)
 generalize hw0:w.alloc _=w0;obtain⟨hb0,hsz,hce⟩:=any_box hw0;have HB0:=Hd hb0;have HC:=Hd hce;clear hw0 hb0 hsz hce
 go_wp2_with fail
 go_loopw [14] (fun i wr=>∃ k:Nat,k≤n∧i=.int .i64 k∧(∀ j,j<k→takeB p.es x s (arms[j]?.getD ByteArray.empty)=true)∧Below w0.heap.size w0 wr) (fun i _=>n-(intOf i).toNat)
 case atStart=>exact⟨0,Nat.zero_le _,rfl,fun j hj=>absurd hj (by omega),Below.refl _ _⟩
 case round=>
  obtain⟨k,hk,rfl,hto,hbr⟩:=hrel;have HTO:=Hd hto;have HBR:=Hd hbr;have HBW:=Hd (below_next2 HB0.out hbr);clear hto hbr
  by_cases hlt:k<n
  · obtain⟨b,off,rfl,hb,hc⟩:=(HRA.out.below HBW.out).at_ hlt;have d0:=hc k hlt;have HN:=Hd (HNO.out k hlt);have HT2:=Hd fun e=>to_next (P:=fun j=>takeB p.es x s (arms[j]?.getD ByteArray.empty)=true) HTO.out e;have q0:=HC.out wr HBR.out 0;simp only [Ya,Yb,Yc] at q0;clear hc;generalize arms[k]?.getD ByteArray.empty=a at d0 HN HT2;have HTA:=Hd (HTB.out a);have HA1:=Hd (HAR.out a wr HBW.out);generalize armR p.es a=o at HTA HA1
    cases o with
    | none=>
     have HO:=Hd (HN.out HTA.out);simp only [Option.map_none,Option.getD_none,Option.isSome_none] at HA1
     go_wp2_with fail
     refine HA1.out.mono ?_;rintro e w1 ⟨rfl,hb1⟩;have HB1:=Hd (below_next2 HBW.out hb1);clear hb1 HA1 d0 q0
     go_upto_region 5 with(fail)
     generalize hw2:w1.alloc _=w2;obtain⟨hb2,hg2,hce⟩:=any_box hw2;have HB2:=Hd (below_next2 HB1.out hb2);clear hw2 hb2 hg2 hce
     go_wp2_with fail
     go_ret
     exact⟨ret_bool HO.out.symm,HB2.out⟩
    | some q=>
     obtain⟨qa,qb,qc⟩:=q;simp only [Option.map_some,Option.getD_some,Option.isSome_some] at HA1;have HTA:=Hd (show takeB p.es x s a=hasB x s (qa,qb,0) from HTA.out);have HH1:=Hd fun w1 hb=>HHS.out qa qb 0 w1 hb;generalize hasB x s (qa,qb,0)=hb at *
     go_wp2_with fail
     refine HA1.out.mono ?_;rintro e w1 ⟨rfl,hb1⟩;have HB1:=Hd (below_next2 HBW.out hb1);have HL1:=Hd (below_next2 HBR.out hb1);clear hb1 HA1 d0 q0
     go_upto_region 5 with(fail)
     generalize hw2:w1.alloc _=w2;obtain⟨hb2,hg2,hce⟩:=any_box hw2;have HB2:=Hd (below_next2 HB1.out hb2);have HL2:=Hd (below_next2 HL1.out hb2);obtain⟨e0,e1,e2,-,-,-⟩:=Sx (hce w2 (Below.refl _ _));obtain⟨q0,q1,q2,q3,q4,q5⟩:=Sx (HC.out w2 HL2.out);have q6:=HC.out w2 HL2.out 6;simp only [Ya,Yb,Yc] at e0 e1 e2 q0 q1 q2 q3 q4 q5 q6;clear hw2 hb2 hg2 hce
     cases hb with
     | false=>
      have HO:=Hd (HN.out HTA.out)
      go_wp2_with fail
      refine(HH1.out w2 HB2.out).mono ?_;rintro e w3 ⟨rfl,hb3⟩;have HB3:=Hd (below_next2 HB2.out hb3);clear hb3
      go_wp2_with fail
      go_ret
      exact⟨ret_bool HO.out.symm,HB3.out⟩
     | true=>
      have HO:=Hd (HT2.out HTA.out)
      go_wp2_with fail
      refine(HH1.out w2 HB2.out).mono ?_;rintro e w3 ⟨rfl,hb3⟩;have HB3:=Hd (below_next2 HL2.out hb3);clear hb3
      go_wp2_with fail
      go_roundw
      case rel=>exact⟨k+1,by omega,by go_num,HO.out,HB3.out⟩
      case measure=>simp [intOf];omega
  · have HY:=Hd (HYS.out fun j hj=>HTO.out j (by omega))
    go_wp2_with fail
    go_ret
    exact⟨ret_bool HY.out.symm,HBW.out⟩
theorem RdT.lit2(w:World) (a b:ByteArray) (T:TypeId):RdT (w.alloc (.cells #[.string a,.string b] T)) (some ⟨w.heap.size,0,none⟩) 2 [a,b]:=
 ⟨rfl,by omega,fun _=>⟨_,0,rfl,by simp,fun i hi=>by
  rw [World.cell?_alloc_new];rcases(show i=0∨i=1 by omega) with rfl | rfl <;> rfl⟩⟩
theorem RdT.lit1(w:World) (a:ByteArray) (T:TypeId):RdT (w.alloc (.cells #[.string a] T)) (some ⟨w.heap.size,0,none⟩) 1 [a]:=
 ⟨rfl,by omega,fun _=>⟨_,0,rfl,by simp,fun i hi=>by
  rw [World.cell?_alloc_new];obtain rfl:i=0:=by omega
  rfl⟩⟩
theorem takes_in{es:List En}{n:Nd}{s:ByteArray}{arms:List ByteArray}(h:takesB es n s arms=true) (h1:0<arms.length) (hrt:∀ d,declO n s=some d→rightB es.length d.k d.e d.l=true):
 ∃ d,declO n s=some d∧(d.k=2∨(d.k=3∧∃ m:Nat,d.e=m∧m<es.length)):=by
 obtain⟨a,l,rfl⟩:=List.exists_cons_of_length_pos h1;unfold takesB at h;rw [List.all_cons,Bool.and_eq_true] at h;have h:=h.1
 cases hd:declO n s with
 | none=>
  unfold takeB hasB at h;rw [hd] at h
  split at h <;> cases h
 | some d=>
  refine⟨d,rfl,?_⟩;have hr:=hrt d hd;rcases take_ty hd h with h | h
  · exact .inl (congrArg (·.1) h)
  · have hk:d.k=3:=h.1;refine .inr ⟨hk,?_⟩;unfold rightB at hr;rw [hk] at hr;simp only [Bool.and_eq_true,decide_eq_true_eq] at hr;have h2:=hr.2;rw [if_neg (by omega)] at h2;have h2:=of_decide_eq_true h2;exact⟨d.e.toNat,by omega,by omega⟩
theorem trMerges(p:Pg) (x:Nd) (r:Rm) (s:ByteArray) (A:Option Addr) (n c:Nat) (arms:List ByteArray) (w:World) (h:rdRm w p x r) (hA:RdT w A n arms) (hn:0<n) (hrt:∀ d,declO x s=some d→rightB p.es.length d.k d.e d.l=true):
 Calls Tryz.prog 146 #[.agg (rvA p x r),.string s,.slice A n c] w fun e w'=>e=.returned (.bool (mergesB p.es x s arms))∧Below w.heap.size w w':=by
 have hln:=hA.len;have HTK:=Hd fun w1 (hb:Below w.heap.size w w1)=>trTakes p x r s A n c arms w1 (h.below hb) (hA.below hb);have HVR:=Hd fun w1 (hb:Below w.heap.size w w1)=>trVariable p x r s w1 (h.below hb);have HEQ:=Hd fun(B:Option Addr) (m d:Nat) (tt:List ByteArray) w1 (hb:Below w.heap.size w w1) (ht:RdT w1 B m tt)=>slEqual A B n m c d arms tt w1 (hA.below hb) ht;have HES:=Hd h.1.1;have HIN:=Hd fun ht=>takes_in (es:=p.es) (n:=x) (s:=s) (arms:=arms) ht (by omega) hrt;have HMB:=Hd (show mergesB p.es x s arms=(takesB p.es x s arms && (if((dcTy (declO x s)).1==2)=true then sameT arms [trueA,falseA] else sameT arms (csE p.es (dcTy (declO x s)).2.1.toNat))) from rfl);clear h hA hrt;generalize mergesB p.es x s arms=out at *;generalize takesB p.es x s arms=tb at *;unfold TyZ f3A at HVR;unfold rvA at *
 go_enter Tryz.func146,Tryz.ntmps146
 go_upto_region 1 with(fail)
 generalize hw0:w.alloc _=w0;obtain⟨hb0,hsz,hce⟩:=any_box hw0;have HB0:=Hd hb0;have HC:=Hd hce;obtain⟨q0,q1,q2,q3,q4,q5⟩:=Sx (hce w0 (Below.refl _ _));have q6:=hce w0 (Below.refl _ _) 6;simp only [Ya,Yb,Yc] at q0 q1 q2 q3 q4 q5 q6;have HT1:=Hd (HTK.out w0 hb0);clear hw0 hb0 hsz hce HTK
 cases tb with
 | false=>
  have HO:=Hd (show out=false by rw [HMB.out];rfl)
  go_wp2_with fail
  refine HT1.out.mono ?_;rintro e w1 ⟨rfl,hb1⟩;have HB1:=Hd (below_next2 HB0.out hb1);clear hb1
  go_wp2_with fail
  go_ret
  exact⟨ret_bool HO.out.symm,HB1.out⟩
 | true=>
  obtain⟨d,hd,hkd⟩:=HIN.out rfl;rw [hd] at HVR HMB;simp only [Option.map_some,Option.getD_some,Option.isSome_some,tyD] at HVR;have HMB:=Hd (show out=(if(d.k==2)=true then sameT arms [trueA,falseA] else sameT arms (csE p.es d.e.toNat)) by rw [HMB.out,Bool.true_and];rfl);have HDK:=Hd hkd;clear hd HIN hkd;generalize d.k=dk at *;generalize d.e=de at *;generalize d.l=dl at *
  go_wp2_with fail
  refine HT1.out.mono ?_;rintro e w1 ⟨rfl,hb1⟩;have HB1:=Hd (below_next2 HB0.out hb1);have HL1:=Hd hb1;obtain⟨q0,q1,q2,q3,q4,q5⟩:=Sx (HC.out w1 hb1);have q6:=HC.out w1 hb1 6;simp only [Ya,Yb,Yc] at q0 q1 q2 q3 q4 q5 q6;clear hb1 HT1
  go_wp2_with fail
  refine(HVR.out w1 HB1.out).mono ?_;rintro e w2 ⟨rfl,hb2⟩;have HB2:=Hd (below_next2 HB1.out hb2);have HL2:=Hd (below_next2 HL1.out hb2);clear hb2 q0 q1 q2 q3 q4 q5 q6 HVR
  go_upto_region 4 with(fail)
  generalize hw3:w2.alloc _=w3;obtain⟨hb3,hg3,hce3⟩:=any_box hw3;have HB3:=Hd (below_next2 HB2.out hb3);have HL3:=Hd (below_next2 HL2.out hb3);have e0:=hce3 w3 (Below.refl _ _) 0;have e1:=hce3 w3 (Below.refl _ _) 1;have q0:=HC.out w3 HL3.out 0;simp only [Ya,Yb,Yc] at e0 e1 q0;clear hw3 hb3 hg3 hce3;rcases HDK.out with hk | ⟨hk,m,hm,hml⟩
  · subst hk;have HO:=Hd (show out=sameT arms [trueA,falseA] from HMB.out);have HE1:=Hd (HEQ.out (some ⟨w3.heap.size,0,none⟩) 2 2 [trueA,falseA] _ (HB3.out.alloc HB3.out.size _) (RdT.lit2 w3 trueA falseA 9));unfold trueA falseA at HE1
    go_wp2_with fail
    refine HE1.out.mono ?_;rintro e w4 ⟨rfl,hb4⟩;have HB4:=Hd (below_next2 (HB3.out.alloc HB3.out.size _) hb4);clear hb4
    go_wp2_with fail
    go_ret
    exact⟨ret_bool HO.out.symm,HB4.out⟩
  · subst hk hm;have HO:=Hd (show out=sameT arms (csE p.es m) from HMB.out);obtain⟨b,off,hE,hb,hc⟩:=(HES.out.below HB3.out).at_ hml;obtain⟨-,A',n',c',hs1,hR1⟩:=hc m hml;rw [hE] at q0;have HE1:=Hd (HEQ.out A' n' c' (csE p.es m) w3 HB3.out hR1);clear hc hR1
    go_wp2_with fail
    refine HE1.out.mono ?_;rintro e w4 ⟨rfl,hb4⟩;have HB4:=Hd (below_next2 HB3.out hb4);clear hb4
    go_wp2_with fail
    go_ret
    exact⟨ret_bool HO.out.symm,HB4.out⟩
end
end Go.Proofs.YtkbpdoomhfkngaaGreat
