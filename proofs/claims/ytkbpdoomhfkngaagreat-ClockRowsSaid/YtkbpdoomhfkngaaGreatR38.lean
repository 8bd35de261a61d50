/- Parts of the proof: ClI, ClJ. Conditions: each theorem's own. -/
import Derived.Test.YtkbpdoomhfkngaaGreatR18
namespace Go.Proofs.YtkbpdoomhfkngaaGreat
set_option linter.unusedVariables false
set_option linter.unusedSimpArgs false
set_option maxRecDepth 100000
set_option maxHeartbeats 40000000
section
open Go.RowKit Go.Sort Go.BigFrame
structure Km where
 E:Option Addr
 ec:Nat
 A1:Option Addr
 c1:Nat
 A2:Option Addr
 c2:Nat
 A3:Option Addr
 c3:Nat
 A4:Option Addr
 c4:Nat
def kmA(es:List En) (x:Nd) (r:Km):Array Value:=#[.slice r.E es.length r.ec,.string x.nm,.slice r.A1 x.ins.length r.c1,.slice r.A2 x.outs.length r.c2,.slice r.A3 x.vars.length r.c3,.slice r.A4 x.eqs.length r.c4]
def rdKm(w:World) (es:List En) (x:Nd) (r:Km):Prop:=RdE w r.E es.length es∧rdN w x r.A1 r.A2 r.A3 r.A4
theorem rdKm.below{w w':World}{es:List En}{x:Nd}{r:Km}(h:rdKm w es x r) (hb:Below w.heap.size w w'):rdKm w' es x r:=⟨h.1.below hb,h.2.below hb⟩
def RowC2(w:World) (g:Nat) (d:Cd):Prop:=w.heap[g]?=some (Obj.cells (cdA d) 45)
theorem cdinfo:(Tryz.prog.info? 45).map (·.size)=some 2:=by kernel_rfl
theorem res_cd2{fn:Func}{p u:Tmp}(h:fn.results=#[.cell p 45,.tmp u]) (tmps:Array Value) (w:World) (g:Nat){d:Cd}
 (hp:tmps.getD p undef=.pointer (some ⟨g,0,none⟩)) (hg:RowC2 w g d):(results fn tmps).run Tryz.prog w=.ok (.tuple #[.agg (cdA d),tmps.getD u undef]) w:=by
 rw [results_cell_tmp h,hp];have hl:=run_loadVar_row (P:=Tryz.prog) w g 45 45 _ _ _ hg Tryz.underlying45 rfl cdinfo
 simp [asAddr,Result.andThen,hl]
theorem RowC2.below{w w':World}{g:Nat}{d:Cd}(h:RowC2 w g d) (hb:Below w.heap.size w w'):RowC2 w' g d:=(hb.block g (Array.getElem?_eq_some_iff.1 h).1).trans h
theorem RowC2.set{w:World}{g:Nat}{d:Cd}(h:RowC2 w g d) (d':Cd):RowC2 (w.setRow g (cdA d')) g d':=setRow_heap _ _ _ _ _ _ h
theorem RowC2.cells{w:World}{g:Nat}{d:Cd}(h:RowC2 w g d) (j:Nat):w.cell? ⟨g,j,none⟩=(cdA d)[j]?:=by
 unfold World.cell?;rw [show w.heap[(⟨g,j,none⟩:Addr).block]?=_ from h];rfl
def condV(es:List En) (s t:ByteArray):Value:=.tuple #[.agg (cdA ⟨s,((armR es t).map (·.2.2)).getD 0⟩),.bool (armR es t).isSome]
theorem clCond(es:List En) (x:Nd) (r:Km) (s t:ByteArray) (w:World) (h:RdE w r.E es.length es):
 Calls Tryz.prog 40 #[.agg (kmA es x r),.string s,.string t] w fun e w'=>e=.returned (condV es s t)∧Below w.heap.size w w':=by
 have HF:=Hd fun w0 hw=>cl_box2 (w:=w) (w1:=w0) (cs:=kmA es x r) (ds:=cdA ⟨⟨#[]⟩,0⟩) (T:=57) (U:=45) hw
 have HN:=Hd fun w0 (hw:(w.alloc (.cells (kmA es x r) 57)).alloc (.cells (cdA ⟨⟨#[]⟩,0⟩) 45)=w0)=>(show RowC2 w0 (w.heap.size+1) ⟨⟨#[]⟩,0⟩ by
  subst hw;have:=heap_alloc_new (w.alloc (.cells (kmA es x r) 57)) (.cells (cdA ⟨⟨#[]⟩,0⟩) 45);unfold RowC2;rwa [World.size_alloc] at this)
 have HAR:=Hd fun w1 (hb:Below w.heap.size w w1)=>scArm r.E es.length r.ec es t w1 (h.below hb);clear h;unfold condV;unfold armW f3A at HAR;generalize ((armR es t).map (·.1)).getD 0=oa at *;generalize ((armR es t).map (·.2.1)).getD 0=ob at *;generalize ((armR es t).map (·.2.2)).getD 0=ov at *;generalize (armR es t).isSome=os at *;unfold kmA at *;unfold cdA at HF HN ⊢;generalize es.length=pe at *
 go_enter Tryz.func40,Tryz.ntmps40
 go_upto_region 1 with(fail)
 generalize hw0:(w.alloc _).alloc _=w0;obtain⟨hb0,hsz,hp,-⟩:=HF.out w0 hw0;have HN0:=Hd (HN.out w0 hw0);have HB0:=Hd hb0;have p0:=hp w0 (Below.refl _ _) 0;simp only [Ya,Yb,Yc] at p0;have HA0:=Hd (HAR.out w0 hb0);clear hw0 hb0 hsz hp HF HN HAR
 go_wp2_with fail
 refine HA0.out.mono ?_;rintro e w1 ⟨rfl,hb1⟩;have HB1:=Hd (below_nextC HB0.out hb1);have HN1:=Hd (HN0.out.below hb1);clear hb1 p0 HA0 HN0
 go_upto_region 2 with(fail)
 generalize hw2:w1.alloc _=w2;obtain⟨hb2,hg2,hk2⟩:=cl_box hw2;have HB2:=Hd (below_nextC HB1.out hb2);have HN2:=Hd (HN1.out.below hb2);clear hw2 hb2 hg2 hk2 HN1;have HSET:=Hd (HN2.out.set ⟨s,ov⟩);have HBS:=Hd (below_setRow HB2.out (g:=w.heap.size+1) (by omega) (cdA ⟨s,ov⟩));unfold cdA at HSET HBS
 go_wp2_with (refine wpList_store_row rfl _ _ _ rfl (w.heap.size+1) _ rfl rfl _ _ HN2.out cdinfo rfl (by simp [Value.oneCell']) ?_)
 exact bodyPost_ret (res_cd2 (d:=⟨s,ov⟩) (p:=6) (u:=7) rfl _ _ (w.heap.size+1) rfl HSET.out) rfl ⟨rfl,HBS.out⟩
def RowPostP(w:World) (o:Option (List Cd)) (e:Ending) (w':World):Prop:=
 Below w.heap.size w w'∧match o with
  | none=>e=.returned (.tuple #[.slice none 0 0,.bool false])
  | some l=>∃ A c,e=.returned (.tuple #[.slice A l.length c,.bool true])∧RdC w' A l.length l∧l.length≤c
theorem clRow(es:List En) (x:Nd) (r:Km) (s:ByteArray) (w:World) (h:rdKm w es x r):
 Calls Tryz.prog 24 #[.agg (kmA es x r),.string s] w (RowPostP w (rowC es x s)):=by
 have HF:=Hd fun w0 hw=>cl_box (w:=w) (w1:=w0) (cs:=kmA es x r) (T:=57) hw;have HCL:=Hd fun w1 (hb:Below w.heap.size w w1)=>pgClock x r.A1 r.c1 r.A2 r.c2 r.A3 r.c3 r.A4 r.c4 s w1 (h.2.below hb);have HCO:=Hd fun a t w1 (hb:Below w.heap.size w w1)=>clCond es x r a t w1 (h.1.below hb);have HROW:=Hd (show rowC es x s=(clockO x s).bind (condsR es) from rfl);have H12:=Hd (show ∀ l,clockO x s=some l→l.length≤1000 from fun l hl=>clock_len hl);obtain⟨i0,z0,hi0,hz1,hz0,hz2,hz3⟩:=info_three infoCond;clear h;unfold condV cdA at HCO;unfold ClockPost ndA at HCL;generalize rowC es x s=out at *;generalize clockO x s=oc at *;unfold kmA at *;generalize es.length=pe at *
 go_enter Tryz.func24,Tryz.ntmps24
 go_upto_region 1 with(fail)
 generalize hw0:w.alloc _=w0;obtain⟨hb0,hsz,hp⟩:=HF.out w0 hw0;have HB0:=Hd hb0;have HP:=Hd hp;obtain⟨-,p1,p2,p3,p4,p5⟩:=Sx (hp w0 (Below.refl _ _));simp only [Ya,Yb,Yc] at p1 p2 p3 p4 p5;have HC0:=Hd (HCL.out w0 hb0);clear hw0 hb0 hsz hp HF HCL
 go_wp2_with fail
 refine HC0.out.mono ?_;rintro e w1 ⟨hb1,hpost⟩;have HB1:=Hd (below_nextC HB0.out hb1);have HP1:=Hd fun W (b:Below w1.heap.size w1 W) j=>HP.out W (below_nextC hb1 b) j;clear HC0 p1 p2 p3 p4 p5 hb1 HP
 cases hoc:oc with
 | none=>
  rw [hoc] at hpost;subst hpost;have HO:=Hd (show out=none by rw [HROW.out,hoc];rfl)
  go_wp2_with fail
  refine bodyPost_ret (results_tmp2 rfl _ _ _) rfl ?_;rw [HO.out];exact⟨HB1.out,rfl⟩
 | some l=>
  rw [hoc] at hpost;obtain⟨L,lc,rfl,hrl⟩:=hpost;have HRL:=Hd hrl;have HOO:=Hd (show out=condsR es l by rw [HROW.out,hoc];rfl);have HLN:=Hd (H12.out l hoc);have hlx:=RdS.max hrl;clear hrl hoc;generalize hm:l.length=m at *;have HML:=Hd hm;clear hm;have HOW:=Hd (show w1.ownsRow w1.heap.size 45 2 (.slice none 0 0) 0 (flC []) from World.ownsRow_nil _ _ _ _)
  go_wp2_with fail
  go_loopw [8,24] (fun v i wr=>∃ (k:Nat) (cs:List Cd),k≤m∧i=.int .i64 k∧condsR es (l.take k)=some cs∧wr.ownsRow w1.heap.size 45 2 v k (flC cs)∧Below w1.heap.size w1 wr) (fun _ i _=>m-(intOf i).toNat)
  case atStart=>exact⟨0,[],Nat.zero_le _,rfl,rfl,HOW.out,Below.refl _ _⟩
  case round=>
   obtain⟨k,cs,hk,rfl,hseq,hown,hbr⟩:=hrel;have HSQ:=Hd hseq;have HOWN:=Hd hown;have HBR:=Hd hbr;have HBW:=Hd (below_nextC HB1.out hbr);clear hseq hown HOW
   by_cases hlt:k<m
   · obtain⟨b,off,rfl,hb,e0,e1,e2,e3,e4,e5⟩:=dc_atC (HRL.out.below hbr) hlt;have HNK:=Hd fun hc=>condsR_no (es:=es) (l:=l) (k:=k) (by rw [HML.out];exact hlt) hc;have HSK:=Hd fun c hc=>condsR_take (es:=es) (l:=l) (k:=k) (c:=c) (by rw [HML.out];exact hlt) HSQ.out hc;have HCR:=Hd (show condR es (l[k]?.getD default)=(armR es (l[k]?.getD default).ct).map fun r=>⟨(l[k]?.getD default).on,r.2.2⟩ from rfl);generalize hdd:l[k]?.getD default=d at *;clear hdd;have HCK:=Hd fun w1 (hb:Below w.heap.size w w1)=>HCO.out d.on d.ct w1 hb;obtain⟨dnm,dk,de,dl,don,dct⟩:=d
     dsimp only at e0 e1 e2 e3 e4 e5
     have HCK:=Hd fun w1 (hb:Below w.heap.size w w1)=>HCO.out don dct w1 hb;have HCR:=Hd (show condR es ⟨dnm,dk,de,dl,don,dct⟩=(armR es dct).map fun r=>⟨don,r.2.2⟩ from HCR.out);generalize ho:armR es dct=o at *;generalize hov:(o.map (·.2.2)).getD 0=ov at *;generalize hos:o.isSome=os at *;have HCV:=Hd (show o.map (fun r=>(⟨don,r.2.2⟩:Cd))=if os=true then some ⟨don,ov⟩ else none by subst hos hov;cases o <;> rfl);clear ho hov hos
     go_upto_region 8 with(fail)
     generalize hw4:wr.alloc _=w4;obtain⟨hb4,hg4,hk4⟩:=cl_box hw4;have HB4:=Hd (below_nextC HBW.out hb4);have HL4:=Hd (below_nextC HBR.out hb4);have HOW4:=Hd (own_belowC HOWN.out hb4);have e2:=hk4 w4 (Below.refl _ _) 2;have f4:=hk4 w4 (Below.refl _ _) 4;have f5:=hk4 w4 (Below.refl _ _) 5;obtain⟨p0,p1,p2,p3,p4,p5⟩:=Sx (HP1.out w4 HL4.out);simp only [Ya,Yb,Yc] at f4 f5 p0 p1 p2 p3 p4 p5;have HC4:=Hd (HCK.out w4 HB4.out);clear hw4 hb4 hg4 hk4 e0 e1 e2 e3 e4 e5 hbr
     go_wp2_with fail
     refine HC4.out.mono ?_;rintro e w5 ⟨rfl,hb5⟩;have HL5:=Hd (below_nextC HL4.out hb5);have HOW5:=Hd (own_belowC HOW4.out hb5);clear hb5 HC4 f4 f5 p0 p1 p2 p3 p4 p5
     go_upto_region 9 with(fail)
     generalize hw6:w5.alloc _=w6;obtain⟨hb6,hg6,hk6⟩:=cl_box hw6;have HL6:=Hd (below_nextC HL5.out hb6);have HOW6:=Hd (own_belowC HOW5.out hb6);have g0:=hk6 w6 (Below.refl _ _) 0;have g1:=hk6 w6 (Below.refl _ _) 1;simp only [Ya,Yb,Yc] at g0 g1;clear hw6 hb6 hg6 hk6
     cases os with
     | false=>
      have HO:=Hd (show out=none by rw [HOO.out];exact HNK.out (by rw [HCR.out,HCV.out];rfl))
      go_wp2_with fail
      refine bodyPost_ret (results_tmp2 rfl _ _ _) rfl ?_;rw [HO.out];exact⟨below_nextC HB1.out HL6.out,rfl⟩
     | true=>
      have HSY:=Hd (HSK.out ⟨don,ov⟩ (by rw [HCR.out,HCV.out];rfl));have HLIT:=Hd (cd_lit w6 ⟨don,ov⟩);have HAL:=Hd ((Below.refl w6.heap.size w6).alloc (Nat.le_refl _) (.cells (cdA ⟨don,ov⟩) 45));have HOW7:=Hd (own_belowC HOW6.out HAL.out);have HB7:=Hd (below_nextC HL6.out HAL.out);unfold cdA at HLIT HAL HOW7 HB7;have hkm:k≤1000:=by have:=HLN.out;omega
      go_wp2_with (at_builtin;refine wpList_append_cd rfl _ _ 37 rfl w1.heap.size 45 i0 z0 24 Tryz.underlying37 hi0 hz1 hz0 hz2 hz3 _ k cs rfl HOW7.out _ 1 1 [⟨don,ov⟩] rfl HLIT.out (by unfold maxLen;omega) (by omega) HB7.out.size ?_;intro v' w9 hown' hgrow;have HO9:=Hd hown';have HB9:=Hd (HB7.out.grown hgrow HB7.out.size (fun j hj=>(HOW7.out.lt j hj).1));clear hown' hgrow)
      go_roundw
      case rel=>exact⟨k+1,cs++[⟨don,ov⟩],by omega,by go_num,HSY.out,HO9.out,HB9.out⟩
      case measure=>simp [intOf];omega
   · obtain rfl:k=m:=by omega
     have HO:=Hd (show out=some cs by rw [HOO.out,← HSQ.out,List.take_of_length_le (by rw [HML.out];exact Nat.le_refl _)]);have hcl:=condsR_len HSQ.out;rw [List.length_take,HML.out,Nat.min_self] at hcl;obtain⟨S,c,rfl,hry,hcc⟩:=RdC.of_ownC HOWN.out (by omega);have HRY:=Hd hry;have HCC:=Hd hcc;have HCLN:=Hd hcl;clear hry hcl hcc
     go_wp2_with fail
     refine bodyPost_ret (results_tmp2 rfl _ _ _) rfl ?_;rw [HO.out];exact⟨HBW.out,S,c,by rw [HCLN.out];rfl,by rw [HCLN.out];exact HRY.out,by rw [HCLN.out];exact HCC.out⟩
theorem clHas(es:List En) (x:Nd) (r:Km) (s:ByteArray) (On:Option Addr) (n oc:Nat) (on:List Cd) (w:World) (h:rdKm w es x r) (ho:RdC w On n on):
 Calls Tryz.prog 32 #[.agg (kmA es x r),.string s,.slice On n oc] w fun e w'=>e=.returned (.bool (hasC es x s on))∧Below w.heap.size w w':=by
 have HF:=Hd fun w0 hw=>cl_box (w:=w) (w1:=w0) (cs:=kmA es x r) (T:=57) hw;have HRW:=Hd fun w1 (hb:Below w.heap.size w w1)=>clRow es x r s w1 (h.below hb);have HON:=Hd ho;have HC:=Hd (show hasC es x s on=(match rowC es x s with | none=>false | some r=>sameC r on) from rfl);have hox:=RdS.max ho;clear h ho;unfold RowPostP at HRW;generalize hasC es x s on=out at *;generalize rowC es x s=orow at *;unfold kmA at *;generalize es.length=pe at *
 go_enter Tryz.func32,Tryz.ntmps32
 go_upto_region 1 with(fail)
 generalize hw0:w.alloc _=w0;obtain⟨hb0,hsz,hp⟩:=HF.out w0 hw0;have HB0:=Hd hb0;obtain⟨p0,p1,p2,p3,p4,p5⟩:=Sx (hp w0 (Below.refl _ _));simp only [Ya,Yb,Yc] at p0 p1 p2 p3 p4 p5;have HR0:=Hd (HRW.out w0 hb0);clear hw0 hb0 hsz hp HF HRW
 go_wp2_with fail
 refine HR0.out.mono ?_;rintro e w1 ⟨hb1,hpost⟩;have HB1:=Hd (below_nextC HB0.out hb1);clear HR0 p0 p1 p2 p3 p4 p5 hb1
 cases hor:orow with
 | none=>
  rw [hor] at hpost HC;subst hpost;have HO:=Hd (show out=false from HC.out)
  go_wp2_with fail
  go_ret
  exact⟨ret_boolC HO.out.symm,HB1.out⟩
 | some row=>
  rw [hor] at hpost HC;obtain⟨R,rc,rfl,hrr,-⟩:=hpost;have HSM:=Hd (slEqualC R row.length rc row On n oc on w1 hrr (HON.out.below HB1.out));have HO:=Hd (show out=sameC row on from HC.out);clear HC hrr hor;generalize sameC row on=sm at *;generalize row.length=m at *
  go_wp2_with fail
  refine HSM.out.mono ?_;rintro e w2 ⟨rfl,hb2⟩;have HB2:=Hd (below_nextC HB1.out hb2);clear hb2 HSM
  go_wp2_with fail
  go_ret
  exact⟨ret_boolC HO.out.symm,HB2.out⟩
end
section
open Go.RowKit Go.Sort Go.BigFrame
theorem whenC_at{es:List En}{nd:Nd}{y:Ex}{fs:List Ft}{on:List Cd}{k:Nat}(hn:on.length=k+1) (ha:y.arms.length=1) (hs:y.subs.length=1):whenC es nd y fs on=match armR es (y.arms[0]?.getD ByteArray.empty) with
 | none=>false
 | some r=>eqC (on[k]?.getD default) ⟨y.s,r.2.2⟩ && (hasC es nd y.s (on.take k) && fitAt fs 0 (on.take k)):=by
 have hon:on=on.take k++[on[k]?.getD default]:=by
  have h1:=List.take_succ_eq_append_getElem (l:=on) (i:=k) (by omega);rw [List.take_of_length_le (by omega)] at h1;rw [List.getElem?_eq_getElem (by omega)];exact h1
 unfold whenC;rw [decide_eq_true ha,decide_eq_true hs];generalize on.take k=ah at *;generalize on[k]?.getD default=l at *;subst hon
 cases hr:rowC es nd y.s with
 | none=>
  have h0:hasC es nd y.s ah=false:=by unfold hasC;rw [hr]
  cases armR es (y.arms[0]?.getD ByteArray.empty) with
  | none=>rfl
  | some r=>simp only [h0,Bool.false_and,Bool.and_false]
 | some row=>
  cases armR es (y.arms[0]?.getD ByteArray.empty) with
  | none=>rfl
  | some r=>
   simp only [Bool.and_true,Bool.true_and]
   by_cases h1:ah=row
   · subst h1;have h0:hasC es nd y.s ah=true:=hasC_eq.2 hr;rw [h0,Bool.true_and]
     congr 1
     by_cases h2:l=⟨y.s,r.2.2⟩
     · rw [h2,sameC_refl,eqC_refl]
     · rw [sameC_no (show ¬ (ah++[l]=ah++[(⟨y.s,r.2.2⟩:Cd)]) from fun e=>h2 (by simpa using List.append_cancel_left e))]
       cases h3:eqC l ⟨y.s,r.2.2⟩ with
       | false=>rfl
       | true=>exact absurd (eqC_eq.1 h3) h2
   · have h0:hasC es nd y.s ah=false:=by
      cases h:hasC es nd y.s ah with
      | false=>rfl
      | true=>
       rw [hasC_eq,hr] at h;exact absurd (Option.some.inj h).symm h1
     rw [h0,Bool.false_and,Bool.and_false,sameC_no (show ¬ (ah++[l]=row++[(⟨y.s,r.2.2⟩:Cd)]) from fun e=>h1 (List.append_inj_left' e rfl)),Bool.false_and]
theorem whenC_no{es:List En}{nd:Nd}{y:Ex}{fs:List Ft}{on:List Cd}(h:on.length=0∨¬ y.arms.length=1∨¬ y.subs.length=1):whenC es nd y fs on=false:=by
 unfold whenC
 cases rowC es nd y.s with
 | none=>rfl
 | some row=>
  cases armR es (y.arms[0]?.getD ByteArray.empty) with
  | none=>rfl
  | some r=>
   simp only;rcases h with h | h | h
   · have:on=[]:=List.eq_nil_of_length_eq_zero h;subst this;rw [sameC_no (by simp),Bool.false_and,Bool.and_false]
   · rw [decide_eq_false h,Bool.false_and,Bool.false_and]
   · rw [decide_eq_false h,Bool.and_false,Bool.false_and]
theorem clSampled(es:List En) (x:Nd) (r:Km) (y:Ex) (A:Option Addr) (ca:Nat) (B:Option Addr) (cb:Nat) (On:Option Addr) (n oc:Nat) (on:List Cd) (w:World) (h:rdKm w es x r) (hx:rdX w y A B) (ho:RdC w On n on) (hoc:n≤oc) (fs:List Ft)
 (hsub:0<y.subs.length→∀ A' ca' B' cb' w1,Below w.heap.size w w1→rdX w1 (subX y 0) A' B' →
  Calls Tryz.prog 31 #[.agg (kmA es x r),.agg (exA (subX y 0) A' ca' B' cb'),.slice On (n-1) (n-1)] w1 fun e w'=>e=.returned (.bool (fitAt fs 0 (on.take (n-1))))∧Below w1.heap.size w1 w'):
 Calls Tryz.prog 50 #[.agg (kmA es x r),.agg (exA y A ca B cb),.slice On n oc] w fun e w'=>e=.returned (.bool (whenC es x y fs on))∧Below w.heap.size w w':=by
 have HF:=Hd fun w0 hw=>cl_box2 (w:=w) (w1:=w0) (cs:=kmA es x r) (ds:=exA y A ca B cb) (T:=57) (U:=52) hw;have HCO:=Hd fun a t w1 (hb:Below w.heap.size w w1)=>clCond es x r a t w1 (h.1.below hb);have HHA:=Hd fun w1 (hb:Below w.heap.size w w1) (hn:0<n)=>clHas es x r y.s On (n-1) (n-1) (on.take (n-1)) w1 (h.below hb) ((ho.below hb).take (by omega));have HON:=Hd ho;have HOL:=Hd (RdS.len ho);have HSB:=Hd fun k (hkk:k<y.subs.length)=>hx.sub hkk;have HSUB:=Hd hsub;have HAL:=Hd fun(h:y.arms.length=1)=>RdT.cellC (k:=0) hx.arms (by omega);have HAT:=Hd fun k hn ha hs=>whenC_at (es:=es) (nd:=x) (y:=y) (fs:=fs) (on:=on) (k:=k) hn ha hs;have HWN:=Hd fun h=>whenC_no (es:=es) (nd:=x) (y:=y) (fs:=fs) (on:=on) h;have hox:=RdS.max ho;have HOC:=Hd hoc;clear h hx ho hsub;unfold condV cdA at HCO;generalize whenC es x y fs on=out at *;unfold kmA exA at *;generalize es.length=pe at *;generalize hsl:y.subs.length=sl at *;generalize hal:y.arms.length=al at *;generalize y.s=ys at *
 go_enter Tryz.func50,Tryz.ntmps50
 go_upto_region 1 with(fail)
 generalize hw0:(w.alloc _).alloc _=w0;obtain⟨hb0,hsz,hp,hq⟩:=HF.out w0 hw0;have HB0:=Hd hb0;have HP:=Hd hp;have HX:=Hd hq;have q4:=hq w0 (Below.refl _ _) 4;have q5:=hq w0 (Below.refl _ _) 5;simp only [Ya,Yb,Yc] at q4 q5;clear hw0 hb0 hsz hp hq HF
 by_cases hn0:n=0
 · have na:((n:Int)==0)=true:=by rw [hn0];rfl
   have HO:=Hd (show out=false from HWN.out (.inl (by rw [HOL.out];exact hn0)));clear hn0
   go_wp2_with fail
   go_ret
   exact⟨ret_boolC HO.out.symm,HB0.out⟩
 have na:((n:Int)==0)=false:=by rw [beq_eq_false_iff_ne];omega
 by_cases ha1:al=1
 · by_cases hs1:sl=1
   · have nb:((al:Int) != 1)=false:=by rw [ha1];rfl
     have ns:((sl:Int) != 1)=false:=by rw [hs1];rfl
     obtain⟨k,rfl⟩:∃ k,n=k+1:=⟨n-1,by omega⟩;obtain⟨tb,tof,rfl,htb,t0⟩:=HAL.out ha1;have t0:=(HB0.out.cell (p:=⟨tb,tof,none⟩) htb).trans (by simpa using t0);have HCC:=Hd (HAT.out k HOL.out ha1 hs1);simp only [Nat.add_sub_cancel] at HHA HSUB;have HCK:=Hd fun w1 (hb:Below w.heap.size w w1)=>HCO.out ys (y.arms[0]?.getD ByteArray.empty) w1 hb;generalize y.arms[0]?.getD ByteArray.empty=dct at *;generalize ho:armR es dct=o at *;generalize hov:(o.map (·.2.2)).getD 0=ov at *;generalize hos:o.isSome=os at *;have HCV:=Hd (show out=(os && (eqC (on[k]?.getD default) ⟨ys,ov⟩ && (hasC es x ys (on.take k) && fitAt fs 0 (on.take k)))) by rw [HCC.out];subst hos hov;cases o <;> rfl);clear ho hov hos HCC HAT HWN;have h0a:(0:Int)<(al:Int):=by omega
     have k1:((k:Int)+1-1)=(k:Int):=by omega
     obtain⟨ob,oo,rfl,hob,hoa⟩:=RdS.at_ HON.out (by omega);obtain⟨o0,o1⟩:=(hoa k (by omega)).two;have o0:=(HB0.out.cell (p:=⟨ob,oo+k*2,none⟩) hob).trans o0;have o1:=(HB0.out.cell (p:=⟨ob,oo+k*2+1,none⟩) hob).trans o1;clear hoa;generalize on[k]?.getD default=l at *;obtain⟨l0,l1⟩:=l
     dsimp only at o0 o1
     obtain⟨r0,r1,r2,r3,r4,r5⟩:=Sx (HP.out w0 (Below.refl _ _));have q2:=HX.out w0 (Below.refl _ _) 2;simp only [Ya,Yb,Yc] at r0 r1 r2 r3 r4 r5 q2
     go_upto_region 5 with(fail)
     refine wp_region_mid (l:=[_,_,_,_,_,_,_,_,_,_,_,_,_,_]) 11 12 _ _ (d:=9) (tx:=42) (T:=45) (zc:=#[.string ⟨#[]⟩,.int .i64 0]) (by kernel_rfl) rfl rfl (by kernel_rfl) rfl (by simp) (fun a W=>by rfl) rfl (by kernel_rfl) ?_
     repeat
      first
      | refine fix_skipG rfl ?_
      | (apply fix_stepG rfl rfl (by simp)
         case h1=>
          intro wb hb;have hbb:=cls_below hb;have m0:=fun d os=>cell_regrown ((hbb.cell (World.block_lt_of_cell? _ _ r0)).trans r0) d os;have m1:=fun d os=>cell_regrown ((hbb.cell (World.block_lt_of_cell? _ _ r1)).trans r1) d os;have m2:=fun d os=>cell_regrown ((hbb.cell (World.block_lt_of_cell? _ _ r2)).trans r2) d os;have m3:=fun d os=>cell_regrown ((hbb.cell (World.block_lt_of_cell? _ _ r3)).trans r3) d os;have m4:=fun d os=>cell_regrown ((hbb.cell (World.block_lt_of_cell? _ _ r4)).trans r4) d os;have m5:=fun d os=>cell_regrown ((hbb.cell (World.block_lt_of_cell? _ _ r5)).trans r5) d os;have m6:=fun d os=>cell_regrown ((hbb.cell (World.block_lt_of_cell? _ _ q2)).trans q2) d os;have m7:=fun d os=>cell_regrown ((hbb.cell (World.block_lt_of_cell? _ _ q4)).trans q4) d os;have m8:=fun d os=>cell_regrown ((hbb.cell (World.block_lt_of_cell? _ _ t0)).trans t0) d os;have h3:=below_nextC HB0.out hbb;have cA:=fun d os=>Calls.regrown_of (HCK.out (grow (redrawn wb d) os) (h3.trans ((below_regrown wb d os).mono h3.size)));clear h3 hbb
          go_big_quiet_step (with_reducible exact cA _ _)
          refine wpQuiet_nil ?_;simp only [List.getElem?_toArray,List.getElem?_cons_succ,List.getElem?_cons_zero];exact rfl
         simp only [Act.put,Yd,Ye,Yf])
     refine⟨#[.string ys,.int .i64 ov],rfl,rfl,by simp [Value.oneCell'],fun W g hW hg hz=>?_⟩;have hbX:=cls_below hW;have HBX:=Hd (below_nextC HB0.out hbX);have HBY:=Hd hbX;have HZ:=Hd (show RowC2 W g ⟨ys,ov⟩ from hz);clear hW hg hz r0 r1 r2 r3 r4 r5 q2 q4 q5 t0 hbX
     show Exit.then _ _ .normal _ W
     simp only [Act.put,Yd,Ye,Yf];have o0:=(HBY.out.cell (World.block_lt_of_cell? _ _ o0)).trans o0;have o1:=(HBY.out.cell (World.block_lt_of_cell? _ _ o1)).trans o1;have z0:=HZ.out.cells 0;have z1:=HZ.out.cells 1;simp only [cdA,List.getElem?_toArray,List.getElem?_cons_zero,List.getElem?_cons_succ] at z0 z1;have hk1:(k:Int)<(k:Int)+1:=by omega
     cases os with
     | false=>
      have HO:=Hd (show out=false from HCV.out)
      go_upto_region 6 with(fail)
      go_quiet (fail)
      go_wp2_with fail
      go_ret
      exact⟨ret_boolC HO.out.symm,below_drewN HBX.out _⟩
     | true=>
      by_cases e0:l0=ys
      · by_cases e1:l1=ov
        · have HCV2:=Hd (show out=(hasC es x ys (on.take k) && fitAt fs 0 (on.take k)) by rw [HCV.out,e0,e1,eqC_refl];rfl);subst e0 e1;clear HCV;obtain⟨sb,so,rfl,hsb,hsc⟩:=HSB.out 0 (by omega);obtain⟨A',ca',B',cb',hrg,hrd⟩:=hsc 0 (by omega);obtain⟨s0,s1,s2,s3,s4,s5⟩:=rangeAt_six (rangeAt_keep hrg hsb fun p hp=>HBX.out.cell hp);simp only [Nat.zero_mul,Nat.add_zero] at s0 s1 s2 s3 s4 s5;have HHW:=Hd fun W' (hb:Below W.heap.size W W')=>HHA.out W' (below_nextC HBX.out hb) (by omega);have HFW:=Hd fun W' (hb:Below W.heap.size W W')=>HSUB.out (by omega) A' ca' B' cb' W' (below_nextC HBX.out hb) (hrd.below (below_nextC HBX.out hb));have h0s:(0:Int)<(sl:Int):=by omega
          obtain⟨r0,r1,r2,r3,r4,r5⟩:=Sx (HP.out W HBY.out);have q2:=HX.out W HBY.out 2;have q5:=HX.out W HBY.out 5;simp only [Ya,Yb,Yc] at r0 r1 r2 r3 r4 r5 q2 q5;clear hsc hrg hrd;generalize hasC es x l0 (on.take k)=hb at *;generalize fitAt fs 0 (on.take k)=ft at *;generalize subX y 0=yy at *
          cases hb with
          | false=>
           have HO:=Hd (show out=false from HCV2.out)
           go_upto_region 6 with(fail)
           have l0:=fun d os=>cell_regrown o0 d os;have l1:=fun d os=>cell_regrown o1 d os;have l2:=fun d os=>cell_regrown z0 d os;have l3:=fun d os=>cell_regrown z1 d os;have l4:=fun d os=>cell_regrown r0 d os;have l5:=fun d os=>cell_regrown r1 d os;have l6:=fun d os=>cell_regrown r2 d os;have l7:=fun d os=>cell_regrown r3 d os;have l8:=fun d os=>cell_regrown r4 d os;have l9:=fun d os=>cell_regrown r5 d os;have l10:=fun d os=>cell_regrown q2 d os;have l11:=fun d os=>cell_regrown q5 d os;have l12:=fun d os=>cell_regrown s0 d os;have l13:=fun d os=>cell_regrown s1 d os;have l14:=fun d os=>cell_regrown s2 d os;have l15:=fun d os=>cell_regrown s3 d os;have l16:=fun d os=>cell_regrown s4 d os;have l17:=fun d os=>cell_regrown s5 d os;have HBQ:=Hd fun d os=>below_regrown W d os;have cA0:=fun d os=>Calls.regrown_of (HHW.out (grow (redrawn W d) os) (below_regrown W d os));refine wp_region_quiet_below (by kernel_rfl) (by kernel_rfl) ?_
           repeat (go_big_quiet_step (first | with_reducible exact cA0 _ _))
           refine wpQuiet_nil ?_;intro _ hw';obtain⟨⟨dq,osq⟩,hw''⟩:=hw';subst hw'';have HB1:=Hd (HBQ.out dq osq);clear l0 l1 l2 l3 l4 l5 l6 l7 l8 l9 l10 l11 l12 l13 l14 l15 l16 l17 cA0 o0 o1 z0 z1 r0 r1 r2 r3 r4 r5 q2 q5 s0 s1 s2 s3 s4 s5
           go_wp2_with fail
           go_ret
           exact⟨ret_boolC HO.out.symm,below_nextC HBX.out HB1.out⟩
          | true=>
           have HO:=Hd (show out=ft from HCV2.out)
           go_upto_region 6 with(fail)
           have l0:=fun d os=>cell_regrown o0 d os;have l1:=fun d os=>cell_regrown o1 d os;have l2:=fun d os=>cell_regrown z0 d os;have l3:=fun d os=>cell_regrown z1 d os;have l4:=fun d os=>cell_regrown r0 d os;have l5:=fun d os=>cell_regrown r1 d os;have l6:=fun d os=>cell_regrown r2 d os;have l7:=fun d os=>cell_regrown r3 d os;have l8:=fun d os=>cell_regrown r4 d os;have l9:=fun d os=>cell_regrown r5 d os;have l10:=fun d os=>cell_regrown q2 d os;have l11:=fun d os=>cell_regrown q5 d os;have l12:=fun d os=>cell_regrown s0 d os;have l13:=fun d os=>cell_regrown s1 d os;have l14:=fun d os=>cell_regrown s2 d os;have l15:=fun d os=>cell_regrown s3 d os;have l16:=fun d os=>cell_regrown s4 d os;have l17:=fun d os=>cell_regrown s5 d os;have HBQ:=Hd fun d os=>below_regrown W d os;have cA0:=fun d os=>Calls.regrown_of (HHW.out (grow (redrawn W d) os) (below_regrown W d os));have cA1:=fun d os=>Calls.regrown_of (HFW.out (grow (redrawn W d) os) (below_regrown W d os));refine wp_region_quiet_below (by kernel_rfl) (by kernel_rfl) ?_
           repeat (go_big_quiet_step (first | with_reducible exact cA0 _ _ | with_reducible exact cA1 _ _))
           refine wpQuiet_nil ?_;intro _ hw';obtain⟨⟨dq,osq⟩,hw''⟩:=hw';subst hw'';have HB1:=Hd (HBQ.out dq osq);clear l0 l1 l2 l3 l4 l5 l6 l7 l8 l9 l10 l11 l12 l13 l14 l15 l16 l17 cA0 cA1 o0 o1 z0 z1 r0 r1 r2 r3 r4 r5 q2 q5 s0 s1 s2 s3 s4 s5
           go_wp2_with fail
           go_ret
           exact⟨ret_boolC HO.out.symm,below_nextC HBX.out HB1.out⟩
        · have f1:(l1==ov)=false:=by rw [beq_eq_false_iff_ne];exact e1
          have HO:=Hd (show out=false by rw [HCV.out];simp [eqC,f1]);subst e0
          go_upto_region 6 with(fail)
          go_quiet (fail)
          go_wp2_with fail
          go_ret
          exact⟨ret_boolC HO.out.symm,below_drewN HBX.out _⟩
      · have f0:(l0.toList==ys.toList)=false:=by
         cases h:(l0.toList==ys.toList) with
         | false=>rfl
         | true=>exact absurd (bytes_eq h) e0
        have HO:=Hd (show out=false by rw [HCV.out];simp [eqC,f0])
        go_upto_region 6 with(fail)
        go_quiet (fail)
        go_wp2_with fail
        go_ret
        exact⟨ret_boolC HO.out.symm,below_drewN HBX.out _⟩
   · have nb:((al:Int) != 1)=false:=by rw [ha1];rfl
     have ns:((sl:Int) != 1)=true:=by rw [bne_iff_ne];omega
     have HO:=Hd (show out=false from HWN.out (.inr (.inr hs1)))
     go_wp2_with fail
     go_ret
     exact⟨ret_boolC HO.out.symm,HB0.out⟩
 · have nb:((al:Int) != 1)=true:=by rw [bne_iff_ne];omega
   have HO:=Hd (show out=false from HWN.out (.inr (.inl ha1)))
   go_wp2_with fail
   go_ret
   exact⟨ret_boolC HO.out.symm,HB0.out⟩
end
end Go.Proofs.YtkbpdoomhfkngaaGreat
