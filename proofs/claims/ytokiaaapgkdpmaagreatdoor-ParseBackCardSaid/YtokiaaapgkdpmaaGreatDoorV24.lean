/- Parts of the proof: PrC, PrD, PrE, PrF. Conditions: each theorem's own. -/
import Derived.Test.YtokiaaapgkdpmaaGreatDoorV23
namespace Go.Proofs.YtokiaaapgkdpmaaGreatDoor
set_option linter.unusedVariables false
set_option linter.unusedSimpArgs false
set_option maxRecDepth 100000
set_option maxHeartbeats 40000000
section
open Go.RowKit Go.Sort
def isArmP(r:List Tk):Bool:=headK r==2 || (isP trueL r || isP falseL r)
theorem ask_true:Ask trueL:=.inl (by decide)
theorem ask_false:Ask falseL:=.inl (by decide)
theorem arm_yes{t:Tk}{r':List Tk}(h:isArmP (t::r')=true):armP (t::r')=.ok t.s r'∧t.k≠6:=by
 simp only [isArmP,headK,Bool.or_eq_true,beq_iff_eq] at h
 by_cases h1:isP trueL (t::r')=true
 · obtain⟨t1,r1,e,hs,hk⟩:=isP_cons h1;injection e with e1 e2;subst e1 e2;exact⟨by simp only [armP,h1,if_true,hs,List.tail_cons],by omega⟩
 · by_cases h2:isP falseL (t::r')=true
   · obtain⟨t1,r1,e,hs,hk⟩:=isP_cons h2;injection e with e1 e2;subst e1 e2;exact⟨by simp only [armP,h1,h2,if_true,if_false,hs,List.tail_cons,Bool.false_eq_true],by omega⟩
   · have hk:t.k=2:=by
      rcases h with h | h | h
      · exact h
      · exact absurd h h1
      · exact absurd h h2
     exact⟨by simp only [armP,h1,h2,hk,if_true,if_false,Bool.false_eq_true],by omega⟩
theorem arm_no{t:Tk}{r':List Tk}(h:isArmP (t::r')=false):armP (t::r')=.bad (t::r'):=by
 simp only [isArmP,headK,Bool.or_eq_false_iff,beq_eq_false_iff_ne] at h;simp only [armP,h.1,h.2.1,h.2.2,if_false,Bool.false_eq_true]
section
variable {w w':World}{b:Nat}{A:Option Addr}{n c:Nat}{all r:List Tk}{va vp:Value}{sz:Nat}
theorem rrIsArm(h:QSt w b A n c all r va vp sz):
 Calls Tryz.prog 57 #[.pointer (some ⟨b,0,none⟩)] w fun e w'=>e=.returned (.bool (isArmP r))∧Below w.heap.size w w':=by
 have HQ:=Hd fun w1 (h1:Below w.heap.size w w1)=>h.below h1;have HT:=Hd fun d os=>Calls.regrown_of (rrIs ⟨#[116,114,117,101]⟩ ask_true (HQ.out (grow (redrawn w d) os) (below_regrown w d os)));have HF:=Hd fun d os=>Calls.regrown_of (rrIs ⟨#[102,97,108,115,101]⟩ ask_false (HQ.out (grow (redrawn w d) os) (below_regrown w d os)));rw [show(⟨#[116,114,117,101]⟩:ByteArray).data.toList=trueL from rfl] at HT;rw [show(⟨#[102,97,108,115,101]⟩:ByteArray).data.toList=falseL from rfl] at HF;obtain⟨t,r',b0,off,i,j,rfl,HTF⟩:=h.tokQ;have HI:=Hd (show isArmP (t::r')=(t.k==2 || (isP trueL (t::r') || isP falseL (t::r'))) from rfl);obtain rfl:=HTF.a;have q0:=HTF.q0;have q1:=HTF.q1;have hbl:=HTF.lb;have hb0:=HTF.l0;have hmx:=HTF.mx;have hi:=HTF.lt;have t0:=HTF.t0;have hi0:(0:Int)≤(i:Int):=by omega
 have hi1:(i:Int)<(n:Int):=by omega
 clear h HTF HQ;rw [HI.out];clear HI;generalize isP trueL (t::r')=bt at *;generalize isP falseL (t::r')=bf at *;generalize t.k=k at *;have l0:=fun d os=>cell_regrown q0 d os;have l1:=fun d os=>cell_regrown q1 d os;have l2:=fun d os=>cell_regrown t0 d os;clear q0 q1 t0
 cases h1:(k==2) with
 | true=>
  clear HT HF
  go_enter Tryz.func57,Tryz.ntmps57
  go_upto_region 1 with(fail)
  refine wp_region_quiet_below (by kernel_rfl) (by kernel_rfl) ?_
  repeat (quiet_step (fail))
  refine wpQuiet_nil ?_;intro _ hw';obtain⟨⟨dq,osq⟩,hw''⟩:=hw';subst hw'';have HB:=Hd (below_regrown w dq osq);clear l0 l1 l2;generalize grow (redrawn w dq) osq=wq at *
  go_wp2_with fail
  go_ret
  exact⟨rfl,HB.out⟩
 | false=>
  have cT:=HT.out;clear HT
  cases bt with
  | true=>
   clear HF
   go_enter Tryz.func57,Tryz.ntmps57
   go_upto_region 1 with(fail)
   refine wp_region_quiet_below (by kernel_rfl) (by kernel_rfl) ?_
   repeat (quiet_step (with_reducible exact cT _ _))
   refine wpQuiet_nil ?_;intro _ hw';obtain⟨⟨dq,osq⟩,hw''⟩:=hw';subst hw'';have HB:=Hd (below_regrown w dq osq);clear l0 l1 l2 cT;generalize grow (redrawn w dq) osq=wq at *
   go_wp2_with fail
   go_ret
   exact⟨rfl,HB.out⟩
  | false=>
   have cF:=HF.out;clear HF
   go_enter Tryz.func57,Tryz.ntmps57
   go_upto_region 1 with(fail)
   refine wp_region_quiet_below (by kernel_rfl) (by kernel_rfl) ?_
   repeat (quiet_step (first | (with_reducible exact cT _ _) | (with_reducible exact cF _ _)))
   refine wpQuiet_nil ?_;intro _ hw';obtain⟨⟨dq,osq⟩,hw''⟩:=hw';subst hw'';have HB:=Hd (below_regrown w dq osq);clear l0 l1 l2 cT cF;generalize grow (redrawn w dq) osq=wq at *
   go_wp2_with fail
   go_ret
   exact⟨rfl,HB.out⟩
theorem rrArm(h:QSt w b A n c all r va vp sz):
 Calls Tryz.prog 58 #[.pointer (some ⟨b,0,none⟩)] w (QPost w b A n c all va vp sz (armP r) fun s e=>e=.returned (.string (ofB s))):=by
 have HN:=Hd (rrIsArm h);obtain⟨t,r',e⟩:=h.fin.cons_;subst e;have HQ:=Hd fun w1 (h1:Below w.heap.size w w1)=>h.below h1;clear h
 cases hi:isArmP (t::r') with
 | false=>
  rw [hi] at HN;have HE:=Hd (arm_no hi);rw [HE.out];clear HE hi
  go_enter Tryz.func58,Tryz.ntmps58
  go_wp2_with fail
  refine HN.out.mono ?_;rintro e w1 ⟨rfl,hb1⟩;have HB1:=Hd hb1;clear hb1
  go_wp2_with fail
  refine(rrStop _ _).mono ?_;rintro e w2 ⟨rfl,rfl⟩
  go_wp2_with fail
  exact⟨rfl,bl_of HB1.out,HQ.out _ HB1.out,rfl⟩
 | true=>
  rw [hi] at HN;have HE:=Hd (arm_yes hi);have HT:=Hd fun w1 (h1:Below w.heap.size w w1)=>rrToken (HQ.out w1 h1) HE.out.2;rw [HE.out.1];clear HE hi;unfold tokQT at HT;have hfs:=field_s
  go_enter Tryz.func58,Tryz.ntmps58
  go_wp2_with fail
  refine HN.out.mono ?_;rintro e w1 ⟨rfl,hb1⟩;have HB1:=Hd hb1;clear hb1
  go_wp2_with fail
  refine(HT.out w1 HB1.out).mono ?_;rintro e w2 ⟨rfl,hq2,hb2⟩;have HQ2:=Hd hq2;have HB2:=Hd (kb_trans (bl_of HB1.out) hb2);clear hq2 hb2
  go_wp2_with fail
  go_ret
  exact⟨HB2.out,HQ2.out,rfl⟩
theorem ask_not:Ask notL:=.inl (by decide)
theorem ask_40:Ask [40]:=.inr (by decide)
theorem ask_41:Ask [41]:=.inr (by decide)
def WhenV(z:List UInt8 × List UInt8) (e:Ending):Prop:=e=.returned (.tuple #[.string (ofB z.1),.string (ofB z.2)])
theorem when_noarm(h1:isP notL r=false) (h2:isArmP r=false):whenP r=(nameP r).bind fun n r=>.ok (n,trueL) r:=by
 simp only [isArmP,Bool.or_eq_false_iff,beq_eq_false_iff_ne] at h2;simp only [whenP,h1,h2.1,h2.2.1,h2.2.2,if_false,Bool.false_eq_true,or_self,false_or]
theorem when_arm(h1:isP notL r=false) (h2:isArmP r=true):whenP r=(armP r).bind fun a r=>(needP [40] r).bind fun _ r=>(nameP r).bind fun n r=>(needP [41] r).bind fun _ r=>.ok (n,a) r:=by
 simp only [isArmP,Bool.or_eq_true,beq_iff_eq] at h2;simp only [whenP,h1,if_false,Bool.false_eq_true];rw [if_pos h2]
theorem rrWhen(h:QSt w b A n c all r va vp sz):
 Calls Tryz.prog 29 #[.pointer (some ⟨b,0,none⟩)] w (QPost w b A n c all va vp sz (whenP r) WhenV):=by
 cases h1:isP notL r with
 | true=>
  have HT:=Hd (rrTook_yes ⟨#[110,111,116]⟩ ask_not h h1);have HE:=Hd (show whenP r=(nameP r.tail).bind fun n r=>.ok (n,falseL) r by simp only [whenP,h1,if_true]);rw [HE.out];clear HE h1 h;generalize r.tail=r1 at *
  cases hn:nameP r1 with
  | ok s r2=>
   simp only [PR.bind_ok]
   go_enter Tryz.func29,Tryz.ntmps29
   go_wp2_with fail
   refine HT.out.mono ?_;rintro e w1 ⟨rfl,hq1,hb1⟩;have HN:=Hd (QPost.ok_ (rrName hq1) hn);have HB1:=Hd hb1;clear hq1 hb1 hn
   go_wp2_with fail
   refine HN.out.mono ?_;rintro e w2 ⟨rfl,hq2,hb2⟩;have HQ2:=Hd hq2;have HB2:=Hd (kb_trans HB1.out hb2);clear hq2 hb2
   go_wp2_with fail
   go_ret2
   exact⟨HB2.out,HQ2.out,rfl⟩
  | bad r2=>
   simp only [PR.bind_bad]
   go_enter Tryz.func29,Tryz.ntmps29
   go_wp2_with fail
   refine HT.out.mono ?_;rintro e w1 ⟨rfl,hq1,hb1⟩;have HN:=Hd (QPost.bad_ (rrName hq1) hn);have HB1:=Hd hb1;clear hq1 hb1 hn
   go_wp2_with fail
   refine HN.out.mono ?_;rintro e w2 ⟨rfl,hq2,hb2⟩;have HQ2:=Hd hq2;have HB2:=Hd (kb_trans HB1.out hb2);clear hq2 hb2
   go_wp2_with fail
   exact⟨rfl,HB2.out,HQ2.out,rfl⟩
 | false=>
  have HT:=Hd (rrTook_no ⟨#[110,111,116]⟩ ask_not h h1)
  cases h2:isArmP r with
  | false=>
   have HE:=Hd (when_noarm h1 h2);rw [HE.out];clear HE h1 h
   cases hn:nameP r with
   | ok s r2=>
    simp only [PR.bind_ok]
    go_enter Tryz.func29,Tryz.ntmps29
    go_wp2_with fail
    refine HT.out.mono ?_;rintro e w1 ⟨rfl,hq1,hb1⟩;have HA:=Hd (h2 ▸ rrIsArm hq1);have HN:=Hd fun w2 (h:Below w1.heap.size w1 w2)=>QPost.ok_ (rrName (hq1.below h)) hn;have HB1:=Hd hb1;clear hq1 hb1 hn h2
    go_wp2_with fail
    refine HA.out.mono ?_;rintro e w2 ⟨rfl,hb2⟩;have HB2:=Hd (kb_trans HB1.out (bl_of hb2));have HN2:=Hd (HN.out w2 hb2);clear hb2 HN
    go_wp2_with fail
    refine HN2.out.mono ?_;rintro e w3 ⟨rfl,hq3,hb3⟩;have HQ3:=Hd hq3;have HB3:=Hd (kb_trans HB2.out hb3);clear hq3 hb3
    go_wp2_with fail
    go_ret2
    exact⟨HB3.out,HQ3.out,rfl⟩
   | bad r2=>
    simp only [PR.bind_bad]
    go_enter Tryz.func29,Tryz.ntmps29
    go_wp2_with fail
    refine HT.out.mono ?_;rintro e w1 ⟨rfl,hq1,hb1⟩;have HA:=Hd (h2 ▸ rrIsArm hq1);have HN:=Hd fun w2 (h:Below w1.heap.size w1 w2)=>QPost.bad_ (rrName (hq1.below h)) hn;have HB1:=Hd hb1;clear hq1 hb1 hn h2
    go_wp2_with fail
    refine HA.out.mono ?_;rintro e w2 ⟨rfl,hb2⟩;have HB2:=Hd (kb_trans HB1.out (bl_of hb2));have HN2:=Hd (HN.out w2 hb2);clear hb2 HN
    go_wp2_with fail
    refine HN2.out.mono ?_;rintro e w3 ⟨rfl,hq3,hb3⟩;have HQ3:=Hd hq3;have HB3:=Hd (kb_trans HB2.out hb3);clear hq3 hb3
    go_wp2_with fail
    exact⟨rfl,HB3.out,HQ3.out,rfl⟩
  | true=>
   have HE:=Hd (when_arm h1 h2);rw [HE.out];clear HE h1 h
   obtain⟨s1,q1,ha⟩:∃ s q,armP r=.ok s q:=by
    cases r with
    | nil=>exact absurd h2 (by decide)
    | cons t r'=>exact⟨_,_,(arm_yes h2).1⟩
   rw [ha];simp only [PR.bind_ok]
   cases hp:needP [40] q1 with
   | bad q2=>
    simp only [PR.bind_bad]
    go_enter Tryz.func29,Tryz.ntmps29
    go_wp2_with fail
    refine HT.out.mono ?_;rintro e w1 ⟨rfl,hq1,hb1⟩;have HA:=Hd (h2 ▸ rrIsArm hq1);have HN:=Hd fun w2 (h:Below w1.heap.size w1 w2)=>QPost.ok_ (rrArm (hq1.below h)) ha;have HB1:=Hd hb1;clear hq1 hb1 ha h2
    go_wp2_with fail
    refine HA.out.mono ?_;rintro e w2 ⟨rfl,hb2⟩;have HB2:=Hd (kb_trans HB1.out (bl_of hb2));have HN2:=Hd (HN.out w2 hb2);clear hb2 HN
    go_wp2_with fail
    refine HN2.out.mono ?_;rintro e w3 ⟨rfl,hq3,hb3⟩;have HP:=Hd (QPost.bad_ (rrTake ⟨#[40]⟩ ask_40 hq3) hp);have HB3:=Hd (kb_trans HB2.out hb3);clear hq3 hb3 hp
    go_wp2_with fail
    refine HP.out.mono ?_;rintro e w4 ⟨rfl,hq4,hb4⟩;have HQ4:=Hd hq4;have HB4:=Hd (kb_trans HB3.out hb4);clear hq4 hb4
    go_wp2_with fail
    exact⟨rfl,HB4.out,HQ4.out,rfl⟩
   | ok u q2=>
    simp only [PR.bind_ok]
    cases hn:nameP q2 with
    | bad q3=>
     simp only [PR.bind_bad]
     go_enter Tryz.func29,Tryz.ntmps29
     go_wp2_with fail
     refine HT.out.mono ?_;rintro e w1 ⟨rfl,hq1,hb1⟩;have HA:=Hd (h2 ▸ rrIsArm hq1);have HN:=Hd fun w2 (h:Below w1.heap.size w1 w2)=>QPost.ok_ (rrArm (hq1.below h)) ha;have HB1:=Hd hb1;clear hq1 hb1 ha h2
     go_wp2_with fail
     refine HA.out.mono ?_;rintro e w2 ⟨rfl,hb2⟩;have HB2:=Hd (kb_trans HB1.out (bl_of hb2));have HN2:=Hd (HN.out w2 hb2);clear hb2 HN
     go_wp2_with fail
     refine HN2.out.mono ?_;rintro e w3 ⟨rfl,hq3,hb3⟩;have HP:=Hd (QPost.ok_ (rrTake ⟨#[40]⟩ ask_40 hq3) hp);have HB3:=Hd (kb_trans HB2.out hb3);clear hq3 hb3 hp
     go_wp2_with fail
     refine HP.out.mono ?_;rintro e w4 ⟨rfl,hq4,hb4⟩;have HM:=Hd (QPost.bad_ (rrName hq4) hn);have HB4:=Hd (kb_trans HB3.out hb4);clear hq4 hb4 hn
     go_wp2_with fail
     refine HM.out.mono ?_;rintro e w5 ⟨rfl,hq5,hb5⟩;have HQ5:=Hd hq5;have HB5:=Hd (kb_trans HB4.out hb5);clear hq5 hb5
     go_wp2_with fail
     exact⟨rfl,HB5.out,HQ5.out,rfl⟩
    | ok s2 q3=>
     simp only [PR.bind_ok]
     cases hz:needP [41] q3 with
     | bad q4=>
      simp only [PR.bind_bad]
      go_enter Tryz.func29,Tryz.ntmps29
      go_wp2_with fail
      refine HT.out.mono ?_;rintro e w1 ⟨rfl,hq1,hb1⟩;have HA:=Hd (h2 ▸ rrIsArm hq1);have HN:=Hd fun w2 (h:Below w1.heap.size w1 w2)=>QPost.ok_ (rrArm (hq1.below h)) ha;have HB1:=Hd hb1;clear hq1 hb1 ha h2
      go_wp2_with fail
      refine HA.out.mono ?_;rintro e w2 ⟨rfl,hb2⟩;have HB2:=Hd (kb_trans HB1.out (bl_of hb2));have HN2:=Hd (HN.out w2 hb2);clear hb2 HN
      go_wp2_with fail
      refine HN2.out.mono ?_;rintro e w3 ⟨rfl,hq3,hb3⟩;have HP:=Hd (QPost.ok_ (rrTake ⟨#[40]⟩ ask_40 hq3) hp);have HB3:=Hd (kb_trans HB2.out hb3);clear hq3 hb3 hp
      go_wp2_with fail
      refine HP.out.mono ?_;rintro e w4 ⟨rfl,hq4,hb4⟩;have HM:=Hd (QPost.ok_ (rrName hq4) hn);have HB4:=Hd (kb_trans HB3.out hb4);clear hq4 hb4 hn
      go_wp2_with fail
      refine HM.out.mono ?_;rintro e w5 ⟨rfl,hq5,hb5⟩;have HZ:=Hd (QPost.bad_ (rrTake ⟨#[41]⟩ ask_41 hq5) hz);have HB5:=Hd (kb_trans HB4.out hb5);clear hq5 hb5 hz
      go_wp2_with fail
      refine HZ.out.mono ?_;rintro e w6 ⟨rfl,hq6,hb6⟩;have HQ6:=Hd hq6;have HB6:=Hd (kb_trans HB5.out hb6);clear hq6 hb6
      go_wp2_with fail
      exact⟨rfl,HB6.out,HQ6.out,rfl⟩
     | ok u2 q4=>
      simp only [PR.bind_ok]
      go_enter Tryz.func29,Tryz.ntmps29
      go_wp2_with fail
      refine HT.out.mono ?_;rintro e w1 ⟨rfl,hq1,hb1⟩;have HA:=Hd (h2 ▸ rrIsArm hq1);have HN:=Hd fun w2 (h:Below w1.heap.size w1 w2)=>QPost.ok_ (rrArm (hq1.below h)) ha;have HB1:=Hd hb1;clear hq1 hb1 ha h2
      go_wp2_with fail
      refine HA.out.mono ?_;rintro e w2 ⟨rfl,hb2⟩;have HB2:=Hd (kb_trans HB1.out (bl_of hb2));have HN2:=Hd (HN.out w2 hb2);clear hb2 HN
      go_wp2_with fail
      refine HN2.out.mono ?_;rintro e w3 ⟨rfl,hq3,hb3⟩;have HP:=Hd (QPost.ok_ (rrTake ⟨#[40]⟩ ask_40 hq3) hp);have HB3:=Hd (kb_trans HB2.out hb3);clear hq3 hb3 hp
      go_wp2_with fail
      refine HP.out.mono ?_;rintro e w4 ⟨rfl,hq4,hb4⟩;have HM:=Hd (QPost.ok_ (rrName hq4) hn);have HB4:=Hd (kb_trans HB3.out hb4);clear hq4 hb4 hn
      go_wp2_with fail
      refine HM.out.mono ?_;rintro e w5 ⟨rfl,hq5,hb5⟩;have HZ:=Hd (QPost.ok_ (rrTake ⟨#[41]⟩ ask_41 hq5) hz);have HB5:=Hd (kb_trans HB4.out hb5);clear hq5 hb5 hz
      go_wp2_with fail
      refine HZ.out.mono ?_;rintro e w6 ⟨rfl,hq6,hb6⟩;have HQ6:=Hd hq6;have HB6:=Hd (kb_trans HB5.out hb6);clear hq6 hb6
      go_wp2_with fail
      go_ret2
      exact⟨HB6.out,HQ6.out,rfl⟩
end
end
section
open Go.RowKit Go.Sort
def OpsOK(zs:List (Int × ByteArray)):Prop:=zs.length≤100∧∀ z∈zs,z.1≠0∧Ask z.2.data.toList∧signS z.1=z.2
def opR(ops:List (Int × List UInt8)) (r:List Tk):List Tk:=if signP ops r=0 then r else r.tail
theorem mem_getD{zs:List (Int × ByteArray)}{k:Nat}(h:k<zs.length):zs[k]?.getD default∈zs:=by
 rw [List.getElem?_eq_getElem h];exact List.getElem_mem _
section
variable {w w':World}{b:Nat}{A:Option Addr}{n c:Nat}{all r:List Tk}{va vp:Value}{sz:Nat}
theorem rrOp(zs:List (Int × ByteArray)) (g c1:Nat) (h:QSt w b A n c all r va vp sz) (hz:OpsOK zs) (hs:∀ i,i<zs.length→(bl b w).cell? ⟨g,i,none⟩=some (.int .i64 (zs[i]?.getD default).1)):
 Calls Tryz.prog 134 #[.pointer (some ⟨b,0,none⟩),.slice (some ⟨g,0,none⟩) zs.length c1] w fun e w' =>
  e=.returned (.int .i64 (signP (zsL zs) r))∧QSt w' b A n c all (opR (zsL zs) r) va vp sz∧Below w.heap.size (bl b w) (bl b w'):=by
 have HQ:=Hd h;have HS:=Hd fun w1 (h1:Below w.heap.size (bl b w) (bl b w1)) i (hi:i<zs.length)=>bl_some ((h1.cell (by have:=World.block_lt_of_cell? _ _ (hs i hi);rwa [bl_size] at this)).trans (hs i hi));have HZ:=Hd fun i (hi:i<zs.length)=>hz.2 _ (mem_getD hi);have HSN:=Hd fun(hx:∀ i,i<zs.length→isP (zs[i]?.getD default).2.data.toList r=false)=>sign_none (r:=r) zs hx;have HSF:=Hd fun k hk hx hy=>sign_first (r:=r) zs k hk hx hy;have hzl:=hz.1;generalize hL:zs.length=L at *;clear h hs hz
 go_enter Tryz.func134,Tryz.ntmps134
 go_wp2_with fail
 go_loopw [9] (fun i wr=>∃ k:Nat,k≤L∧i=.int .i64 k∧QSt wr b A n c all r va vp sz∧Below w.heap.size (bl b w) (bl b wr)∧(∀ j,j<k→isP (zs[j]?.getD default).2.data.toList r=false)) (fun i _=>L-(intOf i).toNat)
 case atStart=>exact⟨0,Nat.zero_le _,rfl,HQ.out,Below.refl _ _,fun j hj=>absurd hj (by omega)⟩
 case round=>
  obtain⟨k,hk,rfl,hP,hB,hno⟩:=hrel;have HPK:=Hd hP;have HBK:=Hd hB;have HNO:=Hd hno;clear hP hB hno
  by_cases hlt:k<L
  · have s0:=HS.out wr HBK.out k hlt;obtain⟨hn0,hask,hsg⟩:=HZ.out k hlt;have HSG:=Hd (arSign (zs[k]?.getD default).1);rw [hsg] at HSG;have HN0:=Hd hn0
    cases hb:isP (zs[k]?.getD default).2.data.toList r with
    | true=>
     have HTK:=Hd (rrTook_yes (zs[k]?.getD default).2 hask HPK.out hb);have HE:=Hd (HSF.out k hlt HNO.out hb);clear hb hask hsg hn0;generalize (zs[k]?.getD default).2=sk at *;generalize (zs[k]?.getD default).1=ok at *
     go_wp2_with fail
     refine(HSG.out wr).mono ?_;rintro e w2 ⟨rfl,rfl⟩
     go_wp2_with fail
     refine HTK.out.mono ?_;rintro e w2 ⟨rfl,hq2,hb2⟩;have HQ2:=Hd hq2;have HB2:=Hd (kb_trans HBK.out hb2);clear hq2 hb2 s0
     go_wp2_with fail
     go_ret
     unfold opR;rw [HE.out,if_neg HN0.out];exact⟨rfl,HQ2.out,HB2.out⟩
    | false=>
     have HTK:=Hd (rrTook_no (zs[k]?.getD default).2 hask HPK.out hb);have HB0:=Hd hb;clear hb hask hsg hn0;generalize hsk:(zs[k]?.getD default).2=sk at *;have HSK2:=Hd hsk;clear hsk;generalize (zs[k]?.getD default).1=ok at *
     go_wp2_with fail
     refine(HSG.out wr).mono ?_;rintro e w2 ⟨rfl,rfl⟩
     go_wp2_with fail
     refine HTK.out.mono ?_;rintro e w2 ⟨rfl,hq2,hb2⟩;have HQ2:=Hd hq2;have HB2:=Hd (kb_trans HBK.out hb2);clear hq2 hb2 s0
     go_wp2_with fail
     go_roundw
     case rel=>
      refine⟨k+1,by omega,by go_num,HQ2.out,HB2.out,fun j hj=>?_⟩
      by_cases hjk:j<k
      · exact HNO.out j hjk
      · have:j=k:=by omega
        subst this;rw [HSK2.out];exact HB0.out
     case measure=>simp [intOf];omega
  · have hkl:k=L:=by omega
    subst hkl;have HE:=Hd (HSN.out fun i hi=>HNO.out i hi)
    go_wp2_with fail
    go_ret
    unfold opR;rw [HE.out,if_pos rfl];exact⟨rfl,HPK.out,HBK.out⟩
end
end
section
open Go.RowKit Go.Sort
def bls(L:List Nat) (w:World):World:={ w with heap:=w.heap.mapIdx fun i o=>if i∈L then .cells #[] 0 else o }
theorem bls_size{L:List Nat}{w:World}:(bls L w).heap.size=w.heap.size:=by simp [bls]
theorem bls_cell{L:List Nat}{w:World}{p:Addr}(h:p.block∉L):(bls L w).cell? p=w.cell? p:=by
 unfold World.cell? bls;simp only [Array.getElem?_mapIdx]
 cases w.heap[p.block]? with
 | none=>rfl
 | some o=>simp [h]
theorem bls_some{L:List Nat}{w:World}{p:Addr}{v:Value}(h:(bls L w).cell? p=some v):w.cell? p=some v∧p.block∉L:=by
 by_cases hp:p.block∈L
 · unfold World.cell? bls at h;simp only [Array.getElem?_mapIdx] at h
   cases hh:w.heap[p.block]? with
   | none=>rw [hh] at h;cases h
   | some o=>
    rw [hh] at h;simp only [Option.map_some,if_pos hp] at h
    split at h <;> simp at h
 · exact⟨by rwa [bls_cell hp] at h,hp⟩
theorem RdK.up{w w':World}{A:Option Addr}{n:Nat}{ts:List Tk}(h:RdK w A n ts) (hs:w.heap.size≤w'.heap.size) (hk:∀ p v,w.cell? p=some v→w'.cell? p=some v):RdK w' A n ts:=
 ⟨h.1,h.2.1,fun hn=>by
  obtain⟨b,off,e,hb,hc⟩:=h.2.2 hn;exact⟨b,off,e,by omega,fun i hi=>⟨hk _ _ (hc i hi).1,hk _ _ (hc i hi).2.1,hk _ _ (hc i hi).2.2.1,hk _ _ (hc i hi).2.2.2⟩⟩⟩
theorem flX_up{w w':World}(hs:w.heap.size≤w'.heap.size) (hk:∀ p v,w.cell? p=some v→w'.cell? p=some v):∀ {l:List Ex}{cs:List Value},flX w l cs→flX w' l cs
 | [],cs,h=>h
 | x::l,cs,h=>by
  obtain⟨A,ca,B,cb,cs1,rfl,h1,h2⟩:=h;exact⟨A,ca,B,cb,cs1,rfl,rdX_up hs hk x A B h1,flX_up hs hk h2⟩
structure Tn (S L L':List Nat) (w w':World):Prop where
 os:w'.os=w.os
 tape:w'.tape=w.tape
 output:w'.output=w.output
 size:w.heap.size≤w'.heap.size
 block:∀ k,k<w.heap.size→k∉S→w'.heap[k]?=w.heap[k]?
 live:∀ k∈L',k∈L∨w.heap.size≤k
 stay:∀ k∈L,k∉S→k∈L'
section
variable {S S1 L L1 L2:List Nat}{w w1 w2:World}
theorem Tn.refl(S L:List Nat) (w:World):Tn S L L w w:=⟨rfl,rfl,rfl,Nat.le_refl _,fun _ _ _=>rfl,fun _ h=>.inl h,fun _ h _=>h⟩
theorem Tn.trans(h:Tn S L L1 w w1) (k:Tn S1 L1 L2 w1 w2) (hL:∀ k∈L,k<w.heap.size) (hS:∀ k∈S1,k∈S∨w.heap.size≤k):Tn S L L2 w w2 where
 os:=k.os.trans h.os
 tape:=k.tape.trans h.tape
 output:=k.output.trans h.output
 size:=Nat.le_trans h.size k.size
 block:=fun j hj hn=>(k.block j (Nat.lt_of_lt_of_le hj h.size) (fun hs=>(hS j hs).elim hn fun h2=>by omega)).trans (h.block j hj hn)
 live:=fun j hj=>by
  rcases k.live j hj with h1 | h1
  · exact h.live j h1
  · exact .inr (Nat.le_trans h.size h1)
 stay:=fun j hj hn=>k.stay j (h.stay j hj hn) fun hs=>by
  rcases hS j hs with hs | hs
  · exact hn hs
  · have:=hL j hj;omega
theorem Tn.mono(h:Tn S L L1 w w1) (hS:∀ k∈S,k∈S1):Tn S1 L L1 w w1:=
 ⟨h.os,h.tape,h.output,h.size,fun k hk hn=>h.block k hk fun h=>hn (hS k h),h.live,fun k hk hn=>h.stay k hk fun h=>hn (hS k h)⟩
theorem Tn.of_below(h:Below w.heap.size w w1):Tn S L L w w1:=⟨h.os,h.tape,h.output,h.size,fun k hk _=>h.block k hk,fun _ h=>.inl h,fun _ h _=>h⟩
theorem Tn.of_kb{b:Nat}(h:Below w.heap.size (bl b w) (bl b w1)) (hb:b∈S):Tn S L L w w1:=
 ⟨h.os,h.tape,h.output,kb_size h,fun k hk hn=>by
  have hkb:k≠b:=fun e=>hn (e ▸ hb);have h1:=h.block k hk;rwa [bl_block hkb,bl_block hkb] at h1,fun _ h=>.inl h,fun _ h _=>h⟩
theorem Tn.up(h:Tn S L L1 w w1) (hS:∀ k∈S,k∈L) (p:Addr) (v:Value) (hv:(bls L w).cell? p=some v):(bls L1 w1).cell? p=some v:=by
 obtain⟨h1,h2⟩:=bls_some hv;have hlt:p.block<w.heap.size:=World.block_lt_of_cell? w p h1;rw [bls_cell fun hL=>(h.live _ hL).elim h2 fun h3=>by omega];unfold World.cell? at h1 ⊢;rw [h.block _ hlt fun hs=>h2 (hS _ hs)];exact h1
theorem Tn.ups(h:Tn S L L1 w w1):(bls L w).heap.size≤(bls L1 w1).heap.size:=by rw [bls_size,bls_size];exact h.size
theorem Tn.below(h:Tn S L L1 w w1){B:Nat}(hB:B≤w.heap.size) (hS:∀ k∈S,B≤k):Below B w w1:=
 ⟨h.os,h.tape,h.output,h.size,fun k hk=>h.block k (Nat.lt_of_lt_of_le hk hB) fun hs=>by have:=hS k hs;omega⟩
theorem Tn.use(h:Tn S L L1 w w1){g:Nat}(hg:w.heap.size≤g):Tn S L (g::L1) w w1:=
 ⟨h.os,h.tape,h.output,h.size,h.block,fun k hk=>by
  rcases List.mem_cons.1 hk with rfl | hk
  · exact .inr hg
  · exact h.live k hk,fun k hk hn=>List.mem_cons_of_mem _ (h.stay k hk hn)⟩
end
abbrev rp (b:Nat):Value:=.pointer (some ⟨b,0,none⟩)
structure Mem (w:World) (b:Nat) (A:Option Addr) (n c:Nat) (all r:List Tk) (va:Value) (st:List Value) (vp:Value) (ps:List Ex) (sz:Nat) (L:List Nat):Prop where
 row:w.heap[b]?=some (.cells (rdA (.slice A n c) ((n-r.length:Nat):Int) va vp sz) 60)
 rd:RdK (bls L w) A n all
 len:r.length≤n
 pre:all.drop (n-r.length)=r
 fin:EndR r
 tks:∀ t∈all,TkOK t
 oa:w.ownsRow 0 1 1 va st.length st.reverse
 op:∃ cs,w.ownsRow 0 26 6 vp ps.length cs∧flX (bls L w) ps cs
 lb:b∈L
 la:∀ k,va.ownBlock=some k→k∈L
 lp:∀ k,vp.ownBlock=some k→k∈L
 lv:∀ k∈L,k<w.heap.size
theorem bl_up{L:List Nat}{w:World}{b:Nat}(hb:b∈L) (p:Addr) (v:Value) (h:(bls L w).cell? p=some v):(bl b w).cell? p=some v:=by
 obtain⟨h1,h2⟩:=bls_some h;rw [bl_cell fun e=>h2 (e ▸ hb)];exact h1
theorem own_other{w w':World}{base:Nat}{e:TypeId}{size:Nat}{v:Value}{n:Nat}{xs:List Value}(h:w.ownsRow base e size v n xs) (hb:∀ k,v.ownBlock=some k→w'.heap[k]?=w.heap[k]?):w'.ownsRow base e size v n xs:=by
 refine⟨h.1,?_⟩;rcases h.2 with h | ⟨g,cap,cur,e1,hg,hh,r⟩
 · exact .inl h
 · exact .inr ⟨g,cap,cur,e1,hg,(hb g (by rw [e1];rfl)).trans hh,r⟩
theorem own_ne{w:World}{base:Nat}{e:TypeId}{size:Nat}{v:Value}{n:Nat}{xs:List Value}(h:w.ownsRow base e size v n xs){b:Nat}{cs:Array Value}{T:TypeId}(hb:w.heap[b]?=some (.cells cs T)) (hT:e≠T):v.ownBlock≠some b:=by
 rcases h.2 with⟨rfl,_⟩|⟨g,cap,cur,rfl,hg,hh,r⟩
 · intro h;cases h
 · intro h;simp only [Value.ownBlock,Option.some.injEq] at h;subst h;rw [hh] at hb;injection hb with hb;injection hb with _ hb;exact hT hb
theorem own_ne2{w:World}{base base':Nat}{e e':TypeId}{size size':Nat}{v v':Value}{n n':Nat}{xs xs':List Value}(h:w.ownsRow base e size v n xs) (h':w.ownsRow base' e' size' v' n' xs') (hT:e≠e'){k:Nat}(hk:v.ownBlock=some k):v'.ownBlock≠some k:=by
 rcases h'.2 with⟨rfl,_⟩|⟨g,cap,cur,rfl,hg,hh,r⟩
 · intro h;cases h
 · intro hk';simp only [Value.ownBlock,Option.some.injEq] at hk';subst hk';exact own_ne h hh hT hk
section
variable {w w':World}{b:Nat}{A:Option Addr}{n c:Nat}{all r r':List Tk}{va vp:Value}{st:List Value}{ps:List Ex}{sz:Nat}{L L' S:List Nat}
theorem Mem.lt(h:Mem w b A n c all r va st vp ps sz L):b<w.heap.size:=(Array.getElem?_eq_some_iff.1 h.row).1
theorem Mem.q(h:Mem w b A n c all r va st vp ps sz L):QSt w b A n c all r va vp sz:=
 ⟨h.row,h.rd.up (by rw [bls_size,bl_size];exact Nat.le_refl _) fun p v=>bl_up h.lb p v,h.len,h.pre,h.fin,h.tks⟩
theorem Mem.cell(h:Mem w b A n c all r va st vp ps sz L) (j:Nat):w.cell? ⟨b,j,none⟩=(rdA (.slice A n c) ((n-r.length:Nat):Int) va vp sz)[j]?:=h.q.cell j
theorem Mem.va_ne(h:Mem w b A n c all r va st vp ps sz L):va.ownBlock≠some b:=own_ne h.oa h.row (by decide)
theorem Mem.vp_ne(h:Mem w b A n c all r va st vp ps sz L):vp.ownBlock≠some b:=by
 obtain⟨cs,h1,h2⟩:=h.op;exact own_ne h1 h.row (by decide)
theorem Mem.vap(h:Mem w b A n c all r va st vp ps sz L){k:Nat}(hk:va.ownBlock=some k):vp.ownBlock≠some k:=by
 obtain⟨cs,h1,h2⟩:=h.op;exact own_ne2 h.oa h1 (by decide) hk
theorem Mem.move(h:Mem w b A n c all r va st vp ps sz L) (hq:QSt w' b A n c all r' va vp sz) (hb:Below w.heap.size (bl b w) (bl b w')):Mem w' b A n c all r' va st vp ps sz L∧Tn [b] L L w w':=by
 have ht:Tn [b] L L w w':=Tn.of_kb hb (List.mem_singleton_self _);have hS:∀ k∈[b],k∈L:=fun k hk=>by rw [List.mem_singleton.1 hk];exact h.lb
 obtain⟨cs,h1,h2⟩:=h.op;refine⟨⟨hq.row,h.rd.up ht.ups (ht.up hS),hq.len,hq.pre,hq.fin,h.tks,own_other h.oa fun k hk=>ht.block k ?_ ?_,⟨cs,own_other h1 fun k hk=>ht.block k ?_ ?_,flX_up ht.ups (ht.up hS) h2⟩,h.lb,h.la,h.lp,fun k hk=>Nat.lt_of_lt_of_le (h.lv k hk) ht.size⟩,ht⟩
 · exact h.lv k (h.la k hk)
 · intro e;rw [List.mem_singleton.1 e] at hk;exact h.va_ne hk
 · exact h.lv k (h.lp k hk)
 · intro e;rw [List.mem_singleton.1 e] at hk;exact h.vp_ne hk
theorem Mem.below(h:Mem w b A n c all r va st vp ps sz L) (hb:Below w.heap.size w w'):Mem w' b A n c all r va st vp ps sz L:=
 (h.move (h.q.below hb) (bl_of hb)).1
theorem Mem.alloc(h:Mem w b A n c all r va st vp ps sz L) (o:Obj):Mem (w.alloc o) b A n c all r va st vp ps sz L:=h.below ((Below.refl _ _).alloc (Nat.le_refl _) o)
theorem Mem.drew(h:Mem w b A n c all r va st vp ps sz L):Mem w.drew b A n c all r va st vp ps sz L:=h.below (below_drewN (Below.refl _ _) 1)
theorem Mem.use(h:Mem w b A n c all r va st vp ps sz L) (hb:Below w.heap.size w w'){g:Nat}(hg:w.heap.size≤g) (hg2:g<w'.heap.size):Mem w' b A n c all r va st vp ps sz (g::L):=by
 have h1:=h.below hb;have ht:Tn [] L (g::L) w w':=(Tn.of_below hb).use hg;have hS:∀ k∈([]:List Nat),k∈L:=fun k hk=>absurd hk List.not_mem_nil;obtain⟨cs,h3,h4⟩:=h.op;refine⟨h1.row,h.rd.up ht.ups (ht.up hS),h1.len,h1.pre,h1.fin,h1.tks,h1.oa,⟨cs,own_other h3 fun k hk=>hb.block k (h.lv k (h.lp k hk)),flX_up ht.ups (ht.up hS) h4⟩,List.mem_cons_of_mem _ h.lb,fun k hk=>List.mem_cons_of_mem _ (h.la k hk),fun k hk=>List.mem_cons_of_mem _ (h.lp k hk),fun k hk=>?_⟩;rcases List.mem_cons.1 hk with rfl | hk
 · exact hg2
 · exact h1.lv k hk
end
end
section
open Go.RowKit Go.Sort
theorem infoFn:∃ i:TypeInfo,Tryz.prog.info? 1=some i∧i.size=1∧i.zero=some .nilFunc∧i.bytes=8:=by
 have h:(Tryz.prog.info? 1).map (fun i=>(i.size,i.zero,i.bytes))=some (1,some .nilFunc,8):=by kernel_rfl
 cases hq:Tryz.prog.info? 1 with
 | none=>rw [hq] at h;cases h
 | some i=>
  rw [hq] at h;simp only [Option.map_some,Option.some.injEq,Prod.mk.injEq] at h;exact⟨i,rfl,h.1,h.2.1,h.2.2⟩
def GoesV(w:World) (v v':Value):Prop:=v'.ownBlock=v.ownBlock∨∀ k,v'.ownBlock=some k→w.heap.size≤k
theorem GoesV.refl(w:World) (v:Value):GoesV w v v:=.inl rfl
theorem GoesV.trans{w w1:World}{v v1 v2:Value}(h:GoesV w v v1) (k:GoesV w1 v1 v2) (hs:w.heap.size≤w1.heap.size):GoesV w v v2:=by
 rcases k with k | k
 · rcases h with h | h
   · exact .inl (k.trans h)
   · exact .inr fun j hj=>h j (k ▸ hj)
 · exact .inr fun j hj=>Nat.le_trans hs (k j hj)
def pushS(b:Nat) (va:Value):List Nat:=b::va.ownBlock.toList
theorem pushS_b{b:Nat}{va:Value}:b∈pushS b va:=List.mem_cons_self
theorem pushS_a{b:Nat}{va:Value}{k:Nat}(h:va.ownBlock=some k):k∈pushS b va:=by simp [pushS,h]
theorem pushS_goes{w:World}{b:Nat}{va va1:Value}(h:GoesV w va va1):∀ k∈pushS b va1,k∈pushS b va∨w.heap.size≤k:=by
 intro k hk;simp only [pushS,List.mem_cons,Option.mem_toList] at hk;rcases hk with rfl | hk
 · exact .inl pushS_b
 · rcases h with h | h
   · exact .inl (pushS_a (h ▸ hk))
   · exact .inr (h k hk)
section
variable {w w':World}{b:Nat}{A:Option Addr}{n c:Nat}{all r r':List Tk}{va vp:Value}{st:List Value}{ps:List Ex}{sz:Nat}{L L' S:List Nat}
theorem mem_push{w1 w2:World}{g cap:Nat}{v:Value}(h:Mem w b A n c all r va st vp ps sz L) (hb:Below w.heap.size w w1)
 (hown:w2.ownsRow 0 1 1 (.slice (some ⟨g,0,none⟩) (st.length+1) cap) (st.length+1) (st.reverse++[v])) (hgr:w1.grownBy w2 va.ownBlock) (hat:va.ownBlock=some g∨g=w1.heap.size) (hlt:g<w2.heap.size):
 ∃ L',Mem (w2.setCell ⟨b,2,none⟩ (.slice (some ⟨g,0,none⟩) (st.length+1) cap)) b A n c all r (.slice (some ⟨g,0,none⟩) (st.length+1) cap) (v::st) vp ps sz L' ∧
  Tn (pushS b va) L L' w (w2.setCell ⟨b,2,none⟩ (.slice (some ⟨g,0,none⟩) (st.length+1) cap))∧GoesV w va (.slice (some ⟨g,0,none⟩) (st.length+1) cap):=by
 have h1:=h.below hb;have hbl:=h.lt;have hbl1:b<w1.heap.size:=Nat.lt_of_lt_of_le hbl hb.size;have hrow2:w2.heap[b]?=some (.cells (rdA (.slice A n c) ((n-r.length:Nat):Int) va vp sz) 60):=(hgr.block b hbl1 (fun e=>h.va_ne e.symm)).trans h1.row
 have hgb:g≠b:=by
  rcases hat with hat | hat
  · rintro rfl;exact h.va_ne hat
  · omega
 generalize hv':Value.slice (some ⟨g,0,none⟩) (st.length+1) cap=v' at *;have hvo:v'.ownBlock=some g:=by rw [← hv'];rfl
 have hL:∀ k∈g::L,k∈L∨w.heap.size≤k:=fun k hk=>by
  rcases List.mem_cons.1 hk with rfl | hk
  · rcases hat with hat | hat
    · exact .inl (h.la k hat)
    · exact .inr (by have:=hb.size;omega)
  · exact .inl hk
 have ht:Tn (pushS b va) L (g::L) w (w2.setCell ⟨b,2,none⟩ v'):=by
  refine⟨?_,?_,?_,?_,fun k hk hn=>?_,hL,fun k hk _=>List.mem_cons_of_mem _ hk⟩
  · exact hgr.os.trans hb.os
  · exact hgr.tape.trans hb.tape
  · exact hgr.output.trans hb.output
  · have:=hb.size;have:=hgr.size;simp;omega
  · have hkb:k≠b:=fun e=>hn (e ▸ pushS_b);have hka:some k≠va.ownBlock:=fun e=>hn (pushS_a e.symm);rw [heap_setCell_other _ _ _ _ (show k≠b from hkb),hgr.block k (Nat.lt_of_lt_of_le hk hb.size) hka,hb.block k hk]
 have hS:∀ k∈pushS b va,k∈L:=fun k hk=>by
  simp only [pushS,List.mem_cons,Option.mem_toList] at hk;rcases hk with rfl | hk
  · exact h.lb
  · exact h.la k hk
 obtain⟨cs,h3,h4⟩:=h.op;have hoth:∀ k,k≠b→(w2.setCell ⟨b,2,none⟩ v').heap[k]?=w2.heap[k]?:=fun k hk=>heap_setCell_other _ _ _ _ hk;refine⟨g::L,⟨?_,h.rd.up ht.ups (ht.up hS),h.len,h.pre,h.fin,h.tks,?_,⟨cs,own_other h3 fun k hk=>?_,flX_up ht.ups (ht.up hS) h4⟩,List.mem_cons_of_mem _ h.lb,fun k hk=>?_,fun k hk=>List.mem_cons_of_mem _ (h.lp k hk),fun k hk=>?_⟩,ht,?_⟩
 · rw [setCell_eq_setRow _ _ _ _ _ _ _ hrow2,setRow_heap _ _ _ _ _ _ hrow2];rfl
 · have:=own_other hown fun k hk=>hoth k (by rw [hvo] at hk;injection hk with hk;omega)
   simpa using this
 · have hkb:k≠b:=fun e=>h.vp_ne (e ▸ hk);have hk1:=h.lv k (h.lp k hk);rw [hoth k hkb,hgr.block k (Nat.lt_of_lt_of_le hk1 hb.size) (fun e=>h.vap e.symm hk),hb.block k hk1]
 · rw [hvo] at hk;injection hk with hk;exact hk ▸ List.mem_cons_self
 · have hs2:(w2.setCell ⟨b,2,none⟩ v').heap.size=w2.heap.size:=by simp
   rw [hs2];rcases List.mem_cons.1 hk with rfl | hk
   · exact hlt
   · have:=h.lv k hk;have:=hb.size;have:=hgr.size;omega
 · rcases hat with hat | hat
   · exact .inl (hvo.trans hat.symm)
   · refine .inr fun k hk=>?_;rw [hvo] at hk;injection hk with hk;have:=hb.size;omega
theorem push_cells{w1 w2:World}(h:Mem w b A n c all r va st vp ps sz L) (hgr:w1.grownBy w2 va.ownBlock) (hb:Below w.heap.size w w1):
 w2.cell? ⟨b,2,none⟩=some va∧w2.frozen? ⟨b,2,none⟩=false∧∀ g j v,g∉L→w.cell? ⟨g,j,none⟩=some v→w2.cell? ⟨g,j,none⟩=some v:=by
 have hbl1:b<w1.heap.size:=Nat.lt_of_lt_of_le h.lt hb.size;have hrow2:w2.heap[b]?=some (.cells (rdA (.slice A n c) ((n-r.length:Nat):Int) va vp sz) 60):=(hgr.block b hbl1 (fun e=>h.va_ne e.symm)).trans (h.below hb).row;refine⟨?_,?_,fun g j v hg hv=>?_⟩
 · unfold World.cell?;rw [hrow2];rfl
 · unfold World.frozen?;rw [hrow2]
   simp
 · have hlt:=World.block_lt_of_cell? w _ hv;have e:=(hgr.block g (Nat.lt_of_lt_of_le hlt hb.size) (fun e=>hg (h.la g e.symm))).trans (hb.block g hlt);unfold World.cell? at hv ⊢;rw [e];exact hv
theorem drop_back{l:List Value}{i:Nat}(h:i<l.length):l.drop (l.length-(i+1))=(l[l.length-1-i]?.getD default)::l.drop (l.length-i):=by
 have e:l.length-(i+1)<l.length:=by omega
 rw [List.drop_eq_getElem_cons e];have e2:l.length-(i+1)=l.length-1-i:=by omega
 have e3:l.length-(i+1)+1=l.length-i:=by omega
 rw [e3]
 congr 1
 rw [List.getElem?_eq_getElem (by omega)]
 simp [e2]
theorem rrNext(l:List Value) (g c1:Nat) (hl:l.length≤100) (h:Mem w b A n c all r va st vp ps sz L) (hst:st.length≤2000000) (hgl:g<w.heap.size) (hgL:g∉L)
 (hc:∀ j,j<l.length→w.cell? ⟨g,j,none⟩=some (l[j]?.getD default)) (h1:∀ v∈l,∃ fn a c,v=.func fn a c):
 Calls Tryz.prog 50 #[rp b,.slice (some ⟨g,0,none⟩) l.length c1] w fun e w'=>e=.returned (.tuple #[]) ∧
  ∃ va' L',Mem w' b A n c all r va' (l++st) vp ps sz L'∧Tn (pushS b va) L L' w w'∧GoesV w va va':=by
 obtain⟨i0,hi,hz0,hz1,hz2⟩:=infoFn;have HM:=Hd h
 have HC:=Hd fun w1 (L1:List Nat) (ht:Tn (pushS b va) L L1 w w1) j (hj:j<l.length)=>(show w1.cell? ⟨g,j,none⟩=some (l[j]?.getD default) by
  have hS:∀ k∈pushS b va,k∈L:=fun k hk=>by
   simp only [pushS,List.mem_cons,Option.mem_toList] at hk;rcases hk with rfl | hk
   · exact h.lb
   · exact h.la k hk
  exact(bls_some (ht.up hS _ _ (by rw [bls_cell hgL];exact hc j hj))).1)
 have HD:=Hd fun i (hi:i<l.length)=>drop_back (l:=l) hi;have HO:=Hd fun j (hj:j<l.length)=>h1 (l[j]?.getD default) (by rw [List.getElem?_eq_getElem hj];exact List.getElem_mem _);have HD0:=Hd (show l.drop (l.length-0)=[] by simp);have HDn:=Hd (show l.drop (l.length-l.length)=l by simp);have hlv:=h.lv;have HGL:=Hd fun(L1:List Nat) w1 (ht:Tn (pushS b va) L L1 w w1)=>(show g∉L1 from fun hk=>(ht.live g hk).elim hgL fun h2=>by omega);generalize hlen:l.length=len at *;clear h hc h1 hgL
 go_enter Tryz.func50,Tryz.ntmps50
 go_wp2_with fail
 go_loopw [7] (fun i wr=>∃ k:Nat,k≤len∧i=.int .i64 k∧∃ va' L',Mem wr b A n c all r va' (l.drop (len-k)++st) vp ps sz L'∧Tn (pushS b va) L L' w wr∧GoesV w va va') (fun i _=>len-(intOf i).toNat)
 case atStart=>
  refine⟨0,Nat.zero_le _,rfl,va,L,?_,Tn.refl _ _ _,GoesV.refl _ _⟩;rw [HD0.out];exact HM.out
 case round=>
  obtain⟨k,hk,rfl,va1,L1,hM1,hT1,hG1⟩:=hrel;have HM1:=Hd hM1;have HT1:=Hd hT1;have HG1:=Hd hG1;clear hM1 hT1 hG1
  by_cases hlt:k<len
  · have hj:len-1-k<len:=by omega
    have g0:=HC.out wr L1 HT1.out (len-1-k) hj;have ho:=HO.out (len-1-k) hj;have HDK:=Hd (HD.out k hlt);have c2:wr.cell? ⟨b,2,none⟩=some va1:=HM1.out.cell 2;have hbl:=HM1.out.lt;have hgw:g<wr.heap.size:=Nat.lt_of_lt_of_le hgl HT1.out.size;have hst1:(l.drop (len-k)++st).length=k+st.length:=by rw [List.length_append,List.length_drop,hlen];omega
    have hw1:IntKind.i64.wrap ((len:Int)-1)=((len-1:Nat):Int):=by rw [IntKind.wrap_i64];omega
    have hw2:IntKind.i64.wrap (((len-1:Nat):Int)-(k:Int))=((len-1-k:Nat):Int):=by rw [IntKind.wrap_i64];omega
    have hj0:(0:Int)≤((len-1-k:Nat):Int):=by omega
    have hj1:((len-1-k:Nat):Int)<(len:Int):=by omega
    generalize len-1-k=j at *;obtain⟨fn,fa,fc,hv⟩:=ho;rw [hv] at g0 HDK;clear hv
    go_upto_region 3 with(fail)
    go_region_law
     ((refine step_append_lies _ (by rfl) _ _ _ (by rfl) 0 1 i0 .nilFunc 1 8 Tryz.underlying58 hi hz1 hz0 hz2 rfl (by decide) va1 (k+st.length) (l.drop (len-k)++st).reverse (by rfl) (by rw [← hst1];exact HM1.out.alloc _ |>.oa) ⟨wr.heap.size,0,none⟩ 1 1 [.func fn fa fc] (by rfl) rfl (cell_one_new _ _ _) (fun u hu=>by rw [List.mem_singleton.1 hu];rfl) (by omega) (by unfold maxLen;omega) (by omega) (Nat.zero_le _) _ rfl ?_
       intro g1 cap1 w4 hown4 hgrow4 hat4 hlt4;obtain⟨d2,f2,dk⟩:=push_cells HM1.out hgrow4 (by first | exact((Below.refl _ _).alloc (Nat.le_refl _) _) | exact((Below.refl _ _).alloc (Nat.le_refl _) _).drew);have d0:=dk g j _ (HGL.out L1 wr HT1.out) g0;clear dk))
    go_wp2_with fail
    all_goals
     have hp:=mem_push (v:=.func fn fa fc) (g:=g1) (cap:=cap1) (w2:=w4) HM1.out (show Below wr.heap.size wr (wr.alloc (Obj.cells #[Value.func fn fa fc] 1)).drew from((Below.refl _ _).alloc (Nat.le_refl _) _).drew);rw [hst1] at hp;obtain⟨L2,hM2,hT2,hG2⟩:=hp hown4 hgrow4 hat4 hlt4;have HM2:=Hd hM2;have HT2:=Hd (HT1.out.trans hT2 hlv (pushS_goes HG1.out));have HG2:=Hd (HG1.out.trans hG2 HT1.out.size);clear hp hM2 hT2 hG2
     go_roundw
     case rel=>
      refine⟨k+1,by omega,by go_num,_,L2,?_,HT2.out,HG2.out⟩;rw [HDK.out];exact HM2.out
     case measure=>simp [intOf];omega
  · have hkl:k=len:=by omega
    subst hkl
    go_wp2_with fail
    go_end0
    rw [HDn.out] at HM1;exact⟨rfl,va1,L1,HM1.out,HT1.out,HG1.out⟩
end
end
end Go.Proofs.YtokiaaapgkdpmaaGreatDoor
