/- Parts of the proof: ExV, EyI, EyF, EyA, EyJ. Conditions: each theorem's own. -/
import Derived.RangeFuncNested
import Derived.RangeFuncBound
import Derived.RangeFuncCalls
import Derived.RangeFuncLeaves
import Derived.Shelf.Abstract
import Derived.Shelf.RegionOpen
import Derived.OwnWalkIn
import Derived.TacticsInMore
import Derived.LoopNIn
import Derived.LoopIn
import Derived.RangeFuncBox
import Derived.Test.YtegjgiofmpolnaaGreatC04
namespace Go.Proofs.YtegjgiofmpolnaaGreat
set_option linter.unusedVariables false
set_option linter.unusedSimpArgs false
set_option maxRecDepth 100000
set_option maxHeartbeats 40000000
section
open Go.RowKit Go.Sort Go.Shelf
theorem Ym:type_of% @World.cell?_of_block:=@World.cell?_of_block
theorem Zd:type_of% @List.length_nil:=@List.length_nil
theorem Ze:type_of% @List.nil_append:=@List.nil_append
end
section
open Go.RowKit Go.Sort
def cL(p:Ex):Prop:=p.s.size<=1000/\(∀ t∈p.arms,t.size<=9223372036854775807)/\p.arms.length<=100
theorem cL.of_few{p:Ex}(h:iQ p=true):cL p:=by
 simp only [iQ,Ys,Bool.not_eq_true',decide_eq_false_iff_not,Zf] at h;obtain⟨⟨h1,h2⟩,h3⟩:=h;refine⟨by omega,fun t ht=>?_,by omega⟩;have:=h3 t ht;simp only [nH,Bool.not_eq_true',decide_eq_false_iff_not] at this;omega
def bA(x:Ex):Bool:=decide (1<=x.k) && decide (x.k<=17) && eO x && fC x && dS x && decide ((dA x).1<=x.subs.length) && decide ((x.subs.length:Int)<=(dA x).2) && ((x.k != 8) || dC (aU x 0))
def bB(x:Ex):Bool:=!decide (60<bG x) && !decide (12<gF x) && (bI x).all bA
theorem aAy{x:Ex}(h:eO x=true) (hk:x.k=13):x.n=0\/x.n=1:=by
 unfold eO at h;rw [hk] at h
 simp at h
 exact h.2
theorem yP{x:Ex}(hk:x.k=8):dA x=(2,2):=by
 unfold dA;rw [hk];rfl
theorem aOy(x:Ex) (A:Option Addr) (ca:Nat) (B:Option Addr) (cb:Nat) (w:World) (hr:aJ w x A B) (Aw:cL x):
 Calls Tryz.prog 37 #[.agg (aE x A ca B cb)] w fun e w'=>e=.returned (.bool (bA x))/\Below w.heap.size w w':=by
 have HF:=Hd fun w1 h=>eC w x A ca B cb w1 h hr;have HS:=Hd (show bA x=(decide (1<=x.k) && decide (x.k<=17) && eO x && fC x && dS x && decide ((dA x).1<=x.subs.length) && decide ((x.subs.length:Int)<=(dA x).2) && ((x.k != 8) || dC (aU x 0))) from rfl);have Aq:=Hd fun w1 (h:Below w.heap.size w w1)=>aHq x A ca B cb w1 (hr.below h);have As:=Hd fun w1 (h:Below w.heap.size w w1)=>aMa x A ca B cb w1 (hr.below h) Aw.1;have Av:=Hd fun w1 (h:Below w.heap.size w w1)=>aOw x A ca B cb w1 (hr.below h) Aw.2.1 Aw.2.2;have Au:=Hd fun w1 (h:Below w.heap.size w w1) (hn:x.k=13->x.n=0\/x.n=1)=>aOx x A ca B cb w1 (hr.below h) hn;have Am:=Hd (aAy (x:=x));have Ba:=Hd (yP (x:=x));have Bp:=hr.subs.max;clear hr Aw;unfold aE at HF Aq As Av Au ⊢;generalize bA x=An at *;generalize eO x=Bj at *;generalize fC x=Bd at *;generalize dS x=Bl at *;generalize Bm:dA x=su at *;obtain⟨lo,hi⟩:=su;clear Bm;simp only at HS Au Ba;generalize x.k=k at *;generalize x.n=m at *;generalize Bi:x.subs.length=n at *
 by_cases h1:k<1
 . have HN:=Hd (show An=false by rw [HS.o,Zy (show ¬ 1<=k by omega)];rfl)
   go_enter Tryz.func37,Tryz.ntmps37
   go_upto_region 1 with(fail)
   generalize Ad:w.alloc _=w1;obtain⟨Ac,hg,Ae,Aa⟩:=HF.o w1 Ad;have Ab:=Hd Ac;have HC:=Hd Aa;have Ao:=Hd Ae;have Ah:=Hd (Yg w1.heap.size w1);obtain⟨q0,q1,q2,q3,q4,q5⟩:=Sx (Aa w1 (Yg _ _));clear Aa Ac Ae Ad HF
   go_wp2_with fail
   go_ret
   exact⟨aF HN.o.symm,Ab.o⟩
 by_cases Br:17<k
 . have HN:=Hd (show An=false by rw [HS.o,Zy (show ¬ k<=17 by omega)];simp)
   go_enter Tryz.func37,Tryz.ntmps37
   go_upto_region 1 with(fail)
   generalize Ad:w.alloc _=w1;obtain⟨Ac,hg,Ae,Aa⟩:=HF.o w1 Ad;have Ab:=Hd Ac;have HC:=Hd Aa;have Ao:=Hd Ae;have Ah:=Hd (Yg w1.heap.size w1);obtain⟨q0,q1,q2,q3,q4,q5⟩:=Sx (Aa w1 (Yg _ _));clear Aa Ac Ae Ad HF
   go_wp2_with fail
   go_ret
   exact⟨aF HN.o.symm,Ab.o⟩
 rw [Zx (show 1<=k by omega),Zx (show k<=17 by omega)] at HS
 cases Bj with
 | false=>
  have HN:=Hd (show An=false by rw [HS.o];simp)
  go_enter Tryz.func37,Tryz.ntmps37
  go_upto_region 1 with(fail)
  generalize Ad:w.alloc _=w1;obtain⟨Ac,hg,Ae,Aa⟩:=HF.o w1 Ad;have Ab:=Hd Ac;have HC:=Hd Aa;have Ao:=Hd Ae;have Ah:=Hd (Yg w1.heap.size w1);obtain⟨q0,q1,q2,q3,q4,q5⟩:=Sx (Aa w1 (Yg _ _));clear Aa Ac Ae Ad HF
  go_wp2_with fail
  refine(Aq.o w1 Ab.o).mono ?_;rintro r w2 ⟨rfl,hb⟩;have Ag:=Hd (Ab.o.trans (hb.mono Ab.o.size));have Af:=Hd (Ah.o.trans (hb.mono Ah.o.size));clear hb q0 q1 q2 q3 q4 q5;obtain⟨q0,q1,q2,q3,q4,q5⟩:=Sx (HC.o w2 Af.o)
  go_wp2_with fail
  go_ret
  exact⟨aF HN.o.symm,Ag.o⟩
 | true=>
  cases Bd with
  | false=>
   have HN:=Hd (show An=false by rw [HS.o];simp)
   go_enter Tryz.func37,Tryz.ntmps37
   go_upto_region 1 with(fail)
   generalize Ad:w.alloc _=w1;obtain⟨Ac,hg,Ae,Aa⟩:=HF.o w1 Ad;have Ab:=Hd Ac;have HC:=Hd Aa;have Ao:=Hd Ae;have Ah:=Hd (Yg w1.heap.size w1);obtain⟨q0,q1,q2,q3,q4,q5⟩:=Sx (Aa w1 (Yg _ _));clear Aa Ac Ae Ad HF
   go_wp2_with fail
   refine(Aq.o w1 Ab.o).mono ?_;rintro r w2 ⟨rfl,hb⟩;have Ag:=Hd (Ab.o.trans (hb.mono Ab.o.size));have Af:=Hd (Ah.o.trans (hb.mono Ah.o.size));clear hb q0 q1 q2 q3 q4 q5;obtain⟨q0,q1,q2,q3,q4,q5⟩:=Sx (HC.o w2 Af.o)
   go_wp2_with fail
   refine(As.o w2 Ag.o).mono ?_;rintro r w3 ⟨rfl,hb⟩;have Ai:=Hd (Ag.o.trans (hb.mono Ag.o.size));have Aj:=Hd (Af.o.trans (hb.mono Af.o.size));clear hb q0 q1 q2 q3 q4 q5;obtain⟨q0,q1,q2,q3,q4,q5⟩:=Sx (HC.o w3 Aj.o)
   go_wp2_with fail
   go_ret
   exact⟨aF HN.o.symm,Ai.o⟩
  | true=>
   cases Bl with
   | false=>
    have HN:=Hd (show An=false by rw [HS.o];simp)
    go_enter Tryz.func37,Tryz.ntmps37
    go_upto_region 1 with(fail)
    generalize Ad:w.alloc _=w1;obtain⟨Ac,hg,Ae,Aa⟩:=HF.o w1 Ad;have Ab:=Hd Ac;have HC:=Hd Aa;have Ao:=Hd Ae;have Ah:=Hd (Yg w1.heap.size w1);obtain⟨q0,q1,q2,q3,q4,q5⟩:=Sx (Aa w1 (Yg _ _));clear Aa Ac Ae Ad HF
    go_wp2_with fail
    refine(Aq.o w1 Ab.o).mono ?_;rintro r w2 ⟨rfl,hb⟩;have Ag:=Hd (Ab.o.trans (hb.mono Ab.o.size));have Af:=Hd (Ah.o.trans (hb.mono Ah.o.size));clear hb q0 q1 q2 q3 q4 q5;obtain⟨q0,q1,q2,q3,q4,q5⟩:=Sx (HC.o w2 Af.o)
    go_wp2_with fail
    refine(As.o w2 Ag.o).mono ?_;rintro r w3 ⟨rfl,hb⟩;have Ai:=Hd (Ag.o.trans (hb.mono Ag.o.size));have Aj:=Hd (Af.o.trans (hb.mono Af.o.size));clear hb q0 q1 q2 q3 q4 q5;obtain⟨q0,q1,q2,q3,q4,q5⟩:=Sx (HC.o w3 Aj.o)
    go_wp2_with fail
    refine(Av.o w3 Ai.o).mono ?_;rintro r w4 ⟨rfl,hb⟩;have Ak:=Hd (Ai.o.trans (hb.mono Ai.o.size));have Al:=Hd (Aj.o.trans (hb.mono Aj.o.size));clear hb q0 q1 q2 q3 q4 q5;obtain⟨q0,q1,q2,q3,q4,q5⟩:=Sx (HC.o w4 Al.o)
    go_wp2_with fail
    go_ret
    exact⟨aF HN.o.symm,Ak.o⟩
   | true=>
    by_cases Bq:(n:Int)<lo
    . have HN:=Hd (show An=false by rw [HS.o,Zy (show ¬ lo<=(n:Int) by omega)];simp)
      go_enter Tryz.func37,Tryz.ntmps37
      go_upto_region 1 with(fail)
      generalize Ad:w.alloc _=w1;obtain⟨Ac,hg,Ae,Aa⟩:=HF.o w1 Ad;have Ab:=Hd Ac;have HC:=Hd Aa;have Ao:=Hd Ae;have Ah:=Hd (Yg w1.heap.size w1);obtain⟨q0,q1,q2,q3,q4,q5⟩:=Sx (Aa w1 (Yg _ _));clear Aa Ac Ae Ad HF
      go_wp2_with fail
      refine(Aq.o w1 Ab.o).mono ?_;rintro r w2 ⟨rfl,hb⟩;have Ag:=Hd (Ab.o.trans (hb.mono Ab.o.size));have Af:=Hd (Ah.o.trans (hb.mono Ah.o.size));clear hb q0 q1 q2 q3 q4 q5;obtain⟨q0,q1,q2,q3,q4,q5⟩:=Sx (HC.o w2 Af.o)
      go_wp2_with fail
      refine(As.o w2 Ag.o).mono ?_;rintro r w3 ⟨rfl,hb⟩;have Ai:=Hd (Ag.o.trans (hb.mono Ag.o.size));have Aj:=Hd (Af.o.trans (hb.mono Af.o.size));clear hb q0 q1 q2 q3 q4 q5;obtain⟨q0,q1,q2,q3,q4,q5⟩:=Sx (HC.o w3 Aj.o)
      go_wp2_with fail
      refine(Av.o w3 Ai.o).mono ?_;rintro r w4 ⟨rfl,hb⟩;have Ak:=Hd (Ai.o.trans (hb.mono Ai.o.size));have Al:=Hd (Aj.o.trans (hb.mono Aj.o.size));clear hb q0 q1 q2 q3 q4 q5;obtain⟨q0,q1,q2,q3,q4,q5⟩:=Sx (HC.o w4 Al.o)
      go_wp2_with fail
      refine(Au.o w4 Ak.o (Am.o (by first | trivial | rfl))).mono ?_;rintro r w5 ⟨rfl,hb⟩;have Ap:=Hd (Ak.o.trans (hb.mono Ak.o.size));have Ar:=Hd (Al.o.trans (hb.mono Al.o.size));clear hb q0 q1 q2 q3 q4 q5;obtain⟨q0,q1,q2,q3,q4,q5⟩:=Sx (HC.o w5 Ar.o)
      go_wp2_with fail
      go_ret
      exact⟨aF HN.o.symm,Ap.o⟩
    by_cases Bo:hi<(n:Int)
    . have HN:=Hd (show An=false by rw [HS.o,Zy (show ¬ (n:Int)<=hi by omega)];simp)
      go_enter Tryz.func37,Tryz.ntmps37
      go_upto_region 1 with(fail)
      generalize Ad:w.alloc _=w1;obtain⟨Ac,hg,Ae,Aa⟩:=HF.o w1 Ad;have Ab:=Hd Ac;have HC:=Hd Aa;have Ao:=Hd Ae;have Ah:=Hd (Yg w1.heap.size w1);obtain⟨q0,q1,q2,q3,q4,q5⟩:=Sx (Aa w1 (Yg _ _));clear Aa Ac Ae Ad HF
      go_wp2_with fail
      refine(Aq.o w1 Ab.o).mono ?_;rintro r w2 ⟨rfl,hb⟩;have Ag:=Hd (Ab.o.trans (hb.mono Ab.o.size));have Af:=Hd (Ah.o.trans (hb.mono Ah.o.size));clear hb q0 q1 q2 q3 q4 q5;obtain⟨q0,q1,q2,q3,q4,q5⟩:=Sx (HC.o w2 Af.o)
      go_wp2_with fail
      refine(As.o w2 Ag.o).mono ?_;rintro r w3 ⟨rfl,hb⟩;have Ai:=Hd (Ag.o.trans (hb.mono Ag.o.size));have Aj:=Hd (Af.o.trans (hb.mono Af.o.size));clear hb q0 q1 q2 q3 q4 q5;obtain⟨q0,q1,q2,q3,q4,q5⟩:=Sx (HC.o w3 Aj.o)
      go_wp2_with fail
      refine(Av.o w3 Ai.o).mono ?_;rintro r w4 ⟨rfl,hb⟩;have Ak:=Hd (Ai.o.trans (hb.mono Ai.o.size));have Al:=Hd (Aj.o.trans (hb.mono Aj.o.size));clear hb q0 q1 q2 q3 q4 q5;obtain⟨q0,q1,q2,q3,q4,q5⟩:=Sx (HC.o w4 Al.o)
      go_wp2_with fail
      refine(Au.o w4 Ak.o (Am.o (by first | trivial | rfl))).mono ?_;rintro r w5 ⟨rfl,hb⟩;have Ap:=Hd (Ak.o.trans (hb.mono Ak.o.size));have Ar:=Hd (Al.o.trans (hb.mono Al.o.size));clear hb q0 q1 q2 q3 q4 q5;obtain⟨q0,q1,q2,q3,q4,q5⟩:=Sx (HC.o w5 Ar.o)
      go_wp2_with fail
      go_ret
      exact⟨aF HN.o.symm,Ap.o⟩
    rw [Zx (show lo<=(n:Int) by omega),Zx (show(n:Int)<=hi by omega)] at HS
    by_cases h8:k=8
    . have Bg:=Ba.o h8;injection Bg with Az Ax;subst Az Ax h8;have HN:=Hd (show An=dC (aU x 0) by rw [HS.o];simp)
      go_enter Tryz.func37,Tryz.ntmps37
      go_upto_region 1 with(fail)
      generalize Ad:w.alloc _=w1;obtain⟨Ac,hg,Ae,Aa⟩:=HF.o w1 Ad;have Ab:=Hd Ac;have HC:=Hd Aa;have Ao:=Hd Ae;have Ah:=Hd (Yg w1.heap.size w1);obtain⟨q0,q1,q2,q3,q4,q5⟩:=Sx (Aa w1 (Yg _ _));clear Aa Ac Ae Ad HF
      go_wp2_with fail
      refine(Aq.o w1 Ab.o).mono ?_;rintro r w2 ⟨rfl,hb⟩;have Ag:=Hd (Ab.o.trans (hb.mono Ab.o.size));have Af:=Hd (Ah.o.trans (hb.mono Ah.o.size));clear hb q0 q1 q2 q3 q4 q5;obtain⟨q0,q1,q2,q3,q4,q5⟩:=Sx (HC.o w2 Af.o)
      go_wp2_with fail
      refine(As.o w2 Ag.o).mono ?_;rintro r w3 ⟨rfl,hb⟩;have Ai:=Hd (Ag.o.trans (hb.mono Ag.o.size));have Aj:=Hd (Af.o.trans (hb.mono Af.o.size));clear hb q0 q1 q2 q3 q4 q5;obtain⟨q0,q1,q2,q3,q4,q5⟩:=Sx (HC.o w3 Aj.o)
      go_wp2_with fail
      refine(Av.o w3 Ai.o).mono ?_;rintro r w4 ⟨rfl,hb⟩;have Ak:=Hd (Ai.o.trans (hb.mono Ai.o.size));have Al:=Hd (Aj.o.trans (hb.mono Aj.o.size));clear hb q0 q1 q2 q3 q4 q5;obtain⟨q0,q1,q2,q3,q4,q5⟩:=Sx (HC.o w4 Al.o)
      go_wp2_with fail
      refine(Au.o w4 Ak.o (Am.o (by first | trivial | rfl))).mono ?_;rintro r w5 ⟨rfl,hb⟩;have Ap:=Hd (Ak.o.trans (hb.mono Ak.o.size));have Ar:=Hd (Al.o.trans (hb.mono Al.o.size));clear hb q0 q1 q2 q3 q4 q5;obtain⟨q0,q1,q2,q3,q4,q5⟩:=Sx (HC.o w5 Ar.o);obtain⟨b,Bn,rfl,hb,Bc⟩:=(Ao.o.below Ar.o).sub (i:=0) (by omega);obtain⟨A',Bh,B',Be,Ay,Bb⟩:=Bc 0 (by omega);rw [Nat.zero_mul,Nat.add_zero] at Ay;obtain⟨c0,c1,c2,c3,c4,c5⟩:=eG Ay;have Bf:=Hd (tQ (aU x 0) A' Bh B' Be w5 Bb);clear Bc Ay Bb;generalize dC (aU x 0)=Bt at *
      go_wp2_with fail
      refine Bf.o.mono ?_;rintro r w6 ⟨rfl,hb⟩;have Bk:=Hd (Ap.o.trans (hb.mono Ap.o.size));clear hb
      go_wp2_with fail
      go_ret
      exact⟨aF HN.o.symm,Bk.o⟩
    have e8:(k==8)=false:=by simpa using h8
    have n8:(k != 8)=true:=by rw [bne,e8];rfl
    have HN:=Hd (show An=true by rw [HS.o,n8];rfl)
    go_enter Tryz.func37,Tryz.ntmps37
    go_upto_region 1 with(fail)
    generalize Ad:w.alloc _=w1;obtain⟨Ac,hg,Ae,Aa⟩:=HF.o w1 Ad;have Ab:=Hd Ac;have HC:=Hd Aa;have Ao:=Hd Ae;have Ah:=Hd (Yg w1.heap.size w1);obtain⟨q0,q1,q2,q3,q4,q5⟩:=Sx (Aa w1 (Yg _ _));clear Aa Ac Ae Ad HF
    go_wp2_with fail
    refine(Aq.o w1 Ab.o).mono ?_;rintro r w2 ⟨rfl,hb⟩;have Ag:=Hd (Ab.o.trans (hb.mono Ab.o.size));have Af:=Hd (Ah.o.trans (hb.mono Ah.o.size));clear hb q0 q1 q2 q3 q4 q5;obtain⟨q0,q1,q2,q3,q4,q5⟩:=Sx (HC.o w2 Af.o)
    go_wp2_with fail
    refine(As.o w2 Ag.o).mono ?_;rintro r w3 ⟨rfl,hb⟩;have Ai:=Hd (Ag.o.trans (hb.mono Ag.o.size));have Aj:=Hd (Af.o.trans (hb.mono Af.o.size));clear hb q0 q1 q2 q3 q4 q5;obtain⟨q0,q1,q2,q3,q4,q5⟩:=Sx (HC.o w3 Aj.o)
    go_wp2_with fail
    refine(Av.o w3 Ai.o).mono ?_;rintro r w4 ⟨rfl,hb⟩;have Ak:=Hd (Ai.o.trans (hb.mono Ai.o.size));have Al:=Hd (Aj.o.trans (hb.mono Aj.o.size));clear hb q0 q1 q2 q3 q4 q5;obtain⟨q0,q1,q2,q3,q4,q5⟩:=Sx (HC.o w4 Al.o)
    go_wp2_with fail
    refine(Au.o w4 Ak.o (Am.o (by first | trivial | rfl))).mono ?_;rintro r w5 ⟨rfl,hb⟩;have Ap:=Hd (Ak.o.trans (hb.mono Ak.o.size));have Ar:=Hd (Al.o.trans (hb.mono Al.o.size));clear hb q0 q1 q2 q3 q4 q5;obtain⟨q0,q1,q2,q3,q4,q5⟩:=Sx (HC.o w5 Ar.o)
    go_wp2_with fail
    go_ret
    exact⟨aF HN.o.symm,Ap.o⟩
theorem tR(x:Ex) (A:Option Addr) (ca:Nat) (B:Option Addr) (cb:Nat) (w:World) (hr:aJ w x A B) (hs:bG x<=1000000) (Ay:∀ p∈bI x,cL p):
 Calls Tryz.prog 11 #[.agg (aE x A ca B cb)] w fun e w'=>e=.returned (.bool (bB x))/\Below w.heap.size w w':=by
 have HF:=Hd fun w1 h=>eC w x A ca B cb w1 h hr;have HS:=Hd (show bB x=(!decide (60<bG x) && !decide (12<gF x) && (bI x).all bA) from rfl);have Ak:=Hd fun w1 (h:Below w.heap.size w w1)=>aOq x A ca B cb w1 (hr.below h) hs;have Ar:=Hd fun w1 (h:Below w.heap.size w w1)=>aLv x A ca B cb w1 (hr.below h) hs;have As:=Hd fun w1 (h:Below w.heap.size w w1)=>wX x A ca B cb w w1 hr h hs;have Bd:=Hd (pV x);have Bi:=Hd fun i (hi:i<(bI x).length)=>Ay ((bI x)[i]?.getD default) (by rw [Yk hi];exact Zg _);have Bp:=pW x;have Bu:=qC x;clear hr Ay;unfold aE at HF Ak Ar As ⊢;generalize bB x=Aq at *;have Bn:Hid (∃ l,l=bI x):=Hd ⟨_,rfl⟩
 by_cases Bg:60<bG x
 . have HN:=Hd (show Aq=false by rw [HS.o];simp [Bg]);generalize bG x=n at *
   go_enter Tryz.func11,Tryz.ntmps11
   go_upto_region 1 with(fail)
   generalize Ae:w.alloc _=w1;obtain⟨Ad,hg,Af,Aa⟩:=HF.o w1 Ae;have Ab:=Hd Ad;have HC:=Hd Aa;have Bf:=Hd Af;have Ah:=Hd (Yg w1.heap.size w1);obtain⟨q0,q1,q2,q3,q4,q5⟩:=Sx (Aa w1 (Yg _ _));clear Aa Ad Af Ae HF
   go_wp2_with fail
   refine(Ak.o w1 Ab.o).mono ?_;rintro r w2 ⟨rfl,hb⟩;have Ac:=Hd (Ab.o.trans (hb.mono Ab.o.size));clear hb
   go_wp2_with fail
   go_ret
   exact⟨aF HN.o.symm,Ac.o⟩
 by_cases Bb:12<gF x
 . have HN:=Hd (show Aq=false by rw [HS.o];simp [Bb]);generalize bG x=n at *;generalize gF x=d at *
   go_enter Tryz.func11,Tryz.ntmps11
   go_upto_region 1 with(fail)
   generalize Ae:w.alloc _=w1;obtain⟨Ad,hg,Af,Aa⟩:=HF.o w1 Ae;have Ab:=Hd Ad;have HC:=Hd Aa;have Bf:=Hd Af;have Ah:=Hd (Yg w1.heap.size w1);obtain⟨q0,q1,q2,q3,q4,q5⟩:=Sx (Aa w1 (Yg _ _));clear Aa Ad Af Ae HF
   go_wp2_with fail
   refine(Ak.o w1 Ab.o).mono ?_;rintro r w2 ⟨rfl,hb⟩;have Ac:=Hd (Ab.o.trans (hb.mono Ab.o.size));have Ag:=Hd (Ah.o.trans (hb.mono Ah.o.size));clear hb q0 q1 q2 q3 q4 q5;obtain⟨q0,q1,q2,q3,q4,q5⟩:=Sx (HC.o w2 Ag.o)
   go_wp2_with fail
   refine(Ar.o w2 Ac.o).mono ?_;rintro r w3 ⟨rfl,hb⟩;have Am:=Hd (Ac.o.trans (hb.mono Ac.o.size));have Ax:=Hd (Ag.o.trans (hb.mono Ag.o.size));clear hb q0 q1 q2 q3 q4 q5;obtain⟨q0,q1,q2,q3,q4,q5⟩:=Sx (HC.o w3 Ax.o)
   go_wp2_with fail
   go_ret
   exact⟨aF HN.o.symm,Am.o⟩
 have Az:=Hd (show Aq=(bI x).all bA by rw [HS.o];simp [Bg,Bb]);generalize gF x=d at *
 go_enter Tryz.func11,Tryz.ntmps11
 go_upto_region 1 with(fail)
 generalize Ae:w.alloc _=w1;obtain⟨Ad,hg,Af,Aa⟩:=HF.o w1 Ae;have Ab:=Hd Ad;have HC:=Hd Aa;have Bf:=Hd Af;have Ah:=Hd (Yg w1.heap.size w1);obtain⟨q0,q1,q2,q3,q4,q5⟩:=Sx (Aa w1 (Yg _ _));clear Aa Ad Af Ae HF
 go_wp2_with fail
 refine(Ak.o w1 Ab.o).mono ?_;rintro r w2 ⟨rfl,hb⟩;have Ac:=Hd (Ab.o.trans (hb.mono Ab.o.size));have Ag:=Hd (Ah.o.trans (hb.mono Ah.o.size));clear hb q0 q1 q2 q3 q4 q5;obtain⟨q0,q1,q2,q3,q4,q5⟩:=Sx (HC.o w2 Ag.o)
 go_wp2_with fail
 refine(Ar.o w2 Ac.o).mono ?_;rintro r w3 ⟨rfl,hb⟩;have Am:=Hd (Ac.o.trans (hb.mono Ac.o.size));have Ax:=Hd (Ag.o.trans (hb.mono Ag.o.size));clear hb q0 q1 q2 q3 q4 q5;obtain⟨q0,q1,q2,q3,q4,q5⟩:=Sx (HC.o w3 Ax.o)
 go_wp2_with fail
 refine(As.o w3 Am.o).mono ?_;rintro r w4 ⟨A2,c2,Bq,rfl,Ai,Ap,hb,_⟩;have Al:=Hd (Am.o.trans (hb.mono Am.o.size));have Bm:=Hd (Ai.rd Ap Al.o);clear Ai Ap hb q0 q1 q2 q3 q4 q5 As Ak Ar HS Bn;generalize bI x=l at *;generalize bG x=n at *
 go_wp2_with fail
 go_loopw [4] (fun i wr=>∃ k:Nat,k<=n/\i=.int .i64 k/\(l.take k).all bA=true/\Below w4.heap.size w4 wr) (fun i _=>n-(intOf i).toNat)
 case atStart=>exact⟨0,Yq _,rfl,by simp,Yg _ _⟩
 case round=>
  obtain⟨k,hk,rfl,Aj,Av⟩:=hrel;have HA:=Hd Aj;have Ao:=Hd Av;clear Aj
  by_cases Aw:k<n
  . obtain⟨b,Br,rfl,hb,Bc⟩:=(Bm.o.below Av).at_ Aw;obtain⟨A',Bk,B',Bh,Be,Ba⟩:=Bc k Aw;obtain⟨c0,c1,Bt,c3,c4,c5⟩:=eG Be;have HK:=Hd (show k<l.length by rw [Bd.o];exact Aw);have Bj:=Hd (Bi.o k HK.o);have Bo:=Hd fun h=>mR (l:=l) (f:=bA) (i:=k) HK.o h;have Bl:=Hd fun h=>oS (l:=l) (f:=bA) (k:=k) HK.o HA.o h;clear Bc Be Av;generalize l[k]?.getD default=p at *;have HP:=Hd (aOy p A' Bk B' Bh wr Ba Bj.o);unfold aE at HP;clear Ba
    cases hp:bA p with
    | false=>
     rw [hp] at HP;have HN:=Hd (show Aq=false by rw [Az.o];exact Bo.o hp)
     go_wp2_with fail
     refine HP.o.mono ?_;rintro r w5 ⟨rfl,An⟩;have Au:=Hd (Ao.o.trans (An.mono Ao.o.size));clear An
     go_wp2_with fail
     go_ret
     exact⟨aF HN.o.symm,Al.o.trans (Au.o.mono Al.o.size)⟩
    | true=>
     rw [hp] at HP;have HN:=Hd (Bl.o hp)
     go_wp2_with fail
     refine HP.o.mono ?_;rintro r w5 ⟨rfl,An⟩;have Au:=Hd (Ao.o.trans (An.mono Ao.o.size));clear An
     go_wp2_with fail
     go_roundw
     case rel=>exact⟨k+1,by omega,by go_num,HN.o,Au.o⟩
     case measure=>simp [intOf];omega
  . have HN:=Hd (show Aq=true by rw [Az.o];exact oT HA.o (by rw [Bd.o];omega))
    go_wp2_with fail
    go_ret
    exact⟨aF HN.o.symm,Al.o.trans (Ao.o.mono Al.o.size)⟩
end
section
open Go.RowKit Go.Shelf
attribute [local go_sem] Oper.semAt_some
theorem aGk{F:Fence}(hd:F.depth=none){m m':Nat}{P:Program}{l:Nat}{f:FuncId}{tmps:Array Value}{assign body:Code}{w:World}{R:Ending->World->Prop}
 (h:RoundIn F m P l f tmps assign body w R):RoundIn F m' P l f tmps assign body w R:=⟨h.1,fun c cs _=>h.2 c cs (fun d h=>by rw [hd] at h;cases h)⟩
theorem aGl{F:Fence}(hd:F.depth=none){m:Nat}(m':Nat){P:Program}{l:Nat}{args:Array Value}{W:World}{R:Ending->World->Prop}(h:YieldAt F m P l args W R):YieldAt F m' P l args W R:=by
 obtain⟨fn,tmps,assign,body,hy,hR⟩:=h;exact⟨fn,tmps,assign,body,hy,aGk hd hR⟩
theorem rF{W W':World}(h:Below W.heap.size W W'):W.grownBy W' none:=⟨h.os,h.tape,h.output,h.size,fun i hi _=>h.block i hi⟩
structure Pt where
 x:Ex
 A:Option Addr
 ca:Nat
 B:Option Addr
 cb:Nat
def sM(p:Pt):Array Value:=#[.agg (aE p.x p.A p.ca p.B p.cb)]
abbrev hM (w0:World) (e:Ex):={ p:Pt // aJ w0 p.x p.A p.B/\p.x∈bI e }
def dW{w0:World}{e:Ex}(l:List (hM w0 e)):List Ex:=l.map fun p=>p.1.x
theorem uI{w0:World}{e:Ex}(a b:List (hM w0 e)):dW (a++b)=dW a++dW b:=by simp [dW]
theorem xU{w0:World}{e:Ex}(a:List (hM w0 e)):(dW a).length=a.length:=by simp [dW]
def fV(W W':World):Prop:=∀ (k:Nat) (cs:Array Value) (h:Nat × Nat),W.heap[k]?=some (Obj.cells cs 35 h)->W'.heap[k]?=some (Obj.cells cs 35 h)
theorem fV.trans{A B C:World}(h:fV A B) (k:fV B C):fV A C:=fun i cs t e=>k i cs t (h i cs t e)
theorem aAz:∀ {l:List Ex}{i:Nat}{q:Ex},i<l.length->q∈bI (l[i]?.getD default)->q∈dR l
 | [],i,q,h,_=>absurd h (by simp)
 | x::l,0,q,_,hq=>by
  simp only [Yz,Yt] at hq;simp only [dR];exact List.mem_append_left _ hq
 | x::l,i+1,q,h,hq=>by
  simp only [Zb] at hq;simp only [dR];exact List.mem_append_right _ (aAz (by simpa using h) hq)
theorem fV.of_below{W W':World}(h:Below W.heap.size W W'):fV W W':=fun k cs t e=>(h.block k (Yl.1 e).1).trans e
theorem fV.cell{W W':World}(h:fV W W'){k:Nat}{cs:Array Value}(e:W.heap[k]?=some (Obj.cells cs 35)) (j:Nat):W'.cell? ⟨k,j,none⟩=W.cell? ⟨k,j,none⟩ :=
 Ym (a:=⟨k,j,none⟩) ((h k cs _ e).trans e.symm)
def iL(n:Nat) (W W':World):Prop:=Below n W W'/\fV W W'
theorem iL.trans{n:Nat}{A B C:World}(h:iL n A B) (k:iL n B C):iL n A C:=⟨h.1.trans k.1,h.2.trans k.2⟩
theorem iL.of_below{n:Nat}{W W':World}(h:Below W.heap.size W W') (hn:n<=W.heap.size):iL n W W':=⟨h.mono hn,fV.of_below h⟩
theorem aFp{n₀:Nat}{w:World}(hn:n₀<=w.heap.size) (W:World) (l:Nat) (o o':Obj) (hl:w.heap.size<=l) (h:W.heap[l]?=some o) (hc:o.isCells=false) (hw:o.isWalk=false):iL n₀ W (W.putObj l o'):=
 ⟨belowK_b hn W l o o' hl h hc hw,fun k cs t e=>by
  refine(World.putObj_heap_other (fun e'=>?_)).trans e;subst e';rw [h] at e;injection e with e;subst e
  cases hc⟩
theorem aOz(l N D:Nat) (e0:Ex) (w0:World) (J Jx:List (hM w0 e0)->World->Prop) (hJ:AbidesFrom D J)
 (hY:∀ m Aa (x:hM w0 e0) W,J Aa W->Aa.length<N->YieldAt Fence.wide m Tryz.prog l (sM x.1) W fun e W' =>
  (e=.returned (.bool true)/\J (Aa++[x]) W'/\iL w0.heap.size W W')\/(e=.returned (.bool false)/\Jx (Aa++[x]) W')):
 ∀ (x:Ex) (A:Option Addr) (ca:Nat) (B:Option Addr) (cb n:Nat) (Aa:List (hM w0 e0)) (W:World),aJ w0 x A B->(∀ q∈bI x,q∈bI e0)->Below w0.heap.size w0 W->J Aa W->Aa.length+bG x<=N ->
  CallsIn Fence.wide n Tryz.prog 112 #[.agg (aE x A ca B cb),.func (.yield l) #[] #[]] W fun e W' =>
   (e=.returned (.bool true)/\∃ ps:List (hM w0 e0),dW ps=bI x/\J (Aa++ps) W'/\iL w0.heap.size W W')\/(e=.returned (.bool false)/\∃ ps:List (hM w0 e0),dW ps <+: bI x/\Jx (Aa++ps) W'):=by
 refine nV fun x ih A ca B cb n Aa W hr Am Be Bb hN=>?_;have Aw:∀ Aa W W',Below W.heap.size W W'->J Aa W->J Aa W':=fun Aa W W' h hj=>hJ _ _ _ none hj (rF h) (fun r e=>by cases e);have Cq:=kG x;have Cu:=hr.subs.max;have Al:=pZ x;have Bz:=Hd ih;have Cr:=Hd Am;have Bp:=Hd Be;have Cc:=Hd hr;have Ce:=Hd Aw;have Bf:=Hd Al;have Ae:x∈bI e0:=Am x (by rw [Al];exact List.mem_cons_self);have Aj:=Hd fun k (hk:k<x.subs.length) (q:Ex) (hq:q∈bI (aU x k))=>Am q (by rw [Al];exact List.mem_cons_of_mem _ (aAz hk hq));have Cf:=Hd fun i (hi:i<x.subs.length)=>sZ hi;have Ck:=Hd fun i (hi:i<x.subs.length)=>aAa hi;have Bg:=Hd fun i=>sY x.subs i;have Cl:=Hd (List.take_length (l:=x.subs));have Cg:=Hd fun k=>(show dR (x.subs.take k) <+: dR x.subs from⟨dR (x.subs.drop k),by rw [<- zX,List.take_append_drop]⟩);have Ax:Below W.heap.size W (W.alloc (.cells (aE x A ca B cb) 35)):=(Yg _ _).alloc (Yh _) _;have Ai:(W.alloc (.cells (aE x A ca B cb) 35)).heap[W.heap.size]?=some (.cells (aE x A ca B cb) 35):=World.alloc_heap_new _ _;obtain⟨xp,Az⟩:∃ xp:hM w0 e0,xp.1=⟨x,A,ca,B,cb⟩:=⟨⟨_,hr,Ae⟩,rfl⟩;have Bw:dW [xp]=[x]:=by simp [dW,Az]
 have Bk:=Hd Bw;obtain⟨fn,tmps,assign,body,hy,hR⟩:=hY (n-1) Aa xp _ (Aw _ _ _ Ax Bb) (by have:=qC x;omega);obtain⟨_,_,_,Ab⟩:=eC W x A ca B cb _ rfl (hr.below Be);obtain⟨q0,q1,q2,q3,q4,q5⟩:=Sx (Ab _ (Yg _ _));have Bt:=Hd Ai;have As:=Hd Ax;have Cn:=Hd Bb;clear Bb hr Am Be ih Al Ae Ab Ai Ax Aw hY Bw;rw [Az] at hy
 dsimp only [sM] at hy
 unfold aE at hy q0 q1 q2 q3 q4 q5 Bt As Bz;have HR:=Hd hR;clear hR;unfold aE at HR ⊢;clear Az;generalize Bc:x.subs.length=Ap at *;refine callsIn_of_wp Tryz.func112 rfl trivial ?_ rfl;simp only [Tryz.ntmps112,List.size_toArray,Yo,Zd,Nat.reduceAdd,Nat.reduceSub,Array.replicate_succ,Array.replicate_zero,List.push_toArray,List.append_toArray,Ze,Yv]
 gi_wp2_with fail
 refine⟨fun h=>(by cases h),HR.o.mono ?_⟩;rintro e W3 (⟨rfl,Bx,An⟩|⟨rfl,Af⟩)
 . have Bd:=Hd Bx;have Cj:=Hd (show iL w0.heap.size W W3 from⟨(As.o.mono Bp.o.size).trans An.1,(fV.of_below As.o).trans An.2⟩);have r5:=(An.2.cell Bt.o 5).trans q5;clear q0 q1 q2 q3 q4 q5 Bx An hy
   gi_wp2_with fail
   gi_loopw [14] (fun i wr=>∃ (k:Nat) (ps:List (hM w0 e0)),k<=Ap/\i=.int .i64 k/\dW ps=x::dR (x.subs.take k)/\J (Aa++ps) wr/\iL w0.heap.size W wr) (fun i _=>Ap-(intOf i).toNat)
   case atStart=>exact⟨0,[xp],Yq _,rfl,by rw [Bk.o];simp [dR],Bd.o,Cj.o⟩
   case round=>
    obtain⟨k,ps,hk,rfl,Ba,Br,Au⟩:=hrel;have Ay:=Hd Ba;have Bi:=Hd Br;have Ca:=Hd Au;have Ah:=Hd (Bp.o.trans Au.1);have Cs:ps.length=1+dG (x.subs.take k):=by rw [<- xU,Ba,Yo,vP];omega
    have Cp:=Bg.o k;clear Ba Br Au
    by_cases Cm:k<Ap
    . obtain⟨b,Co,rfl,hb,Bn⟩:=Cc.o.sub (i:=k) (by omega);obtain⟨A',Bq,B',Bj,Bv,Ar⟩:=Bn k (by omega);obtain⟨c0,c1,c2,c3,c4,c5⟩:=eG (jH Bv hb fun p hp=>Ah.o.cell hp);obtain⟨Ao,_,_,Bo⟩:=eC wr (aU x k) A' Bq B' Bj _ rfl (Ar.below Ah.o);have Bh:=Hd Ao;obtain⟨d0,d1,d2,d3,d4,d5⟩:=Sx (Bo _ (Yg _ _));have Ct:=Cf.o k (by omega);have Cd:=Bg.o (k+1);have Ag:=Hd (Ck.o k (by omega));have Ak:=Ah.o.trans (Ao.mono Ah.o.size);have Bl:=Hd (Bz.o k (by omega) A' Bq B' Bj (n-1) (Aa++ps) _ Ar (Aj.o k (by omega)) Ak (Ce.o _ _ _ Ao Bi.o) (by simp;omega));clear Bn Bv Ar Ao Bo Ak;unfold aE at Bl Bh d0 d1 d2 d3 d4 d5;generalize aU x k=y at *
      gi_wp2_with fail
      refine⟨trivial,fun h=>(by cases h),(Bl.o).mono ?_⟩;rintro e W4 (⟨rfl,qs,Ad,Bu,Bm⟩|⟨rfl,qs,Ad,Ac⟩)
      . have Av:=Hd Ad;have Aq:=Hd Bu;have Ch:=Hd (show iL w0.heap.size W W4 from Ca.o.trans (((iL.of_below Bh.o Ah.o.size)).trans Bm));clear Ad Bu Bm
        gi_wp2_with fail
        go_roundw
        case rel=>exact⟨k+1,ps++qs,by omega,by go_num,by rw [uI,Ay.o,Av.o,Ag.o];rfl,by rw [<- Yw];exact Aq.o,Ch.o⟩
        case measure=>simp [intOf];omega
      . have Av:=Hd Ad;have Aq:=Hd Ac;have Ci:=Hd (Cg.o (k+1));clear Ad Ac
        gi_wp2_with fail
        go_ret
        refine .inr ⟨rfl,ps++qs,?_,by rw [<- Yw];exact Aq.o⟩;rw [uI,Ay.o,Bf.o,Yv];refine(List.prefix_cons_inj _).2 (List.IsPrefix.trans ?_ Ci.o);rw [Ag.o];exact(List.prefix_append_right_inj _).2 Av.o
    . have Cb:k=Ap:=by omega
      subst Cb;have HE:=Hd (Bc ▸ Cl.o:x.subs.take k=x.subs)
      gi_wp2_with fail
      go_ret
      refine .inl ⟨rfl,ps,?_,Bi.o,Ca.o⟩;rw [Ay.o,HE.o,Bf.o]
 . have Bd:=Hd Af;clear Af
   gi_wp2_with fail
   go_ret
   refine .inr ⟨rfl,[xp],?_,Bd.o⟩;rw [Bk.o,Bf.o];exact⟨_,rfl⟩
theorem aA0(n Bs:Nat) (x:Ex) (A:Option Addr) (ca:Nat) (B:Option Addr) (cb:Nat) (w0 w:World) (hr:aJ w0 x A B) (hb:Below w0.heap.size w0 w) (Af:w.heap[Bs]?=some (Obj.cells (aE x A ca B cb) 35)):
 SeqStopsK Fence.wide n Tryz.prog 111 #[.pointer (some ⟨Bs,0,none⟩)] (fun p:hM w0 x=>sM p.1) (iL w0.heap.size) (fun ys=>dW ys=bI x) (fun Ah=>dW Ah <+: bI x) (bG x) w:=fun l J Jx W hW hJ _ hY h0=>by
 have Al:=(Yl.1 Af).1;have Ac:=(hW.block Bs Al).trans Af;have Ai:=Hd (aOz l (bG x) W.heap.size x w0 J Jx hJ (fun m Ah p W1 hj hl=>aGl rfl m (hY Ah p W1 hj hl)) x A ca B cb (n-1) [] W hr (fun q hq=>hq) (hb.trans (hW.mono hb.size)) h0 (by simp));have Aa:∀ j,W.cell? ⟨Bs,j,none⟩=(aE x A ca B cb)[j]?:=fun j=>by simp [World.cell?,Ac]
 obtain⟨q0,q1,q2,q3,q4,q5⟩:=Sx Aa;clear Aa Af Ac hY hr hW hJ h0;unfold aE at Ai q0 q1 q2 q3 q4 q5;refine callsIn_of_wp Tryz.func111 rfl trivial ?_ rfl;simp only [Tryz.ntmps111,List.size_toArray,Yo,Zd,Nat.reduceAdd,Nat.reduceSub,Array.replicate_succ,Array.replicate_zero,List.push_toArray,List.append_toArray,Ze,Yv]
 gi_wp2_with fail
 refine⟨trivial,fun h=>(by cases h),(Ai.o).mono ?_⟩;rintro e W4 (⟨rfl,qs,Ad,Aj,Ak⟩|⟨rfl,qs,Ad,Ab⟩)
 . have Ag:=Hd Ad;have Ae:=Hd Aj;clear Ad Aj Ak
   gi_wp2_with fail
   go_end0
   exact⟨⟨_,rfl⟩,.inl ⟨qs,Ag.o,Ae.o⟩⟩
 . have Ag:=Hd Ad;have Ae:=Hd Ab;clear Ad Ab
   gi_wp2_with fail
   go_end0
   exact⟨⟨_,rfl⟩,.inr ⟨qs,Ag.o,Ae.o⟩⟩
end
section
open Go.RowKit Go.Shelf
attribute [local go_sem] Oper.semAt_some
theorem aE7(x:Ex) (A:Option Addr) (ca:Nat) (B:Option Addr) (cb:Nat) (w:World) (hr:aJ w x A B):
 Calls Tryz.prog 75 #[.agg (aE x A ca B cb)] w fun r w'=>r=.returned (.func (.func 111) #[] #[.pointer (some ⟨w.heap.size,0,none⟩)])/\w'=w.alloc (Obj.cells (aE x A ca B cb) 35):=by
 have Ab:∀ fn first Aa w,(Instr.makeFunc fn first Aa).run Tryz.prog w=.ok (.func fn first Aa) w:=fun _ _ _ _=>rfl
 clear hr;unfold aE
 go_enter Tryz.func75,Tryz.ntmps75
 go_wp2_with fail
 go_ret
 exact⟨rfl,rfl⟩
theorem fV.setCell{W:World}{B:Nat}{t:TypeId}{v:Value}(h:Boxed W B t v) (ht:t≠35) (u:Value):fV W (W.setCell ⟨B,0,none⟩ u):=fun k cs hh e=>by
 have Aa:some k≠some B:=by
  intro e';injection e' with e';subst e';rw [show W.heap[k]?=_ from h] at e;injection e with e;injection e with _ e;exact ht e
 have hk:=(Yl.1 e).1;exact((grownBy_setCell' W B u).block k hk Aa).trans e
end
section
open Go.RowKit Go.Sort
theorem aC4(x:Ex) (A:Option Addr) (ca:Nat) (B:Option Addr) (cb:Nat) (w:World) (hr:aJ w x A B):
 Calls Tryz.prog 85 #[.agg (aE x A ca B cb)] w fun e w'=>e=.returned (.bool (cK x))/\Below w.heap.size w w':=by
 have HF:=Hd fun w1 h=>eC w x A ca B cb w1 h hr;have HS:=Hd (show cK x=if x.k==5 then(x.op==1) && (x.subs.length==1) && ((aU x 0).k==1) else(x.k==1) || (x.k==2) || (x.k==4) from rfl);have An:=hr.subs.max;clear hr;unfold aE at HF ⊢;generalize cK x=Af at *;generalize x.k=k at *;generalize x.op=o at *;generalize Aj:x.subs.length=n at *;have Ah:=xT n
 by_cases h1:k=1
 . subst h1;have HN:=Hd (show Af=true by rw [HS.o];rfl)
   go_enter Tryz.func85,Tryz.ntmps85
   go_upto_region 1 with(fail)
   generalize Ac:w.alloc _=w1;obtain⟨Ab,hg,Ad,Aa⟩:=HF.o w1 Ac;have Ae:=Hd Ab;have q0:=Aa w1 (Yg _ _) 0;clear Aa Ab Ad Ac HF
   go_wp2_with fail
   go_ret
   exact⟨aF HN.o.symm,Ae.o⟩
 by_cases h2:k=2
 . subst h2;have HN:=Hd (show Af=true by rw [HS.o];rfl)
   go_enter Tryz.func85,Tryz.ntmps85
   go_upto_region 1 with(fail)
   generalize Ac:w.alloc _=w1;obtain⟨Ab,hg,Ad,Aa⟩:=HF.o w1 Ac;have Ae:=Hd Ab;have q0:=Aa w1 (Yg _ _) 0;clear Aa Ab Ad Ac HF
   go_wp2_with fail
   go_ret
   exact⟨aF HN.o.symm,Ae.o⟩
 by_cases h4:k=4
 . subst h4;have HN:=Hd (show Af=true by rw [HS.o];rfl)
   go_enter Tryz.func85,Tryz.ntmps85
   go_upto_region 1 with(fail)
   generalize Ac:w.alloc _=w1;obtain⟨Ab,hg,Ad,Aa⟩:=HF.o w1 Ac;have Ae:=Hd Ab;have q0:=Aa w1 (Yg _ _) 0;clear Aa Ab Ad Ac HF
   go_wp2_with fail
   go_ret
   exact⟨aF HN.o.symm,Ae.o⟩
 by_cases h5:k=5
 . subst h5
   cases ho:(o==1) with
   | false=>
    have HN:=Hd (show Af=false by rw [HS.o,ho];rfl)
    go_enter Tryz.func85,Tryz.ntmps85
    go_upto_region 1 with(fail)
    generalize Ac:w.alloc _=w1;obtain⟨Ab,hg,Ad,Aa⟩:=HF.o w1 Ac;have Ae:=Hd Ab;obtain⟨q0,-,-,q3,-,q5⟩:=Sx (Aa w1 (Yg _ _));clear Aa Ab Ad Ac HF
    go_wp2_with fail
    go_ret
    exact⟨aF HN.o.symm,Ae.o⟩
   | true=>
    cases hl:(n==1) with
    | false=>
     have HN:=Hd (show Af=false by rw [HS.o,ho,hl];rfl);rw [hl] at Ah
     go_enter Tryz.func85,Tryz.ntmps85
     go_upto_region 1 with(fail)
     generalize Ac:w.alloc _=w1;obtain⟨Ab,hg,Ad,Aa⟩:=HF.o w1 Ac;have Ae:=Hd Ab;obtain⟨q0,-,-,q3,-,q5⟩:=Sx (Aa w1 (Yg _ _));clear Aa Ab Ad Ac HF
     go_wp2_with fail
     go_ret
     exact⟨aF HN.o.symm,Ae.o⟩
    | true=>
     have HN:=Hd (show Af=((aU x 0).k==1) by rw [HS.o,ho,hl];rfl);rw [hl] at Ah;obtain rfl:n=1:=by simpa using hl
     go_enter Tryz.func85,Tryz.ntmps85
     go_upto_region 1 with(fail)
     generalize Ac:w.alloc _=w1;obtain⟨Ab,hg,Ad,Aa⟩:=HF.o w1 Ac;have Ae:=Hd Ab;obtain⟨q0,-,-,q3,-,q5⟩:=Sx (Aa w1 (Yg _ _));obtain⟨b,Al,rfl,hb,Ai⟩:=Ad.sub (i:=0) (by omega);obtain⟨A',Ao,B',Am,Ag,Ak⟩:=Ai 0 (by omega);rw [Nat.zero_mul,Nat.add_zero] at Ag;obtain⟨c0,c1,c2,c3,c4,c5⟩:=eG Ag;clear Ai Ag Ak c1 c2 c3 c4 c5;clear Aa Ab Ad Ac HF;generalize (aU x 0).k=z at *
     go_wp2_with fail
     go_ret
     exact⟨aF HN.o.symm,Ae.o⟩
 have e1:(k==1)=false:=by simpa using h1
 have e2:(k==2)=false:=by simpa using h2
 have e4:(k==4)=false:=by simpa using h4
 have e5:(k==5)=false:=by simpa using h5
 have HN:=Hd (show Af=false by rw [HS.o,e5,e1,e2,e4];rfl)
 go_enter Tryz.func85,Tryz.ntmps85
 go_upto_region 1 with(fail)
 generalize Ac:w.alloc _=w1;obtain⟨Ab,hg,Ad,Aa⟩:=HF.o w1 Ac;have Ae:=Hd Ab;have q0:=Aa w1 (Yg _ _) 0;clear Aa Ab Ad Ac HF
 go_wp2_with fail
 go_ret
 exact⟨aF HN.o.symm,Ae.o⟩
theorem uJ(x:Ex) (A:Option Addr) (ca:Nat) (B:Option Addr) (cb:Nat) (w:World) (hr:aJ w x A B):
 Calls Tryz.prog 46 #[.agg (aE x A ca B cb)] w fun e w'=>e=.returned (.bool (dC x))/\Below w.heap.size w w':=by
 have HF:=Hd fun w1 h=>eC w x A ca B cb w1 h hr;have HS:=Hd (show dC x=if x.k==14 then x.subs.all cK else cK x from rfl);have Bp:=hr.subs.max;have Bc:=Hd fun(x:Ex) (A:Option Addr) (ca:Nat) (B:Option Addr) (cb:Nat) (w:World) (hr:aJ w x A B)=>aC4 x A ca B cb w hr;have Ay:=Hd fun(x:Ex) (A:Option Addr) (ca:Nat) (B:Option Addr) (cb:Nat) (w w1:World) (h:_) (hr:aJ w x A B)=>eC w x A ca B cb w1 h hr;have Bh:=Hd fun i (hi:i<x.subs.length) (h:cK (aU x i)=false)=>mR (f:=cK) hi h;have Bg:=Hd fun k (hk:k<x.subs.length) h (hx:cK (aU x k)=true)=>oS (f:=cK) hk h hx;have Bf:=Hd fun k h (hk:x.subs.length<=k)=>oT (l:=x.subs) (f:=cK) (k:=k) h hk;have Bd:=Hd fun w1 (h:aJ w1 x A B)=>aC4 x A ca B cb w1 h;clear hr;unfold aE at HF Bc Bd Ay ⊢;generalize dC x=Ba at *;generalize cK x=lx at *;generalize x.k=k at *;generalize Bi:x.subs.length=n at *
 cases Aq:(k==14) with
 | false=>
  have Bl:(k != 14)=true:=by rw [bne,Aq];rfl
  have HN:=Hd (show Ba=lx by rw [HS.o,Aq];rfl)
  go_enter Tryz.func46,Tryz.ntmps46
  go_upto_region 1 with(fail)
  generalize Ag:w.alloc _=w1;obtain⟨Af,hg,Ai,Aa⟩:=HF.o w1 Ag;have Ad:=Hd Af;obtain⟨q0,q1,q2,q3,q4,q5⟩:=Sx (Aa w1 (Yg _ _));have Bk:=Hd (Bd.o w1 Ai);clear Aa Af Ai Ag HF
  go_wp2_with fail
  refine Bk.o.mono ?_;rintro r w2 ⟨rfl,Ac⟩;have Ah:=Hd (Ad.o.trans (Ac.mono Ad.o.size));clear Ac
  go_wp2_with fail
  go_ret
  exact⟨aF HN.o.symm,Ah.o⟩
 | true=>
  obtain rfl:k=14:=by simpa using Aq
  have HN:=Hd (show Ba=x.subs.all cK by rw [HS.o];rfl)
  go_enter Tryz.func46,Tryz.ntmps46
  go_upto_region 1 with(fail)
  generalize Ag:w.alloc _=w1;obtain⟨Af,hg,Ai,Aa⟩:=HF.o w1 Ag;have Ad:=Hd Af;have q0:=Aa w1 (Yg _ _) 0;have q5:=Aa w1 (Yg _ _) 5;have HC:=Hd Aa;have Bj:=Hd Ai;clear Aa Af Ai Ag HF
  go_wp2_with fail
  go_loopw [13] (fun i wr=>∃ k:Nat,k<=n/\i=.int .i64 k/\(x.subs.take k).all cK=true/\Below w1.heap.size w1 wr) (fun i _=>n-(intOf i).toNat)
  case atStart=>exact⟨0,Yq _,rfl,by simp,Yg _ _⟩
  case round=>
   obtain⟨k,hk,rfl,Ae,Am⟩:=hrel;have HA:=Hd Ae;have Ap:=Hd Am;clear Ae
   by_cases Bm:k<n
   . obtain⟨b,Bn,rfl,hb,Av⟩:=(Bj.o.below Am).sub (i:=k) (by omega);obtain⟨A',Ax,B',Ar,Bb,As⟩:=Av k (by omega);obtain⟨c0,c1,c2,c3,c4,c5⟩:=eG Bb;have Aw:=Hd fun w3 h=>Ay.o (aU x k) A' Ax B' Ar wr w3 h As;have Ao:=Hd (Bh.o k (by omega));have Al:=Hd (Bg.o k (by omega) HA.o);clear Av Am Bb As
     go_upto_region 6 with(fail)
     generalize Az:wr.alloc _=w3;obtain⟨Be,Bo,Au,Ab⟩:=Aw.o w3 Az;obtain⟨d0,d1,d2,d3,d4,d5⟩:=Sx (Ab w3 (Yg _ _));have Aj:=Hd (Bc.o (aU x k) A' Ax B' Ar w3 Au);have Ak:=Hd (Ap.o.trans (Be.mono Ap.o.size));clear Ab Be Au Az Aw
     cases hl:cK (aU x k) with
     | false=>
      rw [hl] at Aj;have An:=Hd (Ao.o hl)
      go_wp2_with fail
      refine Aj.o.mono ?_;rintro r w2 ⟨rfl,Ac⟩;have Ah:=Hd (Ak.o.trans (Ac.mono Ak.o.size));clear Ac
      go_wp2_with fail
      go_ret
      exact⟨aF (by rw [HN.o,An.o]),Ad.o.trans (Ah.o.mono Ad.o.size)⟩
     | true=>
      rw [hl] at Aj;have An:=Hd (Al.o hl)
      go_wp2_with fail
      refine Aj.o.mono ?_;rintro r w2 ⟨rfl,Ac⟩;have Ah:=Hd (Ak.o.trans (Ac.mono Ak.o.size));clear Ac
      go_wp2_with fail
      go_roundw
      case rel=>exact⟨k+1,by omega,by go_num,An.o,Ah.o⟩
      case measure=>simp [intOf];omega
   . have HE:=Hd (Bf.o k HA.o (by omega))
     go_wp2_with fail
     go_ret
     exact⟨aF (by rw [HN.o,HE.o]),Ad.o.trans (Ap.o.mono Ad.o.size)⟩
theorem aO0:∀ (x:Ex) (A:Option Addr) (ca:Nat) (B:Option Addr) (cb:Nat) (w:World),aJ w x A B->bG x<=1000000 ->
 Calls Tryz.prog 77 #[.agg (aE x A ca B cb)] w fun e w'=>e=.returned (.int .i64 (gF x:Nat))/\Below w.heap.size w w':=by
 refine nV fun x ih A ca B cb w hr hs=>?_;have Aw:=Hd ih;have Bb:=Hd (rI x);have Bh:=pW x;have Bl:=rI x;have Bn:=hr.subs.max;have HF:=Hd fun w1 h=>eC w x A ca B cb w1 h hr;have Ar:=Hd fun(x:Ex) (A:Option Addr) (ca:Nat) (B:Option Addr) (cb:Nat) (w w1:World) (h:_) (hr:aJ w x A B)=>eC w x A ca B cb w1 h hr;have Bd:=Hd fun i (hi:i<x.subs.length)=>zZ hi;have Ag:=Hd fun i (hi:i<x.subs.length)=>(qD (qE hi));have Bg:=Hd (List.take_length (l:=x.subs));clear ih hr;unfold aE at HF Aw Ar ⊢;generalize Ah:x.subs.length=Ac at *
 go_enter Tryz.func77,Tryz.ntmps77
 go_upto_region 1 with(fail)
 generalize Au:w.alloc _=w1;obtain⟨Ai,hg,Ay,Ab⟩:=HF.o w1 Au;have Az:=Hd Ai;have q5:=Ab w1 (Yg _ _) 5;have Be:=Hd Ay;clear Ab Ai Ay Au HF
 go_wp2_with fail
 go_loopw [3,9] (fun s i wr=>∃ k:Nat,k<=Ac/\i=.int .i64 k/\s=.int .i64 ((fT (x.subs.take k):Nat):Int)/\Below w1.heap.size w1 wr) (fun _ i _=>Ac-(intOf i).toNat)
 case atStart=>exact⟨0,Yq _,rfl,by simp [fT],Yg _ _⟩
 case round=>
  obtain⟨k,hk,rfl,rfl,Ad⟩:=hrel;have Af:=Hd Ad
  by_cases Bi:k<Ac
  . obtain⟨b,Bk,rfl,hb,Ao⟩:=(Be.o.below Ad).sub (i:=k) (by omega);obtain⟨A',Aq,B',Aj,Av,Ak⟩:=Ao k (by omega);obtain⟨c0,c1,c2,c3,c4,c5⟩:=eG Av;have Ap:=Hd fun w3 h=>Ar.o (aU x k) A' Aq B' Aj wr w3 h Ak;have Ae:=Hd (Bd.o k (by omega));clear Ao Ad Av Ak;have Bj:=Ag.o k (by omega)
    go_upto_region 5 with(fail)
    generalize As:wr.alloc _=w3;obtain⟨Ax,Bm,An,Aa⟩:=Ap.o w3 As;obtain⟨d0,d1,d2,d3,d4,d5⟩:=Sx (Aa w3 (Yg _ _));have Bc:=Hd (Aw.o k (by omega) A' Aq B' Aj w3 An (by omega));have Am:=Hd (Af.o.trans (Ax.mono Af.o.size));clear Aa Ax An As Ap
    go_wp2_with fail
    refine Bc.o.mono ?_;rintro r w2 ⟨rfl,Al⟩;have Bf:=Hd (Am.o.trans (Al.mono Am.o.size));clear Al
    go_wp2_with fail
    go_roundw
    case rel=>
     refine⟨k+1,by omega,by go_num,?_,Bf.o⟩;rw [Ae.o]
     first | rfl | (congr 1;omega) | (simp;done) | skip
    case measure=>simp [intOf];omega
  . have Ba:k=Ac:=by omega
    subst Ba;have HE:=Hd (Ah ▸ Bg.o:x.subs.take k=x.subs);rw [HE.o];generalize fT x.subs=d at *
    go_wp2_with fail
    go_ret
    refine⟨?_,Az.o.trans (Af.o.mono Az.o.size)⟩;rw [Bb.o,Nat.add_comm];rfl
end
section
open Go.RowKit Go.Shelf
attribute [local go_sem] Oper.semAt_some
theorem yQ{β:Type}(B:Nat) (cs:Array Value) (t:TypeId):Own (fun(_:β) W=>W.heap[B]?=some (Obj.cells cs t)):=fun s X Y row hs hg Aa=>
 (hg.block B (Yl.1 hs).1 (fun e'=>by obtain⟨o,ho,hc⟩:=Aa B e'.symm;rw [hs] at ho;cases ho;cases hc)).trans hs
theorem fV.alloc(W:World) (o:Obj):fV W (W.alloc o):=fV.of_below ((Yg _ _).alloc (Yh _) o)
end
end Go.Proofs.YtegjgiofmpolnaaGreat
