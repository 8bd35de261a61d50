/- Parts of the proof: ExK, ExN. Conditions: each theorem's own. -/
import Derived.Test.YtegjgiofmpolnaaGreatC03
namespace Go.Proofs.YtegjgiofmpolnaaGreat
set_option linter.unusedVariables false
set_option linter.unusedSimpArgs false
set_option maxRecDepth 100000
set_option maxHeartbeats 40000000
section
open Go.RowKit Go.Sort
def cK(x:Ex):Bool:=if x.k==5 then(x.op==1) && (x.subs.length==1) && ((aU x 0).k==1) else(x.k==1) || (x.k==2) || (x.k==4)
def dC(x:Ex):Bool:=if x.k==14 then x.subs.all cK else cK x
theorem xT(n:Nat):((n:Int)==1)=(n==1):=by rw [Zm];simp;omega
theorem aAx(x:Ex) (A:Option Addr) (ca:Nat) (B:Option Addr) (cb:Nat) (w:World) (hr:aJ w x A B):
 Calls Tryz.prog 88 #[.agg (aE x A ca B cb)] w fun e w'=>e=.returned (.bool (cK x))/\Below w.heap.size w w':=by
 have HF:=Hd fun w1 h=>eC w x A ca B cb w1 h hr;have HS:=Hd (show cK x=if x.k==5 then(x.op==1) && (x.subs.length==1) && ((aU x 0).k==1) else(x.k==1) || (x.k==2) || (x.k==4) from rfl);have An:=hr.subs.max;clear hr;unfold aE at HF ⊢;generalize cK x=Af at *;generalize x.k=k at *;generalize x.op=o at *;generalize Aj:x.subs.length=n at *;have Ah:=xT n
 cases h5:(k==5) with
 | true=>
  obtain rfl:k=5:=by simpa using h5
  cases ho:(o==1) with
  | false=>
   have HN:=Hd (show Af=false by rw [HS.o,ho];rfl)
   go_enter Tryz.func88,Tryz.ntmps88
   go_upto_region 1 with(fail)
   generalize Ac:w.alloc _=w1;obtain⟨Ab,hg,Ad,Aa⟩:=HF.o w1 Ac;have Ae:=Hd Ab;obtain⟨q0,-,-,q3,-,q5⟩:=Sx (Aa w1 (Yg _ _));clear Aa Ab Ad Ac HF
   go_wp2_with fail
   go_ret
   exact⟨aF HN.o.symm,Ae.o⟩
  | true=>
   cases hl:(n==1) with
   | false=>
    have HN:=Hd (show Af=false by rw [HS.o,ho,hl];rfl);rw [hl] at Ah
    go_enter Tryz.func88,Tryz.ntmps88
    go_upto_region 1 with(fail)
    generalize Ac:w.alloc _=w1;obtain⟨Ab,hg,Ad,Aa⟩:=HF.o w1 Ac;have Ae:=Hd Ab;obtain⟨q0,-,-,q3,-,q5⟩:=Sx (Aa w1 (Yg _ _));clear Aa Ab Ad Ac HF
    go_wp2_with fail
    go_ret
    exact⟨aF HN.o.symm,Ae.o⟩
   | true=>
    have HN:=Hd (show Af=((aU x 0).k==1) by rw [HS.o,ho,hl];rfl);rw [hl] at Ah;obtain rfl:n=1:=by simpa using hl
    go_enter Tryz.func88,Tryz.ntmps88
    go_upto_region 1 with(fail)
    generalize Ac:w.alloc _=w1;obtain⟨Ab,hg,Ad,Aa⟩:=HF.o w1 Ac;obtain⟨b,Al,rfl,hb,Ai⟩:=Ad.sub (i:=0) (by omega);obtain⟨A',Ao,B',Am,Ag,Ak⟩:=Ai 0 (by omega);rw [Nat.zero_mul,Nat.add_zero] at Ag;obtain⟨c0,c1,c2,c3,c4,c5⟩:=eG Ag;have Ae:=Hd Ab;obtain⟨q0,-,-,q3,-,q5⟩:=Sx (Aa w1 (Yg _ _));clear Aa Ab Ad Ac HF Ai Ag Ak c1 c2 c3 c4 c5;generalize (aU x 0).k=z at *
    go_wp2_with fail
    go_ret
    exact⟨aF HN.o.symm,Ae.o⟩
 | false=>
  have HN:=Hd (show Af=((k==1) || (k==2) || (k==4)) by rw [HS.o,h5];rfl)
  cases h1:(k==1) <;> cases h2:(k==2) <;> cases h4:(k==4)
  all_goals (
   rw [h1,h2,h4] at HN
   go_enter Tryz.func88,Tryz.ntmps88
   go_upto_region 1 with(fail)
   generalize Ac:w.alloc _=w1;obtain⟨Ab,hg,Ad,Aa⟩:=HF.o w1 Ac;have Ae:=Hd Ab;have q0:=Aa w1 (Yg _ _) 0;clear Aa Ab Ad Ac HF
   go_wp2_with fail
   go_ret
   exact⟨aF HN.o.symm,Ae.o⟩)
theorem tQ(x:Ex) (A:Option Addr) (ca:Nat) (B:Option Addr) (cb:Nat) (w:World) (hr:aJ w x A B):
 Calls Tryz.prog 48 #[.agg (aE x A ca B cb)] w fun e w'=>e=.returned (.bool (dC x))/\Below w.heap.size w w':=by
 have HF:=Hd fun w1 h=>eC w x A ca B cb w1 h hr;have HS:=Hd (show dC x=if x.k==14 then x.subs.all cK else cK x from rfl);have Bh:=hr.subs.max;have Au:=Hd fun(x:Ex) (A:Option Addr) (ca:Nat) (B:Option Addr) (cb:Nat) (w:World) (hr:aJ w x A B)=>aAx x A ca B cb w hr;have Ba:=Hd fun i (hi:i<x.subs.length) (h:cK (aU x i)=false)=>mR (f:=cK) hi h;have Ay:=Hd fun k (hk:k<x.subs.length) h (hx:cK (aU x k)=true)=>oS (f:=cK) hk h hx;have Ax:=Hd fun k h (hk:x.subs.length<=k)=>oT (l:=x.subs) (f:=cK) (k:=k) h hk;have Av:=Hd fun w1 (h:aJ w1 x A B)=>aAx x A ca B cb w1 h;clear hr;unfold aE at HF Au Av ⊢;generalize dC x=Ar at *;generalize cK x=lx at *;generalize x.k=k at *;generalize Bb:x.subs.length=n at *
 cases Ap:(k==14) with
 | false=>
  have Be:(k != 14)=true:=by rw [bne,Ap];rfl
  have HN:=Hd (show Ar=lx by rw [HS.o,Ap];rfl)
  go_enter Tryz.func48,Tryz.ntmps48
  go_upto_region 1 with(fail)
  generalize Ag:w.alloc _=w1;obtain⟨Ae,hg,Ai,Aa⟩:=HF.o w1 Ag;have Ac:=Hd Ae;obtain⟨q0,q1,q2,q3,q4,q5⟩:=Sx (Aa w1 (Yg _ _));have Bd:=Hd (Av.o w1 Ai);clear Aa Ae Ai Ag HF
  go_wp2_with fail
  refine Bd.o.mono ?_;rintro r w2 ⟨rfl,Ab⟩;have Ah:=Hd (Ac.o.trans (Ab.mono Ac.o.size));clear Ab
  go_wp2_with fail
  go_ret
  exact⟨aF HN.o.symm,Ah.o⟩
 | true=>
  obtain rfl:k=14:=by simpa using Ap
  have HN:=Hd (show Ar=x.subs.all cK by rw [HS.o];rfl)
  go_enter Tryz.func48,Tryz.ntmps48
  go_upto_region 1 with(fail)
  generalize Ag:w.alloc _=w1;obtain⟨Ae,hg,Ai,Aa⟩:=HF.o w1 Ag;have Ac:=Hd Ae;have q0:=Aa w1 (Yg _ _) 0;have q5:=Aa w1 (Yg _ _) 5;have HC:=Hd Aa;have Bc:=Hd Ai;clear Aa Ae Ai Ag HF
  go_wp2_with fail
  go_loopw [3] (fun i wr=>∃ k:Nat,k<=n/\i=.int .i64 k/\(x.subs.take k).all cK=true/\Below w1.heap.size w1 wr) (fun i _=>n-(intOf i).toNat)
  case atStart=>exact⟨0,Yq _,rfl,by simp,Yg _ _⟩
  case round=>
   obtain⟨k,hk,rfl,Ad,Aj⟩:=hrel;have HA:=Hd Ad;have Af:=Hd Aj;have Bj:=HC.o wr Aj 5;clear Ad
   by_cases Bf:k<n
   . obtain⟨b,Bg,rfl,hb,Aq⟩:=(Bc.o.below Aj).sub (i:=k) (by omega);obtain⟨A',Az,B',Aw,As,An⟩:=Aq k (by omega);obtain⟨c0,c1,c2,c3,c4,c5⟩:=eG As;have Bi:=Hd An;have Ak:=Hd (Au.o (aU x k) A' Az B' Aw wr An);have Ao:=Hd (Ba.o k (by omega));have Al:=Hd (Ay.o k (by omega) HA.o);clear Aq Aj As An
     cases hl:cK (aU x k) with
     | false=>
      rw [hl] at Ak;have Am:=Hd (Ao.o hl)
      go_wp2_with fail
      refine Ak.o.mono ?_;rintro r w2 ⟨rfl,Ab⟩;have Ah:=Hd (Af.o.trans (Ab.mono Af.o.size));clear Ab
      go_wp2_with fail
      go_ret
      exact⟨aF (by rw [HN.o,Am.o]),Ac.o.trans (Ah.o.mono Ac.o.size)⟩
     | true=>
      rw [hl] at Ak;have Am:=Hd (Al.o hl)
      go_wp2_with fail
      refine Ak.o.mono ?_;rintro r w2 ⟨rfl,Ab⟩;have Ah:=Hd (Af.o.trans (Ab.mono Af.o.size));clear Ab
      go_wp2_with fail
      go_roundw
      case rel=>exact⟨k+1,by omega,by go_num,Am.o,Ah.o⟩
      case measure=>simp [intOf];omega
   . have HE:=Hd (Ax.o k HA.o (by omega))
     go_wp2_with fail
     go_ret
     exact⟨aF (by rw [HN.o,HE.o]),Ac.o.trans (Af.o.mono Ac.o.size)⟩
def eO(x:Ex):Bool:=
 if x.op<(if x.k==6 then 3 else if x.k==5 then 1 else 0)\/(if x.k==6 then 16 else if x.k==5 then 2 else 0)<x.op then false
 else if x.k==1 then decide (0<=x.n) else if(x.k==2 || x.k==13) then(x.n==0 || x.n==1) else x.n==0
theorem aHq(x:Ex) (A:Option Addr) (ca:Nat) (B:Option Addr) (cb:Nat) (w:World) (hr:aJ w x A B):
 Calls Tryz.prog 65 #[.agg (aE x A ca B cb)] w fun e w'=>e=.returned (.bool (eO x))/\Below w.heap.size w w':=by
 have HF:=Hd fun w1 h=>eC w x A ca B cb w1 h hr
 have HS:=Hd (show eO x=if x.op<(if x.k==6 then 3 else if x.k==5 then 1 else 0)\/(if x.k==6 then 16 else if x.k==5 then 2 else 0)<x.op then false
  else if x.k==1 then decide (0<=x.n) else if(x.k==2 || x.k==13) then(x.n==0 || x.n==1) else x.n==0 from rfl)
 clear hr;unfold aE at HF ⊢;generalize eO x=Ag at *;generalize x.k=k at *;generalize x.op=o at *;generalize x.n=n at *
 by_cases h1:k=1
 . subst h1
   by_cases Af:o<0
   . have HN:=Hd (show Ag=false by rw [HS.o];simp [Af])
     go_enter Tryz.func65,Tryz.ntmps65
     go_upto_region 1 with(fail)
     generalize Ac:w.alloc _=w1;obtain⟨Ab,hg,Ad,Aa⟩:=HF.o w1 Ac;have Ae:=Hd Ab;obtain⟨q0,q1,-,q3,-,-⟩:=Sx (Aa w1 (Yg _ _));clear Aa Ab Ad Ac HF
     go_wp2_with fail
     go_ret
     exact⟨aF HN.o.symm,Ae.o⟩
   . by_cases Ah:0<o
     . have HN:=Hd (show Ag=false by rw [HS.o];simp [Af,Ah])
       go_enter Tryz.func65,Tryz.ntmps65
       go_upto_region 1 with(fail)
       generalize Ac:w.alloc _=w1;obtain⟨Ab,hg,Ad,Aa⟩:=HF.o w1 Ac;have Ae:=Hd Ab;obtain⟨q0,q1,-,q3,-,-⟩:=Sx (Aa w1 (Yg _ _));clear Aa Ab Ad Ac HF
       go_wp2_with fail
       go_ret
       exact⟨aF HN.o.symm,Ae.o⟩
     . have HN:=Hd (show Ag=decide (0<=n) by rw [HS.o];simp [Af,Ah])
       cases hd:decide (0<=n) <;> rw [hd] at HN
       all_goals (
        go_enter Tryz.func65,Tryz.ntmps65
        go_upto_region 1 with(fail)
        generalize Ac:w.alloc _=w1;obtain⟨Ab,hg,Ad,Aa⟩:=HF.o w1 Ac;have Ae:=Hd Ab;obtain⟨q0,q1,-,q3,-,-⟩:=Sx (Aa w1 (Yg _ _));clear Aa Ab Ad Ac HF
        go_wp2_with fail
        go_ret
        exact⟨aF HN.o.symm,Ae.o⟩)
 . have e1:(k==1)=false:=by simpa using h1
   by_cases h2:k=2
   . subst h2
     by_cases Af:o<0
     . have HN:=Hd (show Ag=false by rw [HS.o];simp [Af])
       go_enter Tryz.func65,Tryz.ntmps65
       go_upto_region 1 with(fail)
       generalize Ac:w.alloc _=w1;obtain⟨Ab,hg,Ad,Aa⟩:=HF.o w1 Ac;have Ae:=Hd Ab;obtain⟨q0,q1,-,q3,-,-⟩:=Sx (Aa w1 (Yg _ _));clear Aa Ab Ad Ac HF
       go_wp2_with fail
       go_ret
       exact⟨aF HN.o.symm,Ae.o⟩
     . by_cases Ah:0<o
       . have HN:=Hd (show Ag=false by rw [HS.o];simp [Af,Ah])
         go_enter Tryz.func65,Tryz.ntmps65
         go_upto_region 1 with(fail)
         generalize Ac:w.alloc _=w1;obtain⟨Ab,hg,Ad,Aa⟩:=HF.o w1 Ac;have Ae:=Hd Ab;obtain⟨q0,q1,-,q3,-,-⟩:=Sx (Aa w1 (Yg _ _));clear Aa Ab Ad Ac HF
         go_wp2_with fail
         go_ret
         exact⟨aF HN.o.symm,Ae.o⟩
       . have HN:=Hd (show Ag=(n==0 || n==1) by rw [HS.o];simp [Af,Ah])
         cases hd:(n==0) <;> cases Ai:(n==1) <;> rw [hd,Ai] at HN
         all_goals (
          go_enter Tryz.func65,Tryz.ntmps65
          go_upto_region 1 with(fail)
          generalize Ac:w.alloc _=w1;obtain⟨Ab,hg,Ad,Aa⟩:=HF.o w1 Ac;have Ae:=Hd Ab;obtain⟨q0,q1,-,q3,-,-⟩:=Sx (Aa w1 (Yg _ _));clear Aa Ab Ad Ac HF
          go_wp2_with fail
          go_ret
          exact⟨aF HN.o.symm,Ae.o⟩)
   . have e2:(k==2)=false:=by simpa using h2
     by_cases h5:k=5
     . subst h5
       by_cases Af:o<1
       . have HN:=Hd (show Ag=false by rw [HS.o];simp [Af])
         go_enter Tryz.func65,Tryz.ntmps65
         go_upto_region 1 with(fail)
         generalize Ac:w.alloc _=w1;obtain⟨Ab,hg,Ad,Aa⟩:=HF.o w1 Ac;have Ae:=Hd Ab;obtain⟨q0,q1,-,q3,-,-⟩:=Sx (Aa w1 (Yg _ _));clear Aa Ab Ad Ac HF
         go_wp2_with fail
         go_ret
         exact⟨aF HN.o.symm,Ae.o⟩
       . by_cases Ah:2<o
         . have HN:=Hd (show Ag=false by rw [HS.o];simp [Af,Ah])
           go_enter Tryz.func65,Tryz.ntmps65
           go_upto_region 1 with(fail)
           generalize Ac:w.alloc _=w1;obtain⟨Ab,hg,Ad,Aa⟩:=HF.o w1 Ac;have Ae:=Hd Ab;obtain⟨q0,q1,-,q3,-,-⟩:=Sx (Aa w1 (Yg _ _));clear Aa Ab Ad Ac HF
           go_wp2_with fail
           go_ret
           exact⟨aF HN.o.symm,Ae.o⟩
         . have HN:=Hd (show Ag=(n==0) by rw [HS.o];simp [Af,Ah])
           cases hd:(n==0) <;> rw [hd] at HN
           all_goals (
            go_enter Tryz.func65,Tryz.ntmps65
            go_upto_region 1 with(fail)
            generalize Ac:w.alloc _=w1;obtain⟨Ab,hg,Ad,Aa⟩:=HF.o w1 Ac;have Ae:=Hd Ab;obtain⟨q0,q1,-,q3,-,-⟩:=Sx (Aa w1 (Yg _ _));clear Aa Ab Ad Ac HF
            go_wp2_with fail
            go_ret
            exact⟨aF HN.o.symm,Ae.o⟩)
     . have e5:(k==5)=false:=by simpa using h5
       by_cases h6:k=6
       . subst h6
         by_cases Af:o<3
         . have HN:=Hd (show Ag=false by rw [HS.o];simp [Af])
           go_enter Tryz.func65,Tryz.ntmps65
           go_upto_region 1 with(fail)
           generalize Ac:w.alloc _=w1;obtain⟨Ab,hg,Ad,Aa⟩:=HF.o w1 Ac;have Ae:=Hd Ab;obtain⟨q0,q1,-,q3,-,-⟩:=Sx (Aa w1 (Yg _ _));clear Aa Ab Ad Ac HF
           go_wp2_with fail
           go_ret
           exact⟨aF HN.o.symm,Ae.o⟩
         . by_cases Ah:16<o
           . have HN:=Hd (show Ag=false by rw [HS.o];simp [Af,Ah])
             go_enter Tryz.func65,Tryz.ntmps65
             go_upto_region 1 with(fail)
             generalize Ac:w.alloc _=w1;obtain⟨Ab,hg,Ad,Aa⟩:=HF.o w1 Ac;have Ae:=Hd Ab;obtain⟨q0,q1,-,q3,-,-⟩:=Sx (Aa w1 (Yg _ _));clear Aa Ab Ad Ac HF
             go_wp2_with fail
             go_ret
             exact⟨aF HN.o.symm,Ae.o⟩
           . have HN:=Hd (show Ag=(n==0) by rw [HS.o];simp [Af,Ah])
             cases hd:(n==0) <;> rw [hd] at HN
             all_goals (
              go_enter Tryz.func65,Tryz.ntmps65
              go_upto_region 1 with(fail)
              generalize Ac:w.alloc _=w1;obtain⟨Ab,hg,Ad,Aa⟩:=HF.o w1 Ac;have Ae:=Hd Ab;obtain⟨q0,q1,-,q3,-,-⟩:=Sx (Aa w1 (Yg _ _));clear Aa Ab Ad Ac HF
              go_wp2_with fail
              go_ret
              exact⟨aF HN.o.symm,Ae.o⟩)
       . have e6:(k==6)=false:=by simpa using h6
         by_cases Ak:k=13
         . subst Ak
           by_cases Af:o<0
           . have HN:=Hd (show Ag=false by rw [HS.o];simp [Af])
             go_enter Tryz.func65,Tryz.ntmps65
             go_upto_region 1 with(fail)
             generalize Ac:w.alloc _=w1;obtain⟨Ab,hg,Ad,Aa⟩:=HF.o w1 Ac;have Ae:=Hd Ab;obtain⟨q0,q1,-,q3,-,-⟩:=Sx (Aa w1 (Yg _ _));clear Aa Ab Ad Ac HF
             go_wp2_with fail
             go_ret
             exact⟨aF HN.o.symm,Ae.o⟩
           . by_cases Ah:0<o
             . have HN:=Hd (show Ag=false by rw [HS.o];simp [Af,Ah])
               go_enter Tryz.func65,Tryz.ntmps65
               go_upto_region 1 with(fail)
               generalize Ac:w.alloc _=w1;obtain⟨Ab,hg,Ad,Aa⟩:=HF.o w1 Ac;have Ae:=Hd Ab;obtain⟨q0,q1,-,q3,-,-⟩:=Sx (Aa w1 (Yg _ _));clear Aa Ab Ad Ac HF
               go_wp2_with fail
               go_ret
               exact⟨aF HN.o.symm,Ae.o⟩
             . have HN:=Hd (show Ag=(n==0 || n==1) by rw [HS.o];simp [Af,Ah])
               cases hd:(n==0) <;> cases Ai:(n==1) <;> rw [hd,Ai] at HN
               all_goals (
                go_enter Tryz.func65,Tryz.ntmps65
                go_upto_region 1 with(fail)
                generalize Ac:w.alloc _=w1;obtain⟨Ab,hg,Ad,Aa⟩:=HF.o w1 Ac;have Ae:=Hd Ab;obtain⟨q0,q1,-,q3,-,-⟩:=Sx (Aa w1 (Yg _ _));clear Aa Ab Ad Ac HF
                go_wp2_with fail
                go_ret
                exact⟨aF HN.o.symm,Ae.o⟩)
         . have Aj:(k==13)=false:=by simpa using Ak
           by_cases Af:o<0
           . have HN:=Hd (show Ag=false by rw [HS.o,e1,e2,e5,e6,Aj];simp [Af])
             go_enter Tryz.func65,Tryz.ntmps65
             go_upto_region 1 with(fail)
             generalize Ac:w.alloc _=w1;obtain⟨Ab,hg,Ad,Aa⟩:=HF.o w1 Ac;have Ae:=Hd Ab;obtain⟨q0,q1,-,q3,-,-⟩:=Sx (Aa w1 (Yg _ _));clear Aa Ab Ad Ac HF
             go_wp2_with fail
             go_ret
             exact⟨aF HN.o.symm,Ae.o⟩
           . by_cases Ah:0<o
             . have HN:=Hd (show Ag=false by rw [HS.o,e1,e2,e5,e6,Aj];simp [Af,Ah])
               go_enter Tryz.func65,Tryz.ntmps65
               go_upto_region 1 with(fail)
               generalize Ac:w.alloc _=w1;obtain⟨Ab,hg,Ad,Aa⟩:=HF.o w1 Ac;have Ae:=Hd Ab;obtain⟨q0,q1,-,q3,-,-⟩:=Sx (Aa w1 (Yg _ _));clear Aa Ab Ad Ac HF
               go_wp2_with fail
               go_ret
               exact⟨aF HN.o.symm,Ae.o⟩
             . have HN:=Hd (show Ag=(n==0) by rw [HS.o,e1,e2,e5,e6,Aj];simp [Af,Ah])
               cases hd:(n==0) <;> rw [hd] at HN
               all_goals (
                go_enter Tryz.func65,Tryz.ntmps65
                go_upto_region 1 with(fail)
                generalize Ac:w.alloc _=w1;obtain⟨Ab,hg,Ad,Aa⟩:=HF.o w1 Ac;have Ae:=Hd Ab;obtain⟨q0,q1,-,q3,-,-⟩:=Sx (Aa w1 (Yg _ _));clear Aa Ab Ad Ac HF
                go_wp2_with fail
                go_ret
                exact⟨aF HN.o.symm,Ae.o⟩)
end
section
open Go.RowKit Go.Sort
def cT(t:ByteArray):Bool:=dY t.data.toList || (t.toList==[116,114,117,101]) || (t.toList==[102,97,108,115,101])
def dS(x:Ex):Bool:=x.arms.all cT && (if x.k==11 then x.arms.length==1 else if x.k==12 then decide (1<=x.arms.length) && decide (x.arms.length<=6) && bP x.arms else x.arms.length==0)
def fC(x:Ex):Bool:=if x.k==3 || x.k==11 || x.k==12 || x.k==13 then aX x.s.data.toList else if x.k==4 then dY x.s.data.toList else if x.k==17 then eI x.s.data.toList else x.s.toList==[]
theorem aRj(s:ByteArray) (w:World) (hs:s.size<=9223372036854775807):Calls Tryz.prog 106 #[.string s] w fun e w'=>e=.returned (.bool (cT s))/\w=w':=by
 have HS:=Hd (show cT s=(dY s.data.toList || (s.toList==[116,114,117,101]) || (s.toList==[102,97,108,115,101])) from rfl);have HH:=Hd (rR s w hs);generalize cT s=Aa at *;generalize dY s.data.toList=bh at *
 cases bh <;> cases ht:(s.toList==[116,114,117,101]) <;> cases hf:(s.toList==[102,97,108,115,101])
 all_goals (
  rw [ht,hf] at HS
  go_enter Tryz.func106,Tryz.ntmps106
  go_wp2_with fail
  refine HH.o.mono ?_;rintro r w2 ⟨rfl,rfl⟩
  go_wp2_with fail
  go_ret
  exact⟨aF HS.o.symm,rfl⟩)
theorem aMa(x:Ex) (A:Option Addr) (ca:Nat) (B:Option Addr) (cb:Nat) (w:World) (hr:aJ w x A B) (hs:x.s.size<=1000):
 Calls Tryz.prog 66 #[.agg (aE x A ca B cb)] w fun e w'=>e=.returned (.bool (fC x))/\Below w.heap.size w w':=by
 have HF:=Hd fun w1 h=>eC w x A ca B cb w1 h hr;have HS:=Hd (show fC x=if x.k==3 || x.k==11 || x.k==12 || x.k==13 then aX x.s.data.toList else if x.k==4 then dY x.s.data.toList else if x.k==17 then eI x.s.data.toList else x.s.toList==[] from rfl);clear hr;unfold aE at HF ⊢;generalize fC x=Ah at *;generalize x.k=k at *;generalize x.s=s at *
 by_cases h3:k=3
 . subst h3;have HN:=Hd (show Ah=aX s.data.toList by rw [HS.o];rfl);have HH:=Hd fun w=>iY s w (by omega);generalize aX s.data.toList=bh at *
   go_enter Tryz.func66,Tryz.ntmps66
   go_upto_region 1 with(fail)
   generalize Ac:w.alloc _=w1;obtain⟨Ab,hg,Af,Aa⟩:=HF.o w1 Ac;have Ad:=Hd Ab;have q0:=Aa w1 (Yg _ _) 0;have q2:=Aa w1 (Yg _ _) 2;clear Aa Ab Af Ac HF
   go_wp2_with fail
   refine(HH.o _).mono ?_;rintro r w2 ⟨rfl,Ae⟩;have Ag:=Hd (Ad.o.trans (Ae.mono Ad.o.size));clear Ae
   go_wp2_with fail
   go_ret
   exact⟨aF HN.o.symm,Ag.o⟩
 . have e3:(k==3)=false:=by simpa using h3
   by_cases Ai:k=11
   . subst Ai;have HN:=Hd (show Ah=aX s.data.toList by rw [HS.o];rfl);have HH:=Hd fun w=>iY s w (by omega);generalize aX s.data.toList=bh at *
     go_enter Tryz.func66,Tryz.ntmps66
     go_upto_region 1 with(fail)
     generalize Ac:w.alloc _=w1;obtain⟨Ab,hg,Af,Aa⟩:=HF.o w1 Ac;have Ad:=Hd Ab;have q0:=Aa w1 (Yg _ _) 0;have q2:=Aa w1 (Yg _ _) 2;clear Aa Ab Af Ac HF
     go_wp2_with fail
     refine(HH.o _).mono ?_;rintro r w2 ⟨rfl,Ae⟩;have Ag:=Hd (Ad.o.trans (Ae.mono Ad.o.size));clear Ae
     go_wp2_with fail
     go_ret
     exact⟨aF HN.o.symm,Ag.o⟩
   . have Am:(k==11)=false:=by simpa using Ai
     by_cases Aj:k=12
     . subst Aj;have HN:=Hd (show Ah=aX s.data.toList by rw [HS.o];rfl);have HH:=Hd fun w=>iY s w (by omega);generalize aX s.data.toList=bh at *
       go_enter Tryz.func66,Tryz.ntmps66
       go_upto_region 1 with(fail)
       generalize Ac:w.alloc _=w1;obtain⟨Ab,hg,Af,Aa⟩:=HF.o w1 Ac;have Ad:=Hd Ab;have q0:=Aa w1 (Yg _ _) 0;have q2:=Aa w1 (Yg _ _) 2;clear Aa Ab Af Ac HF
       go_wp2_with fail
       refine(HH.o _).mono ?_;rintro r w2 ⟨rfl,Ae⟩;have Ag:=Hd (Ad.o.trans (Ae.mono Ad.o.size));clear Ae
       go_wp2_with fail
       go_ret
       exact⟨aF HN.o.symm,Ag.o⟩
     . have An:(k==12)=false:=by simpa using Aj
       by_cases Ak:k=13
       . subst Ak;have HN:=Hd (show Ah=aX s.data.toList by rw [HS.o];rfl);have HH:=Hd fun w=>iY s w (by omega);generalize aX s.data.toList=bh at *
         go_enter Tryz.func66,Tryz.ntmps66
         go_upto_region 1 with(fail)
         generalize Ac:w.alloc _=w1;obtain⟨Ab,hg,Af,Aa⟩:=HF.o w1 Ac;have Ad:=Hd Ab;have q0:=Aa w1 (Yg _ _) 0;have q2:=Aa w1 (Yg _ _) 2;clear Aa Ab Af Ac HF
         go_wp2_with fail
         refine(HH.o _).mono ?_;rintro r w2 ⟨rfl,Ae⟩;have Ag:=Hd (Ad.o.trans (Ae.mono Ad.o.size));clear Ae
         go_wp2_with fail
         go_ret
         exact⟨aF HN.o.symm,Ag.o⟩
       . have Ao:(k==13)=false:=by simpa using Ak
         by_cases h4:k=4
         . subst h4;have HN:=Hd (show Ah=dY s.data.toList by rw [HS.o];rfl);have HH:=Hd fun w=>rR s w (by omega);generalize dY s.data.toList=bh at *
           go_enter Tryz.func66,Tryz.ntmps66
           go_upto_region 1 with(fail)
           generalize Ac:w.alloc _=w1;obtain⟨Ab,hg,Af,Aa⟩:=HF.o w1 Ac;have Ad:=Hd Ab;have q0:=Aa w1 (Yg _ _) 0;have q2:=Aa w1 (Yg _ _) 2;clear Aa Ab Af Ac HF
           go_wp2_with fail
           refine(HH.o _).mono ?_;rintro r w2 ⟨rfl,rfl⟩
           go_wp2_with fail
           go_ret
           exact⟨aF HN.o.symm,Ad.o⟩
         . have e4:(k==4)=false:=by simpa using h4
           by_cases Al:k=17
           . subst Al;have HN:=Hd (show Ah=eI s.data.toList by rw [HS.o];rfl);have HH:=Hd fun w=>aOv s w hs;generalize eI s.data.toList=bh at *
             go_enter Tryz.func66,Tryz.ntmps66
             go_upto_region 1 with(fail)
             generalize Ac:w.alloc _=w1;obtain⟨Ab,hg,Af,Aa⟩:=HF.o w1 Ac;have Ad:=Hd Ab;have q0:=Aa w1 (Yg _ _) 0;have q2:=Aa w1 (Yg _ _) 2;clear Aa Ab Af Ac HF
             go_wp2_with fail
             refine(HH.o _).mono ?_;rintro r w2 ⟨rfl,Ae⟩;have Ag:=Hd (Ad.o.trans (Ae.mono Ad.o.size));clear Ae
             go_wp2_with fail
             go_ret
             exact⟨aF HN.o.symm,Ag.o⟩
           . have Ap:(k==17)=false:=by simpa using Al
             have HN:=Hd (show Ah=(s.toList==[]) by rw [HS.o];simp only [e3,Am,An,Ao,e4,Ap];rfl)
             cases he:(s.toList==[]) <;> rw [he] at HN
             all_goals (
              go_enter Tryz.func66,Tryz.ntmps66
              go_upto_region 1 with(fail)
              generalize Ac:w.alloc _=w1;obtain⟨Ab,hg,Af,Aa⟩:=HF.o w1 Ac;have Ad:=Hd Ab;have q0:=Aa w1 (Yg _ _) 0;have q2:=Aa w1 (Yg _ _) 2;clear Aa Ab Af Ac HF
              go_wp2_with fail
              go_ret
              exact⟨aF HN.o.symm,Ad.o⟩)
theorem aOw(x:Ex) (A:Option Addr) (ca:Nat) (B:Option Addr) (cb:Nat) (w:World) (hr:aJ w x A B) (hz:∀ t∈x.arms,t.size<=9223372036854775807) (hm:x.arms.length<=100):
 Calls Tryz.prog 67 #[.agg (aE x A ca B cb)] w fun e w'=>e=.returned (.bool (dS x))/\Below w.heap.size w w':=by
 have HF:=Hd fun w1 h=>eC w x A ca B cb w1 h hr;have HS:=Hd (show dS x=(x.arms.all cT && (if x.k==11 then x.arms.length==1 else if x.k==12 then decide (1<=x.arms.length) && decide (x.arms.length<=6) && bP x.arms else x.arms.length==0)) from rfl);have Ay:=Hd hr.arms;have Am:=Hd fun i (hi:i<x.arms.length) (h:cT (x.arms[i]?.getD ByteArray.empty)=false)=>mR (f:=cT) hi h;have Ar:=Hd fun k (hk:k<x.arms.length) h (hx:cT (x.arms[k]?.getD ByteArray.empty)=true)=>oS (f:=cT) hk h hx;have Aj:=Hd fun k h (hk:x.arms.length<=k)=>oT (l:=x.arms) (f:=cT) (k:=k) h hk;have HZ:=Hd fun i (hi:i<x.arms.length)=>hz (x.arms[i]?.getD ByteArray.empty) (by rw [Yk hi];exact Zg _);have As:=Hd fun w1 (h:Below w.heap.size w w1)=>mU A x.arms.length ca x.arms w1 (hr.below h).arms hm;clear hr hz;unfold aE at HF ⊢;generalize dS x=Ab at *;generalize x.k=k at *;generalize Az:x.arms.length=n at *;have Ax:=xT n
 go_enter Tryz.func67,Tryz.ntmps67
 go_upto_region 1 with(fail)
 generalize Ao:w.alloc _=w1;obtain⟨Ae,hg,Bb,Aa⟩:=HF.o w1 Ao;have Ac:=Hd Ae;have q0:=Aa w1 (Yg _ _) 0;have q4:=Aa w1 (Yg _ _) 4;have HC:=Hd Aa;have Au:=Hd (Ay.o.below Ae);have Bc:=Hd (As.o w1 Ae);clear Aa Ae Bb Ao HF
 go_wp2_with fail
 go_loopw [3] (fun i wr=>∃ j:Nat,j<=n/\i=.int .i64 j/\(x.arms.take j).all cT=true/\w1=wr) (fun i _=>n-(intOf i).toNat)
 case atStart=>exact⟨0,Yq _,rfl,by simp,rfl⟩
 case round=>
  obtain⟨j,hj,rfl,Ad,rfl⟩:=hrel;have HA:=Hd Ad;clear Ad
  by_cases Ap:j<n
  . obtain⟨b,Bd,rfl,hb,Aq⟩:=Au.o.at_ Ap;have c0:=Aq j Ap;have Af:=Hd (Am.o j (by omega));have Ag:=Hd (Ar.o j (by omega) HA.o);have An:=HZ.o j (by omega);clear Aq;generalize x.arms[j]?.getD ByteArray.empty=t at *;have HT:=Hd (aRj t w1 An);clear An
    cases ht:cT t with
    | false=>
     rw [ht] at HT;have Ah:=Hd (Af.o ht);have HN:=Hd (show Ab=false by rw [HS.o,Ah.o];rfl)
     go_wp2_with fail
     refine HT.o.mono ?_;rintro r w2 ⟨rfl,rfl⟩
     go_wp2_with fail
     go_ret
     exact⟨aF HN.o.symm,Ac.o⟩
    | true=>
     rw [ht] at HT;have Ah:=Hd (Ag.o ht)
     go_wp2_with fail
     refine HT.o.mono ?_;rintro r w2 ⟨rfl,rfl⟩
     go_wp2_with fail
     go_roundw
     case rel=>exact⟨j+1,by omega,by go_num,Ah.o,(by first | trivial | rfl)⟩
     case measure=>simp [intOf];omega
  . have HE:=Aj.o j HA.o (by omega);rw [HE] at HS;clear HE Am Ar Aj HA
    by_cases Ak:k=11
    . subst Ak;have HN:=Hd (show Ab=(n==1) by rw [HS.o];rfl)
      cases Ai:(n==1) <;> rw [Ai] at HN Ax
      all_goals (
       go_wp2_with fail
       go_ret
       exact⟨aF HN.o.symm,Ac.o⟩)
    . have Aw:(k==11)=false:=by simpa using Ak
      by_cases Al:k=12
      . subst Al
        by_cases h1:1<=n
        . by_cases h6:n<=6
          . have HN:=Hd (show Ab=bP x.arms by rw [HS.o];simp [h1,h6]);generalize bP x.arms=on at *
            go_wp2_with fail
            refine Bc.o.mono ?_;rintro r w2 ⟨rfl,m,rfl⟩
            go_wp2_with fail
            go_ret
            exact⟨aF HN.o.symm,aY Ac.o _⟩
          . have HN:=Hd (show Ab=false by rw [HS.o];simp [h6])
            go_wp2_with fail
            go_ret
            exact⟨aF HN.o.symm,Ac.o⟩
        . have HN:=Hd (show Ab=false by rw [HS.o];simp [h1])
          go_wp2_with fail
          go_ret
          exact⟨aF HN.o.symm,Ac.o⟩
      . have Ba:(k==12)=false:=by simpa using Al
        have HN:=Hd (show Ab=(n==0) by rw [HS.o];simp only [Aw,Ba];rfl);have Av:((n:Int)==0)=(n==0):=by rw [Zm];simp
        cases Ai:(n==0) <;> rw [Ai] at HN Av
        all_goals (
         go_wp2_with fail
         go_ret
         exact⟨aF HN.o.symm,Ac.o⟩)
def dA(x:Ex):Int × Int:=
 if x.k==5 || x.k==10 || x.k==11 then(1,1) else if x.k==6 || x.k==8 || x.k==9 || x.k==15 then(2,2) else if x.k==7 || x.k==16 then(3,3)
 else if x.k==12 then(x.arms.length,x.arms.length) else if x.k==13 then(x.n,6+x.n) else if x.k==14 then(1,8) else(0,0)
theorem aOx(x:Ex) (A:Option Addr) (ca:Nat) (B:Option Addr) (cb:Nat) (w:World) (hr:aJ w x A B) (hn:x.k=13->x.n=0\/x.n=1):
 Calls Tryz.prog 68 #[.agg (aE x A ca B cb)] w fun e w'=>e=.returned (.tuple #[.int .i64 (dA x).1,.int .i64 (dA x).2])/\Below w.heap.size w w':=by
 have HF:=Hd fun w1 h=>eC w x A ca B cb w1 h hr
 have HS:=Hd (show dA x=if x.k==5 || x.k==10 || x.k==11 then(1,1) else if x.k==6 || x.k==8 || x.k==9 || x.k==15 then(2,2) else if x.k==7 || x.k==16 then(3,3)
  else if x.k==12 then((x.arms.length:Int),(x.arms.length:Int)) else if x.k==13 then(x.n,6+x.n) else if x.k==14 then(1,8) else(0,0) from rfl)
 have Aw:=hr.arms.max;clear hr;unfold aE at HF ⊢;generalize dA x=Af at *;generalize x.k=k at *;generalize x.n=n at *;generalize x.arms.length=m at *
 by_cases h5:k=5
 . subst h5;have HN:=Hd (show Af=(1,1) by rw [HS.o];rfl)
   go_enter Tryz.func68,Tryz.ntmps68
   go_upto_region 1 with(fail)
   generalize Ac:w.alloc _=w1;obtain⟨Ab,hg,Ad,Aa⟩:=HF.o w1 Ac;have Ae:=Hd Ab;obtain⟨q0,q1,-,-,q4,-⟩:=Sx (Aa w1 (Yg _ _));clear Aa Ab Ad Ac HF
   go_wp2_with fail
   exact Zt (v:=.tuple #[.int .i64 (1),.int .i64 (1)]) (by simp [results,Tryz.results68,go_sem]) rfl ⟨by rw [HN.o],Ae.o⟩
 . have e5:(k==5)=false:=by simpa using h5
   by_cases Am:k=10
   . subst Am;have HN:=Hd (show Af=(1,1) by rw [HS.o];rfl)
     go_enter Tryz.func68,Tryz.ntmps68
     go_upto_region 1 with(fail)
     generalize Ac:w.alloc _=w1;obtain⟨Ab,hg,Ad,Aa⟩:=HF.o w1 Ac;have Ae:=Hd Ab;obtain⟨q0,q1,-,-,q4,-⟩:=Sx (Aa w1 (Yg _ _));clear Aa Ab Ad Ac HF
     go_wp2_with fail
     exact Zt (v:=.tuple #[.int .i64 (1),.int .i64 (1)]) (by simp [results,Tryz.results68,go_sem]) rfl ⟨by rw [HN.o],Ae.o⟩
   . have An:(k==10)=false:=by simpa using Am
     by_cases Ah:k=11
     . subst Ah;have HN:=Hd (show Af=(1,1) by rw [HS.o];rfl)
       go_enter Tryz.func68,Tryz.ntmps68
       go_upto_region 1 with(fail)
       generalize Ac:w.alloc _=w1;obtain⟨Ab,hg,Ad,Aa⟩:=HF.o w1 Ac;have Ae:=Hd Ab;obtain⟨q0,q1,-,-,q4,-⟩:=Sx (Aa w1 (Yg _ _));clear Aa Ab Ad Ac HF
       go_wp2_with fail
       exact Zt (v:=.tuple #[.int .i64 (1),.int .i64 (1)]) (by simp [results,Tryz.results68,go_sem]) rfl ⟨by rw [HN.o],Ae.o⟩
     . have Aq:(k==11)=false:=by simpa using Ah
       by_cases h6:k=6
       . subst h6;have HN:=Hd (show Af=(2,2) by rw [HS.o];rfl)
         go_enter Tryz.func68,Tryz.ntmps68
         go_upto_region 1 with(fail)
         generalize Ac:w.alloc _=w1;obtain⟨Ab,hg,Ad,Aa⟩:=HF.o w1 Ac;have Ae:=Hd Ab;obtain⟨q0,q1,-,-,q4,-⟩:=Sx (Aa w1 (Yg _ _));clear Aa Ab Ad Ac HF
         go_wp2_with fail
         exact Zt (v:=.tuple #[.int .i64 (2),.int .i64 (2)]) (by simp [results,Tryz.results68,go_sem]) rfl ⟨by rw [HN.o],Ae.o⟩
       . have e6:(k==6)=false:=by simpa using h6
         by_cases h8:k=8
         . subst h8;have HN:=Hd (show Af=(2,2) by rw [HS.o];rfl)
           go_enter Tryz.func68,Tryz.ntmps68
           go_upto_region 1 with(fail)
           generalize Ac:w.alloc _=w1;obtain⟨Ab,hg,Ad,Aa⟩:=HF.o w1 Ac;have Ae:=Hd Ab;obtain⟨q0,q1,-,-,q4,-⟩:=Sx (Aa w1 (Yg _ _));clear Aa Ab Ad Ac HF
           go_wp2_with fail
           exact Zt (v:=.tuple #[.int .i64 (2),.int .i64 (2)]) (by simp [results,Tryz.results68,go_sem]) rfl ⟨by rw [HN.o],Ae.o⟩
         . have e8:(k==8)=false:=by simpa using h8
           by_cases h9:k=9
           . subst h9;have HN:=Hd (show Af=(2,2) by rw [HS.o];rfl)
             go_enter Tryz.func68,Tryz.ntmps68
             go_upto_region 1 with(fail)
             generalize Ac:w.alloc _=w1;obtain⟨Ab,hg,Ad,Aa⟩:=HF.o w1 Ac;have Ae:=Hd Ab;obtain⟨q0,q1,-,-,q4,-⟩:=Sx (Aa w1 (Yg _ _));clear Aa Ab Ad Ac HF
             go_wp2_with fail
             exact Zt (v:=.tuple #[.int .i64 (2),.int .i64 (2)]) (by simp [results,Tryz.results68,go_sem]) rfl ⟨by rw [HN.o],Ae.o⟩
           . have e9:(k==9)=false:=by simpa using h9
             by_cases Ak:k=15
             . subst Ak;have HN:=Hd (show Af=(2,2) by rw [HS.o];rfl)
               go_enter Tryz.func68,Tryz.ntmps68
               go_upto_region 1 with(fail)
               generalize Ac:w.alloc _=w1;obtain⟨Ab,hg,Ad,Aa⟩:=HF.o w1 Ac;have Ae:=Hd Ab;obtain⟨q0,q1,-,-,q4,-⟩:=Sx (Aa w1 (Yg _ _));clear Aa Ab Ad Ac HF
               go_wp2_with fail
               exact Zt (v:=.tuple #[.int .i64 (2),.int .i64 (2)]) (by simp [results,Tryz.results68,go_sem]) rfl ⟨by rw [HN.o],Ae.o⟩
             . have Av:(k==15)=false:=by simpa using Ak
               by_cases h7:k=7
               . subst h7;have HN:=Hd (show Af=(3,3) by rw [HS.o];rfl)
                 go_enter Tryz.func68,Tryz.ntmps68
                 go_upto_region 1 with(fail)
                 generalize Ac:w.alloc _=w1;obtain⟨Ab,hg,Ad,Aa⟩:=HF.o w1 Ac;have Ae:=Hd Ab;obtain⟨q0,q1,-,-,q4,-⟩:=Sx (Aa w1 (Yg _ _));clear Aa Ab Ad Ac HF
                 go_wp2_with fail
                 exact Zt (v:=.tuple #[.int .i64 (3),.int .i64 (3)]) (by simp [results,Tryz.results68,go_sem]) rfl ⟨by rw [HN.o],Ae.o⟩
               . have e7:(k==7)=false:=by simpa using h7
                 by_cases Aj:k=16
                 . subst Aj;have HN:=Hd (show Af=(3,3) by rw [HS.o];rfl)
                   go_enter Tryz.func68,Tryz.ntmps68
                   go_upto_region 1 with(fail)
                   generalize Ac:w.alloc _=w1;obtain⟨Ab,hg,Ad,Aa⟩:=HF.o w1 Ac;have Ae:=Hd Ab;obtain⟨q0,q1,-,-,q4,-⟩:=Sx (Aa w1 (Yg _ _));clear Aa Ab Ad Ac HF
                   go_wp2_with fail
                   exact Zt (v:=.tuple #[.int .i64 (3),.int .i64 (3)]) (by simp [results,Tryz.results68,go_sem]) rfl ⟨by rw [HN.o],Ae.o⟩
                 . have Ap:(k==16)=false:=by simpa using Aj
                   by_cases Ai:k=12
                   . subst Ai;have HN:=Hd (show Af=((m:Int),(m:Int)) by rw [HS.o];rfl)
                     go_enter Tryz.func68,Tryz.ntmps68
                     go_upto_region 1 with(fail)
                     generalize Ac:w.alloc _=w1;obtain⟨Ab,hg,Ad,Aa⟩:=HF.o w1 Ac;have Ae:=Hd Ab;obtain⟨q0,q1,-,-,q4,-⟩:=Sx (Aa w1 (Yg _ _));clear Aa Ab Ad Ac HF
                     go_wp2_with fail
                     go_quiet (fail)
                     go_wp2_with fail
                     exact Zt (v:=.tuple #[.int .i64 (m),.int .i64 (m)]) (by simp [results,Tryz.results68,go_sem]) rfl ⟨by rw [HN.o],aY Ae.o _⟩
                   . have Ar:(k==12)=false:=by simpa using Ai
                     by_cases Al:k=13
                     . subst Al;have Ao:=hn rfl;have h6:IntKind.i64.wrap (6+n)=6+n:=by rcases Ao with rfl | rfl <;> rfl
                       have HN:=Hd (show Af=(n,6+n) by rw [HS.o];rfl);clear hn
                       go_enter Tryz.func68,Tryz.ntmps68
                       go_upto_region 1 with(fail)
                       generalize Ac:w.alloc _=w1;obtain⟨Ab,hg,Ad,Aa⟩:=HF.o w1 Ac;have Ae:=Hd Ab;obtain⟨q0,q1,-,-,q4,-⟩:=Sx (Aa w1 (Yg _ _));clear Aa Ab Ad Ac HF
                       go_wp2_with fail
                       go_quiet (fail)
                       go_wp2_with fail
                       exact Zt (v:=.tuple #[.int .i64 (n),.int .i64 (6+n)]) (by simp [results,Tryz.results68,go_sem]) rfl ⟨by rw [HN.o],aY Ae.o _⟩
                     . have As:(k==13)=false:=by simpa using Al
                       by_cases Ag:k=14
                       . subst Ag;have HN:=Hd (show Af=(1,8) by rw [HS.o];rfl)
                         go_enter Tryz.func68,Tryz.ntmps68
                         go_upto_region 1 with(fail)
                         generalize Ac:w.alloc _=w1;obtain⟨Ab,hg,Ad,Aa⟩:=HF.o w1 Ac;have Ae:=Hd Ab;obtain⟨q0,q1,-,-,q4,-⟩:=Sx (Aa w1 (Yg _ _));clear Aa Ab Ad Ac HF
                         go_wp2_with fail
                         exact Zt (v:=.tuple #[.int .i64 (1),.int .i64 (8)]) (by simp [results,Tryz.results68,go_sem]) rfl ⟨by rw [HN.o],Ae.o⟩
                       . have Au:(k==14)=false:=by simpa using Ag
                         have HN:=Hd (show Af=(0,0) by rw [HS.o];simp only [e5,An,Aq,e6,e8,e9,Av,e7,Ap,Ar,As,Au];rfl)
                         go_enter Tryz.func68,Tryz.ntmps68
                         go_upto_region 1 with(fail)
                         generalize Ac:w.alloc _=w1;obtain⟨Ab,hg,Ad,Aa⟩:=HF.o w1 Ac;have Ae:=Hd Ab;obtain⟨q0,q1,-,-,q4,-⟩:=Sx (Aa w1 (Yg _ _));clear Aa Ab Ad Ac HF
                         go_wp2_with fail
                         exact Zt (v:=.tuple #[.int .i64 (0),.int .i64 (0)]) (by simp [results,Tryz.results68,go_sem]) rfl ⟨by rw [HN.o],Ae.o⟩
end
end Go.Proofs.YtegjgiofmpolnaaGreat
