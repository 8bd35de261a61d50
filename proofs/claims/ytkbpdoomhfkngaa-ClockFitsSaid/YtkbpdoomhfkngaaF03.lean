/- Parts of the proof: ExK, ExN, PgR. Conditions: each theorem's own. -/
import Derived.Test.YtkbpdoomhfkngaaF02
namespace Go.Proofs.Ytkbpdoomhfkngaa
set_option linter.unusedVariables false
set_option linter.unusedSimpArgs false
set_option maxRecDepth 100000
set_option maxHeartbeats 40000000
section
open Go.RowKit Go.Sort
def literalX(x:Ex):Bool:=if x.k==5 then(x.op==1) && (x.subs.length==1) && ((subX x 0).k==1) else(x.k==1) || (x.k==2) || (x.k==4)
def constX(x:Ex):Bool:=if x.k==14 then x.subs.all literalX else literalX x
theorem int_len(n:Nat):((n:Int)==1)=(n==1):=by rw [Bool.eq_iff_iff];simp;omega
theorem refLiteral(x:Ex) (A:Option Addr) (ca:Nat) (B:Option Addr) (cb:Nat) (w:World) (hr:rdX w x A B):
 Calls Try.prog 55 #[.agg (exA x A ca B cb)] w fun e w'=>e=.returned (.bool (literalX x))∧Below w.heap.size w w':=by
 have HF:=Hd fun w1 h=>box_facts w x A ca B cb w1 h hr;have HS:=Hd (show literalX x=if x.k==5 then(x.op==1) && (x.subs.length==1) && ((subX x 0).k==1) else(x.k==1) || (x.k==2) || (x.k==4) from rfl);have hmx:=hr.subs.max;clear hr;unfold exA at HF ⊢;generalize literalX x=res at *;generalize x.k=k at *;generalize x.op=o at *;generalize hlen:x.subs.length=n at *;have hln:=int_len n
 cases h5:(k==5) with
 | true=>
  obtain rfl:k=5:=by simpa using h5
  cases ho:(o==1) with
  | false=>
   have HN:=Hd (show res=false by rw [HS.out,ho];rfl)
   go_enter Try.func55,Try.ntmps55
   go_upto_region 1 with(fail)
   generalize hw1:w.alloc _=w1;obtain⟨hb1,hg,hr1,hcell⟩:=HF.out w1 hw1;have HB1:=Hd hb1;obtain⟨q0,-,-,q3,-,q5⟩:=Sx (hcell w1 (Below.refl _ _));clear hcell hb1 hr1 hw1 HF
   go_wp2_with fail
   go_ret
   exact⟨ret_bool HN.out.symm,HB1.out⟩
  | true=>
   cases hl:(n==1) with
   | false=>
    have HN:=Hd (show res=false by rw [HS.out,ho,hl];rfl);rw [hl] at hln
    go_enter Try.func55,Try.ntmps55
    go_upto_region 1 with(fail)
    generalize hw1:w.alloc _=w1;obtain⟨hb1,hg,hr1,hcell⟩:=HF.out w1 hw1;have HB1:=Hd hb1;obtain⟨q0,-,-,q3,-,q5⟩:=Sx (hcell w1 (Below.refl _ _));clear hcell hb1 hr1 hw1 HF
    go_wp2_with fail
    go_ret
    exact⟨ret_bool HN.out.symm,HB1.out⟩
   | true=>
    have HN:=Hd (show res=((subX x 0).k==1) by rw [HS.out,ho,hl];rfl);rw [hl] at hln;obtain rfl:n=1:=by simpa using hl
    go_enter Try.func55,Try.ntmps55
    go_upto_region 1 with(fail)
    generalize hw1:w.alloc _=w1;obtain⟨hb1,hg,hr1,hcell⟩:=HF.out w1 hw1;obtain⟨b,off,rfl,hb,hat⟩:=hr1.sub (i:=0) (by omega);obtain⟨A',ca',B',cb',hrg,hrd⟩:=hat 0 (by omega);rw [Nat.zero_mul,Nat.add_zero] at hrg;obtain⟨c0,c1,c2,c3,c4,c5⟩:=rangeAt_six hrg;have HB1:=Hd hb1;obtain⟨q0,-,-,q3,-,q5⟩:=Sx (hcell w1 (Below.refl _ _));clear hcell hb1 hr1 hw1 HF hat hrg hrd c1 c2 c3 c4 c5;generalize (subX x 0).k=z at *
    go_wp2_with fail
    go_ret
    exact⟨ret_bool HN.out.symm,HB1.out⟩
 | false=>
  have HN:=Hd (show res=((k==1) || (k==2) || (k==4)) by rw [HS.out,h5];rfl)
  cases h1:(k==1) <;> cases h2:(k==2) <;> cases h4:(k==4)
  all_goals (
   rw [h1,h2,h4] at HN
   go_enter Try.func55,Try.ntmps55
   go_upto_region 1 with(fail)
   generalize hw1:w.alloc _=w1;obtain⟨hb1,hg,hr1,hcell⟩:=HF.out w1 hw1;have HB1:=Hd hb1;have q0:=hcell w1 (Below.refl _ _) 0;clear hcell hb1 hr1 hw1 HF
   go_wp2_with fail
   go_ret
   exact⟨ret_bool HN.out.symm,HB1.out⟩)
theorem refConst(x:Ex) (A:Option Addr) (ca:Nat) (B:Option Addr) (cb:Nat) (w:World) (hr:rdX w x A B):
 Calls Try.prog 40 #[.agg (exA x A ca B cb)] w fun e w'=>e=.returned (.bool (constX x))∧Below w.heap.size w w':=by
 have HF:=Hd fun w1 h=>box_facts w x A ca B cb w1 h hr;have HS:=Hd (show constX x=if x.k==14 then x.subs.all literalX else literalX x from rfl);have hmx:=hr.subs.max;have HLT:=Hd fun(x:Ex) (A:Option Addr) (ca:Nat) (B:Option Addr) (cb:Nat) (w:World) (hr:rdX w x A B)=>refLiteral x A ca B cb w hr;have HAL:=Hd fun i (hi:i<x.subs.length) (h:literalX (subX x i)=false)=>all_false (f:=literalX) hi h;have HAS:=Hd fun k (hk:k<x.subs.length) h (hx:literalX (subX x k)=true)=>all_take_succ (f:=literalX) hk h hx;have HAE:=Hd fun k h (hk:x.subs.length≤k)=>all_take_end (l:=x.subs) (f:=literalX) (k:=k) h hk;have HLX:=Hd fun w1 (h:rdX w1 x A B)=>refLiteral x A ca B cb w1 h;clear hr;unfold exA at HF HLT HLX ⊢;generalize constX x=res at *;generalize literalX x=lx at *;generalize x.k=k at *;generalize hlen:x.subs.length=n at *
 cases h14:(k==14) with
 | false=>
  have n14:(k != 14)=true:=by rw [bne,h14];rfl
  have HN:=Hd (show res=lx by rw [HS.out,h14];rfl)
  go_enter Try.func40,Try.ntmps40
  go_upto_region 1 with(fail)
  generalize hw1:w.alloc _=w1;obtain⟨hb1,hg,hr1,hcell⟩:=HF.out w1 hw1;have HB1:=Hd hb1;obtain⟨q0,q1,q2,q3,q4,q5⟩:=Sx (hcell w1 (Below.refl _ _));have HL1:=Hd (HLX.out w1 hr1);clear hcell hb1 hr1 hw1 HF
  go_wp2_with fail
  refine HL1.out.mono ?_;rintro r w2 ⟨rfl,hb2⟩;have HB2:=Hd (HB1.out.trans (hb2.mono HB1.out.size));clear hb2
  go_wp2_with fail
  go_ret
  exact⟨ret_bool HN.out.symm,HB2.out⟩
 | true=>
  obtain rfl:k=14:=by simpa using h14
  have HN:=Hd (show res=x.subs.all literalX by rw [HS.out];rfl)
  go_enter Try.func40,Try.ntmps40
  go_upto_region 1 with(fail)
  generalize hw1:w.alloc _=w1;obtain⟨hb1,hg,hr1,hcell⟩:=HF.out w1 hw1;have HB1:=Hd hb1;have q0:=hcell w1 (Below.refl _ _) 0;have q5:=hcell w1 (Below.refl _ _) 5;have HC:=Hd hcell;have HR1:=Hd hr1;clear hcell hb1 hr1 hw1 HF
  go_wp2_with fail
  go_loopw [3] (fun i wr=>∃ k:Nat,k≤n∧i=.int .i64 k∧(x.subs.take k).all literalX=true∧Below w1.heap.size w1 wr) (fun i _=>n-(intOf i).toNat)
  case atStart=>exact⟨0,Nat.zero_le _,rfl,by simp,Below.refl _ _⟩
  case round=>
   obtain⟨k,hk,rfl,hall,hbw⟩:=hrel;have HA:=Hd hall;have HBW:=Hd hbw;have hc5:=HC.out wr hbw 5;clear hall
   by_cases hlt:k<n
   · obtain⟨b,off,rfl,hb,hat⟩:=(HR1.out.below hbw).sub (i:=k) (by omega);obtain⟨A',ca',B',cb',hrg,hrd⟩:=hat k (by omega);obtain⟨c0,c1,c2,c3,c4,c5⟩:=rangeAt_six hrg;have HRD:=Hd hrd;have HCL:=Hd (HLT.out (subX x k) A' ca' B' cb' wr hrd);have HAL':=Hd (HAL.out k (by omega));have HAS':=Hd (HAS.out k (by omega) HA.out);clear hat hbw hrg hrd
     cases hl:literalX (subX x k) with
     | false=>
      rw [hl] at HCL;have HF':=Hd (HAL'.out hl)
      go_wp2_with fail
      refine HCL.out.mono ?_;rintro r w2 ⟨rfl,hb2⟩;have HB2:=Hd (HBW.out.trans (hb2.mono HBW.out.size));clear hb2
      go_wp2_with fail
      go_ret
      exact⟨ret_bool (by rw [HN.out,HF'.out]),HB1.out.trans (HB2.out.mono HB1.out.size)⟩
     | true=>
      rw [hl] at HCL;have HF':=Hd (HAS'.out hl)
      go_wp2_with fail
      refine HCL.out.mono ?_;rintro r w2 ⟨rfl,hb2⟩;have HB2:=Hd (HBW.out.trans (hb2.mono HBW.out.size));clear hb2
      go_wp2_with fail
      go_roundw
      case rel=>exact⟨k+1,by omega,by go_num,HF'.out,HB2.out⟩
      case measure=>simp [intOf];omega
   · have HE:=Hd (HAE.out k HA.out (by omega))
     go_wp2_with fail
     go_ret
     exact⟨ret_bool (by rw [HN.out,HE.out]),HB1.out.trans (HBW.out.mono HB1.out.size)⟩
def numbersX(x:Ex):Bool:=
 if x.op<(if x.k==6 then 3 else if x.k==5 then 1 else 0)∨(if x.k==6 then 16 else if x.k==5 then 2 else 0)<x.op then false
 else if x.k==1 then decide (0≤x.n) else if(x.k==2 || x.k==13) then(x.n==0 || x.n==1) else x.n==0
theorem refNumbers(x:Ex) (A:Option Addr) (ca:Nat) (B:Option Addr) (cb:Nat) (w:World) (hr:rdX w x A B):
 Calls Try.prog 36 #[.agg (exA x A ca B cb)] w fun e w'=>e=.returned (.bool (numbersX x))∧Below w.heap.size w w':=by
 have HF:=Hd fun w1 h=>box_facts w x A ca B cb w1 h hr
 have HS:=Hd (show numbersX x=if x.op<(if x.k==6 then 3 else if x.k==5 then 1 else 0)∨(if x.k==6 then 16 else if x.k==5 then 2 else 0)<x.op then false
  else if x.k==1 then decide (0≤x.n) else if(x.k==2 || x.k==13) then(x.n==0 || x.n==1) else x.n==0 from rfl)
 clear hr;unfold exA at HF ⊢;generalize numbersX x=res at *;generalize x.k=k at *;generalize x.op=o at *;generalize x.n=n at *
 by_cases h1:k=1
 · subst h1
   by_cases hlo:o<0
   · have HN:=Hd (show res=false by rw [HS.out];simp [hlo])
     go_enter Try.func36,Try.ntmps36
     go_upto_region 1 with(fail)
     generalize hw1:w.alloc _=w1;obtain⟨hb1,hg,hr1,hcell⟩:=HF.out w1 hw1;have HB1:=Hd hb1;obtain⟨q0,q1,-,q3,-,-⟩:=Sx (hcell w1 (Below.refl _ _));clear hcell hb1 hr1 hw1 HF
     go_wp2_with fail
     go_ret
     exact⟨ret_bool HN.out.symm,HB1.out⟩
   · by_cases hhi:0<o
     · have HN:=Hd (show res=false by rw [HS.out];simp [hlo,hhi])
       go_enter Try.func36,Try.ntmps36
       go_upto_region 1 with(fail)
       generalize hw1:w.alloc _=w1;obtain⟨hb1,hg,hr1,hcell⟩:=HF.out w1 hw1;have HB1:=Hd hb1;obtain⟨q0,q1,-,q3,-,-⟩:=Sx (hcell w1 (Below.refl _ _));clear hcell hb1 hr1 hw1 HF
       go_wp2_with fail
       go_ret
       exact⟨ret_bool HN.out.symm,HB1.out⟩
     · have HN:=Hd (show res=decide (0≤n) by rw [HS.out];simp [hlo,hhi])
       cases hd:decide (0≤n) <;> rw [hd] at HN
       all_goals (
        go_enter Try.func36,Try.ntmps36
        go_upto_region 1 with(fail)
        generalize hw1:w.alloc _=w1;obtain⟨hb1,hg,hr1,hcell⟩:=HF.out w1 hw1;have HB1:=Hd hb1;obtain⟨q0,q1,-,q3,-,-⟩:=Sx (hcell w1 (Below.refl _ _));clear hcell hb1 hr1 hw1 HF
        go_wp2_with fail
        go_ret
        exact⟨ret_bool HN.out.symm,HB1.out⟩)
 · have e1:(k==1)=false:=by simpa using h1
   by_cases h2:k=2
   · subst h2
     by_cases hlo:o<0
     · have HN:=Hd (show res=false by rw [HS.out];simp [hlo])
       go_enter Try.func36,Try.ntmps36
       go_upto_region 1 with(fail)
       generalize hw1:w.alloc _=w1;obtain⟨hb1,hg,hr1,hcell⟩:=HF.out w1 hw1;have HB1:=Hd hb1;obtain⟨q0,q1,-,q3,-,-⟩:=Sx (hcell w1 (Below.refl _ _));clear hcell hb1 hr1 hw1 HF
       go_wp2_with fail
       go_ret
       exact⟨ret_bool HN.out.symm,HB1.out⟩
     · by_cases hhi:0<o
       · have HN:=Hd (show res=false by rw [HS.out];simp [hlo,hhi])
         go_enter Try.func36,Try.ntmps36
         go_upto_region 1 with(fail)
         generalize hw1:w.alloc _=w1;obtain⟨hb1,hg,hr1,hcell⟩:=HF.out w1 hw1;have HB1:=Hd hb1;obtain⟨q0,q1,-,q3,-,-⟩:=Sx (hcell w1 (Below.refl _ _));clear hcell hb1 hr1 hw1 HF
         go_wp2_with fail
         go_ret
         exact⟨ret_bool HN.out.symm,HB1.out⟩
       · have HN:=Hd (show res=(n==0 || n==1) by rw [HS.out];simp [hlo,hhi])
         cases hd:(n==0) <;> cases hd1:(n==1) <;> rw [hd,hd1] at HN
         all_goals (
          go_enter Try.func36,Try.ntmps36
          go_upto_region 1 with(fail)
          generalize hw1:w.alloc _=w1;obtain⟨hb1,hg,hr1,hcell⟩:=HF.out w1 hw1;have HB1:=Hd hb1;obtain⟨q0,q1,-,q3,-,-⟩:=Sx (hcell w1 (Below.refl _ _));clear hcell hb1 hr1 hw1 HF
          go_wp2_with fail
          go_ret
          exact⟨ret_bool HN.out.symm,HB1.out⟩)
   · have e2:(k==2)=false:=by simpa using h2
     by_cases h5:k=5
     · subst h5
       by_cases hlo:o<1
       · have HN:=Hd (show res=false by rw [HS.out];simp [hlo])
         go_enter Try.func36,Try.ntmps36
         go_upto_region 1 with(fail)
         generalize hw1:w.alloc _=w1;obtain⟨hb1,hg,hr1,hcell⟩:=HF.out w1 hw1;have HB1:=Hd hb1;obtain⟨q0,q1,-,q3,-,-⟩:=Sx (hcell w1 (Below.refl _ _));clear hcell hb1 hr1 hw1 HF
         go_wp2_with fail
         go_ret
         exact⟨ret_bool HN.out.symm,HB1.out⟩
       · by_cases hhi:2<o
         · have HN:=Hd (show res=false by rw [HS.out];simp [hlo,hhi])
           go_enter Try.func36,Try.ntmps36
           go_upto_region 1 with(fail)
           generalize hw1:w.alloc _=w1;obtain⟨hb1,hg,hr1,hcell⟩:=HF.out w1 hw1;have HB1:=Hd hb1;obtain⟨q0,q1,-,q3,-,-⟩:=Sx (hcell w1 (Below.refl _ _));clear hcell hb1 hr1 hw1 HF
           go_wp2_with fail
           go_ret
           exact⟨ret_bool HN.out.symm,HB1.out⟩
         · have HN:=Hd (show res=(n==0) by rw [HS.out];simp [hlo,hhi])
           cases hd:(n==0) <;> rw [hd] at HN
           all_goals (
            go_enter Try.func36,Try.ntmps36
            go_upto_region 1 with(fail)
            generalize hw1:w.alloc _=w1;obtain⟨hb1,hg,hr1,hcell⟩:=HF.out w1 hw1;have HB1:=Hd hb1;obtain⟨q0,q1,-,q3,-,-⟩:=Sx (hcell w1 (Below.refl _ _));clear hcell hb1 hr1 hw1 HF
            go_wp2_with fail
            go_ret
            exact⟨ret_bool HN.out.symm,HB1.out⟩)
     · have e5:(k==5)=false:=by simpa using h5
       by_cases h6:k=6
       · subst h6
         by_cases hlo:o<3
         · have HN:=Hd (show res=false by rw [HS.out];simp [hlo])
           go_enter Try.func36,Try.ntmps36
           go_upto_region 1 with(fail)
           generalize hw1:w.alloc _=w1;obtain⟨hb1,hg,hr1,hcell⟩:=HF.out w1 hw1;have HB1:=Hd hb1;obtain⟨q0,q1,-,q3,-,-⟩:=Sx (hcell w1 (Below.refl _ _));clear hcell hb1 hr1 hw1 HF
           go_wp2_with fail
           go_ret
           exact⟨ret_bool HN.out.symm,HB1.out⟩
         · by_cases hhi:16<o
           · have HN:=Hd (show res=false by rw [HS.out];simp [hlo,hhi])
             go_enter Try.func36,Try.ntmps36
             go_upto_region 1 with(fail)
             generalize hw1:w.alloc _=w1;obtain⟨hb1,hg,hr1,hcell⟩:=HF.out w1 hw1;have HB1:=Hd hb1;obtain⟨q0,q1,-,q3,-,-⟩:=Sx (hcell w1 (Below.refl _ _));clear hcell hb1 hr1 hw1 HF
             go_wp2_with fail
             go_ret
             exact⟨ret_bool HN.out.symm,HB1.out⟩
           · have HN:=Hd (show res=(n==0) by rw [HS.out];simp [hlo,hhi])
             cases hd:(n==0) <;> rw [hd] at HN
             all_goals (
              go_enter Try.func36,Try.ntmps36
              go_upto_region 1 with(fail)
              generalize hw1:w.alloc _=w1;obtain⟨hb1,hg,hr1,hcell⟩:=HF.out w1 hw1;have HB1:=Hd hb1;obtain⟨q0,q1,-,q3,-,-⟩:=Sx (hcell w1 (Below.refl _ _));clear hcell hb1 hr1 hw1 HF
              go_wp2_with fail
              go_ret
              exact⟨ret_bool HN.out.symm,HB1.out⟩)
       · have e6:(k==6)=false:=by simpa using h6
         by_cases h13:k=13
         · subst h13
           by_cases hlo:o<0
           · have HN:=Hd (show res=false by rw [HS.out];simp [hlo])
             go_enter Try.func36,Try.ntmps36
             go_upto_region 1 with(fail)
             generalize hw1:w.alloc _=w1;obtain⟨hb1,hg,hr1,hcell⟩:=HF.out w1 hw1;have HB1:=Hd hb1;obtain⟨q0,q1,-,q3,-,-⟩:=Sx (hcell w1 (Below.refl _ _));clear hcell hb1 hr1 hw1 HF
             go_wp2_with fail
             go_ret
             exact⟨ret_bool HN.out.symm,HB1.out⟩
           · by_cases hhi:0<o
             · have HN:=Hd (show res=false by rw [HS.out];simp [hlo,hhi])
               go_enter Try.func36,Try.ntmps36
               go_upto_region 1 with(fail)
               generalize hw1:w.alloc _=w1;obtain⟨hb1,hg,hr1,hcell⟩:=HF.out w1 hw1;have HB1:=Hd hb1;obtain⟨q0,q1,-,q3,-,-⟩:=Sx (hcell w1 (Below.refl _ _));clear hcell hb1 hr1 hw1 HF
               go_wp2_with fail
               go_ret
               exact⟨ret_bool HN.out.symm,HB1.out⟩
             · have HN:=Hd (show res=(n==0 || n==1) by rw [HS.out];simp [hlo,hhi])
               cases hd:(n==0) <;> cases hd1:(n==1) <;> rw [hd,hd1] at HN
               all_goals (
                go_enter Try.func36,Try.ntmps36
                go_upto_region 1 with(fail)
                generalize hw1:w.alloc _=w1;obtain⟨hb1,hg,hr1,hcell⟩:=HF.out w1 hw1;have HB1:=Hd hb1;obtain⟨q0,q1,-,q3,-,-⟩:=Sx (hcell w1 (Below.refl _ _));clear hcell hb1 hr1 hw1 HF
                go_wp2_with fail
                go_ret
                exact⟨ret_bool HN.out.symm,HB1.out⟩)
         · have e13:(k==13)=false:=by simpa using h13
           by_cases hlo:o<0
           · have HN:=Hd (show res=false by rw [HS.out,e1,e2,e5,e6,e13];simp [hlo])
             go_enter Try.func36,Try.ntmps36
             go_upto_region 1 with(fail)
             generalize hw1:w.alloc _=w1;obtain⟨hb1,hg,hr1,hcell⟩:=HF.out w1 hw1;have HB1:=Hd hb1;obtain⟨q0,q1,-,q3,-,-⟩:=Sx (hcell w1 (Below.refl _ _));clear hcell hb1 hr1 hw1 HF
             go_wp2_with fail
             go_ret
             exact⟨ret_bool HN.out.symm,HB1.out⟩
           · by_cases hhi:0<o
             · have HN:=Hd (show res=false by rw [HS.out,e1,e2,e5,e6,e13];simp [hlo,hhi])
               go_enter Try.func36,Try.ntmps36
               go_upto_region 1 with(fail)
               generalize hw1:w.alloc _=w1;obtain⟨hb1,hg,hr1,hcell⟩:=HF.out w1 hw1;have HB1:=Hd hb1;obtain⟨q0,q1,-,q3,-,-⟩:=Sx (hcell w1 (Below.refl _ _));clear hcell hb1 hr1 hw1 HF
               go_wp2_with fail
               go_ret
               exact⟨ret_bool HN.out.symm,HB1.out⟩
             · have HN:=Hd (show res=(n==0) by rw [HS.out,e1,e2,e5,e6,e13];simp [hlo,hhi])
               cases hd:(n==0) <;> rw [hd] at HN
               all_goals (
                go_enter Try.func36,Try.ntmps36
                go_upto_region 1 with(fail)
                generalize hw1:w.alloc _=w1;obtain⟨hb1,hg,hr1,hcell⟩:=HF.out w1 hw1;have HB1:=Hd hb1;obtain⟨q0,q1,-,q3,-,-⟩:=Sx (hcell w1 (Below.refl _ _));clear hcell hb1 hr1 hw1 HF
                go_wp2_with fail
                go_ret
                exact⟨ret_bool HN.out.symm,HB1.out⟩)
end
section
open Go.RowKit Go.Sort
def armB(t:ByteArray):Bool:=highB t.data.toList || (t.toList==[116,114,117,101]) || (t.toList==[102,97,108,115,101])
def armsX(x:Ex):Bool:=x.arms.all armB && (if x.k==11 then x.arms.length==1 else if x.k==12 then decide (1≤x.arms.length) && decide (x.arms.length≤6) && onceS x.arms else x.arms.length==0)
def namedX(x:Ex):Bool:=if x.k==3 || x.k==11 || x.k==12 || x.k==13 then lowB x.s.data.toList else if x.k==4 then highB x.s.data.toList else if x.k==17 then pathB x.s.data.toList else x.s.toList==[]
theorem refArm(s:ByteArray) (w:World) (hs:s.size≤9223372036854775807):Calls Try.prog 54 #[.string s] w fun e w'=>e=.returned (.bool (armB s))∧w=w':=by
 have HS:=Hd (show armB s=(highB s.data.toList || (s.toList==[116,114,117,101]) || (s.toList==[102,97,108,115,101])) from rfl);have HH:=Hd (refHigh s w hs);generalize armB s=res at *;generalize highB s.data.toList=bh at *
 cases bh <;> cases ht:(s.toList==[116,114,117,101]) <;> cases hf:(s.toList==[102,97,108,115,101])
 all_goals (
  rw [ht,hf] at HS
  go_enter Try.func54,Try.ntmps54
  go_wp2_with fail
  refine HH.out.mono ?_;rintro r w2 ⟨rfl,rfl⟩
  go_wp2_with fail
  go_ret
  exact⟨ret_bool HS.out.symm,rfl⟩)
theorem refNamed(x:Ex) (A:Option Addr) (ca:Nat) (B:Option Addr) (cb:Nat) (w:World) (hr:rdX w x A B) (hs:x.s.size≤1000):
 Calls Try.prog 37 #[.agg (exA x A ca B cb)] w fun e w'=>e=.returned (.bool (namedX x))∧Below w.heap.size w w':=by
 have HF:=Hd fun w1 h=>box_facts w x A ca B cb w1 h hr;have HS:=Hd (show namedX x=if x.k==3 || x.k==11 || x.k==12 || x.k==13 then lowB x.s.data.toList else if x.k==4 then highB x.s.data.toList else if x.k==17 then pathB x.s.data.toList else x.s.toList==[] from rfl);clear hr;unfold exA at HF ⊢;generalize namedX x=res at *;generalize x.k=k at *;generalize x.s=s at *
 by_cases h3:k=3
 · subst h3;have HN:=Hd (show res=lowB s.data.toList by rw [HS.out];rfl);have HH:=Hd fun w=>refLow s w (by omega);generalize lowB s.data.toList=bh at *
   go_enter Try.func37,Try.ntmps37
   go_upto_region 1 with(fail)
   generalize hw1:w.alloc _=w1;obtain⟨hb1,hg,hr1,hcell⟩:=HF.out w1 hw1;have HB1:=Hd hb1;have q0:=hcell w1 (Below.refl _ _) 0;have q2:=hcell w1 (Below.refl _ _) 2;clear hcell hb1 hr1 hw1 HF
   go_wp2_with fail
   refine(HH.out _).mono ?_;rintro r w2 ⟨rfl,hb2⟩;have HB2:=Hd (HB1.out.trans (hb2.mono HB1.out.size));clear hb2
   go_wp2_with fail
   go_ret
   exact⟨ret_bool HN.out.symm,HB2.out⟩
 · have e3:(k==3)=false:=by simpa using h3
   by_cases h11:k=11
   · subst h11;have HN:=Hd (show res=lowB s.data.toList by rw [HS.out];rfl);have HH:=Hd fun w=>refLow s w (by omega);generalize lowB s.data.toList=bh at *
     go_enter Try.func37,Try.ntmps37
     go_upto_region 1 with(fail)
     generalize hw1:w.alloc _=w1;obtain⟨hb1,hg,hr1,hcell⟩:=HF.out w1 hw1;have HB1:=Hd hb1;have q0:=hcell w1 (Below.refl _ _) 0;have q2:=hcell w1 (Below.refl _ _) 2;clear hcell hb1 hr1 hw1 HF
     go_wp2_with fail
     refine(HH.out _).mono ?_;rintro r w2 ⟨rfl,hb2⟩;have HB2:=Hd (HB1.out.trans (hb2.mono HB1.out.size));clear hb2
     go_wp2_with fail
     go_ret
     exact⟨ret_bool HN.out.symm,HB2.out⟩
   · have e11:(k==11)=false:=by simpa using h11
     by_cases h12:k=12
     · subst h12;have HN:=Hd (show res=lowB s.data.toList by rw [HS.out];rfl);have HH:=Hd fun w=>refLow s w (by omega);generalize lowB s.data.toList=bh at *
       go_enter Try.func37,Try.ntmps37
       go_upto_region 1 with(fail)
       generalize hw1:w.alloc _=w1;obtain⟨hb1,hg,hr1,hcell⟩:=HF.out w1 hw1;have HB1:=Hd hb1;have q0:=hcell w1 (Below.refl _ _) 0;have q2:=hcell w1 (Below.refl _ _) 2;clear hcell hb1 hr1 hw1 HF
       go_wp2_with fail
       refine(HH.out _).mono ?_;rintro r w2 ⟨rfl,hb2⟩;have HB2:=Hd (HB1.out.trans (hb2.mono HB1.out.size));clear hb2
       go_wp2_with fail
       go_ret
       exact⟨ret_bool HN.out.symm,HB2.out⟩
     · have e12:(k==12)=false:=by simpa using h12
       by_cases h13:k=13
       · subst h13;have HN:=Hd (show res=lowB s.data.toList by rw [HS.out];rfl);have HH:=Hd fun w=>refLow s w (by omega);generalize lowB s.data.toList=bh at *
         go_enter Try.func37,Try.ntmps37
         go_upto_region 1 with(fail)
         generalize hw1:w.alloc _=w1;obtain⟨hb1,hg,hr1,hcell⟩:=HF.out w1 hw1;have HB1:=Hd hb1;have q0:=hcell w1 (Below.refl _ _) 0;have q2:=hcell w1 (Below.refl _ _) 2;clear hcell hb1 hr1 hw1 HF
         go_wp2_with fail
         refine(HH.out _).mono ?_;rintro r w2 ⟨rfl,hb2⟩;have HB2:=Hd (HB1.out.trans (hb2.mono HB1.out.size));clear hb2
         go_wp2_with fail
         go_ret
         exact⟨ret_bool HN.out.symm,HB2.out⟩
       · have e13:(k==13)=false:=by simpa using h13
         by_cases h4:k=4
         · subst h4;have HN:=Hd (show res=highB s.data.toList by rw [HS.out];rfl);have HH:=Hd fun w=>refHigh s w (by omega);generalize highB s.data.toList=bh at *
           go_enter Try.func37,Try.ntmps37
           go_upto_region 1 with(fail)
           generalize hw1:w.alloc _=w1;obtain⟨hb1,hg,hr1,hcell⟩:=HF.out w1 hw1;have HB1:=Hd hb1;have q0:=hcell w1 (Below.refl _ _) 0;have q2:=hcell w1 (Below.refl _ _) 2;clear hcell hb1 hr1 hw1 HF
           go_wp2_with fail
           refine(HH.out _).mono ?_;rintro r w2 ⟨rfl,rfl⟩
           go_wp2_with fail
           go_ret
           exact⟨ret_bool HN.out.symm,HB1.out⟩
         · have e4:(k==4)=false:=by simpa using h4
           by_cases h17:k=17
           · subst h17;have HN:=Hd (show res=pathB s.data.toList by rw [HS.out];rfl);have HH:=Hd fun w=>refPath s w hs;generalize pathB s.data.toList=bh at *
             go_enter Try.func37,Try.ntmps37
             go_upto_region 1 with(fail)
             generalize hw1:w.alloc _=w1;obtain⟨hb1,hg,hr1,hcell⟩:=HF.out w1 hw1;have HB1:=Hd hb1;have q0:=hcell w1 (Below.refl _ _) 0;have q2:=hcell w1 (Below.refl _ _) 2;clear hcell hb1 hr1 hw1 HF
             go_wp2_with fail
             refine(HH.out _).mono ?_;rintro r w2 ⟨rfl,hb2⟩;have HB2:=Hd (HB1.out.trans (hb2.mono HB1.out.size));clear hb2
             go_wp2_with fail
             go_ret
             exact⟨ret_bool HN.out.symm,HB2.out⟩
           · have e17:(k==17)=false:=by simpa using h17
             have HN:=Hd (show res=(s.toList==[]) by rw [HS.out];simp only [e3,e11,e12,e13,e4,e17];rfl)
             cases he:(s.toList==[]) <;> rw [he] at HN
             all_goals (
              go_enter Try.func37,Try.ntmps37
              go_upto_region 1 with(fail)
              generalize hw1:w.alloc _=w1;obtain⟨hb1,hg,hr1,hcell⟩:=HF.out w1 hw1;have HB1:=Hd hb1;have q0:=hcell w1 (Below.refl _ _) 0;have q2:=hcell w1 (Below.refl _ _) 2;clear hcell hb1 hr1 hw1 HF
              go_wp2_with fail
              go_ret
              exact⟨ret_bool HN.out.symm,HB1.out⟩)
theorem refArms(x:Ex) (A:Option Addr) (ca:Nat) (B:Option Addr) (cb:Nat) (w:World) (hr:rdX w x A B) (hz:∀ t∈x.arms,t.size≤9223372036854775807) (hm:x.arms.length≤100):
 Calls Try.prog 38 #[.agg (exA x A ca B cb)] w fun e w'=>e=.returned (.bool (armsX x))∧Below w.heap.size w w':=by
 have HF:=Hd fun w1 h=>box_facts w x A ca B cb w1 h hr;have HS:=Hd (show armsX x=(x.arms.all armB && (if x.k==11 then x.arms.length==1 else if x.k==12 then decide (1≤x.arms.length) && decide (x.arms.length≤6) && onceS x.arms else x.arms.length==0)) from rfl);have HAR:=Hd hr.arms;have HAL:=Hd fun i (hi:i<x.arms.length) (h:armB (x.arms[i]?.getD ByteArray.empty)=false)=>all_false (f:=armB) hi h;have HAS:=Hd fun k (hk:k<x.arms.length) h (hx:armB (x.arms[k]?.getD ByteArray.empty)=true)=>all_take_succ (f:=armB) hk h hx;have HAE:=Hd fun k h (hk:x.arms.length≤k)=>all_take_end (l:=x.arms) (f:=armB) (k:=k) h hk;have HZ:=Hd fun i (hi:i<x.arms.length)=>hz (x.arms[i]?.getD ByteArray.empty) (by rw [List.getElem?_eq_getElem hi];exact List.getElem_mem _);have HON:=Hd fun w1 (h:Below w.heap.size w w1)=>refOnce A x.arms.length ca x.arms w1 (hr.below h).arms hm;clear hr hz;unfold exA at HF ⊢;generalize armsX x=res at *;generalize x.k=k at *;generalize hlen:x.arms.length=n at *;have hln:=int_len n
 go_enter Try.func38,Try.ntmps38
 go_upto_region 1 with(fail)
 generalize hw1:w.alloc _=w1;obtain⟨hb1,hg,hr1,hcell⟩:=HF.out w1 hw1;have HB1:=Hd hb1;have q0:=hcell w1 (Below.refl _ _) 0;have q4:=hcell w1 (Below.refl _ _) 4;have HC:=Hd hcell;have HR1:=Hd (HAR.out.below hb1);have HO1:=Hd (HON.out w1 hb1);clear hcell hb1 hr1 hw1 HF
 go_wp2_with fail
 go_loopw [3] (fun i wr=>∃ j:Nat,j≤n∧i=.int .i64 j∧(x.arms.take j).all armB=true∧w1=wr) (fun i _=>n-(intOf i).toNat)
 case atStart=>exact⟨0,Nat.zero_le _,rfl,by simp,rfl⟩
 case round=>
  obtain⟨j,hj,rfl,hall,rfl⟩:=hrel;have HA:=Hd hall;clear hall
  by_cases hlt:j<n
  · obtain⟨b,off,rfl,hb,hat⟩:=HR1.out.at_ hlt;have c0:=hat j hlt;have HAL':=Hd (HAL.out j (by omega));have HAS':=Hd (HAS.out j (by omega) HA.out);have hzz:=HZ.out j (by omega);clear hat;generalize x.arms[j]?.getD ByteArray.empty=t at *;have HT:=Hd (refArm t w1 hzz);clear hzz
    cases ht:armB t with
    | false=>
     rw [ht] at HT;have HF':=Hd (HAL'.out ht);have HN:=Hd (show res=false by rw [HS.out,HF'.out];rfl)
     go_wp2_with fail
     refine HT.out.mono ?_;rintro r w2 ⟨rfl,rfl⟩
     go_wp2_with fail
     go_ret
     exact⟨ret_bool HN.out.symm,HB1.out⟩
    | true=>
     rw [ht] at HT;have HF':=Hd (HAS'.out ht)
     go_wp2_with fail
     refine HT.out.mono ?_;rintro r w2 ⟨rfl,rfl⟩
     go_wp2_with fail
     go_roundw
     case rel=>exact⟨j+1,by omega,by go_num,HF'.out,(by first | trivial | rfl)⟩
     case measure=>simp [intOf];omega
  · have HE:=HAE.out j HA.out (by omega);rw [HE] at HS;clear HE HAL HAS HAE HA
    by_cases h11:k=11
    · subst h11;have HN:=Hd (show res=(n==1) by rw [HS.out];rfl)
      cases hn1:(n==1) <;> rw [hn1] at HN hln
      all_goals (
       go_wp2_with fail
       go_ret
       exact⟨ret_bool HN.out.symm,HB1.out⟩)
    · have e11:(k==11)=false:=by simpa using h11
      by_cases h12:k=12
      · subst h12
        by_cases h1:1≤n
        · by_cases h6:n≤6
          · have HN:=Hd (show res=onceS x.arms by rw [HS.out];simp [h1,h6]);generalize onceS x.arms=on at *
            go_wp2_with fail
            refine HO1.out.mono ?_;rintro r w2 ⟨rfl,m,rfl⟩
            go_wp2_with fail
            go_ret
            exact⟨ret_bool HN.out.symm,below_drewN HB1.out _⟩
          · have HN:=Hd (show res=false by rw [HS.out];simp [h6])
            go_wp2_with fail
            go_ret
            exact⟨ret_bool HN.out.symm,HB1.out⟩
        · have HN:=Hd (show res=false by rw [HS.out];simp [h1])
          go_wp2_with fail
          go_ret
          exact⟨ret_bool HN.out.symm,HB1.out⟩
      · have e12:(k==12)=false:=by simpa using h12
        have HN:=Hd (show res=(n==0) by rw [HS.out];simp only [e11,e12];rfl);have hl0:((n:Int)==0)=(n==0):=by rw [Bool.eq_iff_iff];simp
        cases hn1:(n==0) <;> rw [hn1] at HN hl0
        all_goals (
         go_wp2_with fail
         go_ret
         exact⟨ret_bool HN.out.symm,HB1.out⟩)
def subsX(x:Ex):Int × Int:=
 if x.k==5 || x.k==10 || x.k==11 then(1,1) else if x.k==6 || x.k==8 || x.k==9 || x.k==15 then(2,2) else if x.k==7 || x.k==16 then(3,3)
 else if x.k==12 then(x.arms.length,x.arms.length) else if x.k==13 then(x.n,6+x.n) else if x.k==14 then(1,8) else(0,0)
theorem refSubs(x:Ex) (A:Option Addr) (ca:Nat) (B:Option Addr) (cb:Nat) (w:World) (hr:rdX w x A B) (hn:x.k=13→x.n=0∨x.n=1):
 Calls Try.prog 39 #[.agg (exA x A ca B cb)] w fun e w'=>e=.returned (.tuple #[.int .i64 (subsX x).1,.int .i64 (subsX x).2])∧Below w.heap.size w w':=by
 have HF:=Hd fun w1 h=>box_facts w x A ca B cb w1 h hr
 have HS:=Hd (show subsX x=if x.k==5 || x.k==10 || x.k==11 then(1,1) else if x.k==6 || x.k==8 || x.k==9 || x.k==15 then(2,2) else if x.k==7 || x.k==16 then(3,3)
  else if x.k==12 then((x.arms.length:Int),(x.arms.length:Int)) else if x.k==13 then(x.n,6+x.n) else if x.k==14 then(1,8) else(0,0) from rfl)
 have hmx:=hr.arms.max;clear hr;unfold exA at HF ⊢;generalize subsX x=res at *;generalize x.k=k at *;generalize x.n=n at *;generalize x.arms.length=m at *
 by_cases h5:k=5
 · subst h5;have HN:=Hd (show res=(1,1) by rw [HS.out];rfl)
   go_enter Try.func39,Try.ntmps39
   go_upto_region 1 with(fail)
   generalize hw1:w.alloc _=w1;obtain⟨hb1,hg,hr1,hcell⟩:=HF.out w1 hw1;have HB1:=Hd hb1;obtain⟨q0,q1,-,-,q4,-⟩:=Sx (hcell w1 (Below.refl _ _));clear hcell hb1 hr1 hw1 HF
   go_wp2_with fail
   exact bodyPost_ret (v:=.tuple #[.int .i64 (1),.int .i64 (1)]) (by simp [results,Try.results39,go_sem]) rfl ⟨by rw [HN.out],HB1.out⟩
 · have e5:(k==5)=false:=by simpa using h5
   by_cases h10:k=10
   · subst h10;have HN:=Hd (show res=(1,1) by rw [HS.out];rfl)
     go_enter Try.func39,Try.ntmps39
     go_upto_region 1 with(fail)
     generalize hw1:w.alloc _=w1;obtain⟨hb1,hg,hr1,hcell⟩:=HF.out w1 hw1;have HB1:=Hd hb1;obtain⟨q0,q1,-,-,q4,-⟩:=Sx (hcell w1 (Below.refl _ _));clear hcell hb1 hr1 hw1 HF
     go_wp2_with fail
     exact bodyPost_ret (v:=.tuple #[.int .i64 (1),.int .i64 (1)]) (by simp [results,Try.results39,go_sem]) rfl ⟨by rw [HN.out],HB1.out⟩
   · have e10:(k==10)=false:=by simpa using h10
     by_cases h11:k=11
     · subst h11;have HN:=Hd (show res=(1,1) by rw [HS.out];rfl)
       go_enter Try.func39,Try.ntmps39
       go_upto_region 1 with(fail)
       generalize hw1:w.alloc _=w1;obtain⟨hb1,hg,hr1,hcell⟩:=HF.out w1 hw1;have HB1:=Hd hb1;obtain⟨q0,q1,-,-,q4,-⟩:=Sx (hcell w1 (Below.refl _ _));clear hcell hb1 hr1 hw1 HF
       go_wp2_with fail
       exact bodyPost_ret (v:=.tuple #[.int .i64 (1),.int .i64 (1)]) (by simp [results,Try.results39,go_sem]) rfl ⟨by rw [HN.out],HB1.out⟩
     · have e11:(k==11)=false:=by simpa using h11
       by_cases h6:k=6
       · subst h6;have HN:=Hd (show res=(2,2) by rw [HS.out];rfl)
         go_enter Try.func39,Try.ntmps39
         go_upto_region 1 with(fail)
         generalize hw1:w.alloc _=w1;obtain⟨hb1,hg,hr1,hcell⟩:=HF.out w1 hw1;have HB1:=Hd hb1;obtain⟨q0,q1,-,-,q4,-⟩:=Sx (hcell w1 (Below.refl _ _));clear hcell hb1 hr1 hw1 HF
         go_wp2_with fail
         exact bodyPost_ret (v:=.tuple #[.int .i64 (2),.int .i64 (2)]) (by simp [results,Try.results39,go_sem]) rfl ⟨by rw [HN.out],HB1.out⟩
       · have e6:(k==6)=false:=by simpa using h6
         by_cases h8:k=8
         · subst h8;have HN:=Hd (show res=(2,2) by rw [HS.out];rfl)
           go_enter Try.func39,Try.ntmps39
           go_upto_region 1 with(fail)
           generalize hw1:w.alloc _=w1;obtain⟨hb1,hg,hr1,hcell⟩:=HF.out w1 hw1;have HB1:=Hd hb1;obtain⟨q0,q1,-,-,q4,-⟩:=Sx (hcell w1 (Below.refl _ _));clear hcell hb1 hr1 hw1 HF
           go_wp2_with fail
           exact bodyPost_ret (v:=.tuple #[.int .i64 (2),.int .i64 (2)]) (by simp [results,Try.results39,go_sem]) rfl ⟨by rw [HN.out],HB1.out⟩
         · have e8:(k==8)=false:=by simpa using h8
           by_cases h9:k=9
           · subst h9;have HN:=Hd (show res=(2,2) by rw [HS.out];rfl)
             go_enter Try.func39,Try.ntmps39
             go_upto_region 1 with(fail)
             generalize hw1:w.alloc _=w1;obtain⟨hb1,hg,hr1,hcell⟩:=HF.out w1 hw1;have HB1:=Hd hb1;obtain⟨q0,q1,-,-,q4,-⟩:=Sx (hcell w1 (Below.refl _ _));clear hcell hb1 hr1 hw1 HF
             go_wp2_with fail
             exact bodyPost_ret (v:=.tuple #[.int .i64 (2),.int .i64 (2)]) (by simp [results,Try.results39,go_sem]) rfl ⟨by rw [HN.out],HB1.out⟩
           · have e9:(k==9)=false:=by simpa using h9
             by_cases h15:k=15
             · subst h15;have HN:=Hd (show res=(2,2) by rw [HS.out];rfl)
               go_enter Try.func39,Try.ntmps39
               go_upto_region 1 with(fail)
               generalize hw1:w.alloc _=w1;obtain⟨hb1,hg,hr1,hcell⟩:=HF.out w1 hw1;have HB1:=Hd hb1;obtain⟨q0,q1,-,-,q4,-⟩:=Sx (hcell w1 (Below.refl _ _));clear hcell hb1 hr1 hw1 HF
               go_wp2_with fail
               exact bodyPost_ret (v:=.tuple #[.int .i64 (2),.int .i64 (2)]) (by simp [results,Try.results39,go_sem]) rfl ⟨by rw [HN.out],HB1.out⟩
             · have e15:(k==15)=false:=by simpa using h15
               by_cases h7:k=7
               · subst h7;have HN:=Hd (show res=(3,3) by rw [HS.out];rfl)
                 go_enter Try.func39,Try.ntmps39
                 go_upto_region 1 with(fail)
                 generalize hw1:w.alloc _=w1;obtain⟨hb1,hg,hr1,hcell⟩:=HF.out w1 hw1;have HB1:=Hd hb1;obtain⟨q0,q1,-,-,q4,-⟩:=Sx (hcell w1 (Below.refl _ _));clear hcell hb1 hr1 hw1 HF
                 go_wp2_with fail
                 exact bodyPost_ret (v:=.tuple #[.int .i64 (3),.int .i64 (3)]) (by simp [results,Try.results39,go_sem]) rfl ⟨by rw [HN.out],HB1.out⟩
               · have e7:(k==7)=false:=by simpa using h7
                 by_cases h16:k=16
                 · subst h16;have HN:=Hd (show res=(3,3) by rw [HS.out];rfl)
                   go_enter Try.func39,Try.ntmps39
                   go_upto_region 1 with(fail)
                   generalize hw1:w.alloc _=w1;obtain⟨hb1,hg,hr1,hcell⟩:=HF.out w1 hw1;have HB1:=Hd hb1;obtain⟨q0,q1,-,-,q4,-⟩:=Sx (hcell w1 (Below.refl _ _));clear hcell hb1 hr1 hw1 HF
                   go_wp2_with fail
                   exact bodyPost_ret (v:=.tuple #[.int .i64 (3),.int .i64 (3)]) (by simp [results,Try.results39,go_sem]) rfl ⟨by rw [HN.out],HB1.out⟩
                 · have e16:(k==16)=false:=by simpa using h16
                   by_cases h12:k=12
                   · subst h12;have HN:=Hd (show res=((m:Int),(m:Int)) by rw [HS.out];rfl)
                     go_enter Try.func39,Try.ntmps39
                     go_upto_region 1 with(fail)
                     generalize hw1:w.alloc _=w1;obtain⟨hb1,hg,hr1,hcell⟩:=HF.out w1 hw1;have HB1:=Hd hb1;obtain⟨q0,q1,-,-,q4,-⟩:=Sx (hcell w1 (Below.refl _ _));clear hcell hb1 hr1 hw1 HF
                     go_wp2_with fail
                     go_quiet (fail)
                     go_wp2_with fail
                     exact bodyPost_ret (v:=.tuple #[.int .i64 (m),.int .i64 (m)]) (by simp [results,Try.results39,go_sem]) rfl ⟨by rw [HN.out],below_drewN HB1.out _⟩
                   · have e12:(k==12)=false:=by simpa using h12
                     by_cases h13:k=13
                     · subst h13;have hn':=hn rfl;have h6:IntKind.i64.wrap (6+n)=6+n:=by rcases hn' with rfl | rfl <;> rfl
                       have HN:=Hd (show res=(n,6+n) by rw [HS.out];rfl);clear hn
                       go_enter Try.func39,Try.ntmps39
                       go_upto_region 1 with(fail)
                       generalize hw1:w.alloc _=w1;obtain⟨hb1,hg,hr1,hcell⟩:=HF.out w1 hw1;have HB1:=Hd hb1;obtain⟨q0,q1,-,-,q4,-⟩:=Sx (hcell w1 (Below.refl _ _));clear hcell hb1 hr1 hw1 HF
                       go_wp2_with fail
                       go_quiet (fail)
                       go_wp2_with fail
                       exact bodyPost_ret (v:=.tuple #[.int .i64 (n),.int .i64 (6+n)]) (by simp [results,Try.results39,go_sem]) rfl ⟨by rw [HN.out],below_drewN HB1.out _⟩
                     · have e13:(k==13)=false:=by simpa using h13
                       by_cases h14:k=14
                       · subst h14;have HN:=Hd (show res=(1,8) by rw [HS.out];rfl)
                         go_enter Try.func39,Try.ntmps39
                         go_upto_region 1 with(fail)
                         generalize hw1:w.alloc _=w1;obtain⟨hb1,hg,hr1,hcell⟩:=HF.out w1 hw1;have HB1:=Hd hb1;obtain⟨q0,q1,-,-,q4,-⟩:=Sx (hcell w1 (Below.refl _ _));clear hcell hb1 hr1 hw1 HF
                         go_wp2_with fail
                         exact bodyPost_ret (v:=.tuple #[.int .i64 (1),.int .i64 (8)]) (by simp [results,Try.results39,go_sem]) rfl ⟨by rw [HN.out],HB1.out⟩
                       · have e14:(k==14)=false:=by simpa using h14
                         have HN:=Hd (show res=(0,0) by rw [HS.out];simp only [e5,e10,e11,e6,e8,e9,e15,e7,e16,e12,e13,e14];rfl)
                         go_enter Try.func39,Try.ntmps39
                         go_upto_region 1 with(fail)
                         generalize hw1:w.alloc _=w1;obtain⟨hb1,hg,hr1,hcell⟩:=HF.out w1 hw1;have HB1:=Hd hb1;obtain⟨q0,q1,-,-,q4,-⟩:=Sx (hcell w1 (Below.refl _ _));clear hcell hb1 hr1 hw1 HF
                         go_wp2_with fail
                         exact bodyPost_ret (v:=.tuple #[.int .i64 (0),.int .i64 (0)]) (by simp [results,Try.results39,go_sem]) rfl ⟨by rw [HN.out],HB1.out⟩
end
section
open Go.RowKit
def RdS{α:Type} [Inhabited α] (k:Nat) (At:World→Nat→Nat→α→Prop) (w:World) (A:Option Addr) (n:Nat) (l:List α):Prop:=
 l.length=n∧n≤9223372036854775807∧(0<n→∃ b off,A=some ⟨b,off,none⟩∧b<w.heap.size∧∀ i,i<n→At w b (off+i*k) (l[i]?.getD default))
def KeepsAt{α:Type}(At:World→Nat→Nat→α→Prop):Prop:=
 ∀ {w w':World}{b o:Nat}{x:α},At w b o x→b<w.heap.size→w.heap.size≤w'.heap.size→(∀ p:Addr,p.block<w.heap.size→w'.cell? p=w.cell? p)→At w' b o x
def dcL(d:Dc):List Value:=[.string d.nm,.int .i64 d.k,.int .i64 d.e,.int .i64 d.l,.string d.on,.string d.ct]
def dcA(d:Dc):Array Value:=#[.string d.nm,.int .i64 d.k,.int .i64 d.e,.int .i64 d.l,.string d.on,.string d.ct]
def DcAt(w:World) (b o:Nat) (d:Dc):Prop:=w.rangeAt b o (dcL d)
def RdD(w:World) (A:Option Addr) (n:Nat) (l:List Dc):Prop:=RdS 6 DcAt w A n l
def QnAt(w:World) (b o:Nat) (q:Qn):Prop:=
 ∃ A c A' ca B' cb,w.cell? ⟨b,o,none⟩=some (.slice A q.ns.length c)∧RdT w A q.ns.length q.ns∧w.rangeAt b (o+1) (exL q.x A' ca B' cb)∧rdX w q.x A' B'
def RdQ(w:World) (A:Option Addr) (n:Nat) (l:List Qn):Prop:=RdS 7 QnAt w A n l
def ndA(n:Nd) (A1:Option Addr) (c1:Nat) (A2:Option Addr) (c2:Nat) (A3:Option Addr) (c3:Nat) (A4:Option Addr) (c4:Nat):Array Value:=
 #[.string n.nm,.slice A1 n.ins.length c1,.slice A2 n.outs.length c2,.slice A3 n.vars.length c3,.slice A4 n.eqs.length c4]
def ndL(n:Nd) (A1:Option Addr) (c1:Nat) (A2:Option Addr) (c2:Nat) (A3:Option Addr) (c3:Nat) (A4:Option Addr) (c4:Nat):List Value:=
 [.string n.nm,.slice A1 n.ins.length c1,.slice A2 n.outs.length c2,.slice A3 n.vars.length c3,.slice A4 n.eqs.length c4]
def rdN(w:World) (n:Nd) (A1 A2 A3 A4:Option Addr):Prop:=RdD w A1 n.ins.length n.ins∧RdD w A2 n.outs.length n.outs∧RdD w A3 n.vars.length n.vars∧RdQ w A4 n.eqs.length n.eqs
def NdAt(w:World) (b o:Nat) (n:Nd):Prop:=
 ∃ A1 c1 A2 c2 A3 c3 A4 c4,w.rangeAt b o (ndL n A1 c1 A2 c2 A3 c3 A4 c4)∧rdN w n A1 A2 A3 A4
def RdNs(w:World) (A:Option Addr) (n:Nat) (l:List Nd):Prop:=RdS 5 NdAt w A n l
section
variable {w w':World}{A B A1 A2 A3 A4:Option Addr}{n:Nat}
theorem RdS.len{α:Type} [Inhabited α] {k:Nat}{At:World→Nat→Nat→α→Prop}{l:List α}(h:RdS k At w A n l):l.length=n:=h.1
theorem RdS.max{α:Type} [Inhabited α] {k:Nat}{At:World→Nat→Nat→α→Prop}{l:List α}(h:RdS k At w A n l):n≤9223372036854775807:=h.2.1
theorem RdS.at_{α:Type} [Inhabited α] {k:Nat}{At:World→Nat→Nat→α→Prop}{l:List α}(h:RdS k At w A n l) (hn:0<n):
 ∃ b off,A=some ⟨b,off,none⟩∧b<w.heap.size∧∀ i,i<n→At w b (off+i*k) (l[i]?.getD default):=h.2.2 hn
theorem RdS.nil_{α:Type} [Inhabited α] (k:Nat) (At:World→Nat→Nat→α→Prop) (w:World):RdS k At w none 0 []:=⟨rfl,by omega,by omega⟩
theorem RdS.keep{α:Type} [Inhabited α] {k:Nat}{At:World→Nat→Nat→α→Prop}{l:List α}(hAt:KeepsAt At) (h:RdS k At w A n l) (hs:w.heap.size≤w'.heap.size) (hk:∀ p:Addr,p.block<w.heap.size→w'.cell? p=w.cell? p):RdS k At w' A n l:=
 ⟨h.1,h.2.1,fun hn=>by
  obtain⟨b,off,e,hb,hc⟩:=h.2.2 hn;exact⟨b,off,e,by omega,fun i hi=>hAt (hc i hi) hb hs hk⟩⟩
theorem keeps_dc:KeepsAt DcAt:=fun h hb hs hk=>rangeAt_keep h hb hk
theorem keeps_qn:KeepsAt QnAt:=fun h hb hs hk=>by
 obtain⟨A,c,A',ca,B',cb,h1,h2,h3,h4⟩:=h;exact⟨A,c,A',ca,B',cb,(hk _ hb).trans h1,h2.keep hs hk,rangeAt_keep h3 hb hk,h4.keep hs hk⟩
theorem RdD.keep{l:List Dc}(h:RdD w A n l) (hs:w.heap.size≤w'.heap.size) (hk:∀ p:Addr,p.block<w.heap.size→w'.cell? p=w.cell? p):RdD w' A n l:=RdS.keep keeps_dc h hs hk
theorem RdQ.keep{l:List Qn}(h:RdQ w A n l) (hs:w.heap.size≤w'.heap.size) (hk:∀ p:Addr,p.block<w.heap.size→w'.cell? p=w.cell? p):RdQ w' A n l:=RdS.keep keeps_qn h hs hk
theorem rdN.keep{x:Nd}(h:rdN w x A1 A2 A3 A4) (hs:w.heap.size≤w'.heap.size) (hk:∀ p:Addr,p.block<w.heap.size→w'.cell? p=w.cell? p):rdN w' x A1 A2 A3 A4:=
 ⟨h.1.keep hs hk,h.2.1.keep hs hk,h.2.2.1.keep hs hk,h.2.2.2.keep hs hk⟩
theorem keeps_nd:KeepsAt NdAt:=fun h hb hs hk=>by
 obtain⟨A1,c1,A2,c2,A3,c3,A4,c4,h1,h2⟩:=h;exact⟨A1,c1,A2,c2,A3,c3,A4,c4,rangeAt_keep h1 hb hk,h2.keep hs hk⟩
theorem RdNs.keep{l:List Nd}(h:RdNs w A n l) (hs:w.heap.size≤w'.heap.size) (hk:∀ p:Addr,p.block<w.heap.size→w'.cell? p=w.cell? p):RdNs w' A n l:=RdS.keep keeps_nd h hs hk
theorem RdD.below{l:List Dc}(h:RdD w A n l) (hb:Below w.heap.size w w'):RdD w' A n l:=h.keep hb.size fun _ hp=>hb.cell hp
theorem RdQ.below{l:List Qn}(h:RdQ w A n l) (hb:Below w.heap.size w w'):RdQ w' A n l:=h.keep hb.size fun _ hp=>hb.cell hp
theorem rdN.below{x:Nd}(h:rdN w x A1 A2 A3 A4) (hb:Below w.heap.size w w'):rdN w' x A1 A2 A3 A4:=h.keep hb.size fun _ hp=>hb.cell hp
theorem RdNs.below{l:List Nd}(h:RdNs w A n l) (hb:Below w.heap.size w w'):RdNs w' A n l:=h.keep hb.size fun _ hp=>hb.cell hp
theorem DcAt.six{b o:Nat}{d:Dc}(h:DcAt w b o d):
 w.cell? ⟨b,o,none⟩=some (.string d.nm)∧w.cell? ⟨b,o+1,none⟩=some (.int .i64 d.k)∧w.cell? ⟨b,o+2,none⟩=some (.int .i64 d.e)∧w.cell? ⟨b,o+3,none⟩=some (.int .i64 d.l) ∧
  w.cell? ⟨b,o+4,none⟩=some (.string d.on)∧w.cell? ⟨b,o+5,none⟩=some (.string d.ct):=⟨h 0 _ rfl,h 1 _ rfl,h 2 _ rfl,h 3 _ rfl,h 4 _ rfl,h 5 _ rfl⟩
theorem ndL_five{b o:Nat}{x:Nd}{c1 c2 c3 c4:Nat}(h:w.rangeAt b o (ndL x A1 c1 A2 c2 A3 c3 A4 c4)):
 w.cell? ⟨b,o,none⟩=some (.string x.nm)∧w.cell? ⟨b,o+1,none⟩=some (.slice A1 x.ins.length c1)∧w.cell? ⟨b,o+2,none⟩=some (.slice A2 x.outs.length c2)∧w.cell? ⟨b,o+3,none⟩=some (.slice A3 x.vars.length c3) ∧
  w.cell? ⟨b,o+4,none⟩=some (.slice A4 x.eqs.length c4):=⟨h 0 _ rfl,h 1 _ rfl,h 2 _ rfl,h 3 _ rfl,h 4 _ rfl⟩
end
theorem cells_dc:Try.prog.cellsOf 58=6:=by kernel_rfl
theorem cells_qn:Try.prog.cellsOf 51=7:=by kernel_rfl
theorem cells_nd:Try.prog.cellsOf 48=5:=by kernel_rfl
end
end Go.Proofs.Ytkbpdoomhfkngaa
