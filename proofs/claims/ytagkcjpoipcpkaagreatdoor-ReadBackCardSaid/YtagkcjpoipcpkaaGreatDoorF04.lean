/- A part of the proof. Conditions: each theorem's own. -/
import Derived.Test.YtagkcjpoipcpkaaGreatDoorF03
namespace Go.Proofs.YtagkcjpoipcpkaaGreatDoor
set_option linter.unusedVariables false
set_option linter.unusedSimpArgs false
set_option maxRecDepth 100000
set_option maxHeartbeats 40000000
section
open Go.RowKit Go.Sort Go.Shelf
theorem Zh:type_of% @List.nil_append:=@List.nil_append
end
section
open Go.RowKit Go.Sort
def fU(x:Ex):Bool:=if x.k==5 then(x.op==1) && (x.subs.length==1) && ((bI x 0).k==1)else(x.k==1) || (x.k==2) || (x.k==4)
def rW(x:Ex):Bool:=if x.k==14 then x.subs.all fU else fU x
theorem aNu(n:Nat):((n:Int)==1)=(n==1):=by rw[Zq];simp;omega
theorem aTg(x:Ex)(A:OA)(ca:Nat)(B:OA)(cb:Nat)(w:World)(hr:aM w x A B):
 Calls Tryz.prog 235 #[.agg (aJ x A ca B cb)] w fun e w'=>e=.returned (.bool (fU x))/\Below w.heap.size w w':=by
 have HF:=Hd fun w1 h=>gH w x A ca B cb w1 h hr;have HS:=Hd (show fU x=if x.k==5 then(x.op==1) && (x.subs.length==1) && ((bI x 0).k==1)else(x.k==1) || (x.k==2) || (x.k==4)from rfl);have Bs:=hr.subs.max;clear hr;unfold aJ at HF⊢;generalize fU x=res at *;generalize x.k=k at *;generalize x.op=o at *;generalize Ae:x.subs.length=n at *;have Cq:=aNu n;cases h5:(k==5)with
 |true=>
  obtain rfl:k=5:=by simpa using h5
  cases ho:(o==1)with
  |false=>
   exact bHa
  |true=>
   cases hl:(n==1)with
   |false=>
    exact bG6
   |true=>
    have HN:=Hd (show res=((bI x 0).k==1)by rw[HS.o,ho,hl];rfl);rw[hl]at Cq;obtain rfl:n=1:=by simpa using hl
    go_in
    go_upto_region 1 with(fail);generalize Af:w.alloc _=w1;obtain⟨Ab,hg,Al,hcell⟩:=HF.o w1 Af;obtain⟨b,off,rfl,hb,Ar⟩:=Al.sub (i:=0) aA;obtain⟨A',Ct,B',Fs,Aa,Aq⟩:=Ar 0 aA;rw[Nat.zero_mul,Nat.add_zero]at Aa;obtain⟨c0,c1,c2,c3,c4,c5⟩:=jW Aa;have Ac:=Hd Ab;obtain⟨q0,-,-,q3,-,q5⟩:=Sx (hcell w1 (Yg _ _));clear hcell Ab Al Af HF Ar Aa Aq c1 c2 c3 c4 c5;exact bDm
 |false=>
  have HN:=Hd (show res=((k==1) || (k==2) || (k==4))by rw[HS.o,h5];rfl);cases h1:(k==1)<;>cases h2:(k==2)<;>cases h4:(k==4)
  all_goals (
   rw[h1,h2,h4]at HN;go_in
   go_upto_region 1 with(fail);generalize Af:w.alloc _=w1;obtain⟨Ab,hg,Al,hcell⟩:=HF.o w1 Af;have Ac:=Hd Ab;have q0:=hcell w1 (Yg _ _) 0;clear hcell Ab Al Af HF;go_wp2_with fail;go_ret;exact⟨aO HN.o.symm,Ac.o⟩)
theorem bRo(x:Ex)(A:OA)(ca:Nat)(B:OA)(cb:Nat)(w:World)(hr:aM w x A B):
 Calls Tryz.prog 206 #[.agg (aJ x A ca B cb)] w fun e w'=>e=.returned (.bool (rW x))/\Below w.heap.size w w':=by
 have HF:=Hd fun w1 h=>gH w x A ca B cb w1 h hr;have HS:=Hd (show rW x=if x.k==14 then x.subs.all fU else fU x from rfl);have Ni:=hr.subs.max;have Ct:=Hd fun(x:Ex)(A:OA)(ca:Nat)(B:OA)(cb:Nat)(w:World)(hr:aM w x A B)=>aTg x A ca B cb w hr;have HAL:=Hd fun i (hi:i<x.subs.length)(h:fU (bI x i)=false)=>vR (f:=fU) hi h;have Jx:=Hd fun k (hk:k<x.subs.length) h (hx:fU (bI x k)=true)=>zH (f:=fU) hk h hx;have Jq:=Hd fun k h (hk:x.subs.length<=k)=>zJ (l:=x.subs) (f:=fU) (k:=k) h hk;have Lz:=Hd fun w1 (h:aM w1 x A B)=>aTg x A ca B cb w1 h;clear hr;unfold aJ at HF Ct Lz⊢;generalize rW x=res at *;generalize fU x=lx at *;generalize x.k=k at *;generalize Hb:x.subs.length=n at *;cases Eh:(k==14)with
 |false=>
  exact bGt
 |true=>
  obtain rfl:k=14:=by simpa using Eh
  have HN:=Hd (show res=x.subs.all fU by rw[HS.o];rfl);go_in
  go_upto_region 1 with(fail);generalize Af:w.alloc _=w1;obtain⟨Ab,hg,Al,hcell⟩:=HF.o w1 Af;have Ac:=Hd Ab;have q0:=hcell w1 (Yg _ _) 0;have q5:=hcell w1 (Yg _ _) 5;have HC:=Hd hcell;have Bi:=Hd Al;clear hcell Ab Al Af HF;go_wp2_with fail;go_loopw [3] (fun i wr=>∃k:Nat,k<=n/\i=.int .i64 k/\(x.subs.take k).all fU=true/\Below w1.heap.size w1 wr) (fun i _=>n-(intOf i).toNat)
  case atStart=>exact⟨0,Ys _,rfl,by simp,Yg _ _⟩
  case round=>
   obtain⟨k,hk,rfl,Aa,Ae⟩:=hrel;have HA:=Hd Aa;have Ay:=Hd Ae;have Nh:=HC.o wr Ae 5;clear Aa;by_cases Ah:k<n
   . obtain⟨b,off,rfl,hb,Ar⟩:=(Bi.o.below Ae).sub (i:=k) aA;obtain⟨A',Hc,B',Ng,Fs,Ha⟩:=Ar k aA;obtain⟨c0,c1,c2,c3,c4,c5⟩:=jW Fs;have Bq:=Hd (Ct.o (bI x k) A' Hc B' Ng wr Ha);have Aq:=Hd (HAL.o k aA);have Bs:=Hd (Jx.o k aA HA.o);clear Ar Ae Fs Ha;cases hl:fU (bI x k)with
     |false=>
      rw[hl]at Bq;have Gt:=Hd (Aq.o hl);go_wp2_with fail;refine Bq.o.mono ?_;rintro r w2 ⟨rfl,Ag⟩;have Ai:=Hd (Ay.o.tr Ag);exact bDj
     |true=>
      rw[hl]at Bq;have Gt:=Hd (Bs.o hl);go_wp2_with fail;refine Bq.o.mono ?_;rintro r w2 ⟨rfl,Ag⟩;have Ai:=Hd (Ay.o.tr Ag);exact bCo
   . exact bCq
def nH(x:Ex):Bool:=
 if x.op<(if x.k==6 then 3 else if x.k==5 then 1 else 0)\/(if x.k==6 then 16 else if x.k==5 then 2 else 0)<x.op then false
 else if x.k==1 then decide (0<=x.n)else if(x.k==2 || x.k==13)then(x.n==0 || x.n==1)else x.n==0
theorem bLh(x:Ex)(A:OA)(ca:Nat)(B:OA)(cb:Nat)(w:World)(hr:aM w x A B):
 Calls Tryz.prog 202 #[.agg (aJ x A ca B cb)] w fun e w'=>e=.returned (.bool (nH x))/\Below w.heap.size w w':=by
 have HF:=Hd fun w1 h=>gH w x A ca B cb w1 h hr;have HS:=Hd (show nH x=if x.op<(if x.k==6 then 3 else if x.k==5 then 1 else 0)\/(if x.k==6 then 16 else if x.k==5 then 2 else 0)<x.op then false
  else if x.k==1 then decide (0<=x.n)else if(x.k==2 || x.k==13)then(x.n==0 || x.n==1)else x.n==0 from rfl)
 clear hr;unfold aJ at HF⊢;generalize nH x=res at *;generalize x.k=k at *;generalize x.op=o at *;generalize x.n=n at *;by_cases h1:k=1
 . subst h1;by_cases Df:o<0;· exact aRe
   . by_cases Fv:0<o;· exact aRd
     . have HN:=Hd (show res=decide (0<=n)by rw[HS.o];simp[Df,Fv]);cases hd:decide (0<=n)<;>rw[hd]at HN
       all_goals (
        go_in
        go_upto_region 1 with(fail);generalize Af:w.alloc _=w1;obtain⟨Ab,hg,Al,hcell⟩:=HF.o w1 Af;have Ac:=Hd Ab;obtain⟨q0,q1,-,q3,-,-⟩:=Sx (hcell w1 (Yg _ _));clear hcell Ab Al Af HF;go_wp2_with fail;go_ret;exact⟨aO HN.o.symm,Ac.o⟩)
 . have e1:(k==1)=false:=by simpa using h1
   by_cases h2:k=2
   . subst h2;exact fK4
   . have e2:(k==2)=false:=by simpa using h2
     by_cases h5:k=5
     . subst h5;by_cases Df:o<1;· exact aRe
       . by_cases Fv:2<o;· exact aRd
         . exact bG2
     . have e5:(k==5)=false:=by simpa using h5
       by_cases h6:k=6
       . subst h6;by_cases Df:o<3;· exact aRe
         . by_cases Fv:16<o;· exact aRd
           . exact bG2
       . have e6:(k==6)=false:=by simpa using h6
         by_cases Ae:k=13
         . subst Ae;exact fK4
         . have Aa:(k==13)=false:=by simpa using Ae
           by_cases Df:o<0
           . have HN:=Hd (show res=false by rw[HS.o,e1,e2,e5,e6,Aa];simp[Df]);exact bHl
           . by_cases Fv:0<o
             . have HN:=Hd (show res=false by rw[HS.o,e1,e2,e5,e6,Aa];simp[Df,Fv]);exact bHl
             . have HN:=Hd (show res=(n==0)by rw[HS.o,e1,e2,e5,e6,Aa];simp[Df,Fv]);cases hd:(n==0)<;>rw[hd]at HN
               all_goals (
                go_in
                go_upto_region 1 with(fail);generalize Af:w.alloc _=w1;obtain⟨Ab,hg,Al,hcell⟩:=HF.o w1 Af;have Ac:=Hd Ab;obtain⟨q0,q1,-,q3,-,-⟩:=Sx (hcell w1 (Yg _ _));clear hcell Ab Al Af HF;go_wp2_with fail;go_ret;exact⟨aO HN.o.symm,Ac.o⟩)
def eK(t:BA):Bool:=dF t.data.toList || (t.toList==[116,114,117,101]) || (t.toList==[102,97,108,115,101])
def oT(x:Ex):Bool:=x.arms.all eK && (if x.k==11 then x.arms.length==1 else if x.k==12 then decide (1<=x.arms.length) && decide (x.arms.length<=6) && dC x.arms else x.arms.length==0)
def nP(x:Ex):Bool:=if x.k==3 || x.k==11 || x.k==12 || x.k==13 then aQ x.s.data.toList else if x.k==4 then dF x.s.data.toList else if x.k==17 then fJ x.s.data.toList else x.s.toList==[]
theorem bZn(s:BA)(w:World)(hs:s.size<=9223372036854775807):Calls Tryz.prog 234 #[.string s] w fun e w'=>e=.returned (.bool (eK s))/\w=w':=by
 have HS:=Hd (show eK s=(dF s.data.toList || (s.toList==[116,114,117,101]) || (s.toList==[102,97,108,115,101]))from rfl);have HH:=Hd (aE5 s w hs);generalize eK s=res at *;generalize dF s.data.toList=bh at *;cases bh<;>cases ht:(s.toList==[116,114,117,101])<;>cases hf:(s.toList==[102,97,108,115,101])
 all_goals (
  rw[ht,hf]at HS;go_in
  go_wp2_with fail;refine HH.o.mono ?_;rintro r w2 ⟨rfl,rfl⟩;go_wp2_with fail;go_ret;exact⟨aO HS.o.symm,rfl⟩)
theorem bRp(x:Ex)(A:OA)(ca:Nat)(B:OA)(cb:Nat)(w:World)(hr:aM w x A B)(hs:x.s.size<=7000):
 Calls Tryz.prog 203 #[.agg (aJ x A ca B cb)] w fun e w'=>e=.returned (.bool (nP x))/\Below w.heap.size w w':=by
 have HF:=Hd fun w1 h=>gH w x A ca B cb w1 h hr;have HS:=Hd (show nP x=if x.k==3 || x.k==11 || x.k==12 || x.k==13 then aQ x.s.data.toList else if x.k==4 then dF x.s.data.toList else if x.k==17 then fJ x.s.data.toList else x.s.toList==[]from rfl);clear hr;unfold aJ at HF⊢;generalize nP x=res at *;generalize x.k=k at *;generalize x.s=s at *;by_cases h3:k=3
 . subst h3;exact aKw
 . have e3:(k==3)=false:=by simpa using h3
   by_cases h11:k=11
   . subst h11;exact aKw
   . have Aq:(k==11)=false:=by simpa using h11
     by_cases Cy:k=12
     . subst Cy;exact aKw
     . have Fs:(k==12)=false:=by simpa using Cy
       by_cases Aa:k=13
       . subst Aa;exact aKw
       . have Bs:(k==13)=false:=by simpa using Aa
         by_cases h4:k=4
         . subst h4;have HN:=Hd (show res=dF s.data.toList by rw[HS.o];rfl);have HH:=Hd fun w=>aE5 s w aA;generalize dF s.data.toList=bh at *;go_in
           go_upto_region 1 with(fail);generalize Af:w.alloc _=w1;obtain⟨Ab,hg,Al,hcell⟩:=HF.o w1 Af;have Ac:=Hd Ab;have q0:=hcell w1 (Yg _ _) 0;have q2:=hcell w1 (Yg _ _) 2;clear hcell Ab Al Af HF;go_wp2_with fail;refine(HH.o _).mono ?_;exact bDw
         . have e4:(k==4)=false:=by simpa using h4
           by_cases Ae:k=17
           . subst Ae;have HN:=Hd (show res=fJ s.data.toList by rw[HS.o];rfl);have HH:=Hd fun w=>bVm s w hs;generalize fJ s.data.toList=bh at *;go_in
             go_upto_region 1 with(fail);generalize Af:w.alloc _=w1;obtain⟨Ab,hg,Al,hcell⟩:=HF.o w1 Af;have Ac:=Hd Ab;have q0:=hcell w1 (Yg _ _) 0;have q2:=hcell w1 (Yg _ _) 2;clear hcell Ab Al Af HF;go_wp2_with fail;refine(HH.o _).mono ?_;rintro r w2 ⟨rfl,Ag⟩;have Ai:=Hd (Ac.o.tr Ag);exact bEe
           . have Ct:(k==17)=false:=by simpa using Ae
             have HN:=Hd (show res=(s.toList==[])by rw[HS.o];simp only[e3,Aq,Fs,Bs,e4,Ct];rfl);cases he:(s.toList==[])<;>rw[he]at HN
             all_goals (
              go_in
              go_upto_region 1 with(fail);generalize Af:w.alloc _=w1;obtain⟨Ab,hg,Al,hcell⟩:=HF.o w1 Af;have Ac:=Hd Ab;have q0:=hcell w1 (Yg _ _) 0;have q2:=hcell w1 (Yg _ _) 2;clear hcell Ab Al Af HF;go_wp2_with fail;go_ret;exact⟨aO HN.o.symm,Ac.o⟩)
theorem bVq(x:Ex)(A:OA)(ca:Nat)(B:OA)(cb:Nat)(w:World)(hr:aM w x A B)(hz:∀t∈x.arms,t.size<=9223372036854775807)(hm:x.arms.length<=100):
 Calls Tryz.prog 204 #[.agg (aJ x A ca B cb)] w fun e w'=>e=.returned (.bool (oT x))/\Below w.heap.size w w':=by
 have HF:=Hd fun w1 h=>gH w x A ca B cb w1 h hr;have HS:=Hd (show oT x=(x.arms.all eK && (if x.k==11 then x.arms.length==1 else if x.k==12 then decide (1<=x.arms.length) && decide (x.arms.length<=6) && dC x.arms else x.arms.length==0))from rfl);have Dx:=Hd hr.arms;have HAL:=Hd fun i (hi:i<x.arms.length)(h:eK (x.arms[i]?.getD ByteArray.empty)=false)=>vR (f:=eK) hi h;have Ct:=Hd fun k (hk:k<x.arms.length) h (hx:eK (x.arms[k]?.getD ByteArray.empty)=true)=>zH (f:=eK) hk h hx;have Jq:=Hd fun k h (hk:x.arms.length<=k)=>zJ (l:=x.arms) (f:=eK) (k:=k) h hk;have HZ:=Hd fun i (hi:i<x.arms.length)=>hz (x.arms[i]?.getD ByteArray.empty) aQx;have Gg:=Hd fun w1 (h:Below w.heap.size w w1)=>aB5 A x.arms.length ca x.arms w1 (hr.below h).arms hm;clear hr hz;unfold aJ at HF⊢;generalize oT x=res at *;generalize x.k=k at *;generalize Hb:x.arms.length=n at *;have Cq:=aNu n;go_in
 go_upto_region 1 with(fail);generalize Af:w.alloc _=w1;obtain⟨Ab,hg,Al,hcell⟩:=HF.o w1 Af;have Ac:=Hd Ab;have q0:=hcell w1 (Yg _ _) 0;have q4:=hcell w1 (Yg _ _) 4;have Bi:=Hd (Dx.o.below Ab);have Hc:=Hd (Gg.o w1 Ab);clear hcell Ab Al Af HF;go_wp2_with fail;go_loopw [3] (fun i wr=>∃j:Nat,j<=n/\i=.int .i64 j/\(x.arms.take j).all eK=true/\w1=wr) (fun i _=>n-(intOf i).toNat)
 case atStart=>exact⟨0,Ys _,rfl,by simp,rfl⟩
 case round=>
  obtain⟨j,hj,rfl,Aa,rfl⟩:=hrel;have HA:=Hd Aa;clear Aa;by_cases Ah:j<n
  . obtain⟨b,off,rfl,hb,Ar⟩:=Bi.o.at_ Ah;have c0:=Ar j Ah;have Ae:=Hd (HAL.o j aA);have Aq:=Hd (Ct.o j aA HA.o);have Kh:=HZ.o j aA;clear Ar;generalize x.arms[j]?.getD ByteArray.empty=t at *;have HT:=Hd (bZn t w1 Kh);clear Kh;cases ht:eK t with
    |false=>
     rw[ht]at HT;have Gt:=Hd (Ae.o ht);have HN:=Hd (show res=false by rw[HS.o,Gt.o];rfl);go_wp2_with fail;refine HT.o.mono ?_;exact bDw
    |true=>
     rw[ht]at HT;have Gt:=Hd (Aq.o ht);go_wp2_with fail;refine HT.o.mono ?_;rintro r w2 ⟨rfl,rfl⟩;go_wp2_with fail;go_roundw;case rel=>exact⟨j+1,by omega,by go_num,Gt.o,lY⟩
     case measure=>simp[intOf];omega
  . have HE:=Jq.o j HA.o aA;rw[HE]at HS;clear HE HAL Ct Jq HA;by_cases h11:k=11
    . subst h11;have HN:=Hd (show res=(n==1)by rw[HS.o];rfl);cases Bs:(n==1)<;>rw[Bs]at HN Cq
      all_goals (
       go_wp2_with fail;go_ret;exact⟨aO HN.o.symm,Ac.o⟩)
    . have Fs:(k==11)=false:=by simpa using h11
      by_cases Cy:k=12
      . subst Cy;by_cases h1:1<=n
        . by_cases h6:n<=6
          . have HN:=Hd (show res=dC x.arms by rw[HS.o];simp[h1,h6]);generalize dC x.arms=on at *;go_wp2_with fail;refine Hc.o.mono ?_;rintro r w2 ⟨rfl,m,rfl⟩;go_wp2_with fail;go_ret;exact⟨aO HN.o.symm,eP Ac.o _⟩
          . have HN:=Hd (show res=false by rw[HS.o];simp[h6]);exact aP6
        . have HN:=Hd (show res=false by rw[HS.o];simp[h1]);exact aP6
      . have Ha:(k==12)=false:=by simpa using Cy
        have HN:=Hd (show res=(n==0)by rw[HS.o];simp only[Fs,Ha];rfl);have Ky:((n:Int)==0)=(n==0):=aQ7;cases Bs:(n==0)<;>rw[Bs]at HN Ky
        all_goals (
         go_wp2_with fail;go_ret;exact⟨aO HN.o.symm,Ac.o⟩)
def cO(x:Ex):Int × Int:=
 if x.k==5 || x.k==10 || x.k==11 then(1,1)else if x.k==6 || x.k==8 || x.k==9 || x.k==15 then(2,2)else if x.k==7 || x.k==16 then(3,3)
 else if x.k==12 then(x.arms.length,x.arms.length)else if x.k==13 then(x.n,6+x.n)else if x.k==14 then(1,8)else(0,0)
theorem bVr(x:Ex)(A:OA)(ca:Nat)(B:OA)(cb:Nat)(w:World)(hr:aM w x A B)(hn:x.k=13->x.n=0\/x.n=1):
 Calls Tryz.prog 205 #[.agg (aJ x A ca B cb)] w fun e w'=>e=.returned (.tuple #[.int .i64 (cO x).1,.int .i64 (cO x).2])/\Below w.heap.size w w':=by
 have HF:=Hd fun w1 h=>gH w x A ca B cb w1 h hr;have HS:=Hd (show cO x=if x.k==5 || x.k==10 || x.k==11 then(1,1) else if x.k==6 || x.k==8 || x.k==9 || x.k==15 then(2,2) else if x.k==7 || x.k==16 then(3,3)
  else if x.k==12 then((x.arms.length:Int),(x.arms.length:Int))else if x.k==13 then(x.n,6+x.n)else if x.k==14 then(1,8)else(0,0)from rfl)
 have Ng:=hr.arms.max;clear hr;unfold aJ at HF⊢;generalize cO x=res at *;generalize x.k=k at *;generalize x.n=n at *;generalize x.arms.length=m at *;by_cases h5:k=5
 . subst h5;exact aRc
 . have e5:(k==5)=false:=by simpa using h5
   by_cases Ae:k=10
   . subst Ae;exact aRc
   . have Hb:(k==10)=false:=by simpa using Ae
     by_cases h11:k=11
     . subst h11;exact aRc
     . have Aq:(k==11)=false:=by simpa using h11
       by_cases h6:k=6
       . subst h6;exact aKy
       . have e6:(k==6)=false:=by simpa using h6
         by_cases h8:k=8
         . subst h8;exact aKy
         . have e8:(k==8)=false:=by simpa using h8
           by_cases h9:k=9
           . subst h9;exact aKy
           . have e9:(k==9)=false:=by simpa using h9
             by_cases Ek:k=15
             . subst Ek;exact aKy
             . have Ct:(k==15)=false:=by simpa using Ek
               by_cases h7:k=7
               . subst h7;exact bG0
               . have e7:(k==7)=false:=by simpa using h7
                 by_cases Fh:k=16
                 . subst Fh;exact bG0
                 . have Fs:(k==16)=false:=by simpa using Fh
                   by_cases Cy:k=12
                   . subst Cy;have HN:=Hd (show res=((m:Int),(m:Int))by rw[HS.o];rfl);go_in
                     go_upto_region 1 with(fail);generalize Af:w.alloc _=w1;obtain⟨Ab,hg,Al,hcell⟩:=HF.o w1 Af;have Ac:=Hd Ab;obtain⟨q0,q1,-,-,q4,-⟩:=Sx (hcell w1 (Yg _ _));clear hcell Ab Al Af HF;go_wp2_with fail;go_quiet (fail);go_wp2_with fail;exact Zy (v:=.tuple #[.int .i64 (m),.int .i64 (m)]) aA3 rfl ⟨by rw[HN.o],eP Ac.o _⟩
                   . have Jx:(k==12)=false:=by simpa using Cy
                     by_cases Aa:k=13
                     . subst Aa;have Hc:=hn rfl;have h6:IntKind.i64.wrap (6+n)=6+n:=by rcases Hc with rfl|rfl<;>rfl
                       have HN:=Hd (show res=(n,6+n)by rw[HS.o];rfl);clear hn;go_in
                       go_upto_region 1 with(fail);generalize Af:w.alloc _=w1;obtain⟨Ab,hg,Al,hcell⟩:=HF.o w1 Af;have Ac:=Hd Ab;obtain⟨q0,q1,-,-,q4,-⟩:=Sx (hcell w1 (Yg _ _));clear hcell Ab Al Af HF;go_wp2_with fail;go_quiet (fail);go_wp2_with fail;exact Zy (v:=.tuple #[.int .i64 (n),.int .i64 (6+n)]) aA3 rfl ⟨by rw[HN.o],eP Ac.o _⟩
                     . have Ha:(k==13)=false:=by simpa using Aa
                       by_cases Eh:k=14
                       . subst Eh;have HN:=Hd (show res=(1,8)by rw[HS.o];rfl);go_in
                         go_upto_region 1 with(fail);generalize Af:w.alloc _=w1;obtain⟨Ab,hg,Al,hcell⟩:=HF.o w1 Af;have Ac:=Hd Ab;obtain⟨q0,q1,-,-,q4,-⟩:=Sx (hcell w1 (Yg _ _));clear hcell Ab Al Af HF;go_wp2_with fail;exact Zy (v:=.tuple #[.int .i64 (1),.int .i64 (8)]) aA3 rfl ⟨by rw[HN.o],Ac.o⟩
                       . have Bs:(k==14)=false:=by simpa using Eh
                         have HN:=Hd (show res=(0,0)by rw[HS.o];simp only[e5,Hb,Aq,e6,e8,e9,Ct,e7,Fs,Jx,Ha,Bs];rfl);go_in
                         go_upto_region 1 with(fail);generalize Af:w.alloc _=w1;obtain⟨Ab,hg,Al,hcell⟩:=HF.o w1 Af;have Ac:=Hd Ab;obtain⟨q0,q1,-,-,q4,-⟩:=Sx (hcell w1 (Yg _ _));clear hcell Ab Al Af HF;go_wp2_with fail;exact Zy (v:=.tuple #[.int .i64 (0),.int .i64 (0)]) aA3 rfl ⟨by rw[HN.o],Ac.o⟩
def eS(p:Ex):Prop:=p.s.size<=7000/\(∀t∈p.arms,t.size<=9223372036854775807)/\p.arms.length<=100
theorem eS.of_few{p:Ex}(h:oA p=true):eS p:=by
 simp only[oA,Yu,Bool.not_eq_true',decide_eq_false_iff_not,Zj]at h;obtain⟨⟨h1,h2⟩,h3⟩:=h;refine⟨by omega,fun t ht=>?_,by omega⟩
 have:=h3 t ht
 simp only[wY,Bool.not_eq_true',decide_eq_false_iff_not]at this;omega
def dA(x:Ex):Bool:=decide (1<=x.k) && decide (x.k<=17) && nH x && nP x && oT x && decide ((cO x).1<=x.subs.length) && decide ((x.subs.length:Int)<=(cO x).2) && ((x.k !=8) || rW (bI x 0))
def bJ(x:Ex):Bool:=!decide (60<aT x) && !decide (12<gC x) && (bP x).all dA
theorem bLi{x:Ex}(h:nH x=true)(hk:x.k=13):x.n=0\/x.n=1:=by
 unfold nH at h;rw[hk]at h;simp at h;exact h.2
theorem bZo{x:Ex}(hk:x.k=8):cO x=(2,2):=by
 unfold cO;rw[hk];rfl
theorem bVs(x:Ex)(A:OA)(ca:Nat)(B:OA)(cb:Nat)(w:World)(hr:aM w x A B)(Aa:eS x):
 Calls Tryz.prog 176 #[.agg (aJ x A ca B cb)] w fun e w'=>e=.returned (.bool (dA x))/\Below w.heap.size w w':=by
 have HF:=Hd fun w1 h=>gH w x A ca B cb w1 h hr;have HS:=Hd (show dA x=(decide (1<=x.k) && decide (x.k<=17) && nH x && nP x && oT x && decide ((cO x).1<=x.subs.length) && decide ((x.subs.length:Int)<=(cO x).2) && ((x.k !=8) || rW (bI x 0)))from rfl);have Lb:=Hd fun w1 (h:Below w.heap.size w w1)=>bLh x A ca B cb w1 (hr.below h);have Lq:=Hd fun w1 (h:Below w.heap.size w w1)=>bRp x A ca B cb w1 (hr.below h) Aa.1;have Dx:=Hd fun w1 (h:Below w.heap.size w w1)=>bVq x A ca B cb w1 (hr.below h) Aa.2.1 Aa.2.2;have Ix:=Hd fun w1 (h:Below w.heap.size w w1)(hn:x.k=13->x.n=0\/x.n=1)=>bVr x A ca B cb w1 (hr.below h) hn;have Lt:=Hd (bLi (x:=x));have Fs:=Hd (bZo (x:=x));have Nm:=hr.subs.max;clear hr Aa;unfold aJ at HF Lb Lq Dx Ix⊢;generalize dA x=res at *;generalize nH x=Nk at *;generalize nP x=Ha at *;generalize oT x=Ng at *;generalize Nh:cO x=su at *;obtain⟨lo,hi⟩:=su;clear Nh;simp only at HS Ix Fs;generalize x.k=k at *;generalize x.n=m at *;generalize Hb:x.subs.length=n at *;by_cases h1:k<1
 . have HN:=Hd (show res=false by rw[HS.o,Xd (show ¬1<=k by omega)];rfl);exact bHk
 by_cases Nl:17<k
 . have HN:=Hd (show res=false by rw[HS.o,Xd (show ¬k<=17 by omega)];simp);exact bHk
 rw[Xc (show 1<=k by omega),Xc (show k<=17 by omega)]at HS;cases Nk with
 |false=>
  have HN:=Hd (show res=false by rw[HS.o];simp);go_in
  go_upto_region 1 with(fail);generalize Af:w.alloc _=w1;obtain⟨Ab,hg,Al,hcell⟩:=HF.o w1 Af;have Ac:=Hd Ab;have HC:=Hd hcell;have Gm:=Hd (Yg w1.heap.size w1);obtain⟨q0,q1,q2,q3,q4,q5⟩:=Sx (hcell w1 (Yg _ _));clear hcell Ab Al Af HF;go_wp2_with fail;refine(Lb.o w1 Ac.o).mono ?_;rintro r w2 ⟨rfl,hb⟩;have Ai:=Hd (Ac.o.tr hb);have Cj:=Hd (Gm.o.tr hb);clear hb q0 q1 q2 q3 q4 q5;obtain⟨q0,q1,q2,q3,q4,q5⟩:=Sx (HC.o w2 Cj.o);exact bE1
 |true=>
  cases Ha with
  |false=>
   have HN:=Hd (show res=false by rw[HS.o];simp);go_in
   go_upto_region 1 with(fail);generalize Af:w.alloc _=w1;obtain⟨Ab,hg,Al,hcell⟩:=HF.o w1 Af;have Ac:=Hd Ab;have HC:=Hd hcell;have Gm:=Hd (Yg w1.heap.size w1);obtain⟨q0,q1,q2,q3,q4,q5⟩:=Sx (hcell w1 (Yg _ _));clear hcell Ab Al Af HF;go_wp2_with fail;refine(Lb.o w1 Ac.o).mono ?_;rintro r w2 ⟨rfl,hb⟩;have Ai:=Hd (Ac.o.tr hb);have Cj:=Hd (Gm.o.tr hb);clear hb q0 q1 q2 q3 q4 q5;obtain⟨q0,q1,q2,q3,q4,q5⟩:=Sx (HC.o w2 Cj.o);go_wp2_with fail;refine(Lq.o w2 Ai.o).mono ?_;exact bHt
  |true=>
   cases Ng with
   |false=>
    have HN:=Hd (show res=false by rw[HS.o];simp);go_in
    go_upto_region 1 with(fail);generalize Af:w.alloc _=w1;obtain⟨Ab,hg,Al,hcell⟩:=HF.o w1 Af;have Ac:=Hd Ab;have HC:=Hd hcell;have Gm:=Hd (Yg w1.heap.size w1);obtain⟨q0,q1,q2,q3,q4,q5⟩:=Sx (hcell w1 (Yg _ _));clear hcell Ab Al Af HF;go_wp2_with fail;refine(Lb.o w1 Ac.o).mono ?_;rintro r w2 ⟨rfl,hb⟩;have Ai:=Hd (Ac.o.tr hb);have Cj:=Hd (Gm.o.tr hb);clear hb q0 q1 q2 q3 q4 q5;obtain⟨q0,q1,q2,q3,q4,q5⟩:=Sx (HC.o w2 Cj.o);go_wp2_with fail;refine(Lq.o w2 Ai.o).mono ?_;rintro r w3 ⟨rfl,hb⟩;have Aj:=Hd (Ai.o.tr hb);have Dm:=Hd (Cj.o.tr hb);clear hb q0 q1 q2 q3 q4 q5;obtain⟨q0,q1,q2,q3,q4,q5⟩:=Sx (HC.o w3 Dm.o);go_wp2_with fail;refine(Dx.o w3 Aj.o).mono ?_;rintro r w4 ⟨rfl,hb⟩;have Bd:=Hd (Aj.o.tr hb);have Es:=Hd (Dm.o.tr hb);clear hb q0 q1 q2 q3 q4 q5;obtain⟨q0,q1,q2,q3,q4,q5⟩:=Sx (HC.o w4 Es.o);exact bE2
   |true=>
    by_cases Df:(n:Int)<lo
    . have HN:=Hd (show res=false by rw[HS.o,Xd (show ¬lo<=(n:Int)by omega)];simp);exact fK6
    by_cases Fv:hi<(n:Int)
    . have HN:=Hd (show res=false by rw[HS.o,Xd (show ¬(n:Int)<=hi by omega)];simp);exact fK6
    rw[Xc (show lo<=(n:Int)by omega),Xc (show(n:Int)<=hi by omega)]at HS;by_cases h8:k=8
    . have Hc:=Fs.o h8;injection Hc with Aq Ae;subst Aq Ae h8;have HN:=Hd (show res=rW (bI x 0)by rw[HS.o];simp);go_in
      go_upto_region 1 with(fail);generalize Af:w.alloc _=w1;obtain⟨Ab,hg,Al,hcell⟩:=HF.o w1 Af;have Ac:=Hd Ab;have HC:=Hd hcell;have Bi:=Hd Al;have Gm:=Hd (Yg w1.heap.size w1);obtain⟨q0,q1,q2,q3,q4,q5⟩:=Sx (hcell w1 (Yg _ _));clear hcell Ab Al Af HF;go_wp2_with fail;refine(Lb.o w1 Ac.o).mono ?_;rintro r w2 ⟨rfl,hb⟩;have Ai:=Hd (Ac.o.tr hb);have Cj:=Hd (Gm.o.tr hb);clear hb q0 q1 q2 q3 q4 q5;obtain⟨q0,q1,q2,q3,q4,q5⟩:=Sx (HC.o w2 Cj.o);go_wp2_with fail;refine(Lq.o w2 Ai.o).mono ?_;rintro r w3 ⟨rfl,hb⟩;have Aj:=Hd (Ai.o.tr hb);have Dm:=Hd (Cj.o.tr hb);clear hb q0 q1 q2 q3 q4 q5;obtain⟨q0,q1,q2,q3,q4,q5⟩:=Sx (HC.o w3 Dm.o);go_wp2_with fail;refine(Dx.o w3 Aj.o).mono ?_;rintro r w4 ⟨rfl,hb⟩;have Bd:=Hd (Aj.o.tr hb);have Es:=Hd (Dm.o.tr hb);clear hb q0 q1 q2 q3 q4 q5;obtain⟨q0,q1,q2,q3,q4,q5⟩:=Sx (HC.o w4 Es.o);go_wp2_with fail;refine(Ix.o w4 Bd.o (Lt.o lY)).mono ?_;rintro r w5 ⟨rfl,hb⟩;have Bl:=Hd (Bd.o.tr hb);have Ik:=Hd (Es.o.tr hb);clear hb q0 q1 q2 q3 q4 q5;obtain⟨q0,q1,q2,q3,q4,q5⟩:=Sx (HC.o w5 Ik.o);obtain⟨b,off,rfl,hb,Ar⟩:=(Bi.o.below Ik.o).sub (i:=0) aA;obtain⟨A',Nj,B',Jx,Bs,Ct⟩:=Ar 0 aA;rw[Nat.zero_mul,Nat.add_zero]at Bs;obtain⟨c0,c1,c2,c3,c4,c5⟩:=jW Bs;have Ni:=Hd (bRo (bI x 0) A' Nj B' Jx w5 Ct);clear Ar Bs Ct;generalize rW (bI x 0)=Nn at *;go_wp2_with fail;refine Ni.o.mono ?_;rintro r w6 ⟨rfl,hb⟩;have Db:=Hd (Bl.o.tr hb);clear hb;go_wp2_with fail;go_ret;exact⟨aO HN.o.symm,Db.o⟩
    have e8:(k==8)=false:=by simpa using h8
    have n8:(k !=8)=true:=by rw[bne,e8];rfl
    have HN:=Hd (show res=true by rw[HS.o,n8];rfl);exact fK6
theorem aWs(x:Ex)(A:OA)(ca:Nat)(B:OA)(cb:Nat)(w:World)(hr:aM w x A B)(hs:aT x<=1000000)(Jx:∀p∈bP x,eS p):
 Calls Tryz.prog 130 #[.agg (aJ x A ca B cb)] w fun e w'=>e=.returned (.bool (bJ x))/\Below w.heap.size w w':=by
 have HF:=Hd fun w1 h=>gH w x A ca B cb w1 h hr;have HS:=Hd (show bJ x=(!decide (60<aT x) && !decide (12<gC x) && (bP x).all dA)from rfl);have Gc:=Hd fun w1 (h:Below w.heap.size w w1)=>bVj x A ca B cb w1 (hr.below h) hs;have Bs:=Hd fun w1 (h:Below w.heap.size w w1)=>bRc x A ca B cb w1 (hr.below h) hs;have Ct:=Hd fun w1 (h:Below w.heap.size w w1)=>aWp x A ca B cb w w1 hr h hs;have Fk:=Hd (aEl x);have Nj:=Hd fun i (hi:i<(bP x).length)=>Jx ((bP x)[i]?.getD default) aQx;have Li:=aEm x;have No:=vW x;clear hr Jx;unfold aJ at HF Gc Bs Ct⊢;generalize bJ x=res at *;have Nk:Hid (∃l,l=bP x):=Hd ⟨_,rfl⟩;by_cases Ha:60<aT x
 . have HN:=Hd (show res=false by rw[HS.o];simp[Ha]);generalize aT x=n at *;go_in
   go_upto_region 1 with(fail);generalize Af:w.alloc _=w1;obtain⟨Ab,hg,Al,hcell⟩:=HF.o w1 Af;have Ac:=Hd Ab;obtain⟨q0,q1,q2,q3,q4,q5⟩:=Sx (hcell w1 (Yg _ _));clear hcell Ab Al Af HF;go_wp2_with fail;refine(Gc.o w1 Ac.o).mono ?_;rintro r w2 ⟨rfl,hb⟩;have Ai:=Hd (Ac.o.tr hb);clear hb;exact bE1
 by_cases Cy:12<gC x
 . have HN:=Hd (show res=false by rw[HS.o];simp[Cy]);generalize aT x=n at *;generalize gC x=d at *;go_in
   go_upto_region 1 with(fail);generalize Af:w.alloc _=w1;obtain⟨Ab,hg,Al,hcell⟩:=HF.o w1 Af;have Ac:=Hd Ab;have HC:=Hd hcell;have Gm:=Hd (Yg w1.heap.size w1);obtain⟨q0,q1,q2,q3,q4,q5⟩:=Sx (hcell w1 (Yg _ _));clear hcell Ab Al Af HF;go_wp2_with fail;refine(Gc.o w1 Ac.o).mono ?_;rintro r w2 ⟨rfl,hb⟩;have Ai:=Hd (Ac.o.tr hb);have Cj:=Hd (Gm.o.tr hb);clear hb q0 q1 q2 q3 q4 q5;obtain⟨q0,q1,q2,q3,q4,q5⟩:=Sx (HC.o w2 Cj.o);go_wp2_with fail;refine(Bs.o w2 Ai.o).mono ?_;exact bHt
 have Fl:=Hd (show res=(bP x).all dA by rw[HS.o];simp[Ha,Cy]);generalize gC x=d at *;go_in
 go_upto_region 1 with(fail);generalize Af:w.alloc _=w1;obtain⟨Ab,hg,Al,hcell⟩:=HF.o w1 Af;have Ac:=Hd Ab;have HC:=Hd hcell;have Gm:=Hd (Yg w1.heap.size w1);obtain⟨q0,q1,q2,q3,q4,q5⟩:=Sx (hcell w1 (Yg _ _));clear hcell Ab Al Af HF;go_wp2_with fail;refine(Gc.o w1 Ac.o).mono ?_;rintro r w2 ⟨rfl,hb⟩;have Ai:=Hd (Ac.o.tr hb);have Cj:=Hd (Gm.o.tr hb);clear hb q0 q1 q2 q3 q4 q5;obtain⟨q0,q1,q2,q3,q4,q5⟩:=Sx (HC.o w2 Cj.o);go_wp2_with fail;refine(Bs.o w2 Ai.o).mono ?_;rintro r w3 ⟨rfl,hb⟩;have Aj:=Hd (Ai.o.tr hb);have Dm:=Hd (Cj.o.tr hb);clear hb q0 q1 q2 q3 q4 q5;obtain⟨q0,q1,q2,q3,q4,q5⟩:=Sx (HC.o w3 Dm.o);go_wp2_with fail;refine(Ct.o w3 Aj.o).mono ?_;rintro r w4 ⟨A2,c2,Np,rfl,Aa,Ae,hb,_⟩;have Bd:=Hd (Aj.o.tr hb);have Ng:=Hd (Aa.rd Ae Bd.o);clear Aa Ae hb q0 q1 q2 q3 q4 q5 Ct Gc Bs HS Nk;generalize bP x=l at *;generalize aT x=n at *;go_wp2_with fail;go_loopw [4] (fun i wr=>∃k:Nat,k<=n/\i=.int .i64 k/\(l.take k).all dA=true/\Below w4.heap.size w4 wr) (fun i _=>n-(intOf i).toNat)
 case atStart=>exact⟨0,Ys _,rfl,by simp,Yg _ _⟩
 case round=>
  obtain⟨k,hk,rfl,Aq,Fs⟩:=hrel;have HA:=Hd Aq;have Ay:=Hd Fs;clear Aq;by_cases Ah:k<n
  . obtain⟨b,off,rfl,hb,Ar⟩:=(Ng.o.below Fs).at_ Ah;obtain⟨A',Nm,B',Nh,Hc,Hb⟩:=Ar k Ah;obtain⟨c0,c1,Nn,c3,c4,c5⟩:=jW Hc;have HK:=Hd (show k<l.length by rw[Fk.o];exact Ah);have Jr:=Hd (Nj.o k HK.o);have Ni:=Hd fun h=>vR (l:=l) (f:=dA) (i:=k) HK.o h;have Nl:=Hd fun h=>zH (l:=l) (f:=dA) (k:=k) HK.o HA.o h;clear Ar Hc Fs;generalize l[k]?.getD default=p at *;have HP:=Hd (bVs p A' Nm B' Nh wr Hb Jr.o);unfold aJ at HP;clear Hb;cases hp:dA p with
    |false=>
     rw[hp]at HP;have HN:=Hd (show res=false by rw[Fl.o];exact Ni.o hp);go_wp2_with fail;refine HP.o.mono ?_;rintro r w5 ⟨rfl,Cs⟩;have Bl:=Hd (Ay.o.tr Cs);clear Cs;go_wp2_with fail;go_ret;exact⟨aO HN.o.symm,Bd.o.tr Bl.o⟩
    |true=>
     rw[hp]at HP;have HN:=Hd (Nl.o hp);go_wp2_with fail;refine HP.o.mono ?_;rintro r w5 ⟨rfl,Cs⟩;have Bl:=Hd (Ay.o.tr Cs);clear Cs;go_wp2_with fail;go_roundw;case rel=>exact⟨k+1,by omega,by go_num,HN.o,Bl.o⟩
     case measure=>simp[intOf];omega
  . have HN:=Hd (show res=true by rw[Fl.o];exact zJ HA.o (by rw[Fk.o];omega));go_wp2_with fail;go_ret;exact⟨aO HN.o.symm,Bd.o.tr Ay.o⟩
end
section
open Go.RowKit Go.Shelf
attribute [local go_sem] Oper.semAt_some
theorem bJg{F:Fence}(hd:F.depth=none){m m':Nat}{P:Program}{l:Nat}{f:FuncId}{tmps:AV}{assign body:Code}{w:World}{R:Ending->World->Prop}
 (h:RoundIn F m P l f tmps assign body w R):RoundIn F m' P l f tmps assign body w R:=⟨h.1,fun c cs _=>h.2 c cs (fun d h=>by rw[hd]at h;cases h)⟩
theorem bJh{F:Fence}(hd:F.depth=none){m:Nat}(m':Nat){P:Program}{l:Nat}{args:AV}{W:World}{R:Ending->World->Prop}(h:YieldAt F m P l args W R):YieldAt F m' P l args W R:=by
 obtain⟨fn,tmps,assign,body,hy,hR⟩:=h;exact⟨fn,tmps,assign,body,hy,bJg hd hR⟩
theorem aR5{W W':World}(h:Below W.heap.size W W'):W.grownBy W' none:=⟨h.os,h.tape,h.output,h.size,fun i hi _=>h.block i hi⟩
structure Pt where
 x:Ex
 A:Option Addr
 ca:Nat
 B:Option Addr
 cb:Nat
def aK1(p:Pt):Array Value:=#[.agg (aJ p.x p.A p.ca p.B p.cb)]
abbrev pD (w0:World)(e:Ex):={ p:Pt // aM w0 p.x p.A p.B/\p.x∈bP e }
def kG{w0:World}{e:Ex}(l:List (pD w0 e)):List Ex:=l.map fun p=>p.1.x
theorem aNv{w0:World}{e:Ex}(a b:List (pD w0 e)):kG (a++b)=kG a++kG b:=by simp[kG]
theorem aNw{w0:World}{e:Ex}(a:List (pD w0 e)):(kG a).length=a.length:=by simp[kG]
def jB(W W':World):Prop:=∀(k:Nat)(cs:AV)(h:Nat × Nat),W.heap[k]?=some (Obj.cells cs 79 h)->W'.heap[k]?=some (Obj.cells cs 79 h)
theorem jB.refl(W:World):jB W W:=fun _ _ _ h=>h
theorem jB.trans{A B C:World}(h:jB A B)(k:jB B C):jB A C:=fun i cs t e=>k i cs t (h i cs t e)
theorem aTh:∀{l:List Ex}{i:Nat}{q:Ex},i<l.length->q∈bP (l[i]?.getD default)->q∈eL l
 |[],i,q,h,_=>absurd h aC
 |x::l,0,q,_,hq=>by
  simp only[Zd,Yv]at hq;simp only[eL];exact List.mem_append_left _ hq
 |x::l,i+1,q,h,hq=>by
  simp only[Ze]at hq;simp only[eL];exact List.mem_append_right _ (aTh nZ hq)
theorem jB.of_below{W W':World}(h:Below W.heap.size W W'):jB W W':=fun k cs t e=>(h.block k (Ym.1 e).1).trans e
theorem jB.cell{W W':World}(h:jB W W'){k:Nat}{cs:AV}(e:W.heap[k]?=some (Obj.cells cs 79))(j:Nat):W'.cell? ⟨k,j,none⟩=W.cell? ⟨k,j,none⟩:=
 Yn (a:=⟨k,j,none⟩) ((h k cs _ e).trans e.symm)
def nC(n:Nat)(W W':World):Prop:=Below n W W'/\jB W W'
theorem nC.refl(n:Nat)(W:World):nC n W W:=⟨Yg _ _,jB.refl _⟩
theorem nC.trans{n:Nat}{A B C:World}(h:nC n A B)(k:nC n B C):nC n A C:=⟨h.1.trans k.1,h.2.trans k.2⟩
theorem nC.of_below{n:Nat}{W W':World}(h:Below W.heap.size W W')(hn:n<=W.heap.size):nC n W W':=⟨h.mono hn,jB.of_below h⟩
theorem cB5{n₀:Nat}{w:World}(hn:n₀<=w.heap.size)(W:World)(l:Nat)(o o':Obj)(hl:w.heap.size<=l)(h:W.heap[l]?=some o)(hc:o.isCells=false)(hw:o.isWalk=false):nC n₀ W (W.putObj l o'):=
 ⟨belowK_b hn W l o o' hl h hc hw,fun k cs t e=>by
  refine(World.putObj_heap_other (fun e'=>?_)).trans e;subst e';rw[h]at e;injection e with e;subst e;cases hc⟩
theorem bVt(l N D:Nat)(e0:Ex)(w0:World)(J Jx:List (pD w0 e0)->World->Prop)(hJ:AbidesFrom D J)
 (hY:∀ m Aa (x:pD w0 e0) W,J Aa W->Aa.length<N->YieldAt Fence.wide m Tryz.prog l (aK1 x.1) W fun e W' =>
  (e=.returned (.bool true)/\J (Aa++[x]) W'/\nC w0.heap.size W W')\/(e=.returned (.bool false)/\Jx (Aa++[x]) W')):
 ∀(x:Ex)(A:OA)(ca:Nat)(B:OA)(cb n:Nat)(Aa:List (pD w0 e0))(W:World),aM w0 x A B->(∀q∈bP x,q∈bP e0)->Below w0.heap.size w0 W->J Aa W->Aa.length+aT x<=N->
  CallsIn Fence.wide n Tryz.prog 230 #[.agg (aJ x A ca B cb),.func (.yield l) #[] #[]] W fun e W'=>
   (e=.returned (.bool true)/\∃ps:List (pD w0 e0),kG ps=bP x/\J (Aa++ps) W'/\nC w0.heap.size W W')\/(e=.returned (.bool false)/\∃ps:List (pD w0 e0),kG ps <+:bP x/\Jx (Aa++ps) W'):=by
 refine tB fun x ih A ca B cb n Aa W hr Ns Nn Nw hN=>?_;have Nr:∀Aa W W',Below W.heap.size W W'->J Aa W->J Aa W':=fun Aa W W' h hj=>hJ _ _ _ none hj (aR5 h) (fun r e=>by cases e);have Oz:=uG x;have Oy:=hr.subs.max;have Nh:=aBq x;have Nu:=Hd ih;have Cd:=Hd Nn;have Oj:=Hd hr;have Ok:=Hd Nr;have Ni:=Hd Nh;have Ct:x∈bP e0:=Ns x (by rw[Nh];exact Zc);have Ae:=Hd fun k (hk:k<x.subs.length)(q:Ex)(hq:q∈bP (bI x k))=>Ns q (by rw[Nh];exact Zi _ (aTh hk hq));have Om:=Hd fun i (hi:i<x.subs.length)=>aHa hi;have Oo:=Hd fun i (hi:i<x.subs.length)=>aSt hi;have Oe:=Hd fun i=>aEk x.subs i;have Ot:=Hd (List.take_length (l:=x.subs));have On:=Hd fun k=>(show eL (x.subs.take k) <+:eL x.subs from⟨eL (x.subs.drop k),by rw[<-aSq,List.take_append_drop]⟩);have Nm:Below W.heap.size W (W.alloc (.cells (aJ x A ca B cb) 79)):=(Yg _ _).alloc (Yh _) _;have Fs:(W.alloc (.cells (aJ x A ca B cb) 79)).heap[W.heap.size]?=some (.cells (aJ x A ca B cb) 79):=World.alloc_heap_new _ _;obtain⟨xp,Nk⟩:∃xp:pD w0 e0,xp.1=⟨x,A,ca,B,cb⟩:=⟨⟨_,hr,Ct⟩,rfl⟩;have Ny:kG [xp]=[x]:=by simp[kG,Nk]
 have Oc:=Hd Ny;obtain⟨fn,tmps,assign,body,hy,hR⟩:=hY (n-1) Aa xp _ (Nr _ _ _ Nm Nw) (by have:=vW x;omega);obtain⟨_,_,_,hcell⟩:=gH W x A ca B cb _ rfl (hr.below Nn);obtain⟨q0,q1,q2,q3,q4,q5⟩:=Sx (hcell _ (Yg _ _));have Ob:=Hd Fs;have Ew:=Hd Nm;clear Nw hr Ns Nn ih Nh Ct hcell Fs Nm Nr hY Ny;rw[Nk]at hy;dsimp only[aK1]at hy;unfold aJ at hy q0 q1 q2 q3 q4 q5 Ob Ew Nu;have HR:=Hd hR;clear hR;unfold aJ at HR⊢;clear Nk;generalize Nj:x.subs.length=len at *;refine callsIn_of_wp Tryz.func230 rfl trivial ?_ rfl;simp only[Tryz.ntmps230,List.size_toArray,Yq,Zg,Nat.reduceAdd,Nat.reduceSub,Array.replicate_succ,Array.replicate_zero,List.push_toArray,List.append_toArray,Zh,Yx];gi_wp2_with fail;refine⟨fun h=>aFw,HR.o.mono ?_⟩;rintro e W3 (⟨rfl,Oh,Ng⟩|⟨rfl,Ha⟩)
 . have Nq:=Hd Oh;have Oq:=Hd (show nC w0.heap.size W W3 from⟨(Ew.o.mono Cd.o.size).trans Ng.1,(jB.of_below Ew.o).trans Ng.2⟩);have r5:=(Ng.2.cell Ob.o 5).trans q5;clear q0 q1 q2 q3 q4 q5 Oh Ng hy;gi_wp2_with fail;gi_loopw [14] (fun i wr=>∃(k:Nat)(ps:List (pD w0 e0)),k<=len/\i=.int .i64 k/\kG ps=x::eL (x.subs.take k)/\J (Aa++ps) wr/\nC w0.heap.size W wr) (fun i _=>len-(intOf i).toNat)
   case atStart=>exact⟨0,[xp],Ys _,rfl,by rw[Oc.o];simp[eL],Nq.o,Oq.o⟩
   case round=>
    obtain⟨k,ps,hk,rfl,Be,Nv,Nl⟩:=hrel;have No:=Hd Be;have Od:=Hd Nv;have Oi:=Hd Nl;have Ay:=Hd (Cd.o.trans Nl.1);have Ox:ps.length=1+bW (x.subs.take k):=by rw[<-aNw,Be,Yq,aLo];omega
    have Cz:=Oe.o k;clear Be Nv Nl;by_cases Ah:k<len
    . obtain⟨b,off,rfl,hb,Ar⟩:=Oj.o.sub (i:=k) aA;obtain⟨A',Og,B',Nx,Of,Np⟩:=Ar k aA;obtain⟨c0,c1,c2,c3,c4,c5⟩:=jW (uE Of hb fun p hp=>Ay.o.cell hp);obtain⟨Hc,_,_,Nz⟩:=gH wr (bI x k) A' Og B' Nx _ rfl (Np.below Ay.o);have Ej:=Hd Hc;obtain⟨d0,d1,d2,d3,d4,d5⟩:=Sx (Nz _ (Yg _ _));have Ow:=Om.o k aA;have Ol:=Oe.o (k+1);have Aq:=Hd (Oo.o k aA);have Hb:=Ay.o.tr Hc;have Bq:=Hd (Nu.o k aA A' Og B' Nx (n-1) (Aa++ps) _ Np (Ae.o k aA) Hb (Ok.o _ _ _ Hc Od.o) cP);clear Ar Of Np Hc Nz Hb;unfold aJ at Bq Ej d0 d1 d2 d3 d4 d5;generalize bI x k=y at *;gi_wp2_with fail;refine⟨trivial,fun h=>aFw,(Bq.o).mono ?_⟩;rintro e W4 (⟨rfl,qs,Gj,Oa,Fy⟩|⟨rfl,qs,Gj,Bs⟩)
      . have Iy:=Hd Gj;have Nt:=Hd Oa;have Ov:=Hd (show nC w0.heap.size W W4 from Oi.o.trans (((nC.of_below Ej.o Ay.o.size)).trans Fy));clear Gj Oa Fy;gi_wp2_with fail;go_roundw;case rel=>exact⟨k+1,ps++qs,by omega,by go_num,by rw[aNv,No.o,Iy.o,Aq.o];rfl,by rw[<-Yy];exact Nt.o,Ov.o⟩
        case measure=>simp[intOf];omega
      . have Iy:=Hd Gj;have Nt:=Hd Bs;have Cg:=Hd (On.o (k+1));clear Gj Bs;gi_wp2_with fail;go_ret;refine .inr ⟨rfl,ps++qs,?_,by rw[<-Yy];exact Nt.o⟩;rw[aNv,No.o,Ni.o,Yx];refine(List.prefix_cons_inj _).2 (List.IsPrefix.trans ?_ Cg.o);rw[Aq.o];exact(List.prefix_append_right_inj _).2 Iy.o
    . have Ou:k=len:=by omega
      subst Ou;have HE:=Hd (Nj ▸ Ot.o:x.subs.take k=x.subs);gi_wp2_with fail;go_ret;refine .inl ⟨rfl,ps,?_,Od.o,Oi.o⟩;rw[No.o,HE.o,Ni.o]
 . have Nq:=Hd Ha;clear Ha;gi_wp2_with fail;go_ret;refine .inr ⟨rfl,[xp],?_,Nq.o⟩;rw[Oc.o,Ni.o];exact⟨_,rfl⟩
theorem bLj(n Bs:Nat)(x:Ex)(A:OA)(ca:Nat)(B:OA)(cb:Nat)(w0 w:World)(hr:aM w0 x A B)(hb:Below w0.heap.size w0 w)(Dw:w.heap[Bs]?=some (Obj.cells (aJ x A ca B cb) 79)):
 SeqStopsK Fence.wide n Tryz.prog 229 #[.pointer (some ⟨Bs,0,none⟩)] (fun p:pD w0 x=>aK1 p.1) (nC w0.heap.size) (fun ys=>kG ys=bP x) (fun Aq=>kG Aq <+:bP x) (aT x) w:=fun l J Jx W hW hJ _ hY h0=>by
 have Cl:=(Ym.1 Dw).1;have Ae:=(hW.block Bs Cl).trans Dw;have Bq:=Hd (bVt l (aT x) W.heap.size x w0 J Jx hJ (fun m Aq p W1 hj hl=>bJh rfl m (hY Aq p W1 hj hl)) x A ca B cb (n-1) [] W hr (fun q hq=>hq) (hb.tr hW) h0 aC);have hcell:∀j,W.cell? ⟨Bs,j,none⟩=(aJ x A ca B cb)[j]?:=fun j=>by simp[World.cell?,Ae]
 obtain⟨q0,q1,q2,q3,q4,q5⟩:=Sx hcell;clear hcell Dw Ae hY hr hW hJ h0;unfold aJ at Bq q0 q1 q2 q3 q4 q5;refine callsIn_of_wp Tryz.func229 rfl trivial ?_ rfl;simp only[Tryz.ntmps229,List.size_toArray,Yq,Zg,Nat.reduceAdd,Nat.reduceSub,Array.replicate_succ,Array.replicate_zero,List.push_toArray,List.append_toArray,Zh,Yx];gi_wp2_with fail;refine⟨trivial,fun h=>aFw,(Bq.o).mono ?_⟩;rintro e W4 (⟨rfl,qs,Gj,Fs,Fy⟩|⟨rfl,qs,Gj,Aa⟩)
 . have Iy:=Hd Gj;have Ct:=Hd Fs;clear Gj Fs Fy;gi_wp2_with fail;go_end0
   exact⟨⟨_,rfl⟩,.inl ⟨qs,Iy.o,Ct.o⟩⟩
 . have Iy:=Hd Gj;have Ct:=Hd Aa;clear Gj Aa;gi_wp2_with fail;go_end0
   exact⟨⟨_,rfl⟩,.inr ⟨qs,Iy.o,Ct.o⟩⟩
attribute [local go_sem] Oper.semAt_some
theorem bZp(x:Ex)(A:OA)(ca:Nat)(B:OA)(cb:Nat)(w:World)(hr:aM w x A B):
 Calls Tryz.prog 197 #[.agg (aJ x A ca B cb)] w fun r w'=>r=.returned (.func (.func 229) #[] #[.pointer (some ⟨w.heap.size,0,none⟩)])/\w'=w.alloc (Obj.cells (aJ x A ca B cb) 79):=by
 have Jt:∀fn first cap w,(Instr.makeFunc fn first cap).run Tryz.prog w=.ok (.func fn first cap) w:=fun _ _ _ _=>rfl
 clear hr;unfold aJ;go_in
 go_wp2_with fail;go_ret;exact⟨rfl,rfl⟩
theorem jB.setCell{W:World}{B:Nat}{t:TypeId}{v:Value}(h:Boxed W B t v)(ht:t≠79)(u:Value):jB W (W.setCell ⟨B,0,none⟩ u):=fun k cs hh e=>by
 have Bv:some k≠some B:=by
  intro e';injection e' with e';subst e';rw[show W.heap[k]?=_ from h]at e;injection e with e;injection e with _ e;exact ht e
 have hk:=(Ym.1 e).1;exact((grownBy_setCell' W B u).block k hk Bv).trans e
end
section
open Go.RowKit Go.Sort
theorem aWt(x:Ex)(A:OA)(ca:Nat)(B:OA)(cb:Nat)(w:World)(hr:aM w x A B):
 Calls Tryz.prog 265 #[.agg (aJ x A ca B cb)] w fun e w'=>e=.returned (.bool (fU x))/\Below w.heap.size w w':=by
 have HF:=Hd fun w1 h=>gH w x A ca B cb w1 h hr;have HS:=Hd (show fU x=if x.k==5 then(x.op==1) && (x.subs.length==1) && ((bI x 0).k==1)else(x.k==1) || (x.k==2) || (x.k==4)from rfl);have Bs:=hr.subs.max;clear hr;unfold aJ at HF⊢;generalize fU x=res at *;generalize x.k=k at *;generalize x.op=o at *;generalize Ae:x.subs.length=n at *;have Cq:=aNu n;by_cases h1:k=1
 . subst h1;exact aRf
 by_cases h2:k=2
 . subst h2;exact aRf
 by_cases h4:k=4
 . subst h4;exact aRf
 by_cases h5:k=5
 . subst h5;cases ho:(o==1)with
   |false=>
    exact bHa
   |true=>
    cases hl:(n==1)with
    |false=>
     exact bG6
    |true=>
     have HN:=Hd (show res=((bI x 0).k==1)by rw[HS.o,ho,hl];rfl);rw[hl]at Cq;obtain rfl:n=1:=by simpa using hl
     go_in
     go_upto_region 1 with(fail);generalize Af:w.alloc _=w1;obtain⟨Ab,hg,Al,hcell⟩:=HF.o w1 Af;have Ac:=Hd Ab;obtain⟨q0,-,-,q3,-,q5⟩:=Sx (hcell w1 (Yg _ _));obtain⟨b,off,rfl,hb,Ar⟩:=Al.sub (i:=0) aA;obtain⟨A',Ct,B',Fs,Aa,Aq⟩:=Ar 0 aA;rw[Nat.zero_mul,Nat.add_zero]at Aa;obtain⟨c0,c1,c2,c3,c4,c5⟩:=jW Aa;clear Ar Aa Aq c1 c2 c3 c4 c5;clear hcell Ab Al Af HF;exact bDm
 have e1:(k==1)=false:=wV;have e2:(k==2)=false:=aGk;have e4:(k==4)=false:=by simpa using h4
 have e5:(k==5)=false:=aGl;have HN:=Hd (show res=false by rw[HS.o,e5,e1,e2,e4];rfl);go_in
 go_upto_region 1 with(fail);generalize Af:w.alloc _=w1;obtain⟨Ab,hg,Al,hcell⟩:=HF.o w1 Af;have Ac:=Hd Ab;have q0:=hcell w1 (Yg _ _) 0;clear hcell Ab Al Af HF;go_wp2_with fail;go_ret;exact⟨aO HN.o.symm,Ac.o⟩
theorem bVu(x:Ex)(A:OA)(ca:Nat)(B:OA)(cb:Nat)(w:World)(hr:aM w x A B):
 Calls Tryz.prog 250 #[.agg (aJ x A ca B cb)] w fun e w'=>e=.returned (.bool (rW x))/\Below w.heap.size w w':=by
 have HF:=Hd fun w1 h=>gH w x A ca B cb w1 h hr;have HS:=Hd (show rW x=if x.k==14 then x.subs.all fU else fU x from rfl);have Nk:=hr.subs.max;have Ha:=Hd fun(x:Ex)(A:OA)(ca:Nat)(B:OA)(cb:Nat)(w:World)(hr:aM w x A B)=>aWt x A ca B cb w hr;have Cx:=Hd fun(x:Ex)(A:OA)(ca:Nat)(B:OA)(cb:Nat)(w w1:World)(h:_)(hr:aM w x A B)=>gH w x A ca B cb w1 h hr;have HAL:=Hd fun i (hi:i<x.subs.length)(h:fU (bI x i)=false)=>vR (f:=fU) hi h;have Nj:=Hd fun k (hk:k<x.subs.length) h (hx:fU (bI x k)=true)=>zH (f:=fU) hk h hx;have Jq:=Hd fun k h (hk:x.subs.length<=k)=>zJ (l:=x.subs) (f:=fU) (k:=k) h hk;have Lz:=Hd fun w1 (h:aM w1 x A B)=>aWt x A ca B cb w1 h;clear hr;unfold aJ at HF Ha Lz Cx⊢;generalize rW x=res at *;generalize fU x=lx at *;generalize x.k=k at *;generalize Ni:x.subs.length=n at *;cases Eh:(k==14)with
 |false=>
  exact bGt
 |true=>
  obtain rfl:k=14:=by simpa using Eh
  have HN:=Hd (show res=x.subs.all fU by rw[HS.o];rfl);go_in
  go_upto_region 1 with(fail);generalize Af:w.alloc _=w1;obtain⟨Ab,hg,Al,hcell⟩:=HF.o w1 Af;have Ac:=Hd Ab;have q0:=hcell w1 (Yg _ _) 0;have q5:=hcell w1 (Yg _ _) 5;have Bi:=Hd Al;clear hcell Ab Al Af HF;go_wp2_with fail;go_loopw [13] (fun i wr=>∃k:Nat,k<=n/\i=.int .i64 k/\(x.subs.take k).all fU=true/\Below w1.heap.size w1 wr) (fun i _=>n-(intOf i).toNat)
  case atStart=>exact⟨0,Ys _,rfl,by simp,Yg _ _⟩
  case round=>
   obtain⟨k,hk,rfl,Ae,Ct⟩:=hrel;have HA:=Hd Ae;have Ay:=Hd Ct;clear Ae;by_cases Ah:k<n
   . obtain⟨b,off,rfl,hb,Ar⟩:=(Bi.o.below Ct).sub (i:=k) aA;obtain⟨A',Ng,B',Fs,Jx,Hc⟩:=Ar k aA;obtain⟨c0,c1,c2,c3,c4,c5⟩:=jW Jx;have Nh:=Hd fun w3 h=>Cx.o (bI x k) A' Ng B' Fs wr w3 h Hc;have Aq:=Hd (HAL.o k aA);have Bs:=Hd (Nj.o k aA HA.o);clear Ar Ct Jx Hc;go_upto_region 6 with(fail);generalize Em:wr.alloc _=w3;obtain⟨Ak,Ib,Hb,Aa⟩:=Nh.o w3 Em;obtain⟨d0,d1,d2,d3,d4,d5⟩:=Sx (Aa w3 (Yg _ _));have Bq:=Hd (Ha.o (bI x k) A' Ng B' Fs w3 Hb);have Aj:=Hd (Ay.o.tr Ak);clear Aa Ak Hb Em Nh;cases hl:fU (bI x k)with
     |false=>
      rw[hl]at Bq;have Gt:=Hd (Aq.o hl);go_wp2_with fail;refine Bq.o.mono ?_;rintro r w2 ⟨rfl,Ag⟩;have Ai:=Hd (Aj.o.tr Ag);exact bDj
     |true=>
      rw[hl]at Bq;have Gt:=Hd (Bs.o hl);go_wp2_with fail;refine Bq.o.mono ?_;rintro r w2 ⟨rfl,Ag⟩;have Ai:=Hd (Aj.o.tr Ag);exact bCo
   . exact bCq
theorem aYt:∀(x:Ex)(A:OA)(ca:Nat)(B:OA)(cb:Nat)(w:World),aM w x A B->aT x<=1000000->
 Calls Tryz.prog 199 #[.agg (aJ x A ca B cb)] w fun e w'=>e=.returned (.int .i64 (gC x:Nat))/\Below w.heap.size w w':=by
 refine tB fun x ih A ca B cb w hr hs=>?_;have Ct:=Hd ih;have Gc:=Hd (aHj x);have Li:=aEm x;have Au:=aHj x;have Nl:=hr.subs.max;have HF:=Hd fun w1 h=>gH w x A ca B cb w1 h hr;have Cx:=Hd fun(x:Ex)(A:OA)(ca:Nat)(B:OA)(cb:Nat)(w w1:World)(h:_)(hr:aM w x A B)=>gH w x A ca B cb w1 h hr;have Nh:=Hd fun i (hi:i<x.subs.length)=>aSs hi;have Bs:=Hd fun i (hi:i<x.subs.length)=>(aEu (zS hi));have Ni:=Hd (List.take_length (l:=x.subs));clear ih hr;unfold aJ at HF Ct Cx⊢;generalize Ae:x.subs.length=len at *;go_in
 go_upto_region 1 with(fail);generalize Af:w.alloc _=w1;obtain⟨Ab,hg,Al,hcell⟩:=HF.o w1 Af;have Ac:=Hd Ab;have q5:=hcell w1 (Yg _ _) 5;have Bi:=Hd Al;clear hcell Ab Al Af HF;go_wp2_with fail;go_loopw [3,9] (fun s i wr=>∃k:Nat,k<=len/\i=.int .i64 k/\s=.int .i64 ((kY (x.subs.take k):Nat):Int)/\Below w1.heap.size w1 wr) (fun _ i _=>len-(intOf i).toNat)
 case atStart=>exact⟨0,Ys _,rfl,by simp[kY],Yg _ _⟩
 case round=>
  obtain⟨k,hk,rfl,rfl,Aq⟩:=hrel;have Ay:=Hd Aq;by_cases Ah:k<len
  . obtain⟨b,off,rfl,hb,Ar⟩:=(Bi.o.below Aq).sub (i:=k) aA;obtain⟨A',Jx,B',Fs,Hc,Hb⟩:=Ar k aA;obtain⟨c0,c1,c2,c3,c4,c5⟩:=jW Hc;have Ng:=Hd fun w3 h=>Cx.o (bI x k) A' Jx B' Fs wr w3 h Hb;have Ir:=Hd (Nh.o k aA);clear Ar Aq Hc Hb;have Nk:=Bs.o k aA;go_upto_region 5 with(fail);generalize Em:wr.alloc _=w3;obtain⟨Ak,Ib,Ha,Aa⟩:=Ng.o w3 Em;obtain⟨d0,d1,d2,d3,d4,d5⟩:=Sx (Aa w3 (Yg _ _));have Bq:=Hd (Ct.o k aA A' Jx B' Fs w3 Ha aA);have Aj:=Hd (Ay.o.tr Ak);clear Aa Ak Ha Em Ng;go_wp2_with fail;refine Bq.o.mono ?_;rintro r w2 ⟨rfl,Ag⟩;have Ai:=Hd (Aj.o.tr Ag);exact bHz
  . have Nj:k=len:=by omega
    subst Nj;have HE:=Hd (Ae ▸ Ni.o:x.subs.take k=x.subs);rw[HE.o];generalize kY x.subs=d at *;go_wp2_with fail;go_ret;refine⟨?_,Ac.o.tr Ay.o⟩;rw[Gc.o,Nat.add_comm];rfl
def oB(n:Int):Bool:=(n==0) || (n==1)
theorem cB6(n:Int)(w:World):Calls Tryz.prog 249 #[.int .i64 n] w fun e w'=>e=.returned (.bool (oB n))/\w=w':=by
 have HS:=Hd (show oB n=((n==0) || (n==1))from rfl);generalize oB n=res at *;cases h0:(n==0)<;>cases h1:(n==1)
 all_goals (
  rw[h0,h1]at HS;go_in
  go_wp2_with fail;go_ret;exact⟨aO HS.o.symm,rfl⟩)
theorem cB7(s:BA)(w:World)(hs:s.size<=9223372036854775807):Calls Tryz.prog 266 #[.string s] w fun e w'=>e=.returned (.bool (eK s))/\Below w.heap.size w w':=by
 have HS:=Hd (show eK s=(dF s.data.toList || (s.toList==[116,114,117,101]) || (s.toList==[102,97,108,115,101]))from rfl);have HH:=Hd (wD s w hs);generalize eK s=res at *;generalize dF s.data.toList=bh at *;cases bh<;>cases ht:(s.toList==[116,114,117,101])<;>cases hf:(s.toList==[102,97,108,115,101])
 all_goals (
  rw[ht,hf]at HS;go_in
  go_wp2_with fail;refine HH.o.mono ?_;rintro r w2 ⟨rfl,hb⟩;go_wp2_with fail;go_ret;exact⟨aO HS.o.symm,hb⟩)
def tL(l:LB)(m:Int):Bool:=decide (1<=l.length) && decide ((l.length:Int)<=m) && l.all eK && dC l
theorem bAr(A:OA)(n c:Nat)(m:Int)(l:LB)(w:World)(hr:aS w A n l)(hz:∀t∈l,t.size<=9223372036854775807)(hm:n<=100):
 Calls Tryz.prog 251 #[.slice A n c,.int .i64 m] w fun e w'=>e=.returned (.bool (tL l m))/\Below w.heap.size w w':=by
 have HS:=Hd (show tL l m=(decide (1<=l.length) && decide ((l.length:Int)<=m) && l.all eK && dC l)from rfl);have Aa:=hr.len;have Dx:=Hd hr;have HAL:=Hd fun i (hi:i<l.length)(h:eK (l[i]?.getD ByteArray.empty)=false)=>vR (f:=eK) hi h;have Fs:=Hd fun k (hk:k<l.length) h (hx:eK (l[k]?.getD ByteArray.empty)=true)=>zH (f:=eK) hk h hx;have Jq:=Hd fun k h (hk:l.length<=k)=>zJ (l:=l) (f:=eK) (k:=k) h hk;have HZ:=Hd fun i (hi:i<l.length)=>hz (l[i]?.getD ByteArray.empty) aQx;have Gg:=Hd fun w1 (h:Below w.heap.size w w1)=>aCl A n c l w1 (hr.below h) hz hm;clear hr hz;rw[Aa]at HS HAL Fs Jq HZ;clear Aa;generalize tL l m=res at *;by_cases h1:1<=n
 . by_cases h2:(n:Int)<=m
   . have d1:decide ((n:Int)<1)=false:=Xd aA;have d2:decide (m<(n:Int))=false:=Xd aA;have Ha:=Hd (show res=(l.all eK && dC l)by rw[HS.o];simp[h1,h2]);go_in
     go_wp2_with fail;go_loopw [18] (fun i wr=>∃j:Nat,j<=n/\i=.int .i64 j/\(l.take j).all eK=true/\Below w.heap.size w wr) (fun i _=>n-(intOf i).toNat)
     case atStart=>exact⟨0,Ys _,rfl,by simp,Yg _ _⟩
     case round=>
      obtain⟨j,hj,rfl,Ae,Aq⟩:=hrel;have HA:=Hd Ae;have Ay:=Hd Aq;clear Ae;by_cases Ah:j<n
      . obtain⟨b,off,rfl,hb,Ar⟩:=(Dx.o.below Aq).at_ Ah;have c0:=Ar j Ah;have Bs:=Hd (HAL.o j aA);have Ct:=Hd (Fs.o j aA HA.o);have Kh:=HZ.o j aA;clear Ar Aq;generalize l[j]?.getD ByteArray.empty=t at *;have HT:=Hd (cB7 t wr Kh);clear Kh;cases ht:eK t with
        |false=>
         rw[ht]at HT;have Gt:=Hd (Bs.o ht);have HN:=Hd (show res=false by rw[Ha.o,Gt.o];rfl);go_wp2_with fail;refine HT.o.mono ?_;exact bCs
        |true=>
         rw[ht]at HT;have Gt:=Hd (Ct.o ht);go_wp2_with fail;refine HT.o.mono ?_;rintro r w2 ⟨rfl,Ag⟩;have Ai:=Hd (Ay.o.tr Ag);clear Ag;go_wp2_with fail;go_roundw;case rel=>exact⟨j+1,by omega,by go_num,Gt.o,Ai.o⟩
         case measure=>simp[intOf];omega
      . have HE:=Jq.o j HA.o aA;have HN:=Hd (show res=dC l by rw[Ha.o,HE];rfl);have Hb:=Hd (Gg.o wr Ay.o);clear HE HAL Fs Jq HA Aq;go_wp2_with fail;refine Hb.o.mono ?_;exact bCs
   . have d1:decide ((n:Int)<1)=false:=Xd aA;have d2:decide (m<(n:Int))=true:=Xc aA;have HN:=Hd (show res=false by rw[HS.o];simp[h2]);exact bD9
 . have d1:decide ((n:Int)<1)=true:=Xc aA;have HN:=Hd (show res=false by rw[HS.o];simp[h1]);exact bD9
def sN(k n:Int)(s:BA)(op:Int)(Aa:LB):Ex:=.mk k n s op Aa []
def kN(x:Ex)(n:Int)(s:BA)(op:Int)(Aa:LB)(h:Bool)(lo hi:Int):Bool:=
 h && aAb x (sN x.k n s op Aa) && decide (lo<=(x.subs.length:Int)) && decide ((x.subs.length:Int)<=hi)
theorem aBs(l:LB):jD l []=(l.length==0):=by
 cases l<;>simp[jD]
theorem aBm(l:LB):jD l l=true:=by simp[jD]
theorem aBj:(ByteArray.empty).toList=[]:=by
 rw[Zf];rfl
theorem zN{l:LB}(h:l.length=1):dC l=true:=by
 match l,h with
 |[a],_=>simp[dC,aJ7]
theorem aAc(x:Ex)(n:Int)(s:BA)(op:Int)(Aa:LB)(h:Bool)(lo hi:Int):
 kN x n s op Aa h lo hi=(h && ((x.n==n) && (x.s.toList==s.toList) && (x.op==op) && jD x.arms Aa) && decide (lo<=(x.subs.length:Int)) && decide ((x.subs.length:Int)<=hi)):=by
 simp[kN,aAb,sN,Ex.k,Ex.n,Ex.s,Ex.op,Ex.arms,Bool.and_assoc]
theorem zT{l:LB}(h:l.length=0):l.all eK=true:=by
 cases l<;>simp at h⊢
theorem cB8(x:Ex)(hk:x.k=1):kN x x.n ByteArray.empty 0 [] (decide (0<=x.n)) 0 0=dA x:=by
 exact vH
theorem cB9(x:Ex)(hk:x.k=2):kN x x.n ByteArray.empty 0 [] (oB x.n) 0 0=dA x:=by
 exact vH
theorem cCa(x:Ex)(hk:x.k=3):kN x 0 x.s 0 [] (aQ x.s.data.toList) 0 0=dA x:=by
 have h0:=@zT x.arms;have h1:=@zN x.arms;exact bGv
theorem cCb(x:Ex)(hk:x.k=4):kN x 0 x.s 0 [] (dF x.s.data.toList) 0 0=dA x:=by
 have h0:=@zT x.arms;have h1:=@zN x.arms;rw[aAc];simp only[dA,nH,nP,oT,cO,hk,aBs,aBm,aBj,oB,tL];generalize x.arms.all eK=ba at *;generalize dF x.s.data.toList=b2 at *;generalize x.arms.length=la at *;generalize x.subs.length=ls at *;generalize x.n=n at *;generalize x.op=op at *;cases ba<;>cases b2
 all_goals (try simp at h0)
 all_goals (try simp at h1)
 all_goals (try rw[Zq])
 all_goals (try simp)
 all_goals (try omega)
theorem bZq(x:Ex)(hk:x.k=17):kN x 0 x.s 0 [] (fJ x.s.data.toList) 0 0=dA x:=by
 have h0:=@zT x.arms;have h1:=@zN x.arms;rw[aAc];simp only[dA,nH,nP,oT,cO,hk,aBs,aBm,aBj,oB,tL];generalize x.arms.all eK=ba at *;generalize fJ x.s.data.toList=b3 at *;generalize x.arms.length=la at *;generalize x.subs.length=ls at *;generalize x.n=n at *;generalize x.op=op at *;cases ba<;>cases b3
 all_goals (try simp at h0)
 all_goals (try simp at h1)
 all_goals (try rw[Zq])
 all_goals (try simp)
 all_goals (try omega)
theorem bE7(x:Ex)(hk:x.k=5):kN x 0 ByteArray.empty x.op [] (decide (1<=x.op) && decide (x.op<=2)) 1 1=dA x:=by
 exact vH
theorem bE8(x:Ex)(hk:x.k=6):kN x 0 ByteArray.empty x.op [] (decide (3<=x.op) && decide (x.op<=16)) 2 2=dA x:=by
 exact vH
theorem cCc(x:Ex)(hk:x.k=7):kN x 0 ByteArray.empty 0 [] true 3 3=dA x:=by
 exact vH
theorem bZr(x:Ex)(hk:x.k=16):kN x 0 ByteArray.empty 0 [] true 3 3=dA x:=by
 exact vH
theorem cCd(x:Ex)(hk:x.k=9):kN x 0 ByteArray.empty 0 [] true 2 2=dA x:=by
 exact vH
theorem bZs(x:Ex)(hk:x.k=15):kN x 0 ByteArray.empty 0 [] true 2 2=dA x:=by
 exact vH
theorem bZt(x:Ex)(hk:x.k=10):kN x 0 ByteArray.empty 0 [] true 1 1=dA x:=by
 exact vH
theorem bZu(x:Ex)(hk:x.k=14):kN x 0 ByteArray.empty 0 [] true 1 8=dA x:=by
 exact vH
theorem bE9(x:Ex)(hk:x.k=8):kN x 0 ByteArray.empty 0 [] (decide (0<(x.subs.length:Int)) && rW (bI x 0)) 2 2=dA x:=by
 have h0:=@zT x.arms;have h1:=@zN x.arms;rw[aAc];simp only[dA,nH,nP,oT,cO,hk,aBs,aBm,aBj,oB,tL];generalize x.arms.all eK=ba at *;generalize (x.s.toList==([]:LU))=be at *;generalize rW (bI x 0)=bc at *;generalize x.arms.length=la at *;generalize x.subs.length=ls at *;generalize x.n=n at *;generalize x.op=op at *;cases ba<;>cases be<;>cases bc
 all_goals (try simp at h0)
 all_goals (try simp at h1)
 all_goals (try rw[Zq])
 all_goals (try simp)
 all_goals (try omega)
theorem bAs(x:Ex)(hk:x.k=11):kN x 0 x.s 0 x.arms (aQ x.s.data.toList && tL x.arms 1) 1 1=dA x:=by
 exact bGn
theorem bAt(x:Ex)(hk:x.k=12):kN x 0 x.s 0 x.arms (aQ x.s.data.toList && tL x.arms 6) x.arms.length x.arms.length=dA x:=by
 exact bGn
theorem bAu(x:Ex)(hi:Int)(hk:x.k=13)(hh:oB x.n=true->hi=6+x.n):kN x x.n x.s 0 [] (aQ x.s.data.toList && oB x.n) x.n hi=dA x:=by
 have h0:=@zT x.arms;have h1:=@zN x.arms;unfold oB at hh;simp only[Bool.or_eq_true,beq_iff_eq]at hh;exact bGv
theorem bZv(x:Ex)(n:Int)(s:BA)(op:Int)(Aa:LB)(lo hi:Int)(hk:x.k<1\/17<x.k):kN x n s op Aa false lo hi=dA x:=by
 rw[aAc]
 have:(decide (1<=x.k) && decide (x.k<=17))=false:=by
  rcases hk with h|h;· rw[Xd aA,Bool.false_and]
  . rw[Xd (p:=x.k<=17) aA,Bool.and_false]
 simp only[dA,this,Bool.false_and]
end
section
open Go.RowKit Go.Shelf
attribute [local go_sem] Oper.semAt_some
theorem bAv{β:Type}(B:Nat)(cs:AV)(t:TypeId):Own (fun(_:β) W=>W.heap[B]?=some (Obj.cells cs t)):=fun s X Y Aa hs hg Ad=>
 (hg.block B (Ym.1 hs).1 (fun e'=>by obtain⟨o,ho,hc⟩:=Ad B e'.symm;rw[hs]at ho;cases ho;cases hc)).trans hs
theorem jB.alloc(W:World)(o:Obj):jB W (W.alloc o):=jB.of_below ((Yg _ _).alloc (Yh _) o)
end
end Go.Proofs.YtagkcjpoipcpkaaGreatDoor
