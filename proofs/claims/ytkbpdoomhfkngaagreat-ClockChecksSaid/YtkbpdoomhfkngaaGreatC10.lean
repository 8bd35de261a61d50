/- A part of the proof. Conditions: each theorem's own. -/
import Derived.Test.YtkbpdoomhfkngaaGreatC07
import Derived.Test.YtkbpdoomhfkngaaGreatC09
namespace Go.Proofs.YtkbpdoomhfkngaaGreat
set_option linter.unusedVariables false
set_option linter.unusedSimpArgs false
set_option maxRecDepth 100000
set_option maxHeartbeats 40000000
section
open Go.RowKit Go.Sort
theorem aJf(x:Ex)(A:Option Addr)(ca:Nat)(B:Option Addr)(cb:Nat)(w:World)(hr:aH w x A B):
 Calls Tryz.prog 170 #[.agg (aE x A ca B cb)] w fun e w'=>e=.returned (.bool (cV x))/\Below w.heap.size w w':=by
 have HF:=Hd fun w1 h=>fB w x A ca B cb w1 h hr;have HS:=Hd (show cV x=if x.k==5 then(x.op==1) && (x.subs.length==1) && ((aM x 0).k==1)else(x.k==1) || (x.k==2) || (x.k==4)from rfl);have Bx:=hr.subs.max;clear hr;unfold aE at HF⊢;generalize cV x=Bu at *;generalize x.k=k at *;generalize x.op=o at *;generalize Bp:x.subs.length=n at *;have Da:=aC4 n;by_cases h1:k=1
 . subst h1;exact aFs
 by_cases h2:k=2
 . subst h2;exact aFs
 by_cases h4:k=4
 . subst h4;exact aFs
 by_cases h5:k=5
 . subst h5;cases ho:(o==1)with
   |false=>
    exact aRf
   |true=>
    cases hl:(n==1)with
    |false=>
     exact aRb
    |true=>
     have HN:=Hd (show Bu=((aM x 0).k==1)by rw[HS.o,ho,hl];rfl);rw[hl]at Da;obtain rfl:n=1:=by simpa using hl
     go_in
     go_upto_region 1 with(fail);generalize Ag:w.alloc _=w1;obtain⟨Aa,hg,Av,hcell⟩:=HF.o w1 Ag;have Ac:=Hd Aa;obtain⟨q0,-,-,q3,-,q5⟩:=Sx (hcell w1 (Yg _ _));obtain⟨b,off,rfl,hb,Ca⟩:=Av.sub (i:=0) aA;obtain⟨A',Jx,B',Nt,Aq,Ap⟩:=Ca 0 aA;rw[Nat.zero_mul,Nat.add_zero]at Aq;obtain⟨c0,c1,c2,c3,c4,c5⟩:=dT Aq;clear Ca Aq Ap c1 c2 c3 c4 c5;clear hcell Aa Av Ag HF;exact aN2
 have e1:(k==1)=false:=aAv;have e2:(k==2)=false:=aAw;have e4:(k==4)=false:=by simpa using h4
 have e5:(k==5)=false:=pG;have HN:=Hd (show Bu=false by rw[HS.o,e5,e1,e2,e4];rfl);go_in
 go_upto_region 1 with(fail);generalize Ag:w.alloc _=w1;obtain⟨Aa,hg,Av,hcell⟩:=HF.o w1 Ag;have Ac:=Hd Aa;have q0:=hcell w1 (Yg _ _) 0;clear hcell Aa Av Ag HF;go_wp2_with fail;go_ret;exact⟨aL HN.o.symm,Ac.o⟩
theorem yT(x:Ex)(A:Option Addr)(ca:Nat)(B:Option Addr)(cb:Nat)(w:World)(hr:aH w x A B):
 Calls Tryz.prog 141 #[.agg (aE x A ca B cb)] w fun e w'=>e=.returned (.bool (dQ x))/\Below w.heap.size w w':=by
 have HF:=Hd fun w1 h=>fB w x A ca B cb w1 h hr;have HS:=Hd (show dQ x=if x.k==14 then x.subs.all cV else cV x from rfl);have Nz:=hr.subs.max;have Nt:=Hd fun(x:Ex)(A:Option Addr)(ca:Nat)(B:Option Addr)(cb:Nat)(w:World)(hr:aH w x A B)=>aJf x A ca B cb w hr;have Bt:=Hd fun(x:Ex)(A:Option Addr)(ca:Nat)(B:Option Addr)(cb:Nat)(w w1:World)(h:_)(hr:aH w x A B)=>fB w x A ca B cb w1 h hr;have Ch:=Hd fun i (hi:i<x.subs.length)(h:cV (aM x i)=false)=>nG (f:=cV) hi h;have Gx:=Hd fun k (hk:k<x.subs.length) h (hx:cV (aM x k)=true)=>qP (f:=cV) hk h hx;have Jt:=Hd fun k h (hk:x.subs.length<=k)=>qS (l:=x.subs) (f:=cV) (k:=k) h hk;have Jr:=Hd fun w1 (h:aH w1 x A B)=>aJf x A ca B cb w1 h;clear hr;unfold aE at HF Nt Jr Bt⊢;generalize dQ x=Bu at *;generalize cV x=lx at *;generalize x.k=k at *;generalize Nx:x.subs.length=n at *;cases Ja:(k==14)with
 |false=>
  exact aQt
 |true=>
  obtain rfl:k=14:=by simpa using Ja
  have HN:=Hd (show Bu=x.subs.all cV by rw[HS.o];rfl);go_in
  go_upto_region 1 with(fail);generalize Ag:w.alloc _=w1;obtain⟨Aa,hg,Av,hcell⟩:=HF.o w1 Ag;have Ac:=Hd Aa;have q0:=hcell w1 (Yg _ _) 0;have q5:=hcell w1 (Yg _ _) 5;have Bi:=Hd Av;clear hcell Aa Av Ag HF;go_wp2_with fail;go_loopw [13] (fun i wr=>∃k:Nat,k<=n/\i=.int .i64 k/\(x.subs.take k).all cV=true/\Below w1.heap.size w1 wr) (fun i _=>n-(intOf i).toNat)
  case atStart=>exact⟨0,Yq _,rfl,by simp,Yg _ _⟩
  case round=>
   obtain⟨k,hk,rfl,Bh,Cb⟩:=hrel;have HA:=Hd Bh;have Bo:=Hd Cb;clear Bh;by_cases Ah:k<n
   . obtain⟨b,off,rfl,hb,Ca⟩:=(Bi.o.below Cb).sub (i:=k) aA;obtain⟨A',Nw,B',Jx,Nv,Ap⟩:=Ca k aA;obtain⟨c0,c1,c2,c3,c4,c5⟩:=dT Nv;have Gi:=Hd fun w3 h=>Bt.o (aM x k) A' Nw B' Jx wr w3 h Ap;have Bp:=Hd (Ch.o k aA);have Bx:=Hd (Gx.o k aA HA.o);clear Ca Cb Nv Ap;go_upto_region 6 with(fail);generalize Cr:wr.alloc _=w3;obtain⟨Ak,Ny,Nu,Aq⟩:=Gi.o w3 Cr;obtain⟨d0,d1,d2,d3,d4,d5⟩:=Sx (Aq w3 (Yg _ _));have Bz:=Hd (Nt.o (aM x k) A' Nw B' Jx w3 Nu);have Ax:=Hd (Bo.o.tr Ak);clear Aq Ak Nu Cr Gi;cases hl:cV (aM x k)with
     |false=>
      rw[hl]at Bz;have Ke:=Hd (Bp.o hl);go_wp2_with fail;refine Bz.o.mono ?_;rintro r w2 ⟨rfl,Ad⟩;have Aj:=Hd (Ax.o.tr Ad);exact aN1
     |true=>
      rw[hl]at Bz;have Ke:=Hd (Bx.o hl);go_wp2_with fail;refine Bz.o.mono ?_;rintro r w2 ⟨rfl,Ad⟩;have Aj:=Hd (Ax.o.tr Ad);exact aNi
   . exact aNj
theorem bC6:∀(x:Ex)(A:Option Addr)(ca:Nat)(B:Option Addr)(cb:Nat)(w:World),aH w x A B->bD x<=1000000->
 Calls Tryz.prog 169 #[.agg (aE x A ca B cb)] w fun e w'=>e=.returned (.int .i64 (iA x:Nat))/\Below w.heap.size w w':=by
 refine nK fun x ih A ca B cb w hr hs=>?_;have Jx:=Hd ih;have Ny:=Hd (uR x);have Oc:=uL x;have Al:=uR x;have Od:=hr.subs.max;have HF:=Hd fun w1 h=>fB w x A ca B cb w1 h hr;have Bt:=Hd fun(x:Ex)(A:Option Addr)(ca:Nat)(B:Option Addr)(cb:Nat)(w w1:World)(h:_)(hr:aH w x A B)=>fB w x A ca B cb w1 h hr;have Nx:=Hd fun i (hi:i<x.subs.length)=>aF8 hi;have Bx:=Hd fun i (hi:i<x.subs.length)=>(pQ (oL hi));have Nz:=Hd (List.take_length (l:=x.subs));clear ih hr;unfold aE at HF Jx Bt⊢;generalize Bp:x.subs.length=len at *;go_in
 go_upto_region 1 with(fail);generalize Ag:w.alloc _=w1;obtain⟨Aa,hg,Av,hcell⟩:=HF.o w1 Ag;have Ac:=Hd Aa;have q5:=hcell w1 (Yg _ _) 5;have Bi:=Hd Av;clear hcell Aa Av Ag HF;go_wp2_with fail;go_loopw [3,9] (fun s i wr=>∃k:Nat,k<=len/\i=.int .i64 k/\s=.int .i64 ((gP (x.subs.take k):Nat):Int)/\Below w1.heap.size w1 wr) (fun _ i _=>len-(intOf i).toNat)
 case atStart=>exact⟨0,Yq _,rfl,by simp[gP],Yg _ _⟩
 case round=>
  obtain⟨k,hk,rfl,rfl,Cb⟩:=hrel;have Bo:=Hd Cb;by_cases Ah:k<len
  . obtain⟨b,off,rfl,hb,Ca⟩:=(Bi.o.below Cb).sub (i:=k) aA;obtain⟨A',Nw,B',Nt,Nv,Ap⟩:=Ca k aA;obtain⟨c0,c1,c2,c3,c4,c5⟩:=dT Nv;have Gi:=Hd fun w3 h=>Bt.o (aM x k) A' Nw B' Nt wr w3 h Ap;have Kc:=Hd (Nx.o k aA);clear Ca Cb Nv Ap;have hss:=Bx.o k aA;go_upto_region 5 with(fail);generalize Cr:wr.alloc _=w3;obtain⟨Ak,Ob,Nu,Aq⟩:=Gi.o w3 Cr;obtain⟨d0,d1,d2,d3,d4,d5⟩:=Sx (Aq w3 (Yg _ _));have Bz:=Hd (Jx.o k aA A' Nw B' Nt w3 Nu aA);have Ax:=Hd (Bo.o.tr Ak);clear Aq Ak Nu Cr Gi;go_wp2_with fail;refine Bz.o.mono ?_;rintro r w2 ⟨rfl,Ad⟩;have Aj:=Hd (Ax.o.tr Ad);exact aMh
  . have Oa:k=len:=by omega
    subst Oa;have HE:=Hd (Bp ▸ Nz.o:x.subs.take k=x.subs);rw[HE.o];generalize gP x.subs=d at *;go_wp2_with fail;go_ret;refine⟨?_,Ac.o.tr Bo.o⟩;rw[Ny.o,Nat.add_comm];rfl
def jO(n:Int):Bool:=(n==0) || (n==1)
theorem bG8(n:Int)(w:World):Calls Tryz.prog 189 #[.int .i64 n] w fun e w'=>e=.returned (.bool (jO n))/\w=w':=by
 have HS:=Hd (show jO n=((n==0) || (n==1))from rfl);generalize jO n=Bu at *;cases h0:(n==0)<;>cases h1:(n==1)
 all_goals (
  rw[h0,h1]at HS;go_in
  go_wp2_with fail;go_ret;exact⟨aL HS.o.symm,rfl⟩)
theorem bG9(s:ByteArray)(w:World)(hs:s.size<=9223372036854775807):Calls Tryz.prog 196 #[.string s] w fun e w'=>e=.returned (.bool (eE s))/\Below w.heap.size w w':=by
 have HS:=Hd (show eE s=(eU s.data.toList || (s.toList==[116,114,117,101]) || (s.toList==[102,97,108,115,101]))from rfl);have HH:=Hd (vL s w hs);generalize eE s=Bu at *;generalize eU s.data.toList=bh at *;cases bh<;>cases ht:(s.toList==[116,114,117,101])<;>cases hf:(s.toList==[102,97,108,115,101])
 all_goals (
  rw[ht,hf]at HS;go_in
  go_wp2_with fail;refine HH.o.mono ?_;rintro r w2 ⟨rfl,hb⟩;go_wp2_with fail;go_ret;exact⟨aL HS.o.symm,hb⟩)
def mQ(l:List ByteArray)(m:Int):Bool:=decide (1<=l.length) && decide ((l.length:Int)<=m) && l.all eE && cH l
theorem aLr(A:Option Addr)(n c:Nat)(m:Int)(l:List ByteArray)(w:World)(hr:aP w A n l)(hz:∀t∈l,t.size<=9223372036854775807)(hm:n<=100):
 Calls Tryz.prog 191 #[.slice A n c,.int .i64 m] w fun e w'=>e=.returned (.bool (mQ l m))/\Below w.heap.size w w':=by
 have HS:=Hd (show mQ l m=(decide (1<=l.length) && decide ((l.length:Int)<=m) && l.all eE && cH l)from rfl);have Aq:=hr.len;have Cq:=Hd hr;have Ch:=Hd fun i (hi:i<l.length)(h:eE (l[i]?.getD ByteArray.empty)=false)=>nG (f:=eE) hi h;have Gx:=Hd fun k (hk:k<l.length) h (hx:eE (l[k]?.getD ByteArray.empty)=true)=>qP (f:=eE) hk h hx;have Jt:=Hd fun k h (hk:l.length<=k)=>qS (l:=l) (f:=eE) (k:=k) h hk;have HZ:=Hd fun i (hi:i<l.length)=>hz (l[i]?.getD ByteArray.empty) aE4;have Cc:=Hd fun w1 (h:Below w.heap.size w w1)=>tI A n c l w1 (hr.below h) hz hm;clear hr hz;rw[Aq]at HS Ch Gx Jt HZ;clear Aq;generalize mQ l m=Bu at *;by_cases h1:1<=n
 . by_cases h2:(n:Int)<=m
   . have d1:decide ((n:Int)<1)=false:=Zz aA;have d2:decide (m<(n:Int))=false:=Zz aA;have Jx:=Hd (show Bu=(l.all eE && cH l)by rw[HS.o];simp[h1,h2]);go_in
     go_wp2_with fail;go_loopw [18] (fun i wr=>∃j:Nat,j<=n/\i=.int .i64 j/\(l.take j).all eE=true/\Below w.heap.size w wr) (fun i _=>n-(intOf i).toNat)
     case atStart=>exact⟨0,Yq _,rfl,by simp,Yg _ _⟩
     case round=>
      obtain⟨j,hj,rfl,Bh,Cb⟩:=hrel;have HA:=Hd Bh;have Bo:=Hd Cb;clear Bh;by_cases Ah:j<n
      . obtain⟨b,off,rfl,hb,Ca⟩:=(Cq.o.below Cb).at_ Ah;have c0:=Ca j Ah;have Bp:=Hd (Ch.o j aA);have Bx:=Hd (Gx.o j aA HA.o);have Nt:=HZ.o j aA;clear Ca Cb;generalize l[j]?.getD ByteArray.empty=t at *;have HT:=Hd (bG9 t wr Nt);clear Nt;cases ht:eE t with
        |false=>
         rw[ht]at HT;have Ke:=Hd (Bp.o ht);have HN:=Hd (show Bu=false by rw[Jx.o,Ke.o];rfl);go_wp2_with fail;refine HT.o.mono ?_;exact aNm
        |true=>
         rw[ht]at HT;have Ke:=Hd (Bx.o ht);go_wp2_with fail;refine HT.o.mono ?_;rintro r w2 ⟨rfl,Ad⟩;have Aj:=Hd (Bo.o.tr Ad);clear Ad;go_wp2_with fail;go_roundw;case rel=>exact⟨j+1,by omega,by go_num,Ke.o,Aj.o⟩
         case measure=>simp[intOf];omega
      . have HE:=Jt.o j HA.o aA;have HN:=Hd (show Bu=cH l by rw[Jx.o,HE];rfl);have Fk:=Hd (Cc.o wr Bo.o);clear HE Ch Gx Jt HA Cb;go_wp2_with fail;refine Fk.o.mono ?_;exact aNm
   . have d1:decide ((n:Int)<1)=false:=Zz aA;have d2:decide (m<(n:Int))=true:=Zy aA;have HN:=Hd (show Bu=false by rw[HS.o];simp[h2]);exact aOg
 . have d1:decide ((n:Int)<1)=true:=Zy aA;have HN:=Hd (show Bu=false by rw[HS.o];simp[h1]);exact aOg
def mD(k n:Int)(s:ByteArray)(op:Int)(arms:List ByteArray):Ex:=.mk k n s op arms []
def gY(x:Ex)(n:Int)(s:ByteArray)(op:Int)(arms:List ByteArray)(h:Bool)(lo hi:Int):Bool:=
 h && rK x (mD x.k n s op arms) && decide (lo<=(x.subs.length:Int)) && decide ((x.subs.length:Int)<=hi)
theorem sU(l:List ByteArray):eK l []=(l.length==0):=by
 cases l<;>simp[eK]
theorem sP(l:List ByteArray):eK l l=true:=by simp[eK]
theorem sM:(ByteArray.empty).toList=[]:=by
 rw[Zc];rfl
theorem qY{l:List ByteArray}(h:l.length=1):cH l=true:=by
 match l,h with
 |[a],_=>simp[cH,vW]
theorem rM(x:Ex)(n:Int)(s:ByteArray)(op:Int)(arms:List ByteArray)(h:Bool)(lo hi:Int):
 gY x n s op arms h lo hi=(h && ((x.n==n) && (x.s.toList==s.toList) && (x.op==op) && eK x.arms arms) && decide (lo<=(x.subs.length:Int)) && decide ((x.subs.length:Int)<=hi)):=by
 simp[gY,rK,mD,Ex.k,Ex.n,Ex.s,Ex.op,Ex.arms,Bool.and_assoc]
theorem rE{l:List ByteArray}(h:l.length=0):l.all eE=true:=by
 cases l<;>simp at h⊢
theorem bHa(x:Ex)(hk:x.k=1):gY x x.n ByteArray.empty 0 [] (decide (0<=x.n)) 0 0=bO x:=by
 exact oB
theorem bHb(x:Ex)(hk:x.k=2):gY x x.n ByteArray.empty 0 [] (jO x.n) 0 0=bO x:=by
 exact oB
theorem bHc(x:Ex)(hk:x.k=3):gY x 0 x.s 0 [] (bE x.s.data.toList) 0 0=bO x:=by
 have h0:=@rE x.arms;have h1:=@qY x.arms;exact aQx
theorem bHd(x:Ex)(hk:x.k=4):gY x 0 x.s 0 [] (eU x.s.data.toList) 0 0=bO x:=by
 have h0:=@rE x.arms;have h1:=@qY x.arms;rw[rM];simp only[bO,kK,lS,iP,eV,hk,sU,sP,sM,jO,mQ];generalize x.arms.all eE=ba at *;generalize eU x.s.data.toList=b2 at *;generalize x.arms.length=la at *;generalize x.subs.length=ls at *;generalize x.n=n at *;generalize x.op=op at *;cases ba<;>cases b2
 all_goals (try simp at h0)
 all_goals (try simp at h1)
 all_goals (try rw[Zn])
 all_goals (try simp)
 all_goals (try omega)
theorem bF1(x:Ex)(hk:x.k=17):gY x 0 x.s 0 [] (fH x.s.data.toList) 0 0=bO x:=by
 have h0:=@rE x.arms;have h1:=@qY x.arms;rw[rM];simp only[bO,kK,lS,iP,eV,hk,sU,sP,sM,jO,mQ];generalize x.arms.all eE=ba at *;generalize fH x.s.data.toList=b3 at *;generalize x.arms.length=la at *;generalize x.subs.length=ls at *;generalize x.n=n at *;generalize x.op=op at *;cases ba<;>cases b3
 all_goals (try simp at h0)
 all_goals (try simp at h1)
 all_goals (try rw[Zn])
 all_goals (try simp)
 all_goals (try omega)
theorem aO3(x:Ex)(hk:x.k=5):gY x 0 ByteArray.empty x.op [] (decide (1<=x.op) && decide (x.op<=2)) 1 1=bO x:=by
 exact oB
theorem aO4(x:Ex)(hk:x.k=6):gY x 0 ByteArray.empty x.op [] (decide (3<=x.op) && decide (x.op<=16)) 2 2=bO x:=by
 exact oB
theorem bHe(x:Ex)(hk:x.k=7):gY x 0 ByteArray.empty 0 [] true 3 3=bO x:=by
 exact oB
theorem bF2(x:Ex)(hk:x.k=16):gY x 0 ByteArray.empty 0 [] true 3 3=bO x:=by
 exact oB
theorem bHf(x:Ex)(hk:x.k=9):gY x 0 ByteArray.empty 0 [] true 2 2=bO x:=by
 exact oB
theorem bF3(x:Ex)(hk:x.k=15):gY x 0 ByteArray.empty 0 [] true 2 2=bO x:=by
 exact oB
theorem bF4(x:Ex)(hk:x.k=10):gY x 0 ByteArray.empty 0 [] true 1 1=bO x:=by
 exact oB
theorem bF5(x:Ex)(hk:x.k=14):gY x 0 ByteArray.empty 0 [] true 1 8=bO x:=by
 exact oB
theorem aO5(x:Ex)(hk:x.k=8):gY x 0 ByteArray.empty 0 [] (decide (0<(x.subs.length:Int)) && dQ (aM x 0)) 2 2=bO x:=by
 have h0:=@rE x.arms;have h1:=@qY x.arms;rw[rM];simp only[bO,kK,lS,iP,eV,hk,sU,sP,sM,jO,mQ];generalize x.arms.all eE=ba at *;generalize (x.s.toList==([]:List UInt8))=be at *;generalize dQ (aM x 0)=bc at *;generalize x.arms.length=la at *;generalize x.subs.length=ls at *;generalize x.n=n at *;generalize x.op=op at *;cases ba<;>cases be<;>cases bc
 all_goals (try simp at h0)
 all_goals (try simp at h1)
 all_goals (try rw[Zn])
 all_goals (try simp)
 all_goals (try omega)
theorem aLs(x:Ex)(hk:x.k=11):gY x 0 x.s 0 x.arms (bE x.s.data.toList && mQ x.arms 1) 1 1=bO x:=by
 exact aQo
theorem aLt(x:Ex)(hk:x.k=12):gY x 0 x.s 0 x.arms (bE x.s.data.toList && mQ x.arms 6) x.arms.length x.arms.length=bO x:=by
 exact aQo
theorem aLu(x:Ex)(hi:Int)(hk:x.k=13)(hh:jO x.n=true->hi=6+x.n):gY x x.n x.s 0 [] (bE x.s.data.toList && jO x.n) x.n hi=bO x:=by
 have h0:=@rE x.arms;have h1:=@qY x.arms;unfold jO at hh;simp only[Bool.or_eq_true,beq_iff_eq]at hh;exact aQx
theorem bF6(x:Ex)(n:Int)(s:ByteArray)(op:Int)(arms:List ByteArray)(lo hi:Int)(hk:x.k<1\/17<x.k):gY x n s op arms false lo hi=bO x:=by
 rw[rM]
 have:(decide (1<=x.k) && decide (x.k<=17))=false:=by
  rcases hk with h|h;· rw[Zz aA,Bool.false_and]
  . rw[Zz (p:=x.k<=17) aA,Bool.and_false]
 simp only[bO,this,Bool.false_and]
end
section
open Go.RowKit
abbrev T3:=Int × Int × Int
def aS(d:Dc):T3:=(d.k,d.e,d.l)
def gZ(o:Option Dc):T3:=(o.map aS).getD (0,0,0)
def nV(o:Option (Int × Int × Int)):T3:=(o.map fun r=>((r.1,r.2.1,0):T3)).getD (0,0,0)
def pI(o:Option Int):Option T3:=o.map fun k=>(k,0,0)
def dU(es:List En)(x:Ex):Option (T3 × Int):=
 if(x.k==1)=true then some ((1,0,0),x.n)
 else if(x.k==2)=true then some ((2,0,0),x.n)
 else if(x.k==5)=true then some ((1,0,0),wrap64 (-(aM x 0).n))
 else(bP es x.s).map fun r=>((r.1,r.2.1,0),r.2.2)
def iD(es:List En)(l:List Ex):Nat->Option (List Int × T3)
 |0=>some ([],(0,0,0))
 |k+1=>match iD es l k with
  |none=>none
  |some r=>match dU es (l[k]?.getD default)with
   |none=>none
   |some t=>if 0<k/\¬t.1=r.2 then none else some (r.1++[t.2],t.1)
def eG(es:List En)(x:Ex):Option (List Int × T3):=
 if(bH x && dQ x)=false then none
 else if(x.k==14)=true then(iD es x.subs x.subs.length).map fun r=>(r.1,(r.2.1,r.2.2.1,(x.subs.length:Int)))
 else(dU es x).map fun r=>([r.2],r.1)
def fV(t:T3):Bool:=decide (t=(2,0,0))
def lU(t:T3):Bool:=decide (t=(1,0,0))
def kU(t:T3):T3:=(t.1,t.2.1,0)
def aD(l:List T3)(i:Nat):T3:=l[i]?.getD (0,0,0)
def eA(l:List T3):Bool:=l.all fun t=>decide (t=aD l 0)
def kQ(es:List En)(t:T3)(arms:List ByteArray):Bool:=
 if fV t=true then decide (arms.length=2) && (((arms[0]?.getD ByteArray.empty).toList==[116,114,117,101]) && ((arms[1]?.getD ByteArray.empty).toList==[102,97,108,115,101]))
 else decide (t.1=3) && (decide (t.2.2=0) && eK arms (cM es t.2.1.toNat))
def fS(p:Pg)(x:Ex)(ts:List T3):Option Nat:=
 if cY p x.s<0 then none
 else if ¬((ts.length:Int)-x.n=((aB p (cY p x.s).toNat).ins.length:Int))then none
 else if(x.n==1 && !fV (aD ts (ts.length-1)))=true then none
 else if(List.range (aB p (cY p x.s).toNat).ins.length).all (fun k=>decide (aS ((aB p (cY p x.s).toNat).ins[k]?.getD default)=aD ts k))=true then some (cY p x.s).toNat else none
def jK(p:Pg)(i:Nat)(x:Ex)(ts:List T3):Option T3:=
 if(x.k==9)=true then(if aD ts 0=aD ts 1 then some (aD ts 0)else none)
 else if(x.k==10)=true then some (aD ts 0)
 else if(x.k==11)=true then
  match aZ (aB p i) x.s with
  |none=>none
  |some d=>match bP p.es (x.arms[0]?.getD ByteArray.empty)with
   |none=>none
   |some r=>if((r.1,r.2.1,0):T3)=aS d then some (aD ts 0)else none
 else if(x.k==12)=true then
  match aZ (aB p i) x.s with
  |none=>none
  |some d=>if(eA ts && kQ p.es (aS d) x.arms)=true then some (aD ts 0)else none
 else match fS p x ts with
  |none=>none
  |some j=>if(aB p j).outs.length=1 then some (aS ((aB p j).outs[0]?.getD default))else none
def mK(x:Ex)(ts:List T3):Option T3:=
 if(x.k==5)=true then pI (dE x.op (aD ts 0).1 (aD ts 0).2.1 (aD ts 0).2.2)
 else if(x.k==6)=true then pI (iT x.op (bB 1 (aD ts 0).1 (aD ts 0).2.1 (aD ts 0).2.2 && bB 1 (aD ts 1).1 (aD ts 1).2.1 (aD ts 1).2.2)
  (bB 2 (aD ts 0).1 (aD ts 0).2.1 (aD ts 0).2.2 && bB 2 (aD ts 1).1 (aD ts 1).2.1 (aD ts 1).2.2) (fR (aD ts 0).1 (aD ts 0).2.1 (aD ts 0).2.2 (aD ts 1).1 (aD ts 1).2.1 (aD ts 1).2.2))
 else if(x.k==7)=true then(if(fV (aD ts 0) && decide (aD ts 1=aD ts 2))=true then some (aD ts 1)else none)
 else if(x.k==14)=true then(if(eA ts && decide ((aD ts 0).2.2=0))=true then some ((aD ts 0).1,(aD ts 0).2.1,(ts.length:Int))else none)
 else if(x.k==15)=true then(if(decide (0<(aD ts 0).2.2) && lU (aD ts 1))=true then some (kU (aD ts 0))else none)
 else if(decide (0<(aD ts 0).2.2) && (lU (aD ts 1) && decide (aD ts 2=kU (aD ts 0))))=true then some (aD ts 0)else none
def bV{α:Type}:List (Option α)->Option (List α)
 |[]=>some []
 |none::_=>none
 |some a::l=>(bV l).map (a::·)
def jQ(p:Pg)(i:Nat)(x:Ex)(l:List (Option T3)):Option T3:=
 if(x.k==1 || x.k==2 || x.k==4)=true then(eG p.es x).map (·.2)
 else if(x.k==3)=true then(aZ (aB p i) x.s).map aS
 else if(x.k==8)=true then
  match eG p.es (aM x 0)with
  |none=>none
  |some c=>match l[1]?.getD none with
   |none=>none
   |some u=>if c.2=u then some u else none
 else if(x.k==17)=true then none
 else match bV l with
  |none=>none
  |some ts=>if(decide (9<=x.k) && decide (x.k<=13))=true then jK p i x ts else mK x ts
mutual
def cZ(p:Pg)(i:Nat):Ex->Option T3
 |.mk k n s op arms Aq=>jQ p i (.mk k n s op arms Aq) (wR p i Aq)
def wR(p:Pg)(i:Nat):List Ex->List (Option T3)
 |[]=>[]
 |x::l=>cZ p i x::wR p i l
end
theorem aKq(p:Pg)(i:Nat):∀l,wR p i l=l.map (cZ p i)
 |[]=>by simp only[wR,List.map_nil]
 |x::l=>by simp only[wR,Xh,aKq p i l]
theorem lP(p:Pg)(i:Nat)(x:Ex):cZ p i x=jQ p i x (x.subs.map (cZ p i)):=by
 cases x;simp only[cZ,aKq,Ex.subs]
def fW(p:Pg)(i:Nat)(x:Ex):Option (List T3):=
 if(x.k==13)=true then
  match bV (x.subs.map (cZ p i))with
  |none=>none
  |some ts=>(fS p x ts).map fun j=>(aB p j).outs.map aS
 else(cZ p i x).map fun t=>[t]
def jB(p:Pg)(i:Nat)(q:Qn):Bool:=
 match fW p i q.x with
 |none=>false
 |some w=>decide (w.length=q.ns.length) && (List.range w.length).all fun k=>decide (gZ (aZ (aB p i) (q.ns[k]?.getD ByteArray.empty))=aD w k)
def jR(p:Pg)(i:Nat)(d:Dc):Bool:=(d.on.toList==[]) || decide (gZ (aZ (aB p i) d.on)=nV (bP p.es d.ct))
def jP(p:Pg)(i j:Nat):Fl:=if jB p i ((aB p i).eqs[j]?.getD default)=true then(0,0,0)else((i:Int),(j:Int),7)
def fG(p:Pg)(i:Nat):Fl:=
 if(aB p i).all.all (jR p i)=false then((i:Int),-1,7)else dY ((0,0,0):Fl) (jP p i) (aB p i).eqs.length
def dS(p:Pg):Fl:=if dR p=(0,0,0)then dY ((0,0,0):Fl) (fG p) p.ns.length else dR p
theorem rF{α:Type}:∀{l:List (Option α)}{ts:List α},bV l=some ts->ts.length=l.length
 |[],ts,h=>by injection h with h;subst h;rfl
 |none::l,ts,h=>by cases h
 |some a::l,ts,h=>by
  simp only[bV,Option.map_eq_some_iff]at h;obtain⟨t,h1,rfl⟩:=h;simp[rF h1]
theorem aB6{α:Type}[Inhabited α]:∀{l:List (Option α)}{ts:List α}{k:Nat},k<l.length->bV (l.take k)=some ts->∀{a:α},l[k]?.getD none=some a->bV (l.take (k+1))=some (ts++[a])
 |[],ts,k,hk,_,_,_=>by simp at hk
 |o::l,ts,0,_,h,a,ha=>by
  simp only[List.take_zero,bV]at h;injection h with h;subst h;have ha:o=some a:=by simpa using ha
  subst ha;simp[bV]
 |none::l,ts,k+1,_,h,a,ha=>by simp[bV]at h
 |some b::l,ts,k+1,hk,h,a,ha=>by
  simp only[List.take_succ_cons,bV,Option.map_eq_some_iff]at h;obtain⟨t,h1,rfl⟩:=h
  have:=aB6 (l:=l) kT h1 (a:=a) (by simpa using ha)
  rw[List.take_succ_cons];simp only[bV];rw[this];simp
theorem xQ{α:Type}:∀{l:List (Option α)}{k:Nat},k<l.length->l[k]?.getD none=none->bV l=none
 |[],k,hk,_=>by simp at hk
 |none::l,0,_,_=>rfl
 |some b::l,0,_,h=>by simp at h
 |none::l,k+1,_,_=>rfl
 |some b::l,k+1,hk,h=>by
  have:=xQ (l:=l) (k:=k) kT iI
  simp only[bV,this,Option.map_none]
end
section
set_option maxRecDepth 100000
open Go.RowKit Go.ChangeShapes Go.WideShapes Go.Deep
theorem aZo:Tryz.prog.cellsOf 66=2:=aC
theorem aZp:Tryz.prog.cellsOf 41=3:=aC
theorem aZq:Tryz.prog.cellsOf 3=1:=aC
theorem aZr:Tryz.prog.cellsOf 9=1:=aC
theorem aWm:Tryz.prog.cellsOf 49=1:=aC
section
variable {H:Type}{enc:TypeId × Value->H}{w:World}{base:Nat}{spare:Nat->Bool}{held:Bool}
theorem aWn{Aq:Nat}{v:Value}{x:DataW H × List MemPlace}(h:DataW.trod enc Tryz.prog w base spare held Aq 49 [v]=some x):∃A n c ss,v=.slice A n c/\aP w A n ss:=by
 rcases Go.ChangeShapes.open_strings Tryz.underlying49 Tryz.underlying9 aC h with⟨hcs,_⟩|⟨x,l,c,ss,hcs,_,hl,hm,hss,_,hcell,hz⟩
 . simp at hcs;subst hcs;exact⟨none,0,0,[],rfl,aP.nil_ _⟩
 . simp at hcs;subst hcs;have Bp:l<=ss.length:=aFb;exact⟨some x,l,c,ss.take l,rfl,aCz Bp aE9 hcell⟩
theorem bC7{Aq:Nat}{cs:List Value}{x:DataW H × List MemPlace}(h:DataW.trod enc Tryz.prog w base spare held Aq 66 cs=some x)(hl:cs.length=2):
 ∃e:En,∃A n c,cs=[.string e.1,.slice A n c]/\aP w A n e.2:=by
 obtain⟨ys,m,_,_,_,hy,hf⟩:=DataW.trod_struct Tryz.underlying66 h
 match cs,hl with
 |[v0,v1],_=>
  match ys,hy with
  |[y0,y1],_=>
   have t0:=hf 0 _ rfl;have t1:=hf 1 _ rfl;simp[aZr,aWm]at t0 t1;obtain⟨s,e0,_,_⟩:=DataW.trod_string Tryz.underlying9 t0;obtain⟨A,n,c,ss,rfl,hr⟩:=aWn t1;injection e0 with e0;subst e0;exact⟨(s,ss),A,n,c,rfl,hr⟩
theorem aUl{Nt:Nat}{A:Option Addr}{n c:Nat}{x:DataW H × List MemPlace}(h:DataW.trod enc Tryz.prog w base spare held Nt 22 [.slice A n c]=some x):∃es,bU w A n es:=by
 rcases open_slice Tryz.underlying22 h with⟨hcs,_⟩|⟨a,len,cap,m,nn,D,Pl,hcs,_,hl,hm,hmm,_,hi⟩
 . simp at hcs;obtain⟨rfl,rfl,rfl⟩:=hcs;exact⟨[],bU.nil_ _⟩
 . simp at hcs;obtain⟨rfl,rfl,rfl⟩:=hcs;have Df:n<=m:=by rw[hmm];split<;>omega
   have Jx:∀i,i<n->∃e:En,w.cell? (a.add (i*2))=some (.string e.1)/\∃A' n' c',w.cell? (a.add (i*2+1))=some (.slice A' n' c')/\aP w A' n' e.2:=by
    intro i Nw;obtain⟨Nx,hc,ht⟩:=hi i aA;rw[aZo]at hc;obtain⟨_,Nv,Ca⟩:=World.cells?_some hc;obtain⟨e,A',n',c',e1,hp⟩:=bC7 ht Nv;have h0:=Ca (i:=0) aA;have h1:=Ca (i:=1) aA;rw[e1]at h0 h1;rw[Go.Deep.add_add]at h0 h1;exact⟨e,by simpa using h0,A',n',c',by simpa using h1,hp⟩
   obtain⟨f,hf⟩:=choose_lt (α:=En) Jx;have Nu:∀i,i<n->((List.range n).map f)[i]?.getD (ByteArray.empty,[])=f i:=fun i hi=>by simp[List.getElem?_map,List.getElem?_range hi]
   refine⟨(List.range n).map f,by simp,by unfold maxLen at hm;omega,fun hn=>?_⟩;obtain⟨b,off,Bx⟩:=a;have h0:=(hf 0 hn).1;have Aq:Bx=none:=aPq;subst Aq;have Bp:∀i,(⟨b,off,none⟩:Addr).add i=⟨b,off+i,none⟩:=fun i=>by unfold Addr.add;split<;>simp_all
   refine⟨b,off,rfl,Yi w _ ((Bp 0) ▸ h0),fun i hi=>?_⟩;obtain⟨hc,A',n',c',h2,h3⟩:=hf i hi;rw[Bp]at hc h2;unfold fK cM;rw[Nu i hi];exact⟨hc,A',n',c',h2,h3⟩
theorem aZs{Aq:Nat}{cs:List Value}{x:DataW H × List MemPlace}(h:DataW.trod enc Tryz.prog w base spare held Aq 41 cs=some x)(hl:cs.length=3):
 ∃k e l:Int,cs=[.int .i64 k,.int .i64 e,.int .i64 l]:=by
 obtain⟨ys,m,_,_,_,hy,hf⟩:=DataW.trod_struct Tryz.underlying41 h
 match cs,hl with
 |[v0,v1,v2],_=>
  match ys,hy with
  |[y0,y1,y2],_=>
   have t0:=hf 0 _ rfl;have t1:=hf 1 _ rfl;have t2:=hf 2 _ rfl;simp[aZq]at t0 t1 t2;obtain⟨k,e0,_,_⟩:=DataW.trod_int Tryz.underlying3 t0;obtain⟨e,e1,_,_⟩:=DataW.trod_int Tryz.underlying3 t1;obtain⟨l,e2,_,_⟩:=DataW.trod_int Tryz.underlying3 t2;injection e0 with e0;injection e1 with e1;injection e2 with e2;subst e0 e1 e2;exact⟨k,e,l,rfl⟩
end
end
section
set_option maxRecDepth 100000
open Go.RowKit Go.ChangeShapes Go.WideShapes Go.Deep
theorem aZt:Tryz.prog.cellsOf 32=1:=aC
theorem aZu:Tryz.prog.cellsOf 34=1:=aC
theorem aZv:Tryz.prog.cellsOf 23=1:=aC
theorem aZw:Tryz.prog.cellsOf 22=1:=aC
theorem aZx:Tryz.prog.cellsOf 25=2:=aC
theorem aWo:Tryz.prog.cellsOf 52=6:=aC
section
variable {H:Type}{enc:TypeId × Value->H}{w:World}{base:Nat}{spare:Nat->Bool}{held:Bool}
theorem aCm{α:Type}[Inhabited α]{k:Nat}{T ST:TypeId}{At:World->Nat->Nat->α->Prop}(hu:Tryz.prog.underlying ST=some (.slice T))(Nv:Tryz.prog.cellsOf T=k)(hk:0<k)
 (h1:∀{w:World}{b o:Nat}{x:α},At w b o x->∃v,w.cell? ⟨b,o,none⟩=some v)
 (Jx:∀{Bp:Nat}{cs:List Value}{x:DataW H × List MemPlace},DataW.trod enc Tryz.prog w base spare held Bp T cs=some x->cs.length=k->∃e:α,∀b o,(∀j v,cs[j]?=some v->w.cell? ⟨b,o+j,none⟩=some v)->At w b o e)
 {Bp:Nat}{A:Option Addr}{n c:Nat}{x:DataW H × List MemPlace}(h:DataW.trod enc Tryz.prog w base spare held Bp ST [.slice A n c]=some x):∃l,aI k At w A n l:=by
 rcases open_slice hu h with⟨hcs,_⟩|⟨a,len,cap,m,nn,D,Pl,hcs,_,hl,hm,hmm,_,hi⟩
 . simp at hcs;obtain⟨rfl,rfl,rfl⟩:=hcs;exact⟨[],aI.nil_ _ _ _⟩
 . simp at hcs;obtain⟨rfl,rfl,rfl⟩:=hcs;have Df:n<=m:=by rw[hmm];split<;>omega
   have Ny:0<n->a.spot=none:=fun hn=>by
    obtain⟨Nx,hc,ht⟩:=hi 0 aA;rw[Nv]at hc;obtain⟨_,Nu,Ca⟩:=World.cells?_some hc;have h0:=Ca (i:=0) hk;rw[Yk aA]at h0;simpa[Addr.add]using World.cell?_spot h0
   have hf:∀i,i<n->∃e:α,∀b off,a=⟨b,off,none⟩->At w b (off+i*k) e:=by
    intro i Nz;obtain⟨Nx,hc,ht⟩:=hi i aA;rw[Nv]at hc;obtain⟨_,Nu,Ca⟩:=World.cells?_some hc;obtain⟨e,he⟩:=Jx ht Nu;refine⟨e,fun b off ea=>he b (off+i*k) fun j v hv=>?_⟩;have hj:j<k:=by
     rcases Nat.lt_or_ge j k with h|h;· exact h
     . rw[List.getElem?_eq_none aA]at hv;cases hv
    have h2:=Ca (i:=j) hj;rw[hv]at h2;have Bx:∀i,(⟨b,off,none⟩:Addr).add i=⟨b,off+i,none⟩:=fun i=>by unfold Addr.add;split<;>simp_all
    rw[Go.Deep.add_add,ea,Bx,<-Nat.add_assoc]at h2;exact h2
   obtain⟨f,hf⟩:=choose_lt (α:=α) hf;have Nt:∀i,i<n->((List.range n).map f)[i]?.getD default=f i:=fun i hi=>by simp[List.getElem?_map,List.getElem?_range hi]
   refine⟨(List.range n).map f,by simp,by unfold maxLen at hm;omega,fun hn=>?_⟩;obtain⟨b,off,Nw⟩:=a;have Aq:=Ny hn;simp only at Aq;subst Aq;have h0:=hf 0 hn b off rfl;obtain⟨v0,Jk⟩:=h1 h0;exact⟨b,off,rfl,Yi _ _ Jk,fun i hi=>by rw[Nt i hi];exact hf i hi b off rfl⟩
theorem bC8{Bp:Nat}{cs:List Value}{x:DataW H × List MemPlace}(h:DataW.trod enc Tryz.prog w base spare held Bp 43 cs=some x)(hl:cs.length=6):∃d:Dc,cs=fZ d:=by
 obtain⟨ys,m,_,_,_,hy,hf⟩:=DataW.trod_struct Tryz.underlying43 h
 match cs,hl with
 |[v0,v1,v2,v3,v4,v5],_=>
  match ys,hy with
  |[y0,y1,y2,y3],_=>
   have t0:=hf 0 _ rfl;have t1:=hf 1 _ rfl;have t2:=hf 2 _ rfl;have t3:=hf 3 _ rfl;simp[aC7,aZp]at t0 t1 t2 t3;obtain⟨s0,e0,_,_⟩:=DataW.trod_string Tryz.underlying9 t0;obtain⟨tk,te,tl,e1⟩:=aZs t1 rfl;obtain⟨s2,e2,_,_⟩:=DataW.trod_string Tryz.underlying9 t2;obtain⟨s3,e3,_,_⟩:=DataW.trod_string Tryz.underlying9 t3;injection e0 with e0;injection e1 with e1 Bx;injection Bx with Bx Aq;injection Aq with Aq;injection e2 with e2;injection e3 with e3;subst e0 e1 Bx Aq e2 e3;exact⟨⟨s0,tk,te,tl,s2,s3⟩,rfl⟩
theorem aBl{Aq:Nat}{v:Value}{x:DataW H × List MemPlace}(h:DataW.trod enc Tryz.prog w base spare held Aq 32 [v]=some x):∃A n c l,v=.slice A n c/\bZ w A n l:=by
 obtain⟨A,n,c,rfl⟩:∃A n c,v=.slice A n c:=by
  rcases open_slice Tryz.underlying32 h with⟨hcs,_⟩|⟨a,len,cap,m,nn,D,Pl,hcs,_⟩;· exact tS
  . exact tS
 obtain⟨l,hl⟩:=aCm (α:=Dc) (k:=6) (At:=wP) Tryz.underlying32 aY6 bS (fun h=>⟨_,h 0 _ rfl⟩) (fun ht hl=>by
  obtain⟨d,rfl⟩:=bC8 ht hl;exact⟨d,fun b o hc j v hv=>hc j v hv⟩) h
 exact⟨A,n,c,l,rfl,hl⟩
end
end
end Go.Proofs.YtkbpdoomhfkngaaGreat
