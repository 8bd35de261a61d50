/- A part of the proof. Conditions: each theorem's own. -/
import Derived.Test.YtkbpdoomhfkngaaGreatC03
namespace Go.Proofs.YtkbpdoomhfkngaaGreat
set_option linter.unusedVariables false
set_option linter.unusedSimpArgs false
set_option maxRecDepth 100000
set_option maxHeartbeats 40000000
section
open Go.RowKit Go.Sort Go.Shelf
theorem Ym:type_of% @World.cell?_of_block:=@World.cell?_of_block
theorem Zd:type_of% @List.length_nil:=@List.length_nil
theorem Ze:type_of% @List.nil_append:=@List.nil_append
end
section
open Go.RowKit Go.Sort
def eE(t:ByteArray):Bool:=eU t.data.toList || (t.toList==[116,114,117,101]) || (t.toList==[102,97,108,115,101])
def iP(x:Ex):Bool:=x.arms.all eE && (if x.k==11 then x.arms.length==1 else if x.k==12 then decide (1<=x.arms.length) && decide (x.arms.length<=6) && cH x.arms else x.arms.length==0)
def lS(x:Ex):Bool:=if x.k==3 || x.k==11 || x.k==12 || x.k==13 then bE x.s.data.toList else if x.k==4 then eU x.s.data.toList else if x.k==17 then fH x.s.data.toList else x.s.toList==[]
theorem bFr(s:ByteArray)(w:World)(hs:s.size<=9223372036854775807):Calls Tryz.prog 193 #[.string s] w fun e w'=>e=.returned (.bool (eE s))/\w=w':=by
 have HS:=Hd (show eE s=(eU s.data.toList || (s.toList==[116,114,117,101]) || (s.toList==[102,97,108,115,101]))from rfl);have HH:=Hd (vE s w hs);generalize eE s=Bu at *;generalize eU s.data.toList=bh at *;cases bh<;>cases ht:(s.toList==[116,114,117,101])<;>cases hf:(s.toList==[102,97,108,115,101])
 all_goals (
  rw[ht,hf]at HS;go_in
  go_wp2_with fail;refine HH.o.mono ?_;rintro r w2 ⟨rfl,rfl⟩;go_wp2_with fail;go_ret;exact⟨aL HS.o.symm,rfl⟩)
theorem aY2(x:Ex)(A:Option Addr)(ca:Nat)(B:Option Addr)(cb:Nat)(w:World)(hr:aH w x A B)(hs:x.s.size<=1000):
 Calls Tryz.prog 186 #[.agg (aE x A ca B cb)] w fun e w'=>e=.returned (.bool (lS x))/\Below w.heap.size w w':=by
 have HF:=Hd fun w1 h=>fB w x A ca B cb w1 h hr;have HS:=Hd (show lS x=if x.k==3 || x.k==11 || x.k==12 || x.k==13 then bE x.s.data.toList else if x.k==4 then eU x.s.data.toList else if x.k==17 then fH x.s.data.toList else x.s.toList==[]from rfl);clear hr;unfold aE at HF⊢;generalize lS x=Bu at *;generalize x.k=k at *;generalize x.s=s at *;by_cases h3:k=3
 . subst h3;exact aAz
 . have e3:(k==3)=false:=by simpa using h3
   by_cases Bx:k=11
   . subst Bx;exact aAz
   . have Jx:(k==11)=false:=by simpa using Bx
     by_cases Fo:k=12
     . subst Fo;exact aAz
     . have Nv:(k==12)=false:=by simpa using Fo
       by_cases Aq:k=13
       . subst Aq;exact aAz
       . have Nt:(k==13)=false:=by simpa using Aq
         by_cases h4:k=4
         . subst h4;have HN:=Hd (show Bu=eU s.data.toList by rw[HS.o];rfl);have HH:=Hd fun w=>vE s w aA;generalize eU s.data.toList=bh at *;go_in
           go_upto_region 1 with(fail);generalize Ag:w.alloc _=w1;obtain⟨Aa,hg,Av,hcell⟩:=HF.o w1 Ag;have Ac:=Hd Aa;have q0:=hcell w1 (Yg _ _) 0;have q2:=hcell w1 (Yg _ _) 2;clear hcell Aa Av Ag HF;go_wp2_with fail;refine(HH.o _).mono ?_;exact aOb
         . have e4:(k==4)=false:=by simpa using h4
           by_cases Bp:k=17
           . subst Bp;have HN:=Hd (show Bu=fH s.data.toList by rw[HS.o];rfl);have HH:=Hd fun w=>bCe s w hs;generalize fH s.data.toList=bh at *;go_in
             go_upto_region 1 with(fail);generalize Ag:w.alloc _=w1;obtain⟨Aa,hg,Av,hcell⟩:=HF.o w1 Ag;have Ac:=Hd Aa;have q0:=hcell w1 (Yg _ _) 0;have q2:=hcell w1 (Yg _ _) 2;clear hcell Aa Av Ag HF;go_wp2_with fail;refine(HH.o _).mono ?_;exact aNl
           . have Nu:(k==17)=false:=by simpa using Bp
             have HN:=Hd (show Bu=(s.toList==[])by rw[HS.o];simp only[e3,Jx,Nv,Nt,e4,Nu];rfl);cases he:(s.toList==[])<;>rw[he]at HN
             all_goals (
              go_in
              go_upto_region 1 with(fail);generalize Ag:w.alloc _=w1;obtain⟨Aa,hg,Av,hcell⟩:=HF.o w1 Ag;have Ac:=Hd Aa;have q0:=hcell w1 (Yg _ _) 0;have q2:=hcell w1 (Yg _ _) 2;clear hcell Aa Av Ag HF;go_wp2_with fail;go_ret;exact⟨aL HN.o.symm,Ac.o⟩)
theorem bCf(x:Ex)(A:Option Addr)(ca:Nat)(B:Option Addr)(cb:Nat)(w:World)(hr:aH w x A B)(hz:∀t∈x.arms,t.size<=9223372036854775807)(hm:x.arms.length<=100):
 Calls Tryz.prog 187 #[.agg (aE x A ca B cb)] w fun e w'=>e=.returned (.bool (iP x))/\Below w.heap.size w w':=by
 have HF:=Hd fun w1 h=>fB w x A ca B cb w1 h hr;have HS:=Hd (show iP x=(x.arms.all eE && (if x.k==11 then x.arms.length==1 else if x.k==12 then decide (1<=x.arms.length) && decide (x.arms.length<=6) && cH x.arms else x.arms.length==0))from rfl);have Cq:=Hd hr.arms;have Ch:=Hd fun i (hi:i<x.arms.length)(h:eE (x.arms[i]?.getD ByteArray.empty)=false)=>nG (f:=eE) hi h;have Gx:=Hd fun k (hk:k<x.arms.length) h (hx:eE (x.arms[k]?.getD ByteArray.empty)=true)=>qP (f:=eE) hk h hx;have Jt:=Hd fun k h (hk:x.arms.length<=k)=>qS (l:=x.arms) (f:=eE) (k:=k) h hk;have HZ:=Hd fun i (hi:i<x.arms.length)=>hz (x.arms[i]?.getD ByteArray.empty) aE4;have Cc:=Hd fun w1 (h:Below w.heap.size w w1)=>tD A x.arms.length ca x.arms w1 (hr.below h).arms hm;clear hr hz;unfold aE at HF⊢;generalize iP x=Bu at *;generalize x.k=k at *;generalize Nw:x.arms.length=n at *;have Da:=aC4 n;go_in
 go_upto_region 1 with(fail);generalize Ag:w.alloc _=w1;obtain⟨Aa,hg,Av,hcell⟩:=HF.o w1 Ag;have Ac:=Hd Aa;have q0:=hcell w1 (Yg _ _) 0;have q4:=hcell w1 (Yg _ _) 4;have Bi:=Hd (Cq.o.below Aa);have Fk:=Hd (Cc.o w1 Aa);clear hcell Aa Av Ag HF;go_wp2_with fail;go_loopw [3] (fun i wr=>∃j:Nat,j<=n/\i=.int .i64 j/\(x.arms.take j).all eE=true/\w1=wr) (fun i _=>n-(intOf i).toNat)
 case atStart=>exact⟨0,Yq _,rfl,by simp,rfl⟩
 case round=>
  obtain⟨j,hj,rfl,Bh,rfl⟩:=hrel;have HA:=Hd Bh;clear Bh;by_cases Ah:j<n
  . obtain⟨b,off,rfl,hb,Ca⟩:=Bi.o.at_ Ah;have c0:=Ca j Ah;have Aq:=Hd (Ch.o j aA);have Bp:=Hd (Gx.o j aA HA.o);have Jx:=HZ.o j aA;clear Ca;generalize x.arms[j]?.getD ByteArray.empty=t at *;have HT:=Hd (bFr t w1 Jx);clear Jx;cases ht:eE t with
    |false=>
     rw[ht]at HT;have Ke:=Hd (Aq.o ht);have HN:=Hd (show Bu=false by rw[HS.o,Ke.o];rfl);go_wp2_with fail;refine HT.o.mono ?_;exact aOb
    |true=>
     rw[ht]at HT;have Ke:=Hd (Bp.o ht);go_wp2_with fail;refine HT.o.mono ?_;rintro r w2 ⟨rfl,rfl⟩;go_wp2_with fail;go_roundw;case rel=>exact⟨j+1,by omega,by go_num,Ke.o,gW⟩
     case measure=>simp[intOf];omega
  . have HE:=Jt.o j HA.o aA;rw[HE]at HS;clear HE Ch Gx Jt HA;by_cases Bx:k=11
    . subst Bx;have HN:=Hd (show Bu=(n==1)by rw[HS.o];rfl);cases hn1:(n==1)<;>rw[hn1]at HN Da
      all_goals (
       go_wp2_with fail;go_ret;exact⟨aL HN.o.symm,Ac.o⟩)
    . have Nt:(k==11)=false:=by simpa using Bx
      by_cases Fo:k=12
      . subst Fo;by_cases h1:1<=n
        . by_cases h6:n<=6
          . have HN:=Hd (show Bu=cH x.arms by rw[HS.o];simp[h1,h6]);generalize cH x.arms=on at *;go_wp2_with fail;refine Fk.o.mono ?_;rintro r w2 ⟨rfl,m,rfl⟩;go_wp2_with fail;go_ret;exact⟨aL HN.o.symm,bG Ac.o _⟩
          . have HN:=Hd (show Bu=false by rw[HS.o];simp[h6]);exact zU
        . have HN:=Hd (show Bu=false by rw[HS.o];simp[h1]);exact zU
      . have Nv:(k==12)=false:=by simpa using Fo
        have HN:=Hd (show Bu=(n==0)by rw[HS.o];simp only[Nt,Nv];rfl);have Nu:((n:Int)==0)=(n==0):=aFa;cases hn1:(n==0)<;>rw[hn1]at HN Nu
        all_goals (
         go_wp2_with fail;go_ret;exact⟨aL HN.o.symm,Ac.o⟩)
def eV(x:Ex):Int × Int:=
 if x.k==5 || x.k==10 || x.k==11 then(1,1)else if x.k==6 || x.k==8 || x.k==9 || x.k==15 then(2,2)else if x.k==7 || x.k==16 then(3,3)
 else if x.k==12 then(x.arms.length,x.arms.length)else if x.k==13 then(x.n,6+x.n)else if x.k==14 then(1,8)else(0,0)
theorem bCg(x:Ex)(A:Option Addr)(ca:Nat)(B:Option Addr)(cb:Nat)(w:World)(hr:aH w x A B)(hn:x.k=13->x.n=0\/x.n=1):
 Calls Tryz.prog 188 #[.agg (aE x A ca B cb)] w fun e w'=>e=.returned (.tuple #[.int .i64 (eV x).1,.int .i64 (eV x).2])/\Below w.heap.size w w':=by
 have HF:=Hd fun w1 h=>fB w x A ca B cb w1 h hr;have HS:=Hd (show eV x=if x.k==5 || x.k==10 || x.k==11 then(1,1) else if x.k==6 || x.k==8 || x.k==9 || x.k==15 then(2,2) else if x.k==7 || x.k==16 then(3,3)
  else if x.k==12 then((x.arms.length:Int),(x.arms.length:Int))else if x.k==13 then(x.n,6+x.n)else if x.k==14 then(1,8)else(0,0)from rfl)
 have Oc:=hr.arms.max;clear hr;unfold aE at HF⊢;generalize eV x=Bu at *;generalize x.k=k at *;generalize x.n=n at *;generalize x.arms.length=m at *;by_cases h5:k=5
 . subst h5;exact aFp
 . have e5:(k==5)=false:=by simpa using h5
   by_cases Bp:k=10
   . subst Bp;exact aFp
   . have Nz:(k==10)=false:=by simpa using Bp
     by_cases Jx:k=11
     . subst Jx;exact aFp
     . have Nu:(k==11)=false:=by simpa using Jx
       by_cases h6:k=6
       . subst h6;exact aA1
       . have e6:(k==6)=false:=by simpa using h6
         by_cases h8:k=8
         . subst h8;exact aA1
         . have e8:(k==8)=false:=by simpa using h8
           by_cases h9:k=9
           . subst h9;exact aA1
           . have e9:(k==9)=false:=by simpa using h9
             by_cases Bx:k=15
             . subst Bx;exact aA1
             . have Nw:(k==15)=false:=by simpa using Bx
               by_cases h7:k=7
               . subst h7;exact aQ2
               . have e7:(k==7)=false:=by simpa using h7
                 by_cases Nt:k=16
                 . subst Nt;exact aQ2
                 . have Nx:(k==16)=false:=by simpa using Nt
                   by_cases Fo:k=12
                   . subst Fo;have HN:=Hd (show Bu=((m:Int),(m:Int))by rw[HS.o];rfl);go_in
                     go_upto_region 1 with(fail);generalize Ag:w.alloc _=w1;obtain⟨Aa,hg,Av,hcell⟩:=HF.o w1 Ag;have Ac:=Hd Aa;obtain⟨q0,q1,-,-,q4,-⟩:=Sx (hcell w1 (Yg _ _));clear hcell Aa Av Ag HF;go_wp2_with fail;go_quiet (fail);go_wp2_with fail;exact Zu (v:=.tuple #[.int .i64 (m),.int .i64 (m)]) sD rfl ⟨by rw[HN.o],bG Ac.o _⟩
                   . have Ob:(k==12)=false:=by simpa using Fo
                     by_cases Aq:k=13
                     . subst Aq;have Oa:=hn rfl;have h6:IntKind.i64.wrap (6+n)=6+n:=by rcases Oa with rfl|rfl<;>rfl
                       have HN:=Hd (show Bu=(n,6+n)by rw[HS.o];rfl);clear hn;go_in
                       go_upto_region 1 with(fail);generalize Ag:w.alloc _=w1;obtain⟨Aa,hg,Av,hcell⟩:=HF.o w1 Ag;have Ac:=Hd Aa;obtain⟨q0,q1,-,-,q4,-⟩:=Sx (hcell w1 (Yg _ _));clear hcell Aa Av Ag HF;go_wp2_with fail;go_quiet (fail);go_wp2_with fail;exact Zu (v:=.tuple #[.int .i64 (n),.int .i64 (6+n)]) sD rfl ⟨by rw[HN.o],bG Ac.o _⟩
                     . have Ny:(k==13)=false:=by simpa using Aq
                       by_cases Ja:k=14
                       . subst Ja;have HN:=Hd (show Bu=(1,8)by rw[HS.o];rfl);go_in
                         go_upto_region 1 with(fail);generalize Ag:w.alloc _=w1;obtain⟨Aa,hg,Av,hcell⟩:=HF.o w1 Ag;have Ac:=Hd Aa;obtain⟨q0,q1,-,-,q4,-⟩:=Sx (hcell w1 (Yg _ _));clear hcell Aa Av Ag HF;go_wp2_with fail;exact Zu (v:=.tuple #[.int .i64 (1),.int .i64 (8)]) sD rfl ⟨by rw[HN.o],Ac.o⟩
                       . have Nv:(k==14)=false:=by simpa using Ja
                         have HN:=Hd (show Bu=(0,0)by rw[HS.o];simp only[e5,Nz,Nu,e6,e8,e9,Nw,e7,Nx,Ob,Ny,Nv];rfl);go_in
                         go_upto_region 1 with(fail);generalize Ag:w.alloc _=w1;obtain⟨Aa,hg,Av,hcell⟩:=HF.o w1 Ag;have Ac:=Hd Aa;obtain⟨q0,q1,-,-,q4,-⟩:=Sx (hcell w1 (Yg _ _));clear hcell Aa Av Ag HF;go_wp2_with fail;exact Zu (v:=.tuple #[.int .i64 (0),.int .i64 (0)]) sD rfl ⟨by rw[HN.o],Ac.o⟩
def cX(p:Ex):Prop:=p.s.size<=1000/\(∀t∈p.arms,t.size<=9223372036854775807)/\p.arms.length<=100
theorem cX.of_few{p:Ex}(h:jL p=true):cX p:=by
 simp only[jL,Ys,Bool.not_eq_true',decide_eq_false_iff_not,Zg]at h;obtain⟨⟨h1,h2⟩,h3⟩:=h;refine⟨by omega,fun t ht=>?_,by omega⟩
 have:=h3 t ht
 simp only[pH,Bool.not_eq_true',decide_eq_false_iff_not]at this;omega
def bO(x:Ex):Bool:=decide (1<=x.k) && decide (x.k<=17) && kK x && lS x && iP x && decide ((eV x).1<=x.subs.length) && decide ((x.subs.length:Int)<=(eV x).2) && ((x.k !=8) || dQ (aM x 0))
def bH(x:Ex):Bool:=!decide (60<bD x) && !decide (12<iA x) && (bL x).all bO
theorem aGz{x:Ex}(h:kK x=true)(hk:x.k=13):x.n=0\/x.n=1:=by
 unfold kK at h;rw[hk]at h;simp at h;exact h.2
theorem zG{x:Ex}(hk:x.k=8):eV x=(2,2):=by
 unfold eV;rw[hk];rfl
theorem bCh(x:Ex)(A:Option Addr)(ca:Nat)(B:Option Addr)(cb:Nat)(w:World)(hr:aH w x A B)(Aq:cX x):
 Calls Tryz.prog 179 #[.agg (aE x A ca B cb)] w fun e w'=>e=.returned (.bool (bO x))/\Below w.heap.size w w':=by
 have HF:=Hd fun w1 h=>fB w x A ca B cb w1 h hr;have HS:=Hd (show bO x=(decide (1<=x.k) && decide (x.k<=17) && kK x && lS x && iP x && decide ((eV x).1<=x.subs.length) && decide ((x.subs.length:Int)<=(eV x).2) && ((x.k !=8) || dQ (aM x 0)))from rfl);have Md:=Hd fun w1 (h:Below w.heap.size w w1)=>aT0 x A ca B cb w1 (hr.below h);have Mo:=Hd fun w1 (h:Below w.heap.size w w1)=>aY2 x A ca B cb w1 (hr.below h) Aq.1;have Cq:=Hd fun w1 (h:Below w.heap.size w w1)=>bCf x A ca B cb w1 (hr.below h) Aq.2.1 Aq.2.2;have It:=Hd fun w1 (h:Below w.heap.size w w1)(hn:x.k=13->x.n=0\/x.n=1)=>bCg x A ca B cb w1 (hr.below h) hn;have Lj:=Hd (aGz (x:=x));have Nt:=Hd (zG (x:=x));have Oe:=hr.subs.max;clear hr Aq;unfold aE at HF Md Mo Cq It⊢;generalize bO x=Bu at *;generalize kK x=Oc at *;generalize lS x=Nu at *;generalize iP x=Ny at *;generalize Nz:eV x=su at *;obtain⟨lo,hi⟩:=su;clear Nz;simp only at HS It Nt;generalize x.k=k at *;generalize x.n=m at *;generalize Nv:x.subs.length=n at *;by_cases h1:k<1
 . have HN:=Hd (show Bu=false by rw[HS.o,Zz (show ¬1<=k by omega)];rfl);exact aRu
 by_cases Od:17<k
 . have HN:=Hd (show Bu=false by rw[HS.o,Zz (show ¬k<=17 by omega)];simp);exact aRu
 rw[Zy (show 1<=k by omega),Zy (show k<=17 by omega)]at HS;cases Oc with
 |false=>
  have HN:=Hd (show Bu=false by rw[HS.o];simp);go_in
  go_upto_region 1 with(fail);generalize Ag:w.alloc _=w1;obtain⟨Aa,hg,Av,hcell⟩:=HF.o w1 Ag;have Ac:=Hd Aa;have HC:=Hd hcell;have Ij:=Hd (Yg w1.heap.size w1);obtain⟨q0,q1,q2,q3,q4,q5⟩:=Sx (hcell w1 (Yg _ _));clear hcell Aa Av Ag HF;go_wp2_with fail;refine(Md.o w1 Ac.o).mono ?_;rintro r w2 ⟨rfl,hb⟩;have Aj:=Hd (Ac.o.tr hb);have Dh:=Hd (Ij.o.tr hb);clear hb q0 q1 q2 q3 q4 q5;obtain⟨q0,q1,q2,q3,q4,q5⟩:=Sx (HC.o w2 Dh.o);exact aOw
 |true=>
  cases Nu with
  |false=>
   have HN:=Hd (show Bu=false by rw[HS.o];simp);go_in
   go_upto_region 1 with(fail);generalize Ag:w.alloc _=w1;obtain⟨Aa,hg,Av,hcell⟩:=HF.o w1 Ag;have Ac:=Hd Aa;have HC:=Hd hcell;have Ij:=Hd (Yg w1.heap.size w1);obtain⟨q0,q1,q2,q3,q4,q5⟩:=Sx (hcell w1 (Yg _ _));clear hcell Aa Av Ag HF;go_wp2_with fail;refine(Md.o w1 Ac.o).mono ?_;rintro r w2 ⟨rfl,hb⟩;have Aj:=Hd (Ac.o.tr hb);have Dh:=Hd (Ij.o.tr hb);clear hb q0 q1 q2 q3 q4 q5;obtain⟨q0,q1,q2,q3,q4,q5⟩:=Sx (HC.o w2 Dh.o);go_wp2_with fail;refine(Mo.o w2 Aj.o).mono ?_;exact aL8
  |true=>
   cases Ny with
   |false=>
    have HN:=Hd (show Bu=false by rw[HS.o];simp);go_in
    go_upto_region 1 with(fail);generalize Ag:w.alloc _=w1;obtain⟨Aa,hg,Av,hcell⟩:=HF.o w1 Ag;have Ac:=Hd Aa;have HC:=Hd hcell;have Ij:=Hd (Yg w1.heap.size w1);obtain⟨q0,q1,q2,q3,q4,q5⟩:=Sx (hcell w1 (Yg _ _));clear hcell Aa Av Ag HF;go_wp2_with fail;refine(Md.o w1 Ac.o).mono ?_;rintro r w2 ⟨rfl,hb⟩;have Aj:=Hd (Ac.o.tr hb);have Dh:=Hd (Ij.o.tr hb);clear hb q0 q1 q2 q3 q4 q5;obtain⟨q0,q1,q2,q3,q4,q5⟩:=Sx (HC.o w2 Dh.o);go_wp2_with fail;refine(Mo.o w2 Aj.o).mono ?_;rintro r w3 ⟨rfl,hb⟩;have Ax:=Hd (Aj.o.tr hb);have Eo:=Hd (Dh.o.tr hb);clear hb q0 q1 q2 q3 q4 q5;obtain⟨q0,q1,q2,q3,q4,q5⟩:=Sx (HC.o w3 Eo.o);go_wp2_with fail;refine(Cq.o w3 Ax.o).mono ?_;rintro r w4 ⟨rfl,hb⟩;have Be:=Hd (Ax.o.tr hb);have Ev:=Hd (Eo.o.tr hb);clear hb q0 q1 q2 q3 q4 q5;obtain⟨q0,q1,q2,q3,q4,q5⟩:=Sx (HC.o w4 Ev.o);exact aOx
   |true=>
    by_cases Eh:(n:Int)<lo
    . have HN:=Hd (show Bu=false by rw[HS.o,Zz (show ¬lo<=(n:Int)by omega)];simp);exact aFl
    by_cases Hj:hi<(n:Int)
    . have HN:=Hd (show Bu=false by rw[HS.o,Zz (show ¬(n:Int)<=hi by omega)];simp);exact aFl
    rw[Zy (show lo<=(n:Int)by omega),Zy (show(n:Int)<=hi by omega)]at HS;by_cases h8:k=8
    . have Nw:=Nt.o h8;injection Nw with Bx Bp;subst Bx Bp h8;have HN:=Hd (show Bu=dQ (aM x 0)by rw[HS.o];simp);go_in
      go_upto_region 1 with(fail);generalize Ag:w.alloc _=w1;obtain⟨Aa,hg,Av,hcell⟩:=HF.o w1 Ag;have Ac:=Hd Aa;have HC:=Hd hcell;have Bi:=Hd Av;have Ij:=Hd (Yg w1.heap.size w1);obtain⟨q0,q1,q2,q3,q4,q5⟩:=Sx (hcell w1 (Yg _ _));clear hcell Aa Av Ag HF;go_wp2_with fail;refine(Md.o w1 Ac.o).mono ?_;rintro r w2 ⟨rfl,hb⟩;have Aj:=Hd (Ac.o.tr hb);have Dh:=Hd (Ij.o.tr hb);clear hb q0 q1 q2 q3 q4 q5;obtain⟨q0,q1,q2,q3,q4,q5⟩:=Sx (HC.o w2 Dh.o);go_wp2_with fail;refine(Mo.o w2 Aj.o).mono ?_;rintro r w3 ⟨rfl,hb⟩;have Ax:=Hd (Aj.o.tr hb);have Eo:=Hd (Dh.o.tr hb);clear hb q0 q1 q2 q3 q4 q5;obtain⟨q0,q1,q2,q3,q4,q5⟩:=Sx (HC.o w3 Eo.o);go_wp2_with fail;refine(Cq.o w3 Ax.o).mono ?_;rintro r w4 ⟨rfl,hb⟩;have Be:=Hd (Ax.o.tr hb);have Ev:=Hd (Eo.o.tr hb);clear hb q0 q1 q2 q3 q4 q5;obtain⟨q0,q1,q2,q3,q4,q5⟩:=Sx (HC.o w4 Ev.o);go_wp2_with fail;refine(It.o w4 Be.o (Lj.o gW)).mono ?_;rintro r w5 ⟨rfl,hb⟩;have Ck:=Hd (Be.o.tr hb);have Hq:=Hd (Ev.o.tr hb);clear hb q0 q1 q2 q3 q4 q5;obtain⟨q0,q1,q2,q3,q4,q5⟩:=Sx (HC.o w5 Hq.o);obtain⟨b,off,rfl,hb,Ca⟩:=(Bi.o.below Hq.o).sub (i:=0) aA;obtain⟨A',Ob,B',Nx,Jx,Ap⟩:=Ca 0 aA;rw[Nat.zero_mul,Nat.add_zero]at Jx;obtain⟨c0,c1,c2,c3,c4,c5⟩:=dT Jx;have Oa:=Hd (xX (aM x 0) A' Ob B' Nx w5 Ap);clear Ca Jx Ap;generalize dQ (aM x 0)=Of at *;go_wp2_with fail;refine Oa.o.mono ?_;rintro r w6 ⟨rfl,hb⟩;have Du:=Hd (Ck.o.tr hb);clear hb;go_wp2_with fail;go_ret;exact⟨aL HN.o.symm,Du.o⟩
    have e8:(k==8)=false:=by simpa using h8
    have n8:(k !=8)=true:=by rw[bne,e8];rfl
    have HN:=Hd (show Bu=true by rw[HS.o,n8];rfl);exact aFl
theorem xY(x:Ex)(A:Option Addr)(ca:Nat)(B:Option Addr)(cb:Nat)(w:World)(hr:aH w x A B)(hs:bD x<=1000000)(Nw:∀p∈bL x,cX p):
 Calls Tryz.prog 155 #[.agg (aE x A ca B cb)] w fun e w'=>e=.returned (.bool (bH x))/\Below w.heap.size w w':=by
 have HF:=Hd fun w1 h=>fB w x A ca B cb w1 h hr;have HS:=Hd (show bH x=(!decide (60<bD x) && !decide (12<iA x) && (bL x).all bO)from rfl);have Bx:=Hd fun w1 (h:Below w.heap.size w w1)=>bB9 x A ca B cb w1 (hr.below h) hs;have Jx:=Hd fun w1 (h:Below w.heap.size w w1)=>aYp x A ca B cb w1 (hr.below h) hs;have Nt:=Hd fun w1 (h:Below w.heap.size w w1)=>aCd x A ca B cb w w1 hr h hs;have Fa:=Hd (sN x);have Oa:=Hd fun i (hi:i<(bL x).length)=>Nw ((bL x)[i]?.getD default) aE4;have Oe:=uL x;have Of:=sW x;clear hr Nw;unfold aE at HF Bx Jx Nt⊢;generalize bH x=Bu at *;have Mc:Hid (∃l,l=bL x):=Hd ⟨_,rfl⟩;by_cases Nu:60<bD x
 . have HN:=Hd (show Bu=false by rw[HS.o];simp[Nu]);generalize bD x=n at *;go_in
   go_upto_region 1 with(fail);generalize Ag:w.alloc _=w1;obtain⟨Aa,hg,Av,hcell⟩:=HF.o w1 Ag;have Ac:=Hd Aa;obtain⟨q0,q1,q2,q3,q4,q5⟩:=Sx (hcell w1 (Yg _ _));clear hcell Aa Av Ag HF;go_wp2_with fail;refine(Bx.o w1 Ac.o).mono ?_;rintro r w2 ⟨rfl,hb⟩;have Aj:=Hd (Ac.o.tr hb);clear hb;exact aOw
 by_cases Fo:12<iA x
 . have HN:=Hd (show Bu=false by rw[HS.o];simp[Fo]);generalize bD x=n at *;generalize iA x=d at *;go_in
   go_upto_region 1 with(fail);generalize Ag:w.alloc _=w1;obtain⟨Aa,hg,Av,hcell⟩:=HF.o w1 Ag;have Ac:=Hd Aa;have HC:=Hd hcell;have Ij:=Hd (Yg w1.heap.size w1);obtain⟨q0,q1,q2,q3,q4,q5⟩:=Sx (hcell w1 (Yg _ _));clear hcell Aa Av Ag HF;go_wp2_with fail;refine(Bx.o w1 Ac.o).mono ?_;rintro r w2 ⟨rfl,hb⟩;have Aj:=Hd (Ac.o.tr hb);have Dh:=Hd (Ij.o.tr hb);clear hb q0 q1 q2 q3 q4 q5;obtain⟨q0,q1,q2,q3,q4,q5⟩:=Sx (HC.o w2 Dh.o);go_wp2_with fail;refine(Jx.o w2 Aj.o).mono ?_;exact aL8
 have Fu:=Hd (show Bu=(bL x).all bO by rw[HS.o];simp[Nu,Fo]);generalize iA x=d at *;go_in
 go_upto_region 1 with(fail);generalize Ag:w.alloc _=w1;obtain⟨Aa,hg,Av,hcell⟩:=HF.o w1 Ag;have Ac:=Hd Aa;have HC:=Hd hcell;have Ij:=Hd (Yg w1.heap.size w1);obtain⟨q0,q1,q2,q3,q4,q5⟩:=Sx (hcell w1 (Yg _ _));clear hcell Aa Av Ag HF;go_wp2_with fail;refine(Bx.o w1 Ac.o).mono ?_;rintro r w2 ⟨rfl,hb⟩;have Aj:=Hd (Ac.o.tr hb);have Dh:=Hd (Ij.o.tr hb);clear hb q0 q1 q2 q3 q4 q5;obtain⟨q0,q1,q2,q3,q4,q5⟩:=Sx (HC.o w2 Dh.o);go_wp2_with fail;refine(Jx.o w2 Aj.o).mono ?_;rintro r w3 ⟨rfl,hb⟩;have Ax:=Hd (Aj.o.tr hb);have Eo:=Hd (Dh.o.tr hb);clear hb q0 q1 q2 q3 q4 q5;obtain⟨q0,q1,q2,q3,q4,q5⟩:=Sx (HC.o w3 Eo.o);go_wp2_with fail;refine(Nt.o w3 Ax.o).mono ?_;rintro r w4 ⟨A2,c2,Og,rfl,Aq,Bp,hb,_⟩;have Be:=Hd (Ax.o.tr hb);have Nx:=Hd (Aq.rd Bp Be.o);clear Aq Bp hb q0 q1 q2 q3 q4 q5 Nt Bx Jx HS Mc;generalize bL x=l at *;generalize bD x=n at *;go_wp2_with fail;go_loopw [4] (fun i wr=>∃k:Nat,k<=n/\i=.int .i64 k/\(l.take k).all bO=true/\Below w4.heap.size w4 wr) (fun i _=>n-(intOf i).toNat)
 case atStart=>exact⟨0,Yq _,rfl,by simp,Yg _ _⟩
 case round=>
  obtain⟨k,hk,rfl,Bh,Cb⟩:=hrel;have HA:=Hd Bh;have Bo:=Hd Cb;clear Bh;by_cases Ah:k<n
  . obtain⟨b,off,rfl,hb,Ca⟩:=(Nx.o.below Cb).at_ Ah;obtain⟨A',Oc,B',Ny,Nv,Ap⟩:=Ca k Ah;obtain⟨c0,c1,Od,c3,c4,c5⟩:=dT Nv;have HK:=Hd (show k<l.length by rw[Fa.o];exact Ah);have Gn:=Hd (Oa.o k HK.o);have Nz:=Hd fun h=>nG (l:=l) (f:=bO) (i:=k) HK.o h;have Ob:=Hd fun h=>qP (l:=l) (f:=bO) (k:=k) HK.o HA.o h;clear Ca Nv Cb;generalize l[k]?.getD default=p at *;have HP:=Hd (bCh p A' Oc B' Ny wr Ap Gn.o);unfold aE at HP;clear Ap;cases hp:bO p with
    |false=>
     rw[hp]at HP;have HN:=Hd (show Bu=false by rw[Fu.o];exact Nz.o hp);go_wp2_with fail;refine HP.o.mono ?_;rintro r w5 ⟨rfl,Bv⟩;have Ck:=Hd (Bo.o.tr Bv);clear Bv;go_wp2_with fail;go_ret;exact⟨aL HN.o.symm,Be.o.tr Ck.o⟩
    |true=>
     rw[hp]at HP;have HN:=Hd (Ob.o hp);go_wp2_with fail;refine HP.o.mono ?_;rintro r w5 ⟨rfl,Bv⟩;have Ck:=Hd (Bo.o.tr Bv);clear Bv;go_wp2_with fail;go_roundw;case rel=>exact⟨k+1,by omega,by go_num,HN.o,Ck.o⟩
     case measure=>simp[intOf];omega
  . have HN:=Hd (show Bu=true by rw[Fu.o];exact qS HA.o (by rw[Fa.o];omega));go_wp2_with fail;go_ret;exact⟨aL HN.o.symm,Be.o.tr Bo.o⟩
end
section
open Go.RowKit Go.Shelf
attribute [local go_sem] Oper.semAt_some
theorem aSq{F:Fence}(hd:F.depth=none){m m':Nat}{P:Program}{l:Nat}{f:FuncId}{tmps:Array Value}{assign body:Code}{w:World}{R:Ending->World->Prop}
 (h:RoundIn F m P l f tmps assign body w R):RoundIn F m' P l f tmps assign body w R:=⟨h.1,fun c cs _=>h.2 c cs (fun d h=>by rw[hd]at h;cases h)⟩
theorem aSr{F:Fence}(hd:F.depth=none){m:Nat}(m':Nat){P:Program}{l:Nat}{args:Array Value}{W:World}{R:Ending->World->Prop}(h:YieldAt F m P l args W R):YieldAt F m' P l args W R:=by
 obtain⟨fn,tmps,assign,body,hy,hR⟩:=h;exact⟨fn,tmps,assign,body,hy,aSq hd hR⟩
theorem uJ{W W':World}(h:Below W.heap.size W W'):W.grownBy W' none:=⟨h.os,h.tape,h.output,h.size,fun i hi _=>h.block i hi⟩
structure Pt where
 x:Ex
 A:Option Addr
 ca:Nat
 B:Option Addr
 cb:Nat
def wO(p:Pt):Array Value:=#[.agg (aE p.x p.A p.ca p.B p.cb)]
abbrev iQ (w0:World)(e:Ex):={ p:Pt // aH w0 p.x p.A p.B/\p.x∈bL e }
def eR{w0:World}{e:Ex}(l:List (iQ w0 e)):List Ex:=l.map fun p=>p.1.x
theorem yQ{w0:World}{e:Ex}(a b:List (iQ w0 e)):eR (a++b)=eR a++eR b:=by simp[eR]
theorem aC5{w0:World}{e:Ex}(a:List (iQ w0 e)):(eR a).length=a.length:=by simp[eR]
def fQ(W W':World):Prop:=∀(k:Nat)(cs:Array Value)(h:Nat × Nat),W.heap[k]?=some (Obj.cells cs 52 h)->W'.heap[k]?=some (Obj.cells cs 52 h)
theorem fQ.refl(W:World):fQ W W:=fun _ _ _ h=>h
theorem fQ.trans{A B C:World}(h:fQ A B)(k:fQ B C):fQ A C:=fun i cs t e=>k i cs t (h i cs t e)
theorem aG0:∀{l:List Ex}{i:Nat}{q:Ex},i<l.length->q∈bL (l[i]?.getD default)->q∈eC l
 |[],i,q,h,_=>absurd h aG
 |x::l,0,q,_,hq=>by
  exact aNw
 |x::l,i+1,q,h,hq=>by
  simp only[Zb]at hq;simp only[eC];exact List.mem_append_right _ (aG0 iI hq)
theorem fQ.of_below{W W':World}(h:Below W.heap.size W W'):fQ W W':=fun k cs t e=>(h.block k (Yl.1 e).1).trans e
theorem fQ.cell{W W':World}(h:fQ W W'){k:Nat}{cs:Array Value}(e:W.heap[k]?=some (Obj.cells cs 52))(j:Nat):W'.cell? ⟨k,j,none⟩=W.cell? ⟨k,j,none⟩:=
 Ym (a:=⟨k,j,none⟩) ((h k cs _ e).trans e.symm)
def iK(n:Nat)(W W':World):Prop:=Below n W W'/\fQ W W'
theorem iK.refl(n:Nat)(W:World):iK n W W:=⟨Yg _ _,fQ.refl _⟩
theorem iK.trans{n:Nat}{A B C:World}(h:iK n A B)(k:iK n B C):iK n A C:=⟨h.1.trans k.1,h.2.trans k.2⟩
theorem iK.of_below{n:Nat}{W W':World}(h:Below W.heap.size W W')(hn:n<=W.heap.size):iK n W W':=⟨h.mono hn,fQ.of_below h⟩
theorem aOz{n₀:Nat}{w:World}(hn:n₀<=w.heap.size)(W:World)(l:Nat)(o o':Obj)(hl:w.heap.size<=l)(h:W.heap[l]?=some o)(hc:o.isCells=false)(hw:o.isWalk=false):iK n₀ W (W.putObj l o'):=
 ⟨belowK_b hn W l o o' hl h hc hw,fun k cs t e=>by
  refine(World.putObj_heap_other (fun e'=>?_)).trans e;subst e';rw[h]at e;injection e with e;subst e;cases hc⟩
theorem bCi(l N D:Nat)(e0:Ex)(w0:World)(J Jx:List (iQ w0 e0)->World->Prop)(hJ:AbidesFrom D J)
 (hY:∀ m Aq (x:iQ w0 e0) W,J Aq W->Aq.length<N->YieldAt Fence.wide m Tryz.prog l (wO x.1) W fun e W' =>
  (e=.returned (.bool true)/\J (Aq++[x]) W'/\iK w0.heap.size W W')\/(e=.returned (.bool false)/\Jx (Aq++[x]) W')):
 ∀(x:Ex)(A:Option Addr)(ca:Nat)(B:Option Addr)(cb n:Nat)(Aq:List (iQ w0 e0))(W:World),aH w0 x A B->(∀q∈bL x,q∈bL e0)->Below w0.heap.size w0 W->J Aq W->Aq.length+bD x<=N->
  CallsIn Fence.wide n Tryz.prog 140 #[.agg (aE x A ca B cb),.func (.yield l) #[] #[]] W fun e W'=>
   (e=.returned (.bool true)/\∃ps:List (iQ w0 e0),eR ps=bL x/\J (Aq++ps) W'/\iK w0.heap.size W W')\/(e=.returned (.bool false)/\∃ps:List (iQ w0 e0),eR ps <+:bL x/\Jx (Aq++ps) W'):=by
 refine nK fun x ih A ca B cb n Aq W hr Om Ae Ou hN=>?_;have Ol:∀Aq W W',Below W.heap.size W W'->J Aq W->J Aq W':=fun Aq W W' h hj=>hJ _ _ _ none hj (uJ h) (fun r e=>by cases e);have Py:=mF x;have Px:=hr.subs.max;have Ob:=qW x;have Oq:=Hd ih;have Af:=Hd Ae;have Co:=Hd hr;have Pj:=Hd Ol;have Oc:=Hd Ob;have Nu:x∈bL e0:=Om x (by rw[Ob];exact List.mem_cons_self);have Bp:=Hd fun k (hk:k<x.subs.length)(q:Ex)(hq:q∈bL (aM x k))=>Om q (by rw[Ob];exact Zf _ (aG0 hk hq));have Pm:=Hd fun i (hi:i<x.subs.length)=>xH hi;have Po:=Hd fun i (hi:i<x.subs.length)=>aF9 hi;have Pc:=Hd fun i=>xG x.subs i;have Pq:=Hd (List.take_length (l:=x.subs));have Pn:=Hd fun k=>(show eC (x.subs.take k) <+:eC x.subs from⟨eC (x.subs.drop k),by rw[<-aF6,List.take_append_drop]⟩);have Oh:Below W.heap.size W (W.alloc (.cells (aE x A ca B cb) 52)):=(Yg _ _).alloc (Yh _) _;have Nv:(W.alloc (.cells (aE x A ca B cb) 52)).heap[W.heap.size]?=some (.cells (aE x A ca B cb) 52):=World.alloc_heap_new _ _;obtain⟨xp,Of⟩:∃xp:iQ w0 e0,xp.1=⟨x,A,ca,B,cb⟩:=⟨⟨_,hr,Nu⟩,rfl⟩;have Ow:eR [xp]=[x]:=by simp[eR,Of]
 have Pa:=Hd Ow;obtain⟨fn,tmps,assign,body,hy,hR⟩:=hY (n-1) Aq xp _ (Ol _ _ _ Oh Ou) (by have:=sW x;omega);obtain⟨_,_,_,hcell⟩:=fB W x A ca B cb _ rfl (hr.below Ae);obtain⟨q0,q1,q2,q3,q4,q5⟩:=Sx (hcell _ (Yg _ _));have Oz:=Hd Nv;have Od:=Hd Oh;clear Ou hr Om Ae ih Ob Nu hcell Nv Oh Ol hY Ow;rw[Of]at hy;dsimp only[wO]at hy;unfold aE at hy q0 q1 q2 q3 q4 q5 Oz Od Oq;have HR:=Hd hR;clear hR;unfold aE at HR⊢;clear Of;generalize Oe:x.subs.length=len at *;refine callsIn_of_wp Tryz.func140 rfl trivial ?_ rfl;simp only[Tryz.ntmps140,List.size_toArray,Yo,Zd,Nat.reduceAdd,Nat.reduceSub,Array.replicate_succ,Array.replicate_zero,List.push_toArray,List.append_toArray,Ze,Yv];gi_wp2_with fail;refine⟨fun h=>mY,HR.o.mono ?_⟩;rintro e W3 (⟨rfl,Pf,Oa⟩|⟨rfl,Nw⟩)
 . have Ok:=Hd Pf;have Pp:=Hd (show iK w0.heap.size W W3 from⟨(Od.o.mono Af.o.size).trans Oa.1,(fQ.of_below Od.o).trans Oa.2⟩);have r5:=(Oa.2.cell Oz.o 5).trans q5;clear q0 q1 q2 q3 q4 q5 Pf Oa hy;gi_wp2_with fail;gi_loopw [14] (fun i wr=>∃(k:Nat)(ps:List (iQ w0 e0)),k<=len/\i=.int .i64 k/\eR ps=x::eC (x.subs.take k)/\J (Aq++ps) wr/\iK w0.heap.size W wr) (fun i _=>len-(intOf i).toNat)
   case atStart=>exact⟨0,[xp],Yq _,rfl,by rw[Pa.o];simp[eC],Ok.o,Pp.o⟩
   case round=>
    obtain⟨k,ps,hk,rfl,Oi,Ot,Og⟩:=hrel;have Oj:=Hd Oi;have Pb:=Hd Ot;have Pi:=Hd Og;have Bo:=Hd (Af.o.trans Og.1);have Pw:ps.length=1+dX (x.subs.take k):=by rw[<-aC5,Oi,Yo,aBc];omega
    have Pv:=Pc.o k;clear Oi Ot Og;by_cases Ah:k<len
    . obtain⟨b,off,rfl,hb,Ca⟩:=Co.o.sub (i:=k) aA;obtain⟨A',Pe,B',Ov,Pd,Ap⟩:=Ca k aA;obtain⟨c0,c1,c2,c3,c4,c5⟩:=dT (fT Pd hb fun p hp=>Bo.o.cell hp);obtain⟨Nz,_,_,Ox⟩:=fB wr (aM x k) A' Pe B' Ov _ rfl (Ap.below Bo.o);have Ey:=Hd Nz;obtain⟨d0,d1,d2,d3,d4,d5⟩:=Sx (Ox _ (Yg _ _));have Pu:=Pm.o k aA;have Pk:=Pc.o (k+1);have Bx:=Hd (Po.o k aA);have Ny:=Bo.o.tr Nz;have Bz:=Hd (Oq.o k aA A' Pe B' Ov (n-1) (Aq++ps) _ Ap (Bp.o k aA) Ny (Pj.o _ _ _ Nz Pb.o) dA);clear Ca Pd Ap Nz Ox Ny;unfold aE at Bz Ey d0 d1 d2 d3 d4 d5;generalize aM x k=y at *;gi_wp2_with fail;refine⟨trivial,fun h=>mY,(Bz.o).mono ?_⟩;rintro e W4 (⟨rfl,qs,Nx,Oy,Ph⟩|⟨rfl,qs,Nx,Nt⟩)
      . have On:=Hd Nx;have Oo:=Hd Oy;have Ps:=Hd (show iK w0.heap.size W W4 from Pi.o.trans (((iK.of_below Ey.o Bo.o.size)).trans Ph));clear Nx Oy Ph;gi_wp2_with fail;go_roundw;case rel=>exact⟨k+1,ps++qs,by omega,by go_num,by rw[yQ,Oj.o,On.o,Bx.o];rfl,by rw[<-Yw];exact Oo.o,Ps.o⟩
        case measure=>simp[intOf];omega
      . have On:=Hd Nx;have Oo:=Hd Nt;have Gh:=Hd (Pn.o (k+1));clear Nx Nt;gi_wp2_with fail;go_ret;refine .inr ⟨rfl,ps++qs,?_,by rw[<-Yw];exact Oo.o⟩;rw[yQ,Oj.o,Oc.o,Yv];refine(List.prefix_cons_inj _).2 (List.IsPrefix.trans ?_ Gh.o);rw[Bx.o];exact(List.prefix_append_right_inj _).2 On.o
    . have Pr:k=len:=by omega
      subst Pr;have HE:=Hd (Oe ▸ Pq.o:x.subs.take k=x.subs);gi_wp2_with fail;go_ret;refine .inl ⟨rfl,ps,?_,Pb.o,Pi.o⟩;rw[Oj.o,HE.o,Oc.o]
 . have Ok:=Hd Nw;clear Nw;gi_wp2_with fail;go_ret;refine .inr ⟨rfl,[xp],?_,Ok.o⟩;rw[Pa.o,Oc.o];exact⟨_,rfl⟩
theorem aG1(n Bs:Nat)(x:Ex)(A:Option Addr)(ca:Nat)(B:Option Addr)(cb:Nat)(w0 w:World)(hr:aH w0 x A B)(hb:Below w0.heap.size w0 w)(Cp:w.heap[Bs]?=some (Obj.cells (aE x A ca B cb) 52)):
 SeqStopsK Fence.wide n Tryz.prog 139 #[.pointer (some ⟨Bs,0,none⟩)] (fun p:iQ w0 x=>wO p.1) (iK w0.heap.size) (fun ys=>eR ys=bL x) (fun Nt=>eR Nt <+:bL x) (bD x) w:=fun l J Jx W hW hJ _ hY h0=>by
 have Nx:=(Yl.1 Cp).1;have Bx:=(hW.block Bs Nx).trans Cp;have Bz:=Hd (bCi l (bD x) W.heap.size x w0 J Jx hJ (fun m Nt p W1 hj hl=>aSr rfl m (hY Nt p W1 hj hl)) x A ca B cb (n-1) [] W hr (fun q hq=>hq) (hb.tr hW) h0 aG);have hcell:∀j,W.cell? ⟨Bs,j,none⟩=(aE x A ca B cb)[j]?:=fun j=>by simp[World.cell?,Bx]
 obtain⟨q0,q1,q2,q3,q4,q5⟩:=Sx hcell;clear hcell Cp Bx hY hr hW hJ h0;unfold aE at Bz q0 q1 q2 q3 q4 q5;refine callsIn_of_wp Tryz.func139 rfl trivial ?_ rfl;simp only[Tryz.ntmps139,List.size_toArray,Yo,Zd,Nat.reduceAdd,Nat.reduceSub,Array.replicate_succ,Array.replicate_zero,List.push_toArray,List.append_toArray,Ze,Yv];gi_wp2_with fail;refine⟨trivial,fun h=>mY,(Bz.o).mono ?_⟩;rintro e W4 (⟨rfl,qs,Bp,Nw,Ny⟩|⟨rfl,qs,Bp,Aq⟩)
 . have Nu:=Hd Bp;have Nv:=Hd Nw;clear Bp Nw Ny;gi_wp2_with fail;go_end0
   exact⟨⟨_,rfl⟩,.inl ⟨qs,Nu.o,Nv.o⟩⟩
 . have Nu:=Hd Bp;have Nv:=Hd Aq;clear Bp Aq;gi_wp2_with fail;go_end0
   exact⟨⟨_,rfl⟩,.inr ⟨qs,Nu.o,Nv.o⟩⟩
attribute [local go_sem] Oper.semAt_some
theorem aLj(x:Ex)(A:Option Addr)(ca:Nat)(B:Option Addr)(cb:Nat)(w:World)(hr:aH w x A B):
 Calls Tryz.prog 112 #[.agg (aE x A ca B cb)] w fun r w'=>r=.returned (.func (.func 139) #[] #[.pointer (some ⟨w.heap.size,0,none⟩)])/\w'=w.alloc (Obj.cells (aE x A ca B cb) 52):=by
 have Aq:∀fn first cap w,(Instr.makeFunc fn first cap).run Tryz.prog w=.ok (.func fn first cap) w:=fun _ _ _ _=>rfl
 clear hr;unfold aE;go_in
 go_wp2_with fail;go_ret;exact⟨rfl,rfl⟩
theorem fQ.setCell{W:World}{B:Nat}{t:TypeId}{v:Value}(h:Boxed W B t v)(ht:t≠52)(u:Value):fQ W (W.setCell ⟨B,0,none⟩ u):=fun k cs hh e=>by
 have An:some k≠some B:=by
  intro e';injection e' with e';subst e';rw[show W.heap[k]?=_ from h]at e;injection e with e;injection e with _ e;exact ht e
 have hk:=(Yl.1 e).1;exact((grownBy_setCell' W B u).block k hk An).trans e
attribute [local go_sem] Oper.semAt_some
theorem aDn{β:Type}(B:Nat)(cs:Array Value)(t:TypeId):Own (fun(_:β) W=>W.heap[B]?=some (Obj.cells cs t)):=fun s X Y row hs hg Ao=>
 (hg.block B (Yl.1 hs).1 (fun e'=>by obtain⟨o,ho,hc⟩:=Ao B e'.symm;rw[hs]at ho;cases ho;cases hc)).trans hs
theorem fQ.alloc(W:World)(o:Obj):fQ W (W.alloc o):=fQ.of_below ((Yg _ _).alloc (Yh _) o)
end
end Go.Proofs.YtkbpdoomhfkngaaGreat
