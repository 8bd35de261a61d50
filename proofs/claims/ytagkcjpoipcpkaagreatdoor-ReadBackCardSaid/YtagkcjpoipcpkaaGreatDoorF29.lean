/- A part of the proof. Conditions: each theorem's own. -/
import Derived.Test.YtagkcjpoipcpkaaGreatDoorF07
import Derived.Test.YtagkcjpoipcpkaaGreatDoorF13
namespace Go.Proofs.YtagkcjpoipcpkaaGreatDoor
set_option linter.unusedVariables false
set_option linter.unusedSimpArgs false
set_option maxRecDepth 100000
set_option maxHeartbeats 40000000
section
open Go.RowKit Go.Sort
theorem bFj(Aa Ae:BA)(w:World)(h1:Aa.size<=1000000)(h2:Ae.size<=1000000):
 Calls Tryz.prog 178 #[.string Aa,.string Ae] w fun e w'=>e=.returned (.string (aB (kH Aa.data.toList Ae.data.toList)))/\Below w.heap.size w w':=by
 have z1:(9223372036854775807<4+Aa.size)=False:=aW;have z2:(9223372036854775807<Ae.size+1)=False:=aW;have z3:(9223372036854775807<Ae.size+1+Aa.size)=False:=aW;have z4:(9223372036854775807<Ae.size+1+Aa.size+1)=False:=aW;have ht:=Zf Ae;cases e1:(Ae.toList==[116,114,117,101])with
 |true=>
  have HE:=Hd (show Aa=aB (kH Aa.data.toList Ae.data.toList) by
   rw[ht]at e1;unfold kH;rw[if_pos aO5,mH])
  exact aPw
 |false=>
  cases e2:(Ae.toList==[102,97,108,115,101])with
  |true=>
   have HE:=Hd (show(⟨#[110,111,116,32]⟩:BA)++Aa=aB (kH Aa.data.toList Ae.data.toList) by
    rw[ht]at e1 e2;unfold kH;rw[if_neg aO5,if_pos (by simpa[dY]using e2)];exact eT (by rw[aH5];simp[iE]))
   exact aPw
  |false=>
   have HE:=Hd (show Ae++(⟨#[40]⟩:BA)++Aa++⟨#[41]⟩=aB (kH Aa.data.toList Ae.data.toList) by
    rw[ht]at e1 e2;unfold kH;rw[if_neg aO5,if_neg (by simpa[dY]using e2)];exact eT (by rw[aH5];simp))
   exact aPw
theorem bYf(x:Ex)(A:OA)(ca:Nat)(B:OA)(cb:Nat)(w:World)(hr:aM w x A B)(hn:qX x):
 Calls Tryz.prog 182 #[.agg (aJ x A ca B cb)] w fun e w'=>e=.returned (.string (aB (sG x.k x.n x.s.data.toList)))/\Below w.heap.size w w':=by
 obtain⟨hs,Dy,Ae⟩:=hn;have HF:=Hd fun w1 h=>gH w x A ca B cb w1 h hr;have HL:=Hd (show sG x.k x.n x.s.data.toList=if x.k=1 then Lib.itoa x.n else if x.k=2 then(if x.n=1 then eF else dY)else if x.k=17 then 39::(x.s.data.toList++[39])else x.s.data.toList from rfl);clear hr;unfold aJ at HF⊢;generalize sG x.k x.n x.s.data.toList=lt at *;generalize x.k=k at *;generalize x.s=s at *;generalize x.n=n at *;have z1:(9223372036854775807<1+s.size)=False:=aW;have z2:(9223372036854775807<s.size+1)=False:=aW;have z3:(9223372036854775807<1+s.size+1)=False:=aW;by_cases h1:k=1
 . subst h1;have HE:=Hd (show(⟨(Lib.itoa n).toArray⟩:BA)=aB lt by rw[HL.o];rfl);have HD:=Hd fun w=>bN0 n Dy Ae w;go_in
   go_upto_region 1 with(fail);generalize Af:w.alloc _=w1;obtain⟨Ab,hg,Al,hcell⟩:=HF.o w1 Af;have Ac:=Hd Ab;have q0:=hcell w1 (Yg _ _) 0;have q1:=hcell w1 (Yg _ _) 1;clear hcell Ab Al Af HF;go_wp2_with fail;refine(HD.o _).mono ?_;rintro r w2 ⟨rfl,Ag⟩;have Ai:=Hd (Ac.o.tr Ag);clear Ag;go_wp2_with fail;go_ret;exact⟨iK HE.o,Ai.o⟩
 by_cases h2:k=2
 . subst h2;by_cases hn:n=1
   . subst hn;have HE:=Hd (show(⟨#[116,114,117,101]⟩:BA)=aB lt by rw[HL.o];rfl);exact bHh
   . have Bv:(n==1)=false:=by simpa using hn
     have HE:=Hd (show(⟨#[102,97,108,115,101]⟩:BA)=aB lt by rw[HL.o,if_neg aF,if_pos rfl,if_neg hn];rfl);exact bHh
 by_cases Aa:k=17
 . subst Aa;have HE:=Hd (show(⟨#[39]⟩:BA)++s++⟨#[39]⟩=aB lt by
    rw[HL.o,if_neg aF,if_neg aF,if_pos rfl];exact eT (by rw[aH5];simp))
   go_in
   go_upto_region 1 with(fail);generalize Af:w.alloc _=w1;obtain⟨Ab,hg,Al,hcell⟩:=HF.o w1 Af;have Ac:=Hd Ab;have q0:=hcell w1 (Yg _ _) 0;have q2:=hcell w1 (Yg _ _) 2;clear hcell Ab Al Af HF;go_wp2_with fail;go_ret;exact⟨iK HE.o,Ac.o⟩
 have e1:(k==1)=false:=wV;have e2:(k==2)=false:=aGk;have Aq:(k==17)=false:=by simpa using Aa
 have HE:=Hd (show s=aB lt by rw[HL.o,if_neg h1,if_neg h2,if_neg Aa,mH]);go_in
 go_upto_region 1 with(fail);generalize Af:w.alloc _=w1;obtain⟨Ab,hg,Al,hcell⟩:=HF.o w1 Af;have Ac:=Hd Ab;have q0:=hcell w1 (Yg _ _) 0;have q2:=hcell w1 (Yg _ _) 2;clear hcell Ab Al Af HF;go_wp2_with fail;go_ret;exact⟨iK HE.o,Ac.o⟩
theorem iJ(l:LU):(aB l).size=l.length:=by
 show l.toArray.size=l.length;simp
theorem aUk:∀(l:List (List UInt8))(x:LU),l≠[]->eN (l++[x])=eN l++44::32::x
 |[],_,h=>absurd rfl h
 |[a],x,_=>rfl
 |a::b::l,x,_=>by
  have:=aUk (b::l) x aC
  simp only[Yx]at this⊢;simp only[eN,this,Yy,Yx]
theorem aUl{l:List Ex}{k:Nat}(h:k<l.length):(l.map aK).take (k+1)=(l.map aK).take k++[aK (l[k]?.getD default)]:=by
 exact bDo
theorem aG2(l:List Ex)(k:Nat)(h:∀y∈l,(aK y).length<=7300*aT y):(eN ((l.map aK).take k)).length<=7302*bW l:=by
 have h1:=aEt ((l.map aK).take k);have h2:=aTz (l.map aK) k;have h3:=aHo l h;have h4:=aUz l;have h5:((l.map aK).take k).length<=l.length:=cP;omega
theorem bYg(l:List Ex)(A:OA)(n c:Nat)(w:World)(hl:gK w A n l)(hs:bW l<=1000000)
 (hb:∀y∈l,(aK y).length<=7300*aT y)
 (IH:∀ i,i<n->∀ w1,Below w.heap.size w w1->∃ b off,A=some ⟨b,off,none⟩/\b<w.heap.size/\∃ A' ca B' cb,w1.rangeAt b (off+i*6) (dB (l[i]?.getD default) A' ca B' cb) /\
  Calls Tryz.prog 132 #[.agg (aJ (l[i]?.getD default) A' ca B' cb)] w1 fun e w'=>e=.returned (.string (aB (aK (l[i]?.getD default))))/\Below w1.heap.size w1 w'):
 Calls Tryz.prog 181 #[.slice A n c] w fun e w'=>e=.returned (.string (aB (eN (l.map aK))))/\Below w.heap.size w w':=by
 have Hc:=hl.len;have Nk:=hl.max;have Aq:=Hd IH;have Fs:=Hd fun k (hk:k<l.length)=>aUl hk;have Jx:=Hd fun k=>aG2 l k hb;have Nh:=Hd fun k (hk:k<l.length)=>(show(aK (l[k]?.getD default)).length<=7300000000 by
  rw[Yk hk,Yv];have h1:=hb _ (Zk hk);have h2:=aBr (Zk hk)
  omega)
 clear IH hb hl;go_in
 go_wp2_with fail;go_loopw [3,4] (fun s i wr=>∃k:Nat,k<=n/\i=.int .i64 k/\s=.string (aB (eN ((l.map aK).take k)))/\Below w.heap.size w wr) (fun _ i _=>n-(intOf i).toNat)
 case atStart=>exact⟨0,Ys _,rfl,rfl,Yg _ _⟩
 case round=>
  obtain⟨k,hk,rfl,rfl,Aa⟩:=hrel;have Ay:=Hd Aa;have Hy:=Jx.o k;by_cases Ah:k<n
  . obtain⟨b,off,rfl,Cl,A',Nl,B',Nm,Ae,Ct⟩:=Aq.o k Ah wr Aa;obtain⟨c0,c1,c2,c3,c4,c5⟩:=jW Ae;have Bq:=Hd Ct;have Bs:=Fs.o k aA;have Nj:=Nh.o k aA;have Hb:=Hd fun h=>aUk ((l.map aK).take k) (aK (l[k]?.getD default)) h
    have Ng:=Hd (show(l.map aK).take k=[]->k=0 from fun h=>by
     have:=congrArg List.length h
     rw[List.length_take,List.length_map,Zg]at this
     omega)
    have Cg:=Hd Bs;clear Bs Aa Ae Ct Aq;unfold aJ at Bq;generalize l[k]?.getD default=y at *;generalize Ha:(l.map aK).take k=tk at *;have Au:(aB (eN tk)).size=(eN tk).length:=iJ _;have Nn:(aB (aK y)).size=(aK y).length:=iJ _;by_cases h0:k=0
    . subst h0;simp only [Nat.zero_mul,Nat.add_zero] at c0 c1 c2 c3 c4 c5;have HE:=Hd (show aB (eN tk)++aB (aK y)=aB (eN ((l.map aK).take (0+1))) by
       rw[Cg.o,<-Ha];exact eT (by simp[aB,eN]))
      generalize aB (eN tk)=sa at *;generalize aB (aK y)=sb at *;have z1:(9223372036854775807<sa.size+sb.size)=False:=aW;go_wp2_with fail;refine Bq.o.mono ?_;exact bH4
    . have hd:decide ((0:Int)<(k:Int))=true:=Xc aA;have HE:=Hd (show aB (eN tk)++(⟨#[44,32]⟩:BA)++aB (aK y)=aB (eN ((l.map aK).take (k+1))) by
       rw[Cg.o,Hb.o (fun h=>h0 (Ng.o h))];exact eT aDu)
      generalize aB (eN tk)=sa at *;generalize aB (aK y)=sb at *;have z1:(9223372036854775807<sa.size+2)=False:=aW;have z2:(9223372036854775807<sa.size+2+sb.size)=False:=aW;go_wp2_with fail;refine Bq.o.mono ?_;exact bH2
  . have Ni:k=n:=by omega
    have HE:=Hd (show(l.map aK).take k=l.map aK from Yz cP);exact bEr
def TxC(y:Ex):Prop:=∀(A:OA)(ca:Nat)(B:OA)(cb:Nat)(w:World),aM w y A B->(y.k=13->y.subs.length<=cb)->iU w y B->
 Calls Tryz.prog 132 #[.agg (aJ y A ca B cb)] w fun e w'=>e=.returned (.string (aB (aK y)))/\Below w.heap.size w w'
theorem aM0{l:List Ex}{m i:Nat}(h:i<m):(l.take m)[i]?.getD default=l[i]?.getD default:=by
 rw[List.getElem?_take_of_lt h]
theorem gK.take{w:World}{A:OA}{n m:Nat}{l:List Ex}(h:gK w A n l)(hm:m<=n):gK w A m (l.take m):=by
 have hl:=h.1;have hx:=h.2.1;refine⟨by simp;omega,by omega,fun hp=>?_⟩;obtain⟨b,off,e,hb,hr⟩:=h.2.2 aA;refine⟨b,off,e,hb,aNr _ fun i hi=>?_⟩;simp only[List.length_take]at hi;rw[aM0 aA];exact aNq l hr i aA
theorem aNk(x:Ex)(A:OA)(B:OA)(cb m c:Nat)(w0 w:World)(hr:aM w0 x A B)(hc:iU w0 x B)(hb:Below w0.heap.size w0 w)(hm:m<=x.subs.length)(hs:bW x.subs<=1000)
 (hl:∀y∈x.subs,(aK y).length<=7300*aT y)(ih:∀i,i<x.subs.length->TxC (bI x i)):
 Calls Tryz.prog 181 #[.slice B m c] w fun e w'=>e=.returned (.string (aB (eN ((x.subs.map aK).take m))))/\Below w.heap.size w w':=by
 have Av:=aEk x.subs m
 have h:=bYg (x.subs.take m) B m c w ((hr.below hb).subs.take hm) aA (fun y hy=>hl y (List.mem_of_mem_take hy)) (fun i hi w1 Af=>by
  obtain⟨b,off,e,Cl,Ar⟩:=hr.subC hc (i:=i) aA;have Ab:Below w0.heap.size w0 w1:=hb.tr Af;obtain⟨A',Aa,B',Ae,Ct,Aq,Fs,Bs⟩:=Ar i aA;have Cv:=hb.size;refine⟨b,off,e,by omega,A',Aa,B',Ae,?_,?_⟩
  . rw[aM0 hi];exact uE Ct Cl fun p hp=>Ab.cell hp
  . rw[aM0 hi];exact ih i aA A' Aa B' Ae w1 (Aq.below Ab) Fs (Bs.below Aq Ab))
 rw[List.map_take]at h;exact h
theorem bUm(x:Ex)(A:OA)(ca:Nat)(B:OA)(cb:Nat)(w:World)(hr:aM w x A B)(Aq:x.subs.length<=cb)(hc:iU w x B)(hn:x.n=0)(Au:x.s.size<=7000)(hs:bW x.subs<=1000)
 (hl:∀y∈x.subs,(aK y).length<=7300*aT y)(ih:∀i,i<x.subs.length->TxC (bI x i)):
 Calls Tryz.prog 180 #[.agg (aJ x A ca B cb)] w fun e w'=>e=.returned (.string (aB (oW 0 x.s.data.toList (x.subs.map aK))))/\Below w.heap.size w w':=by
 have HF:=Hd fun w1 h=>gH w x A ca B cb w1 h hr;have Fq:=Hd fun c w1 (h:Below w.heap.size w w1)=>aNk x A B cb x.subs.length c w w1 hr hc h (Yh _) hs hl ih;have Ct:=hr.subs.max;have Hy:=aG2 x.subs x.subs.length hl;have Aa:(x.subs.map aK).take x.subs.length=x.subs.map aK:=Yz aC;rw[Aa]at Fq Hy;have HE:=Hd (show x.s++(⟨#[40]⟩:BA)++aB (eN (x.subs.map aK))++⟨#[41]⟩=aB (oW 0 x.s.data.toList (x.subs.map aK))from eT (by simp[aB,oW]));have Fs:(aB (eN (x.subs.map aK))).size<=7310000:=aDq;clear hr hc hl ih Aa Hy;unfold aJ at HF⊢;rw[hn]at HF⊢;generalize aB (eN (x.subs.map aK))=jt at *;generalize oW 0 x.s.data.toList (x.subs.map aK)=ct at *;generalize x.subs.length=len at *;generalize x.s=s at *;have z1:(9223372036854775807<s.size+1)=False:=aW;have z2:(9223372036854775807<s.size+1+jt.size)=False:=aW;have z3:(9223372036854775807<s.size+1+jt.size+1)=False:=aW;go_in
 go_upto_region 1 with(fail);generalize Af:w.alloc _=w1;obtain⟨Ab,hg,Al,hcell⟩:=HF.o w1 Af;have Ac:=Hd Ab;obtain⟨-,q1,q2,-,-,q5⟩:=Sx (hcell w1 (Yg _ _));clear hcell Ab Al Af HF;go_wp2_with fail;have Ae:=Hd fun d os=>Ac.o.trans ((Zx w1 d os).mono Ac.o.size);have cA:=fun d os=>Zl (Fq.o cb (grow (redrawn w1 d) os) (Ae.o d os));have l1:=fun d os=>Zw q1 d os;have l2:=fun d os=>Zw q2 d os;have l5:=fun d os=>Zw q5 d os;refine Xe aE aE ?_;repeat (quiet_step (exact cA _ _))
 refine Xk ?_;intro _ Ch;obtain⟨⟨dq,Bj⟩,Az⟩:=Ch;subst Az;have Ai:=Hd (Ae.o dq Bj);have Bs:=l1 dq Bj;clear cA l1 l2 l5 q1 q2 q5;generalize grow (redrawn w1 dq) Bj=w2 at *;go_wp2_with fail;go_ret;exact⟨iK HE.o,Ai.o⟩
theorem bUn(x:Ex)(l:List Ex)(y:Ex)(A:OA)(ca:Nat)(B:OA)(cb:Nat)(w:World)(hr:aM w x A B)(Nj:x.subs.length<=cb)(hc:iU w x B)(hn:x.n=1)(Ia:x.subs=l++[y])(Au:x.s.size<=7000)(hs:bW x.subs<=1000)
 (hl:∀y∈x.subs,(aK y).length<=7300*aT y)(ih:∀i,i<x.subs.length->TxC (bI x i)):
 Calls Tryz.prog 180 #[.agg (aJ x A ca B cb)] w fun e w'=>e=.returned (.string (aB (oW 1 x.s.data.toList (x.subs.map aK))))/\Below w.heap.size w w':=by
 have HF:=Hd fun w1 h=>gH w x A ca B cb w1 h hr;have Aq:x.subs.length=l.length+1:=aJj;have Fq:=Hd fun c w1 (h:Below w.heap.size w w1)=>aNk x A B cb l.length c w w1 hr hc h aA hs hl ih;have Gd:bI x l.length=y:=by simp[bI,Ia]
 have HY:=Hd fun w1 (h:Below w.heap.size w w1)=>(show ∃ b off,B=some ⟨b,off,none⟩/\∃ A' Ae B' Aa,w1.rangeAt b (off+l.length*6) (dB y A' Ae B' Aa) /\
  Calls Tryz.prog 132 #[.agg (aJ y A' Ae B' Aa)] w1 fun e w'=>e=.returned (.string (aB (aK y)))/\Below w1.heap.size w1 w' from by
  obtain⟨b,off,e,Cl,Ar⟩:=hr.subC hc (i:=l.length) aA;obtain⟨A',Ae,B',Aa,Bs,Ha,Ct,Hb⟩:=Ar l.length aA;have ht:=ih l.length aA;rw[Gd]at Bs Ha Ct Hb ht;exact⟨b,off,e,A',Ae,B',Aa,uE Bs Cl fun p hp=>h.cell hp,ht A' Ae B' Aa w1 (Ha.below h) Ct (Hb.below Ha h)⟩)
 have Ni:=hr.subs.max;have Hy:=aG2 x.subs l.length hl;have Ng:(aK y).length<=7300000:=by
  have h1:=hl y aJj;have h2:=aBr (l:=x.subs) (x:=y) aJj;omega
 have Jx:(x.subs.map aK).take l.length=l.map aK:=by rw[Ia];simp[List.take_append]
 rw[Jx]at Fq Hy
 have HE:=Hd (show(⟨#[40]⟩:BA)++(x.s++(⟨#[40]⟩:BA)++aB (eN (l.map aK))++⟨#[41]⟩)++(⟨#[32,101,118,101,114,121,32]⟩:BA)++aB (aK y)++⟨#[41]⟩=aB (oW 1 x.s.data.toList (x.subs.map aK)) from eT (by
  rw[Ia];simp[aB,oW,qL,gT,List.take_append]))
 have Nl:(aB (eN (l.map aK))).size<=7310000:=aDq;have Nm:(aB (aK y)).size<=7300000:=by rw[iJ];exact Ng
 clear hr hc hl ih Jx Hy Ng Gd;unfold aJ at HF HY⊢;rw[hn]at HF⊢;rw[Aq]at HF Ni Nj⊢;generalize oW 1 x.s.data.toList (x.subs.map aK)=ct at *;clear Ia;generalize aB (eN (l.map aK))=jt at *;generalize aB (aK y)=yt at *;generalize l.length=len at *;generalize x.s=s at *;clear Aq;have z1:(9223372036854775807<s.size+1)=False:=aW;have z2:(9223372036854775807<s.size+1+jt.size)=False:=aW;have z3:(9223372036854775807<s.size+1+jt.size+1)=False:=aW;have z4:(9223372036854775807<1+(s.size+1+jt.size+1))=False:=aW;have z5:(9223372036854775807<1+(s.size+1+jt.size+1)+7)=False:=aW;have z6:(9223372036854775807<1+(s.size+1+jt.size+1)+7+yt.size)=False:=aW;have z7:(9223372036854775807<1+(s.size+1+jt.size+1)+7+yt.size+1)=False:=aW;have Hc:((len+1:Nat):Int)-1=(len:Int):=aA;have Nh:len<=cb:=aA;go_in
 go_upto_region 1 with(fail);generalize Af:w.alloc _=w1;obtain⟨Ab,hg,Al,hcell⟩:=HF.o w1 Af;have Ac:=Hd Ab;obtain⟨-,q1,q2,-,-,q5⟩:=Sx (hcell w1 (Yg _ _));clear hcell Ab Al Af HF;go_wp2_with fail;have Fs:=Hd fun d os=>Ac.o.trans ((Zx w1 d os).mono Ac.o.size);have cA:=fun d os=>Zl (Fq.o cb (grow (redrawn w1 d) os) (Fs.o d os));have l1:=fun d os=>Zw q1 d os;have l2:=fun d os=>Zw q2 d os;have l5:=fun d os=>Zw q5 d os;refine Xe aE aE ?_;repeat (quiet_step (exact cA _ _))
 refine Xk ?_;intro _ Ch;obtain⟨⟨dq,Bj⟩,Az⟩:=Ch;subst Az;have Ai:=Hd (Fs.o dq Bj);have Nk:=l1 dq Bj;have Nn:=l5 dq Bj;clear cA l1 l2 l5 q1 q2 q5 Fs;generalize grow (redrawn w1 dq) Bj=w2 at *;obtain⟨b,off,rfl,A',Ae,B',Aa,Bs,Ct⟩:=HY.o w2 Ai.o;obtain⟨c0,c1,c2,c3,c4,c5⟩:=jW Bs;have Bq:=Hd Ct;clear Bs Ct HY Fq;go_wp2_with fail;refine Bq.o.mono ?_;rintro r w3 ⟨rfl,Ak⟩;have Aj:=Hd (Ai.o.tr Ak);clear Ak;go_wp2_with fail;go_ret;exact⟨iK HE.o,Aj.o⟩
def rL(l:List Ex):List ByteArray:=l.map fun y=>aB (aK y)
theorem bYh(l:List Ex):(rL l).length=l.length:=by simp[rL]
theorem bUo{l:List Ex}{k:Nat}(h:k<l.length):(rL l).take (k+1)=(rL l).take k++[aB (aK (l[k]?.getD default))]:=by
 unfold rL;exact bDo
theorem lU{l:List Ex}{k:Nat}(h:k<l.length):(rL l)[k]?.getD ByteArray.empty=aB (aK (l[k]?.getD default)):=by
 simp[rL,Yk h]
theorem bQh(op:Int)(h1:3<=op)(h2:op<=16):(wN op).data.toList=kM op:=by
 obtain rfl|rfl|rfl|rfl|rfl|rfl|rfl|rfl|rfl|rfl|rfl|rfl|rfl|rfl:op=3\/op=4\/op=5\/op=6\/op=7\/op=8\/op=9\/op=10\/op=11\/op=12\/op=13\/op=14\/op=15\/op=16:=by omega
 all_goals rfl
theorem bQi(op:Int)(h1:3<=op)(h2:op<=16):(wN op).size<=3:=by
 obtain rfl|rfl|rfl|rfl|rfl|rfl|rfl|rfl|rfl|rfl|rfl|rfl|rfl|rfl:op=3\/op=4\/op=5\/op=6\/op=7\/op=8\/op=9\/op=10\/op=11\/op=12\/op=13\/op=14\/op=15\/op=16:=by omega
 all_goals decide
theorem aUm:∀(am ts:List (List UInt8))(a t:LU),am.length=ts.length->nW (am++[a]) (ts++[t])=nW am ts++32::40::(a++32::45::62::32::(t++[41]))
 |[],[],a,t,_=>by simp[nW]
 |[],_::_,_,_,h=>by simp at h
 |_::_,[],_,_,h=>by simp at h
 |b::am,u::ts,a,t,h=>by
  have:=aUm am ts a t nZ
  simp[nW,this]
def pF(x:Ex)(j:Nat):List UInt8:=40::(jO++32::(x.s.data.toList++nW ((x.arms.map fun a=>a.data.toList).take j) ((x.subs.map aK).take j)))
theorem bYi{x:Ex}{j:Nat}(ha:j<x.arms.length)(hs:j<x.subs.length):
 pF x (j+1)=pF x j++32::40::((x.arms[j]?.getD ByteArray.empty).data.toList++32::45::62::32::(aK (bI x j)++[41])):=by
 have h1:(x.arms.map fun a=>a.data.toList).take (j+1)=(x.arms.map fun a=>a.data.toList).take j++[(x.arms[j]?.getD ByteArray.empty).data.toList]:=by
  rw[List.take_succ_eq_append_getElem (by simpa using ha)];simp[Yk ha]
 have h2:(x.subs.map aK).take (j+1)=(x.subs.map aK).take j++[aK (bI x j)]:=aUl hs;unfold pF;rw[h1,h2,aUm _ _ _ _ cP];simp
theorem cBj{x:Ex}{j:Nat}(ha:∀a∈x.arms,a.data.toList.length<=12)(hs:x.s.size<=7000)(hl:fD (x.subs.map aK)<=7300000)(hj:j<=6):(pF x j).length<=7310000:=by
 have h1:=aMo ((x.arms.map fun a=>a.data.toList).take j) ((x.subs.map aK).take j) (fun a h=>by
  obtain⟨m,hm,rfl⟩:=List.mem_map.1 (List.mem_of_mem_take h);exact ha m hm)
 have h2:=aTz (x.subs.map aK) j;have h3:((x.subs.map aK).take j).length<=j:=cP;have h4:x.s.data.toList.length=x.s.size:=aC;simp only[pF,Yq,Yo,jO,Zg];omega
theorem bYj:∀x:Ex,bV x->(∀p∈bP x,qX p)->aT x<=1000->TxC x:=by
 refine tB fun x ih hx hp hs A ca B cb w hr Of hc=>?_;obtain⟨i0,hi,Cm,Co,Cr⟩:=info_parts vQ;have hf:=hx.part;have Qe:=uG x;have Jx:=hp x aGf;have Ha:∀i,i<x.subs.length->bI x i∈x.subs:=fun i hi=>zS hi;have Hc:∀y∈x.subs,∀p∈bP y,qX p:=fun y hy p Iq=>hp p aQw;have Aq:∀y∈x.subs,(aK y).length<=7300*aT y:=fun y hy=>aXe y (hx.sub hy) (Hc y hy);have Hb:∀y∈x.subs,(aK y).length<=7300000:=fun y hy=>by have h1:=Aq y hy;have h2:=aBr hy;omega
 have Ns:∀ i,i<x.subs.length->TxC (bI x i):=fun i hi=>ih i hi (hx.sub (Ha i hi)) (Hc _ (Ha i hi)) (by have:=aBr (Ha i hi);omega);have Fq:=Hd Hb;have Nj:=Hd fun w1 (h:Below w.heap.size w w1) (Nk:x.k=13) (hk:x.n=0)=>bUm x A ca B cb w1 (hr.below h) (Of Nk) (hc.below hr h) hk Jx.1 aA Aq Ns;have Ct:=Hd fun w1 (h:Below w.heap.size w w1) l y (Nk:x.k=13) (hk:x.n=1) (Ia:x.subs=l++[y])=>bUn x l y A ca B cb w1 (hr.below h) (Of Nk) (hc.below hr h) hk Ia Jx.1 aA Aq Ns;have Np:=Hd fun c w1 (h:Below w.heap.size w w1)=>aNk x A B cb x.subs.length c w w1 hr hc h (Yh _) aA Aq Ns;have Ng:=Hd fun w1 (h:Below w.heap.size w w1)=>bYf x A ca B cb w1 (hr.below h) Jx;have Nu:=Hd fun k (hk:k<x.subs.length) w1 (h:Below w.heap.size w w1)=>(show ∃ b off,B=some ⟨b,off,none⟩/\∃ A' Nn B' Nl,w1.rangeAt b (off+k*6) (dB (bI x k) A' Nn B' Nl) /\
  Calls Tryz.prog 132 #[.agg (aJ (bI x k) A' Nn B' Nl)] w1 fun e w'=>e=.returned (.string (aB (aK (bI x k))))/\Below w1.heap.size w1 w' from by
  obtain⟨b,off,e,Cl,Ar⟩:=hr.subC hc (i:=k) hk;obtain⟨A',Nn,B',Nl,Nw,On,Nx,Oy⟩:=Ar k hk;exact⟨b,off,e,A',Nn,B',Nl,uE Nw Cl fun p hp=>h.cell hp,Ns k hk A' Nn B' Nl w1 (On.below h) Nx (Oy.below On h)⟩)
 have HF:=Hd fun w1 h=>gH w x A ca B cb w1 h hr;have Oq:=Hd fun k (hk:k<x.subs.length)=>(show(rL x.subs).take (k+1)=(rL x.subs).take k++[aB (aK (bI x k))]from bUo hk);have Oo:=Hd fun k (hk:k<x.subs.length)=>Hb _ (Ha k hk);have Bs:=Hd (aH6 x);have No:=aG2 x.subs x.subs.length Aq;rw[Yz aC]at No;have Pe:=Hd (show(eN (x.subs.map aK)).length<=7310000 by omega);have Dx:=Hd fun w1 (h:Below w.heap.size w w1)=>(hr.below h).arms;have Oh:=Hd (show fD (x.subs.map aK)<=7300000 by have:=aHo x.subs Aq;omega);clear No;have Qb:=hr.subs.max;have Ih:=aUz x.subs;clear ih hp hr hc Ha Hc Aq Hb Ns Of;unfold aJ at HF Nu Nj Ct Ng⊢;generalize aK x=tx at *;generalize Cq:x.subs.length=n at *;have Fe:=Hd Cq;clear Cq;go_in
 go_upto_region 1 with(fail);generalize Af:w.alloc _=w1;obtain⟨Ab,hg,Al,hcell⟩:=HF.o w1 Af;have Ac:=Hd Ab;have HC:=Hd fun w2 (h:Below w1.heap.size w1 w2)=>hcell w2 h;clear hcell Ab Al Af HF;have Oz:=Hd (World.ownsRow_lit (base:=w1.heap.size) (e:=9) (size:=1) w1 #[] 0 (Yh _) aF rfl);have Pj:=Hd ((Yg w1.heap.size w1).alloc (Yh _) (.cells #[] 9));go_wp2_with fail;go_loopw [3,4] (fun v i wr=>∃k:Nat,k<=n/\i=.int .i64 k/\wr.ownsRow w1.heap.size 9 1 v k (((rL x.subs).take k).map Value.string)/\Below w1.heap.size w1 wr) (fun _ i _=>n-(intOf i).toNat)
 case atStart=>exact⟨0,Ys _,rfl,Oz.o,Pj.o⟩
 case round=>
  obtain⟨k,hk,rfl,Ad,Nm⟩:=hrel;have Bg:=Hd Ad;have Ay:=Hd Nm;have Cv:=Nm.size;by_cases Ah:k<n
  . have q5:=HC.o wr Nm 5;obtain⟨b,off,rfl,A',Nn,B',Nl,Nw,Nx⟩:=Nu.o k Ah wr (Ac.o.tr Nm);obtain⟨d0,d1,d2,d3,d4,d5⟩:=jW Nw;have Bq:=Hd Nx;have Cg:=Hd (Oq.o k Ah);have Pn:=Oo.o k Ah;clear Nw Nx Ad Nm Nu;generalize bI x k=y at *;have Pv:(aB (aK y)).size<=7300000:=by rw[iJ];exact Pn
    generalize aB (aK y)=sy at *;go_wp2_with fail;refine Bq.o.mono ?_;rintro r w3 ⟨rfl,Ak⟩;have Nh:=rM Bg.o Ak;have Aj:=Hd (Ay.o.tr Ak);have Ob:=Aj.o.size;clear Ak;go_wp2_with (at_builtin;go_must (refine wpList_append_own_at _ rfl _ _ 62 rfl w1.heap.size 9 i0 (.string ByteArray.empty) 1 16 Tryz.underlying62 hi Cm Co Cr rfl aF _ _ _ rfl (Nh.alloc _) ⟨w3.heap.size,0,none⟩ 1 1 [.string sy] rfl rfl (cell_one_new _ _ _) (tA [sy]) fZ aA cP ?_;intro v' w4 Bb Aw Fc Eg));have Bd:=Hd ((Aj.o.alloc Ob (.cells #[.string sy] 9)).grown Aw cP (fun j hj=>(Nh.lt j hj).1));have Gl:=Hd Bb;clear Aw Fc Bb Eg;go_roundw;case rel=>
     refine⟨k+1,by omega,by go_num,?_,Bd.o⟩;rw[Cg.o,Zt];exact Gl.o
    case measure=>simp[intOf];omega
  . have Pm:k=n:=by omega
    subst Pm;have Cg:=(show(rL x.subs).take x.subs.length=rL x.subs from Yz (by rw[bYh];exact Yh _));rw[Fe.o]at Cg;rw[Cg]at Bg;obtain⟨A1,c1,rfl,Ox,_⟩:=aS.of_own Bg.o aA;have Bi:=Hd Ox;obtain⟨q0,q1,q2,q3,q4,q5⟩:=Sx (HC.o wr Ay.o);clear Cg Ox Ad Nm Nu Oq Oo;by_cases h5:x.k=5
    . have Dv:=h5;rw[h5]at q0;obtain⟨a,Ba⟩:=sP (dP hf (m:=1) wU);have Nq:k=1:=wT;subst Nq;obtain⟨b1,Aa,rfl,Ae,Bw⟩:=Bi.o.at_ (i:=0) aA;have t0:=Bw 0 aA;rw[lU mX,Ba]at t0;simp only[Ze,Zd,Yv]at t0;have Cm:(aB (aK a)).size<=7300000:=wS;rcases hf.op5 Dv with ho|ho
      . have HE:=Hd (show(⟨#[40,45]⟩:BA)++aB (aK a)++(⟨#[41]⟩:BA)=aB tx by
         rw[Bs.o,Dv,ho,Ba];exact eT (by simp[aB,fB,gT,iE]))
        rw[ho]at q3;clear Bw Bi Fq;generalize aB (aK a)=sa at *;have z1:(9223372036854775807<2+sa.size)=False:=aW;have z2:(9223372036854775807<2+sa.size+1)=False:=aW;simp only[Nat.add_zero]at t0;go_wp2_with fail;go_ret;exact⟨iK HE.o,Ac.o.tr Ay.o⟩
      . have HE:=Hd (show(⟨#[40,110,111,116,32]⟩:BA)++aB (aK a)++(⟨#[41]⟩:BA)=aB tx by
         rw[Bs.o,Dv,ho,Ba];exact eT (by simp[aB,fB,gT,iE]))
        rw[ho]at q3;exact bG9
    by_cases h6:x.k=6
    . have Dv:=h6;rw [h6] at q0;obtain⟨a,b,Ba⟩:=kF (dP hf (m:=2) wU);have Cb:k=2:=wT;subst Cb;obtain⟨b1,Aa,rfl,Ae,Bw⟩:=Bi.o.at_ (i:=0) aA;have t0:=Bw 0 aA;rw [lU mX,Ba] at t0;simp only [Ze,Zd,Yv] at t0;have t1:=Bw 1 aA;rw [lU mX,Ba] at t1;simp only [Ze,Zd,Yv] at t1;have Cm:(aB (aK a)).size<=7300000:=wS;have Co:(aB (aK b)).size<=7300000:=aDo;obtain⟨Om,Hp⟩:=hf.op6 Dv;have Oj:=bQh x.op Om Hp;have Au:=bQi x.op Om Hp;have Pb:=Hd fun w=>bVy x.op w;have HE:=Hd (show(⟨#[40]⟩:BA)++aB (aK a)++(⟨#[32]⟩:BA)++wN x.op++(⟨#[32]⟩:BA)++aB (aK b)++(⟨#[41]⟩:BA)=aB tx by
       rw[Bs.o,Dv,Ba];exact eT (by simp[aB,fB,gT,Oj]))
      clear Bw Bi Fq Oj;generalize aB (aK a)=sa at *;generalize aB (aK b)=sb at *;generalize wN x.op=sg at *;generalize x.op=op at *;have z1:(9223372036854775807<1+sa.size)=False:=aW;have z2:(9223372036854775807<1+sa.size+1)=False:=aW;have z3:(9223372036854775807<1+sa.size+1+sg.size)=False:=aW;have z4:(9223372036854775807<1+sa.size+1+sg.size+1)=False:=aW;have z5:(9223372036854775807<1+sa.size+1+sg.size+1+sb.size)=False:=aW;have z6:(9223372036854775807<1+sa.size+1+sg.size+1+sb.size+1)=False:=aW;simp only[Nat.add_zero]at t0;have Kj:=fun d os=>Zw t0 d os;have Mb:=fun d os=>Zw t1 d os;have Kk:=fun d os=>Zw q3 d os;have cA:=fun d os=>Zl (Pb.o (grow (redrawn wr d) os));go_wp2_with fail;refine Xe aE aE ?_;repeat (quiet_step (exact cA _ _))
      refine Xk ?_;intro _ Ch;obtain⟨⟨dq,Bj⟩,Az⟩:=Ch;subst Az;have Eo:=Hd (Ay.o.trans ((Zx wr dq Bj).mono Ay.o.size));clear cA Kj Mb Kk;exact bC1
    by_cases h7:x.k=7
    . have Dv:=h7;rw [h7] at q0;obtain⟨a,b,c,Ba⟩:=vK (dP hf (m:=3) wU);have Oe:k=3:=wT;subst Oe;obtain⟨b1,Aa,rfl,Ae,Bw⟩:=Bi.o.at_ (i:=0) aA;have t0:=Bw 0 aA;rw [lU mX,Ba] at t0;simp only [Ze,Zd,Yv] at t0;have t1:=Bw 1 aA;rw [lU mX,Ba] at t1;simp only [Ze,Zd,Yv] at t1;have t2:=Bw 2 aA;rw [lU mX,Ba] at t2;simp only [Ze,Zd,Yv] at t2;have Cm:(aB (aK a)).size<=7300000:=wS;have Co:(aB (aK b)).size<=7300000:=aDo;have Cr:(aB (aK c)).size<=7300000:=bF1;have HE:=Hd (show(⟨#[40,105,102,32]⟩:BA)++aB (aK a)++(⟨#[32,116,104,101,110,32]⟩:BA)++aB (aK b)++(⟨#[32,101,108,115,101,32]⟩:BA)++aB (aK c)++(⟨#[41]⟩:BA)=aB tx by
       rw[Bs.o,Dv,Ba];exact eT aDn)
      clear Bw Bi Fq;generalize aB (aK a)=sa at *;generalize aB (aK b)=sb at *;generalize aB (aK c)=sc at *;have z1:(9223372036854775807<4+sa.size)=False:=aW;have z2:(9223372036854775807<4+sa.size+6)=False:=aW;have z3:(9223372036854775807<4+sa.size+6+sb.size)=False:=aW;have z4:(9223372036854775807<4+sa.size+6+sb.size+6)=False:=aW;have z5:(9223372036854775807<4+sa.size+6+sb.size+6+sc.size)=False:=aW;have z6:(9223372036854775807<4+sa.size+6+sb.size+6+sc.size+1)=False:=aW;exact bGp
    by_cases h8:x.k=8
    . have Dv:=h8;rw [h8] at q0;obtain⟨a,b,Ba⟩:=kF (dP hf (m:=2) wU);have Cb:k=2:=wT;subst Cb;obtain⟨b1,Aa,rfl,Ae,Bw⟩:=Bi.o.at_ (i:=0) aA;have t0:=Bw 0 aA;rw [lU mX,Ba] at t0;simp only [Ze,Zd,Yv] at t0;have t1:=Bw 1 aA;rw [lU mX,Ba] at t1;simp only [Ze,Zd,Yv] at t1;have Cm:(aB (aK a)).size<=7300000:=wS;have Co:(aB (aK b)).size<=7300000:=aDo;have HE:=Hd (show(⟨#[40]⟩:BA)++aB (aK a)++(⟨#[32,102,98,121,32]⟩:BA)++aB (aK b)++(⟨#[41]⟩:BA)=aB tx by
       rw[Bs.o,Dv,Ba];exact eT aDn)
      clear Bw Bi Fq;generalize aB (aK a)=sa at *;generalize aB (aK b)=sb at *;have z1:(9223372036854775807<1+sa.size)=False:=aW;have z2:(9223372036854775807<1+sa.size+5)=False:=aW;have z3:(9223372036854775807<1+sa.size+5+sb.size)=False:=aW;have z4:(9223372036854775807<1+sa.size+5+sb.size+1)=False:=aW;exact aRa
    by_cases h9:x.k=9
    . have Dv:=h9;rw [h9] at q0;obtain⟨a,b,Ba⟩:=kF (dP hf (m:=2) wU);have Cb:k=2:=wT;subst Cb;obtain⟨b1,Aa,rfl,Ae,Bw⟩:=Bi.o.at_ (i:=0) aA;have t0:=Bw 0 aA;rw [lU mX,Ba] at t0;simp only [Ze,Zd,Yv] at t0;have t1:=Bw 1 aA;rw [lU mX,Ba] at t1;simp only [Ze,Zd,Yv] at t1;have Cm:(aB (aK a)).size<=7300000:=wS;have Co:(aB (aK b)).size<=7300000:=aDo;have HE:=Hd (show(⟨#[40]⟩:BA)++aB (aK a)++(⟨#[32,45,62,32]⟩:BA)++aB (aK b)++(⟨#[41]⟩:BA)=aB tx by
       rw[Bs.o,Dv,Ba];exact eT aDn)
      clear Bw Bi Fq;generalize aB (aK a)=sa at *;generalize aB (aK b)=sb at *;have z1:(9223372036854775807<1+sa.size)=False:=aW;have z2:(9223372036854775807<1+sa.size+4)=False:=aW;have z3:(9223372036854775807<1+sa.size+4+sb.size)=False:=aW;have z4:(9223372036854775807<1+sa.size+4+sb.size+1)=False:=aW;exact aRa
    by_cases Nv:x.k=10
    . have Dv:=Nv;rw [Nv] at q0;obtain⟨a,Ba⟩:=sP (dP hf (m:=1) wU);have Nq:k=1:=wT;subst Nq;obtain⟨b1,Aa,rfl,Ae,Bw⟩:=Bi.o.at_ (i:=0) aA;have t0:=Bw 0 aA;rw [lU mX,Ba] at t0;simp only [Ze,Zd,Yv] at t0;have Cm:(aB (aK a)).size<=7300000:=wS;have HE:=Hd (show(⟨#[40,112,114,101,32]⟩:BA)++aB (aK a)++(⟨#[41]⟩:BA)=aB tx by
       rw[Bs.o,Dv,Ba];exact eT aDn)
      exact bG9
    by_cases h11:x.k=11
    . have Dv:=h11;rw[h11]at q0;obtain⟨a,Ba⟩:=sP (dP hf (m:=1) wU);have Nq:k=1:=wT;subst Nq;obtain⟨b1,Aa,rfl,Ae,Bw⟩:=Bi.o.at_ (i:=0) aA;have t0:=Bw 0 aA;rw[lU mX,Ba]at t0;simp only[Ze,Zd,Yv]at t0;have Cm:(aB (aK a)).size<=7300000:=wS;obtain⟨m,hm⟩:∃m,x.arms=[m]:=by
       have h:=hf.a11 Dv
       match hl:x.arms,h with
       |[m],_=>exact⟨m,rfl⟩
      have Ou:=aIp (hf.arms m aJm);have Pk:m.size<=12:=by simpa using Ou
      have Hf:=Dx.o wr (Ac.o.tr Ay.o);rw[hm]at Hf q4;simp only[Yq,Zg,Nat.zero_add]at Hf q4;obtain⟨b2,Nz,Pa,Ny,Fs⟩:=Hf.at_ (i:=0) aA;subst Pa;have m0:=Fs 0 aA;simp only[Zd,Yv,Nat.add_zero]at m0;have Ov:x.s.size<=7000:=Jx.1;have Qf:(aB (kH x.s.data.toList m.data.toList)).size<=7018:=by
       rw[iJ];have h1:=bA3 (s:=x.s.data.toList) (m:=m.data.toList);have h2:x.s.data.toList.length=x.s.size:=aC;omega
      have Gg:=Hd fun w=>bFj x.s m w aA aA;have HE:=Hd (show(⟨#[40]⟩:BA)++aB (aK a)++(⟨#[32,119,104,101,110,32]⟩:BA)++aB (kH x.s.data.toList m.data.toList)++(⟨#[41]⟩:BA)=aB tx by
       rw[Bs.o,Dv,Ba,hm];exact eT (by simp[aB,fB,gT,gR]))
      clear Bw Bi Fq Fs Hf Dx Ou;generalize aB (kH x.s.data.toList m.data.toList)=so at *;generalize aB (aK a)=sa at *;generalize x.s=nm at *;have z1:(9223372036854775807<1+sa.size)=False:=aW;have z2:(9223372036854775807<1+sa.size+6)=False:=aW;have z3:(9223372036854775807<1+sa.size+6+so.size)=False:=aW;have z4:(9223372036854775807<1+sa.size+6+so.size+1)=False:=aW;simp only[Nat.add_zero]at t0;have Kj:=fun d os=>Zw t0 d os;have Km:=fun d os=>Zw q2 d os;have Jz:=fun d os=>Zw q4 d os;have Oc:=fun d os=>Zw m0 d os;have cA:=fun d os=>Zl (Gg.o (grow (redrawn wr d) os));go_wp2_with fail;refine Xe aE aE ?_;repeat (quiet_step (exact cA _ _))
      refine Xk ?_;intro _ Ch;obtain⟨⟨dq,Bj⟩,Az⟩:=Ch;subst Az;have Eo:=Hd (Ay.o.trans ((Zx wr dq Bj).mono Ay.o.size));clear cA Kj Km Jz Oc;exact bC1
    by_cases Cy:x.k=12
    . have Dv:=Cy;rw[Cy]at q0;have Od:x.arms.length=k:=by
       have h1:=hf.hi;have h2:=hf.lo;rw[show cO x=((x.arms.length:Int),(x.arms.length:Int))by simp[cO,Dv],Fe.o]at h1 h2;simp only at h1 h2;omega
      have Py:k<=6:=by have:=hf.a12 Dv;omega
      have Ov:x.s.size<=7000:=Jx.1;have HAL:=Hd fun a (ha:a∈x.arms)=>aIp (hf.arms a ha);have Ol:=Hd fun j (hj:j<=6)=>cBj (x:=x) (j:=j) HAL.o Ov Oh.o hj;have Jp:=Hd fun j (hj:j<k)=>bYi (x:=x) (j:=j) aA aO6;have Ph:=Hd (show(⟨#[40,109,101,114,103,101,32]⟩:BA)++x.s=aB (pF x 0) from eT (by simp [aB,pF,jO,nW]));have Po:=Hd (show aB (pF x k)++(⟨#[41]⟩:BA)=aB tx by
       rw[Bs.o,Dv]
       exact eT (by
        unfold pF;rw[Yz cP,Yz (by simp[Fe.o])];simp[aB,fB]))
      have Hf:=Dx.o wr (Ac.o.tr Ay.o);rw [Od] at Hf q4;have Pd:=Hd Hf;have Cx:=Hd (Ac.o.tr Ay.o);have Og:=Hd fun j (hj:j<k)=>(show(rL x.subs)[j]?.getD ByteArray.empty=aB (aK (bI x j)) from lU aO6);have Oi:=Hd fun j (hj:j<k)=>(show(aB (aK (bI x j))).size<=7300000 by rw [iJ];exact Fq.o _ (zS aO6));have Ow:=Hd fun j (hj:j<k)=>(show(x.arms[j]?.getD ByteArray.empty).size<=12 by
       rw[Yk aA,Yv]
       have:=HAL.o _ (Zk (by omega:j<x.arms.length))
       simpa using this)
      clear Hf Fq HAL Oh;have zn:(9223372036854775807<7+x.s.size)=False:=aW;have Pi:=Hd Od;clear Od Dv Cy;generalize wr=wo at *;go_wp2_with fail;go_loopw [5,6] (fun s i wq=>∃j:Nat,j<=k/\i=.int .i64 j/\s=.string (aB (pF x j))/\Below wo.heap.size wo wq) (fun _ i _=>k-(intOf i).toNat)
      case atStart=>exact⟨0,Ys _,rfl,by rw[<-Ph.o],Yg _ _⟩
      case round=>
       obtain⟨j,hj,rfl,rfl,Nr⟩:=hrel;have Oa:=Hd Nr;have Ok:=Ol.o j aA;have Pk:(aB (pF x j)).size<=7310000:=by rw[iJ];exact Ok
       clear Ok;by_cases Ni:j<k
       . have q4:=HC.o wr (Ay.o.tr Nr) 4;rw [Pi.o] at q4;obtain⟨b1,Aa,rfl,Ae,Bw⟩:=(Bi.o.below Nr).at_ Ni;obtain⟨b2,Nz,rfl,Ny,Fs⟩:=(Pd.o.below Nr).at_ Ni;have t0:=Bw j Ni;have m0:=Fs j Ni;rw [Og.o j Ni] at t0;have Pp:=Oi.o j Ni;have Qa:=Ow.o j Ni;have HE:=Hd (show aB (pF x j)++(⟨#[32,40]⟩:BA)++(x.arms[j]?.getD ByteArray.empty)++(⟨#[32,45,62,32]⟩:BA)++aB (aK (bI x j))++⟨#[41]⟩=aB (pF x (j+1)) by
          rw[Jp.o j Ni];exact eT aDu)
         clear Bw Fs Nr Og Oi Ow Jp Ol q0 q1 q2 q3 q5;generalize aB (pF x j)=sv at *;generalize x.arms[j]?.getD ByteArray.empty=sm at *;generalize aB (aK (bI x j))=st at *;have z1:(9223372036854775807<sv.size+2)=False:=aW;have z2:(9223372036854775807<sv.size+2+sm.size)=False:=aW;have z3:(9223372036854775807<sv.size+2+sm.size+4)=False:=aW;have z4:(9223372036854775807<sv.size+2+sm.size+4+st.size)=False:=aW;have z5:(9223372036854775807<sv.size+2+sm.size+4+st.size+1)=False:=aW;have Kj:=fun d os=>Zw t0 d os;have Oc:=fun d os=>Zw m0 d os;have Jz:=fun d os=>Zw q4 d os;go_wp2_with fail;refine Xe aE aE ?_;repeat (quiet_step (fail))
         refine Xk ?_;intro _ Ch;obtain⟨⟨dq,Bj⟩,Az⟩:=Ch;subst Az;have Eo:=Hd (Oa.o.trans ((Zx wr dq Bj).mono Oa.o.size));clear Kj Oc Jz;generalize grow (redrawn wr dq) Bj=w5 at *;go_wp2_with fail;go_roundw;case rel=>exact⟨j+1,by omega,by go_num,by rw[<-HE.o],Eo.o⟩
         case measure=>simp[intOf];omega
       . have Hy:j=k:=by omega
         subst Hy;have HE:=Hd Po.o;generalize aB (pF x j)=sv at *;have z1:(9223372036854775807<sv.size+1)=False:=aW;go_wp2_with fail;go_ret;exact⟨iK HE.o,Cx.o.tr Oa.o⟩
    by_cases Nt:x.k=13
    . have Dv:=Nt;rw[Nt]at q0;have Cx:=Hd (Ac.o.tr Ay.o);rcases hf.n2 (.inr Dv)with h0|h0
      . have HE:=Hd (show aB (oW 0 x.s.data.toList (x.subs.map aK))=aB tx by rw[Bs.o,Dv,h0];simp[fB]);have Bq:=Hd (Nj.o wr Cx.o Dv h0);rw[Dv,h0]at Bq;rw[h0]at q1;exact aKz
      . obtain⟨l,y,Ia⟩:∃l y,x.subs=l++[y]:=by
         rcases List.eq_nil_or_concat x.subs with he|⟨l,y,he⟩
         . have h:=hf.lo;rw[show cO x=(x.n,6+x.n)by simp[cO,Dv],h0,he]at h;simp at h
         . exact⟨l,y,by rw[he,List.concat_eq_append]⟩
        have HE:=Hd (show aB (oW 1 x.s.data.toList (x.subs.map aK))=aB tx by rw[Bs.o,Dv,h0];simp[fB]);have Bq:=Hd (Ct.o wr Cx.o l y Dv h0 Ia);rw[Dv,h0]at Bq;rw[h0]at q1;clear Ia;exact aKz
    by_cases Eh:x.k=14
    . have Dv:=Eh;rw [Eh] at q0;have Cx:=Hd (Ac.o.tr Ay.o);have Ot:(x.subs.map aK).take k=x.subs.map aK:=Yz (by simp [Fe.o]);have Bq:=Hd (Np.o cb wr Cx.o);rw [Ot] at Bq;have HE:=Hd (show(⟨#[91]⟩:BA)++aB (eN (x.subs.map aK))++⟨#[93]⟩=aB tx by
       rw[Bs.o,Dv];exact eT (by simp[aB,fB]))
      have Px:(aB (eN (x.subs.map aK))).size<=7310000:=by
       rw[iJ];exact Pe.o
      clear Ot;generalize aB (eN (x.subs.map aK))=jt at *;have z1:(9223372036854775807<1+jt.size)=False:=aW;have z2:(9223372036854775807<1+jt.size+1)=False:=aW;exact aKz
    by_cases Ek:x.k=15
    . have Dv:=Ek;rw [Ek] at q0;obtain⟨a,b,Ba⟩:=kF (dP hf (m:=2) wU);have Cb:k=2:=wT;subst Cb;obtain⟨b1,Aa,rfl,Ae,Bw⟩:=Bi.o.at_ (i:=0) aA;have t0:=Bw 0 aA;rw [lU mX,Ba] at t0;simp only [Ze,Zd,Yv] at t0;have t1:=Bw 1 aA;rw [lU mX,Ba] at t1;simp only [Ze,Zd,Yv] at t1;have Cm:(aB (aK a)).size<=7300000:=wS;have Co:(aB (aK b)).size<=7300000:=aDo;have HE:=Hd (show aB (aK a)++(⟨#[91]⟩:BA)++aB (aK b)++(⟨#[93]⟩:BA)=aB tx by
       rw[Bs.o,Dv,Ba];exact eT aDn)
      clear Bw Bi Fq;generalize aB (aK a)=sa at *;generalize aB (aK b)=sb at *;have z1:(9223372036854775807<sa.size+1)=False:=aW;have z2:(9223372036854775807<sa.size+1+sb.size)=False:=aW;have z3:(9223372036854775807<sa.size+1+sb.size+1)=False:=aW;exact aRa
    by_cases Fh:x.k=16
    . have Dv:=Fh;rw [Fh] at q0;obtain⟨a,b,c,Ba⟩:=vK (dP hf (m:=3) wU);have Oe:k=3:=wT;subst Oe;obtain⟨b1,Aa,rfl,Ae,Bw⟩:=Bi.o.at_ (i:=0) aA;have t0:=Bw 0 aA;rw [lU mX,Ba] at t0;simp only [Ze,Zd,Yv] at t0;have t1:=Bw 1 aA;rw [lU mX,Ba] at t1;simp only [Ze,Zd,Yv] at t1;have t2:=Bw 2 aA;rw [lU mX,Ba] at t2;simp only [Ze,Zd,Yv] at t2;have Cm:(aB (aK a)).size<=7300000:=wS;have Co:(aB (aK b)).size<=7300000:=aDo;have Cr:(aB (aK c)).size<=7300000:=bF1;have HE:=Hd (show(⟨#[40]⟩:BA)++aB (aK a)++(⟨#[32,119,105,116,104,32,91]⟩:BA)++aB (aK b)++(⟨#[93,32,61,32]⟩:BA)++aB (aK c)++(⟨#[41]⟩:BA)=aB tx by
       rw[Bs.o,Dv,Ba];exact eT aDn)
      clear Bw Bi Fq;generalize aB (aK a)=sa at *;generalize aB (aK b)=sb at *;generalize aB (aK c)=sc at *;have z1:(9223372036854775807<1+sa.size)=False:=aW;have z2:(9223372036854775807<1+sa.size+7)=False:=aW;have z3:(9223372036854775807<1+sa.size+7+sb.size)=False:=aW;have z4:(9223372036854775807<1+sa.size+7+sb.size+4)=False:=aW;have z5:(9223372036854775807<1+sa.size+7+sb.size+4+sc.size)=False:=aW;have z6:(9223372036854775807<1+sa.size+7+sb.size+4+sc.size+1)=False:=aW;exact bGp
    have Cx:=Hd (Ac.o.tr Ay.o);have HE:=Hd (show aB (sG x.k x.n x.s.data.toList)=aB tx by rw[Bs.o];simp[fB,h5,h6,h7,h8,h9,Nv,h11,Cy,Nt,Eh,Ek,Fh]);have Bq:=Hd (Ng.o wr Cx.o);have e5:(x.k==5)=false:=aGl;have e6:(x.k==6)=false:=aJh;have e7:(x.k==7)=false:=by simpa using h7
    have e8:(x.k==8)=false:=by simpa using h8
    have e9:(x.k==9)=false:=by simpa using h9
    have Qc:(x.k==10)=false:=by simpa using Nv
    have Qd:(x.k==11)=false:=by simpa using h11
    have Pq:(x.k==12)=false:=by simpa using Cy
    have Pu:(x.k==13)=false:=by simpa using Nt
    have Pz:(x.k==14)=false:=by simpa using Eh
    have Pr:(x.k==15)=false:=by simpa using Ek
    have Pw:(x.k==16)=false:=by simpa using Fh
    exact aKz
def vB(x:Ex):ByteArray:=if bJ x=true then aB (aK x)else⟨#[]⟩
theorem aUn{x:Ex}(h:bJ x=true):aT x<=60:=by
 simp only[bJ,Yu,Bool.not_eq_true',decide_eq_false_iff_not]at h;omega
theorem bYk(x:Ex)(A:OA)(ca:Nat)(B:OA)(cb:Nat)(w:World)(hr:aM w x A B)(Bs:x.k=13->x.subs.length<=cb)(hc:iU w x B)(hs:aT x<=1000000)(Aq:∀p∈bP x,eS p)(hn:∀p∈bP x,qX p):
 Calls Tryz.prog 72 #[.agg (aJ x A ca B cb)] w fun e w'=>e=.returned (.string (vB x))/\Below w.heap.size w w':=by
 have HF:=Hd fun w1 h=>gH w x A ca B cb w1 h hr;have Aa:=Hd fun w1 (h:Below w.heap.size w w1)=>aWs x A ca B cb w1 (hr.below h) hs Aq;have Ae:=Hd fun(hx:bJ x=true) w1 (h:Below w.heap.size w w1)=>bYj x (aH7 hx) hn (by have:=aUn hx;omega) A ca B cb w1 (hr.below h) Bs (hc.below hr h);have HS:=Hd (show vB x=if bJ x=true then aB (aK x)else⟨#[]⟩from rfl);clear hr hc Aq hn;unfold aJ at HF Aa Ae⊢;generalize vB x=ts at *;generalize bJ x=rx at *;cases rx with
 |false=>
  have HE:=Hd (show(⟨#[]⟩:BA)=ts by rw[HS.o];rfl);go_in
  go_upto_region 1 with(fail);generalize Af:w.alloc _=w1;obtain⟨Ab,hg,Al,hcell⟩:=HF.o w1 Af;have Ac:=Hd Ab;obtain⟨q0,q1,q2,q3,q4,q5⟩:=Sx (hcell w1 (Yg _ _));clear hcell Ab Al Af HF;go_wp2_with fail;refine(Aa.o w1 Ac.o).mono ?_;rintro r w2 ⟨rfl,hb⟩;have Ai:=Hd (Ac.o.tr hb);clear hb;go_wp2_with fail;go_ret;exact⟨iK HE.o,Ai.o⟩
 |true=>
  have HE:=Hd (show aB (aK x)=ts by rw[HS.o];rfl);go_in
  go_upto_region 1 with(fail);generalize Af:w.alloc _=w1;obtain⟨Ab,hg,Al,hcell⟩:=HF.o w1 Af;have Ac:=Hd Ab;have HC:=Hd hcell;obtain⟨q0,q1,q2,q3,q4,q5⟩:=Sx (hcell w1 (Yg _ _));clear hcell Ab Al Af HF;go_wp2_with fail;refine(Aa.o w1 Ac.o).mono ?_;rintro r w2 ⟨rfl,hb⟩;have Ai:=Hd (Ac.o.tr hb);have Cj:=Hd hb;clear hb q0 q1 q2 q3 q4 q5;obtain⟨q0,q1,q2,q3,q4,q5⟩:=Sx (HC.o w2 Cj.o);go_wp2_with fail;refine(Ae.o lY w2 Ai.o).mono ?_;rintro r w3 ⟨rfl,hb⟩;have Aj:=Hd (Ai.o.tr hb);clear hb;go_wp2_with fail;go_ret;exact⟨iK HE.o,Aj.o⟩
end
end Go.Proofs.YtagkcjpoipcpkaaGreatDoor
