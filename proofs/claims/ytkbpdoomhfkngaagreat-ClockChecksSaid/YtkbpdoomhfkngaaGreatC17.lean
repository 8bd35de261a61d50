/- A part of the proof. Conditions: each theorem's own. -/
import Derived.Test.YtkbpdoomhfkngaaGreatC10
import Derived.Test.YtkbpdoomhfkngaaGreatC14
namespace Go.Proofs.YtkbpdoomhfkngaaGreat
set_option linter.unusedVariables false
set_option linter.unusedSimpArgs false
set_option maxRecDepth 100000
set_option maxHeartbeats 40000000
section
open Go.RowKit Go.Sort Go.BigFrame
theorem Xe:type_of% @setCell_eq_setRow:=@setCell_eq_setRow
end
section
open Go.RowKit Go.Sort
theorem jD(a b c a' b' c':Int):(a=a'/\b=b'/\c=c'/\(((a,b,c):T3)=(a',b',c')))\/((a==a')=false/\¬((a,b,c):T3)=(a',b',c'))\/(a=a'/\(b==b')=false/\¬((a,b,c):T3)=(a',b',c'))\/(a=a'/\b=b'/\(c==c')=false/\¬((a,b,c):T3)=(a',b',c')):=by
 by_cases h1:a=a'
 . by_cases h2:b=b'
   . by_cases h3:c=c';· exact .inl ⟨h1,h2,h3,by rw[h1,h2,h3]⟩
     . exact .inr (.inr (.inr ⟨h1,h2,by simpa using h3,fun e=>h3 aPy⟩))
   . exact .inr (.inr (.inl ⟨h1,by simpa using h2,fun e=>h2 aPy⟩))
 . exact .inr (.inl ⟨by simpa using h1,fun e=>h1 zN⟩)
theorem kN{T:TypeId}{W:World}{g:Nat}{a b c:Int}(h:F3 T W g a b c)(x y z:Int):
 ((W.setCell ⟨g,0,none⟩ (.int .i64 x)).setCell ⟨g,1,none⟩ (.int .i64 y)).setCell ⟨g,2,none⟩ (.int .i64 z)=W.setRow g (aF x y z):=by
 unfold F3 at h;rw[Xe _ _ _ _ _ _ _ h];have h1:=Xd _ _ _ ((aF a b c).setIfInBounds 0 (.int .i64 x)) _ _ h;rw[Xe _ _ _ _ _ _ _ h1,setRow_setRow];have h2:=Xd _ _ _ (((aF a b c).setIfInBounds 0 (.int .i64 x)).setIfInBounds 1 (.int .i64 y)) _ _ h;rw[Xe _ _ _ _ _ _ _ h2,setRow_setRow];rfl
theorem tL{T:TypeId}{w w2 w4:World}{r:Nat}{a b c x y z:Int}(hT:F3 T w2 r a b c)(hb:Below w.heap.size w w2)(hr:w.heap.size<=r)
 (h:(((w2.setCell ⟨r,0,none⟩ (.int .i64 x)).setCell ⟨r,1,none⟩ (.int .i64 y)).setCell ⟨r,2,none⟩ (.int .i64 z)).drew=w4):F3 T w4 r x y z/\Below w.heap.size w w4:=by
 rw[kN hT]at h;subst h;exact⟨hT.set x y z,Below.drew (Xc hb hr _)⟩
theorem aXg(a b c:Int):fV (a,b,c)=bB 2 a b c:=by
 unfold fV bB;rcases jD a b c 2 0 0 with⟨h1,h2,h3,h⟩|⟨h1,h⟩|⟨h1,h2,h⟩|⟨h1,h2,h3,h⟩<;>simp_all
theorem aXh(a b c:Int):lU (a,b,c)=bB 1 a b c:=by
 unfold lU bB;rcases jD a b c 1 0 0 with⟨h1,h2,h3,h⟩|⟨h1,h⟩|⟨h1,h2,h⟩|⟨h1,h2,h3,h⟩<;>simp_all
theorem aBq(a b c:Int)(w:World):Calls Tryz.prog 89 #[.agg (aF a b c)] w fun e w'=>e=.returned (.bool (fV (a,b,c)))/\Below w.heap.size w w':=by
 have HB:=Hd ((Yg w.heap.size w).alloc (Yh _) (.cells #[.int .i64 a,.int .i64 b,.int .i64 c] 41));have Gj:=Hd (aO2 w 41 (.int .i64 a) (.int .i64 b) (.int .i64 c));rw[aXg];unfold aF;rcases pN 2 a b c with⟨rfl,rfl,rfl,h⟩|⟨h1,h⟩|⟨rfl,h1,h⟩|⟨rfl,rfl,h1,h⟩;all_goals exact aMv
theorem aHl(a b c:Int)(w:World):Calls Tryz.prog 163 #[.agg (aF a b c)] w fun e w'=>e=.returned (.bool (lU (a,b,c)))/\Below w.heap.size w w':=by
 have HB:=Hd ((Yg w.heap.size w).alloc (Yh _) (.cells #[.int .i64 a,.int .i64 b,.int .i64 c] 41));have Gj:=Hd (aO2 w 41 (.int .i64 a) (.int .i64 b) (.int .i64 c));rw[aXh];unfold aF;rcases pN 1 a b c with⟨rfl,rfl,rfl,h⟩|⟨h1,h⟩|⟨rfl,h1,h⟩|⟨rfl,rfl,h1,h⟩;all_goals exact aMv
theorem aJs(a b c:Int)(w:World):Calls Tryz.prog 162 #[.agg (aF a b c)] w fun e w'=>e=.returned (.agg (aF a b 0))/\Below w.heap.size w w':=by
 unfold aF;go_in
 go_upto_region 1 with(fail);generalize Ai:(w.alloc _).alloc _=w0;have h1:F3 41 w0 w.heap.size a b c/\F3 41 w0 (w.heap.size+1) 0 0 0/\Below w.heap.size w w0:=by
  subst Ai;refine⟨hZ _ (Zx _ _),?_,((Yg _ _).alloc (Yh _) _).alloc aG _⟩;have h:=F3.new 41 (w.alloc (.cells (aF a b c) 41)) 0 0 0;rwa[show(w.alloc (.cells (aF a b c) 41)).heap.size=w.heap.size+1 by simp]at h
 obtain⟨ha,hb,Bx⟩:=h1;have q2:=ha.cell 2;simp only[aF,List.getElem?_toArray,Yz,Zb]at q2;have fz:=frozen_of_row w0 w.heap.size 2 _ _ ha;clear Ai;go_upto_region 2 with(fail);generalize Ag:w0.setCell ⟨w.heap.size,2,none⟩ (.int .i64 0)=w1;have h2:F3 41 w1 w.heap.size a b 0/\F3 41 w1 (w.heap.size+1) 0 0 0/\Below w.heap.size w w1:=by
  rw[<-Ag,Xe _ _ _ _ _ _ _ ha,show(aF a b c).setIfInBounds 2 (.int .i64 0)=aF a b 0 from rfl];exact⟨Xd _ _ _ _ _ _ ha,(setRow_other _ _ _ _ aA).trans hb,Xc Bx (Yh _) _⟩
 obtain⟨Bp,Aa,Aq⟩:=h2;have HA:=Hd Bp;have Ac:=Hd Aa;have HL:=Hd Aq;clear ha hb Bx q2 fz Ag Bp Aa Aq;go_wp2_with (first|(refine wpList_load_row rfl _ _ rfl w.heap.size rfl _ _ _ _ HA.o Tryz.underlying41 rfl cW ?_)|(refine Zv rfl _ _ _ rfl (w.heap.size+1) _ rfl rfl _ _ Ac.o cW rfl (by simp[Value.oneCell',aF]) ?_));exact Zu (zK (p:=2) rfl _ _ (w.heap.size+1) a b 0 rfl (Ac.o.set a b 0)) rfl ⟨rfl,Xc HL.o aA _⟩
theorem iB{w w0:World}{T:TypeId}{a b c:Int}(h:w.alloc (.cells (aF a b c) T)=w0):Below w.heap.size w w0/\F3 T w0 w.heap.size a b c/\w0.heap.size=w.heap.size+1:=by
 exact aN9
theorem F3.three{T:TypeId}{W:World}{g:Nat}{a b c:Int}(h:F3 T W g a b c):W.cell? ⟨g,0,none⟩=some (.int .i64 a)/\W.cell? ⟨g,1,none⟩=some (.int .i64 b)/\W.cell? ⟨g,2,none⟩=some (.int .i64 c):=
 ⟨h.cell 0,h.cell 1,h.cell 2⟩
theorem aXi(l:Option Addr)(n cc:Nat)(es:List En)(a b c:Int)(S:Option Addr)(m d:Nat)(arms:List ByteArray)(w:World)(hE:bU w l n es)(hS:aP w S m arms)(hr:bQ es.length a b c=true):
 Calls Tryz.prog 159 #[.slice l n cc,.agg (aF a b c),.slice S m d] w fun e w'=>e=.returned (.bool (kQ es (a,b,c) arms))/\Below w.heap.size w w':=by
 have Jx:=hS.len;have hmm:=hS.max;have Ob:=hE.len;have Df:=hE.max;have Bt:=Hd fun w0 h=>iB (w:=w) (w0:=w0) (T:=41) (a:=a) (b:=b) (c:=c) h;have HT:=Hd fun w1=>aBq a b c w1;have Bx:=Hd fun w1 (hb:Below w.heap.size w w1)=>hS.below hb;have Nu:=Hd fun w1 (hb:Below w.heap.size w w1)=>hE.below hb;have HR:=Hd hr;have HA:=Hd (show kQ es (a,b,c) arms=if fV (a,b,c)=true then decide (arms.length=2) && (((arms[0]?.getD ByteArray.empty).toList==[116,114,117,101]) && ((arms[1]?.getD ByteArray.empty).toList==[102,97,108,115,101]))
  else decide (a=3) && (decide (c=0) && eK arms (cM es b.toNat))from rfl)
 clear hE hS hr;generalize kQ es (a,b,c) arms=Au at *;generalize fV (a,b,c)=t at *;cases t with
 |true=>
  rw[if_pos rfl]at HA;unfold aF at Bt HT⊢;by_cases h2:m=2
  . subst h2;rw[Jx]at HA;obtain⟨sb,so,rfl,Az,Bp⟩:=(Bx.o w (Yg _ _)).at_ (i:=0) aA;have s0:=Bp 0 aA;have s1:=Bp 1 aA;generalize arms[0]?.getD ByteArray.empty=x at *;generalize arms[1]?.getD ByteArray.empty=y at *;go_in
    go_upto_region 1 with(fail);generalize Ai:w.alloc _=w0;obtain⟨Ae,hF,Al⟩:=Bt.o w0 Ai;have Af:=Hd Ae;obtain⟨q0,q1,q2⟩:=hF.three;have r0:=(Ae.cell (p:=⟨sb,so+0,none⟩) Az).trans s0;have r1:=(Ae.cell (p:=⟨sb,so+1,none⟩) Az).trans s1;rw[Nat.add_zero]at r0;clear Ai Ae hF Al Bt Bp s0 s1;go_wp2_with fail;refine(HT.o w0).mono ?_;rintro e w1 ⟨rfl,Aa⟩;have Aq:sb<w0.heap.size:=Yr Az Af.o.size;have Ac:=Hd (Af.o.tr Aa);have r0:=(Aa.cell (p:=⟨sb,so,none⟩) Aq).trans r0;have r1:=(Aa.cell (p:=⟨sb,so+1,none⟩) Aq).trans r1;clear Aa q0 q1 q2;cases hx:(x.toList==[116,114,117,101])with
    |false=>
     rw[hx]at HA;go_wp2_with fail;go_ret;exact⟨aL (by rw[HA.o];rfl),Ac.o⟩
    |true=>
     rw[hx]at HA;cases hy:(y.toList==[102,97,108,115,101])with
     |false=>
      exact aOa
     |true=>
      exact aOa
  . have HN:=Hd (show Au=false by rw[HA.o,Jx,Zz h2];rfl);have An:((m:Int)==2)=false:=mV;go_in
    go_upto_region 1 with(fail);generalize Ai:w.alloc _=w0;obtain⟨Ae,hF,Al⟩:=Bt.o w0 Ai;have Af:=Hd Ae;obtain⟨q0,q1,q2⟩:=hF.three;clear Ai Ae hF Al Bt;go_wp2_with fail;refine(HT.o w0).mono ?_;rintro e w1 ⟨rfl,Aa⟩;have Ac:=Hd (Af.o.tr Aa);clear Aa q0 q1 q2;exact zU
 |false=>
  rw[if_neg aG]at HA;have Gi:=Hd fun w1 w2 (hF:F3 41 w1 w.heap.size a b c)(hb:Below w1.heap.size w1 w2)=>(hF.below hb).three;unfold aF at Bt HT⊢;by_cases h3:a=3
  . subst h3;by_cases h0:c=0
    . subst h0;obtain⟨k,rfl,hk⟩:∃k:Nat,b=(k:Int)/\k<n:=by
       have h:=HR.o;rw[Ob]at h;unfold bQ at h;simp at h;exact⟨b.toNat,by omega,by omega⟩
      obtain⟨eb,eo,rfl,Oa,Nt⟩:=(Nu.o w (Yg _ _)).at_ hk;obtain⟨_,B,nb,cb,e1,hB⟩:=Nt k hk;have Nv:=Hd fun w1 (hb:Below w.heap.size w w1)=>hB.below hb;have Oc:=hB.len;have Od:=hB.max;rw[Int.toNat_natCast]at HA;generalize hcs:cM es k=cs at *;clear Nt hB hcs;go_in
      go_upto_region 1 with(fail);generalize Ai:w.alloc _=w0;obtain⟨Ae,hF,Al⟩:=Bt.o w0 Ai;have Af:=Hd Ae;have Mf:=Hd hF;obtain⟨q0,q1,q2⟩:=hF.three;clear Ai Ae hF Al Bt;go_wp2_with fail;refine(HT.o w0).mono ?_;rintro e w1 ⟨rfl,Aa⟩;have Ac:=Hd (Af.o.tr Aa);obtain⟨q0,q1,q2⟩:=Gi.o w0 w1 Mf.o Aa;have e1:=(Ac.o.cell (p:=⟨eb,eo+k*2+1,none⟩) Oa).trans e1;clear Aa Mf Gi;by_cases Nz:m=nb
      . subst Nz;have An:((m:Int) !=(m:Int))=false:=aG;have Fe:=Hd (Bx.o w1 Ac.o);have Nx:=Hd (Nv.o w1 Ac.o);have HA:=Hd (show Au=eK arms cs by rw[HA.o];simp);clear Bx Nv Nu HT HR;have Im:k<n:=hk;go_wp2_with fail;go_loopw [7] (fun i wr=>∃j:Nat,j<=m/\i=.int .i64 j/\vN arms cs j/\∃p,wr=w1.drewN p) (fun i _=>m-(intOf i).toNat)
        case atStart=>exact⟨0,Yq _,rfl,fun j hj=>absurd hj aA,0,rfl⟩
        case round=>
         obtain⟨j,hj,rfl,Bc,p,rfl⟩:=hrel;have Cg:=Hd Bc;clear Bc;by_cases Ah:j<m
         . obtain⟨b1,o1,rfl,Aa,Nw⟩:=Fe.o.at_ Ah;obtain⟨b2,o2,rfl,Ad,Gb⟩:=Nx.o.at_ Ah;have u1:=Nw j Ah;have u2:=Gb j Ah;have HN:=Hd fun h=>aGi Cg.o h;have HG:=Hd fun h=>aI9 (a:=arms) (b:=cs) (k:=j) aA aA h;clear Nw Gb;generalize arms[j]?.getD ByteArray.empty=x at u1 HN HG;generalize cs[j]?.getD ByteArray.empty=y at u2 HN HG;by_cases he:(x.toList==y.toList)=true
           . have HN:=Hd (HN.o he);have Ny:(x.toList !=y.toList)=false:=aAr;go_wp2_with fail;go_quiet (fail);go_wp2_with fail;go_roundw;case rel=>exact⟨j+1,by omega,by go_num,HN.o,_,rfl⟩
             case measure=>simp[intOf];omega
           . have he:(x.toList==y.toList)=false:=by simpa using he
             have HG:=Hd (HG.o he);have Ny:(x.toList !=y.toList)=true:=aAr;go_wp2_with fail;go_quiet (fail);go_wp2_with fail;go_ret;exact⟨aL (by rw[HA.o,HG.o]),bG (bG Ac.o _) _⟩
         . have HY:=Hd (aH9 aA Cg.o aA);go_wp2_with fail;go_ret;exact⟨aL (by rw[HA.o,HY.o]),bG Ac.o _⟩
      . have HN:=Hd (show Au=false by rw[HA.o,aH8 aA];rfl);have An:((m:Int) !=(nb:Int))=true:=wI;exact zU
    . have HN:=Hd (show Au=false by rw[HA.o,Zz h0];rfl);have An:(c !=0)=true:=by rw[bne_iff_ne];exact h0
      exact aQ3
  . have HN:=Hd (show Au=false by rw[HA.o,Zz h3];rfl);have An:(a !=3)=true:=by rw[bne_iff_ne];exact h3
    exact aQ3
def nC(t:T3):List Value:=[.int .i64 t.1,.int .i64 t.2.1,.int .i64 t.2.2]
def aR9(w:World)(b o:Nat)(t:T3):Prop:=w.rangeAt b o (nC t)
def aR(w:World)(A:Option Addr)(n:Nat)(l:List T3):Prop:=aI 3 aR9 w A n l
theorem bAr:rJ aR9:=fun h hb hs hk=>fT h hb hk
section
variable {w w':World}{A:Option Addr}{n:Nat}{l:List T3}
theorem aR.below(h:aR w A n l)(hb:Below w.heap.size w w'):aR w' A n l:=aI.keep bAr h hb.size fun _ hp=>hb.cell hp
theorem aR.len(h:aR w A n l):l.length=n:=aI.len h
theorem aR.max(h:aR w A n l):n<=9223372036854775807:=aI.max h
theorem aR.at_(h:aR w A n l){i:Nat}(hi:i<n):∃b off,A=some ⟨b,off,none⟩/\b<w.heap.size/\∀i,i<n->w.cell? ⟨b,off+i*3,none⟩=some (.int .i64 (aD l i).1)/\w.cell? ⟨b,off+i*3+1,none⟩=some (.int .i64 (aD l i).2.1)/\w.cell? ⟨b,off+i*3+2,none⟩=some (.int .i64 (aD l i).2.2):=by
 obtain⟨b,off,e,hb,hc⟩:=aI.at_ h aA;exact⟨b,off,e,hb,fun i hi=>⟨hc i hi 0 _ rfl,hc i hi 1 _ rfl,hc i hi 2 _ rfl⟩⟩
end
theorem rP{l:List T3}{i:Nat}(h:i<l.length):aD l i=l[i]'h:=by unfold aD;rw[Yk h,Yt]
theorem bDz{l:List T3}{i:Nat}(h:i<l.length)(hn:¬aD l i=aD l 0):eA l=false:=by
 unfold eA;exact aN7
theorem bAs{l:List T3}(h:∀j,j<l.length->aD l j=aD l 0):eA l=true:=by
 unfold eA;rw[Zg];intro t ht;obtain⟨j,hj,rfl⟩:=Zj ht;rw[<-rP hj];simpa using h j hj
theorem aJt(A:Option Addr)(n c:Nat)(l:List T3)(w:World)(h:aR w A n l):
 Calls Tryz.prog 158 #[.slice A n c] w fun e w'=>e=.returned (.bool (eA l))/\Below w.heap.size w w':=by
 have hl:=h.len;have hm:=h.max;have HR:=Hd h;have Cj:=Hd fun i hi hn=>bDz (l:=l) (i:=i) hi hn;have Jv:=Hd fun h=>bAs (l:=l) h;clear h;generalize eA l=Au at *;go_in
 go_wp2_with fail;go_loopw [3] (fun i wr=>∃k:Nat,1<=k/\k<=n+1/\i=.int .i64 k/\(∀j,j<k->j<n->aD l j=aD l 0)/\∃p,wr=w.drewN p) (fun i _=>n-(intOf i).toNat)
 case atStart=>exact⟨1,by omega,by omega,rfl,fun j hj _=>by rw[show j=0 by omega],0,rfl⟩
 case round=>
  obtain⟨k,Aq,hk,rfl,Bc,p,rfl⟩:=hrel;have Cg:=Hd Bc;clear Bc;by_cases Ah:k<n
  . obtain⟨b,off,rfl,hb,hc⟩:=HR.o.at_ Ah;obtain⟨c0,c1,c2⟩:=hc k Ah;obtain⟨d0,d1,d2⟩:=hc 0 aA;simp only[Nat.zero_mul,Nat.add_zero]at d0 d1 d2;have HN:=Hd (Cj.o k aA)
    have Dx:=Hd fun(e:aD l k=aD l 0)=>(show ∀ j,j<k+1->j<n->aD l j=aD l 0 from fun j hj hn=>by
     rcases Nat.lt_or_ge j k with h1|h1;· exact Cg.o j h1 hn
     . obtain rfl:j=k:=by omega
       exact e)
    clear hc;generalize hx:aD l k=x at c0 c1 c2 HN Dx;generalize hy:aD l 0=y at d0 d1 d2 HN;obtain⟨x0,x1,x2⟩:=x;obtain⟨y0,y1,y2⟩:=y;dsimp only at c0 c1 c2 d0 d1 d2;rw[hy]at Dx;rcases jD x0 x1 x2 y0 y1 y2 with⟨rfl,rfl,rfl,he⟩|⟨h1,he⟩|⟨rfl,h1,he⟩|⟨rfl,rfl,h1,he⟩
    . have Lk:=Hd (Dx.o rfl);clear Dx HN hx;go_wp2_with fail;go_quiet (fail);go_wp2_with fail;go_roundw;case rel=>exact⟨k+1,by omega,by omega,by go_num,fun j hj hn=>Lk.o j hj hn,_,rfl⟩
      case measure=>simp[intOf];omega
    all_goals exact aMj
  . have HY:=Hd (Jv.o fun j hj=>Cg.o j aA aA);exact aEe
end
section
open Go.RowKit Go.Sort
theorem aJu{α:Type}{f:α->Bool}:∀(l:List α)(i:Nat),bR f l i=-1\/∃k:Nat,bR f l i=((i+k:Nat):Int)/\k<l.length
 |[],i=>.inl rfl
 |a::l,i=>by
  unfold bR;cases f a with
  |true=>exact .inr ⟨0,by simp,by simp⟩
  |false=>
   rcases aJu (f:=f) l (i+1)with h|⟨k,h,hk⟩;· exact .inl iI
   . exact .inr ⟨k+1,by simp only[Yy,if_false,h];congr 1;omega,by simpa using hk⟩
theorem yF(p:Pg)(s:ByteArray):cY p s=-1\/∃k:Nat,cY p s=(k:Int)/\k<p.ns.length:=by
 rcases aJu (f:=fun n:Nd=>n.nm.data.toList==s.data.toList) p.ns 0 with h|⟨k,h,hk⟩;· exact .inl h
 . exact .inr ⟨k,by simpa[cY]using h,hk⟩
theorem zL{w:World}{A:Option Addr}{n:Nat}{l:List Dc}(h:bZ w A n l){i:Nat}(hi:i<n):
 ∃b off,A=some ⟨b,off,none⟩/\b<w.heap.size/\∀i,i<n->w.cell? ⟨b,off+i*6+1,none⟩=some (.int .i64 (aS (l[i]?.getD default)).1)/\w.cell? ⟨b,off+i*6+2,none⟩=some (.int .i64 (aS (l[i]?.getD default)).2.1)/\
  w.cell? ⟨b,off+i*6+3,none⟩=some (.int .i64 (aS (l[i]?.getD default)).2.2):=by
 obtain⟨b,off,e,hb,hc⟩:=aI.at_ h aA;exact⟨b,off,e,hb,fun i hi=>⟨hc i hi 1 _ rfl,hc i hi 2 _ rfl,hc i hi 3 _ rfl⟩⟩
theorem pO{w0:World}{g:Nat}{cs:Array Value}{T:TypeId}(h:w0.heap[g]?=some (Obj.cells cs T)):∀w',Below w0.heap.size w0 w'->∀j,w'.cell? ⟨g,j,none⟩=cs[j]?:=fun w' hb j=>by
 have Ah:g<w0.heap.size:=(Yl.1 h).1;have h2:=(hb.block g Ah).trans h;unfold World.cell?;rw[show w'.heap[(⟨g,j,none⟩:Addr).block]?=_ from h2];rfl
theorem aDx{w w0:World}{p:Pg}{E:Option Addr}{ec:Nat}{N:Option Addr}{nc:Nat}{x:Ex}{A:Option Addr}{ca:Nat}{B:Option Addr}{cb:Nat}{T U:TypeId}
 (h:(w.alloc (.cells (aK p E ec N nc) T)).alloc (.cells (aE x A ca B cb) U)=w0):
 Below w.heap.size w w0/\w0.heap.size=w.heap.size+2/\(∀w',Below w0.heap.size w0 w'->∀j,w'.cell? ⟨w.heap.size,j,none⟩=(aK p E ec N nc)[j]?)/\(∀w',Below w0.heap.size w0 w'->∀j,w'.cell? ⟨w.heap.size+1,j,none⟩=(aE x A ca B cb)[j]?):=by
 subst h;refine⟨((Yg _ _).alloc (Yh _) _).alloc aG _,by simp,pO (T:=T) (hZ _ (Zx _ _)),pO (T:=U) ?_⟩;have h0:=Zx (w.alloc (.cells (aK p E ec N nc) T)) (.cells (aE x A ca B cb) U);rwa[show(w.alloc (.cells (aK p E ec N nc) T)).heap.size=w.heap.size+1 by simp]at h0
def aO8(o:Option Nat):Value:=.tuple #[.int .i64 ((o.map (fun k=>(k:Int))).getD 0),.bool o.isSome]
theorem aCr{n k:Nat}{f:Nat->Bool}(hk:k<n)(h:f k=false):(List.range n).all f=false:=by
 rw[List.all_eq_false];exact⟨k,List.mem_range.2 hk,by simp[h]⟩
theorem aB8{n:Nat}{f:Nat->Bool}(h:∀k,k<n->f k=true):(List.range n).all f=true:=by
 rw[Zg];exact fun k hk=>h k (List.mem_range.1 hk)
theorem aIo(p:Pg)(E:Option Addr)(ec:Nat)(N:Option Addr)(nc:Nat)(x:Ex)(A:Option Addr)(ca:Nat)(B:Option Addr)(cb:Nat)(S:Option Addr)(m sc:Nat)(ts:List T3)(w:World)(h:cJ w p E N)(hS:aR w S m ts)(hn:x.n=0\/x.n=1):
 Calls Tryz.prog 57 #[.agg (aK p E ec N nc),.agg (aE x A ca B cb),.slice S m sc] w fun e w'=>e=.returned (aO8 (fS p x ts))/\Below w.heap.size w w':=by
 have HF:=Hd fun w0 h=>aDx (w:=w) (w0:=w0) (p:=p) (E:=E) (ec:=ec) (N:=N) (nc:=nc) (x:=x) (A:=A) (ca:=ca) (B:=B) (cb:=cb) (T:=25) (U:=52) h;have Iy:=Hd fun w1 (hb:Below w.heap.size w w1)=>aKm p E ec N nc x.s w1 (h.below hb);have Oa:=Hd aBq;have Eg:=Hd fun w1 (hb:Below w.heap.size w w1)=>(show eX w1 N p.ns.length p.ns from(h.below hb).2);have Nu:=Hd fun w1 (hb:Below w.heap.size w w1)=>hS.below hb;have Of:=hS.len;have hmm:=hS.max;have Df:=aI.max h.2;have HC:=Hd (show fS p x ts=if cY p x.s<0 then none
  else if ¬((ts.length:Int)-x.n=((aB p (cY p x.s).toNat).ins.length:Int))then none
  else if(x.n==1 && !fV (aD ts (ts.length-1)))=true then none
  else if(List.range (aB p (cY p x.s).toNat).ins.length).all (fun k=>decide (aS ((aB p (cY p x.s).toNat).ins[k]?.getD default)=aD ts k))=true then some (cY p x.s).toNat else none from rfl)
 have Ob:=Hd (yF p x.s);clear h hS;rw[Of]at HC;unfold aK aE at HF⊢;unfold aK at Iy;generalize fS p x ts=Au at *;generalize cY p x.s=f at *;generalize x.n=nn at *;rcases Ob.o with rfl|⟨i,rfl,hi⟩
 . have HN:=Hd (show Au=none by rw[HC.o,if_pos aA]);clear HC;rw[HN.o];go_in
   go_upto_region 1 with(fail);generalize Ai:(w.alloc _).alloc _=w0;obtain⟨Ae,Al,hp,hx⟩:=HF.o w0 Ai;have Af:=Hd Ae;have p0:=hp w0 (Yg _ _) 0;have p1:=hp w0 (Yg _ _) 1;have r2:=hx w0 (Yg _ _) 2;simp only[Ya,Yb,Yc]at p0 p1 r2;clear Ai Ae Al hp hx HF;go_wp2_with fail;refine(Iy.o w0 Af.o).mono ?_;rintro e w1 ⟨rfl,Aa⟩;have Ac:=Hd (Af.o.tr Aa);clear Aa p0 p1 r2;go_wp2_with fail;go_ret2;exact⟨rfl,Ac.o⟩
 rw[if_neg aA,Int.toNat_natCast]at HC;obtain⟨nb,no,A1,c1,A2,c2,A3,c3,A4,c4,rfl,Oh,Ap,d0,d1,d2,d3,d4⟩:=iR (Eg.o w (Yg _ _)) hi;have Nv:=Hd d1;have Hy:=Hd fun w1 (hb:Below w.heap.size w w1)=>(show bZ w1 A1 (p.ns[i]?.getD default).ins.length (p.ns[i]?.getD default).ins from(Ap.below hb).1);have Nw:=Hd Oh;unfold aB at HC;have Oo:=aI.max Ap.1;clear d0 d1 d2 d3 d4 Ap Eg;generalize (p.ns[i]?.getD default).ins=Aq at *;generalize hK:Aq.length=K at *;have Oq:decide ((i:Int)<0)=false:=Zz aA;have Ol:0<=nn:=by rcases hn with h|h<;>omega
 have Og:nn<=1:=by rcases hn with h|h<;>omega
 go_in
 go_upto_region 1 with(fail);generalize Ai:(w.alloc _).alloc _=w0;obtain⟨Ae,Al,hp,hx⟩:=HF.o w0 Ai;have Af:=Hd Ae;have HP:=Hd hp;have HX:=Hd hx;have p0:=hp w0 (Yg _ _) 0;have p1:=hp w0 (Yg _ _) 1;have r2:=hx w0 (Yg _ _) 2;simp only[Ya,Yb,Yc]at p0 p1 r2;clear Ai Ae Al hp hx HF;go_wp2_with fail;refine(Iy.o w0 Af.o).mono ?_;rintro e w1 ⟨rfl,Aa⟩;have Ac:=Hd (Af.o.tr Aa);have Ij:=Hd Aa;have p1:=HP.o w1 Aa 1;have r1:=HX.o w1 Aa 1;simp only[Ya,Yb,Yc]at p1 r1;have d1:=(Ac.o.cell (p:=⟨nb,no+i*5+1,none⟩) Nw.o).trans Nv.o;clear Aa p0 r2 Iy;go_upto_region 5 with(fail);by_cases Bp:(m:Int)-nn=(K:Int)
 . rw[Bp];clear Ol Og;rw[if_neg (by simpa using Bp)]at HC;rcases hn with Ga|hn1
   . have hq:(nn==1)=false:=by rw[Ga];rfl
     have Ko:=Hd (show m=K by omega);rw[hq,Bool.false_and,if_neg aG]at HC;clear Bp Ga
     have Oc:=Hd (show ∀ k,k<K->¬ aS (Aq[k]?.getD default)=aD ts k->Au=none from fun k hk An=>by
      rw[HC.o,if_neg];rw[aCr hk (Zz An)]
      simp)
     have Nz:=Hd (show(∀ k,k<K->aS (Aq[k]?.getD default)=aD ts k)->Au=some i from fun Bh=>by
      rw[HC.o,if_pos (aB8 fun k hk=>Zy (Bh k hk))])
     have HI:=Hd (Hy.o w1 Ac.o);have HY:=Hd (Nu.o w1 Ac.o);clear HC Hy Nu Oa Nw Nv Ob;go_wp2_with fail;go_loopw [10] (fun j wr=>∃k:Nat,k<=K/\j=.int .i64 k/\(∀q,q<k->aS (Aq[q]?.getD default)=aD ts q)/\∃z,wr=w1.drewN z) (fun j _=>K-(intOf j).toNat)
     case atStart=>exact⟨0,Yq _,rfl,fun q hq=>absurd hq aA,0,rfl⟩
     case round=>
      obtain⟨k,hk,rfl,Bc,z,rfl⟩:=hrel;have Cg:=Hd Bc;clear Bc;by_cases Ah:k<K
      . have Ny:k<m:=by have:=Ko.o;omega
        obtain⟨ib,io,rfl,Oi,Jx⟩:=zL HI.o Ah;obtain⟨sb,so,rfl,Az,Bx⟩:=HY.o.at_ (i:=k) sE;obtain⟨a0,a1,a2⟩:=Jx k Ah;obtain⟨b0,b1,b2⟩:=Bx k sE;have Cj:=Hd fun(e:¬aS (Aq[k]?.getD default)=aD ts k)=>Oc.o k Ah e
        have Dx:=Hd fun(e:aS (Aq[k]?.getD default)=aD ts k)=>(show ∀ q,q<k+1->aS (Aq[q]?.getD default)=aD ts q from fun q hq=>by
         rcases Nat.lt_or_ge q k with h1|h1;· exact Cg.o q h1
         . obtain rfl:q=k:=by omega
           exact e)
        clear Jx Bx;generalize Lx:aS (Aq[k]?.getD default)=tx at a0 a1 a2 Cj Dx;generalize Mx:aD ts k=ty at b0 b1 b2 Cj Dx;obtain⟨x0,x1,x2⟩:=tx;obtain⟨y0,y1,y2⟩:=ty;dsimp only at a0 a1 a2 b0 b1 b2;rcases jD x0 x1 x2 y0 y1 y2 with⟨rfl,rfl,rfl,he⟩|⟨h1,he⟩|⟨rfl,h1,he⟩|⟨rfl,rfl,h1,he⟩;· exact aMa
        all_goals
         have HO:=Hd (Cj.o he);clear Cj Dx he Lx Mx;go_wp2_with fail;go_quiet (fail);go_wp2_with fail;go_ret2;exact⟨by rw[HO.o];rfl,bG (bG Ac.o _) _⟩
      . have HO:=Hd (Nz.o fun q hq=>Cg.o q aA);go_wp2_with fail;go_ret2;exact⟨by rw[HO.o];rfl,bG Ac.o _⟩
   . have hq:(nn==1)=true:=by rw[hn1];rfl
     rw[hq,Bool.true_and]at HC;have Ko:=Hd (show m=K+1 by omega);clear Bp hn1;obtain⟨Od,Ok,Oe,Nx,Nt⟩:=(Nu.o w1 Ac.o).at_ (i:=K) sE;obtain⟨t0,t1,t2⟩:=Nt K sE;have Om:K<m:=sE;rw[show m-1=K by have:=Ko.o;omega]at HC;have Gh:=Hd fun w1=>Oa.o (aD ts K).1 (aD ts K).2.1 (aD ts K).2.2 w1;rw[show(((aD ts K).1,(aD ts K).2.1,(aD ts K).2.2):T3)=aD ts K from rfl]at Gh;unfold aF at Gh;subst Oe;clear Nt;generalize hu:aD ts K=u at t0 t1 t2 HC Gh;generalize On:fV u=tt at HC Gh;cases tt with
     |false=>
      rw[show(!false)=true from rfl,if_pos rfl]at HC;go_wp2_with fail;refine(Gh.o w1).mono ?_;rintro e w2 ⟨rfl,Ad⟩;have Aj:=Hd (Ac.o.tr Ad);clear Ad;go_wp2_with fail;go_ret2;exact⟨by rw[HC.o];rfl,Aj.o⟩
     |true=>
      rw[if_neg aG]at HC;go_wp2_with fail;refine(Gh.o w1).mono ?_;rintro e w2 ⟨rfl,Ad⟩;have Aj:=Hd (Ac.o.tr Ad);have p1:=HP.o w2 (Ij.o.tr Ad) 1;simp only[Ya,Yb,Yc]at p1;have d1:=(Aj.o.cell (p:=⟨nb,no+i*5+1,none⟩) Nw.o).trans Nv.o;clear Ad t0 t1 t2 r1 Nx
      have Oc:=Hd (show ∀ k,k<K->¬ aS (Aq[k]?.getD default)=aD ts k->Au=none from fun k hk An=>by
       rw[HC.o,if_neg];rw[aCr hk (Zz An)]
       simp)
      have Nz:=Hd (show(∀ k,k<K->aS (Aq[k]?.getD default)=aD ts k)->Au=some i from fun Bh=>by
       rw[HC.o,if_pos (aB8 fun k hk=>Zy (Bh k hk))])
      have HI:=Hd (Hy.o w2 Aj.o);have HY:=Hd (Nu.o w2 Aj.o);clear HC Hy Nu Oa Nw Nv Ob;go_wp2_with fail;go_loopw [10] (fun j wr=>∃k:Nat,k<=K/\j=.int .i64 k/\(∀q,q<k->aS (Aq[q]?.getD default)=aD ts q)/\∃z,wr=w2.drewN z) (fun j _=>K-(intOf j).toNat)
      case atStart=>exact⟨0,Yq _,rfl,fun q hq=>absurd hq aA,0,rfl⟩
      case round=>
       obtain⟨k,hk,rfl,Bc,z,rfl⟩:=hrel;have Cg:=Hd Bc;clear Bc;by_cases Ah:k<K
       . have Ny:k<m:=by have:=Ko.o;omega
         obtain⟨ib,io,rfl,Oi,Jx⟩:=zL HI.o Ah;obtain⟨sb,so,Oj,Az,Bx⟩:=HY.o.at_ (i:=k) sE;obtain⟨rfl,rfl⟩:Od=sb/\Ok=so:=by
          injection Oj with h;injection h with h1 h2;exact⟨h1,h2⟩
         obtain⟨a0,a1,a2⟩:=Jx k Ah;obtain⟨b0,b1,b2⟩:=Bx k sE;have Cj:=Hd fun(e:¬aS (Aq[k]?.getD default)=aD ts k)=>Oc.o k Ah e
         have Dx:=Hd fun(e:aS (Aq[k]?.getD default)=aD ts k)=>(show ∀ q,q<k+1->aS (Aq[q]?.getD default)=aD ts q from fun q hq=>by
          rcases Nat.lt_or_ge q k with h1|h1;· exact Cg.o q h1
          . obtain rfl:q=k:=by omega
            exact e)
         clear Jx Bx;generalize Lx:aS (Aq[k]?.getD default)=tx at a0 a1 a2 Cj Dx;generalize Mx:aD ts k=ty at b0 b1 b2 Cj Dx;obtain⟨x0,x1,x2⟩:=tx;obtain⟨y0,y1,y2⟩:=ty;dsimp only at a0 a1 a2 b0 b1 b2;rcases jD x0 x1 x2 y0 y1 y2 with⟨rfl,rfl,rfl,he⟩|⟨h1,he⟩|⟨rfl,h1,he⟩|⟨rfl,rfl,h1,he⟩;· exact aMa
         all_goals
          have HO:=Hd (Cj.o he);clear Cj Dx he Lx Mx;go_wp2_with fail;go_quiet (fail);go_wp2_with fail;go_ret2;exact⟨by rw[HO.o];rfl,bG (bG Aj.o _) _⟩
       . have HO:=Hd (Nz.o fun q hq=>Cg.o q aA);go_wp2_with fail;go_ret2;exact⟨by rw[HO.o];rfl,bG Aj.o _⟩
 . have An:((m:Int)-nn !=(K:Int))=true:=by rw[bne_iff_ne];exact Bp
   rw[if_pos (by simpa using Bp)]at HC;go_wp2_with fail;go_ret2;exact⟨by rw[HC.o];rfl,Ac.o⟩
def fO(w:World)(o:Option T3)(e:Ending)(w':World):Prop:=∃a b c,e=.returned (.tuple #[.agg (aF a b c),.bool o.isSome])/\(∀t,o=some t->t=(a,b,c))/\Below w.heap.size w w'
theorem mI{w w0:World}{p:Pg}{E:Option Addr}{ec:Nat}{N:Option Addr}{nc:Nat}{x:Ex}{A:Option Addr}{ca:Nat}{B:Option Addr}{cb:Nat}{T U V:TypeId}
 (h:((w.alloc (.cells (aK p E ec N nc) T)).alloc (.cells (aE x A ca B cb) U)).alloc (.cells #[.int .i64 0,.int .i64 0,.int .i64 0] V)=w0):
 Below w.heap.size w w0/\w0.heap.size=w.heap.size+3/\(∀w',Below w0.heap.size w0 w'->∀j,w'.cell? ⟨w.heap.size,j,none⟩=(aK p E ec N nc)[j]?)/\(∀w',Below w0.heap.size w0 w'->∀j,w'.cell? ⟨w.heap.size+1,j,none⟩=(aE x A ca B cb)[j]?)/\F3 V w0 (w.heap.size+1+1) 0 0 0:=by
 generalize Ag:(w.alloc (.cells (aK p E ec N nc) T)).alloc (.cells (aE x A ca B cb) U)=w1 at h;obtain⟨h1,h2,h3,h4⟩:=aDx Ag;subst h;have hb:=(Yg w1.heap.size w1).alloc (Yh _) (.cells #[.int .i64 0,.int .i64 0,.int .i64 0] V);refine⟨h1.tr hb,by simp;omega,fun w' Ia j=>h3 w' (hb.tr Ia) j,fun w' Ia j=>h4 w' (hb.tr Ia) j,?_⟩;have h0:=F3.new V w1 0 0 0;rwa[show w1.heap.size=w.heap.size+1+1 by omega]at h0
theorem aR.three{w:World}{b off n c:Nat}{l:List T3}(h:aR w (some ⟨b,off,none⟩) n l){i:Nat}(hi:i<n):w.cell? ⟨b,off+i*3,none⟩=some (.int .i64 (aD l i).1)/\w.cell? ⟨b,off+i*3+1,none⟩=some (.int .i64 (aD l i).2.1)/\w.cell? ⟨b,off+i*3+2,none⟩=some (.int .i64 (aD l i).2.2):=by
 obtain⟨b',Kd,e,_,hc⟩:=h.at_ hi;injection e with e;injection e with e1 e2;subst e1 e2;exact hc i hi
theorem bAt(p:Pg)(E:Option Addr)(ec:Nat)(N:Option Addr)(nc:Nat)(i:Int)(x:Ex)(A:Option Addr)(ca:Nat)(B:Option Addr)(cb:Nat)(S:Option Addr)(m sc:Nat)(ts:List T3)(w:World)(hS:aR w S m ts)(hk:x.k=9)(hm:2<=m):
 Calls Tryz.prog 128 #[.agg (aK p E ec N nc),.int .i64 i,.agg (aE x A ca B cb),.slice S m sc] w (fO w (if aD ts 0=aD ts 1 then some (aD ts 0)else none)):=by
 have HF:=Hd fun w0 h=>mI (w:=w) (w0:=w0) (p:=p) (E:=E) (ec:=ec) (N:=N) (nc:=nc) (x:=x) (A:=A) (ca:=ca) (B:=B) (cb:=cb) (T:=25) (U:=52) (V:=41) h;obtain⟨sb,so,rfl,Az,Aq⟩:=hS.at_ (i:=0) aA;obtain⟨a0,a1,a2⟩:=Aq 0 aA;obtain⟨b0,b1,b2⟩:=Aq 1 aA;simp only[Nat.zero_mul,Nat.add_zero,Nat.one_mul]at a0 a1 a2 b0 b1 b2;unfold aE at HF⊢;unfold aK at HF⊢;rw[hk]at HF⊢;clear hS Aq hk;generalize aD ts 0=tx at *;generalize aD ts 1=ty at *;obtain⟨x0,x1,x2⟩:=tx;obtain⟨y0,y1,y2⟩:=ty;dsimp only at a0 a1 a2 b0 b1 b2;go_in
 go_upto_region 1 with(fail);generalize Ai:((w.alloc _).alloc _).alloc _=w0;obtain⟨Ae,Al,hp,hx,hR⟩:=HF.o w0 Ai;have Af:=Hd Ae;have HR:=Hd hR;have q0:=hx w0 (Yg _ _) 0;simp only[Ya,Yb,Yc]at q0;have a0:=(Ae.cell (p:=⟨sb,so,none⟩) Az).trans a0;have a1:=(Ae.cell (p:=⟨sb,so+1,none⟩) Az).trans a1;have a2:=(Ae.cell (p:=⟨sb,so+2,none⟩) Az).trans a2;have b0:=(Ae.cell (p:=⟨sb,so+3,none⟩) Az).trans b0;have b1:=(Ae.cell (p:=⟨sb,so+3+1,none⟩) Az).trans b1;have b2:=(Ae.cell (p:=⟨sb,so+3+2,none⟩) Az).trans b2;obtain⟨r0,r1,r2⟩:=hR.three;have fz:∀j,w0.frozen? ⟨w.heap.size+1+1,j,none⟩=false:=fun j=>frozen_of_row w0 _ j _ _ hR;have n1:sb≠w.heap.size+1+1:=aA;have n2:w.heap.size+1+1≠sb:=aA;have Jx:1<m:=aA;have Bx:0<m:=aA;clear Ai Ae Al hp hx hR HF hm;go_upto_region 2 with(fail);rcases jD x0 x1 x2 y0 y1 y2 with⟨rfl,rfl,rfl,he⟩|⟨h1,he⟩|⟨rfl,h1,he⟩|⟨rfl,rfl,h1,he⟩
 all_goals
  go_region;generalize Bp:World.drew _=w4;obtain⟨hF,hB⟩:=tL HR.o Af.o aA Bp;have Iz:=Hd hF;have Be:=Hd hB;clear Bp hF hB;go_wp2_with fail;refine Zu (bA (p:=8) (u:=9) rfl _ _ (w.heap.size+1+1) x0 x1 x2 rfl Iz.o) rfl ⟨x0,x1,x2,?_,?_,Be.o⟩;· rfl
  . intro t ht;first|(exact(Option.some.inj ht).symm)|cases ht
theorem aXj(p:Pg)(E:Option Addr)(ec:Nat)(N:Option Addr)(nc:Nat)(i:Int)(x:Ex)(A:Option Addr)(ca:Nat)(B:Option Addr)(cb:Nat)(S:Option Addr)(m sc:Nat)(ts:List T3)(w:World)(hS:aR w S m ts)(hk:x.k=10)(hm:1<=m):
 Calls Tryz.prog 128 #[.agg (aK p E ec N nc),.int .i64 i,.agg (aE x A ca B cb),.slice S m sc] w (fO w (some (aD ts 0))):=by
 have HF:=Hd fun w0 h=>mI (w:=w) (w0:=w0) (p:=p) (E:=E) (ec:=ec) (N:=N) (nc:=nc) (x:=x) (A:=A) (ca:=ca) (B:=B) (cb:=cb) (T:=25) (U:=52) (V:=41) h;obtain⟨sb,so,rfl,Az,Aq⟩:=hS.at_ (i:=0) aA;obtain⟨a0,a1,a2⟩:=Aq 0 aA;simp only[Nat.zero_mul,Nat.add_zero,Nat.one_mul]at a0 a1 a2;unfold aE at HF⊢;unfold aK at HF⊢;rw[hk]at HF⊢;clear hS Aq hk;generalize aD ts 0=tx at *;obtain⟨x0,x1,x2⟩:=tx;dsimp only at a0 a1 a2;go_in
 go_upto_region 1 with(fail);generalize Ai:((w.alloc _).alloc _).alloc _=w0;obtain⟨Ae,Al,hp,hx,hR⟩:=HF.o w0 Ai;have Af:=Hd Ae;have HR:=Hd hR;have q0:=hx w0 (Yg _ _) 0;simp only[Ya,Yb,Yc]at q0;have a0:=(Ae.cell (p:=⟨sb,so,none⟩) Az).trans a0;have a1:=(Ae.cell (p:=⟨sb,so+1,none⟩) Az).trans a1;have a2:=(Ae.cell (p:=⟨sb,so+2,none⟩) Az).trans a2;have Bp:0<m:=aA;clear Ai Ae Al hp hx hR HF hm;go_wp2_with (refine Zv rfl _ _ _ rfl (w.heap.size+1+1) _ rfl rfl _ _ HR.o cW rfl aQ ?_);exact Zu (bA (p:=8) (u:=9) rfl _ _ (w.heap.size+1+1) x0 x1 x2 rfl (HR.o.set x0 x1 x2)) rfl ⟨x0,x1,x2,rfl,fun t ht=>(Option.some.inj ht).symm,Xc Af.o aA _⟩
theorem aSj{fn:Func}{p u v:Tmp}{ty:TypeId}(h:fn.results=#[.tmp u,.cell p ty,.tmp v])(tmps:Array Value)(P:Program)(w:World):
 (results fn tmps).run P w =
  ((asAddr (tmps.getD p undef)).run P w).andThen fun a w₁=>((loadVar ty a).run P w₁).andThen fun x w₂=>.ok (.tuple #[tmps.getD u undef,x,tmps.getD v undef]) w₂:=by
 simp only[results,h];simp[Sem.run_bind,Result.andThen]
theorem jV{fn:Func}{p u v:Tmp}(h:fn.results=#[.tmp u,.cell p 41,.tmp v])(tmps:Array Value)(w:World)(g:Nat)(a b c:Int)
 (hp:tmps.getD p undef=.pointer (some ⟨g,0,none⟩))(hg:F3 41 w g a b c):(results fn tmps).run Tryz.prog w=.ok (.tuple #[tmps.getD u undef,.agg (aF a b c),tmps.getD v undef]) w:=by
 rw[aSj h,hp];have hl:=run_loadVar_row (P:=Tryz.prog) w g 41 41 _ _ _ hg Tryz.underlying41 rfl cW;simp[asAddr,Result.andThen,hl]
def aA3(o:Option (T3 × Int)):Value:=.tuple #[.int .i64 ((o.map (·.2)).getD 0),.agg (aF ((o.map (·.1.1)).getD 0) ((o.map (·.1.2.1)).getD 0) ((o.map (·.1.2.2)).getD 0)),.bool o.isSome]
theorem oP{w w0:World}{x:Ex}{A:Option Addr}{ca:Nat}{B:Option Addr}{cb:Nat}{T U:TypeId}(h:(w.alloc (.cells (aE x A ca B cb) T)).alloc (.cells #[.int .i64 0,.int .i64 0,.int .i64 0] U)=w0):
 F3 U w0 (w.heap.size+1) 0 0 0/\(∀w',Below w0.heap.size w0 w'->∀j,w'.cell? ⟨w.heap.size,j,none⟩=(aE x A ca B cb)[j]?)/\Below w.heap.size w w0/\w0.heap.size=w.heap.size+2:=by
 subst h;have h0:=F3.new U (w.alloc (.cells (aE x A ca B cb) T)) 0 0 0;have e1:(w.alloc (.cells (aE x A ca B cb) T)).heap.size=w.heap.size+1:=aG;rw[e1]at h0;refine⟨h0,fun w' hb j=>?_,((Yg _ _).alloc (Yh _) _).alloc aG _,by simp⟩;have hr:((w.alloc (.cells (aE x A ca B cb) T)).alloc (.cells #[.int .i64 0,.int .i64 0,.int .i64 0] U)).heap[w.heap.size]?=some (.cells (aE x A ca B cb) T):=hZ _ (Zx _ _);have h2:=(hb.block w.heap.size dA).trans hr;unfold World.cell?;rw[show w'.heap[(⟨w.heap.size,j,none⟩:Addr).block]?=_ from h2];rfl
theorem aJv(l:Option Addr)(n c:Nat)(es:List En)(x:Ex)(A:Option Addr)(ca:Nat)(B:Option Addr)(cb:Nat)(w:World)(hE:bU w l n es)(hr:aH w x A B)(hx:cV x=true):
 Calls Tryz.prog 157 #[.slice l n c,.agg (aE x A ca B cb)] w fun e w'=>e=.returned (aA3 (dU es x))/\Below w.heap.size w w':=by
 have HF:=Hd fun w0 h=>oP (w:=w) (w0:=w0) (x:=x) (A:=A) (ca:=ca) (B:=B) (cb:=cb) (T:=52) (U:=41) h;have Cq:=Hd fun w1 (hb:Below w.heap.size w w1)=>rG l n c es x.s w1 (hE.below hb);have HS:=Hd (show dU es x=if(x.k==1)=true then some ((1,0,0),x.n) else if(x.k==2)=true then some ((2,0,0),x.n) else if(x.k==5)=true then some ((1,0,0),wrap64 (-(aM x 0).n)) else(bP es x.s).map fun r=>((r.1,r.2.1,0),r.2.2) from rfl);have Aq:=Hd fun w1 (hb:Below w.heap.size w w1) (h5:x.k=5)=>(show ∃ b off,B=some ⟨b,off,none⟩/\x.subs.length=1/\w1.cell? ⟨b,off+1,none⟩=some (.int .i64 (aM x 0).n) from by
  have h1:x.subs.length=1:=by
   unfold cV at hx;rw[h5]at hx;simp at hx;exact hx.1.2
  obtain⟨b,off,e,Ia,Ca⟩:=(hr.below hb).sub (i:=0) aA;obtain⟨A',c',B',d',Nt,_⟩:=Ca 0 aA;obtain⟨c0,c1,-⟩:=dT Nt;exact⟨b,off,e,h1,by simpa using c1⟩)
 clear hE hr hx;unfold aE at HF⊢;generalize dU es x=Au at *;generalize bP es x.s=ar at *;generalize hk:x.k=k at *;by_cases h1:k=1
 . subst h1;have HN:=Hd (show Au=some ((1,0,0),x.n)from HS.o);rw[HN.o];go_in
   go_upto_region 1 with(fail);generalize Ai:(w.alloc _).alloc _=w0;obtain⟨hR,hcell,Ae,Al⟩:=HF.o w0 Ai;have HR:=Hd hR;have Af:=Hd Ae;have q0:=hcell w0 (Yg _ _) 0;have q1:=hcell w0 (Yg _ _) 1;simp only[Ya,Yb,Yc]at q0 q1;clear Ai hR hcell Ae Al HF Aq Cq HS;exact aRp
 by_cases h2:k=2
 . subst h2;have HN:=Hd (show Au=some ((2,0,0),x.n)from HS.o);rw[HN.o];go_in
   go_upto_region 1 with(fail);generalize Ai:(w.alloc _).alloc _=w0;obtain⟨hR,hcell,Ae,Al⟩:=HF.o w0 Ai;have HR:=Hd hR;have Af:=Hd Ae;have q0:=hcell w0 (Yg _ _) 0;have q1:=hcell w0 (Yg _ _) 1;simp only[Ya,Yb,Yc]at q0 q1;clear Ai hR hcell Ae Al HF Aq Cq HS;go_wp2_with (refine Zv rfl _ _ _ rfl (w.heap.size+1) _ rfl rfl _ _ HR.o cW rfl aQ ?_);exact Zu (jV (p:=5) (u:=4) (v:=6) rfl _ _ (w.heap.size+1) 2 0 0 rfl (HR.o.set 2 0 0)) rfl ⟨rfl,Xc Af.o aA _⟩
 have e1:(k==1)=false:=aAv;have e2:(k==2)=false:=aAw;by_cases h5:k=5
 . subst h5;obtain⟨b,off,rfl,hl,hc⟩:=Aq.o w (Yg _ _) rfl;have He:=Hd hc;generalize (aM x 0).n=z at *;have HN:=Hd (show Au=some ((1,0,0),wrap64 (-z))from HS.o);rw[HN.o];rw[hl]at HF⊢;have Bx:=Yi _ _ hc;go_in
   go_upto_region 1 with(fail);generalize Ai:(w.alloc _).alloc _=w0;obtain⟨hR,hcell,Ae,Al⟩:=HF.o w0 Ai;have HR:=Hd hR;have Af:=Hd Ae;have q0:=hcell w0 (Yg _ _) 0;have q5:=hcell w0 (Yg _ _) 5;simp only[Ya,Yb,Yc]at q0 q5;have c1:=(Ae.cell (p:=⟨b,off+1,none⟩) Bx).trans He.o;clear Ai hR hcell Ae Al HF Aq Cq HS hc Bx h1 h2 e1 e2;exact aRp
 have e5:(k==5)=false:=pG;have HV:=Hd (show aA3 Au=.tuple #[.int .i64 ((ar.map (·.2.2)).getD 0),.agg (aF ((ar.map (·.1)).getD 0) ((ar.map (·.2.1)).getD 0) 0),.bool ar.isSome] from by
  rw[HS.o,e1,e2,e5];cases ar<;>rfl)
 unfold lG at Cq;rw[HV.o];clear HV HS h1 h2 h5 Aq;generalize (ar.map (·.2.2)).getD 0=z at *;generalize (ar.map (·.1)).getD 0=a at *;generalize (ar.map (·.2.1)).getD 0=b at *;generalize ar.isSome=t at *;clear Au ar;go_in
 go_upto_region 1 with(fail);generalize Ai:(w.alloc _).alloc _=w0;obtain⟨hR,hcell,Ae,Al⟩:=HF.o w0 Ai;have HR:=Hd hR;have Af:=Hd Ae;have q0:=hcell w0 (Yg _ _) 0;have q2:=hcell w0 (Yg _ _) 2;simp only[Ya,Yb,Yc]at q0 q2;clear Ai hR hcell Ae HF;have Ah:w.heap.size+1<w0.heap.size:=aA;clear Al;go_wp2_with fail;refine(Cq.o w0 Af.o).mono ?_;rintro e w1 ⟨rfl,Aa⟩;have Bi:=Hd (HR.o.below Aa);have Ac:=Hd (Af.o.tr Aa);have Jx:w.heap.size+1<w1.heap.size:=by have:=Aa.size;omega
 clear Aa q0 q2 Ah;unfold aF;go_upto_region 9 with(fail);generalize Br:w1.alloc _=w2;have h3:F3 41 w2 w1.heap.size a b 0/\F3 41 w2 (w.heap.size+1) 0 0 0/\Below w.heap.size w w2:=by
  subst Br;exact⟨F3.new _ _ _ _ _,hZ _ Bi.o,Ac.o.alloc Ac.o.size _⟩
 obtain⟨hS,hT,Ad⟩:=h3;have HT:=Hd hT;have Aj:=Hd Ad;obtain⟨s0,s1,s2,-,-,-⟩:=Sx hS.cell;obtain⟨t0,t1,t2,-,-,-⟩:=Sx hT.cell;simp only[aF,List.getElem?_toArray,Yz,Zb]at s0 s1 s2 t0 t1 t2;have fz:∀j,w2.frozen? ⟨w.heap.size+1,j,none⟩=false:=fun j=>frozen_of_row w2 _ j _ _ hT;have n1:w.heap.size+1≠w1.heap.size:=aA;have n2:w1.heap.size≠w.heap.size+1:=aA;clear Br hS hT Ad;generalize w1.heap.size=g at *;go_region;generalize Bp:World.drew _=w4;obtain⟨hF,hB⟩:=tL HT.o Aj.o aA Bp;have Iz:=Hd hF;have Be:=Hd hB;clear Bp hF hB;go_wp2_with fail;exact Zu (jV (p:=5) (u:=4) (v:=6) rfl _ _ (w.heap.size+1) a b 0 rfl Iz.o) rfl ⟨rfl,Be.o⟩
end
section
open Go.RowKit Go.Sort Go.BigFrame
def dK(w:World)(A:Option Addr)(n:Nat)(l:List Int):Prop:=aI 1 (fun w b o z=>w.cell? ⟨b,o,none⟩=some (.int .i64 z)) w A n l
def kL(w:World)(o:Option (List Int × T3))(e:Ending)(w':World):Prop:=
 ∃S n c a b d vs,e=.returned (.tuple #[.slice S n c,.agg (aF a b d),.bool o.isSome])/\dK w' S n vs/\n<=c/\c<=maxLen/\((∀r,o=some r->r=(vs,(a,b,d)))/\(o=none->vs=[]/\a=0/\b=0/\d=0))/\Below w.heap.size w w'
theorem dK.nil_(w:World):dK w none 0 []:=aI.nil_ _ _ _
theorem aB9{es:List En}{x:Ex}(h:(bH x && dQ x)=false):eG es x=none:=by unfold eG;rw[if_pos h]
theorem xM{es:List En}{x:Ex}(h:(bH x && dQ x)=true)(hk:x.k≠14):eG es x=(dU es x).map fun r=>([r.2],r.1):=by
 unfold eG;rw[if_neg (by rw[h];decide),if_neg kT]
theorem tM{w w0:World}{x:Ex}{A:Option Addr}{ca:Nat}{B:Option Addr}{cb:Nat}(h:(w.alloc (.cells (aE x A ca B cb) 52)).alloc (.cells #[.int .i64 0,.int .i64 0,.int .i64 0] 41)=w0):
 F3 41 w0 (w.heap.size+1) 0 0 0/\(∀w',Below w0.heap.size w0 w'->∀j,w'.cell? ⟨w.heap.size,j,none⟩=(aE x A ca B cb)[j]?)/\Below w.heap.size w w0/\w0.heap.size=w.heap.size+2:=oP h
theorem aUz(l:Option Addr)(n c:Nat)(x:Ex)(A:Option Addr)(ca:Nat)(B:Option Addr)(cb:Nat)(w:World)(hr:aH w x A B)(hs:bD x<=1000000)(Jx:∀p∈bL x,cX p)(Hr:(bH x && dQ x)=false):
 Calls Tryz.prog 127 #[.slice l n c,.agg (aE x A ca B cb)] w (kL w none):=by
 have HF:=Hd fun w0 h=>tM (w:=w) (w0:=w0) (x:=x) (A:=A) (ca:=ca) (B:=B) (cb:=cb) h;have Bp:=Hd fun w1 (hb:Below w.heap.size w w1)=>xY x A ca B cb w1 (hr.below hb) hs Jx;have Aq:=Hd fun w1 (hb:Below w.heap.size w w1)=>xX x A ca B cb w1 (hr.below hb);clear hr hs Jx;generalize bH x=br at *;generalize dQ x=bc at *;unfold aE at HF Bp Aq⊢;go_in
 go_upto_region 1 with(fail);generalize Ai:(w.alloc _).alloc _=w0;obtain⟨hR,hx,Ae,Al⟩:=HF.o w0 Ai;have HR:=Hd hR;have HX:=Hd hx;have Af:=Hd Ae;obtain⟨q0,q1,q2,q3,q4,q5⟩:=Sx (hx w0 (Yg _ _));simp only[Ya,Yb,Yc]at q0 q1 q2 q3 q4 q5;have Bi:=Hd (Bp.o w0 Ae);clear Ai hR hx Ae Al HF Bp;cases br with
 |false=>
  go_wp2_with fail;refine Bi.o.mono ?_;rintro e w1 ⟨rfl,Aa⟩;have Ew:=Hd (HR.o.below Aa);have Ac:=Hd (Af.o.tr Aa);clear Aa q0 q1 q2 q3 q4 q5 Bi Aq;go_upto_region 2 with(fail);exact aQ4
 |true=>
  obtain rfl:bc=false:=by simpa using Hr
  go_wp2_with fail;refine Bi.o.mono ?_;rintro e w1 ⟨rfl,Aa⟩;have Ew:=Hd (HR.o.below Aa);have Ac:=Hd (Af.o.tr Aa);obtain⟨r0,r1,r2,r3,r4,r5⟩:=Sx (HX.o w1 Aa);simp only[Ya,Yb,Yc]at r0 r1 r2 r3 r4 r5;have Bx:=Hd (Aq.o w1 Ac.o);clear Aa q0 q1 q2 q3 q4 q5 Bi Aq;go_wp2_with fail;refine Bx.o.mono ?_;rintro e w2 ⟨rfl,Ad⟩;have Es:=Hd (Ew.o.below Ad);have Aj:=Hd (Ac.o.tr Ad);clear Ad r0 r1 r2 r3 r4 r5 Bx;go_upto_region 2 with(fail);exact aQ5
theorem dK.one(w:World)(T:TypeId)(v:Int):dK (w.alloc (.cells #[.int .i64 v] T)) (some ⟨w.heap.size,0,none⟩) 1 [v]:=
 ⟨rfl,by omega,fun _=>⟨_,0,rfl,by simp,fun i hi=>by
  obtain rfl:i=0:=by omega
  show World.cell? _ ⟨w.heap.size,0+0*1,none⟩=_;rw[Zp]
  rfl⟩⟩
theorem bD0:rJ (fun(w:World) b o (z:Int)=>w.cell? ⟨b,o,none⟩=some (.int .i64 z)):=fun h hb hs hk=>(hk _ hb).trans h
theorem dK.keep{w w':World}{A:Option Addr}{n:Nat}{l:List Int}(h:dK w A n l)(hs:w.heap.size<=w'.heap.size)(hk:∀p:Addr,p.block<w.heap.size->w'.cell? p=w.cell? p):dK w' A n l:=aI.keep bD0 h hs hk
theorem dK.below{w w':World}{A:Option Addr}{n:Nat}{l:List Int}(h:dK w A n l)(hb:Below w.heap.size w w'):dK w' A n l:=h.keep hb.size fun _ hp=>hb.cell hp
theorem dK.set{w:World}{g r:Nat}{o n:Nat}{l:List Int}(h:dK w (some ⟨g,o,none⟩) n l)(hn:g≠r)(cs:Array Value):dK (w.setRow r cs) (some ⟨g,o,none⟩) n l:=
 ⟨h.1,h.2.1,fun h0=>by
  obtain⟨b,off,e,hb,hc⟩:=h.2.2 h0;injection e with e;injection e with e1 e2;subst e1 e2;exact⟨_,_,rfl,by simpa[World.setRow]using hb,fun i hi=>(Ym (a:=⟨g,_,none⟩) (setRow_other _ _ _ _ hn)).trans (hc i hi)⟩⟩
theorem aTk(l:Option Addr)(n c:Nat)(es:List En)(x:Ex)(A:Option Addr)(ca:Nat)(B:Option Addr)(cb:Nat)(w:World)(hE:bU w l n es)(hr:aH w x A B)(hs:bD x<=1000000)(Of:∀p∈bL x,cX p)(Ea:(bH x && dQ x)=true)(hk:x.k≠14):
 Calls Tryz.prog 127 #[.slice l n c,.agg (aE x A ca B cb)] w (kL w ((dU es x).map fun r=>([r.2],r.1))):=by
 have Bp:cV x=true:=by
  exact aNu
 have HF:=Hd fun w0 h=>tM (w:=w) (w0:=w0) (x:=x) (A:=A) (ca:=ca) (B:=B) (cb:=cb) h;have Jx:=Hd fun w1 (hb:Below w.heap.size w w1)=>xY x A ca B cb w1 (hr.below hb) hs Of;have Nt:=Hd fun w1 (hb:Below w.heap.size w w1)=>xX x A ca B cb w1 (hr.below hb);have Aq:=Hd fun w1 (hb:Below w.heap.size w w1)=>aJv l n c es x A ca B cb w1 (hE.below hb) (hr.below hb) Bp;have Om:(x.k !=14)=true:=bne_iff_ne.2 hk;simp only[Ys]at Ea;rw[Ea.1]at Jx;rw[Ea.2]at Nt;clear hE hr hs Of Ea Bp hk;generalize dU es x=o at *;unfold aA3 at Aq;unfold aE at HF Jx Nt Aq⊢;unfold aF at Aq;generalize Ob:(o.map (·.2)).getD 0=ov at *;generalize Oe:(o.map (·.1.1)).getD 0=oa at *;generalize Oc:(o.map (·.1.2.1)).getD 0=ob at *;generalize Dk:(o.map (·.1.2.2)).getD 0=oc at *;generalize Od:o.isSome=os at *;have HV:=Hd (show ∀r,o=some r->r=((oa,ob,oc),ov)from fun r h=>by subst h Ob Oe Oc Dk;rfl);have HS:=Hd Od;clear Ob Oe Oc Dk Od;go_in
 go_upto_region 1 with(fail);generalize Ai:(w.alloc _).alloc _=w0;obtain⟨hR,hx,Ae,Al⟩:=HF.o w0 Ai;have HR:=Hd hR;have HX:=Hd hx;have Af:=Hd Ae;obtain⟨q0,q1,q2,q3,q4,q5⟩:=Sx (hx w0 (Yg _ _));simp only[Ya,Yb,Yc]at q0 q1 q2 q3 q4 q5;have Bi:=Hd (Jx.o w0 Ae);clear Ai hR hx Ae Al HF Jx;go_wp2_with fail;refine Bi.o.mono ?_;rintro e w1 ⟨rfl,Aa⟩;have Ew:=Hd (HR.o.below Aa);have Ac:=Hd (Af.o.tr Aa);have Ff:=Hd fun w' (h:Below w1.heap.size w1 w') j=>HX.o w' (Aa.tr h) j;obtain⟨r0,r1,r2,r3,r4,r5⟩:=Sx (HX.o w1 Aa);simp only[Ya,Yb,Yc]at r0 r1 r2 r3 r4 r5;have Oa:=Hd (Nt.o w1 Ac.o);clear Aa q0 q1 q2 q3 q4 q5 Bi Nt HX;go_wp2_with fail;refine Oa.o.mono ?_;rintro e w2 ⟨rfl,Ad⟩;have Es:=Hd (Ew.o.below Ad);have Aj:=Hd (Ac.o.tr Ad);obtain⟨s0,s1,s2,s3,s4,s5⟩:=Sx (Ff.o w2 Ad);simp only[Ya,Yb,Yc]at s0 s1 s2 s3 s4 s5;have Ef:=Hd (Aq.o w2 Aj.o);clear Ad r0 r1 r2 r3 r4 r5 Oa Ew Ff Aq;go_wp2_with fail;refine Ef.o.mono ?_;rintro e w3 ⟨rfl,Ak⟩;have Nx:=Hd (Es.o.below Ak);have Ax:=Hd (Aj.o.tr Ak);clear Ak s0 s1 s2 s3 s4 s5 Ef Es;go_upto_region 5 with(fail);generalize Ny:w3.alloc _=w4;obtain⟨Bk,Nz,Oj⟩:=iB Ny;have Bx:=Hd (Nx.o.below Bk);have Be:=Hd (Ax.o.tr Bk);have Iz:=Hd Nz;have Ah:=Nx.o.lt;have hg2:w.heap.size+1≠w3.heap.size:=aA;clear Ny Bk Nz Nx;generalize w3.heap.size=g at *;cases os with
 |false=>
  go_upto_region 6 with(fail);have HO:=Hd (show o=none by have:=HS.o;cases o with|none=>rfl|some r=>cases this);go_wp2_with (refine Zv rfl _ _ _ rfl (w.heap.size+1) _ rfl rfl _ _ Bx.o cW rfl aQ ?_);exact Zu (jV (p:=5) (u:=4) (v:=6) rfl _ _ (w.heap.size+1) 0 0 0 rfl (Bx.o.set _ _ _)) rfl ⟨none,0,0,0,0,0,[],by rw[HO.o];rfl,dK.nil_ _,Yh _,by unfold maxLen;omega,⟨fun r h=>tZ,fun _=>⟨rfl,rfl,rfl,rfl⟩⟩,Xc Be.o aA _⟩
 |true=>
  obtain⟨f0,f1,f2,-,-,-⟩:=Sx Iz.o.cell;simp only[aF,List.getElem?_toArray,Yz,Zb]at f0 f1 f2;have Hp:=Hd (Bx.o.below ((Yg w4.heap.size w4).alloc (Yh _) (.cells #[.int .i64 ov] 2)));obtain⟨Jk,Og,Oh,-,-,-⟩:=Sx Hp.o.cell;simp only[aF,List.getElem?_toArray,Yz,Zb]at Jk Og Oh;have fz:∀j,(w4.alloc (.cells #[.int .i64 ov] 2)).frozen? ⟨w.heap.size+1,j,none⟩=false:=fun j=>frozen_of_row _ _ j _ _ Hp.o;have On:=Bx.o.lt;have Nv:=Iz.o.lt;have n1:w.heap.size+1≠w4.heap.size:=aA;have n2:w4.heap.size≠w.heap.size+1:=aA;have n3:g≠w.heap.size+1:=aA;have Oo:=(Yj w4 (.cells #[.int .i64 ov] 2) ⟨g,0,none⟩ Nv).trans f0;have Oq:=(Yj w4 (.cells #[.int .i64 ov] 2) ⟨g,1,none⟩ Nv).trans f1;have Ol:=(Yj w4 (.cells #[.int .i64 ov] 2) ⟨g,2,none⟩ Nv).trans f2;go_upto_region 7 with(fail);go_region;have hI:=(dK.one w4 2 ov).set (r:=w.heap.size+1) n2 (aF oa ob oc);generalize Nw:World.drew _=w5;have Nu:=Nw;rw[kN Hp.o]at Nu;obtain⟨hF,hB⟩:=tL Hp.o (Be.o.alloc Be.o.size _) aA Nw;have Oi:=Hd hF;have Ck:=Hd hB;have Ok:=Hd (show dK w5 (some ⟨g+1,0,none⟩) 1 [ov]by rw[<-Nu,<-Oj];exact hI);clear Nw Nu hF hB hI;go_wp2_with fail
  exact Zu (jV (p:=5) (u:=4) (v:=6) rfl _ _ (w.heap.size+1) oa ob oc rfl Oi.o) rfl ⟨some ⟨g+1,0,none⟩,1,1,oa,ob,oc,[ov],by rw [Option.isSome_map,HS.o];rfl,Ok.o,Yh _,by unfold maxLen;omega,⟨fun r h=>(by
   obtain⟨r',h1,rfl⟩:=Option.map_eq_some_iff.1 h
   have:=HV.o r' h1
   subst this
   rfl),fun h=>(by have:=congrArg Option.isSome h;rw[Option.isSome_map,HS.o]at this;cases this)⟩,Ck.o⟩
end
end Go.Proofs.YtkbpdoomhfkngaaGreat
