/- Parts of the proof: PhD, SlR, PhC, PiA, PiB, PiC, PiF. Conditions: each theorem's own. -/
import Derived.Shelf.Spec.SlicesGrow
import Derived.Ground.Names8Prog
import Derived.Test.YtegjgiofmpolnaaGreatC11
namespace Go.Proofs.YtegjgiofmpolnaaGreat
set_option linter.unusedVariables false
set_option linter.unusedSimpArgs false
set_option maxRecDepth 100000
set_option maxHeartbeats 40000000
section
open Go.RowKit Go.Sort
def jL(x:Nd) (k:Nat):List Dc:=match k with | 0=>x.ins | 1=>x.outs | _=>x.vars
def qW(x:Nd) (s:ByteArray) (k:Nat):Option Dc:=match k with
 | 0=>aW x s
 | 1=>(x.outs++x.vars).find? fun d=>d.nm.data.toList==s.data.toList
 | 2=>x.vars.find? fun d=>d.nm.data.toList==s.data.toList
 | _=>none
theorem aKs{x:Nd}{s:ByteArray}{k:Nat}{d:Dc}(hk:k<3) (h:(jL x k).find? (fun d=>d.nm.data.toList==s.data.toList)=some d):qW x s k=some d:=by
 match k,hk with
 | 0,_=>
  have h:x.ins.find? (fun d=>d.nm.data.toList==s.data.toList)=some d:=h
  show(x.ins++x.outs++x.vars).find? _=_
  rw [Yw,List.find?_append,h];rfl
 | 1,_=>
  have h:x.outs.find? (fun d=>d.nm.data.toList==s.data.toList)=some d:=h
  show(x.outs++x.vars).find? _=_
  rw [List.find?_append,h];rfl
 | 2,_=>exact h
theorem aIp{x:Nd}{s:ByteArray}{k:Nat}(hk:k<3) (h:(jL x k).find? (fun d=>d.nm.data.toList==s.data.toList)=none):qW x s k=qW x s (k+1):=by
 match k,hk with
 | 0,_=>
  have h:x.ins.find? (fun d=>d.nm.data.toList==s.data.toList)=none:=h
  show(x.ins++x.outs++x.vars).find? _=(x.outs++x.vars).find? _
  rw [Yw,List.find?_append,h];rfl
 | 1,_=>
  have h:x.outs.find? (fun d=>d.nm.data.toList==s.data.toList)=none:=h
  show(x.outs++x.vars).find? _=x.vars.find? _
  rw [List.find?_append,h];rfl
 | 2,_=>exact h
def sD(x:Nd) (A1:Option Addr) (c1:Nat) (A2:Option Addr) (c2:Nat) (A3:Option Addr) (c3:Nat):Array Value:=#[.slice A1 x.ins.length c1,.slice A2 x.outs.length c2,.slice A3 x.vars.length c3]
theorem aDs{x:Nd}{A1:Option Addr}{c1:Nat}{A2:Option Addr}{c2:Nat}{A3:Option Addr}{c3:Nat}{A4:Option Addr}{w:World}(h:cJ w x A1 A2 A3 A4){k:Nat}(hk:k<3):
 ∃ A c,(sD x A1 c1 A2 c2 A3 c3)[k]?=some (.slice A (jL x k).length c)/\cH w A (jL x k).length (jL x k):=by
 match k,hk with
 | 0,_=>exact⟨A1,c1,rfl,h.1⟩
 | 1,_=>exact⟨A2,c2,rfl,h.2.1⟩
 | 2,_=>exact⟨A3,c3,rfl,h.2.2.1⟩
theorem aR3(x:Nd) (A1:Option Addr) (c1:Nat) (A2:Option Addr) (c2:Nat) (A3:Option Addr) (c3:Nat) (A4:Option Addr) (c4:Nat) (s:ByteArray) (w:World) (h:cJ w x A1 A2 A3 A4):
 Calls Tryz.prog 115 #[.agg (bL x A1 c1 A2 c2 A3 c3 A4 c4),.string s] w (mB w (aW x s)):=by
 have HF:=Hd fun w1 hw=>iB w x A1 c1 A2 c2 A3 c3 A4 c4 w1 hw h;have Bt:=Hd kZ;have H0:=Hd (show qW x s 0=aW x s from rfl);have Aw:=Hd (show qW x s 3=none from rfl);have Ak:=Hd fun(k:Nat) hk d h=>aKs (x:=x) (s:=s) (k:=k) (d:=d) hk h;have Ah:=Hd fun(k:Nat) hk h=>aIp (x:=x) (s:=s) (k:=k) hk h;have Bm:=Hd fun(w:World) (h:cJ w x A1 A2 A3 A4) (k:Nat) hk=>aDs (c1:=c1) (c2:=c2) (c3:=c3) h (k:=k) hk;unfold bL;unfold sD at Bm;generalize aW x s=As at *;generalize qW x s=rest at *;unfold bC at Bt
 go_enter Tryz.func115,Tryz.ntmps115
 go_upto_region 1 with(fail)
 generalize Bo:w.alloc _=w1;obtain⟨Bh,hg,Bq,Ae⟩:=HF.o w1 Bo;have Bw:=Hd Bh;have Ba:=Hd Ae;have Br:=Hd Bq
 have Be:=Hd fun w2 (hw:w1.alloc (.cells (bC default) 58)=w2)=>(show jO w2 (w.heap.size+1) default/\Below w1.heap.size w1 w2/\w2.heap.size=w.heap.size+2 by
  subst hw;exact⟨by rw [<- hg];exact Zw _ _,(Yg _ _).alloc (Yh _) _,by simp [hg]⟩)
 clear Bo Ae Bh HF h Bq;generalize Bu:w1.alloc _=w2;obtain⟨Bp,Ao,Bk⟩:=Be.o w2 Bu;have Aj:=Hd Bp;simp only [bL] at Ba;obtain⟨-,q1,q2,q3,-,-⟩:=Sx (Ba.o w2 Ao);simp only [Ya,Yb,Yc] at q1 q2 q3;have Ay:=Hd (Bw.o.trans (Ao.mono Bw.o.size));have Bj:=Hd (Br.o.below Ao)
 have Bv:=Hd fun w3 (hw:w2.alloc (.cells #[.slice A1 x.ins.length c1,.slice A2 x.outs.length c2,.slice A3 x.vars.length c3] 50)=w3)=>(show Below w2.heap.size w2 w3/\w3.heap.size=w.heap.size+3/\∀ w',Below w3.heap.size w3 w'->∀ j,w'.cell? ⟨w.heap.size+2,j,none⟩=(#[.slice A1 x.ins.length c1,.slice A2 x.outs.length c2,.slice A3 x.vars.length c3]:Array Value)[j]? by
  subst hw;refine⟨(Yg _ _).alloc (Yh _) _,by simp [Bk],fun w' hb j=>?_⟩;rw [<- Bk,hb.cell (p:=⟨w2.heap.size,j,none⟩) (by simp),Zo])
 clear Bu Bp Ao Be Ba Br
 go_upto_region 2 with(fail)
 generalize Bl:w2.alloc _=w3;obtain⟨Ar,Ci,Ac⟩:=Bv.o w3 Bl;have Cb:=Hd Ac;have Af:=Hd (Aj.o.below Ar);have Aq:=Hd (Ay.o.trans (Ar.mono Ay.o.size));have Cc:=Hd (Bj.o.below Ar);clear Bl Bv Ar Ac q1 q2 q3 Aj Ay Bj
 go_loopw [18] (fun i wr=>∃ k:Nat,k<=3/\i=.int .i64 k/\rest k=As/\Below w3.heap.size w3 wr) (fun i _=>3-(intOf i).toNat)
 case atStart=>exact⟨0,by omega,rfl,H0.o,Yg _ _⟩
 case round=>
  obtain⟨k,hk,rfl,Al,Ag⟩:=hrel;have HT:=Hd Al;have Bf:=Hd Ag;clear Al
  by_cases Av:k<3
  . obtain⟨A,c,Bg,An⟩:=Bm.o wr (Cc.o.below Ag) k Av;have e0:=Cb.o wr Ag k;rw [Bg] at e0;have Cf:=Hd An;have Cg:=aQ.len An;have Cj:=aQ.max An;have Az:=Hd (fun(j:Nat) hj hn hy=>Ak.o k Av _ (xF (l:=jL x k) (f:=fun d:Dc=>d.nm.data.toList==s.data.toList) (k:=j) hj hn hy));have Cd:=Hd (fun hn=>Ah.o k Av (aCc (l:=jL x k) (f:=fun d:Dc=>d.nm.data.toList==s.data.toList) hn));clear Bg An Ag;generalize jL x k=l at *;generalize l.length=n at *
    go_upto_region 5 with(fail)
    generalize wr=wo at *
    go_loopw [24] (fun i wr=>∃ j:Nat,j<=n/\i=.int .i64 j/\(∀ m,m<j->((l[m]?.getD default).nm.data.toList==s.data.toList)=false)/\Below wo.heap.size wo wr) (fun i _=>n-(intOf i).toNat)
    case atStart=>exact⟨0,by omega,rfl,fun j hj=>absurd hj (by omega),Yg _ _⟩
    case round=>
     obtain⟨j,hj,rfl,Al,Au⟩:=hrel;have Bb:=Hd Al;have Bn:=Hd Au;have Ai:=Hd (Bf.o.trans (Au.mono Bf.o.size));clear Al
     by_cases Ce:j<n
     . obtain⟨b,Ch,rfl,hb,hc⟩:=aQ.at_ (cH.below Cf.o Au) (by omega);obtain⟨d0,d1,d2,d3,d4,d5⟩:=(hc j Ce).six;clear hc;have HH:=Hd (Az.o j (by omega) Bb.o);have HS:=Hd fun(hf:((l[j]?.getD default).nm.data.toList==s.data.toList)=false)=>dK (P:=fun m=>((l[m]?.getD default).nm.data.toList==s.data.toList)=false) Bb.o hf;generalize l[j]?.getD default=d at d0 d1 d2 d3 d4 d5 HH HS;have Bi:=Hd fun w4 hw=>Bt.o wr d w4 hw;clear Au
       go_upto_region 7 with(fail)
       generalize Bd:World.alloc _ _=w4;obtain⟨Ap,Ck,Ab⟩:=Bi.o _ Bd;obtain⟨r0,r1,r2,r3,r4,r5⟩:=Sx (Ab w4 (Yg _ _));simp only [Ya,Yb,Yc] at r0 r1 r2 r3 r4 r5;have Aa:=Hd (Af.o.below (Ai.o.trans (Ap.mono Ai.o.size)));have Ax:=Hd (Aq.o.trans ((Ai.o.trans (Ap.mono Ai.o.size)).mono Aq.o.size));have Bc:=Hd (Bn.o.trans (Ap.mono Bn.o.size));clear d0 d1 d2 d3 d4 d5 Ap Ab Bd Bi
       cases h1:(d.nm.toList==s.toList) with
       | true=>
        have Ca:=Hd (HH.o (by rw [<- Zc,<- Zc];exact h1));have Ad:=Hd (Aa.o.set d);have Am:=Hd (Xb Ax.o (g:=w.heap.size+1) (by omega) (bC d));unfold bC at Ad Am;have HO:=Hd (show some d=As from Ca.o.symm.trans HT.o)
        go_wp2_with (refine Zu rfl _ _ _ rfl (w.heap.size+1) _ rfl rfl _ _ Aa.o sC rfl (by simp [Value.oneCell']) ?_)
        exact Zt (uO (p:=4) (u:=5) rfl _ _ (w.heap.size+1) rfl Ad.o) rfl ⟨by rw [<- HO.o];rfl,Am.o⟩
       | false=>
        have Bx:=Hd (HS.o (by rw [<- Zc,<- Zc];exact h1))
        go_wp2_with fail
        go_roundw
        case rel=>exact⟨j+1,by omega,by go_num,Bx.o,Bc.o⟩
        case measure=>simp [intOf];omega
     . have Cl:j=n:=by omega
       have HN:=Hd (show rest (k+1)=As from(Cd.o fun m hm=>Bb.o m (by omega)).symm.trans HT.o)
       go_wp2_with fail
       go_roundw
       case rel=>exact⟨k+1,by omega,by go_num,HN.o,Ai.o⟩
       case measure=>simp [intOf];omega
  . have Bz:k=3:=by omega
    subst Bz;have HO:=Hd (show none=As from Aw.o.symm.trans HT.o);have Aa:=Hd (Af.o.below Ag);have Ax:=Hd (Aq.o.trans (Ag.mono Aq.o.size));have Ad:=Hd (Aa.o.set default);have Am:=Hd (Xb Ax.o (g:=w.heap.size+1) (by omega) (bC default))
    go_wp2_with (refine Zu rfl _ _ _ rfl (w.heap.size+1) _ rfl rfl _ _ Aa.o sC rfl (by simp [Value.oneCell']) ?_)
    exact Zt (uO (d:=default) (p:=4) (u:=5) rfl _ _ (w.heap.size+1) rfl Ad.o) rfl ⟨by rw [<- HO.o];rfl,Am.o⟩
end
section
open Go.Shelf Go.RowKit Go.Lib Go.Sort
def aCn:Go.Shelf.Ren:=⟨fun | 4=>147 | n=>n,fun | 22=>50 | 25=>58 | 3=>3 | 4=>4 | 9=>9 | 20=>20 | 0=>0 | n=>n,fun | n=>n⟩
theorem aFw:Go.Proofs.Lays8.n4 Tryz.prog aCn:={
 mixed:=by kernel_rfl
 f4:=⟨Tryz.f147.name,by decide,Tryz.func147.trans (congrArg some (by kernel_rfl))⟩
 t0:=Tryz.underlying0
 a0:=Tryz.isAgg0
 z0:=Tryz.sizeOf0
 v0:=Tryz.zeroValue0
 t3:=Tryz.underlying3
 a3:=Tryz.isAgg3
 z3:=Tryz.sizeOf3
 v3:=Tryz.zeroValue3
 t4:=Tryz.underlying4
 a4:=Tryz.isAgg4
 z4:=Tryz.sizeOf4
 v4:=Tryz.zeroValue4
 t9:=Tryz.underlying9
 a9:=Tryz.isAgg9
 z9:=Tryz.sizeOf9
 v9:=Tryz.zeroValue9
 t20:=Tryz.underlying20
 a20:=Tryz.isAgg20
 z20:=Tryz.sizeOf20
 v20:=Tryz.zeroValue20
 t22:=Tryz.underlying50
 a22:=Tryz.isAgg50
 z22:=Tryz.sizeOf50
 v22:=Tryz.zeroValue50 }
theorem aP0(n:Nat) (w:World) (hn:n<=1000000):
 Calls Tryz.prog 147 #[.slice none 0 0,.int .i64 n] w fun e w'=>∃ v,e=.returned v/\w'.ownsRow w.heap.size 58 6 v 0 (eL [])/\Below w.heap.size w w':=by
 obtain⟨i0,z0,hi,Ab,Ad,Ac,Aa⟩:=nO xC;rcases Nat.eq_zero_or_pos n with rfl | hp
 . refine(Any8.slices_Grow_room aFw none 0 0 0 w (Yh _) (by omega) (by omega) (by omega)).mono ?_;rintro e w' ⟨rfl,rfl⟩;exact⟨_,rfl,⟨rfl,.inl ⟨rfl,rfl⟩⟩,Yg _ _⟩
 . refine(Any8.slices_Grow_grow aFw i0 z0 hi Ab (by omega) none 0 0 n [] w (Yh _) (by omega) (by rw [Ac];omega) (by omega) (by simp) (fun _=>rfl) (fun a h=>by cases h)).mono ?_;rintro e w' ⟨rfl,rfl⟩;refine⟨_,rfl,⟨rfl,.inr ⟨w.heap.size,_,_,rfl,Yh _,Zw _ _,Yq _,?_,?_,?_⟩⟩,?_⟩
   . exact grownCap_le_maxLen _ _ _ _ (by unfold maxLen;omega)
   . have:=grownCap_ge w (0+n) 0 58
     show(_:Array Value).size=grownCap w (0+n) 0 58*6
     simp only [Array.size_append,size_zeroCells,Aa,List.size_toArray,Zd];rw [show aCn.t 25=58 from rfl];omega
   . rfl
   . exact(Yg _ _).drew.alloc (Yh _) _
end
section
open Go.RowKit Go.Sort
theorem tM{w w':World}{base:Nat}{e:TypeId}{size n:Nat}{v:Value}{xs:List Value}(h:w.ownsRow base e size v n xs) (hb:Below w.heap.size w w'):w'.ownsRow base e size v n xs:=by
 refine⟨h.1,?_⟩;rcases h.2 with h2 | ⟨g,cap,cur,hv,hg,hh,hr⟩
 . exact .inl h2
 . exact .inr ⟨g,cap,cur,hv,hg,(hb.block g (Yl.1 hh).1).trans hh,hr⟩
end
section
open Go.RowKit Go.Sort
theorem qA{α:Type}(f:α->Bool):∀ (l:List α),decide ((0:Int)<=bE f l 0)=l.any f:=by
 have Aa:∀ (l:List α) (i:Nat),decide ((0:Int)<=bE f l i)=l.any f:=by
  intro l
  induction l with
  | nil=>intro i;simp [bE]
  | cons a l ih=>
   intro i;rw [bE]
   cases ha:f a with
   | true=>simp [ha]
   | false=>simp only [List.any_cons,ha,Bool.false_or];rw [if_neg (by simp)];exact ih (i+1)
 exact fun l=>Aa l 0
theorem wF{f:ByteArray->Bool}:∀ {l:List ByteArray}{k i:Nat},k<l.length->(∀ j,j<k->f (l[j]?.getD ByteArray.empty)=false)->f (l[k]?.getD ByteArray.empty)=true->bE f l i=((i+k:Nat):Int)
 | [],k,i,h,_,_=>by simp at h
 | a::l,0,i,_,_,h=>by
  have h:f a=true:=by simpa using h
  simp [bE,h]
 | a::l,k+1,i,hk,hn,h=>by
  have h0:f a=false:=by simpa using hn 0 (by omega)
  rw [bE,h0,if_neg (by simp),wF (k:=k) (by simpa using hk) (fun j hj=>by simpa using hn (j+1) (by omega)) (by simpa using h)]
  congr 1
  omega
theorem vQ{f:ByteArray->Bool}:∀ {l:List ByteArray}{i:Nat},(∀ j,j<l.length->f (l[j]?.getD ByteArray.empty)=false)->bE f l i=-1
 | [],i,_=>rfl
 | a::l,i,hn=>by
  have h0:f a=false:=by simpa using hn 0 (by simp)
  rw [bE,h0,if_neg (by simp)];exact vQ fun j hj=>by simpa using hn (j+1) (by simpa using hj)
theorem zE{w:World}{A:Option Addr}{n i:Nat}{l:List Nd}(h:eW w A n l) (hi:i<n):
 ∃ b Aa A1 c1 A2 c2 A3 c3 A4 c4,A=some ⟨b,Aa,none⟩/\b<w.heap.size/\cJ w (l[i]?.getD default) A1 A2 A3 A4 /\
 w.cell? ⟨b,Aa+i*5,none⟩=some (.string (l[i]?.getD default).nm)/\w.cell? ⟨b,Aa+i*5+1,none⟩=some (.slice A1 (l[i]?.getD default).ins.length c1)/\w.cell? ⟨b,Aa+i*5+2,none⟩=some (.slice A2 (l[i]?.getD default).outs.length c2)/\w.cell? ⟨b,Aa+i*5+3,none⟩=some (.slice A3 (l[i]?.getD default).vars.length c3)/\w.cell? ⟨b,Aa+i*5+4,none⟩=some (.slice A4 (l[i]?.getD default).eqs.length c4):=by
 obtain⟨b,Aa,e,hb,hc⟩:=aQ.at_ h (by omega);obtain⟨A1,c1,A2,c2,A3,c3,A4,c4,h1,h2⟩:=hc i hi;obtain⟨d0,d1,d2,d3,d4⟩:=tS h1;exact⟨b,Aa,A1,c1,A2,c2,A3,c3,A4,c4,e,hb,h2,d0,d1,d2,d3,d4⟩
theorem zF{w:World}{A:Option Addr}{n i:Nat}{l:List Qn}(h:gR w A n l) (hi:i<n):
 ∃ b Aa,∃ B c A' ca B' cb,A=some ⟨b,Aa,none⟩/\b<w.heap.size/\(aN w B (l[i]?.getD default).ns.length (l[i]?.getD default).ns/\aJ w (l[i]?.getD default).x A' B') /\
  w.cell? ⟨b,Aa+i*7,none⟩=some (.slice B (l[i]?.getD default).ns.length c)/\w.cell? ⟨b,Aa+i*7+1,none⟩=some (.int .i64 (l[i]?.getD default).x.k)/\w.cell? ⟨b,Aa+i*7+2,none⟩=some (.int .i64 (l[i]?.getD default).x.n) /\
  w.cell? ⟨b,Aa+i*7+3,none⟩=some (.string (l[i]?.getD default).x.s)/\w.cell? ⟨b,Aa+i*7+4,none⟩=some (.int .i64 (l[i]?.getD default).x.op)/\w.cell? ⟨b,Aa+i*7+5,none⟩=some (.slice A' (l[i]?.getD default).x.arms.length ca)/\w.cell? ⟨b,Aa+i*7+6,none⟩=some (.slice B' (l[i]?.getD default).x.subs.length cb):=by
 obtain⟨b,Aa,e,hb,hc⟩:=aQ.at_ h (by omega);obtain⟨B,c,A',ca,B',cb,h0,h1,h2,h3⟩:=hc i hi;obtain⟨c0,c1,c2,c3,c4,c5⟩:=eG h2;exact⟨b,Aa,B,c,A',ca,B',cb,e,hb,⟨h1,h3⟩,h0,c0,c1,c2,c3,c4,c5⟩
theorem qX{w:World}{A:Option Addr}{n i:Nat}{l:List Dc}(h:cH w A n l) (hi:i<n):
 ∃ b Aa,A=some ⟨b,Aa,none⟩/\b<w.heap.size/\w.cell? ⟨b,Aa+i*6,none⟩=some (.string (l[i]?.getD default).nm)/\w.cell? ⟨b,Aa+i*6+1,none⟩=some (.int .i64 (l[i]?.getD default).k)/\w.cell? ⟨b,Aa+i*6+2,none⟩=some (.int .i64 (l[i]?.getD default).e) /\
  w.cell? ⟨b,Aa+i*6+3,none⟩=some (.int .i64 (l[i]?.getD default).l)/\w.cell? ⟨b,Aa+i*6+4,none⟩=some (.string (l[i]?.getD default).on)/\w.cell? ⟨b,Aa+i*6+5,none⟩=some (.string (l[i]?.getD default).ct):=by
 obtain⟨b,Aa,e,hb,hc⟩:=aQ.at_ h (by omega);exact⟨b,Aa,e,hb,(hc i hi).six⟩
def pK(g:Nat) (lb:Array Value) (f:Nd->Bool) (l:List Nd) (w:World):Prop:=
 ∀ x,x∈l->∀ (A1:Option Addr) (c1:Nat) (A2:Option Addr) (c2:Nat) (A3:Option Addr) (c3:Nat) (A4:Option Addr) (c4:Nat) (W:World),Below w.heap.size w W->cJ W x A1 A2 A3 A4 ->
  Calls Tryz.prog g (#[.agg (bL x A1 c1 A2 c2 A3 c3 A4 c4)]++lb) W fun e w'=>e=.returned (.bool (f x))/\Below W.heap.size W w'
theorem aCo(g:Nat) (lb:Array Value) (eg:∀ args w,(callFunc g args).run Tryz.prog w=.ok (.enter g args) w) (f:Nd->Bool) (A:Option Addr) (n c:Nat) (l:List Nd) (w:World) (h:eW w A n l) (hf:pK g lb f l w):
 Calls Tryz.prog 132 #[.slice A n c,.func (.func g) #[] lb] w fun e w'=>e=.returned (.int .i64 (bE f l 0))/\Below w.heap.size w w':=by
 have HR:=Hd h;have HP:=Hd hf;have Ah:=aQ.len h;have Ap:=aQ.max h;have Ag:=Hd (fun(k:Nat) hk hn hy=>show bE f l 0=(k:Int) by have:=nR (l:=l) (f:=f) (k:=k) (i:=0) hk hn hy;rwa [Nat.zero_add] at this);have Al:=Hd (fun hn=>show bE f l 0=-1 from nP (l:=l) (f:=f) (i:=0) hn);generalize bE f l 0=Ao at *;have Ae:=Hd Ah;clear h hf Ah;unfold pK at HP
 go_enter Tryz.func132,Tryz.ntmps132
 go_wp2_with fail
 go_loopw [5,8] (fun _ i wr=>∃ k:Nat,k<=n/\i=.int .i64 k/\(∀ j,j<k->f (l[j]?.getD default)=false)/\Below w.heap.size w wr) (fun _ i _=>n-(intOf i).toNat)
 case atStart=>exact⟨0,Yq _,rfl,fun j hj=>absurd hj (by omega),Yg _ _⟩
 case round=>
  obtain⟨k,hk,rfl,Aj,Ad⟩:=hrel;have HT:=Hd Aj;have Ab:=Hd Ad;clear Aj
  by_cases Af:k<n
  . obtain⟨b,An,A1,c1,A2,c2,A3,c3,A4,c4,rfl,hb,Ai,d0,d1,d2,d3,d4⟩:=zE (HR.o.below Ad) Af;have Aa:=Hd (HP.o _ (kY (by rw [Ae.o];exact Af)) A1 c1 A2 c2 A3 c3 A4 c4 wr Ad Ai);have HH:=Hd (Ag.o k (by rw [Ae.o];exact Af) HT.o);have HS:=Hd fun(hf:f (l[k]?.getD default)=false)=>dK (P:=fun j=>f (l[j]?.getD default)=false) HT.o hf;clear Ad  Ai;unfold bL at Aa;generalize l[k]?.getD default=x at d0 d1 d2 d3 d4 Aa HH HS
    cases hq:f x with
    | true=>
     have HO:=Hd (HH.o hq);rw [hq] at Aa
     go_wp2_with (go_at_fn g;refine Aa.o.mono ?_;rintro e w3 ⟨rfl,Ac⟩)
     go_ret
     exact⟨cF HO.o.symm,Ab.o.trans (Ac.mono Ab.o.size)⟩
    | false=>
     have HO:=Hd (HS.o hq);rw [hq] at Aa
     go_wp2_with (go_at_fn g;refine Aa.o.mono ?_;rintro e w3 ⟨rfl,Ac⟩;have Ak:=Hd (Ab.o.trans (Ac.mono Ab.o.size));clear Ac)
     go_roundw
     case rel=>exact⟨k+1,by omega,by go_num,HO.o,Ak.o⟩
     case measure=>simp [intOf];omega
  . have Am:k=n:=by omega
    have HN:=Hd (Al.o fun j hj=>HT.o j (by rw [Ae.o] at hj;omega))
    go_wp2_with fail
    go_ret
    exact⟨cF HN.o.symm,Ab.o⟩
theorem aP1(g:Nat) (lb:Array Value) (eg:∀ args w,(callFunc g args).run Tryz.prog w=.ok (.enter g args) w) (f:Nd->Bool) (A:Option Addr) (n c:Nat) (l:List Nd) (w:World) (h:eW w A n l) (hf:pK g lb f l w):
 Calls Tryz.prog 90 #[.slice A n c,.func (.func g) #[] lb] w fun e w'=>e=.returned (.bool (l.any f))/\Below w.heap.size w w':=by
 have HI:=Hd (aCo g lb eg f A n c l w h hf);have HA:=Hd (qA f l);clear h hf
 go_enter Tryz.func90,Tryz.ntmps90
 go_wp2_with fail
 refine HI.o.mono ?_;rintro e w2 ⟨rfl,Aa⟩;have Ab:=Hd Aa;clear Aa
 cases ha:l.any f with
 | true=>
  rw [ha] at HA;have d0:decide ((0:Int)<=bE f l 0)=true:=HA.o
  go_wp2_with fail
  go_ret
  exact⟨aF ha.symm,Ab.o⟩
 | false=>
  rw [ha] at HA;have d0:decide ((0:Int)<=bE f l 0)=false:=HA.o
  go_wp2_with fail
  go_ret
  exact⟨aF ha.symm,Ab.o⟩
def sE(g:Nat) (lb:Array Value) (f:Dc->Bool) (l:List Dc) (w:World):Prop:=
 ∀ x,x∈l->∀ (W:World),Below w.heap.size w W ->
  Calls Tryz.prog g (#[.agg (bC x)]++lb) W fun e w'=>e=.returned (.bool (f x))/\Below W.heap.size W w'
theorem aKt(g:Nat) (lb:Array Value) (eg:∀ args w,(callFunc g args).run Tryz.prog w=.ok (.enter g args) w) (f:Dc->Bool) (A:Option Addr) (n c:Nat) (l:List Dc) (w:World) (h:cH w A n l) (hf:sE g lb f l w):
 Calls Tryz.prog 57 #[.slice A n c,.func (.func g) #[] lb] w fun e w'=>e=.returned (.int .i64 (bE f l 0))/\Below w.heap.size w w':=by
 have HR:=Hd h;have HP:=Hd hf;have Ah:=aQ.len h;have Ao:=aQ.max h;have Ag:=Hd (fun(k:Nat) hk hn hy=>show bE f l 0=(k:Int) by have:=nR (l:=l) (f:=f) (k:=k) (i:=0) hk hn hy;rwa [Nat.zero_add] at this);have Ak:=Hd (fun hn=>show bE f l 0=-1 from nP (l:=l) (f:=f) (i:=0) hn);generalize bE f l 0=An at *;have Ae:=Hd Ah;clear h hf Ah;unfold sE at HP
 go_enter Tryz.func57,Tryz.ntmps57
 go_wp2_with fail
 go_loopw [5,8] (fun _ i wr=>∃ k:Nat,k<=n/\i=.int .i64 k/\(∀ j,j<k->f (l[j]?.getD default)=false)/\Below w.heap.size w wr) (fun _ i _=>n-(intOf i).toNat)
 case atStart=>exact⟨0,Yq _,rfl,fun j hj=>absurd hj (by omega),Yg _ _⟩
 case round=>
  obtain⟨k,hk,rfl,Ai,Ad⟩:=hrel;have HT:=Hd Ai;have Ab:=Hd Ad;clear Ai
  by_cases Af:k<n
  . obtain⟨b,Am,rfl,hb,d0,d1,d2,d3,d4,d5⟩:=qX (HR.o.below Ad) Af;have Aa:=Hd (HP.o _ (kY (by rw [Ae.o];exact Af))  wr Ad);have HH:=Hd (Ag.o k (by rw [Ae.o];exact Af) HT.o);have HS:=Hd fun(hf:f (l[k]?.getD default)=false)=>dK (P:=fun j=>f (l[j]?.getD default)=false) HT.o hf;clear Ad;unfold bC at Aa;generalize l[k]?.getD default=x at d0 d1 d2 d3 d4 d5 Aa HH HS
    cases hq:f x with
    | true=>
     have HO:=Hd (HH.o hq);rw [hq] at Aa
     go_wp2_with (go_at_fn g;refine Aa.o.mono ?_;rintro e w3 ⟨rfl,Ac⟩)
     go_ret
     exact⟨cF HO.o.symm,Ab.o.trans (Ac.mono Ab.o.size)⟩
    | false=>
     have HO:=Hd (HS.o hq);rw [hq] at Aa
     go_wp2_with (go_at_fn g;refine Aa.o.mono ?_;rintro e w3 ⟨rfl,Ac⟩;have Aj:=Hd (Ab.o.trans (Ac.mono Ab.o.size));clear Ac)
     go_roundw
     case rel=>exact⟨k+1,by omega,by go_num,HO.o,Aj.o⟩
     case measure=>simp [intOf];omega
  . have Al:k=n:=by omega
    have HN:=Hd (Ak.o fun j hj=>HT.o j (by rw [Ae.o] at hj;omega))
    go_wp2_with fail
    go_ret
    exact⟨cF HN.o.symm,Ab.o⟩
theorem yE(g:Nat) (lb:Array Value) (eg:∀ args w,(callFunc g args).run Tryz.prog w=.ok (.enter g args) w) (f:Dc->Bool) (A:Option Addr) (n c:Nat) (l:List Dc) (w:World) (h:cH w A n l) (hf:sE g lb f l w):
 Calls Tryz.prog 23 #[.slice A n c,.func (.func g) #[] lb] w fun e w'=>e=.returned (.bool (l.any f))/\Below w.heap.size w w':=by
 have HI:=Hd (aKt g lb eg f A n c l w h hf);have HA:=Hd (qA f l);clear h hf
 go_enter Tryz.func23,Tryz.ntmps23
 go_wp2_with fail
 refine HI.o.mono ?_;rintro e w2 ⟨rfl,Aa⟩;have Ab:=Hd Aa;clear Aa
 cases ha:l.any f with
 | true=>
  rw [ha] at HA;have d0:decide ((0:Int)<=bE f l 0)=true:=HA.o
  go_wp2_with fail
  go_ret
  exact⟨aF ha.symm,Ab.o⟩
 | false=>
  rw [ha] at HA;have d0:decide ((0:Int)<=bE f l 0)=false:=HA.o
  go_wp2_with fail
  go_ret
  exact⟨aF ha.symm,Ab.o⟩
def uZ(g:Nat) (lb:Array Value) (f:Qn->Bool) (l:List Qn) (w:World):Prop:=
 ∀ x,x∈l->∀ (B:Option Addr) (c:Nat) (A:Option Addr) (ca:Nat) (D:Option Addr) (cb:Nat) (W:World),Below w.heap.size w W->aN W B x.ns.length x.ns/\aJ W x.x A D ->
  Calls Tryz.prog g (#[.agg (eM x B c A ca D cb)]++lb) W fun e w'=>e=.returned (.bool (f x))/\Below W.heap.size W w'
theorem aKu(g:Nat) (lb:Array Value) (eg:∀ args w,(callFunc g args).run Tryz.prog w=.ok (.enter g args) w) (f:Qn->Bool) (A:Option Addr) (n c:Nat) (l:List Qn) (w:World) (h:gR w A n l) (hf:uZ g lb f l w):
 Calls Tryz.prog 25 #[.slice A n c,.func (.func g) #[] lb] w fun e w'=>e=.returned (.int .i64 (bE f l 0))/\Below w.heap.size w w':=by
 have HR:=Hd h;have HP:=Hd hf;have Ah:=aQ.len h;have Ap:=aQ.max h;have Ag:=Hd (fun(k:Nat) hk hn hy=>show bE f l 0=(k:Int) by have:=nR (l:=l) (f:=f) (k:=k) (i:=0) hk hn hy;rwa [Nat.zero_add] at this);have Al:=Hd (fun hn=>show bE f l 0=-1 from nP (l:=l) (f:=f) (i:=0) hn);generalize bE f l 0=Ao at *;have Ae:=Hd Ah;clear h hf Ah;unfold uZ at HP
 go_enter Tryz.func25,Tryz.ntmps25
 go_wp2_with fail
 go_loopw [5,8] (fun _ i wr=>∃ k:Nat,k<=n/\i=.int .i64 k/\(∀ j,j<k->f (l[j]?.getD default)=false)/\Below w.heap.size w wr) (fun _ i _=>n-(intOf i).toNat)
 case atStart=>exact⟨0,Yq _,rfl,fun j hj=>absurd hj (by omega),Yg _ _⟩
 case round=>
  obtain⟨k,hk,rfl,Aj,Ad⟩:=hrel;have HT:=Hd Aj;have Ab:=Hd Ad;clear Aj
  by_cases Af:k<n
  . obtain⟨b,An,B,cB,A1,ca,D,cb,rfl,hb,Ai,d0,d1,d2,d3,d4,d5,d6⟩:=zF (HR.o.below Ad) Af;have Aa:=Hd (HP.o _ (kY (by rw [Ae.o];exact Af)) B cB A1 ca D cb wr Ad Ai);have HH:=Hd (Ag.o k (by rw [Ae.o];exact Af) HT.o);have HS:=Hd fun(hf:f (l[k]?.getD default)=false)=>dK (P:=fun j=>f (l[j]?.getD default)=false) HT.o hf;clear Ad  Ai;unfold eM at Aa;generalize l[k]?.getD default=x at d0 d1 d2 d3 d4 d5 d6 Aa HH HS
    cases hq:f x with
    | true=>
     have HO:=Hd (HH.o hq);rw [hq] at Aa
     go_wp2_with (go_at_fn g;refine Aa.o.mono ?_;rintro e w3 ⟨rfl,Ac⟩)
     go_ret
     exact⟨cF HO.o.symm,Ab.o.trans (Ac.mono Ab.o.size)⟩
    | false=>
     have HO:=Hd (HS.o hq);rw [hq] at Aa
     go_wp2_with (go_at_fn g;refine Aa.o.mono ?_;rintro e w3 ⟨rfl,Ac⟩;have Ak:=Hd (Ab.o.trans (Ac.mono Ab.o.size));clear Ac)
     go_roundw
     case rel=>exact⟨k+1,by omega,by go_num,HO.o,Ak.o⟩
     case measure=>simp [intOf];omega
  . have Am:k=n:=by omega
    have HN:=Hd (Al.o fun j hj=>HT.o j (by rw [Ae.o] at hj;omega))
    go_wp2_with fail
    go_ret
    exact⟨cF HN.o.symm,Ab.o⟩
theorem aP2(g:Nat) (lb:Array Value) (eg:∀ args w,(callFunc g args).run Tryz.prog w=.ok (.enter g args) w) (f:Qn->Bool) (A:Option Addr) (n c:Nat) (l:List Qn) (w:World) (h:gR w A n l) (hf:uZ g lb f l w):
 Calls Tryz.prog 142 #[.slice A n c,.func (.func g) #[] lb] w fun e w'=>e=.returned (.bool (l.any f))/\Below w.heap.size w w':=by
 have HI:=Hd (aKu g lb eg f A n c l w h hf);have HA:=Hd (qA f l);clear h hf
 go_enter Tryz.func142,Tryz.ntmps142
 go_wp2_with fail
 refine HI.o.mono ?_;rintro e w2 ⟨rfl,Aa⟩;have Ab:=Hd Aa;clear Aa
 cases ha:l.any f with
 | true=>
  rw [ha] at HA;have d0:decide ((0:Int)<=bE f l 0)=true:=HA.o
  go_wp2_with fail
  go_ret
  exact⟨aF ha.symm,Ab.o⟩
 | false=>
  rw [ha] at HA;have d0:decide ((0:Int)<=bE f l 0)=false:=HA.o
  go_wp2_with fail
  go_ret
  exact⟨aF ha.symm,Ab.o⟩
def zG(g:Nat) (lb:Array Value) (f:ByteArray->Bool) (l:List ByteArray) (w:World):Prop:=
 ∀ x,x∈l->∀ (W:World),Below w.heap.size w W ->
  Calls Tryz.prog g (#[.string x]++lb) W fun e w'=>e=.returned (.bool (f x))/\Below W.heap.size W w'
theorem aNi(g:Nat) (lb:Array Value) (eg:∀ args w,(callFunc g args).run Tryz.prog w=.ok (.enter g args) w) (f:ByteArray->Bool) (A:Option Addr) (n c:Nat) (l:List ByteArray) (w:World) (h:aN w A n l) (hf:zG g lb f l w):
 Calls Tryz.prog 180 #[.slice A n c,.func (.func g) #[] lb] w fun e w'=>e=.returned (.int .i64 (bE f l 0))/\Below w.heap.size w w':=by
 have HR:=Hd h;have HP:=Hd hf;have Ah:=aN.len h;have Ao:=aN.max h;have Ag:=Hd (fun(k:Nat) hk hn hy=>show bE f l 0=(k:Int) by have:=wF (l:=l) (f:=f) (k:=k) (i:=0) hk hn hy;rwa [Nat.zero_add] at this);have Ak:=Hd (fun hn=>show bE f l 0=-1 from vQ (l:=l) (f:=f) (i:=0) hn);generalize bE f l 0=An at *;have Af:=Hd Ah;clear h hf Ah;unfold zG at HP
 go_enter Tryz.func180,Tryz.ntmps180
 go_wp2_with fail
 go_loopw [5,8] (fun _ i wr=>∃ k:Nat,k<=n/\i=.int .i64 k/\(∀ j,j<k->f (l[j]?.getD ByteArray.empty)=false)/\Below w.heap.size w wr) (fun _ i _=>n-(intOf i).toNat)
 case atStart=>exact⟨0,Yq _,rfl,fun j hj=>absurd hj (by omega),Yg _ _⟩
 case round=>
  obtain⟨k,hk,rfl,Ai,Ae⟩:=hrel;have HT:=Hd Ai;have Ab:=Hd Ae;clear Ai
  by_cases Ac:k<n
  . obtain⟨b,Am,rfl,hb,hc⟩:=(HR.o.below Ae).at_ Ac;have d0:=hc k Ac;have Aa:=Hd (HP.o _ (xE (by rw [Af.o];exact Ac))  wr Ae);have HH:=Hd (Ag.o k (by rw [Af.o];exact Ac) HT.o);have HS:=Hd fun(hf:f (l[k]?.getD ByteArray.empty)=false)=>dK (P:=fun j=>f (l[j]?.getD ByteArray.empty)=false) HT.o hf;clear Ae hc
    skip
    generalize l[k]?.getD ByteArray.empty=x at d0 Aa HH HS
    cases hq:f x with
    | true=>
     have HO:=Hd (HH.o hq);rw [hq] at Aa
     go_wp2_with (go_at_fn g;refine Aa.o.mono ?_;rintro e w3 ⟨rfl,Ad⟩)
     go_ret
     exact⟨cF HO.o.symm,Ab.o.trans (Ad.mono Ab.o.size)⟩
    | false=>
     have HO:=Hd (HS.o hq);rw [hq] at Aa
     go_wp2_with (go_at_fn g;refine Aa.o.mono ?_;rintro e w3 ⟨rfl,Ad⟩;have Aj:=Hd (Ab.o.trans (Ad.mono Ab.o.size));clear Ad)
     go_roundw
     case rel=>exact⟨k+1,by omega,by go_num,HO.o,Aj.o⟩
     case measure=>simp [intOf];omega
  . have Al:k=n:=by omega
    have HN:=Hd (Ak.o fun j hj=>HT.o j (by rw [Af.o] at hj;omega))
    go_wp2_with fail
    go_ret
    exact⟨cF HN.o.symm,Ab.o⟩
theorem aR4(g:Nat) (lb:Array Value) (eg:∀ args w,(callFunc g args).run Tryz.prog w=.ok (.enter g args) w) (f:ByteArray->Bool) (A:Option Addr) (n c:Nat) (l:List ByteArray) (w:World) (h:aN w A n l) (hf:zG g lb f l w):
 Calls Tryz.prog 172 #[.slice A n c,.func (.func g) #[] lb] w fun e w'=>e=.returned (.bool (l.any f))/\Below w.heap.size w w':=by
 have HI:=Hd (aNi g lb eg f A n c l w h hf);have HA:=Hd (qA f l);clear h hf
 go_enter Tryz.func172,Tryz.ntmps172
 go_wp2_with fail
 refine HI.o.mono ?_;rintro e w2 ⟨rfl,Aa⟩;have Ab:=Hd Aa;clear Aa
 cases ha:l.any f with
 | true=>
  rw [ha] at HA;have d0:decide ((0:Int)<=bE f l 0)=true:=HA.o
  go_wp2_with fail
  go_ret
  exact⟨aF ha.symm,Ab.o⟩
 | false=>
  rw [ha] at HA;have d0:decide ((0:Int)<=bE f l 0)=false:=HA.o
  go_wp2_with fail
  go_ret
  exact⟨aF ha.symm,Ab.o⟩
end
section
open Go.RowKit Go.Sort
theorem aP3(A:Option Addr) (n c:Nat) (k e l:Int) (w:World) (hn:n<=9223372036854775807):
 Calls Tryz.prog 138 #[.slice A n c,aK k e l] w fun r w'=>r=.returned (.bool (bH n k e l))/\Below w.heap.size w w':=by
 unfold aK;have HB:=Hd ((Yg w.heap.size w).alloc (Yh _) (.cells #[.int .i64 k,.int .i64 e,.int .i64 l] 38))
 by_cases h1:l<0
 . go_enter Tryz.func138,Tryz.ntmps138
   go_wp2_with fail
   go_ret
   exact⟨aF (tH (.inl h1)).symm,HB.o⟩
 . by_cases h2:8<l
   . go_enter Tryz.func138,Tryz.ntmps138
     go_wp2_with fail
     go_ret
     exact⟨aF (tH (.inr h2)).symm,HB.o⟩
   . have hl:0<=l/\l<=8:=by omega
     have HL:=Hd hl;clear hl
     by_cases k1:k=1
     . have HE:=Hd (vU (n:=n) (e:=e) HL.o (.inl k1));subst k1
       go_enter Tryz.func138,Tryz.ntmps138
       go_wp2_with fail
       go_ret
       exact⟨aF (by rw [HE.o,Zm];simp),HB.o⟩
     . by_cases k2:k=2
       . have HE:=Hd (vU (n:=n) (e:=e) HL.o (.inr k2));subst k2
         go_enter Tryz.func138,Tryz.ntmps138
         go_wp2_with fail
         go_ret
         exact⟨aF (by rw [HE.o,Zm];simp),HB.o⟩
       . by_cases k3:k=3
         . have HE:=Hd (aA1 (n:=n) (e:=e) HL.o k3);subst k3
           by_cases e0:0<=e
           all_goals
            go_enter Tryz.func138,Tryz.ntmps138
            go_wp2_with fail
            go_ret
            exact⟨aF (by rw [HE.o,Zm];simp;omega),HB.o⟩
         . have HE:=Hd (vV (n:=n) (e:=e) (l:=l) (by omega) k3);have b1:(k==1)=false:=by simpa using k1
           have b2:(k==2)=false:=by simpa using k2
           have b3:(k==3)=false:=by simpa using k3
           go_enter Tryz.func138,Tryz.ntmps138
           go_wp2_with fail
           go_ret
           exact⟨aF HE.o.symm,HB.o⟩
theorem aKv{s:ByteArray}(h:gB s=true):aX s.data.toList=false:=by
 have h:s.data.toList=[]:=by simpa [gB] using h
 rw [h];rfl
def qT(d:Dc):Bool:=if gB d.on then gB d.ct else aX d.on.data.toList && lJ d.ct
theorem aIq(n:Nat) (d:Dc):dZ n bH d=(aX d.nm.data.toList && bH n d.k d.e d.l && qT d):=by
 unfold dZ qT
 cases h:gB d.on with
 | true=>rw [aKv h];simp
 | false=>simp
theorem aS2(s:ByteArray) (w:World) (hs:s.size<=9223372036854775807):
 Calls Tryz.prog 170 #[.string s] w fun e w'=>e=.returned (.bool (lJ s))/\Below w.heap.size w w':=by
 have HH:=Hd (sA s w hs);have HE:=Hd (show lJ s=(dY s.data.toList || (s.toList==[116,114,117,101]) || (s.toList==[102,97,108,115,101])) by rw [Zc];rfl);generalize lJ s=Ac at *;generalize dY s.data.toList=b at *
 cases b with
 | true=>
  go_enter Tryz.func170,Tryz.ntmps170
  go_wp2_with fail
  refine HH.o.mono ?_;rintro e w2 ⟨rfl,Aa⟩;have Ab:=Hd Aa;clear Aa
  go_wp2_with fail
  go_ret
  exact⟨aF (by rw [HE.o];rfl),Ab.o⟩
 | false=>
  cases h1:(s.toList==[116,114,117,101]) with
  | true=>
   rw [h1] at HE
   go_enter Tryz.func170,Tryz.ntmps170
   go_wp2_with fail
   refine HH.o.mono ?_;rintro e w2 ⟨rfl,Aa⟩;have Ab:=Hd Aa;clear Aa
   go_wp2_with fail
   go_ret
   exact⟨aF (by rw [HE.o];rfl),Ab.o⟩
  | false=>
   rw [h1] at HE
   cases h2:(s.toList==[102,97,108,115,101]) with
   | true=>
    rw [h2] at HE
    go_enter Tryz.func170,Tryz.ntmps170
    go_wp2_with fail
    refine HH.o.mono ?_;rintro e w2 ⟨rfl,Aa⟩;have Ab:=Hd Aa;clear Aa
    go_wp2_with fail
    go_ret
    exact⟨aF (by rw [HE.o];rfl),Ab.o⟩
   | false=>
    rw [h2] at HE
    go_enter Tryz.func170,Tryz.ntmps170
    go_wp2_with fail
    refine HH.o.mono ?_;rintro e w2 ⟨rfl,Aa⟩;have Ab:=Hd Aa;clear Aa
    go_wp2_with fail
    go_ret
    exact⟨aF (by rw [HE.o];rfl),Ab.o⟩
theorem aP4(d:Dc) (w:World) (ho:lN d):
 Calls Tryz.prog 139 #[.agg (bC d)] w fun e w'=>e=.returned (.bool (qT d))/\Below w.heap.size w w':=by
 have HF:=Hd fun w1 hw=>kZ w d w1 hw;have HL:=Hd fun w1=>iG d.on w1 (by have:=ho.2.1;unfold maxLen at this;omega);have HA:=Hd fun w1=>aS2 d.ct w1 (by have:=ho.2.2;unfold maxLen at this;omega);have HE:=Hd (show qT d=if(d.on.toList==[]) then(d.ct.toList==[]) else aX d.on.data.toList && lJ d.ct by rw [Zc,Zc];rfl);clear ho;unfold bC at HF ⊢;generalize qT d=Ai at *;generalize aX d.on.data.toList=lb at *;generalize lJ d.ct=ab at *
 go_enter Tryz.func139,Tryz.ntmps139
 go_upto_region 1 with(fail)
 generalize Af:w.alloc _=w1;obtain⟨Ae,hg,Aa⟩:=HF.o w1 Af;have Ac:=Hd Ae;have HC:=Hd Aa;have q2:=Aa w1 (Yg _ _) 4;have q3:=Aa w1 (Yg _ _) 5;simp only [Ya,Yb,Yc] at q2 q3;clear Af Aa Ae HF
 cases h1:(d.on.toList==[]) with
 | true=>
  rw [h1,if_pos rfl] at HE;generalize hc:(d.ct.toList==[])=cb at *
  go_wp2_with fail
  go_ret
  exact⟨aF HE.o.symm,Ac.o⟩
 | false=>
  rw [h1,if_neg (by simp)] at HE
  cases lb with
  | false=>
   go_wp2_with fail
   refine(HL.o w1).mono ?_;rintro e w2 ⟨rfl,Ab⟩;have Ad:=Hd (Ac.o.trans (Ab.mono Ac.o.size));clear Ab q2 q3
   go_wp2_with fail
   go_ret
   exact⟨aF HE.o.symm,Ad.o⟩
  | true=>
   go_wp2_with fail
   refine(HL.o w1).mono ?_;rintro e w2 ⟨rfl,Ab⟩;have Ad:=Hd (Ac.o.trans (Ab.mono Ac.o.size));have p3:=HC.o w2 Ab 5;simp only [Ya,Yb,Yc] at p3;clear Ab q2 q3
   go_wp2_with fail
   refine(HA.o w2).mono ?_;rintro e w3 ⟨rfl,Ag⟩;have Ah:=Hd (Ad.o.trans (Ag.mono Ad.o.size));clear Ag p3
   go_wp2_with fail
   go_ret
   exact⟨aF HE.o.symm,Ah.o⟩
end
section
open Go.RowKit Go.Sort
theorem aFx(d:Dc) (be:Nat) (E:Option Addr) (ne ec:Nat) (w:World) (ho:lN d) (hn:ne<=9223372036854775807) (he:w.cell? ⟨be,0,none⟩=some (.slice E ne ec)):
 Calls Tryz.prog 136 #[.agg (bC d),.pointer (some ⟨be,0,none⟩)] w fun e w'=>e=.returned (.bool (!dZ ne bH d))/\Below w.heap.size w w':=by
 have HF:=Hd fun w1 hw=>kZ w d w1 hw;have HL:=Hd fun w1=>iG d.nm w1 (by have:=ho.1;unfold maxLen at this;omega);have HR:=Hd fun w1=>aP3 E ne ec d.k d.e d.l w1 hn;have HT:=Hd fun w1=>aP4 d w1 ho;have HE:=Hd (aIq ne d);have Ao:=Hd (Yi _ _ he);have An:=Hd he;clear ho he;unfold bC at HF HT ⊢;unfold aK at HR;generalize dZ ne bH d=Ap at *;generalize aX d.nm.data.toList=lb at *;generalize bH ne d.k d.e d.l=rb at *;generalize qT d=tb at *
 go_enter Tryz.func136,Tryz.ntmps136
 go_upto_region 1 with(fail)
 generalize Al:w.alloc _=w1;obtain⟨Ak,hg,Aa⟩:=HF.o w1 Al;have Af:=Hd Ak;have HC:=Hd Aa;have q0:=Aa w1 (Yg _ _) 0;simp only [Ya,Yb,Yc] at q0;clear Al Aa Ak HF
 cases lb with
 | false=>
  go_wp2_with fail
  refine(HL.o w1).mono ?_;rintro e w2 ⟨rfl,Ab⟩;have Ac:=Hd (Af.o.trans (Ab.mono Af.o.size));clear Ab q0
  go_wp2_with fail
  go_ret
  exact⟨aF (by rw [HE.o];rfl),Ac.o⟩
 | true=>
  go_wp2_with fail
  refine(HL.o w1).mono ?_;rintro e w2 ⟨rfl,Ab⟩;have Ac:=Hd (Af.o.trans (Ab.mono Af.o.size));obtain⟨-,p1,p2,p3,-,-⟩:=Sx (HC.o w2 Ab);simp only [Ya,Yb,Yc] at p1 p2 p3;have pe:=(Ac.o.cell (p:=⟨be,0,none⟩) Ao.o).trans An.o;have Aj:=Hd Ab;clear Ab q0
  cases rb with
  | false=>
   go_wp2_with fail
   refine(HR.o w2).mono ?_;rintro e w3 ⟨rfl,Ad⟩;have Ae:=Hd (Ac.o.trans (Ad.mono Ac.o.size));clear Ad p1 p2 p3 pe
   go_wp2_with fail
   go_ret
   exact⟨aF (by rw [HE.o];rfl),Ae.o⟩
  | true=>
   go_wp2_with fail
   refine(HR.o w2).mono ?_;rintro e w3 ⟨rfl,Ad⟩;have Ae:=Hd (Ac.o.trans (Ad.mono Ac.o.size));have Ah:=Aj.o.trans (Ad.mono Aj.o.size);obtain⟨s0,s1,s2,s3,s4,s5⟩:=Sx (HC.o w3 Ah);simp only [Ya,Yb,Yc] at s0 s1 s2 s3 s4 s5;clear Ad p1 p2 p3 pe Ah
   go_wp2_with fail
   refine(HT.o w3).mono ?_;rintro e w4 ⟨rfl,Am⟩;have Ag:=Hd (Ae.o.trans (Am.mono Ae.o.size));clear Am s0 s1 s2 s3 s4 s5;generalize Ai:(!tb)=nt at *
   cases nt with
   | true=>
    go_wp2_with fail
    go_ret
    exact⟨aF (by rw [HE.o];simpa using Ai.symm),Ag.o⟩
   | false=>
    go_wp2_with fail
    go_ret
    exact⟨aF (by rw [HE.o];simpa using Ai.symm),Ag.o⟩
theorem aR5(d:Dc) (bv be:Nat) (E:Option Addr) (ne ec:Nat) (w:World) (ho:lN d) (hn:ne<=9223372036854775807) (he:w.cell? ⟨be,0,none⟩=some (.slice E ne ec))
 (hv:w.cell? ⟨bv,0,none⟩=some (.func (.func 136) #[] #[.pointer (some ⟨be,0,none⟩)])):
 Calls Tryz.prog 140 #[.agg (bC d),.pointer (some ⟨bv,0,none⟩)] w fun e w'=>e=.returned (.bool (!(dZ ne bH d && gB d.on)))/\Below w.heap.size w w':=by
 have HF:=Hd fun w1 hw=>kZ w d w1 hw;have HV:=Hd fun w1 (hb:Below w.heap.size w w1)=>aFx d be E ne ec w1 ho hn ((hb.cell (p:=⟨be,0,none⟩) (Yi _ _ he)).trans he);have HE:=Hd (show gB d.on=(d.on.toList==[]) by rw [Zc];rfl);have Aj:=Hd (Yi _ _ hv);have Ai:=Hd hv;clear ho he hv;unfold bC at HF HV ⊢;rw [HE.o];clear HE;generalize dZ ne bH d=db at *
 go_enter Tryz.func140,Tryz.ntmps140
 go_upto_region 1 with(fail)
 generalize Ag:w.alloc _=w1;obtain⟨Ac,hg,Aa⟩:=HF.o w1 Ag;have Ae:=Hd Ac;have HC:=Hd Aa;have Ah:=Hd (HV.o w1 Ac);have qv:=(Ac.cell (p:=⟨bv,0,none⟩) Aj.o).trans Ai.o;obtain⟨q0,q1,q2,q3,q4,q5⟩:=Sx (Aa w1 (Yg _ _));simp only [Ya,Yb,Yc] at q0 q1 q2 q3 q4 q5;clear Ag Aa Ac HF HV
 cases db with
 | false=>
  go_wp2_with fail
  refine Ah.o.mono ?_;rintro e w2 ⟨rfl,Ab⟩;have Ad:=Hd (Ae.o.trans (Ab.mono Ae.o.size));clear Ab q0 q1 q2 q3 q4 q5 qv
  go_wp2_with fail
  go_ret
  exact⟨rfl,Ad.o⟩
 | true=>
  go_wp2_with fail
  refine Ah.o.mono ?_;rintro e w2 ⟨rfl,Ab⟩;have Ad:=Hd (Ae.o.trans (Ab.mono Ae.o.size));have p4:=HC.o w2 Ab 4;simp only [Ya,Yb,Yc] at p4;clear Ab q0 q1 q2 q3 q4 q5 qv;have Af:(d.on.toList != [])=!(d.on.toList==[]):=rfl
  cases h1:(d.on.toList==[]) with
  | true=>
   rw [h1] at Af
   go_wp2_with fail
   go_ret
   exact⟨aF (by rw [h1];rfl),Ad.o⟩
  | false=>
   rw [h1] at Af
   go_wp2_with fail
   go_ret
   exact⟨aF (by rw [h1];rfl),Ad.o⟩
end
section
open Go.RowKit Go.Sort
def mJ(x:Nd) (k:Nat):List Dc:=match k with | 0=>[] | 1=>x.ins | 2=>x.ins++x.outs | _=>x.all
theorem aBl(x:Nd){k:Nat}(h:k<3):mJ x (k+1)=mJ x k++jL x k:=by
 match k,h with
 | 0,_=>rfl
 | 1,_=>rfl
 | 2,_=>rfl
theorem aDt(x:Nd){k:Nat}(h:k<=3):(mJ x k).length<=x.all.length:=by
 match k,h with
 | 0,_=>exact Yq _
 | 1,_=>simp [mJ,Nd.all]
 | 2,_=>simp [mJ,Nd.all]
 | 3,_=>exact Yh _
theorem aCp(x:Nd) (A1:Option Addr) (c1:Nat) (A2:Option Addr) (c2:Nat) (A3:Option Addr) (c3:Nat) (A4:Option Addr) (b:Nat) (w:World) (h:cJ w x A1 A2 A3 A4)
 (hc:∀ j,w.cell? ⟨b,j,none⟩=(sD x A1 c1 A2 c2 A3 c3)[j]?) (hb:b<w.heap.size) (hn:x.all.length<=1000):
 Calls Tryz.prog 97 #[.slice (some ⟨b,0,none⟩) 3 3] w (tJ w x.all.length x.all):=by
 obtain⟨i0,z0,hi,Au,Ax,Av,Ay⟩:=nO xC;have Ao:=Hd fun(w:World) (h:cJ w x A1 A2 A3 A4) (k:Nat) hk=>aDs (c1:=c1) (c2:=c2) (c3:=c3) h (k:=k) hk;have HC:=Hd hc;have HR:=Hd h;have HB:=Hd hb;have Ap:=Hd fun(k:Nat) hk=>aBl x (k:=k) hk;have Aw:=Hd fun(k:Nat) hk=>(show(mJ x k).length<=1000 from Yp (aDt x (k:=k) hk) hn);have Af:=Hd (show mJ x 3=x.all from rfl);have Ah:=Hd (show mJ x 0=[] from rfl);have Bb:=Hd fun w1=>aP0 x.all.length w1 (by omega);have Aq:=Hd fun(k:Nat) hk=>(show(mJ x k).length+(jL x k).length<=1000 by rw [<- Yn,<- aBl x hk];exact Yp (aDt x (k:=k+1) (by omega)) hn);clear h hc hb hn;generalize mJ x=Ac at *;generalize x.all=Bf at *
 go_enter Tryz.func97,Tryz.ntmps97
 go_wp2_with fail
 go_loopw [3,11] (fun s i wr=>∃ k:Nat,k<=3/\i=.int .i64 k/\s=.int .i64 (Ac k).length/\wr=w) (fun _ i _=>3-(intOf i).toNat)
 case atStart=>exact⟨0,by omega,rfl,by rw [Ah.o];rfl,rfl⟩
 case round=>
  obtain⟨k,hk,rfl,rfl,rfl⟩:=hrel
  by_cases Ae:k<3
  . obtain⟨A,c,Ag,-⟩:=Ao.o wr HR.o k Ae;have e0:=HC.o k;rw [Ag] at e0;have Bc:=Aq.o k Ae;have HS:=Hd (show(Ac (k+1)).length=(Ac k).length+(jL x k).length by rw [Ap.o k Ae,Yn]);clear Ag;generalize Bd:(Ac k).length=n1 at *;generalize Ar:(jL x k).length=m1 at *;have d0:decide (((n1:Int)+(m1:Int))<0)=false:=Zy (by omega);clear Bd Ar
    go_wp2_with fail
    go_roundw
    case rel=>exact⟨k+1,by omega,by go_num,by rw [HS.o];go_num,(by first | trivial | rfl)⟩
    case measure=>simp [intOf];omega
  . obtain rfl:k=3:=by omega
    rw [Af.o]
    go_wp2_with fail
    refine(Bb.o wr).mono ?_;rintro e w2 ⟨v,rfl,Aa,An⟩;have Az:=Hd Aa;have Be:=Hd An;clear Aa An
    go_wp2_with fail
    generalize wr=w at *
    go_loopw [6,27] (fun v i wr=>∃ k:Nat,k<=3/\i=.int .i64 k/\wr.ownsRow w.heap.size 58 6 v (Ac k).length (eL (Ac k))/\Below w.heap.size w wr) (fun _ i _=>3-(intOf i).toNat)
    case atStart=>exact⟨0,by omega,rfl,by rw [Ah.o];exact Az.o,Be.o⟩
    case round=>
     obtain⟨k,hk,rfl,Aa,Ak⟩:=hrel;have HO:=Hd Aa;have Aj:=Hd Ak;clear Aa
     by_cases Ae:k<3
     . obtain⟨A,c,Ag,Ai⟩:=Ao.o wr (HR.o.below Ak) k Ae;have e0:=(Ak.cell (p:=⟨b,k,none⟩) HB.o).trans (HC.o k);rw [Ag] at e0;have Al:=Hd Ai;have Bc:=Aq.o k Ae;have HS:=Hd (Ap.o k Ae);clear Ag Ai Ak
       go_wp2_with (at_builtin;refine aGf rfl _ _ 50 rfl w.heap.size 58 i0 z0 72 Tryz.underlying50 hi Au Ax Av Ay _ (Ac k).length (Ac k) rfl HO.o A (jL x k).length c (jL x k) rfl Al.o (by unfold maxLen;omega) (by omega) Aj.o.size ?_;intro v' w5 Ab Ad;have Am:=Aj.o.grown Ad Aj.o.size (fun j hj=>(HO.o.lt j hj).1);have As:=Hd Ab;have Ba:=Hd Am;clear Ab Ad Am)
       go_roundw
       case rel=>exact⟨k+1,by omega,by go_num,by rw [HS.o,Yn];exact As.o,Ba.o⟩
       case measure=>simp [intOf];omega
     . obtain rfl:k=3:=by omega
       rw [Af.o] at HO;have hO:=HO.o;obtain⟨A,c,rfl,Ai⟩:=cH.of_own hO (by have:=Aw.o 3 (by omega);rw [Af.o] at this;omega);have Al:=Hd Ai;clear hO Ai
       go_wp2_with fail
       go_ret
       exact⟨A,c,rfl,Al.o,Aj.o⟩
end
end Go.Proofs.YtegjgiofmpolnaaGreat
