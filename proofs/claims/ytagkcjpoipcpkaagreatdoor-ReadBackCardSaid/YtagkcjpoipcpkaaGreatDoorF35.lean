/- A part of the proof. Conditions: each theorem's own. -/
import Derived.Test.YtagkcjpoipcpkaaGreatDoorF30
namespace Go.Proofs.YtagkcjpoipcpkaaGreatDoor
set_option linter.unusedVariables false
set_option linter.unusedSimpArgs false
set_option maxRecDepth 100000
set_option maxHeartbeats 40000000
section
open Go.RowKit Go.Sort Go.BigFrame
theorem aWg{es:List En}(h:tE es)(k e l:Int):(mS es k e l).size<=103:=by
 cases hr:bK es.length k e l with
 |false=>rw[aY1 hr];decide
 |true=>
  have hb:=aVd h hr;by_cases hl:l=0
  . subst hl;rw[bN2 hr];omega
  . rw[bN3 hr hl]
    have:=aWw l
    simp only[ByteArray.size_append];show _+1+_+1<=103;omega
def tH(d:Dc):Prop:=d.nm.size<=1000/\d.on.size<=1000/\d.ct.size<=1000
theorem bAj(a b:LU)(ha:a.length<=1000)(hb:b.length<=1000):(kH a b).length<=2010:=by
 exact bEf
theorem bZc{es:List En}(h:tE es)(d:Dc):(bR es d).length<=103:=aWg h d.k d.e d.l
theorem aM1{es:List En}(h:tE es){d:Dc}(hd:tH d):(gS (bR es) d).length<=4000:=by
 have h1:=bZc h d;have h2:=bAj d.on.data.toList d.ct.data.toList hd.2.1 hd.2.2;have h3:d.nm.data.toList.length<=1000:=hd.1;have h4:=hd.1;unfold gS;simp only[Yo,Yq];split;· simp;omega
 . simp only[Yo]
   have:aK3.length=6:=rfl
   omega
theorem bU7(es:List En)(E:OA)(ec:Nat)(x:Dc)(w:World)(hE:cQ w E es.length es)(Fj:tE es)(hd:tH x):
 Calls Tryz.prog 131 #[.slice E es.length ec,.agg (gG x)] w fun e w'=>e=.returned (.string (aB (gS (bR es) x)))/\Below w.heap.size w w':=by
 have HF:=Hd fun w1 hw=>zU w x w1 hw;have Ae:=Hd fun w1 (h:cQ w1 E es.length es)=>bN5 E es.length ec es x.k x.e x.l w1 h Fj;have Gg:=Hd fun w1=>bFj x.on x.ct w1 (by have:=hd.2.1;omega) (by have:=hd.2.2;omega);have Ha:=aWg Fj x.k x.e x.l;have Fs:=hd.1;have Hb:(aB (kH x.on.data.toList x.ct.data.toList)).size<=2010:=by rw[iJ];exact bAj _ _ hd.2.1 hd.2.2
 have Aq:=Hd fun(h:(x.on.toList==[])=true)=>(show x.nm++(⟨#[58,32]⟩:BA)++mS es x.k x.e x.l=aB (gS (bR es) x) by
  rw[Zf]at h;unfold gS;rw[show eO x.on=true from h,if_pos rfl];exact eT (by simp[aB,bR]))
 have Bs:=Hd fun(h:(x.on.toList==[])=false)=>(show x.nm++(⟨#[58,32]⟩:BA)++mS es x.k x.e x.l++(⟨#[32,119,104,101,110,32]⟩:BA)++aB (kH x.on.data.toList x.ct.data.toList)=aB (gS (bR es) x) by
  rw[Zf]at h;unfold gS;rw[show eO x.on=false from h,if_neg aC];exact eT (by simp[aB,bR,aK3]))
 have Fp:=Hd hE;clear hd Fj hE;unfold gG at HF⊢;unfold vO at Ae;generalize aB (gS (bR es) x)=Ct at *;generalize mS es x.k x.e x.l=tt at *;generalize aB (kH x.on.data.toList x.ct.data.toList)=ot at *;have z1:(9223372036854775807<x.nm.size+2)=False:=aW;have z2:(9223372036854775807<x.nm.size+2+tt.size)=False:=aW;have z3:(9223372036854775807<x.nm.size+2+tt.size+6)=False:=aW;have z4:(9223372036854775807<x.nm.size+2+tt.size+6+ot.size)=False:=aW;go_in
 go_upto_region 1 with(fail);generalize Af:w.alloc _=w1;obtain⟨Ab,hg,hcell⟩:=HF.o w1 Af;have Ac:=Hd Ab;have HC:=Hd hcell;have Bi:=Hd (Fp.o.below Ab);obtain⟨p0,p1,p2,p3,-,-⟩:=Sx (hcell w1 (Yg _ _));simp only[Ya,Yb,Yc]at p0 p1 p2 p3;clear Af hcell Ab HF Fp;have Eo:=Hd fun d os=>Zx w1 d os;have l0:=fun d os=>Zw p0 d os;have l1:=fun d os=>Zw p1 d os;have l2:=fun d os=>Zw p2 d os;have l3:=fun d os=>Zw p3 d os;have cA:=fun d os=>Zl (Ae.o (grow (redrawn w1 d) os) (Bi.o.below (Zx w1 d os)));refine Xe aE aE ?_;repeat (go_big_quiet_step (exact cA _ _))
 refine Xk ?_;intro _ Ch;obtain⟨⟨dq,Bj⟩,Az⟩:=Ch;have Aa:=Eo.o dq Bj;rw[<-Az]at Aa;clear cA l0 l1 l2 l3 p0 p1 p2 p3 Az;rename_i w2;have Ai:=Hd (Ac.o.tr Aa);have s4:=HC.o w2 Aa 4;have s5:=HC.o w2 Aa 5;simp only[Ya,Yb,Yc]at s4 s5;clear Aa;have Bv:(x.on.toList !=[])=!(x.on.toList==[]):=rfl;cases h1:(x.on.toList==[])with
 |true=>
  rw[h1]at Bv;have HO:=Hd (Aq.o h1);go_wp2_with fail;go_ret;exact⟨iK HO.o,Ai.o⟩
 |false=>
  rw[h1]at Bv;have HO:=Hd (Bs.o h1);go_wp2_with fail;refine(Gg.o w2).mono ?_;rintro e w3 ⟨rfl,Ak⟩;have Aj:=Hd (Ai.o.tr Ak);clear Ak s4 s5;go_wp2_with fail;go_ret;exact⟨iK HO.o,Aj.o⟩
theorem aBo{es:List En}(h:tE es){l:List Dc}(hl:∀d∈l,tH d):(kA (bR es) l).length<=4002*l.length:=by
 have:=zR (s:=59) (m:=4000) (l:=l.map (gS (bR es))) (fun a ha=>by
  obtain⟨d,hd,rfl⟩:=List.mem_map.1 ha;exact aM1 h (hl d hd))
 simpa[kA]using this
theorem aM2(es:List En)(E:OA)(ec:Nat)(A:OA)(n c:Nat)(l:List Dc)(w:World)(hE:cQ w E es.length es)(Fj:tE es)(h:cY w A n l)(hn:n<=1000)(hs:∀d∈l,tH d):
 Calls Tryz.prog 71 #[.slice E es.length ec,.slice A n c] w fun e w'=>e=.returned (.string (aB (kA (bR es) l)))/\Below w.heap.size w w':=by
 have Cq:=aY.len h;have Nj:=aY.max h;have HR:=Hd h;have Fp:=Hd hE;have Ha:=Hd fun k=>(show(dI 59 ((l.map (gS (bR es))).take k)).length<=4002000 from Yr (aWa (m:=4000) k fun d hd=>aM1 Fj (hs d hd)) aA);have Hc:=Hd fun(k:Nat) (hk:k<l.length)=>(show tH (l[k]?.getD default) by
  rw[Yk hk,Yv];exact hs _ (Zk _))
 have Jx:=Hd fun(d:Dc)(hd:tH d)=>aM1 Fj hd;have Bq:=Hd fun(d:Dc)(hd:tH d) w1 (a:cQ w1 E es.length es)=>bU7 es E ec d w1 a Fj hd;have Bs:=Hd fun(k:Nat)(hk:k<l.length)=>bJn (f:=gS (bR es)) hk;have Hb:=Hd fun(k:Nat)(hk:k<l.length) h=>aSe (f:=gS (bR es)) (l:=l) (k:=k) hk h;have Fk:=Hd Cq;unfold gG at Bq;unfold kA;clear h hs Cq hE Fj;go_in
 go_wp2_with fail;go_loopw [5,6] (fun s i wr=>∃k:Nat,k<=n/\i=.int .i64 k/\s=.string (aB (dI 59 ((l.map (gS (bR es))).take k)))/\Below w.heap.size w wr) (fun _ i _=>n-(intOf i).toNat)
 case atStart=>exact⟨0,Ys _,rfl,rfl,Yg _ _⟩
 case round=>
  obtain⟨k,hk,rfl,rfl,Aa⟩:=hrel;have Ay:=Hd Aa;have Hy:=Ha.o k;by_cases Ah:k<n
  . obtain⟨b,off,rfl,hb,hc⟩:=aY.at_ (HR.o.below Aa) aA;obtain⟨d0,d1,d2,d3,d4,d5⟩:=(hc k Ah).six;have Ae:=Hc.o k pC;have Nh:=Jx.o _ Ae;have Aq:=Hd (Bq.o _ Ae wr (Fp.o.below Aa));have Cg:=Hd (Bs.o k pC);have Ct:=Hd (Hb.o k pC);clear hc Aa Ae;generalize l[k]?.getD default=y at *;generalize Fs:(l.map (gS (bR es))).take k=tk at *;have Nk:(aB (dI 59 tk)).size=(dI 59 tk).length:=iJ _;have Ni:(aB (gS (bR es) y)).size=(gS (bR es) y).length:=iJ _;by_cases h0:k=0
    . subst h0;simp only [Nat.zero_mul,Nat.add_zero] at d0 d1 d2 d3 d4 d5;have HE:=Hd (show aB (dI 59 tk)++aB (gS (bR es) y)=aB (dI 59 ((l.map (gS (bR es))).take (0+1))) by
       rw[Cg.o,<-Fs];exact eT (by simp[aB,dI]))
      generalize aB (dI 59 tk)=sa at *;generalize aB (gS (bR es) y)=sb at *;have z1:(9223372036854775807<sa.size+sb.size)=False:=aW;go_wp2_with fail;refine Aq.o.mono ?_;exact bH4
    . have hd:decide ((0:Int)<(k:Int))=true:=Xc aA;have HE:=Hd (show aB (dI 59 tk)++(⟨#[59,32]⟩:BA)++aB (gS (bR es) y)=aB (dI 59 ((l.map (gS (bR es))).take (k+1))) by
       rw[Cg.o,aL8 59 tk _ (fun h=>h0 (Ct.o h))];exact eT aDu)
      generalize aB (dI 59 tk)=sa at *;generalize aB (gS (bR es) y)=sb at *;have z1:(9223372036854775807<sa.size+2)=False:=aW;have z2:(9223372036854775807<sa.size+2+sb.size)=False:=aW;go_wp2_with fail;refine Aq.o.mono ?_;exact bH2
  . have Ng:k=n:=by omega
    have HE:=Hd (show(l.map (gS (bR es))).take k=l.map (gS (bR es))from Yz bB4);exact bEr
theorem aFt{x:Ex}(Ax:sU x)(Aa:∀p∈bP x,eS p):∀p∈bP x,qX p:=fun p hp=>by
 have h:=(Ax p hp).2.2.2.1;simp[Lit.wf,IntKind.min,IntKind.max,IntKind.signed,IntKind.bits]at h;exact⟨(Aa p hp).1,by omega,by omega⟩
def txX(x:Ex):List UInt8:=(vB x).data.toList
theorem bQy{x:Ex}(h:bJ x=true):txX x=aK x:=by
 unfold txX vB;rw[if_pos h,aH5]
theorem aOc{x:Ex}(hn:∀p∈bP x,qX p):(vB x).size<=438000:=by
 unfold vB;cases h:bJ x with
 |false=>rw[if_neg aC];decide
 |true=>
  rw[if_pos rfl,iJ];have h1:=aXe x (aH7 h) hn;have h2:=aUn h;omega
def zF(q:Qn):List UInt8:=32::32::(dI 44 (q.ns.map iH)++32::61::32::(txX q.x++[59]))
def kV(l:List Qn):List UInt8:=l.flatMap fun q=>zF q++[10]
def aA2(ty:Dc->List UInt8)(n:Nd):List UInt8:=yJ++(n.nm.data.toList++40::(kA ty n.ins++41::(yX++40::(kA ty n.outs++41::10::(uW ty n.vars++(yY++(kV n.eqs++aDx)))))))
theorem bBw:∀{l:List Qn},(∀q∈l,bJ q.x=true)->kV l=aDy l
 |[],_=>rfl
 |q::l,h=>by
  have h1:zF q=eqT q:=by
   unfold zF eqT;rw[bQy (h q aC)];rfl
  simp only[kV,aDy,List.flatMap_cons,h1]
  have:=bBw (l:=l) fun x hx=>h x wX
  simp only[kV,aDy]at this;rw[this]
theorem bZd{ty:Dc->List UInt8}{n:Nd}(h:∀q∈n.eqs,bJ q.x=true):aA2 ty n=tM ty n:=by
 unfold aA2 tM;rw[bBw h]
def aAt(q:Qn):Prop:=q.ns.length<=1000/\(∀s∈q.ns,s.size<=1000)/\aT q.x<=1000000/\∀p∈bP q.x,eS p
def aFu(n:Nd):Prop:=n.nm.size<=1000/\n.ins.length<=1000/\n.outs.length<=1000/\n.vars.length<=1000/\n.eqs.length<=1000/\(∀d∈n.all,tH d)/\∀q∈n.eqs,aAt q
theorem bAk{q:Qn}(h:aAt q)(ht:(vB q.x).size<=438000):(zF q++[10]).length<=1500000:=by
 have h1:=zR (s:=44) (m:=1000) (l:=q.ns.map iH) (fun a ha=>by
  obtain⟨s,hs,rfl⟩:=List.mem_map.1 ha;exact h.2.1 s hs)
 rw[List.length_map]at h1;have h2:(txX q.x).length<=438000:=ht;have h3:=h.1;simp only[zF,Yo,Yq,Zg];omega
theorem aYj{l:List Qn}{k:Nat}(h:k<l.length):kV (l.take (k+1))=kV (l.take k)++(zF (l[k]?.getD default)++[10]):=by
 unfold kV;exact aPx
theorem bAl{l:List Qn}(h:∀q∈l,(zF q++[10]).length<=1500000):∀k,(kV (l.take k)).length<=1500000*k:=by
 intro k;induction k with
 |zero=>simp[kV]
 |succ k ih=>
  rcases Nat.lt_or_ge k l.length with hk|hk
  . rw[aYj hk,Yo]
    have:=h (l[k]?.getD default) aQy
    omega
  . exact bDp
def aDl(ty:Dc->List UInt8)(n:Nd):List UInt8:=yJ++(n.nm.data.toList++40::(kA ty n.ins++41::(yX++40::(kA ty n.outs++41::10::(uW ty n.vars++yY)))))
theorem aUt(ty:Dc->List UInt8)(n:Nd):aA2 ty n=aDl ty n++kV n.eqs++aDx:=by simp[aA2,aDl]
theorem aWh{es:List En}(h:tE es){n:Nd}(hn:aFu n):(aDl (bR es) n).length<=20000000:=by
 obtain⟨h1,h2,h3,h4,_,h6,_⟩:=hn;have a1:=aBo h (l:=n.ins) fun d hd=>h6 d sM;have a2:=aBo h (l:=n.outs) fun d hd=>h6 d sM;have a3:=aBo h (l:=n.vars) fun d hd=>h6 d sM;have a4:(uW (bR es) n.vars).length<=4002*n.vars.length+10:=by
  unfold uW;split;· simp
  . simp[aGo];omega
 have a5:n.nm.data.toList.length<=1000:=h1;simp only[aDl,Yo,Yq];have e1:yJ.length=5:=rfl;have e2:yX.length=9:=rfl;have e3:yY.length=4:=rfl;omega
theorem bU8(es:List En)(E:OA)(ec:Nat)(x:Nd)(A1:OA)(c1:Nat)(A2:OA)(c2:Nat)(A3:OA)(c3:Nat)(A4:OA)(c4:Nat)(w:World)
 (hE:cQ w E es.length es)(Fj:tE es)(h:tW w x A1 A2 A3 A4)(hs:aFu x):
 Calls Tryz.prog 34 #[.slice E es.length ec,.agg (eH x A1 c1 A2 c2 A3 c3 A4 c4)] w fun e w'=>e=.returned (.string (aB (aA2 (bR es) x)))/\Below w.heap.size w w':=by
 have HF:=Hd fun w1 hw=>uH w x A1 c1 A2 c2 A3 c3 A4 c4 w1 hw h.1;have No:=hs.2.1;have Nm:=hs.2.2.1;have Ns:=hs.2.2.2.1;have Nt:=hs.2.2.2.2.1;have Ax:∀ d∈x.all,tH d:=hs.2.2.2.2.2.1;have hq:∀ q∈x.eqs,aAt q:=hs.2.2.2.2.2.2;have a1:=aBo Fj (l:=x.ins) fun d hd=>Ax d sM;have a2:=aBo Fj (l:=x.outs) fun d hd=>Ax d sM;have a3:=aBo Fj (l:=x.vars) fun d hd=>Ax d sM;have Np:=Hd fun w1 (a:cQ w1 E es.length es) (b:cY w1 A1 x.ins.length x.ins)=>aM2 es E ec A1 x.ins.length c1 x.ins w1 a Fj b No (fun d hd=>Ax d sM);have Nl:=Hd fun w1 (a:cQ w1 E es.length es) (b:cY w1 A2 x.outs.length x.outs)=>aM2 es E ec A2 x.outs.length c2 x.outs w1 a Fj b Nm (fun d hd=>Ax d sM);have Bs:=Hd fun w1 (a:cQ w1 E es.length es) (b:cY w1 A3 x.vars.length x.vars)=>aM2 es E ec A3 x.vars.length c3 x.vars w1 a Fj b Ns (fun d hd=>Ax d sM);have Ho:=Hd fun A c (q:Qn) (hq:aAt q) w1 (a:aS w1 A q.ns.length q.ns)=>(bAe A q.ns.length c q.ns w1 a hq.1 hq.2.1).mono (R':=fun e w'=>e=.returned (.string (aB (dI 44 (q.ns.map iH))))/\Below w1.heap.size w1 w') (fun e w' hh=>⟨hh.1,by rw [hh.2];exact Yg _ _⟩);have Jy:=Hd fun A ca B cb (q:Qn) (hq:aAt q) w1 (a:aM w1 q.x A B) (ok:sU q.x) (hc:q.x.subs.length<=cb) (hx:iU w1 q.x B)=>bYk q.x A ca B cb w1 a (fun _=>hc) hx hq.2.2.1 hq.2.2.2 (aFt ok hq.2.2.2);have Nh:=aWh Fj hs;have Nc:=Hd (aUt (bR es) x);have Nb:=Hd fun(k:Nat) (hk:k<x.eqs.length)=>(show aAt (x.eqs[k]?.getD default) by
  rw[Yk hk,Yv];exact hq _ (Zk _))
 have Iy:=Hd fun(k:Nat)(hk:k<x.eqs.length)=>aYj hk;have Aa:=Hd (show aDl (bR es) x=yJ++(x.nm.data.toList++40::(kA (bR es) x.ins++41::(yX++40::(kA (bR es) x.outs++41::10::(uW (bR es) x.vars++yY)))))from rfl);have Hb:=Hd (show uW (bR es) x.vars=if x.vars=[]then []else aGo++(kA (bR es) x.vars++[59,10])from rfl);have Nu:=hs.1;have Fp:=Hd hE;have Ng:=Hd h
 have Hc:=Hd (show ∀ k,k<x.eqs.length->sU (x.eqs[k]?.getD default).x from fun k hk=>by
  obtain⟨b,off,B,c,A',ca,B',cb,-,-,⟨-,-,ok,-⟩,-⟩:=aI5 h.2 hk;exact ok)
 have Gr:=Hd fun k=>bAl (l:=x.eqs) (fun q Fs=>by
  obtain⟨i,hi,rfl⟩:=Zm Fs;have ok:=Hc.o i hi;rw[Yk hi]at ok;exact bAk (hq _ Fs) (aOc (aFt ok (hq _ Fs).2.2.2))) k
 clear hE Fj h hs Ax hq;unfold eH at HF ⊢;generalize aA2 (bR es) x=ng at *;generalize aDl (bR es) x=hd at *;generalize uW (bR es) x.vars=vt at *;have s1:(aB (kA (bR es) x.ins)).size<=4002000:=aDq;have s2:(aB (kA (bR es) x.outs)).size<=4002000:=aDq;have s3:(aB (kA (bR es) x.vars)).size<=4002000:=aDq;clear a1 a2 a3;generalize kA (bR es) x.ins=t1 at *;generalize kA (bR es) x.outs=t2 at *;generalize kA (bR es) x.vars=t3 at *;have Ct:=Hd fun(hv:x.vars=[])=>(show(⟨#[110,111,100,101,32]⟩:BA)++x.nm++(⟨#[40]⟩:BA)++aB t1++(⟨#[41,32,114,101,116,117,114,110,115,32,40]⟩:BA)++aB t2++(⟨#[41,10]⟩:BA)++(⟨#[108,101,116,10]⟩:BA)=aB hd by
  rw[Aa.o,Hb.o,if_pos hv];exact eT (by simp[aB,yJ,yX,yY]))
 have Ha:=Hd fun(hv:¬ x.vars=[])=>(show(⟨#[110,111,100,101,32]⟩:BA)++x.nm++(⟨#[40]⟩:BA)++aB t1++(⟨#[41,32,114,101,116,117,114,110,115,32,40]⟩:BA)++aB t2++(⟨#[41,10]⟩:BA)++(⟨#[118,97,114,32]⟩:BA)++aB t3++(⟨#[59,10]⟩:BA)++(⟨#[108,101,116,10]⟩:BA)=aB hd by
  rw[Aa.o,Hb.o,if_neg hv];exact eT (by simp[aB,yJ,yX,yY,aGo]))
 clear Aa Hb;generalize aB t1=d1 at *;generalize aB t2=d2 at *;generalize aB t3=d3 at *;generalize Jx:x.vars=vs at *;generalize x.nm=nm at *;generalize Ae:vs.length=nv at *;have Ni:=Hd (show(0<nv->¬vs=[])/\(¬0<nv->vs=[])from⟨fun h e=>by rw[e]at Ae;simp at Ae;omega,fun h=>Zu aA⟩);have Nq:=Hd Jx;have Nr:=Hd Ae;clear Jx Ae;generalize Gj:x.eqs=qs at *;generalize Nk:qs.length=n at *;have Kg:=Hd Nk;clear Nk;have z1:(9223372036854775807<5+nm.size)=False:=aW;have z2:(9223372036854775807<5+nm.size+1)=False:=aW;have z3:(9223372036854775807<5+nm.size+1+d1.size)=False:=aW;have z4:(9223372036854775807<5+nm.size+1+d1.size+11)=False:=aW;have z5:(9223372036854775807<5+nm.size+1+d1.size+11+d2.size)=False:=aW;have z6:(9223372036854775807<5+nm.size+1+d1.size+11+d2.size+2)=False:=aW;go_in
 go_upto_region 1 with(fail);generalize Af:w.alloc _=w1;obtain⟨Ab,hg,-,hcell⟩:=HF.o w1 Af;have Ac:=Hd Ab;have HC:=Hd hcell;have Bi:=Hd (Fp.o.below Ab);have Gq:=Hd (Ng.o.below Ab);obtain⟨p0,p1,p2,-,-,-⟩:=Sx (hcell w1 (Yg _ _));simp only[Ya,Yb,Yc]at p0 p1 p2;clear Af hcell Ab HF Fp Ng;have Eo:=Hd fun d os=>Zx w1 d os;have l0:=fun d os=>Zw p0 d os;have l1:=fun d os=>Zw p1 d os;have l2:=fun d os=>Zw p2 d os;have cA:=fun d os=>Zl (Np.o (grow (redrawn w1 d) os) (Bi.o.below (Zx w1 d os)) (Gq.o.below (Zx w1 d os)).1.1);have cB:=fun d os=>Zl (Nl.o (grow (redrawn w1 d) os) (Bi.o.below (Zx w1 d os)) (Gq.o.below (Zx w1 d os)).1.2.1);refine Xe aE aE ?_;repeat (go_big_quiet_step (first|with_reducible exact cA _ _|with_reducible exact cB _ _))
 refine Xk ?_;intro _ Ch;obtain⟨⟨dq,Bj⟩,Az⟩:=Ch;have Aq:=Eo.o dq Bj;rw[<-Az]at Aq;clear cA cB l0 l1 l2 p0 p1 p2 Az;rename_i w2;have Cj:=Hd Aq;have p3:=HC.o w2 Aq 3;simp only[Ya,Yb,Yc]at p3;clear Aq;by_cases hv:0<nv
 . have dv:decide ((0:Int)<(nv:Int))=true:=Xc aA;have HH:=Hd (Ha.o (Ni.o.1 hv));have Nj:=Bs.o w2 (Bi.o.below Cj.o) (by rw[<-Nr.o,<-Nq.o];exact(Gq.o.below Cj.o).1.2.2.1);clear Ct Ha;have y1:(9223372036854775807<5+nm.size+1+d1.size+11+d2.size+2+4)=False:=aW;have y2:(9223372036854775807<5+nm.size+1+d1.size+11+d2.size+2+4+d3.size)=False:=aW;have y3:(9223372036854775807<5+nm.size+1+d1.size+11+d2.size+2+4+d3.size+2)=False:=aW;have y4:(9223372036854775807<5+nm.size+1+d1.size+11+d2.size+2+4+d3.size+2+4)=False:=aW;have Bs:=Hd Nj;clear Nj;go_wp2_with fail;refine Bs.o.mono ?_;rintro e w3 ⟨rfl,Ak⟩;have Dm:=Hd (Cj.o.tr Ak);clear Ak p3;go_upto_region 5 with(fail);rw[HH.o];have Nn:(aB hd).size<=20000000:=by rw[iJ];exact Nh
   clear z1 z2 z3 z4 z5 z6 y1 y2 y3 y4 dv HH;go_wp2_with fail;go_loopw [5,6] (fun s i wr=>∃k:Nat,k<=n/\i=.int .i64 k/\s=.string (aB (hd++kV (qs.take k)))/\Below w1.heap.size w1 wr) (fun _ i _=>n-(intOf i).toNat)
   case atStart=>exact⟨0,Ys _,rfl,by simp[kV],Dm.o⟩
   case round=>
    exact fK2
 . have dv:decide ((0:Int)<(nv:Int))=false:=Xd aA;have HH:=Hd (Ct.o (Ni.o.2 hv));clear Ct Ha;have y4:(9223372036854775807<5+nm.size+1+d1.size+11+d2.size+2+4)=False:=aW;go_upto_region 5 with(fail);rw[HH.o];have Nn:(aB hd).size<=20000000:=by rw[iJ];exact Nh
   clear z1 z2 z3 z4 z5 z6 y4 dv HH p3;go_wp2_with fail;go_loopw [5,6] (fun s i wr=>∃k:Nat,k<=n/\i=.int .i64 k/\s=.string (aB (hd++kV (qs.take k)))/\Below w1.heap.size w1 wr) (fun _ i _=>n-(intOf i).toNat)
   case atStart=>exact⟨0,Ys _,rfl,by simp[kV],Cj.o⟩
   case round=>
    exact fK2
theorem qK.short{es:List En}(h:qK es):tE es:=fun j hj=>(h.2 j hj).2.1
theorem aMa{l:List Dc}(h:mZ l=true):∀d∈l,tH d:=by
 simp only[mZ,Yu,Zj,decide_eq_true_eq]at h;intro d hd;have h1:=h.1 d hd;simp only[yH,Yu,Bool.not_eq_true',decide_eq_false_iff_not]at h1;unfold tH;omega
theorem uU.short{q:Qn}(h:uU q):aAt q:=by
 refine⟨by have:=h.1;omega,fun s hs=>?_,aTt h.2.1,aLp h.2.1⟩;obtain⟨j,hj,rfl⟩:=Zm hs
 have:=h.2.2 j hj
 rw[Yk hj,Yv]at this;omega
theorem pN.short{n:Nd}(h:pN n):aFu n:=by
 have h1:=(vZ h.1).2;have h2:=(vZ h.2.1).2;have h3:=(vZ h.2.2.1).2;have h4:=h.2.2.2.1;have h5:=h.2.2.2.2.1;refine⟨by omega,by omega,by omega,by omega,by omega,fun d hd=>?_,fun q hq=>?_⟩
 . simp only[Nd.all,Zr]at hd;rcases hd with(hd|hd)|hd;· exact aMa h.1 d hd
   . exact aMa h.2.1 d hd
   . exact aMa h.2.2.1 d hd
 . obtain⟨j,hj,rfl⟩:=Zm hq
   have:=h.2.2.2.2.2 j hj
   rw[Yk hj,Yv]at this;exact this.short
theorem bZe{p:Pg}(ht:qN p){k:Nat}(hk:k<p.ns.length):pN (p.ns[k]?.getD default):=ht.2.2 k hk
theorem bK6{p:Pg}(h:eM p=0):∀x∈p.ns,∀q∈x.eqs,bJ q.x=true:=by
 unfold eM at h;split at h
 . split at h;· cases h
   . split at h;· cases h
     . split at h;· cases h
       . split at h
         . rename_i hr;intro x hx q hq;have h1:=Zj.1 hr x hx;simp only[jQ,Yu,Zj]at h1;have h2:=h1.1.1.2 q hq;simp only[jU,Yu]at h2;exact h2.1.2
         . cases h
 . rename_i he;exact absurd h he
theorem aUu{l:List En}{k:Nat}(h:k<l.length):jP (l.take (k+1))=jP (l.take k)++yK (l[k]?.getD default):=by
 unfold jP;exact aPx
theorem aUv{ty:Dc->List UInt8}{l:List Nd}{k:Nat}(h:k<l.length):lS ty (l.take (k+1))=lS ty (l.take k)++tM ty (l[k]?.getD default):=by
 unfold lS;exact aPx
theorem bQz{e:En}(h1:e.1.size<=100)(h2:e.2.length<=12)(h3:∀s∈e.2,s.size<=1000):(yK e).length<=20000:=by
 have h:=zR (s:=44) (m:=1000) (l:=e.2.map fun s=>s.data.toList) (fun a ha=>by
  obtain⟨s,hs,rfl⟩:=List.mem_map.1 ha;exact h3 s hs)
 rw[List.length_map]at h;have h4:e.1.data.toList.length<=100:=h1;simp only[yK,Yo,Yq,Zg]
 have:aKb.length=5:=rfl
 omega
theorem aIh{es:List En}(h:qK es){k:Nat}(hk:k<es.length):(cH es k).length<=12/\(cM es k).size<=100/\∀s∈cH es k,s.size<=1000:=by
 have h1:=h.2 k hk;refine⟨h1.1,h1.2.1,fun s hs=>?_⟩;exact bIh
theorem bQ0{es:List En}(h:qK es):∀k,(jP (es.take k)).length<=20000*k:=by
 intro k;induction k with
 |zero=>simp[jP]
 |succ k ih=>
  rcases Nat.lt_or_ge k es.length with hk|hk
  . rw[aUu hk,Yo,enD];obtain⟨a,b,c⟩:=aIh h hk
    have:=bQz (e:=(cM es k,cH es k)) b a c
    omega
  . exact bDp
theorem bQ1{ty:Dc->List UInt8}{l:List Nd}{m:Nat}(h:∀n∈l,(tM ty n).length<=m):∀k,(lS ty (l.take k)).length<=m*k:=by
 intro k;induction k with
 |zero=>simp[lS]
 |succ k ih=>
  rcases Nat.lt_or_ge k l.length with hk|hk
  . rw[aUv hk,Yo]
    have:=h (l[k]?.getD default) aQy
    rw[Nat.mul_add,Nat.mul_one];omega
  . rw[Yz aA];rw[Yz aA]at ih;rw[Nat.mul_add];omega
theorem aYk(p:Pg)(E:OA)(ec:Nat)(N:OA)(nc:Nat)(w:World)(h:vJ w p E N)(ht:qN p):
 Calls Tryz.prog 13 #[.agg (fP p E ec N nc)] w fun e w'=>e=.returned (.string (aB (jF p)))/\Below w.heap.size w w':=by
 have HF:=Hd fun w1 hw=>xL w p E ec N nc w1 hw h.plain;have Ae:=Hd fun w1 a=>aW5 p E ec N nc w1 a ht;have Ct:=Hd h;have Oa:=ht.1.1;have Oc:=ht.2.1;have Nz:=h.1.max;have Ny:=aY.max h.2;have Bs:=Hd fun(hc:¬eM p=0)=>(show(⟨#[]⟩:BA)=aB (jF p)by unfold jF;rw[if_neg hc];rfl);by_cases hc:eM p=0
 . have Nr:=Hd (show jF p=jP p.es++lS (bR p.es) p.ns by unfold jF;rw [if_pos hc];rfl);have Ho:=Hd fun A n c k (hk:k<p.es.length) w1 (a:aS w1 A n (cH p.es k))=>(bAe A n c (cH p.es k) w1 a (by have:=a.len;have:=(aIh ht.1 hk).1;omega) (aIh ht.1 hk).2.2).mono (R':=fun e w'=>e=.returned (.string (aB (dI 44 ((cH p.es k).map iH))))/\Below w1.heap.size w1 w') (fun e w' hh=>⟨hh.1,by rw [hh.2];exact Yg _ _⟩);have Jj:=Hd fun k (hk:k<p.es.length)=>(show(cM p.es k).size<=100/\(aB (dI 44 ((cH p.es k).map iH))).size<=20000 from by
    obtain⟨a,b,c⟩:=aIh ht.1 hk;refine⟨b,?_⟩
    have h1:=zR (s:=44) (m:=1000) (l:=(cH p.es k).map iH) (fun x hx=>by
     obtain⟨s,hs,rfl⟩:=List.mem_map.1 hx;exact c s hs)
    rw[List.length_map]at h1;rw[iJ]
    omega)
   have Ji:=Hd (bQ0 ht.1);have Nv:=Hd fun k (hk:k<p.es.length)=>(show jP (p.es.take (k+1))=jP (p.es.take k)++yK (cM p.es k,cH p.es k)from by rw[aUu hk,enD]);have Le:=Hd fun x A1 c1 A2 c2 A3 c3 A4 c4 w1 (a:cQ w1 E p.es.length p.es)(b:tW w1 x A1 A2 A3 A4)(hs:aFu x)=>bU8 p.es E ec x A1 c1 A2 c2 A3 c3 A4 c4 w1 a ht.1.short b hs;have Nh:=Hd fun k (hk:k<p.ns.length)=>(show aFu (p.ns[k]?.getD default)/\aA2 (bR p.es) (p.ns[k]?.getD default)=tM (bR p.es) (p.ns[k]?.getD default)from⟨(bZe ht hk).short,bZd (bK6 hc _ aQy)⟩);have No:=Hd fun k (hk:k<p.ns.length)=>aUv (ty:=bR p.es) hk
   have Iv:=Hd (show ∀ k,(lS (bR p.es) (p.ns.take k)).length<=1600000000*k from bQ1 fun x hx=>by
    obtain⟨i,hi,rfl⟩:=Zm hx;have h1:=Nh.o i hi;obtain⟨b,off,A1,c1,A2,c2,A3,c3,A4,c4,-,-,Aq,-⟩:=aOq h.2 hi;rw[Yk hi,Yv]at h1 Aq;rw[<-h1.2,aUt];have h2:=aWh ht.1.short h1.1
    have h3:=bAl (l:=(p.ns[i]).eqs) (fun q hq=>by
     obtain⟨j,hj,rfl⟩:=Zm hq;obtain⟨b,off,B,c,A',ca,B',cb,-,-,⟨-,-,ok,-⟩,-⟩:=aI5 Aq.2 hj;rw[Yk hj,Yv]at ok;have Ci:=h1.1.2.2.2.2.2.2 _ hq;exact bAk Ci (aOc (aFt ok Ci.2.2.2))) (p.ns[i]).eqs.length
    rw[Yz (Yh _)]at h3;have h4:=h1.1.2.2.2.2.1;simp only[Yo]
    have:aDx.length=4:=rfl
    omega)
   have Kv:=Hd hc;clear h ht Bs hc;unfold fP at HF Ae⊢;unfold eH at Le;rw[Nr.o];go_in
   go_upto_region 1 with(fail);generalize Af:w.alloc _=w1;obtain⟨Ab,hg,-,hcell⟩:=HF.o w1 Af;have Ac:=Hd Ab;have HC:=Hd hcell;have Gq:=Hd (Ct.o.below Ab);have p0:=hcell w1 (Yg _ _) 0;have p1:=hcell w1 (Yg _ _) 1;simp only[Ya,Yb,Yc]at p0 p1;have HK:=Hd (Ae.o w1 (Gq.o.plain));rw[Kv.o]at HK;clear Af hcell Ab HF Ct Ae;generalize Hc:p.es.length=ne at *;generalize Nw:p.ns.length=nn at *;go_wp2_with fail;refine HK.o.mono ?_;rintro e w2 ⟨rfl,Ag⟩;have Cj:=Hd Ag;clear Ag p0 p1 HK;go_wp2_with fail;go_loopw [3,4] (fun s i wr=>∃k:Nat,k<=ne/\i=.int .i64 k/\s=.string (aB (jP (p.es.take k)))/\Below w1.heap.size w1 wr) (fun _ i _=>ne-(intOf i).toNat)
   case atStart=>exact⟨0,Ys _,rfl,rfl,Cj.o⟩
   case round=>
    obtain⟨k,hk,rfl,rfl,An⟩:=hrel;have Bk:=Hd An;have Nu:=Ji.o k;have q0:=HC.o wr An 0;simp only[Ya,Yb,Yc]at q0;have Ih:(aB (jP (p.es.take k))).size<=20000*k:=by rw[iJ];exact Nu
    by_cases Ah:k<ne
    . obtain⟨b,off,rfl,Cl,Ni⟩:=(Gq.o.below An).1.at_ (i:=k) (by rw [Hc];exact Ah);obtain⟨d0,A',n',c',d1,Ki⟩:=Ni k (by rw [Hc];exact Ah);have Nq:=Jj.o k Ah;have Jr:=Hd (Nv.o k Ah);have Mf:=Hd fun w1 a=>Ho.o A' n' c' k Ah w1 a;have Ns:=Hd Ki;clear Ni Ki An;have Gf:=Hd (show aB (jP (p.es.take k))++(⟨#[101,110,117,109,32]⟩:BA)++cM p.es k++(⟨#[32,123,32]⟩:BA)++aB (dI 44 ((cH p.es k).map iH))++(⟨#[32,125,59,10]⟩:BA)=aB (jP (p.es.take (k+1))) by
       rw[Jr.o];exact eT (by simp[aB,yK,aKb];rfl))
      obtain⟨Nm,Np⟩:=Nq;generalize aB (jP (p.es.take k))=sv at *;generalize aB (dI 44 ((cH p.es k).map iH))=ct at *;generalize cM p.es k=nm at *;have x1:(9223372036854775807<sv.size+5)=False:=aW;have x2:(9223372036854775807<sv.size+5+nm.size)=False:=aW;have x3:(9223372036854775807<sv.size+5+nm.size+3)=False:=aW;have x4:(9223372036854775807<sv.size+5+nm.size+3+ct.size)=False:=aW;have x5:(9223372036854775807<sv.size+5+nm.size+3+ct.size+4)=False:=aW;have Eo:=Hd fun d os=>Zx wr d os;go_upto_region 7 with(fail);have m0:=fun d os=>Zw q0 d os;have m1:=fun d os=>Zw d0 d os;have m2:=fun d os=>Zw d1 d os;have cS:=fun d os=>Zl (Mf.o (grow (redrawn wr d) os) (Ns.o.below (Zx wr d os)));refine Xe aE aE ?_;repeat (go_big_quiet_step (exact cS _ _))
      refine Xk ?_;intro _ Em;obtain⟨⟨Lj,Jg⟩,Hh⟩:=Em;have Dk:=Eo.o Lj Jg;rw[<-Hh]at Dk;clear cS m0 m1 m2 Hh d0 d1 q0;rename_i w9;have Im:=Hd (Bk.o.tr Dk);clear Dk;go_wp2_with fail;go_roundw;case rel=>exact⟨k+1,by omega,by go_num,by rw[<-Gf.o],Im.o⟩
      case measure=>simp[intOf];omega
    . have Kl:k=ne:=by omega
      have Ha:p.es.take k=p.es:=Yz aA;rw[Ha]at Ih;rw[Ha];clear An Ha;generalize wr=wo at *;have Nn:ne<=8:=aA;go_wp2_with fail;go_loopw [3,5] (fun s i wr=>∃k:Nat,k<=nn/\i=.int .i64 k/\s=.string (aB (jP p.es++lS (bR p.es) (p.ns.take k)))/\Below w1.heap.size w1 wr) (fun _ i _=>nn-(intOf i).toNat)
      case atStart=>exact⟨0,Ys _,rfl,by simp[lS],Bk.o⟩
      case round=>
       obtain⟨j,hj,rfl,rfl,Aa⟩:=hrel;have Nk:=Hd Aa;have q1:=HC.o wr Aa 1;have Fs:=HC.o wr Aa 0;simp only[Ya,Yb,Yc]at q1 Fs;have Od:=Iv.o j;have Au:(aB (jP p.es++lS (bR p.es) (p.ns.take j))).size<=200000+1600000000*j:=by
        have h1:=Ih;rw[iJ]at h1⊢;rw[Yo];omega
       by_cases Hb:j<nn
       . obtain⟨b,off,A1,c1,A2,c2,A3,c3,A4,c4,rfl,Cl,Aq,d0,d1,d2,d3,d4⟩:=aOq (Gq.o.below Aa).2 (by rw [Nw];exact Hb);obtain⟨Nj,Ng⟩:=Nh.o j Hb;have Jr:=Hd (No.o j Hb);have Jx:=Hd fun w1 a b=>Le.o (p.ns[j]?.getD default) A1 c1 A2 c2 A3 c3 A4 c4 w1 a b Nj;rw [Ng] at Jx;have Nt:=Hd Aq;have Fp:=Hd (Gq.o.below Aa).1;rw [Hc] at Fp;have Cq:=Iv.o (j+1);rw [Jr.o,Yo] at Cq;have Ia:(aB (tM (bR p.es) (p.ns[j]?.getD default))).size<=1600000000*(j+1):=aDq;clear Aq Aa Nj Ng;have Gf:=Hd (show aB (jP p.es++lS (bR p.es) (p.ns.take j))++aB (tM (bR p.es) (p.ns[j]?.getD default))=aB (jP p.es++lS (bR p.es) (p.ns.take (j+1))) by
          rw[Jr.o];exact eT aDu)
         clear Cq;generalize aB (jP p.es++lS (bR p.es) (p.ns.take j))=sv at *;generalize aB (tM (bR p.es) (p.ns[j]?.getD default))=nt at *;generalize p.ns[j]?.getD default=y at *;have x1:(9223372036854775807<sv.size+nt.size)=False:=aW;have Eo:=Hd fun d os=>Zx wr d os;go_upto_region 11 with(fail);have m0:=fun d os=>Zw Fs d os;have m1:=fun d os=>Zw q1 d os;have m2:=fun d os=>Zw d0 d os;have m3:=fun d os=>Zw d1 d os;have m4:=fun d os=>Zw d2 d os;have m5:=fun d os=>Zw d3 d os;have m6:=fun d os=>Zw d4 d os;have cN:=fun d os=>Zl (Jx.o (grow (redrawn wr d) os) (Fp.o.below (Zx wr d os)) (Nt.o.below (Zx wr d os)));refine Xe aE aE ?_;repeat (go_big_quiet_step (exact cN _ _))
         refine Xk ?_;intro _ Em;obtain⟨⟨Lj,Jg⟩,Hh⟩:=Em;have Dk:=Eo.o Lj Jg;rw[<-Hh]at Dk;clear cN m0 m1 m2 m3 m4 m5 m6 Hh d0 d1 d2 d3 d4 q1 Fs;rename_i w9;have Im:=Hd (Nk.o.tr Dk);clear Dk;go_wp2_with fail;go_roundw;case rel=>exact⟨j+1,by omega,by go_num,by rw[<-Gf.o],Im.o⟩
         case measure=>simp[intOf];omega
       . have Nx:j=nn:=by omega
         have HO:=Hd (show aB (jP p.es++lS (bR p.es) (p.ns.take j))=aB (jP p.es++lS (bR p.es) p.ns)by rw[Yz aA]);clear Aa;go_wp2_with fail;go_ret;exact⟨iK HO.o,Ac.o.tr Nk.o⟩
 . have HT:=Hd (Bs.o hc);have Bv:(eM p !=0)=true:=by rw[bne_iff_ne];exact hc
   clear Bs hc h ht;unfold fP at HF Ae⊢;generalize eM p=ck at *;generalize aB (jF p)=Ob at *;go_in
   go_upto_region 1 with(fail);generalize Af:w.alloc _=w1;obtain⟨Ab,hg,Nl,hcell⟩:=HF.o w1 Af;have Ac:=Hd Ab;have p0:=hcell w1 (Yg _ _) 0;have p1:=hcell w1 (Yg _ _) 1;simp only[Ya,Yb,Yc]at p0 p1;have HK:=Hd (Ae.o w1 Nl);clear Af hcell Ab HF Ct Ae Nl;go_wp2_with fail;refine HK.o.mono ?_;rintro e w2 ⟨rfl,Ag⟩;have Ai:=Hd (Ac.o.tr Ag);clear Ag p0 p1 HK;go_wp2_with fail;go_ret;exact⟨iK HT.o,Ai.o⟩
end
section
open Go.RowKit Go.Sort
def zY(w:World)(o:Pg × Int × Int)(e:Ending)(w':World):Prop:=
 ∃E ec N nc,e=.returned (.tuple #[.agg (fP o.1 E ec N nc),.int .i64 o.2.1,.int .i64 o.2.2])/\lM w' o.1 E N/\Below w.heap.size w w'
structure aO3 (V:World->Prop):Prop where
 read:∀(s:BA)(w:World)(p:Pg)(n:Int),V w->sK s=(p,n,0)->qN p->Calls Tryz.prog 7 #[.string s] w (zY w (p,n,0))
 keep:∀w w',V w->Below w.heap.size w w'->V w'
theorem bBx{w w1:World}{p:Pg}{E:OA}{ec:Nat}{N:OA}{nc:Nat}(h:w.alloc (.cells (fP p E ec N nc) 26)=w1)(hr:lM w p E N):
 Below w.heap.size w w1/\lM w1 p E N/\∀w',Below w1.heap.size w1 w'->∀j,w'.cell? ⟨w.heap.size,j,none⟩=(fP p E ec N nc)[j]?:=by
 obtain⟨h1,_,h2,h3⟩:=xL w p E ec N nc w1 h hr;exact⟨h1,h2,h3⟩
def bAm:ByteArray:=⟨#[110,111,100,101,32,102,40,97,58,32,105,110,116,41,32,114,101,116,117,114,110,115,32,40,98,58,32,105,110,116,41,10,108,101,116,10,32,32,98,32,61,32,97,59,10,116,101,108,10]⟩
theorem bQ2:aB (jF pA)=bAm:=aE
theorem bU9:sU aKf:=fun p hp=>by
 simp only[aKf,bP,eL,Yp]at hp;subst hp;exact⟨by decide,by simp[Ex.arms],rfl,rfl,rfl⟩
theorem aWi:qN pA:=by
 refine⟨⟨by decide,fun j hj=>by simp[pA]at hj⟩,by decide,fun j hj=>?_⟩;obtain rfl:j=0:=by simp[pA]at hj;omega
 refine⟨by decide,by decide,by decide,by decide,by decide,fun i hi=>?_⟩;obtain rfl:i=0:=by simp[pA,aGc]at hi;omega
 refine⟨by decide,by kernel_rfl,fun q hq=>?_⟩;obtain rfl:q=0:=by simp[pA,aGc,aQr]at hq;omega
 decide
theorem bVa{w:World}(B:OA):iU w aKf B:=aIo.2 fun b off e=>by
 show oV w [] b off;simp only[oV]
theorem aY.mono'{α:Type}[Inhabited α]{k:Nat}{At At':World->Nat->Nat->α->Prop}{w:World}{A:OA}{n:Nat}{l:List α}(h:aY k At w A n l)(hm:∀b o x,At w b o x->x∈l->At' w b o x):aY k At' w A n l:=
 ⟨h.1,h.2.1,fun hn=>by
  obtain⟨b,off,e,hb,hc⟩:=h.2.2 hn;refine⟨b,off,e,hb,fun i hi=>hm _ _ _ (hc i hi) ?_⟩;have hl:=h.1;rw[Yk aA,Yv];exact Zk _⟩
theorem bQ3{w:World}{E N:OA}(h:lM w pA E N):vJ w pA E N:=by
 refine⟨h.1,aY.mono' h.2 fun b o x hx hm=>?_⟩;obtain rfl:x=aGc:=by simpa[pA]using hm
 obtain⟨A1,c1,A2,c2,A3,c3,A4,c4,h1,h2⟩:=hx;refine⟨A1,c1,A2,c2,A3,c3,A4,c4,h1,h2,aY.mono' h2.2.2.2 fun b o q hq Aa=>?_⟩;obtain rfl:q=aQr:=by simpa[aGc]using Aa
 obtain⟨B,c,A',ca,B',cb,g1,g2,g3,g4⟩:=hq;exact⟨B,c,A',ca,B',cb,g1,g2,g3,g4,bU9,Ys _,bVa B'⟩
theorem bBy(z:Int)(w:World):Calls Tryz.prog 10 #[.int .i64 z] w fun e w'=>e=.returned (.int .i64 z)/\w=w':=by
 go_in
 go_wp2_with fail;go_ret;exact⟨rfl,rfl⟩
theorem bVb{V:World->Prop}(RD:aO3 V)(w:World)(hV:V w):Calls Tryz.prog 6 #[] w fun e w'=>e=.returned (.bool true)/\Below w.heap.size w w':=by
 have HR:=Hd (RD.read aGb w _ _ hV bM2 aWi);have HT:=Hd fun E ec N nc w1 (h:lM w1 pA E N)=>aYk pA E ec N nc w1 (bQ3 h) aWi;rw[bQ2]at HT;unfold zY at HR;unfold aGb at HR;unfold bAm at HT;have Aa:=Hd fun(E:OA)(ec:Nat)(N:OA)(nc:Nat) w w1 h hr=>bBx (p:=pA) (E:=E) (ec:=ec) (N:=N) (nc:=nc) (w:=w) (w1:=w1) h hr;go_in
 go_wp2_with fail;refine HR.o.mono ?_;rintro e w1 ⟨E,ec,N,nc,rfl,hp,Ab⟩;have Ac:=Hd Ab;clear Ab HR;unfold fP at Aa HT⊢;go_upto_region 2 with(fail);generalize Ae:w1.alloc _=w2;obtain⟨Ag,Aq,hcell⟩:=Aa.o E ec N nc w1 w2 Ae hp;have Ai:=Hd (Ac.o.tr Ag);have q0:=hcell w2 (Yg _ _) 0;have q1:=hcell w2 (Yg _ _) 1;simp only[Ya,Yb,Yc]at q0 q1;have Ct:=Hd (HT.o E ec N nc w2 Aq);clear Ae hcell Ag Aa HT hp Aq;go_wp2_with fail;refine(bBy 0 w2).mono ?_;rintro e w3 ⟨rfl,rfl⟩;go_wp2_with fail;refine Ct.o.mono ?_;rintro e w4 ⟨rfl,Bs⟩;have Bd:=Hd (Ai.o.tr Bs);clear Bs;go_wp2_with fail;go_ret;exact⟨rfl,Bd.o⟩
theorem bVc{w:World}{p:Pg}{E N:OA}(h:vJ w p E N)(ht:qN p):aK7 p:=by
 intro x hx q hq;obtain⟨i,hi,rfl⟩:=Zm hx;obtain⟨b,off,A1,c1,A2,c2,A3,c3,A4,c4,-,-,Aa,-⟩:=aOq h.2 hi;rw[Yk hi,Yv]at Aa;obtain⟨j,hj,rfl⟩:=Zm hq;obtain⟨b,off,B,c,A',ca,B',cb,-,-,⟨-,-,ok,-⟩,-⟩:=aI5 Aa.2 hj;rw[Yk hj,Yv]at ok;have h1:=ht.2.2 i hi;rw[Yk hi,Yv]at h1;have h2:=h1.2.2.2.2.2 j hj;rw[Yk hj,Yv]at h2;exact aFt ok (aLp h2.2.1)
theorem walkBack{V:World->Prop}(RD:aO3 V)(p:Pg)(E:OA)(ec:Nat)(N:OA)(nc:Nat)(w:World)(h:vJ w p E N)(hV:V w):
 Calls Tryz.prog 4 #[.agg (fP p E ec N nc)] w fun e w'=>e=.returned (.bool true)/\Below w.heap.size w w':=by
 have HF:=Hd fun w1 hw=>xL w p E ec N nc w1 hw h.plain;have Nh:=Hd fun w1 (a:Below w.heap.size w w1)=>bLv p E ec N nc w1 (h.below a).plain;have Ni:=Hd fun w1 (a:Below w.heap.size w w1) ht=>aW5 p E ec N nc w1 (h.below a).plain ht;have Nl:=Hd fun w1 (a:Below w.heap.size w w1) ht=>aYk p E ec N nc w1 (h.below a) ht;have Ha:=Hd fun s w1 n (a:Below w.heap.size w w1) hr ht=>RD.read s w1 p n (RD.keep _ _ hV a) hr ht;have Ng:=Hd fun w1 (a:Below w.heap.size w w1)=>bVb RD w1 (RD.keep _ _ hV a);have Hc:=Hd fun E' Jx N' Hb w1 (a:Below w.heap.size w w1) h'=>bSd p E' Jx N' Hb p E ec N nc w1 h' (h.below a).plain;have Ns:=Hd fun hc ht hl=>bP4 (p:=p) hc (bVc h ht) hl;have Fk:=Hd (show(aB (jF p)).size=(jF p).length from iJ _);have Nj:=Hd fun(E:OA)(ec:Nat)(N:OA)(nc:Nat) w w1 h hr=>bBx (p:=p) (E:=E) (ec:=ec) (N:=N) (nc:=nc) (w:=w) (w1:=w1) h hr;rw[bS7]at Hc;unfold zY at Ha;unfold fP at HF Nh Ni Nl Hc Ha Nj⊢;clear h;go_in
 go_upto_region 1 with(fail);generalize Af:w.alloc _=w1;obtain⟨Ab,hg,Nu,hcell⟩:=HF.o w1 Af;have Ac:=Hd Ab;have Nm:=Hd hcell;have q0:=hcell w1 (Yg _ _) 0;have q1:=hcell w1 (Yg _ _) 1;simp only[Ya,Yb,Yc]at q0 q1;clear Af hcell Ab HF Nu hg;go_wp2_with fail;refine(Nh.o w1 Ac.o).mono ?_;rintro e w2 ⟨b,rfl,ht,Ag⟩;have Ai:=Hd (fT Ac.o Ag);have Aq:=Hd fun W (b:Below w2.heap.size w2 W) j=>Nm.o W (Ag.tr b) j;have q0:=Aq.o w2 (Yg _ _) 0;have q1:=Aq.o w2 (Yg _ _) 1;simp only[Ya,Yb,Yc]at q0 q1;clear Ag Nh Nm;cases b with
 |false=>
  go_wp2_with fail;refine(Ng.o w2 Ai.o).mono ?_;rintro e w3 ⟨rfl,Ak⟩;have Aj:=Hd (fT Ai.o Ak);clear Ak;go_wp2_with fail;go_ret;exact⟨rfl,Aj.o⟩
 |true=>
  have HT:=Hd (ht rfl);have Nr:=Hd (Ni.o w2 Ai.o HT.o);clear ht Ni;go_wp2_with fail;refine Nr.o.mono ?_;rintro e w3 ⟨rfl,Ak⟩;have Aj:=Hd (fT Ai.o Ak);have Ae:=Hd fun W (b:Below w3.heap.size w3 W) j=>Aq.o W (Ak.tr b) j;have q0:=Ae.o w3 (Yg _ _) 0;have q1:=Ae.o w3 (Yg _ _) 1;simp only[Ya,Yb,Yc]at q0 q1;clear Ak Aq Nr;by_cases hc:eM p=0
  . have Kv:=Hd hc;have Nt:(eM p !=0)=false:=by rw[hc];rfl
    have Nk:=Hd (Nl.o w3 Aj.o HT.o);clear hc;go_wp2_with fail;refine Nk.o.mono ?_;rintro e w4 ⟨rfl,Bs⟩;have Bd:=Hd (fT Aj.o Bs);have Ct:=Hd fun W (b:Below w4.heap.size w4 W) j=>Ae.o W (Bs.tr b) j;clear Bs Ae Nk q0 q1;by_cases hl:6000<(aB (jF p)).size
    . have hd:decide ((6000:Int)<((aB (jF p)).size:Int))=true:=Xc aA;go_wp2_with fail;refine(Ng.o w4 Bd.o).mono ?_;rintro e w5 ⟨rfl,Cs⟩;have Bl:=Hd (fT Bd.o Cs);clear Cs;go_wp2_with fail;go_ret;exact⟨rfl,Bl.o⟩
    . have hd:decide ((6000:Int)<((aB (jF p)).size:Int))=false:=Xd aA;have Bg:=Hd (Ha.o (aB (jF p)) w4 _ Bd.o (Ns.o Kv.o HT.o (by rw[<-Fk.o];omega)) HT.o);rw[<-Fk.o]at Bg;generalize aB (jF p)=s at *;go_wp2_with fail;refine Bg.o.mono ?_;rintro e w5 ⟨E',Jx,N',Hb,rfl,Nq,Cs⟩;have Bl:=Hd (fT Bd.o Cs);have Fs:=Hd fun W (b:Below w5.heap.size w5 W) j=>Ct.o W (Cs.tr b) j;clear Cs Ct;go_upto_region 7 with(fail);generalize Hi:w5.alloc _=w6;obtain⟨Bo,Np,Aa⟩:=Nj.o E' Jx N' Hb w5 w6 Hi Nq;have Db:=Hd (fT Bl.o Bo);have q0:=Fs.o w6 Bo 0;have q1:=Fs.o w6 Bo 1;have x0:=Aa w6 (Yg _ _) 0;have x1:=Aa w6 (Yg _ _) 1;simp only[Ya,Yb,Yc]at q0 q1 x0 x1;have Mi:=Hd (Hc.o E' Jx N' Hb w6 Db.o Np);clear Hi Aa Bo Nq Np Hc Nj Ha Bg;go_wp2_with fail;refine(bBy 0 w6).mono ?_;rintro e w7 ⟨rfl,rfl⟩;go_wp2_with fail;refine Mi.o.mono ?_;rintro e w8 ⟨rfl,Kb⟩;have No:=Hd (fT Db.o Kb);clear Kb;go_wp2_with fail;refine(Ng.o w8 No.o).mono ?_;rintro e w9 ⟨rfl,Nn⟩;have Im:=Hd (fT No.o Nn);clear Nn;go_wp2_with fail;go_ret;exact⟨rfl,Im.o⟩
  . have Nt:(eM p !=0)=true:=by rw[bne_iff_ne];exact hc
    go_wp2_with fail;refine(Ng.o w3 Aj.o).mono ?_;rintro e w4 ⟨rfl,Bs⟩;have Bd:=Hd (fT Aj.o Bs);clear Bs;go_wp2_with fail;go_ret;exact⟨rfl,Bd.o⟩
end
end Go.Proofs.YtagkcjpoipcpkaaGreatDoor
