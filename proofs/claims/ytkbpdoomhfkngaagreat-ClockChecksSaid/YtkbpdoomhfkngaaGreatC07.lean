/- A part of the proof. Conditions: each theorem's own. -/
import Derived.Test.YtkbpdoomhfkngaaGreatC04
import Derived.Test.YtkbpdoomhfkngaaGreatC06
namespace Go.Proofs.YtkbpdoomhfkngaaGreat
set_option linter.unusedVariables false
set_option linter.unusedSimpArgs false
set_option maxRecDepth 100000
set_option maxHeartbeats 40000000
section
open Go.RowKit
def dW(q:Qn)(A:Option Addr)(c:Nat)(A':Option Addr)(ca:Nat)(B':Option Addr)(cb:Nat):Array Value:=
 #[.slice A q.ns.length c,.int .i64 q.x.k,.int .i64 q.x.n,.string q.x.s,.int .i64 q.x.op,.slice A' q.x.arms.length ca,.slice B' q.x.subs.length cb]
def wX(q:Qn):Prop:=(∀s∈q.ns,s.size<=maxLen)/\bD q.x<=1000000/\∀p∈bL q.x,cX p
theorem aCi(w:World)(q:Qn)(A:Option Addr)(c:Nat)(A':Option Addr)(ca:Nat)(B':Option Addr)(cb:Nat)(w1:World)(h:w.alloc (.cells (dW q A c A' ca B' cb) 54)=w1)(hr:aP w A q.ns.length q.ns)(hx:aH w q.x A' B'):
 Below w.heap.size w w1/\w1.heap.size=w.heap.size+1/\aP w1 A q.ns.length q.ns/\aH w1 q.x A' B'/\∀w',Below w1.heap.size w1 w'->∀j,w'.cell? ⟨w.heap.size,j,none⟩=(dW q A c A' ca B' cb)[j]?:=by
 subst h;have hb:=(Yg w.heap.size w).alloc (Yh _) (.cells (dW q A c A' ca B' cb) 54);refine⟨hb,by simp,hr.below hb,hx.below hb,fun w' hb j=>?_⟩;rw[hb.cell (p:=⟨w.heap.size,j,none⟩) aG,Zp]
theorem aJb{ss:List ByteArray}{k:Nat}(h:k<ss.length):ss[k]?.getD ByteArray.empty∈ss:=by
 exact aEo
theorem bG6(q:Qn)(A:Option Addr)(c:Nat)(A':Option Addr)(ca:Nat)(B':Option Addr)(cb:Nat)(w:World)(hr:aP w A q.ns.length q.ns)(hx:aH w q.x A' B')(Eu:wX q):
 Calls Tryz.prog 124 #[.agg (dW q A c A' ca B' cb)] w fun e w'=>e=.returned (.bool (hM bH q))/\Below w.heap.size w w':=by
 have HF:=Hd fun w1 h=>aCi w q A c A' ca B' cb w1 h hr hx;have HE:=Hd (show hM bH q=(q.ns.all (fun s=>bE s.data.toList) && decide (0<q.ns.length) && bH q.x && (decide (q.ns.length=1) || q.x.k==13))from rfl);have Nv:=hr.max;have Jz:=Hd Eu;have Jx:=Hd fun w1 (h:aH w1 q.x A' B')=>xY q.x A' ca B' cb w1 h Eu.2.1 Eu.2.2;have Aq:q.ns.length=q.ns.length:=rfl;unfold dW;unfold aE at Jx;generalize hM bH q=Au at *;go_in
 go_upto_region 1 with(fail);generalize Ag:w.alloc _=w1;obtain⟨Aa,hg,Nu,Bx,hcell⟩:=HF.o w1 Ag;have Ac:=Hd Aa;have HC:=Hd hcell;have Bi:=Hd Nu;have Ff:=Hd Bx;simp only[dW]at HC;clear Ag hcell Aa HF hr hx Nu Bx Eu;generalize hss:q.ns=ss at *;generalize Nt:ss.length=n at *;have Ly:=Hd Nt;generalize q.x.k=xk at *;generalize q.x.n=xn at *;generalize q.x.s=xs at *;generalize q.x.op=xo at *;generalize q.x.arms.length=xa at *;generalize q.x.subs.length=xb at *;clear Nt Aq;go_wp2_with fail;go_loopw [3] (fun i wr=>∃k:Nat,k<=n/\i=.int .i64 k/\((ss.take k).all fun s=>bE s.data.toList)=true/\Below w1.heap.size w1 wr) (fun i _=>n-(intOf i).toNat)
 case atStart=>exact⟨0,Yq _,rfl,by simp,Yg _ _⟩
 case round=>
  obtain⟨k,hk,rfl,Bc,Ba⟩:=hrel;have HT:=Hd Bc;have Cf:=Hd Ba;have q0:=HC.o wr Ba 0;simp only[Ya,Yb,Yc]at q0;clear Bc;by_cases Ah:k<n
  . obtain⟨b,off,rfl,hb,hc⟩:=(Bi.o.below Ba).at_ Ah;have c0:=hc k Ah;clear hc Ba;have hz:=Jz.o.1 (ss[k]?.getD ByteArray.empty) (by rw[hss];exact aJb aFd);have HS:=Hd fun hf=>qQ (l:=ss) (f:=fun s=>bE s.data.toList) HT.o aFd hf;have HN:=Hd fun hf=>oI (l:=ss) (f:=fun s=>bE s.data.toList) (k:=k) aFd hf;unfold maxLen at hz;rw[show(default:ByteArray)=ByteArray.empty from rfl]at HS HN;generalize ss[k]?.getD ByteArray.empty=x at c0 hz HS HN;cases hl:bE x.data.toList with
    |true=>
     have Fu:=Hd (HS.o hl);go_wp2_with fail;refine(lR x wr aA).mono ?_;rw[hl];rintro e w2 ⟨rfl,Ad⟩;have Aj:=Hd (Cf.o.tr Ad);clear Ad;go_wp2_with fail;go_roundw;case rel=>exact⟨k+1,by omega,by go_num,Fu.o,Aj.o⟩
     case measure=>simp[intOf];omega
    |false=>
     have Dg:=Hd (HN.o hl);go_wp2_with fail;refine(lR x wr aA).mono ?_;rw[hl];rintro e w2 ⟨rfl,Ad⟩;have Aj:=Hd (Cf.o.tr Ad);clear Ad;go_wp2_with fail;go_ret;exact⟨aL (by rw[HE.o,Dg.o];rfl),Ac.o.trans (Aj.o.mono aA)⟩
  . obtain rfl:k=n:=by omega
    have HY:=Hd (show(ss.all fun s=>bE s.data.toList)=true by have:=HT.o;rwa[Yx (by rw[Ly.o];exact Yh _)]at this);rw[HY.o,Bool.true_and]at HE;obtain⟨-,q1,q2,q3,q4,q5⟩:=Sx (HC.o wr Ba);have q6:=HC.o wr Ba 6;simp only[Ya,Yb,Yc]at q1 q2 q3 q4 q5 q6;have Bo:=Hd (Ac.o.trans (Ba.mono aA));have Ce:=Hd (Jx.o wr (Ff.o.below Ba));clear Ba;rcases Nat.eq_zero_or_pos k with h0|h0
    . subst h0;go_wp2_with fail;go_ret;exact⟨aL (by rw[HE.o];simp),Bo.o⟩
    . have d0:decide ((0:Int)<(k:Int))=true:=Zy aA;rw[Zy h0,Bool.true_and]at HE;cases Bp:bH q.x with
      |false=>
       rw[Bp]at Ce HE;go_wp2_with fail;refine Ce.o.mono ?_;rintro e w2 ⟨rfl,Ad⟩;have Aj:=Hd (iM Bo.o Ad);clear Ad;exact zQ
      |true=>
       rw[Bp,Bool.true_and]at HE;rw[Bp]at Ce;go_wp2_with fail;refine Ce.o.mono ?_;rintro e w2 ⟨rfl,Ad⟩;have Aj:=Hd (iM Bo.o Ad);have r0:=(Ad.cell (p:=⟨w.heap.size,0,none⟩) (Yi _ _ q0)).trans q0;have r1:=(Ad.cell (p:=⟨w.heap.size,1,none⟩) (Yi _ _ q1)).trans q1;clear Ad q0 q1 q2 q3 q4 q5 q6;cases d1:((k:Int)==1)with
       |true=>
        have Mu:=Hd (show Au=true by rw[HE.o,show decide (k=1)=true by have:=eq_of_beq d1;exact Zy aA];rfl);exact aOp
       |false=>
        have Mu:=Hd (show Au=(xk==13)by rw[HE.o,show decide (k=1)=false by have:=ne_of_beq_false d1;exact Zz aA];rfl);exact aOp
end
section
open Go.RowKit Go.Sort
def OkN(n:Nd):Prop:=n.nm.size<=maxLen/\(∀d∈n.all,nF d)/\∀q∈n.eqs,wX q
def nQ(es io i:Nat)(d:Dc):Bool:=eW es bQ d && !(decide (i<io) && !eI d.on)
theorem nH{α:Type}[Inhabited α]{l:List α}{k:Nat}(h:k<l.length):l[k]?.getD default∈l:=by
 exact aEo
theorem aLl{n:Nd}{i:Nat}(h:i<n.ins.length+n.outs.length):n.all[i]?.getD default=(n.ins++n.outs)[i]?.getD default:=by
 rw[Nd.all,List.getElem?_append_left (by rw[Yn];exact h)]
theorem aZg{n:Nd}{es:Nat}(h:∀i,i<n.all.length->nQ es (n.ins.length+n.outs.length) i (n.all[i]?.getD default)=true):(n.all.all (eW es bQ) && jX n)=true:=by
 rw[Ys];constructor
 . rw[Zg];intro d hd;obtain⟨i,hi,rfl⟩:=Zj hd
   have:=h i hi
   rw[Yk hi,Yt,nQ,Ys]at this;exact this.1
 . rw[jX,Zg];intro d hd;obtain⟨i,hi,rfl⟩:=Zj hd;have hl:i<n.ins.length+n.outs.length:=by rw[<-Yn];exact hi
   have:=h i (by rw[pZ];omega)
   rw[aLl hl,Yk hi,Yt,nQ,Ys,Zy hl]at this;simpa using this.2
theorem bCu{n:Nd}{es i:Nat}(hi:i<n.all.length)(h:nQ es (n.ins.length+n.outs.length) i (n.all[i]?.getD default)=false):(n.all.all (eW es bQ) && jX n)=false:=by
 rw[Bool.and_eq_false_iff];rw[nQ,Bool.and_eq_false_iff]at h;rcases h with h|h;· exact .inl (oI hi h)
 . right;have h2:(decide (i<n.ins.length+n.outs.length) && !eI (n.all[i]?.getD default).on)=true:=iI;rw[Ys,decide_eq_true_eq]at h2;rw[jX];refine oI (k:=i) (by rw[Yn];exact h2.1) ?_;rw[<-aLl h2.1];simpa using h2.2
theorem sJ.seven{w:World}{b o:Nat}{q:Qn}(h:sJ w b o q):∃A c A' ca B' cb,aP w A q.ns.length q.ns/\aH w q.x A' B'/\
 w.cell? ⟨b,o,none⟩=some (.slice A q.ns.length c)/\w.cell? ⟨b,o+1,none⟩=some (.int .i64 q.x.k)/\w.cell? ⟨b,o+2,none⟩=some (.int .i64 q.x.n)/\w.cell? ⟨b,o+3,none⟩=some (.string q.x.s)/\w.cell? ⟨b,o+4,none⟩=some (.int .i64 q.x.op)/\
  w.cell? ⟨b,o+5,none⟩=some (.slice A' q.x.arms.length ca)/\w.cell? ⟨b,o+6,none⟩=some (.slice B' q.x.subs.length cb):=by
 obtain⟨A,c,A',ca,B',cb,h1,h2,h3,h4⟩:=h;obtain⟨r0,r1,r2,r3,r4,r5⟩:=dT h3;exact⟨A,c,A',ca,B',cb,h2,h4,h1,r0,r1,r2,r3,r4,r5⟩
theorem bCv(E:Option Addr)(es ec:Nat)(x:Nd)(A1:Option Addr)(c1:Nat)(A2:Option Addr)(c2:Nat)(A3:Option Addr)(c3:Nat)(A4:Option Addr)(c4:Nat)(w:World)(Od:es<=9223372036854775807)(h:cF w x A1 A2 A3 A4)(Eu:OkN x)(hn:x.all.length<=1000):
 Calls Tryz.prog 81 #[.slice E es ec,.agg (bK x A1 c1 A2 c2 A3 c3 A4 c4)] w fun e w'=>e=.returned (.bool (gT es bQ bH x))/\Below w.heap.size w w':=by
 have HF:=Hd fun w1 hw=>iE w x A1 c1 A2 c2 A3 c3 A4 c4 w1 hw h;have Ch:=Hd fun w1 (hw:cF w1 x A1 A2 A3 A4)=>tE x A1 c1 A2 c2 A3 c3 A4 c4 w1 hw hn;have HE:=Hd (show gT es bQ bH x=((x.all.all (eW es bQ) && jX x) && x.eqs.all (hM bH) && bE x.nm.data.toList && decide (0<x.outs.length))from rfl);have Of:x.ins.length+x.outs.length<=1000:=by have:=pZ x;omega
 have Jz:=Hd Eu;have Ix:=Hd (fun hh=>aZg (n:=x) (es:=es) hh);have Cj:=Hd (fun i hi hh=>bCu (n:=x) (es:=es) (i:=i) hi hh);have Og:=aI.max h.2.2.2;have Fa:=Hd fun w1=>lR x.nm w1 (by have:=Eu.1;unfold maxLen at this;omega);unfold bK at Ch⊢;generalize gT es bQ bH x=Au at *;go_in
 go_upto_region 1 with(fail);generalize Ag:w.alloc _=w1;obtain⟨Aa,hg,Jx,hcell⟩:=HF.o w1 Ag;have Ac:=Hd Aa;have HC:=Hd hcell;obtain⟨q0,q1,q2,q3,q4,-⟩:=Sx (hcell w1 (Yg _ _));simp only[bK,List.getElem?_toArray,Yz,Zb]at HC q0 q1 q2 q3 q4;have Ob:=Hd (Ch.o w1 Jx);have Oe:=Hd (show aI 7 sJ w1 A4 x.eqs.length x.eqs from Jx.2.2.2);clear Ag hcell Aa HF h Jx Eu Ch;generalize hq:x.eqs=qs at *;generalize Ny:qs.length=nq at *;generalize x.ins.length=n1 at *;generalize x.outs.length=n2 at *;generalize x.vars.length=n3 at *;generalize hx:x.all=Jl at *;generalize Nt:Jl.length=na at *;have Oa:=Hd Nt;have Nl:=Hd Ny;clear Nt Ny;go_wp2_with fail;refine Ob.o.mono ?_;rintro e w2 ⟨A5,c5,rfl,Nv,Ad⟩;have Aj:=Hd (iM Ac.o Ad);have Dh:=Hd Ad;have Ce:=Hd Nv;clear Nv Ad q0 q1 q2 q3 q4;go_wp2_with fail;go_loopw [6] (fun i wr=>∃k:Nat,k<=na/\i=.int .i64 k/\(∀j,j<k->nQ es (n1+n2) j (Jl[j]?.getD default)=true)/\Below w2.heap.size w2 wr) (fun i _=>na-(intOf i).toNat)
 case atStart=>exact⟨0,Yq _,rfl,fun j hj=>absurd hj aA,Yg _ _⟩
 case round=>
  obtain⟨k,hk,rfl,Bc,Ba⟩:=hrel;have HT:=Hd Bc;have Cf:=Hd Ba;clear Bc;by_cases Ah:k<na
  . obtain⟨b,off,rfl,hb,hc⟩:=aI.at_ (Ce.o.below Ba) aA;obtain⟨d0,d1,d2,d3,d4,d5⟩:=(hc k Ah).six;clear hc Ba;have hz:=Jz.o.2.1 (Jl[k]?.getD default) (by rw[hx];exact nH (by rw[Oa.o];exact Ah));have HZ:=Hd hz;have HN:=Hd (Cj.o k Ah)
    have HS:=Hd fun(hf:nQ es (n1+n2) k (Jl[k]?.getD default)=true)=>(show ∀ j,j<k+1->nQ es (n1+n2) j (Jl[j]?.getD default)=true from fun j hj=>by
     rcases Nat.lt_or_ge j k with h1|h1;· exact HT.o j h1
     . obtain rfl:j=k:=by omega
       exact hf)
    clear hz;have Kv:=Hd fun(d:Dc)=>(show nQ es (n1+n2) k d=(eW es bQ d && !(decide (k<n1+n2) && !(d.on.toList==[])))by simp only[Zc];rfl);generalize Jl[k]?.getD default=d at d0 d1 d2 d3 d4 d5 HZ HN HS;have Kv:=Hd (Kv.o d);have HD:=Hd (bCt E es ec d wr Od HZ.o);unfold aU at HD;generalize nQ es (n1+n2) k d=ob at Kv HS HN;cases h1:eW es bQ d with
    |false=>
     rw[h1]at HD Kv;have Dg:=Hd (HN.o aD2);go_wp2_with fail;refine HD.o.mono ?_;rintro e w3 ⟨rfl,Ak⟩;have Ax:=Hd (Cf.o.tr Ak);clear Ak;exact aN0
    |true=>
     rw[h1]at HD Kv;cases h2:decide ((k:Int)<(n1:Int)+(n2:Int))with
     |false=>
      have Fu:=Hd (HS.o (by rw[Kv.o,show decide (k<n1+n2)=false by have:=of_decide_eq_false h2;exact Zz aA];rfl));go_wp2_with fail;refine HD.o.mono ?_;rintro e w3 ⟨rfl,Ak⟩;have Ax:=Hd (Cf.o.tr Ak);have hB:=Dh.o.tr Ax.o;have q1:=HC.o w3 hB 1;have q2:=HC.o w3 hB 2;simp only[Ya,Yb,Yc]at q1 q2;clear Ak hB;exact aNp
     |true=>
      rw[show decide (k<n1+n2)=true by have:=of_decide_eq_true h2;exact Zy aA]at Kv;cases h3:(d.on.toList==[])with
      |true=>
       rw[h3]at Kv;have Fu:=Hd (HS.o aD2);go_wp2_with fail;refine HD.o.mono ?_;rintro e w3 ⟨rfl,Ak⟩;have Ax:=Hd (Cf.o.tr Ak);have hB:=Dh.o.tr Ax.o;have q1:=HC.o w3 hB 1;have q2:=HC.o w3 hB 2;have t4:=(Ak.cell (p:=⟨b,off+k*6+4,none⟩) hb).trans d4;simp only[Ya,Yb,Yc]at q1 q2;clear Ak hB d0 d1 d2 d3 d4 d5;exact aNp
      |false=>
       rw[h3]at Kv;have Dg:=Hd (HN.o aD2);go_wp2_with fail;refine HD.o.mono ?_;rintro e w3 ⟨rfl,Ak⟩;have Ax:=Hd (Cf.o.tr Ak);have hB:=Dh.o.tr Ax.o;have q1:=HC.o w3 hB 1;have q2:=HC.o w3 hB 2;have t4:=(Ak.cell (p:=⟨b,off+k*6+4,none⟩) hb).trans d4;simp only[Ya,Yb,Yc]at q1 q2;clear Ak hB d0 d1 d2 d3 d4 d5;exact aN0
  . obtain rfl:k=na:=by omega
    have HY:=Hd (Ix.o fun i hi=>HT.o i hi);rw[HY.o,Bool.true_and]at HE;have Bo:=Hd (iM Aj.o Ba);have Eo:=Hd (Dh.o.tr Ba);clear Ba;go_wp2_with fail;go_loopw [7] (fun i wq=>∃j:Nat,j<=nq/\i=.int .i64 j/\(qs.take j).all (hM bH)=true/\Below wr.heap.size wr wq) (fun i _=>nq-(intOf i).toNat)
    case atStart=>exact⟨0,Yq _,rfl,by simp,Yg _ _⟩
    case round=>
     obtain⟨j,hj,rfl,Bc,Bp⟩:=hrel;have Nx:=Hd Bc;have Lq:=Hd Bp;have hB:=Eo.o.tr Bp;obtain⟨q0,-,q2,-,q4,-⟩:=Sx (HC.o _ hB);simp only[Ya,Yb,Yc]at q0 q2 q4;clear Bc;by_cases Ky:j<nq
     . obtain⟨b,off,rfl,hb,hc⟩:=aI.at_ (gN.below Oe.o hB) aA;have Bx:=hc j Ky;have HS:=Hd fun hf=>qQ (l:=qs) (f:=hM bH) Nx.o aFe hf;have HN:=Hd fun hf=>oI (l:=qs) (f:=hM bH) (k:=j) aFe hf;have HQ:=Hd (Jz.o.2.2 (qs[j]?.getD default) (by rw[hq];exact nH aFe));clear hc Bp hB;generalize qs[j]?.getD default=q at Bx HS HN HQ;obtain⟨Aq,cq,A',ca,B',cb,Nw,Nz,r0,r1,r2,r3,r4,r5,r6⟩:=Bx.seven;have Ha:=Hd (bG6 q Aq cq A' ca B' cb _ Nw Nz HQ.o);unfold dW at Ha;clear Nw Nz Bx;cases h1:hM bH q with
       |true=>
        rw[h1]at Ha;have Fu:=Hd (HS.o h1);go_wp2_with fail;refine Ha.o.mono ?_;rintro e w3 ⟨rfl,Ak⟩;have Ax:=Hd (Lq.o.tr Ak);clear Ak;go_wp2_with fail;go_roundw;case rel=>
         exact⟨j+1,by omega,by go_num,Fu.o,Ax.o⟩
        case measure=>simp[intOf];omega
       |false=>
        rw[h1]at Ha;have Dg:=Hd (HN.o h1);go_wp2_with fail;refine Ha.o.mono ?_;rintro e w3 ⟨rfl,Ak⟩;have Ax:=Hd (Lq.o.tr Ak);clear Ak;go_wp2_with fail;go_ret;exact⟨aL (by rw[HE.o,Dg.o];rfl),iM Bo.o Ax.o⟩
     . obtain rfl:j=nq:=by omega
       have Oc:=Hd (show qs.all (hM bH)=true by have:=Nx.o;rwa[Yx (by rw[Nl.o];exact Yh _)]at this);rw[Oc.o,Bool.true_and]at HE;have Nu:=Hd (iM Bo.o Bp);clear Bp hB;cases h1:bE x.nm.data.toList with
       |false=>
        rw[h1]at HE Fa;go_wp2_with fail;refine(Fa.o _).mono ?_;rintro e w3 ⟨rfl,Ak⟩;have Ax:=Hd (iM Nu.o Ak);clear Ak;exact pD
       |true=>
        rw[h1,Bool.true_and]at HE;rw[h1]at Fa;have Mu:=Hd (show Au=decide (0<n2)from HE.o);go_wp2_with fail;refine(Fa.o _).mono ?_;rintro e w3 ⟨rfl,Ak⟩;have Ax:=Hd (iM Nu.o Ak);have t2:=(Ak.cell (p:=⟨w.heap.size,2,none⟩) (Yi _ _ q2)).trans q2;clear Ak q0 q2 q4;go_wp2_with fail;go_ret;exact⟨aL Mu.o.symm,Ax.o⟩
def aK(p:Pg)(E:Option Addr)(ec:Nat)(N:Option Addr)(nc:Nat):Array Value:=#[.slice E p.es.length ec,.slice N p.ns.length nc]
def cJ(w:World)(p:Pg)(E N:Option Addr):Prop:=bU w E p.es.length p.es/\eX w N p.ns.length p.ns
theorem cJ.below{w w':World}{p:Pg}{E N:Option Addr}(h:cJ w p E N)(hb:Below w.heap.size w w'):cJ w' p E N:=⟨h.1.below hb,h.2.below hb⟩
theorem kW(w:World)(p:Pg)(E:Option Addr)(ec:Nat)(N:Option Addr)(nc:Nat)(w1:World)(h:w.alloc (.cells (aK p E ec N nc) 25)=w1)(hr:cJ w p E N):
 Below w.heap.size w w1/\w1.heap.size=w.heap.size+1/\cJ w1 p E N/\∀w',Below w1.heap.size w1 w'->∀j,w'.cell? ⟨w.heap.size,j,none⟩=(aK p E ec N nc)[j]?:=by
 subst h;have hb:=(Yg w.heap.size w).alloc (Yh _) (.cells (aK p E ec N nc) 25);refine⟨hb,by simp,hr.below hb,fun w' hb j=>?_⟩;rw[hb.cell (p:=⟨w.heap.size,j,none⟩) aG,Zp]
theorem oJ{α:Type}[Inhabited α]{f:α->Bool}:∀{l:List α}{k i:Nat},k<l.length->(∀j,j<k->f (l[j]?.getD default)=false)->f (l[k]?.getD default)=true->bR f l i=((i+k:Nat):Int)
 |[],k,i,h,_,_=>by simp at h
 |a::l,0,i,_,_,h=>by
  have h:f a=true:=iI;simp[bR,h]
 |a::l,k+1,i,hk,hn,h=>by
  have h0:f a=false:=aE7;rw[bR,h0,if_neg aG,oJ (k:=k) kT (fun j hj=>by simpa using hn (j+1) aA) iI];congr 1;omega
theorem oH{α:Type}[Inhabited α]{f:α->Bool}:∀{l:List α}{i:Nat},(∀j,j<l.length->f (l[j]?.getD default)=false)->bR f l i=-1
 |[],i,_=>rfl
 |a::l,i,hn=>by
  have h0:f a=false:=by simpa using hn 0 aG
  rw[bR,h0,if_neg aG];exact oH fun j hj=>by simpa using hn (j+1) (by simpa using hj)
theorem dC{P:Nat->Prop}{k:Nat}(h:∀j,j<k->P j)(hk:P k):∀j,j<k+1->P j:=fun j hj=>by
 rcases Nat.lt_or_ge j k with h1|h1;· exact h j h1
 . obtain rfl:j=k:=by omega
   exact hk
theorem aKm(p:Pg)(E:Option Addr)(ec:Nat)(N:Option Addr)(nc:Nat)(s:ByteArray)(w:World)(h:cJ w p E N):
 Calls Tryz.prog 88 #[.agg (aK p E ec N nc),.string s] w fun e w'=>e=.returned (.int .i64 (cY p s))/\Below w.heap.size w w':=by
 have HF:=Hd fun w1 hw=>kW w p E ec N nc w1 hw h;have Nt:=aI.max h.2;have Cs:=Hd (fun(k:Nat) hk hn hy=>show cY p s=(k:Int)by have:=oJ (l:=p.ns) (f:=fun n:Nd=>n.nm.data.toList==s.data.toList) (k:=k) (i:=0) hk hn hy;rwa[Nat.zero_add]at this);have Cj:=Hd (fun hn=>show cY p s=-1 from oH (l:=p.ns) (f:=fun n:Nd=>n.nm.data.toList==s.data.toList) (i:=0) hn);unfold aK;generalize cY p s=Au at *;go_in
 go_upto_region 1 with(fail);generalize Ag:w.alloc _=w1;obtain⟨Aa,hg,Bp,hcell⟩:=HF.o w1 Ag;have Ac:=Hd Aa;have q1:=hcell w1 (Yg _ _) 1;simp only[aK,List.getElem?_toArray,Yz,Zb]at q1;have HR:=Hd (show aI 5 qJ w1 N p.ns.length p.ns from Bp.2);clear Ag hcell Aa HF h Bp;generalize p.es.length=ne at *;generalize Gf:p.ns=ns at *;generalize Jx:ns.length=n at *;clear Gf Jx;go_wp2_with fail;go_loop [5] (fun i=>∃k:Nat,k<=n/\i=.int .i64 k/\∀j,j<k->((ns[j]?.getD default).nm.data.toList==s.data.toList)=false) (fun i=>n-(intOf i).toNat)
 case atStart=>exact⟨0,Yq _,rfl,fun j hj=>absurd hj aA⟩
 case round=>
  obtain⟨k,hk,rfl,Bc⟩:=hrel;have HT:=Hd Bc;clear Bc;by_cases Ah:k<n
  . obtain⟨b,off,rfl,hb,hc⟩:=aI.at_ HR.o aA;obtain⟨A1,c1,A2,c2,A3,c3,A4,c4,Aq,-⟩:=hc k Ah;obtain⟨d0,-⟩:=uX Aq;clear hc Aq;have HH:=Hd (Cs.o k Ah HT.o);have HS:=Hd fun(hf:((ns[k]?.getD default).nm.data.toList==s.data.toList)=false)=>dC (P:=fun j=>((ns[j]?.getD default).nm.data.toList==s.data.toList)=false) HT.o hf;generalize (ns[k]?.getD default).nm=x at d0 HH HS;cases h1:(x.toList==s.toList)with
    |true=>
     have Bx:=Hd (HH.o wE);go_wp2_with fail;go_ret;exact⟨eL Bx.o.symm,Ac.o⟩
    |false=>
     exact aMn
  . obtain rfl:k=n:=by omega
    have HN:=Hd (Cj.o HT.o);go_wp2_with fail;go_ret;exact⟨eL HN.o.symm,Ac.o⟩
def gK(w:World)(g:Nat)(d:Dc):Prop:=w.heap[g]?=some (Obj.cells (aU d) 43)
theorem oU:(Tryz.prog.info? 43).map (·.size)=some 6:=aC
theorem bCw(d:Dc):(Tryz.prog.info? 43).map (·.size)=some (aU d).size:=oU
theorem yR{fn:Func}{p u:Tmp}(h:fn.results=#[.cell p 43,.tmp u])(tmps:Array Value)(w:World)(g:Nat){d:Dc}
 (hp:tmps.getD p undef=.pointer (some ⟨g,0,none⟩))(hg:gK w g d):(results fn tmps).run Tryz.prog w=.ok (.tuple #[.agg (aU d),tmps.getD u undef]) w:=by
 rw[results_cell_tmp h,hp];have hl:=run_loadVar_row (P:=Tryz.prog) w g 43 43 _ _ _ hg Tryz.underlying43 rfl (bCw d);simp[asAddr,Result.andThen,hl]
theorem gK.below{w w':World}{g:Nat}{d:Dc}(h:gK w g d)(hb:Below w.heap.size w w'):gK w' g d:=by
 have hl:g<w.heap.size:=(Yl.1 h).1;exact(hb.block g hl).trans h
theorem gK.set{w:World}{g:Nat}{d:Dc}(h:gK w g d)(d':Dc):gK (w.setRow g (aU d')) g d':=Xd _ _ _ _ _ _ h
theorem aCj{α:Type}[Inhabited α]{f:α->Bool}:∀{l:List α}{k:Nat},k<l.length->(∀j,j<k->f (l[j]?.getD default)=false)->f (l[k]?.getD default)=true->l.find? f=some (l[k]?.getD default)
 |[],k,h,_,_=>by simp at h
 |a::l,0,_,_,h=>by
  have h:f a=true:=iI;simp[List.find?,h]
 |a::l,k+1,hk,hn,h=>by
  have h0:f a=false:=aE7;rw[List.find?_cons_of_neg (by simp[h0]),aCj (k:=k) kT (fun j hj=>by simpa using hn (j+1) aA) iI];simp
theorem aIf{α:Type}[Inhabited α]{f:α->Bool}{l:List α}(hn:∀j,j<l.length->f (l[j]?.getD default)=false):l.find? f=none:=by
 rw[List.find?_eq_none];intro a ha;obtain⟨j,hj,rfl⟩:=Zj ha
 have:=hn j hj
 rw[Yk hj]at this;simpa using this
def kY(o:Option Dc):Value:=.tuple #[.agg (aU (o.getD default)),.bool o.isSome]
def nL(w:World)(o:Option Dc)(e:Ending)(w':World):Prop:=e=.returned (kY o)/\Below w.heap.size w w'
theorem pT(x:Nd)(A1:Option Addr)(c1:Nat)(A2:Option Addr)(c2:Nat)(A3:Option Addr)(c3:Nat)(A4:Option Addr)(c4:Nat)(s:ByteArray)(w:World)(h:cF w x A1 A2 A3 A4)(hn:x.all.length<=1000):
 Calls Tryz.prog 34 #[.agg (bK x A1 c1 A2 c2 A3 c3 A4 c4),.string s] w (nL w (aZ x s)):=by
 have HF:=Hd fun w1 hw=>iE w x A1 c1 A2 c2 A3 c3 A4 c4 w1 hw h;have Ch:=Hd fun w1 (hw:cF w1 x A1 A2 A3 A4)=>tE x A1 c1 A2 c2 A3 c3 A4 c4 w1 hw hn;have Cs:=Hd (fun(k:Nat) hk hn hy=>show aZ x s=some (x.all[k]?.getD default)from aCj (l:=x.all) (f:=fun d:Dc=>d.nm.data.toList==s.data.toList) (k:=k) hk hn hy);have Cj:=Hd (fun hn=>show aZ x s=none from aIf (l:=x.all) (f:=fun d:Dc=>d.nm.data.toList==s.data.toList) hn);unfold bK at Ch⊢;generalize aZ x s=Au at *;go_in
 go_upto_region 1 with(fail);generalize Ag:w.alloc _=w1;obtain⟨Aa,hg,Nu,hcell⟩:=HF.o w1 Ag;have Ac:=Hd Aa;have Bi:=Hd Nu;have Nt:=Hd hcell;have Dg:=Hd fun w2 (hw:w1.alloc (.cells (aU default) 43)=w2)=>(show gK w2 (w.heap.size+1) default/\Below w1.heap.size w1 w2 by
  subst hw;exact⟨by rw[<-hg];exact Zx _ _,(Yg _ _).alloc (Yh _) _⟩)
 clear Ag hcell Aa HF h Nu;generalize Br:w1.alloc _=w2;obtain⟨Gg,Ad⟩:=Dg.o w2 Br;have Dh:=Hd Ad;have Gl:=Hd Gg;simp only[bK]at Nt;obtain⟨q0,q1,q2,q3,q4,-⟩:=Sx (Nt.o w2 Ad);simp only[Ya,Yb,Yc]at q0 q1 q2 q3 q4;have Nv:=Hd (Ch.o w2 (Bi.o.below Ad));clear Br Gg Ad Dg Ch;generalize hx:x.all=Jl at *;generalize Nw:Jl.length=na at *;clear Nw;go_wp2_with fail;refine Nv.o.mono ?_;rintro e w3 ⟨A5,c5,rfl,Jx,Ak⟩;have Aq:=Hd (Gl.o.below Ak);have Eo:=Hd (Dh.o.tr Ak);have Nx:=Hd Jx;have Nz:=Ak.size;clear Jx Ak q0 q1 q2 q3 q4;go_wp2_with fail;go_loop [7] (fun i=>∃k:Nat,k<=na/\i=.int .i64 k/\∀j,j<k->((Jl[j]?.getD default).nm.data.toList==s.data.toList)=false) (fun i=>na-(intOf i).toNat)
 case atStart=>exact⟨0,Yq _,rfl,fun j hj=>absurd hj aA⟩
 case round=>
  obtain⟨k,hk,rfl,Bc⟩:=hrel;have HT:=Hd Bc;clear Bc;by_cases Ah:k<na
  . obtain⟨b,off,rfl,hb,hc⟩:=aI.at_ Nx.o aA;obtain⟨d0,d1,d2,d3,d4,d5⟩:=(hc k Ah).six;clear hc;have HH:=Hd (Cs.o k Ah HT.o);have HS:=Hd fun(hf:((Jl[k]?.getD default).nm.data.toList==s.data.toList)=false)=>dC (P:=fun j=>((Jl[j]?.getD default).nm.data.toList==s.data.toList)=false) HT.o hf;generalize Jl[k]?.getD default=d at d0 d1 d2 d3 d4 d5 HH HS;cases h1:(d.nm.toList==s.toList)with
    |true=>
     have Ny:=Hd (HH.o wE);have Bp:=Hd (Aq.o.set d);have Bx:=Hd (Xc Eo.o (g:=w.heap.size+1) aA (aU d));unfold aU at Bp Bx;go_wp2_with (refine Zv rfl _ _ _ rfl (w.heap.size+1) _ rfl rfl _ _ Aq.o oU rfl aQ ?_);exact Zu (yR (p:=4) (u:=5) rfl _ _ (w.heap.size+1) rfl Bp.o) rfl ⟨by rw[Ny.o];rfl,Ac.o.trans (Bx.o.mono aA)⟩
    |false=>
     exact aMn
  . obtain rfl:k=na:=by omega
    have HN:=Hd (Cj.o HT.o);have Bp:=Hd (Aq.o.set default);have Bx:=Hd (Xc Eo.o (g:=w.heap.size+1) aA (aU default));go_wp2_with (refine Zv rfl _ _ _ rfl (w.heap.size+1) _ rfl rfl _ _ Aq.o oU rfl aQ ?_);exact Zu (yR (d:=default) (p:=4) (u:=5) rfl _ _ (w.heap.size+1) rfl Bp.o) rfl ⟨by rw[HN.o];rfl,Ac.o.trans (Bx.o.mono aA)⟩
end
section
open Go.RowKit Go.Sort Go.BigFrame
theorem qJ.five{w:World}{b o:Nat}{x:Nd}(h:qJ w b o x):∃A1 c1 A2 c2 A3 c3 A4 c4,cF w x A1 A2 A3 A4/\
 w.cell? ⟨b,o,none⟩=some (.string x.nm)/\w.cell? ⟨b,o+1,none⟩=some (.slice A1 x.ins.length c1)/\w.cell? ⟨b,o+2,none⟩=some (.slice A2 x.outs.length c2)/\w.cell? ⟨b,o+3,none⟩=some (.slice A3 x.vars.length c3)/\w.cell? ⟨b,o+4,none⟩=some (.slice A4 x.eqs.length c4):=by
 obtain⟨A1,c1,A2,c2,A3,c3,A4,c4,h1,h2⟩:=h;obtain⟨d0,d1,d2,d3,d4⟩:=uX h1;exact⟨A1,c1,A2,c2,A3,c3,A4,c4,h2,d0,d1,d2,d3,d4⟩
end
section
open Go.RowKit
def zI(es:List En)(k:Nat):Prop:=∀j,j<k->(cM es j).length<=12/\(fK es j).size<=100/\∀q,q<(cM es j).length->(fJ es j q).size<=100
def oV(es:List En):Prop:=es.length<=8/\zI es es.length
theorem oV.few{es:List En}(h:oV es):rY es:=⟨h.1,fun j hj=>(h.2 j hj).1⟩
theorem oV.ok{es:List En}(h:oV es):lC es:=fun j hj=>by
 have h1:=h.2 j hj;unfold maxLen;refine⟨by omega,fun s hs=>?_⟩;obtain⟨q,hq,rfl⟩:=Zj hs
 have:=h1.2.2 q hq
 unfold fJ at this;rw[Yk hq,Yt]at this;omega
theorem aTe{es:List En}{k:Nat}(H:zI es k)(h1:(cM es k).length<=12)(h2:(fK es k).size<=100)(h3:∀q,q<(cM es k).length->(fJ es k q).size<=100):zI es (k+1):=fun j hj=>by
 rcases Nat.lt_or_ge j k with h|h;· exact H j h
 . obtain rfl:j=k:=by omega
   exact⟨h1,h2,h3⟩
def aB2(es:List En)(w:World)(e:Ending)(w':World):Prop:=∃b,e=.returned (.bool b)/\(b=true->oV es)/\w=w'
theorem aZh(es:List En)(w:World):aB2 es w (.returned (.bool false)) w:=⟨false,rfl,fun h=>mY,rfl⟩
theorem aV6{es:List En}(h:oV es)(w:World):aB2 es w (.returned (.bool true)) w:=⟨true,rfl,fun _=>h,rfl⟩
theorem aT7(A:Option Addr)(len cap:Nat)(es:List En)(w:World)(hE:bU w A len es):
 Calls Tryz.prog 12 #[.slice A len cap] w (aB2 es w):=by
 have Nu:=hE.len;have Nz:=hE.max;by_cases h8:8<len
 . go_in
   exact zW
 . have Oa:decide ((8:Int)<(len:Int))=false:=Zz aA;go_in
   go_wp2_with fail;go_loop [3] (fun i=>∃k:Nat,k<=len/\i=.int .i64 k/\zI es k) (fun i=>len-(intOf i).toNat)
   case atStart=>exact⟨0,Yq _,rfl,fun j hj=>absurd hj aA⟩
   case round=>
    obtain⟨k,hk,rfl,Bc⟩:=hrel;have HT:=Hd Bc;clear Bc;by_cases Ah:k<len
    . obtain⟨b,off,rfl,hb,hc⟩:=hE.at_ Ah;obtain⟨Ga,A',n',c',Ny,Bx⟩:=hc k Ah;have Jx:k<es.length:=aA;have Ob:=Bx.len;have Nx:=Bx.max;clear hc;by_cases Fo:12<n';· exact zW
      . have HS:=Hd fun h2 h3=>aTe HT.o (show(cM es k).length<=12 by omega) h2 h3;have Nv:decide ((12:Int)<(n':Int))=false:=Zz aA;generalize fK es k=x at Ga HS;by_cases Nw:100<x.size;· exact zW
        . have HS:=Hd fun h3=>HS.o aA h3;have Nt:decide ((100:Int)<(x.size:Int))=false:=Zz aA;go_wp2_with fail;go_loop [4] (fun i=>∃m:Nat,m<=n'/\i=.int .i64 m/\∀q,q<m->(fJ es k q).size<=100) (fun i=>n' - (intOf i).toNat)
          case atStart=>exact⟨0,Yq _,rfl,fun j hj=>absurd hj aA⟩
          case round=>
           obtain⟨m,hm,rfl,Bc⟩:=hrel;have Dx:=Hd Bc;clear Bc;by_cases Bp:m<n'
           . obtain⟨b2,Gc,rfl,Ad,Gb⟩:=Bx.at_ Bp;have Aq:=Gb m Bp;clear Gb;rw[show(cM es k)[m]?.getD ByteArray.empty=fJ es k m from rfl]at Aq
             have HN:=Hd (show(fJ es k m).size<=100->∀ q,q<m+1->(fJ es k q).size<=100 from fun h q hq=>by
              rcases Nat.lt_or_ge q m with h1|h1;· exact Dx.o q h1
              . obtain rfl:q=m:=by omega
                exact h)
             generalize fJ es k m=y at Aq HN;by_cases hy:100<y.size;· exact zW
             . have HN:=Hd (HN.o aA);go_wp2_with fail;go_round
               case rel=>exact⟨m+1,by omega,by go_num,HN.o⟩
               case measure=>simp[intOf];omega
           . have HS:=Hd (HS.o fun q hq=>Dx.o q aA);go_wp2_with fail;go_round
             case rel=>exact⟨k+1,by omega,by go_num,HS.o⟩
             case measure=>simp[intOf];omega
    . have Jx:k=es.length:=by omega
      have Hr:=HT.o;rw[Jx]at Hr;have HY:=Hd (show oV es from⟨by omega,Hr⟩);go_wp2_with fail;go_ret;exact aV6 HY.o w
end
section
open Go.RowKit Go.Sort
def qF(q:Qn):Prop:=q.ns.length<=20/\mN q.x=true/\∀j,j<q.ns.length->(q.ns[j]?.getD ByteArray.empty).size<=100
def kB(n:Nd):Prop:=kD n.ins=true/\kD n.outs=true/\kD n.vars=true/\n.eqs.length<=30/\n.nm.size<=100/\∀j,j<n.eqs.length->qF (n.eqs[j]?.getD default)
def gU(p:Pg):Prop:=oV p.es/\p.ns.length<=10/\∀j,j<p.ns.length->kB (p.ns[j]?.getD default)
def aDp(w:World)(p:Pg)(e:Ending)(w':World):Prop:=∃b,e=.returned (.bool b)/\(b=true->gU p)/\Below w.heap.size w w'
theorem aV7{w w':World}(p:Pg)(hb:Below w.heap.size w w'):aDp w p (.returned (.bool false)) w':=⟨false,rfl,fun h=>mY,hb⟩
theorem aB3{w:World}{zc cs:Array Value}{T:TypeId}{w4:World}(hw:(w.alloc (.cells zc T)).setRow w.heap.size cs=w4):
 Below w.heap.size w w4/\w.heap.size<w4.heap.size/\∀w',Below w4.heap.size w4 w'->∀j,w'.cell? ⟨w.heap.size,j,none⟩=cs[j]?:=by
 have h1:w4.heap[w.heap.size]?=some (.cells cs T):=by
  rw[<-hw];exact Xd _ _ _ _ _ _ (Zx _ _)
 have Ah:w.heap.size<w4.heap.size:=(Yl.1 h1).1;refine⟨?_,Ah,fun w' hb j=>?_⟩
 . rw[<-hw];exact Xc ((Yg _ _).alloc (Yh _) _) (Yh _) cs
 . rw[hb.cell (p:=⟨w.heap.size,j,none⟩) Ah];unfold World.cell?;rw[show w4.heap[(⟨w.heap.size,j,none⟩:Addr).block]?=_ from h1];rfl
theorem aLm:(Tryz.prog.info? 36).map (·.size)=some 5:=aC
theorem bFu:(Tryz.prog.info? 54).map (·.size)=some 7:=aC
theorem aT8(p:Pg)(E:Option Addr)(ec:Nat)(N:Option Addr)(nc:Nat)(w:World)(h:cJ w p E N):
 Calls Tryz.prog 5 #[.agg (aK p E ec N nc)] w (aDp w p):=by
 have HF:=Hd fun w1 hw=>kW w p E ec N nc w1 hw h;have Jm:=Hd fun w1 a=>aT7 E p.es.length ec p.es w1 a;have Nu:=Hd fun A n c l w1 a=>bCo A n c l w1 a;have Oi:=Hd fun x A ca B cb w1 a=>aYr x A ca B cb w1 a;have Qc:=aI.max h.2;have Pj:=Hd (show oV p.es->p.ns.length<=10->(∀j,j<p.ns.length->kB (p.ns[j]?.getD default))->gU p from fun a b c=>⟨a,b,c⟩);have Cj:=Hd fun w' hb=>aV7 (w:=w) (w':=w') p hb;have Jv:=Hd fun w' (hb:Below w.heap.size w w')(ht:gU p)=>(show aDp w p (.returned (.bool true)) w' from⟨true,rfl,fun _=>ht,hb⟩);unfold aK;unfold aE at Oi;generalize gU p=TP at *;go_in
 go_upto_region 1 with(fail);generalize Ag:w.alloc _=w1;obtain⟨Aa,hg,Oe,hcell⟩:=HF.o w1 Ag;have Ac:=Hd Aa;have HC:=Hd hcell;have Pf:=Hd Oe.1;have Eg:=Hd (show aI 5 qJ w1 N p.ns.length p.ns from Oe.2);simp only[aK]at HC;have q0:=HC.o w1 (Yg _ _) 0;have q1:=HC.o w1 (Yg _ _) 1;simp only[Ya,Yb,Yc]at q0 q1;clear Ag hcell Aa HF h Oe;generalize Gf:p.ns=ns at *;generalize Pv:ns.length=n at *;clear Pv Gf;go_wp2_with fail;refine(Jm.o w1 Pf.o).mono ?_;rintro e w2 ⟨be,rfl,Ou,rfl⟩;cases be with
 |false=>
  go_wp2_with fail;go_ret;exact Cj.o w1 Ac.o
 |true=>
  have Pk:=Hd (Ou rfl);clear Ou;by_cases Pz:10<n
  . go_wp2_with fail;go_ret;exact Cj.o w1 Ac.o
  . have Qh:decide ((10:Int)<(n:Int))=false:=Zz aA;go_wp2_with fail;go_loopw [3] (fun i wr=>∃k:Nat,k<=n/\i=.int .i64 k/\(∀j,j<k->kB (ns[j]?.getD default))/\Below w1.heap.size w1 wr) (fun i _=>n-(intOf i).toNat)
    case atStart=>exact⟨0,Yq _,rfl,fun j hj=>absurd hj aA,Yg _ _⟩
    case round=>
     obtain⟨k,hk,rfl,Bc,Ba⟩:=hrel;have HT:=Hd Bc;have Cf:=Hd Ba;have hz:=Ba.size;have q1:=HC.o wr Ba 1;simp only[Ya,Yb,Yc]at q1;clear Bc;by_cases Ah:k<n
     . obtain⟨b,off,rfl,hb,hc⟩:=aI.at_ (eX.below Eg.o Ba) aA;have Eb:=hc k Ah;clear hc Ba;have HS:=Hd fun(hf:kB (ns[k]?.getD default))=>dC (P:=fun j=>kB (ns[j]?.getD default)) HT.o hf;generalize ns[k]?.getD default=x at Eb HS;have Od:=Hd (show kD x.ins=true->kD x.outs=true->kD x.vars=true->x.eqs.length<=30->x.nm.size<=100->(∀j,j<x.eqs.length->qF (x.eqs[j]?.getD default))->kB x from fun a b c d e f=>⟨a,b,c,d,e,f⟩);obtain⟨A1,c1,A2,c2,A3,c3,A4,c4,Ap,Ox,Pu,Ps,Pa,Pc⟩:=Eb.five;have Qb:=aI.max Ap.2.2.2;have Bt:=Hd fun zc w4 hw=>aB3 (w:=wr) (zc:=zc) (cs:=bK x A1 c1 A2 c2 A3 c3 A4 c4) (T:=36) (w4:=w4) hw;have Ed:=Hd Ap;simp only[bK]at Bt;clear Ap Eb;go_upto_region 7 with(refine Zv rfl _ _ _ rfl wr.heap.size _ rfl rfl _ _ (Zx _ _) aLm rfl aQ ?_);generalize Og:World.setRow _ _ _=w4;obtain⟨Bk,Oz,Bp⟩:=Bt.o _ w4 Og;have Be:=Hd (Cf.o.trans (Bk.mono hz));have Mt:=Hd (Ac.o.trans (Be.o.mono aA));have Jc:=Hd Bp;have Bx:=Hd (Ed.o.below Bk);have Qg:=Bk.size;obtain⟨r0,r1,r2,r3,r4,-⟩:=Sx (Bp w4 (Yg _ _));simp only[Ya,Yb,Yc]at r0 r1 r2 r3 r4;have Oh:=Hd (Nu.o A1 x.ins.length c1 x.ins w4 Bx.o.1);have Fd:=Hd (Nu.o A2 x.outs.length c2 x.outs w4 Bx.o.2.1);have Gi:=Hd (Nu.o A3 x.vars.length c3 x.vars w4 Bx.o.2.2.1);have Pw:=Hd (show aI 7 sJ w4 A4 x.eqs.length x.eqs from Bx.o.2.2.2);clear Og Bp Bk Ox Pu Ps Pa Pc q1 Bt;generalize Pq:x.eqs=qs at *;generalize Pr:qs.length=nq at *;clear Pr Pq;generalize wr.heap.size=gb at *;cases g1:kD x.ins with
       |false=>
        go_wp2_with fail;refine Oh.o.mono ?_;rw[g1];rintro e v1 ⟨rfl,rfl⟩;exact vS
       |true=>
        go_wp2_with fail;refine Oh.o.mono ?_;rw[g1];rintro e v1 ⟨rfl,rfl⟩;cases g2:kD x.outs with
        |false=>
         go_wp2_with fail;refine Fd.o.mono ?_;rw[g2];rintro e v2 ⟨rfl,rfl⟩;exact vS
        |true=>
         go_wp2_with fail;refine Fd.o.mono ?_;rw[g2];rintro e v2 ⟨rfl,rfl⟩;cases g3:kD x.vars with
         |false=>
          go_wp2_with fail;refine Gi.o.mono ?_;rw[g3];rintro e v3 ⟨rfl,rfl⟩;exact vS
         |true=>
          go_wp2_with fail;refine Gi.o.mono ?_;rw[g3];rintro e v3 ⟨rfl,rfl⟩;by_cases Qf:30<nq;· exact vS
          . have Px:decide ((30:Int)<(nq:Int))=false:=Zz aA;by_cases Ow:100<x.nm.size
            . have Oc:decide ((100:Int)<(x.nm.size:Int))=true:=Zy aA;exact vS
            . have Oc:decide ((100:Int)<(x.nm.size:Int))=false:=Zz aA;have Od:=Hd (Od.o g1 g2 g3 aA aA);generalize wr=wo at *;go_wp2_with fail;go_loopw [5] (fun i wq=>∃j:Nat,j<=nq/\i=.int .i64 j/\(∀a,a<j->qF (qs[a]?.getD default))/\Below w4.heap.size w4 wq) (fun i _=>nq-(intOf i).toNat)
              case atStart=>exact⟨0,Yq _,rfl,fun j hj=>absurd hj aA,Yg _ _⟩
              case round=>
               obtain⟨j,hj,rfl,Lf,Jx⟩:=hrel;have Kp:=Hd Lf;have Lq:=Hd Jx;have Pd:=Jx.size;have r4:=Jc.o _ Jx 4;simp only[Ya,Yb,Yc]at r4;clear Lf;by_cases Ky:j<nq
               . obtain⟨b5,Pp,rfl,Bv,Oo⟩:=aI.at_ (gN.below Pw.o Jx) aA;have Nw:=Oo j Ky;clear Oo Jx;have Om:=Hd fun(hf:qF (qs[j]?.getD default))=>dC (P:=fun a=>qF (qs[a]?.getD default)) Kp.o hf;generalize qs[j]?.getD default=q at Nw Om;have Ob:=Hd (show q.ns.length<=20->mN q.x=true->(∀j,j<q.ns.length->(q.ns[j]?.getD ByteArray.empty).size<=100)->qF q from fun a b c=>⟨a,b,c⟩);obtain⟨A6,c6,A7,c7,A8,c8,Nz,Oq,s0,s1,s2,s3,s4,s5,s6⟩:=Nw.seven;have Qd:=Nz.max;have Bt:=Hd fun zc w6 hw=>aB3 (w:=wr) (zc:=zc) (cs:=dW q A6 c6 A7 c7 A8 c8) (T:=54) (w4:=w6) hw;have Po:=Hd Nz;have Oy:=Hd Oq;simp only[dW]at Bt;clear Nz Oq Nw;go_upto_region 13 with(refine Zv rfl _ _ _ rfl wr.heap.size _ rfl rfl _ _ (Zx _ _) bFu rfl aQ ?_);generalize Of:World.setRow _ _ _=w6;obtain⟨Ci,Pn,Aq⟩:=Bt.o _ w6 Of;have Du:=Hd (Lq.o.trans (Ci.mono Pd));have Nx:=Hd (Mt.o.tr Du.o);have Pb:=Hd Aq;have Oa:=Hd (Po.o.below Ci);have Py:=Ci.size;obtain⟨t0,t1,t2,t3,t4,t5⟩:=Sx (Aq w6 (Yg _ _));have t6:=Aq w6 (Yg _ _) 6;simp only[Ya,Yb,Yc]at t0 t1 t2 t3 t4 t5 t6;have Nt:=Hd (Oi.o q.x A7 c7 A8 c8 w6 (Oy.o.below Ci));clear Of Aq Ci s0 s1 s2 s3 s4 s5 s6 r4 Bt;generalize hss:q.ns=ss at *;generalize Pe:ss.length=nn at *;clear Pe hss;generalize wr.heap.size=gq at *;by_cases Qa:20<nn
                 . go_wp2_with fail;go_ret;exact Cj.o w6 Nx.o
                 . have Qe:decide ((20:Int)<(nn:Int))=false:=Zz aA;cases gx:mN q.x with
                   |false=>
                    rw[gx]at Nt;go_wp2_with fail;refine Nt.o.mono ?_;rintro e w7 ⟨rfl,Dw⟩;have Fg:=Hd (Nx.o.tr Dw);clear Dw;go_wp2_with fail;go_ret;exact Cj.o w7 Fg.o
                   |true=>
                    rw[gx]at Nt;have Ob:=Hd (Ob.o aA gx);go_wp2_with fail;refine Nt.o.mono ?_;rintro e w7 ⟨rfl,Dw⟩;have Fg:=Hd (Nx.o.tr Dw);have Ny:=Hd (Du.o.tr Dw);have u0:=Pb.o w7 Dw 0;simp only[Ya,Yb,Yc]at u0;have Nv:=Hd (Oa.o.below Dw);clear Dw t0 t1 t2 t3 t4 t5 t6;go_wp2_with fail;go_loop [7] (fun i=>∃m:Nat,m<=nn/\i=.int .i64 m/\∀a,a<m->(ss[a]?.getD ByteArray.empty).size<=100) (fun i=>nn-(intOf i).toNat)
                    case atStart=>exact⟨0,Yq _,rfl,fun j hj=>absurd hj aA⟩
                    case round=>
                     obtain⟨m,hm,rfl,Ol⟩:=hrel;have On:=Hd Ol;clear Ol;by_cases Oj:m<nn
                     . obtain⟨b8,Ov,rfl,Hn,Ok⟩:=Nv.o.at_ Oj;have Ph:=Ok m Oj;clear Ok;have Ot:=Hd fun(hf:(ss[m]?.getD ByteArray.empty).size<=100)=>dC (P:=fun a=>(ss[a]?.getD ByteArray.empty).size<=100) On.o hf;generalize ss[m]?.getD ByteArray.empty=y at Ph Ot;by_cases hy:100<y.size
                       . go_wp2_with fail;go_ret;exact Cj.o w7 Fg.o
                       . have Fu:=Hd (Ot.o aA);go_wp2_with fail;go_round
                         case rel=>exact⟨m+1,by omega,by go_num,Fu.o⟩
                         case measure=>simp[intOf];omega
                     . have Pi:=Hd (Om.o (Ob.o fun a ha=>On.o a aA));go_wp2_with fail;go_roundw;case rel=>exact⟨j+1,by omega,by go_num,Pi.o,Ny.o⟩
                       case measure=>simp[intOf];omega
               . have Pm:=Hd (HS.o (Od.o fun a ha=>Kp.o a aA));have Jq:=Hd (Be.o.tr Lq.o);go_wp2_with fail;go_roundw;case rel=>exact⟨k+1,by omega,by go_num,Pm.o,Jq.o⟩
                 case measure=>simp[intOf];omega
     . have HP:=Hd (Pj.o Pk.o aA fun a ha=>HT.o a aA);go_wp2_with fail;go_ret;exact Jv.o wr (Ac.o.trans (Cf.o.mono aA)) HP.o
theorem uM{x:Ex}(h:mN x=true):bD x<=1000000:=by
 simp only[mN,Ys,decide_eq_true_eq]at h;omega
theorem aBd{x:Ex}(h:mN x=true):∀p∈bL x,cX p:=by
 simp only[mN,Ys,Zg]at h;exact fun p hp=>cX.of_few (h.2 p hp)
theorem qF.ok{q:Qn}(h:qF q):wX q:=by
 refine⟨fun s hs=>?_,uM h.2.1,aBd h.2.1⟩;obtain⟨j,hj,rfl⟩:=Zj hs
 have:=h.2.2 j hj
 rw[Yk hj,Yt]at this;unfold maxLen;omega
theorem nM{l:List Dc}(h:kD l=true):(∀d∈l,nF d)/\l.length<=20:=by
 simp only[kD,Ys,Zg,decide_eq_true_eq]at h;refine⟨fun d hd=>?_,h.2⟩;have h1:=h.1 d hd;simp only[rX,Ys,Bool.not_eq_true',decide_eq_false_iff_not]at h1;unfold nF maxLen;omega
theorem kB.len{n:Nd}(h:kB n):n.all.length<=60:=by
 have h1:=(nM h.1).2;have h2:=(nM h.2.1).2;have h3:=(nM h.2.2.1).2;rw[pZ];omega
theorem kB.ok{n:Nd}(h:kB n):OkN n:=by
 refine⟨by have:=h.2.2.2.2.1;unfold maxLen;omega,fun d hd=>?_,fun q hq=>?_⟩
 . simp only[Nd.all,Zo]at hd;rcases hd with(hd|hd)|hd;· exact(nM h.1).1 d hd
   . exact(nM h.2.1).1 d hd
   . exact(nM h.2.2.1).1 d hd
 . obtain⟨j,hj,rfl⟩:=Zj hq
   have:=h.2.2.2.2.2 j hj
   rw[Yk hj,Yt]at this;exact this.ok
def qC(es:Nat)(l:List Nd):Bool:=l.all (gT es bQ bH)
def vZ(l:List Nd):Bool:=l.all fun n=>cH (bM n.all)
def eJ(p:Pg):Int:=
 if dB p.es=0 then(if p.ns.length=0 then 5 else if 6<p.ns.length then 4 else if p.ns.any iX then 4 else if qC p.es.length p.ns then(if vZ p.ns && cH (p.ns.map Nd.nm)then 0 else 6)else 1)else dB p.es
theorem aCk{l:List Nd}{k:Nat}(hk:k<l.length):(l.map Nd.nm).take (k+1)=(l.map Nd.nm).take k++[(l[k]?.getD default).nm]:=by
 rw[List.take_add_one,List.getElem?_map,Yk hk];simp
theorem aF3{α:Type}[Inhabited α]{f:α->Bool}{l:List α}{k:Nat}(hk:k<l.length):(l.take (k+1)).all f=((l.take k).all f && f (l[k]?.getD default)):=by
 rw[List.take_add_one,Yk hk,List.all_append];simp
theorem aT9{α:Type}[Inhabited α]{f:α->Bool}{l:List α}{k:Nat}(hk:k<l.length)(hf:f (l[k]?.getD default)=true):l.any f=true:=by
 rw[Yk hk]at hf;exact List.any_eq_true.2 ⟨_,Zh hk,hf⟩
theorem bFv{α:Type}[Inhabited α]{f:α->Bool}{l:List α}(h:∀j,j<l.length->f (l[j]?.getD default)=false):l.any f=false:=by
 rw[List.any_eq_false];intro a ha;obtain⟨j,hj,rfl⟩:=Zj ha
 have:=h j hj
 rw[Yk hj]at this;simpa using this
theorem xE{w:World}{m:Nat}:Below w.heap.size w (w.drewN m):=bG (Yg _ _) m
theorem aTf{w w':World}{g:Nat}{cs:Array Value}{T:TypeId}{v:Value}(h:w.heap[g]?=some (.cells cs T))(Aq:w.grownBy w' v.ownBlock)(An:v.ownBlock≠some g):w'.heap[g]?=some (.cells cs T):=
 (Aq.block g (Yl.1 h).1 (fun e=>An e.symm)).trans h
theorem hU{w w':World}{g:Nat}{cs:Array Value}{T:TypeId}(h:w.heap[g]?=some (.cells cs T))(hb:Below w.heap.size w w')(j:Nat):w'.cell? ⟨g,j,none⟩=cs[j]?:=by
 have Ah:g<w.heap.size:=(Yl.1 h).1;rw[hb.cell (p:=⟨g,j,none⟩) Ah];exact aEf
theorem aZi(p:Pg)(E:Option Addr)(ec:Nat)(N:Option Addr)(nc:Nat)(w:World)(h:cJ w p E N)(ht:gU p):
 Calls Tryz.prog 53 #[.agg (aK p E ec N nc)] w fun e w'=>e=.returned (.int .i64 (eJ p))/\Below w.heap.size w w':=by
 have HF:=Hd fun w1 hw=>kW w p E ec N nc w1 hw h;have Oq:=Hd fun w1 a=>aZe E p.es.length ec p.es w1 a ht.1.ok ht.1.few;have Ow:=Hd fun x A1 c1 A2 c2 A3 c3 A4 c4 w1 a b c=>bCv E p.es.length ec x A1 c1 A2 c2 A3 c3 A4 c4 w1 (by have:=ht.1.1;omega) a b c;have Pk:=aI.max h.2;have HE:=Hd (show eJ p=if dB p.es=0 then(if p.ns.length=0 then 5 else if 6<p.ns.length then 4 else if p.ns.any iX then 4 else if qC p.es.length p.ns then(if vZ p.ns && cH (p.ns.map Nd.nm)then 0 else 6)else 1)else dB p.es from rfl);have Ph:=Hd ht.2.2;obtain⟨i0,hi,Li,Lh,Lb⟩:=info_parts qT;unfold aK;unfold qC vZ at HE;generalize eJ p=Au at *;go_in
 go_upto_region 1 with(fail);generalize Ag:w.alloc _=w1;obtain⟨Aa,hg,Oi,hcell⟩:=HF.o w1 Ag;have Ac:=Hd Aa;have HC:=Hd hcell;have Pc:=Hd (Oq.o w1 Oi.1);have Eg:=Hd (show aI 5 qJ w1 N p.ns.length p.ns from Oi.2);simp only[aK]at HC;have q0:=HC.o w1 (Yg _ _) 0;simp only[Ya,Yb,Yc]at q0;clear Ag hcell Aa HF h Oi Oq ht;generalize Gf:p.ns=ns at *;generalize Ot:ns.length=n at *;have Mz:=Hd Ot;generalize p.es.length=ne at *;generalize dB p.es=en at *;clear Ot Gf;go_wp2_with fail;refine Pc.o.mono ?_;rintro e w2 ⟨rfl,Ad⟩;have Aj:=Hd (Ac.o.trans (Ad.mono aA));have Dh:=Hd Ad;have q1:=HC.o w2 Ad 1;have q0:=HC.o w2 Ad 0;have Cu:=Ad.size;simp only[Ya,Yb,Yc]at q0 q1;clear Ad;by_cases Ny:en=0
 . subst Ny;rw[if_pos rfl]at HE;rcases Nat.eq_zero_or_pos n with Ga|Ga;· exact aN3
   . rw[if_neg aA]at HE;have Pj:((n:Int)==0)=false:=mV;by_cases Oo:6<n
     . rw[if_pos Oo]at HE;exact zV
     . rw[if_neg Oo]at HE;have d6:decide ((6:Int)<(n:Int))=false:=Zz aA;have On:=Hd (World.ownsRow_lit (base:=w2.heap.size) (e:=9) (size:=1) w2 #[] 0 (Yh _) bS rfl);have Af:=Hd (Dh.o.alloc Dh.o.size (.cells #[] 9));go_wp2_with fail;go_loopw [4,5,6,7] (fun v r o i wr=>∃k:Nat,k<=n/\i=.int .i64 k/\wr.ownsRow w2.heap.size 9 1 v k (((ns.map Nd.nm).take k).map Value.string)/\r=.bool ((ns.take k).all (gT ne bQ bH))/\o=.bool ((ns.take k).all fun n=>cH (bM n.all))/\(∀j,j<k->iX (ns[j]?.getD default)=false)/\Below w1.heap.size w1 wr/\w2.heap.size<=wr.heap.size) (fun _ _ _ i _=>n-(intOf i).toNat)
       case atStart=>exact⟨0,Yq _,rfl,On.o,rfl,rfl,fun j hj=>absurd hj aA,Af.o,by simp⟩
       case round=>
        obtain⟨k,hk,rfl,Ao,rfl,rfl,Om,Ba,Pm⟩:=hrel;have Gl:=Hd Ao;have Ok:=Hd Om;have Cf:=Hd Ba;have hz:=Ba.size;have q0:=HC.o wr Ba 0;have q1:=HC.o wr Ba 1;simp only[Ya,Yb,Yc]at q0 q1;clear Om Ao On Af;by_cases Ah:k<n
        . obtain⟨b,off,rfl,hb,hc⟩:=aI.at_ Eg.o aA;have Eb:=hc k Ah;clear hc;have Df:=aCk (l:=ns) (k:=k) aAo;have Oa:=aF3 (f:=gT ne bQ bH) (l:=ns) (k:=k) aAo;have Nz:=aF3 (f:=fun n=>cH (bM n.all)) (l:=ns) (k:=k) aAo;have Nw:=Ph.o k Ah;have Kb:=Hd fun hf=>aT9 (l:=ns) (f:=iX) (k:=k) aAo hf;have HS:=Hd fun(hf:iX (ns[k]?.getD default)=false)=>dC (P:=fun j=>iX (ns[j]?.getD default)=false) Ok.o hf;generalize ns[k]?.getD default=x at Eb Df Oa Nz Nw Kb HS;have Iq:=Hd Df;have Ch:=Hd Oa;have Cc:=Hd Nz;have Oh:=Hd Nw;have Ou:=Nw.len;have Iu:=Hd (show iX x=(decide ((6:Int)<(x.ins.length:Int)) || decide ((6:Int)<(x.outs.length:Int)) || decide ((12:Int)<(x.vars.length:Int)) || decide ((18:Int)<(x.eqs.length:Int))) by
           have hd:∀a b:Nat,decide ((a:Int)<(b:Int))=decide (a<b):=fun a b=>by simp
           have h6:=hd 6;have Fo:=hd 12;have Pb:=hd 18;simp only[iX]at *;rw[<-h6,<-h6,<-Fo,<-Pb]
           rfl)
          clear Df Oa Nz Nw;obtain⟨A1,c1,A2,c2,A3,c3,A4,c4,Ap,e0,e1,e2,e3,e4⟩:=Eb.five;have Ov:=(Ba.cell (p:=⟨b,off+k*5,none⟩) hb).trans e0;have Pf:=(Ba.cell (p:=⟨b,off+k*5+1,none⟩) hb).trans e1;have Pd:=(Ba.cell (p:=⟨b,off+k*5+2,none⟩) hb).trans e2;have Ox:=(Ba.cell (p:=⟨b,off+k*5+3,none⟩) hb).trans e3;have Oy:=(Ba.cell (p:=⟨b,off+k*5+4,none⟩) hb).trans e4;have Ed:=Hd fun w' (hb:Below w1.heap.size w1 w')=>Ap.below hb;have Of:=Hd fun w' hb=>Ow.o x A1 c1 A2 c2 A3 c3 A4 c4 w' (Ed.o w' hb) Oh.o.ok (by have:=Oh.o.len;omega);have Ob:=Hd fun w' hb=>tE x A1 c1 A2 c2 A3 c3 A4 c4 w' (Ed.o w' hb) (by have:=Oh.o.len;omega);have Bt:=Hd fun zc w4 (hw:(wr.alloc (.cells zc 36)).setRow wr.heap.size (bK x A1 c1 A2 c2 A3 c3 A4 c4)=w4)=>(show w4.heap[wr.heap.size]?=some (.cells (bK x A1 c1 A2 c2 A3 c3 A4 c4) 36)/\Below wr.heap.size wr w4 from⟨by rw[<-hw];exact Xd _ _ _ _ _ _ (Zx _ _),(aB3 hw).1⟩);unfold bK at Of Ob;clear e0 e1 e2 e3 e4 Ap Eb Ba;go_upto_region 13 with(refine Zv rfl _ _ _ rfl wr.heap.size _ rfl rfl _ _ (Zx _ _) aLm rfl aQ ?_);generalize Oj:World.setRow _ _ _=w4;obtain⟨Bp,Bk⟩:=Bt.o _ w4 Oj;have Oz:=Hd Bp;have Be:=Hd (Cf.o.trans (Bk.mono hz));have Bx:=Hd (pK Gl.o Bk);have Pn:=Bk.size;have Pe:wr.heap.size<w4.heap.size:=(Yl.1 Bp).1;have r0:=hU Bp (Yg _ _) 0;have r1:=hU Bp (Yg _ _) 1;have r2:=hU Bp (Yg _ _) 2;have r3:=hU Bp (Yg _ _) 3;have r4:=hU Bp (Yg _ _) 4;simp only[bK,List.getElem?_toArray,Yz,Zb]at r0 r1 r2 r3 r4;have Pa:=Hd (show u4.ownBlock≠some wr.heap.size from fun e=>by have:=(Gl.o.lt _ e).2;omega);clear Oj Bp Bk Bt Ov Pf Pd Ox Oy q0 q1;generalize wr.heap.size=gb at *;cases m1:decide ((6:Int)<(x.ins.length:Int))with
          |true=>
           rw[m1]at Iu;exact zP
          |false=>
           rw[m1]at Iu;cases m2:decide ((6:Int)<(x.outs.length:Int))with
           |true=>
            rw[m2]at Iu;exact zP
           |false=>
            rw[m2]at Iu;cases m3:decide ((12:Int)<(x.vars.length:Int))with
            |true=>
             rw[m3]at Iu;exact zP
            |false=>
             rw[m3]at Iu;cases m4:decide ((18:Int)<(x.eqs.length:Int))with
             |true=>
              rw[m4]at Iu;exact zP
             |false=>
              rw[m4]at Iu;have Nk:=Hd (HS.o (by rw[Iu.o];rfl));go_upto_region 16 with(at_builtin;refine wpList_append_own_at _ rfl _ _ 49 rfl w2.heap.size 9 i0 (.string ByteArray.empty) 1 16 Tryz.underlying49 hi Li Lh Lb rfl bS _ _ _ rfl (Bx.o.alloc _) ⟨w4.heap.size,0,none⟩ 1 1 [.string x.nm] rfl rfl (cell_one_new _ _ _) (oG [x.nm]) dP aA dA ?_;intro v' w5 Bb Ar Ec Dy;have Jb:=Hd Bb;have Kg:=Hd Ar;clear Bb Ar Ec Dy);have Ck:=Hd ((Be.o.alloc Be.o.size (.cells #[.string x.nm] 9)).grown Kg.o (by have:=Be.o.size;simp;omega) (fun j hj=>by have:=(Bx.o.lt j hj).1;omega));have Nt:=aTf ((Below.heap_alloc w4 (.cells #[.string x.nm] 9) gb Pe).trans Oz.o) Kg.o Pa.o;have Aq:=Hd Nt;have Pi:=Ck.o.size;have Nx:=Kg.o.size;simp at Nx;have s0:=hU Nt (Yg _ _) 0;have s1:=hU Nt (Yg _ _) 1;have s2:=hU Nt (Yg _ _) 2;have s3:=hU Nt (Yg _ _) 3;have s4:=hU Nt (Yg _ _) 4;have s5:=HC.o w5 Ck.o 0;simp only[bK,List.getElem?_toArray,Yz,Zb]at s0 s1 s2 s3 s4 s5;clear r0 r1 r2 r3 r4 Nt;cases hr:(ns.take k).all (gT ne bQ bH)with
              |false=>
               cases ho:(ns.take k).all (fun n=>cH (bM n.all))with
               |false=>
                have Jw:=Hd Jb.o;have Ey:=Hd Ck.o;exact aRz
               |true=>
                have Jw:=Hd Jb.o;have Ey:=Hd Ck.o;go_wp2_with fail;have Nu:=Hd (Ob.o _ Ey.o);refine Nu.o.mono ?_;rintro e w7 ⟨A9,c9,rfl,Nv,Dw⟩;have Ey:=Hd (Ey.o.tr Dw);have Jw:=Hd (pK Jw.o Dw);have Og:=Dw.size;have No:=Hd (aIe A9 x.all.length c9 x.all _ Nv aA);clear Nv Dw s0 s1 s2 s3 s4 s5;exact aQg
              |true=>
               cases ho:(ns.take k).all (fun n=>cH (bM n.all))with
               |false=>
                have Jx:=Hd (Of.o w5 Ck.o);go_wp2_with fail;refine Jx.o.mono ?_;rintro e w6 ⟨rfl,Ci⟩;have Ey:=Hd (Ck.o.tr Ci);have Jw:=Hd (pK Jb.o Ci);have Oe:=Ci.size;have t0:=hU Aq.o Ci 0;have t1:=hU Aq.o Ci 1;have t2:=hU Aq.o Ci 2;have t3:=hU Aq.o Ci 3;have t4:=hU Aq.o Ci 4;simp only[bK,List.getElem?_toArray,Yz,Zb]at t0 t1 t2 t3 t4;clear Ci s0 s1 s2 s3 s4 s5;exact aRz
               |true=>
                have Jx:=Hd (Of.o w5 Ck.o);go_wp2_with fail;refine Jx.o.mono ?_;rintro e w6 ⟨rfl,Ci⟩;have Ey:=Hd (Ck.o.tr Ci);have Jw:=Hd (pK Jb.o Ci);have Oe:=Ci.size;have t0:=hU Aq.o Ci 0;have t1:=hU Aq.o Ci 1;have t2:=hU Aq.o Ci 2;have t3:=hU Aq.o Ci 3;have t4:=hU Aq.o Ci 4;simp only[bK,List.getElem?_toArray,Yz,Zb]at t0 t1 t2 t3 t4;clear Ci s0 s1 s2 s3 s4 s5;go_wp2_with fail;have Nu:=Hd (Ob.o _ Ey.o);refine Nu.o.mono ?_;rintro e w7 ⟨A9,c9,rfl,Nv,Dw⟩;have Ey:=Hd (Ey.o.tr Dw);have Jw:=Hd (pK Jw.o Dw);have Og:=Dw.size;have No:=Hd (aIe A9 x.all.length c9 x.all _ Nv aA);clear Nv Dw t0 t1 t2 t3 t4;exact aQg
        . obtain rfl:k=n:=by omega
          have Oc:∀f:Nd->Bool,(ns.take k).all f=ns.all f:=fun f=>by rw[Yx (by rw[Mz.o];exact Yh _)]
          have Gv:=Hd (bFv (l:=ns) (f:=iX) fun j hj=>Ok.o j (by rw[<-Mz.o];exact hj));rw[Gv.o,if_neg aG]at HE;have Od:=Gl.o;rw[Yx (by rw[List.length_map,Mz.o];exact Yh _)]at Od;obtain⟨A9,c9,rfl,Ol,_⟩:=aP.of_own Od aA;have Is:=Hd (tD A9 k c9 (ns.map Nd.nm) wr Ol aA);have Ey:=Hd (Ac.o.trans (Cf.o.mono aA));rw[Oc,Oc];clear Oc Od Ol Ba;cases hr:ns.all (gT ne bQ bH)with
          |false=>
           rw[hr]at HE;exact aEk
          |true=>
           rw[hr,if_pos rfl]at HE;cases ho:ns.all (fun n=>cH (bM n.all))with
           |false=>
            rw[ho]at HE;exact aEk
           |true=>
            rw[ho,Bool.true_and]at HE;cases hx:cH (ns.map Nd.nm)with
            |false=>
             rw[hx]at HE Is;go_wp2_with fail;refine Is.o.mono ?_;rintro e w9 ⟨rfl,md,rfl⟩;have Ey:=Hd (Ey.o.trans ((xE (m:=md)).mono Ey.o.size));exact aEk
            |true=>
             rw[hx,if_pos rfl]at HE;rw[hx]at Is;go_wp2_with fail;refine Is.o.mono ?_;rintro e w9 ⟨rfl,md,rfl⟩;have Ey:=Hd (Ey.o.trans ((xE (m:=md)).mono Ey.o.size));go_wp2_with fail;go_ret;exact⟨eL HE.o.symm,Ey.o⟩
 . rw[if_neg Ny]at HE;have de:(en==0)=false:=by rw[Xb];exact Ny
   exact zV
end
def dY{α:Type}[DecidableEq α](z:α)(f:Nat->α):Nat->α
 |0=>z
 |n+1=>if dY z f n=z then f n else dY z f n
theorem kH{α:Type}[DecidableEq α]{z:α}{f:Nat->α}:∀{n:Nat},(∀j,j<n->f j=z)->dY z f n=z
 |0,_=>rfl
 |n+1,h=>by rw[dY,if_pos (kH fun j hj=>h j aA),h n aA]
theorem lN{α:Type}[DecidableEq α]{z:α}{f:Nat->α}{k:Nat}:∀{n:Nat},k<n->(∀j,j<k->f j=z)->f k≠z->dY z f n=f k
 |0,h,_,_=>absurd h aA
 |n+1,hk,hn,hf=>by
  rw[dY];by_cases h:k<n
  . have h1:=lN h hn hf;rw[h1,if_neg hf]
  . obtain rfl:k=n:=by omega
    rw[if_pos (kH hn)]
theorem xF{α:Type}[DecidableEq α]{z:α}{f:Nat->α}:∀{n:Nat},dY z f n=z->∀j,j<n->f j=z
 |0,_,j,hj=>absurd hj aA
 |n+1,h,j,hj=>by
  rw[dY]at h;by_cases h1:dY z f n=z
  . rw[if_pos h1]at h;by_cases h2:j<n;· exact xF h1 j h2
    . obtain rfl:j=n:=by omega
      exact h
  . rw[if_neg h1]at h;exact absurd h h1
def bP(es:List En)(s:ByteArray):Option (Int × Int × Int):=
 if(s.toList==[116,114,117,101])=true then some (2,0,1)
 else if(s.toList==[102,97,108,115,101])=true then some (2,0,0)
 else(iF es s).map fun p=>(3,(p.1:Int),(p.2.1:Int))
def cI(s:ByteArray)(t:ByteArray):Bool:=t.data.toList==s.data.toList
def gA(n:Nd)(s:ByteArray):Bool:=(aZ n s).isSome
def dM(es:List En)(s:ByteArray):Bool:=(bP es s).isSome
def aB(p:Pg)(i:Nat):Nd:=p.ns[i]?.getD default
def lX(p:Pg)(i:Nat)(e:Ex):Bool:=
 if((e.k==3 || e.k==11 || e.k==12) && !gA (aB p i) e.s)=true then false
 else if e.arms.all (dM p.es)=false then false
 else if(e.k==4)=true then dM p.es e.s
 else if(e.k==13)=true then decide (0<=cY p e.s) && decide (cY p e.s<(i:Int))
 else !(e.k==17)
def lE(s:ByteArray)(l:List ByteArray):Nat:=(l.filter (cI s)).length
def nR(n:Nd)(s:ByteArray)(i j:Nat):Nat:=lE s ((n.eqs.take i).flatMap Qn.ns++((n.eqs[i]?.getD default).ns.take j))
def fP(n:Nd)(s:ByteArray)(i:Nat):Nat:=lE s ((n.eqs.take i).flatMap Qn.ns)
def mJ(n:Nd)(s:ByteArray):Bool:=n.ins.any fun d=>cI s d.nm
def kZ(n:Nd)(i:Nat)(ns:List ByteArray)(k:Nat):Int:=
 if gA n (ns[k]?.getD ByteArray.empty)=false then 5
 else if(mJ n (ns[k]?.getD ByteArray.empty) || decide (0<fP n (ns[k]?.getD ByteArray.empty) i))=true then 6
 else if(ns.take k).any (cI (ns[k]?.getD ByteArray.empty))=true then 6 else 0
def eZ(p:Pg)(i j:Nat):Int:=
 if dY (0:Int) (kZ (aB p i) j ((aB p i).eqs[j]?.getD default).ns) ((aB p i).eqs[j]?.getD default).ns.length=0
 then(if(bL ((aB p i).eqs[j]?.getD default).x).all (lX p i)=true then 0 else 5)
 else dY (0:Int) (kZ (aB p i) j ((aB p i).eqs[j]?.getD default).ns) ((aB p i).eqs[j]?.getD default).ns.length
def kV(p:Pg)(n:Nd)(d:Dc):Bool:=(d.on.toList==[]) || (gA n d.on && dM p.es d.ct)
abbrev Fl:=Int × Int × Int
def hP(p:Pg)(i j:Nat):Fl:=if eZ p i j=0 then(0,0,0)else((i:Int),(j:Int),eZ p i j)
def eN(p:Pg)(i:Nat):Fl:=
 if(aB p i).all.all (kV p (aB p i))=false then((i:Int),-1,5)
 else if dY ((0,0,0):Fl) (hP p i) (aB p i).eqs.length=(0,0,0)
 then(if((aB p i).all.drop (aB p i).ins.length).all (fun d=>decide (0<fP (aB p i) d.nm (aB p i).eqs.length))=true then(0,0,0)else((i:Int),-1,5))
 else dY ((0,0,0):Fl) (hP p i) (aB p i).eqs.length
def dR(p:Pg):Fl:=if eJ p=0 then dY ((0,0,0):Fl) (eN p) p.ns.length else(0,-1,eJ p)
end Go.Proofs.YtkbpdoomhfkngaaGreat
