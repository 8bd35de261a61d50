/- A part of the proof. Conditions: each theorem's own. -/
import Derived.Test.YtagkcjpoipcpkaaGreatDoorF04
import Derived.Test.YtagkcjpoipcpkaaGreatDoorF07
namespace Go.Proofs.YtagkcjpoipcpkaaGreatDoor
set_option linter.unusedVariables false
set_option linter.unusedSimpArgs false
set_option maxRecDepth 100000
set_option maxHeartbeats 40000000
section
open Go.RowKit
def pV(q:Qn)(A:OA)(c:Nat)(A':OA)(ca:Nat)(B':OA)(cb:Nat):Array Value:=
 #[.slice A q.ns.length c,.int .i64 q.x.k,.int .i64 q.x.n,.string q.x.s,.int .i64 q.x.op,.slice A' q.x.arms.length ca,.slice B' q.x.subs.length cb]
def OkQ(q:Qn):Prop:=(∀s∈q.ns,s.size<=maxLen)/\aT q.x<=1000000/\∀p∈bP q.x,eS p
theorem aW1(w:World)(q:Qn)(A:OA)(c:Nat)(A':OA)(ca:Nat)(B':OA)(cb:Nat)(w1:World)(h:w.alloc (.cells (pV q A c A' ca B' cb) 81)=w1)(hr:aS w A q.ns.length q.ns)(hx:aM w q.x A' B'):
 Below w.heap.size w w1/\w1.heap.size=w.heap.size+1/\aS w1 A q.ns.length q.ns/\aM w1 q.x A' B'/\∀w',Below w1.heap.size w1 w'->∀j,w'.cell? ⟨w.heap.size,j,none⟩=(pV q A c A' ca B' cb)[j]?:=by
 subst h;have hb:=(Yg w.heap.size w).alloc (Yh _) (.cells (pV q A c A' ca B' cb) 81);refine⟨hb,by simp,hr.below hb,hx.below hb,fun w' hb j=>?_⟩;rw[hb.cell (p:=⟨w.heap.size,j,none⟩) aC,Zs]
theorem aW2{ss:LB}{k:Nat}(h:k<ss.length):ss[k]?.getD ByteArray.empty∈ss:=by
 exact aJz
theorem cCg(q:Qn)(A:OA)(c:Nat)(A':OA)(ca:Nat)(B':OA)(cb:Nat)(w:World)(hr:aS w A q.ns.length q.ns)(hx:aM w q.x A' B')(Ax:OkQ q):
 Calls Tryz.prog 70 #[.agg (pV q A c A' ca B' cb)] w fun e w'=>e=.returned (.bool (jU bJ q))/\Below w.heap.size w w':=by
 have HF:=Hd fun w1 h=>aW1 w q A c A' ca B' cb w1 h hr hx;have HE:=Hd (show jU bJ q=(q.ns.all (fun s=>aQ s.data.toList) && decide (0<q.ns.length) && bJ q.x && (decide (q.ns.length=1) || q.x.k==13))from rfl);have Ng:=hr.max;have Jx:=Hd Ax;have Bs:=Hd fun w1 (h:aM w1 q.x A' B')=>aWs q.x A' ca B' cb w1 h Ax.2.1 Ax.2.2;have Aa:q.ns.length=q.ns.length:=rfl;unfold pV;unfold aJ at Bs;generalize jU bJ q=Ct at *;go_in
 go_upto_region 1 with(fail);generalize Af:w.alloc _=w1;obtain⟨Ab,hg,Ha,Aq,hcell⟩:=HF.o w1 Af;have Ac:=Hd Ab;have HC:=Hd hcell;have Bi:=Hd Ha;have Hc:=Hd Aq;simp only[pV]at HC;clear Af hcell Ab HF hr hx Ha Aq Ax;generalize Hb:q.ns=ss at *;generalize Fs:ss.length=n at *;have Le:=Hd Fs;generalize q.x.k=xk at *;generalize q.x.n=xn at *;generalize q.x.s=xs at *;generalize q.x.op=xo at *;generalize q.x.arms.length=xa at *;generalize q.x.subs.length=xb at *;clear Fs Aa;go_wp2_with fail;go_loopw [3] (fun i wr=>∃k:Nat,k<=n/\i=.int .i64 k/\((ss.take k).all fun s=>aQ s.data.toList)=true/\Below w1.heap.size w1 wr) (fun i _=>n-(intOf i).toNat)
 case atStart=>exact⟨0,Ys _,rfl,by simp,Yg _ _⟩
 case round=>
  obtain⟨k,hk,rfl,Ck,An⟩:=hrel;have HT:=Hd Ck;have Bk:=Hd An;have q0:=HC.o wr An 0;simp only[Ya,Yb,Yc]at q0;clear Ck;by_cases Ah:k<n
  . obtain⟨b,off,rfl,hb,hc⟩:=(Bi.o.below An).at_ Ah;have c0:=hc k Ah;clear hc An;have hz:=Jx.o.1 (ss[k]?.getD ByteArray.empty) (by rw[Hb];exact aW2 aQ9);have HS:=Hd fun hf=>aLj (l:=ss) (f:=fun s=>aQ s.data.toList) HT.o aQ9 hf;have HN:=Hd fun hf=>aEr (l:=ss) (f:=fun s=>aQ s.data.toList) (k:=k) aQ9 hf;unfold maxLen at hz;rw[show(default:BA)=ByteArray.empty from rfl]at HS HN;generalize ss[k]?.getD ByteArray.empty=x at c0 hz HS HN;cases hl:aQ x.data.toList with
    |true=>
     have Fl:=Hd (HS.o hl);go_wp2_with fail;refine(rV x wr aA).mono ?_;rw[hl];rintro e w2 ⟨rfl,Ag⟩;have Ai:=Hd (Bk.o.tr Ag);clear Ag;go_wp2_with fail;go_roundw;case rel=>exact⟨k+1,by omega,by go_num,Fl.o,Ai.o⟩
     case measure=>simp[intOf];omega
    |false=>
     have Di:=Hd (HN.o hl);go_wp2_with fail;refine(rV x wr aA).mono ?_;rw[hl];rintro e w2 ⟨rfl,Ag⟩;have Ai:=Hd (Bk.o.tr Ag);clear Ag;go_wp2_with fail;go_ret;exact⟨aO (by rw[HE.o,Di.o];rfl),Ac.o.trans (Ai.o.mono aA)⟩
  . obtain rfl:k=n:=by omega
    have HY:=Hd (show(ss.all fun s=>aQ s.data.toList)=true by have:=HT.o;rwa[Yz (by rw[Le.o];exact Yh _)]at this);rw[HY.o,Bool.true_and]at HE;obtain⟨-,q1,q2,q3,q4,q5⟩:=Sx (HC.o wr An);have q6:=HC.o wr An 6;simp only[Ya,Yb,Yc]at q1 q2 q3 q4 q5 q6;have Ay:=Hd (Ac.o.trans (An.mono aA));have Cn:=Hd (Bs.o wr (Hc.o.below An));clear An;rcases Nat.eq_zero_or_pos k with h0|h0
    . subst h0;go_wp2_with fail;go_ret;exact⟨aO (by rw[HE.o];simp),Ay.o⟩
    . have d0:decide ((0:Int)<(k:Int))=true:=Xc aA;rw[Xc h0,Bool.true_and]at HE;cases Ae:bJ q.x with
      |false=>
       rw[Ae]at Cn HE;go_wp2_with fail;refine Cn.o.mono ?_;rintro e w2 ⟨rfl,Ag⟩;have Ai:=Hd (fT Ay.o Ag);clear Ag;exact aJt
      |true=>
       rw[Ae,Bool.true_and]at HE;rw[Ae]at Cn;go_wp2_with fail;refine Cn.o.mono ?_;rintro e w2 ⟨rfl,Ag⟩;have Ai:=Hd (fT Ay.o Ag);have r0:=(Ag.cell (p:=⟨w.heap.size,0,none⟩) (Yi _ _ q0)).trans q0;have r1:=(Ag.cell (p:=⟨w.heap.size,1,none⟩) (Yi _ _ q1)).trans q1;clear Ag q0 q1 q2 q3 q4 q5 q6;cases d1:((k:Int)==1)with
       |true=>
        have Fm:=Hd (show Ct=true by rw[HE.o,show decide (k=1)=true by have:=eq_of_beq d1;exact Xc aA];rfl);exact bEo
       |false=>
        have Fm:=Hd (show Ct=(xk==13)by rw[HE.o,show decide (k=1)=false by have:=ne_of_beq_false d1;exact Xd aA];rfl);exact bEo
end
section
open Go.RowKit Go.Sort
def OkN(n:Nd):Prop:=n.nm.size<=maxLen/\(∀d∈n.all,tY d)/\∀q∈n.eqs,OkQ q
def uT(es io i:Nat)(d:Dc):Bool:=gD es bK d && !(decide (i<io) && !eO d.on)
theorem aEs{α:Type}[Inhabited α]{l:List α}{k:Nat}(h:k<l.length):l[k]?.getD default∈l:=by
 exact aJz
theorem bAy{n:Nd}{i:Nat}(h:i<n.ins.length+n.outs.length):n.all[i]?.getD default=(n.ins++n.outs)[i]?.getD default:=by
 rw[Nd.all,List.getElem?_append_left (by rw[Yo];exact h)]
theorem bSc{n:Nd}{es:Nat}(h:∀i,i<n.all.length->uT es (n.ins.length+n.outs.length) i (n.all[i]?.getD default)=true):(n.all.all (gD es bK) && xV n)=true:=by
 rw[Yu];constructor
 . rw[Zj];intro d hd;obtain⟨i,hi,rfl⟩:=Zm hd
   have:=h i hi
   rw[Yk hi,Yv,uT,Yu]at this;exact this.1
 . rw[xV,Zj];intro d hd;obtain⟨i,hi,rfl⟩:=Zm hd;have hl:i<n.ins.length+n.outs.length:=by rw[<-Yo];exact hi
   have:=h i (by rw[aIl];omega)
   rw[bAy hl,Yk hi,Yv,uT,Yu,Xc hl]at this;simpa using this.2
theorem bV9{n:Nd}{es i:Nat}(hi:i<n.all.length)(h:uT es (n.ins.length+n.outs.length) i (n.all[i]?.getD default)=false):(n.all.all (gD es bK) && xV n)=false:=by
 rw[Bool.and_eq_false_iff];rw[uT,Bool.and_eq_false_iff]at h;rcases h with h|h;· exact .inl (aEr hi h)
 . right;have h2:(decide (i<n.ins.length+n.outs.length) && !eO (n.all[i]?.getD default).on)=true:=nZ;rw[Yu,decide_eq_true_eq]at h2;rw[xV];refine aEr (k:=i) (by rw[Yo];exact h2.1) ?_;rw[<-bAy h2.1];simpa using h2.2
theorem vI.seven{w:World}{b o:Nat}{q:Qn}(h:vI w b o q):∃A c A' ca B' cb,aS w A q.ns.length q.ns/\aM w q.x A' B'/\
 w.cell? ⟨b,o,none⟩=some (.slice A q.ns.length c)/\w.cell? ⟨b,o+1,none⟩=some (.int .i64 q.x.k)/\w.cell? ⟨b,o+2,none⟩=some (.int .i64 q.x.n)/\w.cell? ⟨b,o+3,none⟩=some (.string q.x.s)/\w.cell? ⟨b,o+4,none⟩=some (.int .i64 q.x.op)/\
  w.cell? ⟨b,o+5,none⟩=some (.slice A' q.x.arms.length ca)/\w.cell? ⟨b,o+6,none⟩=some (.slice B' q.x.subs.length cb):=by
 obtain⟨A,c,A',ca,B',cb,h1,h2,h3,h4⟩:=h;obtain⟨r0,r1,r2,r3,r4,r5⟩:=jW h3;exact⟨A,c,A',ca,B',cb,h2,h4,h1,r0,r1,r2,r3,r4,r5⟩
theorem bWa(E:OA)(es ec:Nat)(x:Nd)(A1:OA)(c1:Nat)(A2:OA)(c2:Nat)(A3:OA)(c3:Nat)(A4:OA)(c4:Nat)(w:World)(Nl:es<=9223372036854775807)(h:gA w x A1 A2 A3 A4)(Ax:OkN x)(hn:x.all.length<=7000):
 Calls Tryz.prog 29 #[.slice E es ec,.agg (eH x A1 c1 A2 c2 A3 c3 A4 c4)] w fun e w'=>e=.returned (.bool (jQ es bK bJ x))/\Below w.heap.size w w':=by
 have HF:=Hd fun w1 hw=>uH w x A1 c1 A2 c2 A3 c3 A4 c4 w1 hw h;have HAL:=Hd fun w1 (hw:gA w1 x A1 A2 A3 A4)=>aY0 x A1 c1 A2 c2 A3 c3 A4 c4 w1 hw hn;have HE:=Hd (show jQ es bK bJ x=((x.all.all (gD es bK) && xV x) && x.eqs.all (jU bJ) && aQ x.nm.data.toList && decide (0<x.outs.length))from rfl);have No:x.ins.length+x.outs.length<=7000:=by have:=aIl x;omega
 have Hb:=Hd Ax;have Hk:=Hd (fun hh=>bSc (n:=x) (es:=es) hh);have Ey:=Hd (fun i hi hh=>bV9 (n:=x) (es:=es) (i:=i) hi hh);have Np:=aY.max h.2.2.2;have Fk:=Hd fun w1=>rV x.nm w1 (by have:=Ax.1;unfold maxLen at this;omega);unfold eH at HAL⊢;generalize jQ es bK bJ x=Nm at *;go_in
 go_upto_region 1 with(fail);generalize Af:w.alloc _=w1;obtain⟨Ab,hg,Bs,hcell⟩:=HF.o w1 Af;have Ac:=Hd Ab;have HC:=Hd hcell;obtain⟨q0,q1,q2,q3,q4,-⟩:=Sx (hcell w1 (Yg _ _));simp only[eH,List.getElem?_toArray,Zd,Ze]at HC q0 q1 q2 q3 q4;have Nj:=Hd (HAL.o w1 Bs);have Nn:=Hd (show aY 7 vI w1 A4 x.eqs.length x.eqs from Bs.2.2.2);clear Af hcell Ab HF h Bs Ax HAL;generalize hq:x.eqs=qs at *;generalize Ng:qs.length=nq at *;generalize x.ins.length=n1 at *;generalize x.outs.length=n2 at *;generalize x.vars.length=n3 at *;generalize hx:x.all=all at *;generalize Ct:all.length=na at *;have Ni:=Hd Ct;have Gr:=Hd Ng;clear Ct Ng;go_wp2_with fail;refine Nj.o.mono ?_;rintro e w2 ⟨A5,c5,rfl,Ha,Ag⟩;have Ai:=Hd (fT Ac.o Ag);have Cj:=Hd Ag;have Cn:=Hd Ha;clear Ha Ag q0 q1 q2 q3 q4;go_wp2_with fail;go_loopw [6] (fun i wr=>∃k:Nat,k<=na/\i=.int .i64 k/\(∀j,j<k->uT es (n1+n2) j (all[j]?.getD default)=true)/\Below w2.heap.size w2 wr) (fun i _=>na-(intOf i).toNat)
 case atStart=>exact⟨0,Ys _,rfl,fun j hj=>absurd hj aA,Yg _ _⟩
 case round=>
  obtain⟨k,hk,rfl,Ck,An⟩:=hrel;have HT:=Hd Ck;have Bk:=Hd An;clear Ck;by_cases Ah:k<na
  . obtain⟨b,off,rfl,hb,hc⟩:=aY.at_ (Cn.o.below An) aA;obtain⟨d0,d1,d2,d3,d4,d5⟩:=(hc k Ah).six;clear hc An;have hz:=Hb.o.2.1 (all[k]?.getD default) (by rw[hx];exact aEs (by rw[Ni.o];exact Ah));have HZ:=Hd hz;have HN:=Hd (Ey.o k Ah)
    have HS:=Hd fun(hf:uT es (n1+n2) k (all[k]?.getD default)=true)=>(show ∀ j,j<k+1->uT es (n1+n2) j (all[j]?.getD default)=true from fun j hj=>by
     rcases Nat.lt_or_ge j k with h1|h1;· exact HT.o j h1
     . obtain rfl:j=k:=by omega
       exact hf)
    clear hz;have Gy:=Hd fun(d:Dc)=>(show uT es (n1+n2) k d=(gD es bK d && !(decide (k<n1+n2) && !(d.on.toList==[])))by simp only[Zf];rfl);generalize all[k]?.getD default=d at d0 d1 d2 d3 d4 d5 HZ HN HS;have Gy:=Hd (Gy.o d);have HD:=Hd (bV3 E es ec d wr Nl HZ.o);unfold gG at HD;generalize uT es (n1+n2) k d=ob at Gy HS HN;cases h1:gD es bK d with
    |false=>
     rw[h1]at HD Gy;have Di:=Hd (HN.o aPa);go_wp2_with fail;refine HD.o.mono ?_;rintro e w3 ⟨rfl,Ak⟩;have Aj:=Hd (Bk.o.tr Ak);clear Ak;exact bDh
    |true=>
     rw[h1]at HD Gy;cases h2:decide ((k:Int)<(n1:Int)+(n2:Int))with
     |false=>
      have Fl:=Hd (HS.o (by rw[Gy.o,show decide (k<n1+n2)=false by have:=of_decide_eq_false h2;exact Xd aA];rfl));go_wp2_with fail;refine HD.o.mono ?_;rintro e w3 ⟨rfl,Ak⟩;have Aj:=Hd (Bk.o.tr Ak);have hB:=Cj.o.tr Aj.o;have q1:=HC.o w3 hB 1;have q2:=HC.o w3 hB 2;simp only[Ya,Yb,Yc]at q1 q2;clear Ak hB;exact aPk
     |true=>
      rw[show decide (k<n1+n2)=true by have:=of_decide_eq_true h2;exact Xc aA]at Gy;cases h3:(d.on.toList==[])with
      |true=>
       rw[h3]at Gy;have Fl:=Hd (HS.o aPa);go_wp2_with fail;refine HD.o.mono ?_;rintro e w3 ⟨rfl,Ak⟩;have Aj:=Hd (Bk.o.tr Ak);have hB:=Cj.o.tr Aj.o;have q1:=HC.o w3 hB 1;have q2:=HC.o w3 hB 2;have t4:=(Ak.cell (p:=⟨b,off+k*6+4,none⟩) hb).trans d4;simp only[Ya,Yb,Yc]at q1 q2;clear Ak hB d0 d1 d2 d3 d4 d5;exact aPk
      |false=>
       rw[h3]at Gy;have Di:=Hd (HN.o aPa);go_wp2_with fail;refine HD.o.mono ?_;rintro e w3 ⟨rfl,Ak⟩;have Aj:=Hd (Bk.o.tr Ak);have hB:=Cj.o.tr Aj.o;have q1:=HC.o w3 hB 1;have q2:=HC.o w3 hB 2;have t4:=(Ak.cell (p:=⟨b,off+k*6+4,none⟩) hb).trans d4;simp only[Ya,Yb,Yc]at q1 q2;clear Ak hB d0 d1 d2 d3 d4 d5;exact bDh
  . obtain rfl:k=na:=by omega
    have HY:=Hd (Hk.o fun i hi=>HT.o i hi);rw[HY.o,Bool.true_and]at HE;have Ay:=Hd (fT Ai.o An);have Dm:=Hd (Cj.o.tr An);clear An;go_wp2_with fail;go_loopw [7] (fun i wq=>∃j:Nat,j<=nq/\i=.int .i64 j/\(qs.take j).all (jU bJ)=true/\Below wr.heap.size wr wq) (fun i _=>nq-(intOf i).toNat)
    case atStart=>exact⟨0,Ys _,rfl,by simp,Yg _ _⟩
    case round=>
     obtain⟨j,hj,rfl,Ck,Aa⟩:=hrel;have Jx:=Hd Ck;have Kg:=Hd Aa;have hB:=Dm.o.tr Aa;obtain⟨q0,-,q2,-,q4,-⟩:=Sx (HC.o _ hB);simp only[Ya,Yb,Yc]at q0 q2 q4;clear Ck;by_cases Hy:j<nq
     . obtain⟨b,off,rfl,hb,hc⟩:=aY.at_ (nD.below Nn.o hB) aA;have Ae:=hc j Hy;have HS:=Hd fun hf=>aLj (l:=qs) (f:=jU bJ) Jx.o aO4 hf;have HN:=Hd fun hf=>aEr (l:=qs) (f:=jU bJ) (k:=j) aO4 hf;have HQ:=Hd (Hb.o.2.2 (qs[j]?.getD default) (by rw[hq];exact aEs aO4));clear hc Aa hB;generalize qs[j]?.getD default=q at Ae HS HN HQ;obtain⟨Aq,cq,A',ca,B',cb,Hc,Nh,r0,r1,r2,r3,r4,r5,r6⟩:=Ae.seven;have Gf:=Hd (cCg q Aq cq A' ca B' cb _ Hc Nh HQ.o);unfold pV at Gf;clear Hc Nh Ae;cases h1:jU bJ q with
       |true=>
        rw[h1]at Gf;have Fl:=Hd (HS.o h1);go_wp2_with fail;refine Gf.o.mono ?_;rintro e w3 ⟨rfl,Ak⟩;have Aj:=Hd (Kg.o.tr Ak);clear Ak;go_wp2_with fail;go_roundw;case rel=>
         exact⟨j+1,by omega,by go_num,Fl.o,Aj.o⟩
        case measure=>simp[intOf];omega
       |false=>
        rw[h1]at Gf;have Di:=Hd (HN.o h1);go_wp2_with fail;refine Gf.o.mono ?_;rintro e w3 ⟨rfl,Ak⟩;have Aj:=Hd (Kg.o.tr Ak);clear Ak;go_wp2_with fail;go_ret;exact⟨aO (by rw[HE.o,Di.o];rfl),fT Ay.o Aj.o⟩
     . obtain rfl:j=nq:=by omega
       have Nk:=Hd (show qs.all (jU bJ)=true by have:=Jx.o;rwa[Yz (by rw[Gr.o];exact Yh _)]at this);rw[Nk.o,Bool.true_and]at HE;have Fs:=Hd (fT Ay.o Aa);clear Aa hB;cases h1:aQ x.nm.data.toList with
       |false=>
        rw[h1]at HE Fk;go_wp2_with fail;refine(Fk.o _).mono ?_;rintro e w3 ⟨rfl,Ak⟩;have Aj:=Hd (fT Fs.o Ak);clear Ak;exact wM
       |true=>
        rw[h1,Bool.true_and]at HE;rw[h1]at Fk;have Fm:=Hd (show Nm=decide (0<n2)from HE.o);go_wp2_with fail;refine(Fk.o _).mono ?_;rintro e w3 ⟨rfl,Ak⟩;have Aj:=Hd (fT Fs.o Ak);have t2:=(Ak.cell (p:=⟨w.heap.size,2,none⟩) (Yi _ _ q2)).trans q2;clear Ak q0 q2 q4;go_wp2_with fail;go_ret;exact⟨aO Fm.o.symm,Aj.o⟩
def fP(p:Pg)(E:OA)(ec:Nat)(N:OA)(nc:Nat):Array Value:=#[.slice E p.es.length ec,.slice N p.ns.length nc]
def lM(w:World)(p:Pg)(E N:OA):Prop:=cQ w E p.es.length p.es/\kE w N p.ns.length p.ns
theorem lM.below{w w':World}{p:Pg}{E N:OA}(h:lM w p E N)(hb:Below w.heap.size w w'):lM w' p E N:=⟨h.1.below hb,h.2.below hb⟩
theorem xL(w:World)(p:Pg)(E:OA)(ec:Nat)(N:OA)(nc:Nat)(w1:World)(h:w.alloc (.cells (fP p E ec N nc) 26)=w1)(hr:lM w p E N):
 Below w.heap.size w w1/\w1.heap.size=w.heap.size+1/\lM w1 p E N/\∀w',Below w1.heap.size w1 w'->∀j,w'.cell? ⟨w.heap.size,j,none⟩=(fP p E ec N nc)[j]?:=by
 subst h;have hb:=(Yg w.heap.size w).alloc (Yh _) (.cells (fP p E ec N nc) 26);refine⟨hb,by simp,hr.below hb,fun w' hb j=>?_⟩;rw[hb.cell (p:=⟨w.heap.size,j,none⟩) aC,Zs]
theorem aBt{α:Type}[Inhabited α]{f:α->Bool}:∀{l:List α}{k i:Nat},k<l.length->(∀j,j<k->f (l[j]?.getD default)=false)->f (l[k]?.getD default)=true->dL f l i=((i+k:Nat):Int)
 |[],k,i,h,_,_=>by simp at h
 |a::l,0,i,_,_,h=>by
  have h:f a=true:=nZ;simp[dL,h]
 |a::l,k+1,i,hk,hn,h=>by
  have h0:f a=false:=by simpa using hn 0 aA
  rw[dL,h0,if_neg aC,aBt (k:=k) (by simpa using hk) (fun j hj=>by simpa using hn (j+1) aA) nZ];congr 1;omega
theorem aEo{α:Type}[Inhabited α]{f:α->Bool}:∀{l:List α}{i:Nat},(∀j,j<l.length->f (l[j]?.getD default)=false)->dL f l i=-1
 |[],i,_=>rfl
 |a::l,i,hn=>by
  have h0:f a=false:=by simpa using hn 0 aC
  rw[dL,h0,if_neg aC];exact aEo fun j hj=>by simpa using hn (j+1) (by simpa using hj)
theorem qF{P:Nat->Prop}{k:Nat}(h:∀j,j<k->P j)(hk:P k):∀j,j<k+1->P j:=fun j hj=>by
 rcases Nat.lt_or_ge j k with h1|h1;· exact h j h1
 . obtain rfl:j=k:=by omega
   exact hk
theorem aCm{a b:BA}(h:a.data.toList=b.data.toList):a=b:=by
 cases a;cases b;congr 1;exact Array.toList_inj.1 h
theorem aW3(a:Dc):iY a a=true:=by simp[iY]
theorem aLl(A:OA)(n c:Nat)(l:List Dc)(B:OA)(m d:Nat)(r:List Dc)(w:World)(hl:cY w A n l)(hr:cY w B m r):
 Calls Tryz.prog 63 #[.slice A n c,.slice B m d] w fun e w'=>e=.returned (.bool (gE iY l r))/\Below w.heap.size w w':=by
 have Cq:=hl.len;have Ip:=hr.len;have Aq:=hl.max;have Ae:=hr.max;by_cases Aa:n=m
 . subst Aa;have Ey:=Hd fun(i:Nat) hi hf=>aEw (f:=iY) (l:=l) (m:=r) (i:=i) (by rw[Cq];exact hi) aJl hf;have Hk:=Hd fun hf=>aEq (f:=iY) (l:=l) (m:=r) aJl (by rw[Cq];exact hf);generalize gE iY l r=Bs at *;have dn:decide ((n:Int)=(n:Int))=true:=Xc rfl;go_in
   go_wp2_with fail;go_loopw [5] (fun i wr=>∃k:Nat,k<=n/\i=.int .i64 k/\(∀j,j<k->iY (l[j]?.getD default) (r[j]?.getD default)=true)/\Below w.heap.size w wr) (fun i _=>n-(intOf i).toNat)
   case atStart=>exact⟨0,Ys _,rfl,fun j hj=>absurd hj aA,Yg _ _⟩
   case round=>
    obtain⟨k,hk,rfl,Ck,An⟩:=hrel;have HT:=Hd Ck;have Bk:=Hd An;clear Ck;by_cases Ah:k<n
    . obtain⟨b,off,rfl,hb,hc⟩:=aY.at_ (hl.below An) aA;obtain⟨b',It,rfl,Jb,Gx⟩:=aY.at_ (hr.below An) aA;obtain⟨p0,p1,p2,p3,p4,p5⟩:=(hc k Ah).six;obtain⟨q0,q1,q2,q3,q4,q5⟩:=(Gx k Ah).six;clear hc Gx An;have HN:=Hd (Ey.o k Ah);have HS:=Hd fun(hf:iY (l[k]?.getD default) (r[k]?.getD default)=true)=>qF (P:=fun j=>iY (l[j]?.getD default) (r[j]?.getD default)=true) HT.o hf;generalize l[k]?.getD default=x at p0 p1 p2 p3 p4 p5 HN HS;generalize r[k]?.getD default=y at q0 q1 q2 q3 q4 q5 HN HS;obtain⟨x0,x1,x2,x3,x4,x5⟩:=x;obtain⟨y0,y1,y2,y3,y4,y5⟩:=y;simp only at p0 p1 p2 p3 p4 p5 q0 q1 q2 q3 q4 q5;by_cases e0:x0=y0
      . subst e0;by_cases e1:x1=y1
        . subst e1;by_cases e2:x2=y2
          . subst e2;by_cases e3:x3=y3
            . subst e3;by_cases e4:x4=y4
              . subst e4;by_cases e5:x5=y5
                . subst e5;have Fl:=Hd (HS.o (aW3 _));go_upto_region 6 with(fail);go_quiet (fail);go_wp2_with fail;go_roundw;case rel=>exact⟨k+1,by omega,by go_num,Fl.o,eP Bk.o _⟩
                  case measure=>simp[intOf];omega
                . have f5:(x5.toList==y5.toList)=false:=by rw[Zf,Zf,Xf];exact fun h=>e5 (aCm h)
                  have Di:=Hd (HN.o (by have h:=f5;rw[Zf,Zf]at h;simp[iY,h]));exact aC2
              . have f4:(x4.toList==y4.toList)=false:=by rw[Zf,Zf,Xf];exact fun h=>e4 (aCm h)
                have Di:=Hd (HN.o (by have h:=f4;rw[Zf,Zf]at h;simp[iY,h]));exact aC2
            . have f3:(x3==y3)=false:=by rw[Xf];exact e3
              have Di:=Hd (HN.o (by simp[iY,f3]));exact aC2
          . have f2:(x2==y2)=false:=by rw[Xf];exact e2
            have Di:=Hd (HN.o (by simp[iY,f2]));exact aC2
        . have f1:(x1==y1)=false:=by rw[Xf];exact e1
          have Di:=Hd (HN.o (by simp[iY,f1]));exact aC2
      . have f0:(x0.toList==y0.toList)=false:=by rw[Zf,Zf,Xf];exact fun h=>e0 (aCm h)
        have Di:=Hd (HN.o (by have h:=f0;rw[Zf,Zf]at h;simp[iY,h]));exact aC2
    . exact bCf
 . have dn:decide ((n:Int)=(m:Int))=false:=Xd aA;have dm:((n:Int)==(m:Int))=false:=aDp;have HE:=Hd (aEp (f:=iY) (l:=l) (m:=r) (by rw[Cq,Ip];exact Aa));exact bD8
end
section
open Go.RowKit Go.Sort Go.BigFrame
def pW(a b:En):Bool:=(a.1.data.toList==b.1.data.toList) && jD a.2 b.2
theorem enD(es:List En)(i:Nat):es[i]?.getD default=(cM es i,cH es i):=by
 unfold cM cH;cases es[i]?<;>rfl
theorem bOa(A:OA)(n c:Nat)(l:List En)(B:OA)(m d:Nat)(r:List En)(w:World)(hl:cQ w A n l)(hr:cQ w B m r):
 Calls Tryz.prog 23 #[.slice A n c,.slice B m d] w fun e w'=>e=.returned (.bool (gE pW l r))/\Below w.heap.size w w':=by
 have Cq:=hl.len;have Ip:=hr.len;have Ct:=hl.max;have Bs:=hr.max;by_cases Aa:n=m
 . subst Aa;have Ey:=Hd fun(i:Nat) hi hf=>aEw (f:=pW) (l:=l) (m:=r) (i:=i) (by rw[Cq];exact hi) aJl hf;have Hk:=Hd fun hf=>aEq (f:=pW) (l:=l) (m:=r) aJl (by rw[Cq];exact hf);generalize gE pW l r=Fs at *;have dn:decide ((n:Int)=(n:Int))=true:=Xc rfl;go_in
   go_wp2_with fail;go_loopw [5] (fun i wr=>∃k:Nat,k<=n/\i=.int .i64 k/\(∀j,j<k->pW (l[j]?.getD default) (r[j]?.getD default)=true)/\Below w.heap.size w wr) (fun i _=>n-(intOf i).toNat)
   case atStart=>exact⟨0,Ys _,rfl,fun j hj=>absurd hj aA,Yg _ _⟩
   case round=>
    obtain⟨k,hk,rfl,Ck,An⟩:=hrel;have HT:=Hd Ck;have Bk:=Hd An;clear Ck;by_cases Ah:k<n
    . obtain⟨b,off,rfl,hb,hc⟩:=(hl.below An).at_ Ah;obtain⟨b',It,rfl,Jb,Gx⟩:=(hr.below An).at_ Ah;obtain⟨p0,A1,n1,c1,p1,Aq⟩:=hc k Ah;obtain⟨q0,A2,n2,c2,q1,Ae⟩:=Gx k Ah;clear hc Gx An;have HN:=Hd (Ey.o k Ah);have HS:=Hd fun(hf:pW (l[k]?.getD default) (r[k]?.getD default)=true)=>qF (P:=fun j=>pW (l[j]?.getD default) (r[j]?.getD default)=true) HT.o hf;rw[enD,enD]at HN HS;have Gf:=Hd (show pW (cM l k,cH l k) (cM r k,cH r k)=((cM l k).toList==(cM r k).toList && jD (cH l k) (cH r k))by simp only[Zf];rfl);rw[Gf.o]at HN HS;clear Gf;have Bi:=Hd Aq;have Cn:=Hd Ae;clear Aq Ae;generalize cM l k=x at p0 HN HS;generalize cM r k=y at q0 HN HS;generalize cH l k=ss at Bi HN HS;generalize cH r k=tt at Cn HN HS;have Eo:=Hd fun d os=>Zx wr d os;cases h1:(x.toList==y.toList)with
      |false=>
       have Di:=Hd (HN.o (by rw[h1];rfl));go_upto_region 6 with(fail);have l0:=fun d os=>Zw p0 d os;have l1:=fun d os=>Zw p1 d os;have l2:=fun d os=>Zw q0 d os;have l3:=fun d os=>Zw q1 d os;have cA:=fun d os=>Zl (aEv A1 A2 n1 n2 c1 c2 ss tt (grow (redrawn wr d) os) (Bi.o.below (Zx wr d os)) (Cn.o.below (Zx wr d os)));clear cA;refine Xe aE aE ?_;repeat (go_big_quiet_step (fail))
       refine Xk ?_;intro _ Ch;obtain⟨⟨dq,Bj⟩,Az⟩:=Ch;subst Az;have Aj:=Hd (Bk.o.trans ((Eo.o dq Bj).mono Bk.o.size));clear l0 l1 l2 l3;exact bEz
      |true=>
       cases h2:jD ss tt with
       |false=>
        have Di:=Hd (HN.o (by rw[h1,h2];rfl));go_upto_region 6 with(fail);have l0:=fun d os=>Zw p0 d os;have l1:=fun d os=>Zw p1 d os;have l2:=fun d os=>Zw q0 d os;have l3:=fun d os=>Zw q1 d os;have cA:=fun d os=>Zl (aEv A1 A2 n1 n2 c1 c2 ss tt (grow (redrawn wr d) os) (Bi.o.below (Zx wr d os)) (Cn.o.below (Zx wr d os)));simp only[h2]at cA;refine Xe aE aE ?_;repeat (go_big_quiet_step (exact cA _ _))
        refine Xk ?_;intro _ Ch;obtain⟨⟨dq,Bj⟩,Az⟩:=Ch;subst Az;have Aj:=Hd (Bk.o.trans ((Eo.o dq Bj).mono Bk.o.size));clear cA l0 l1 l2 l3;exact bEz
       |true=>
        have Fl:=Hd (HS.o (by rw[h1,h2];rfl));go_upto_region 6 with(fail);have l0:=fun d os=>Zw p0 d os;have l1:=fun d os=>Zw p1 d os;have l2:=fun d os=>Zw q0 d os;have l3:=fun d os=>Zw q1 d os;have cA:=fun d os=>Zl (aEv A1 A2 n1 n2 c1 c2 ss tt (grow (redrawn wr d) os) (Bi.o.below (Zx wr d os)) (Cn.o.below (Zx wr d os)));simp only[h2]at cA;refine Xe aE aE ?_;repeat (go_big_quiet_step (exact cA _ _))
        refine Xk ?_;intro _ Ch;obtain⟨⟨dq,Bj⟩,Az⟩:=Ch;subst Az;have Aj:=Hd (Bk.o.trans ((Eo.o dq Bj).mono Bk.o.size));clear cA l0 l1 l2 l3;exact aPk
    . exact bCf
 . have dm:((n:Int)==(m:Int))=false:=by rw[Xf];omega
   have HE:=Hd (aEp (f:=pW) (l:=l) (m:=r) (by rw[Cq,Ip];exact Aa));exact bD8
def tZ(a b:Qn):Bool:=jD a.ns b.ns && pL a.x b.x
def pX(a b:Nd):Bool:=(a.nm.data.toList==b.nm.data.toList) && gE iY a.ins b.ins && gE iY a.outs b.outs && gE iY a.vars b.vars && gE tZ a.eqs b.eqs
theorem bKe(x:Nd)(A1:OA)(c1:Nat)(A2:OA)(c2:Nat)(A3:OA)(c3:Nat)(A4:OA)(c4:Nat)(y:Nd)(B1:OA)(d1:Nat)(B2:OA)(d2:Nat)(B3:OA)(d3:Nat)(B4:OA)(d4:Nat)(w:World)
 (h:gA w x A1 A2 A3 A4)(h':gA w y B1 B2 B3 B4):
 Calls Tryz.prog 24 #[.agg (eH x A1 c1 A2 c2 A3 c3 A4 c4),.agg (eH y B1 d1 B2 d2 B3 d3 B4 d4)] w fun e w'=>e=.returned (.bool (pX x y))/\Below w.heap.size w w':=by
 have HF:=Hd fun w1 hw=>uH w x A1 c1 A2 c2 A3 c3 A4 c4 w1 hw h;have Gt:=Hd fun w1 w2 hw (hb:Below w.heap.size w w1)=>uH w1 y B1 d1 B2 d2 B3 d3 B4 d4 w2 hw (h'.below hb);have HE:=Hd (show pX x y=((x.nm.toList==y.nm.toList) && gE iY x.ins y.ins && gE iY x.outs y.outs && gE iY x.vars y.vars && gE tZ x.eqs y.eqs)by simp only[Zf];rfl);have Gs:=Hd fun w1 a b=>aLl A1 x.ins.length c1 x.ins B1 y.ins.length d1 y.ins w1 a b;have Ni:=Hd fun w1 a b=>aLl A2 x.outs.length c2 x.outs B2 y.outs.length d2 y.outs w1 a b;have Fi:=Hd fun w1 a b=>aLl A3 x.vars.length c3 x.vars B3 y.vars.length d3 y.vars w1 a b;have Ey:=Hd fun(i:Nat) hi hl hf=>aEw (f:=tZ) (l:=x.eqs) (m:=y.eqs) (i:=i) hi hl hf;have Hk:=Hd fun hl hf=>aEq (f:=tZ) (l:=x.eqs) (m:=y.eqs) hl hf;have Fe:=Hd fun hl=>aEp (f:=tZ) (l:=x.eqs) (m:=y.eqs) hl;have Oc:=aY.max h.2.2.2;have Oa:=aY.max h'.2.2.2;unfold eH;generalize pX x y=Oe at *;go_in
 go_upto_region 1 with(fail);generalize Af:w.alloc _=w1;obtain⟨Ab,hg,Ha,hcell⟩:=HF.o w1 Af;generalize Hc:w1.alloc _=w2;obtain⟨Ag,hg2,Fs,Am⟩:=Gt.o w1 w2 Hc Ab;rw[hg]at hg2;have Ai:=Hd (fT Ab Ag);have HX:=Hd fun w' (hb:Below w2.heap.size w2 w') j=>(show w'.cell? ⟨w.heap.size,j,none⟩=(eH x A1 c1 A2 c2 A3 c3 A4 c4)[j]? from hcell w' (Ag.tr hb) j);have HY:=Hd fun w' (hb:Below w2.heap.size w2 w') j=>(show w'.cell? ⟨w.heap.size+1,j,none⟩=(eH y B1 d1 B2 d2 B3 d3 B4 d4)[j]? by rw[<-hg];exact Am w' hb j);have Aa:=Hd (Ha.below Ag);have Ae:=Hd Fs;have Ct:=Hd (show aY 7 vI w2 A4 x.eqs.length x.eqs from(Ha.below Ag).2.2.2);have Bs:=Hd (show aY 7 vI w2 B4 y.eqs.length y.eqs from Fs.2.2.2);simp only[eH]at HX HY;clear Af Hc hcell Am Ab Ag HF Gt h h' Ha Fs;have Ay:=Hd (Yg w2.heap.size w2);generalize x.nm=s at *;generalize y.nm=t at *;generalize Of:x.eqs=qs at *;generalize Od:y.eqs=rs at *;generalize An:qs.length=n at *;generalize Ob:rs.length=m at *;have p0:=HX.o w2 Ay.o 0;have q0:=HY.o w2 Ay.o 0;have p1:=HX.o w2 Ay.o 1;have q1:=HY.o w2 Ay.o 1;simp only[Ya,Yb,Yc]at p0 q0 p1 q1;cases e0:(s.toList==t.toList)with
 |false=>
  have HB:=Hd Ai.o;rw[e0]at HE;exact aC3
 |true=>
  rw[e0]at HE;cases e1:gE iY x.ins y.ins with
  |false=>
   rw[e1]at HE;go_wp2_with fail;refine(Gs.o w2 (cY.below Aa.o.1 Ay.o) (cY.below Ae.o.1 Ay.o)).mono ?_;rw[e1];rintro e v1 ⟨rfl,hb⟩;have Ay:=Hd (Ay.o.tr hb);have HB:=Hd (Ai.o.tr Ay.o);clear hb p1 q1;clear p0 q0;exact aC3
  |true=>
   rw[e1,Bool.and_true]at HE;go_wp2_with fail;refine(Gs.o w2 (cY.below Aa.o.1 Ay.o) (cY.below Ae.o.1 Ay.o)).mono ?_;rw[e1];rintro e v1 ⟨rfl,hb⟩;have Ay:=Hd (Ay.o.tr hb);have HB:=Hd (Ai.o.tr Ay.o);clear hb p1 q1;clear p0 q0;have p2:=HX.o v1 Ay.o 2;have q2:=HY.o v1 Ay.o 2;simp only[Ya,Yb,Yc]at p2 q2;cases e2:gE iY x.outs y.outs with
   |false=>
    rw[e2]at HE;go_wp2_with fail;refine(Ni.o v1 (cY.below Aa.o.2.1 Ay.o) (cY.below Ae.o.2.1 Ay.o)).mono ?_;rw[e2];rintro e v2 ⟨rfl,hb⟩;have Ay:=Hd (Ay.o.tr hb);have HB:=Hd (Ai.o.tr Ay.o);clear hb p2 q2;exact aC3
   |true=>
    rw[e2,Bool.and_true]at HE;go_wp2_with fail;refine(Ni.o v1 (cY.below Aa.o.2.1 Ay.o) (cY.below Ae.o.2.1 Ay.o)).mono ?_;rw[e2];rintro e v2 ⟨rfl,hb⟩;have Ay:=Hd (Ay.o.tr hb);have HB:=Hd (Ai.o.tr Ay.o);clear hb p2 q2;have p3:=HX.o v2 Ay.o 3;have q3:=HY.o v2 Ay.o 3;simp only[Ya,Yb,Yc]at p3 q3;cases e3:gE iY x.vars y.vars with
    |false=>
     rw[e3]at HE;go_wp2_with fail;refine(Fi.o v2 (cY.below Aa.o.2.2.1 Ay.o) (cY.below Ae.o.2.2.1 Ay.o)).mono ?_;rw[e3];rintro e v3 ⟨rfl,hb⟩;have Ay:=Hd (Ay.o.tr hb);have HB:=Hd (Ai.o.tr Ay.o);clear hb p3 q3;exact aC3
    |true=>
     rw[e3,Bool.and_true]at HE;go_wp2_with fail;refine(Fi.o v2 (cY.below Aa.o.2.2.1 Ay.o) (cY.below Ae.o.2.2.1 Ay.o)).mono ?_;rw[e3];rintro e v3 ⟨rfl,hb⟩;have Ay:=Hd (Ay.o.tr hb);have HB:=Hd (Ai.o.tr Ay.o);clear hb p3 q3;have p4:=HX.o v3 Ay.o 4;have q4:=HY.o v3 Ay.o 4;simp only[Ya,Yb,Yc]at p4 q4;by_cases Aq:n=m
     . have dm:((n:Int)==(m:Int))=true:=by rw[beq_iff_eq];omega
       have Aq:n=m:=aA;subst Aq;have Kz:=Hd Ay.o;go_wp2_with fail;go_loopw [5] (fun i wr=>∃k:Nat,k<=n/\i=.int .i64 k/\(∀j,j<k->tZ (qs[j]?.getD default) (rs[j]?.getD default)=true)/\Below w2.heap.size w2 wr) (fun i _=>n-(intOf i).toNat)
       case atStart=>exact⟨0,Ys _,rfl,fun j hj=>absurd hj aA,Kz.o⟩
       case round=>
        obtain⟨k,hk,rfl,Ck,An⟩:=hrel;have HT:=Hd Ck;have Bk:=Hd An;have p4:=HX.o wr An 4;have q4:=HY.o wr An 4;simp only[Ya,Yb,Yc]at p4 q4;clear Ck;by_cases Ah:k<n
        . obtain⟨b,off,rfl,hb,hc⟩:=aY.at_ (nD.below Ct.o An) aA;obtain⟨b',It,rfl,Jb,Gx⟩:=aY.at_ (nD.below Bs.o An) aA;have Bz:=hc k Ah;have Ci:=Gx k Ah;clear hc Gx An;have HN:=Hd (Ey.o k Ah lY);have HS:=Hd fun(hf:tZ (qs[k]?.getD default) (rs[k]?.getD default)=true)=>qF (P:=fun j=>tZ (qs[j]?.getD default) (rs[j]?.getD default)=true) HT.o hf;have Gf:=Hd fun(a b:Qn)=>(show tZ a b=(jD a.ns b.ns && pL a.x b.x)from rfl);generalize qs[k]?.getD default=qa at Bz HN HS;generalize rs[k]?.getD default=qb at Ci HN HS;rw[Gf.o]at HN HS;clear Gf;obtain⟨A6,c6,A7,c7,A8,c8,Bf,Hb,Nm,Nx,Nv,No,Np,Nj,Nt⟩:=Bz.seven;obtain⟨B6,d6,B7,d7,B8,d8,Jx,Nh,Nz,Ny,Nl,Ns,Nk,Nr,Nn⟩:=Ci.seven;have Nu:=Hd Bf;have De:=Hd Jx;have Nq:=Hd Hb;have Nw:=Hd Nh;have Ng:=Hd fun w1 a b=>bVl qa.x A7 c7 A8 c8 qb.x B7 d7 B8 d8 w1 a b;have Eo:=Hd fun d os=>Zx wr d os;unfold aJ at Ng;clear Bf Jx Hb Nh Bz Ci;go_upto_region 6 with(fail);have Lo:=fun d os=>Zw Nm d os;have Ll:=fun d os=>Zw Nz d os;have Lg:=fun d os=>Zw Nx d os;have Lf:=fun d os=>Zw Ny d os;have Lh:=fun d os=>Zw Nv d os;have Km:=fun d os=>Zw Nl d os;have Lm:=fun d os=>Zw No d os;have Kk:=fun d os=>Zw Ns d os;have Lr:=fun d os=>Zw Np d os;have Jz:=fun d os=>Zw Nk d os;have Mn:=fun d os=>Zw Nj d os;have Mt:=fun d os=>Zw Nr d os;have Mq:=fun d os=>Zw Nt d os;have Ms:=fun d os=>Zw Nn d os;have lx:=fun d os=>Zw p4 d os;have ly:=fun d os=>Zw q4 d os;have cA:=fun d os=>Zl (aEv A6 B6 qa.ns.length qb.ns.length c6 d6 qa.ns qb.ns (grow (redrawn wr d) os) (Nu.o.below (Zx wr d os)) (De.o.below (Zx wr d os)));have cB:=fun d os=>Zl (Ng.o (grow (redrawn wr d) os) (Nq.o.below (Zx wr d os)) (Nw.o.below (Zx wr d os)));cases g1:jD qa.ns qb.ns with
          |false=>
           have Di:=Hd (HN.o (by rw[g1];rfl));simp only[g1]at cA;exact bGs
          |true=>
           simp only[g1]at cA;cases g2:pL qa.x qb.x with
           |false=>
            have Di:=Hd (HN.o (by rw[g1,g2];rfl));simp only[g2]at cB;exact bGs
           |true=>
            have Fl:=Hd (HS.o (by rw[g1,g2];rfl));simp only[g2]at cB;refine Xe aE aE ?_;repeat (go_big_quiet_step (first|with_reducible exact cA _ _|with_reducible exact cB _ _))
            refine Xk ?_;intro _ Ch;obtain⟨⟨dq,Bj⟩,Az⟩:=Ch;subst Az;have Bk:=Hd (Bk.o.trans ((Eo.o dq Bj).mono Bk.o.size));clear Lo Ll Lg Lf Lh Km Lm Kk Lr Jz Mn Mt Mq Ms lx ly cA cB;exact bCw
        . obtain rfl:k=n:=by omega
          have HQ:=Hd (Hk.o lY fun i hi=>HT.o i hi);rw[HQ.o]at HE;have HB:=Hd (Ai.o.tr Bk.o);exact aC3
     . have dm:((n:Int)==(m:Int))=false:=by rw[Xf];omega
       have HL:=Hd (Fe.o Aq);rw[HL.o]at HE;exact aC3
def eqP(a b:Pg):Bool:=gE pW a.es b.es && gE pX a.ns b.ns
theorem xA.five{w:World}{b o:Nat}{x:Nd}(h:xA w b o x):∃A1 c1 A2 c2 A3 c3 A4 c4,gA w x A1 A2 A3 A4/\
 w.cell? ⟨b,o,none⟩=some (.string x.nm)/\w.cell? ⟨b,o+1,none⟩=some (.slice A1 x.ins.length c1)/\w.cell? ⟨b,o+2,none⟩=some (.slice A2 x.outs.length c2)/\w.cell? ⟨b,o+3,none⟩=some (.slice A3 x.vars.length c3)/\w.cell? ⟨b,o+4,none⟩=some (.slice A4 x.eqs.length c4):=by
 obtain⟨A1,c1,A2,c2,A3,c3,A4,c4,h1,h2⟩:=h;obtain⟨d0,d1,d2,d3,d4⟩:=aM6 h1;exact⟨A1,c1,A2,c2,A3,c3,A4,c4,h2,d0,d1,d2,d3,d4⟩
theorem bSd(p:Pg)(E:OA)(ec:Nat)(N:OA)(nc:Nat)(q:Pg)(E':OA)(Aa:Nat)(N':OA)(Bs:Nat)(w:World)(h:lM w p E N)(h':lM w q E' N'):
 Calls Tryz.prog 9 #[.agg (fP p E ec N nc),.agg (fP q E' Aa N' Bs)] w fun e w'=>e=.returned (.bool (eqP p q))/\Below w.heap.size w w':=by
 have HF:=Hd fun w1 hw=>xL w p E ec N nc w1 hw h;have Gt:=Hd fun w1 w2 hw (hb:Below w.heap.size w w1)=>xL w1 q E' Aa N' Bs w2 hw (h'.below hb);have HE:=Hd (show eqP p q=(gE pW p.es q.es && gE pX p.ns q.ns)from rfl);have Gs:=Hd fun w1 a b=>bOa E p.es.length ec p.es E' q.es.length Aa q.es w1 a b;have Ey:=Hd fun(i:Nat) hi hl hf=>aEw (f:=pX) (l:=p.ns) (m:=q.ns) (i:=i) hi hl hf;have Hk:=Hd fun hl hf=>aEq (f:=pX) (l:=p.ns) (m:=q.ns) hl hf;have Fe:=Hd fun hl=>aEp (f:=pX) (l:=p.ns) (m:=q.ns) hl;have Nw:=aY.max h.2;have Nu:=aY.max h'.2;unfold fP;generalize eqP p q=Ny at *;go_in
 go_upto_region 1 with(fail);generalize Af:w.alloc _=w1;obtain⟨Ab,hg,Ha,hcell⟩:=HF.o w1 Af;generalize Hc:w1.alloc _=w2;obtain⟨Ag,hg2,Fs,Am⟩:=Gt.o w1 w2 Hc Ab;rw[hg]at hg2;have Ai:=Hd (fT Ab Ag);have HX:=Hd fun w' (hb:Below w2.heap.size w2 w') j=>(show w'.cell? ⟨w.heap.size,j,none⟩=(fP p E ec N nc)[j]? from hcell w' (Ag.tr hb) j);have HY:=Hd fun w' (hb:Below w2.heap.size w2 w') j=>(show w'.cell? ⟨w.heap.size+1,j,none⟩=(fP q E' Aa N' Bs)[j]? by rw[<-hg];exact Am w' hb j);have Jy:=Hd (Ha.below Ag).1;have Nh:=Hd Fs.1;have Ct:=Hd (show aY 5 xA w2 N p.ns.length p.ns from(Ha.below Ag).2);have Aq:=Hd (show aY 5 xA w2 N' q.ns.length q.ns from Fs.2);simp only[fP]at HX HY;clear Af Hc hcell Am Ab Ag HF Gt h h' Ha Fs;have Ay:=Hd (Yg w2.heap.size w2);generalize Nz:p.ns=qs at *;generalize Nx:q.ns=rs at *;generalize An:qs.length=n at *;generalize Nv:rs.length=m at *;have p0:=HX.o w2 Ay.o 0;have q0:=HY.o w2 Ay.o 0;simp only[Ya,Yb,Yc]at p0 q0;cases e1:gE pW p.es q.es with
 |false=>
  rw[e1]at HE;go_wp2_with fail;refine(Gs.o w2 Jy.o Nh.o).mono ?_;rw[e1];rintro e v1 ⟨rfl,hb⟩;have Ay:=Hd hb;have HB:=Hd (Ai.o.tr Ay.o);clear hb p0 q0;exact bDf
 |true=>
  rw[e1,Bool.true_and]at HE;go_wp2_with fail;refine(Gs.o w2 Jy.o Nh.o).mono ?_;rw[e1];rintro e v1 ⟨rfl,hb⟩;have Ay:=Hd hb;have HB:=Hd (Ai.o.tr Ay.o);clear hb p0 q0;have p1:=HX.o v1 Ay.o 1;have q1:=HY.o v1 Ay.o 1;simp only[Ya,Yb,Yc]at p1 q1;by_cases Ae:n=m
  . have dm:((n:Int)==(m:Int))=true:=by rw[beq_iff_eq];omega
    have Ae:n=m:=aA;subst Ae;go_wp2_with fail;go_loopw [5] (fun i wr=>∃k:Nat,k<=n/\i=.int .i64 k/\(∀j,j<k->pX (qs[j]?.getD default) (rs[j]?.getD default)=true)/\Below w2.heap.size w2 wr) (fun i _=>n-(intOf i).toNat)
    case atStart=>exact⟨0,Ys _,rfl,fun j hj=>absurd hj aA,Ay.o⟩
    case round=>
     obtain⟨k,hk,rfl,Ck,An⟩:=hrel;have HT:=Hd Ck;have Bk:=Hd An;have p4:=HX.o wr An 1;have q4:=HY.o wr An 1;simp only[Ya,Yb,Yc]at p4 q4;clear Ck;by_cases Ah:k<n
     . obtain⟨b,off,rfl,hb,hc⟩:=aY.at_ (kE.below Ct.o An) aA;obtain⟨b',It,rfl,Jb,Gx⟩:=aY.at_ (kE.below Aq.o An) aA;have Bz:=hc k Ah;have Ci:=Gx k Ah;clear hc Gx An;have HN:=Hd (Ey.o k Ah lY);have HS:=Hd fun(hf:pX (qs[k]?.getD default) (rs[k]?.getD default)=true)=>qF (P:=fun j=>pX (qs[j]?.getD default) (rs[j]?.getD default)=true) HT.o hf;generalize qs[k]?.getD default=qa at Bz HN HS;generalize rs[k]?.getD default=qb at Ci HN HS;obtain⟨A1,c1,A2,c2,A3,c3,A4,c4,Hb,Nk,Nr,Np,Nl,Nm⟩:=Bz.five;obtain⟨B1,d1,B2,d2,B3,d3,B4,d4,Ng,Nt,Ns,Nj,No,Ni⟩:=Ci.five;have Nn:=Hd Hb;have Nq:=Hd Ng;have Jx:=Hd fun w1 a b=>bKe qa A1 c1 A2 c2 A3 c3 A4 c4 qb B1 d1 B2 d2 B3 d3 B4 d4 w1 a b;have Eo:=Hd fun d os=>Zx wr d os;unfold eH at Jx;clear Hb Ng Bz Ci;go_upto_region 6 with(fail);have Lo:=fun d os=>Zw Nk d os;have Ll:=fun d os=>Zw Nt d os;have Lg:=fun d os=>Zw Nr d os;have Lf:=fun d os=>Zw Ns d os;have Lh:=fun d os=>Zw Np d os;have Km:=fun d os=>Zw Nj d os;have Lm:=fun d os=>Zw Nl d os;have Kk:=fun d os=>Zw No d os;have Lr:=fun d os=>Zw Nm d os;have Jz:=fun d os=>Zw Ni d os;have lx:=fun d os=>Zw p4 d os;have ly:=fun d os=>Zw q4 d os;have cA:=fun d os=>Zl (Jx.o (grow (redrawn wr d) os) (Nn.o.below (Zx wr d os)) (Nq.o.below (Zx wr d os)));cases g1:pX qa qb with
       |false=>
        have Di:=Hd (HN.o g1);simp only[g1]at cA;rw[Di.o]at HE;refine Xe aE aE ?_;repeat (go_big_quiet_step (with_reducible exact cA _ _))
        refine Xk ?_;intro _ Ch;obtain⟨⟨dq,Bj⟩,Az⟩:=Ch;subst Az;have Bk:=Hd (Bk.o.trans ((Eo.o dq Bj).mono Bk.o.size));clear Lo Ll Lg Lf Lh Km Lm Kk Lr Jz lx ly cA;exact bCj
       |true=>
        have Fl:=Hd (HS.o g1);simp only[g1]at cA;refine Xe aE aE ?_;repeat (go_big_quiet_step (with_reducible exact cA _ _))
        refine Xk ?_;intro _ Ch;obtain⟨⟨dq,Bj⟩,Az⟩:=Ch;subst Az;have Bk:=Hd (Bk.o.trans ((Eo.o dq Bj).mono Bk.o.size));clear Lo Ll Lg Lf Lh Km Lm Kk Lr Jz lx ly cA;exact bCw
     . obtain rfl:k=n:=by omega
       have HQ:=Hd (Hk.o lY fun i hi=>HT.o i hi);rw[HQ.o]at HE;exact bCj
  . have dm:((n:Int)==(m:Int))=false:=by rw[Xf];omega
    have HL:=Hd (Fe.o Ae);rw[HL.o]at HE;exact bDf
end
section
open Go.RowKit Go.Sort
def uU(q:Qn):Prop:=q.ns.length<=20/\tJ q.x=true/\∀j,j<q.ns.length->(q.ns[j]?.getD ByteArray.empty).size<=100
def pN(n:Nd):Prop:=mZ n.ins=true/\mZ n.outs=true/\mZ n.vars=true/\n.eqs.length<=30/\n.nm.size<=100/\∀j,j<n.eqs.length->uU (n.eqs[j]?.getD default)
def qN(p:Pg):Prop:=qK p.es/\p.ns.length<=10/\∀j,j<p.ns.length->pN (p.ns[j]?.getD default)
def aOo(w:World)(p:Pg)(e:Ending)(w':World):Prop:=∃b,e=.returned (.bool b)/\(b=true->qN p)/\Below w.heap.size w w'
theorem bOb{w w':World}(p:Pg)(hb:Below w.heap.size w w'):aOo w p (.returned (.bool false)) w':=⟨false,rfl,fun h=>aFw,hb⟩
theorem aMl{w:World}{zc cs:AV}{T:TypeId}{w4:World}(hw:(w.alloc (.cells zc T)).setRow w.heap.size cs=w4):
 Below w.heap.size w w4/\w.heap.size<w4.heap.size/\∀w',Below w4.heap.size w4 w'->∀j,w'.cell? ⟨w.heap.size,j,none⟩=cs[j]?:=by
 have h1:w4.heap[w.heap.size]?=some (.cells cs T):=by
  rw[<-hw];exact Xh _ _ _ _ _ _ (Xa _ _)
 have Ah:w.heap.size<w4.heap.size:=(Ym.1 h1).1;refine⟨?_,Ah,fun w' hb j=>?_⟩
 . rw[<-hw];exact Xg ((Yg _ _).alloc (Yh _) _) (Yh _) cs
 . rw[hb.cell (p:=⟨w.heap.size,j,none⟩) Ah];unfold World.cell?;rw[show w4.heap[(⟨w.heap.size,j,none⟩:Addr).block]?=_ from h1];rfl
theorem bAz:(Tryz.prog.info? 69).map (·.size)=some 5:=aE
theorem bZ1:(Tryz.prog.info? 81).map (·.size)=some 7:=aE
theorem bLv(p:Pg)(E:OA)(ec:Nat)(N:OA)(nc:Nat)(w:World)(h:lM w p E N):
 Calls Tryz.prog 11 #[.agg (fP p E ec N nc)] w (aOo w p):=by
 have HF:=Hd fun w1 hw=>xL w p E ec N nc w1 hw h;have Of:=Hd fun w1 a=>bLm E p.es.length ec p.es w1 a;have Ha:=Hd fun A n c l w1 a=>bV1 A n c l w1 a;have Nt:=Hd fun x A ca B cb w1 a=>bRe x A ca B cb w1 a;have Pu:=aY.max h.2;have Ox:=Hd (show qK p.es->p.ns.length<=10->(∀j,j<p.ns.length->pN (p.ns[j]?.getD default))->qN p from fun a b c=>⟨a,b,c⟩);have Ey:=Hd fun w' hb=>bOb (w:=w) (w':=w') p hb;have Oo:=Hd fun w' (hb:Below w.heap.size w w')(ht:qN p)=>(show aOo w p (.returned (.bool true)) w' from⟨true,rfl,fun _=>ht,hb⟩);unfold fP;unfold aJ at Nt;generalize qN p=TP at *;go_in
 go_upto_region 1 with(fail);generalize Af:w.alloc _=w1;obtain⟨Ab,hg,No,hcell⟩:=HF.o w1 Af;have Ac:=Hd Ab;have HC:=Hd hcell;have Oq:=Hd No.1;have Pi:=Hd (show aY 5 xA w1 N p.ns.length p.ns from No.2);simp only[fP]at HC;have q0:=HC.o w1 (Yg _ _) 0;have q1:=HC.o w1 (Yg _ _) 1;simp only[Ya,Yb,Yc]at q0 q1;clear Af hcell Ab HF h No;generalize Pk:p.ns=ns at *;generalize Pm:ns.length=n at *;clear Pm Pk;go_wp2_with fail;refine(Of.o w1 Oq.o).mono ?_;rintro e w2 ⟨be,rfl,Oe,rfl⟩;cases be with
 |false=>
  go_wp2_with fail;go_ret;exact Ey.o w1 Ac.o
 |true=>
  have Oy:=Hd (Oe rfl);clear Oe;by_cases Pp:10<n
  . go_wp2_with fail;go_ret;exact Ey.o w1 Ac.o
  . have Pz:decide ((10:Int)<(n:Int))=false:=Xd aA;go_wp2_with fail;go_loopw [3] (fun i wr=>∃k:Nat,k<=n/\i=.int .i64 k/\(∀j,j<k->pN (ns[j]?.getD default))/\Below w1.heap.size w1 wr) (fun i _=>n-(intOf i).toNat)
    case atStart=>exact⟨0,Ys _,rfl,fun j hj=>absurd hj aA,Yg _ _⟩
    case round=>
     obtain⟨k,hk,rfl,Ck,An⟩:=hrel;have HT:=Hd Ck;have Bk:=Hd An;have hz:=An.size;have q1:=HC.o wr An 1;simp only[Ya,Yb,Yc]at q1;clear Ck;by_cases Ah:k<n
     . obtain⟨b,off,rfl,hb,hc⟩:=aY.at_ (kE.below Pi.o An) aA;have Nl:=hc k Ah;clear hc An;have HS:=Hd fun(hf:pN (ns[k]?.getD default))=>qF (P:=fun j=>pN (ns[j]?.getD default)) HT.o hf;generalize ns[k]?.getD default=x at Nl HS;have Nn:=Hd (show mZ x.ins=true->mZ x.outs=true->mZ x.vars=true->x.eqs.length<=30->x.nm.size<=100->(∀j,j<x.eqs.length->uU (x.eqs[j]?.getD default))->pN x from fun a b c d e f=>⟨a,b,c,d,e,f⟩);obtain⟨A1,c1,A2,c2,A3,c3,A4,c4,Nk,Oi,Pj,Ph,Ok,Om⟩:=Nl.five;have Pr:=aY.max Nk.2.2.2;have Cx:=Hd fun zc w4 hw=>aMl (w:=wr) (zc:=zc) (cs:=eH x A1 c1 A2 c2 A3 c3 A4 c4) (T:=69) (w4:=w4) hw;have Ot:=Hd Nk;simp only[eH]at Cx;clear Nk Nl;go_upto_region 7 with(refine Zz rfl _ _ _ rfl wr.heap.size _ rfl rfl _ _ (Xa _ _) bAz rfl eC ?_);generalize Np:World.setRow _ _ _=w4;obtain⟨Fs,Dt,Ae⟩:=Cx.o _ w4 Np;have Bd:=Hd (Bk.o.trans (Fs.mono hz));have Kz:=Hd (Ac.o.trans (Bd.o.mono aA));have Fu:=Hd Ae;have Aq:=Hd (Ot.o.below Fs);have Py:=Fs.size;obtain⟨r0,r1,r2,r3,r4,-⟩:=Sx (Ae w4 (Yg _ _));simp only[Ya,Yb,Yc]at r0 r1 r2 r3 r4;have Ns:=Hd (Ha.o A1 x.ins.length c1 x.ins w4 Aq.o.1);have Oc:=Hd (Ha.o A2 x.outs.length c2 x.outs w4 Aq.o.2.1);have Od:=Hd (Ha.o A3 x.vars.length c3 x.vars w4 Aq.o.2.2.1);have Iy:=Hd (show aY 7 vI w4 A4 x.eqs.length x.eqs from Aq.o.2.2.2);clear Np Ae Fs Oi Pj Ph Ok Om q1 Cx;generalize Gj:x.eqs=qs at *;generalize Pe:qs.length=nq at *;clear Pe Gj;generalize wr.heap.size=gb at *;cases g1:mZ x.ins with
       |false=>
        go_wp2_with fail;refine Ns.o.mono ?_;rw[g1];rintro e v1 ⟨rfl,rfl⟩;exact aFz
       |true=>
        go_wp2_with fail;refine Ns.o.mono ?_;rw[g1];rintro e v1 ⟨rfl,rfl⟩;cases g2:mZ x.outs with
        |false=>
         go_wp2_with fail;refine Oc.o.mono ?_;rw[g2];rintro e v2 ⟨rfl,rfl⟩;exact aFz
        |true=>
         go_wp2_with fail;refine Oc.o.mono ?_;rw[g2];rintro e v2 ⟨rfl,rfl⟩;cases g3:mZ x.vars with
         |false=>
          go_wp2_with fail;refine Od.o.mono ?_;rw[g3];rintro e v3 ⟨rfl,rfl⟩;exact aFz
         |true=>
          go_wp2_with fail;refine Od.o.mono ?_;rw[g3];rintro e v3 ⟨rfl,rfl⟩;by_cases Px:30<nq;· exact aFz
          . have Pn:decide ((30:Int)<(nq:Int))=false:=Xd aA;by_cases Oh:100<x.nm.size
            . have Nm:decide ((100:Int)<(x.nm.size:Int))=true:=Xc aA;exact aFz
            . have Nm:decide ((100:Int)<(x.nm.size:Int))=false:=Xd aA;have Nn:=Hd (Nn.o g1 g2 g3 aA aA);generalize wr=wo at *;go_wp2_with fail;go_loopw [5] (fun i wq=>∃j:Nat,j<=nq/\i=.int .i64 j/\(∀a,a<j->uU (qs[a]?.getD default))/\Below w4.heap.size w4 wq) (fun i _=>nq-(intOf i).toNat)
              case atStart=>exact⟨0,Ys _,rfl,fun j hj=>absurd hj aA,Yg _ _⟩
              case round=>
               obtain⟨j,hj,rfl,Nr,Bs⟩:=hrel;have Nq:=Hd Nr;have Kg:=Hd Bs;have On:=Bs.size;have r4:=Fu.o _ Bs 4;simp only[Ya,Yb,Yc]at r4;clear Nr;by_cases Hy:j<nq
               . obtain⟨b5,Pd,rfl,Cs,Nz⟩:=aY.at_ (nD.below Iy.o Bs) aA;have Hc:=Nz j Hy;clear Nz Bs;have Nx:=Hd fun(hf:uU (qs[j]?.getD default))=>qF (P:=fun a=>uU (qs[a]?.getD default)) Nq.o hf;generalize qs[j]?.getD default=q at Hc Nx;have Nj:=Hd (show q.ns.length<=20->tJ q.x=true->(∀j,j<q.ns.length->(q.ns[j]?.getD ByteArray.empty).size<=100)->uU q from fun a b c=>⟨a,b,c⟩);obtain⟨A6,c6,A7,c7,A8,c8,Nh,Oa,s0,s1,s2,s3,s4,s5,s6⟩:=Hc.seven;have Pv:=Nh.max;have Cx:=Hd fun zc w6 hw=>aMl (w:=wr) (zc:=zc) (cs:=pV q A6 c6 A7 c7 A8 c8) (T:=81) (w4:=w6) hw;have Pb:=Hd Nh;have Oj:=Hd Oa;simp only[pV]at Cx;clear Nh Oa Hc;go_upto_region 13 with(refine Zz rfl _ _ _ rfl wr.heap.size _ rfl rfl _ _ (Xa _ _) bZ1 rfl eC ?_);generalize Hi:World.setRow _ _ _=w6;obtain⟨Bo,Oz,Aa⟩:=Cx.o _ w6 Hi;have Db:=Hd (Kg.o.trans (Bo.mono On));have Jx:=Hd (Kz.o.tr Db.o);have Ol:=Hd Aa;have Ni:=Hd (Pb.o.below Bo);have Po:=Bo.size;obtain⟨t0,t1,t2,t3,t4,t5⟩:=Sx (Aa w6 (Yg _ _));have t6:=Aa w6 (Yg _ _) 6;simp only[Ya,Yb,Yc]at t0 t1 t2 t3 t4 t5 t6;have Ct:=Hd (Nt.o q.x A7 c7 A8 c8 w6 (Oj.o.below Bo));clear Hi Aa Bo s0 s1 s2 s3 s4 s5 s6 r4 Cx;generalize Ow:q.ns=ss at *;generalize Ih:ss.length=nn at *;clear Ih Ow;generalize wr.heap.size=gq at *;by_cases Pq:20<nn
                 . go_wp2_with fail;go_ret;exact Ey.o w6 Jx.o
                 . have Pw:decide ((20:Int)<(nn:Int))=false:=Xd aA;cases gx:tJ q.x with
                   |false=>
                    rw[gx]at Ct;go_wp2_with fail;refine Ct.o.mono ?_;rintro e w7 ⟨rfl,Dr⟩;have Gi:=Hd (Jx.o.tr Dr);clear Dr;go_wp2_with fail;go_ret;exact Ey.o w7 Gi.o
                   |true=>
                    rw[gx]at Ct;have Nj:=Hd (Nj.o aA gx);go_wp2_with fail;refine Ct.o.mono ?_;rintro e w7 ⟨rfl,Dr⟩;have Gi:=Hd (Jx.o.tr Dr);have Ng:=Hd (Db.o.tr Dr);have u0:=Ol.o w7 Dr 0;simp only[Ya,Yb,Yc]at u0;have Hb:=Hd (Ni.o.below Dr);clear Dr t0 t1 t2 t3 t4 t5 t6;go_wp2_with fail;go_loop [7] (fun i=>∃m:Nat,m<=nn/\i=.int .i64 m/\∀a,a<m->(ss[a]?.getD ByteArray.empty).size<=100) (fun i=>nn-(intOf i).toNat)
                    case atStart=>exact⟨0,Ys _,rfl,fun j hj=>absurd hj aA⟩
                    case round=>
                     obtain⟨m,hm,rfl,Nw⟩:=hrel;have Ny:=Hd Nw;clear Nw;by_cases Nu:m<nn
                     . obtain⟨b8,Og,rfl,Kb,Nv⟩:=Hb.o.at_ Nu;have Ou:=Nv m Nu;clear Nv;have Ob:=Hd fun(hf:(ss[m]?.getD ByteArray.empty).size<=100)=>qF (P:=fun a=>(ss[a]?.getD ByteArray.empty).size<=100) Ny.o hf;generalize ss[m]?.getD ByteArray.empty=y at Ou Ob;by_cases hy:100<y.size
                       . go_wp2_with fail;go_ret;exact Ey.o w7 Gi.o
                       . have Fl:=Hd (Ob.o aA);go_wp2_with fail;go_round
                         case rel=>exact⟨m+1,by omega,by go_num,Fl.o⟩
                         case measure=>simp[intOf];omega
                     . have Ov:=Hd (Nx.o (Nj.o fun a ha=>Ny.o a aA));go_wp2_with fail;go_roundw;case rel=>exact⟨j+1,by omega,by go_num,Ov.o,Ng.o⟩
                       case measure=>simp[intOf];omega
               . have Ke:=Hd (HS.o (Nn.o fun a ha=>Nq.o a aA));have Pa:=Hd (Bd.o.tr Kg.o);go_wp2_with fail;go_roundw;case rel=>exact⟨k+1,by omega,by go_num,Ke.o,Pa.o⟩
                 case measure=>simp[intOf];omega
     . have HP:=Hd (Ox.o Oy.o aA fun a ha=>HT.o a aA);go_wp2_with fail;go_ret;exact Oo.o wr (Ac.o.trans (Bk.o.mono aA)) HP.o
section
variable {P:Program}{w:World}
theorem bI8{Bs:Array Oper}{rest:List Oper}{o:Oper}{a:Act}{Q:Exit->Act->World->Prop}(Aq:o.guard=none)(s x:Operand)(t:TypeId)
 (ho:o.op=.call { callee:=.builtin .append,args:=#[s,x],argTypes:=#[t,t] })
 (base:Nat)(e:TypeId)(i:TypeInfo)(z:Value)(Dh:Nat)(ht:P.underlying t=some (.slice e))(hi:P.info? e=some i)(hz:i.zero=some z)
 (Gk:i.size=6)(La:i.bytes=Dh)(Kd:z.cells.size=6)
 (v:Value)(n:Nat)(xs:List Dc)(hs:a.eval s=v)(Ao:w.ownsRow base e 6 v n (eY xs))
 (A:OA)(m c:Nat)(l:List Dc)(hx:a.eval x=.slice A m c)(hr:cY w A m l)
 (Lc:n+m<=maxLen)(Fg:(n+m)*Dh<=140737488355328)(Et:base<=w.heap.size)
 (h:∀v' w',w'.ownsRow base e 6 v' (n+m) (eY (xs++l))->w.grownBy w' v.ownBlock->wpList P Bs Q rest (a.put o.dst v') w'):wpList P Bs Q (o::rest) a w:=by
 obtain⟨hA,Ii⟩:=hr.news;have Aa:=aY.len hr;rcases A with _|ad
 . obtain rfl:m=0:=hA rfl;obtain rfl:l=[]:=Zu Aa;refine wpList_plain Aq fun K hK=>?_;have Ae:=aLi (P:=P) (w:=w) base t o.type e i 6 ht hi v n _ Ao c;unfold Oper.wp;simp[execOp,ho,resolve,invoke,builtin,hs,hx,Ae,Result.andThen];exact hK _ _ (h v w (by simpa using Ao) (World.grownBy.refl w _))
 . exact wpList_append_own_at w Aq s x t ho base e i z 6 Dh ht hi hz Gk La Kd aF v n _ hs Ao ad m c (eY l) hx (by rw[aB9,Aa]) (fun j u hu=>Ii ad rfl j u hu) (aH2 l) Lc Fg Et fun v' w' h1 h2 _ _=>h v' w' (by rw[aIn];exact h1) h2
end
end
section
open Go.RowKit Go.Sort
def wO(x:Nd)(k:Nat):List Dc:=match k with|0=>x.ins|1=>x.outs|_=>x.vars
def aOp(x:Nd)(A1:OA)(c1:Nat)(A2:OA)(c2:Nat)(A3:OA)(c3:Nat):Array Value:=#[.slice A1 x.ins.length c1,.slice A2 x.outs.length c2,.slice A3 x.vars.length c3]
theorem bSe{x:Nd}{A1:OA}{c1:Nat}{A2:OA}{c2:Nat}{A3:OA}{c3:Nat}{A4:OA}{w:World}(h:gA w x A1 A2 A3 A4){k:Nat}(hk:k<3):
 ∃A c,(aOp x A1 c1 A2 c2 A3 c3)[k]?=some (.slice A (wO x k).length c)/\cY w A (wO x k).length (wO x k):=by
 match k,hk with
 |0,_=>exact⟨A1,c1,rfl,h.1⟩
 |1,_=>exact⟨A2,c2,rfl,h.2.1⟩
 |2,_=>exact⟨A3,c3,rfl,h.2.2.1⟩
end
section
open Go.Shelf Go.RowKit Go.Lib Go.Sort
def aVe:Go.Shelf.Ren:=⟨fun|4=>167|n=>n,fun|22=>66|25=>130|3=>3|4=>4|9=>9|20=>20|0=>0|n=>n,fun|n=>n⟩
theorem bFa:Go.Proofs.Lays8.n4 Tryz.prog aVe:={
 mixed:=by kernel_rfl
 f4:=⟨Tryz.f167.name,by decide,Tryz.func167.trans (congrArg some aE)⟩
 t0:=Tryz.underlying0
 a0:=Tryz.isAgg0
 z0:=Tryz.sizeOf0
 v0:=Tryz.zeroValue0
 t3:=Tryz.underlying3
 a3:=Tryz.isAgg3
 z3:=Tryz.sizeOf3
 v3:=Tryz.zeroValue3
 t4:=Tryz.underlying4
 a4:=Tryz.isAgg4
 z4:=Tryz.sizeOf4
 v4:=Tryz.zeroValue4
 t9:=Tryz.underlying9
 a9:=Tryz.isAgg9
 z9:=Tryz.sizeOf9
 v9:=Tryz.zeroValue9
 t20:=Tryz.underlying20
 a20:=Tryz.isAgg20
 z20:=Tryz.sizeOf20
 v20:=Tryz.zeroValue20
 t22:=Tryz.underlying66
 a22:=Tryz.isAgg66
 z22:=Tryz.sizeOf66
 v22:=Tryz.zeroValue66 }
theorem bWb(n:Nat)(w:World)(hn:n<=1000000):
 Calls Tryz.prog 167 #[.slice none 0 0,.int .i64 n] w fun e w'=>∃v,e=.returned v/\w'.ownsRow w.heap.size 130 6 v 0 (eY [])/\Below w.heap.size w w':=by
 obtain⟨i0,z0,hi,Co,Cm,Cr,Aa⟩:=zM aH3;rcases Nat.eq_zero_or_pos n with rfl|hp
 . refine(Any8.slices_Grow_room bFa none 0 0 0 w (Yh _) aA aA aA).mono ?_;rintro e w' ⟨rfl,rfl⟩;exact⟨_,rfl,⟨rfl,.inl ⟨rfl,rfl⟩⟩,Yg _ _⟩
 . refine(Any8.slices_Grow_grow bFa i0 z0 hi Co aA none 0 0 n [] w (Yh _) aA (by rw[Cr];omega) aA aC (fun _=>rfl) (fun a h=>by cases h)).mono ?_;rintro e w' ⟨rfl,rfl⟩;refine⟨_,rfl,⟨rfl,.inr ⟨w.heap.size,_,_,rfl,Yh _,Xa _ _,Ys _,?_,?_,?_⟩⟩,?_⟩;· exact grownCap_le_maxLen _ _ _ _ fZ
   . have:=grownCap_ge w (0+n) 0 130
     show(_:AV).size=grownCap w (0+n) 0 130*6;simp only[Array.size_append,size_zeroCells,Aa,List.size_toArray,Zg];rw[show aVe.t 25=130 from rfl];omega
   . rfl
   . exact(Yg _ _).drew.alloc (Yh _) _
end
section
open Go.RowKit Go.Sort
theorem aHc{w w':World}{base:Nat}{e:TypeId}{size n:Nat}{v:Value}{xs:LV}(h:w.ownsRow base e size v n xs)(hb:Below w.heap.size w w'):w'.ownsRow base e size v n xs:=by
 refine⟨h.1,?_⟩;rcases h.2 with h2|⟨g,cap,cur,hv,hg,hh,hr⟩;· exact .inl h2
 . exact .inr ⟨g,cap,cur,hv,hg,(hb.block g (Ym.1 hh).1).trans hh,hr⟩
end
end Go.Proofs.YtagkcjpoipcpkaaGreatDoor
