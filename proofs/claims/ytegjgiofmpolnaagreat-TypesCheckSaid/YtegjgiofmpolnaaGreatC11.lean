/- Parts of the proof: PgE, PgF, PgG, PgH, PgJ, PgK, PgN, PgO, PgQ, PgI. Conditions: each theorem's own. -/
import Derived.Laws.Tables
import Derived.Test.YtegjgiofmpolnaaGreatC05
import Derived.Test.YtegjgiofmpolnaaGreatC10
namespace Go.Proofs.YtegjgiofmpolnaaGreat
set_option linter.unusedVariables false
set_option linter.unusedSimpArgs false
set_option maxRecDepth 100000
set_option maxHeartbeats 40000000
section
open Go.RowKit Go.Sort Go.BigFrame
theorem Zu:type_of% @wpList_store_row:=@wpList_store_row
end
section
open Go.RowKit
def eM(q:Qn) (A:Option Addr) (c:Nat) (A':Option Addr) (ca:Nat) (B':Option Addr) (cb:Nat):Array Value:=
 #[.slice A q.ns.length c,.int .i64 q.x.k,.int .i64 q.x.n,.string q.x.s,.int .i64 q.x.op,.slice A' q.x.arms.length ca,.slice B' q.x.subs.length cb]
def sT(q:Qn):Prop:=(∀ s∈q.ns,s.size<=maxLen)/\bG q.x<=1000000/\∀ p∈bI q.x,cL p
theorem xD(w:World) (q:Qn) (A:Option Addr) (c:Nat) (A':Option Addr) (ca:Nat) (B':Option Addr) (cb:Nat) (w1:World) (h:w.alloc (.cells (eM q A c A' ca B' cb) 56)=w1) (hr:aN w A q.ns.length q.ns) (hx:aJ w q.x A' B'):
 Below w.heap.size w w1/\w1.heap.size=w.heap.size+1/\aN w1 A q.ns.length q.ns/\aJ w1 q.x A' B'/\∀ w',Below w1.heap.size w1 w'->∀ j,w'.cell? ⟨w.heap.size,j,none⟩=(eM q A c A' ca B' cb)[j]?:=by
 subst h;have hb:=(Yg w.heap.size w).alloc (Yh _) (.cells (eM q A c A' ca B' cb) 56);refine⟨hb,by simp,hr.below hb,hx.below hb,fun w' hb j=>?_⟩;rw [hb.cell (p:=⟨w.heap.size,j,none⟩) (by simp),Zo]
theorem xE{ss:List ByteArray}{k:Nat}(h:k<ss.length):ss[k]?.getD ByteArray.empty∈ss:=by
 rw [Yk h];exact Zg _
theorem aS1(q:Qn) (A:Option Addr) (c:Nat) (A':Option Addr) (ca:Nat) (B':Option Addr) (cb:Nat) (w:World) (hr:aN w A q.ns.length q.ns) (hx:aJ w q.x A' B') (Ai:sT q):
 Calls Tryz.prog 108 #[.agg (eM q A c A' ca B' cb)] w fun e w'=>e=.returned (.bool (gK bB q))/\Below w.heap.size w w':=by
 have HF:=Hd fun w1 h=>xD w q A c A' ca B' cb w1 h hr hx;have HE:=Hd (show gK bB q=(q.ns.all (fun s=>aX s.data.toList) && decide (0<q.ns.length) && bB q.x && (decide (q.ns.length=1) || q.x.k==13)) from rfl);have Bf:=hr.max;have Ba:=Hd Ai;have Ap:=Hd fun w1 (h:aJ w1 q.x A' B')=>tR q.x A' ca B' cb w1 h Ai.2.1 Ai.2.2;have Am:q.ns.length=q.ns.length:=rfl;unfold eM;unfold aE at Ap;generalize gK bB q=As at *
 go_enter Tryz.func108,Tryz.ntmps108
 go_upto_region 1 with(fail)
 generalize Ao:w.alloc _=w1;obtain⟨An,hg,Aq,Ar,Ac⟩:=HF.o w1 Ao;have Av:=Hd An;have HC:=Hd Ac;have Bc:=Hd Aq;have Bb:=Hd Ar;simp only [eM] at HC;clear Ao Ac An HF hr hx Aq Ar Ai;have Be:=Hd (show(q.ns.all fun s=>aX s.data.toList)=q.ns.all (fun s=>aX s.data.toList) from rfl);generalize Az:q.ns=ss at *;generalize Au:ss.length=n at *;have Ag:=Hd Au;generalize q.x.k=xk at *;generalize q.x.n=xn at *;generalize q.x.s=xs at *;generalize q.x.op=xo at *;generalize q.x.arms.length=xa at *;generalize q.x.subs.length=xb at *;clear Au Am
 go_wp2_with fail
 go_loopw [3] (fun i wr=>∃ k:Nat,k<=n/\i=.int .i64 k/\((ss.take k).all fun s=>aX s.data.toList)=true/\Below w1.heap.size w1 wr) (fun i _=>n-(intOf i).toNat)
 case atStart=>exact⟨0,Yq _,rfl,by simp,Yg _ _⟩
 case round=>
  obtain⟨k,hk,rfl,Aw,Ab⟩:=hrel;have HT:=Hd Aw;have Af:=Hd Ab;have q0:=HC.o wr Ab 0;simp only [Ya,Yb,Yc] at q0;clear Aw
  by_cases Ae:k<n
  . obtain⟨b,Bd,rfl,hb,hc⟩:=(Bc.o.below Ab).at_ Ae;have c0:=hc k Ae;clear hc Ab;have hz:=Ba.o.1 (ss[k]?.getD ByteArray.empty) (by rw [Az];exact xE (by rw [Ag.o];exact Ae));have HS:=Hd fun hf=>mO (l:=ss) (f:=fun s=>aX s.data.toList) HT.o (by rw [Ag.o];exact Ae) hf;have HN:=Hd fun hf=>kX (l:=ss) (f:=fun s=>aX s.data.toList) (k:=k) (by rw [Ag.o];exact Ae) hf;unfold maxLen at hz;rw [show(default:ByteArray)=ByteArray.empty from rfl] at HS HN;generalize ss[k]?.getD ByteArray.empty=x at c0 hz HS HN
    cases hl:aX x.data.toList with
    | true=>
     have Ay:=Hd (HS.o hl)
     go_wp2_with fail
     refine(iY x wr (by omega)).mono ?_;rw [hl];rintro e w2 ⟨rfl,Aa⟩;have Ad:=Hd (Af.o.trans (Aa.mono Af.o.size));clear Aa
     go_wp2_with fail
     go_roundw
     case rel=>exact⟨k+1,by omega,by go_num,Ay.o,Ad.o⟩
     case measure=>simp [intOf];omega
    | false=>
     have Ax:=Hd (HN.o hl)
     go_wp2_with fail
     refine(iY x wr (by omega)).mono ?_;rw [hl];rintro e w2 ⟨rfl,Aa⟩;have Ad:=Hd (Af.o.trans (Aa.mono Af.o.size));clear Aa
     go_wp2_with fail
     go_ret
     exact⟨aF (by rw [HE.o,Ax.o];rfl),Av.o.trans (Ad.o.mono (by omega))⟩
  . obtain rfl:k=n:=by omega
    have HY:=Hd (show(ss.all fun s=>aX s.data.toList)=true by have:=HT.o;rwa [Yx (by rw [Ag.o];exact Yh _)] at this);rw [HY.o,Bool.true_and] at HE;obtain⟨-,q1,q2,q3,q4,q5⟩:=Sx (HC.o wr Ab);have q6:=HC.o wr Ab 6;simp only [Ya,Yb,Yc] at q1 q2 q3 q4 q5 q6;have Ak:=Hd (Av.o.trans (Ab.mono (by omega)));have Ah:=Hd (Ap.o wr (Bb.o.below Ab));clear Ab;rcases Nat.eq_zero_or_pos k with h0 | h0
    . subst h0
      go_wp2_with fail
      go_ret
      exact⟨aF (by rw [HE.o];simp),Ak.o⟩
    . have d0:decide ((0:Int)<(k:Int))=true:=Zx (by omega);rw [Zx h0,Bool.true_and] at HE
      cases Aj:bB q.x with
      | false=>
       rw [Aj] at Ah HE
       go_wp2_with fail
       refine Ah.o.mono ?_;rintro e w2 ⟨rfl,Aa⟩;have Ad:=Hd (eN Ak.o Aa);clear Aa
       go_wp2_with fail
       go_ret
       exact⟨aF (by rw [HE.o];rfl),Ad.o⟩
      | true=>
       rw [Aj,Bool.true_and] at HE;rw [Aj] at Ah
       go_wp2_with fail
       refine Ah.o.mono ?_;rintro e w2 ⟨rfl,Aa⟩;have Ad:=Hd (eN Ak.o Aa);have r0:=(Aa.cell (p:=⟨w.heap.size,0,none⟩) (Yi _ _ q0)).trans q0;have r1:=(Aa.cell (p:=⟨w.heap.size,1,none⟩) (Yi _ _ q1)).trans q1;clear Aa q0 q1 q2 q3 q4 q5 q6
       cases d1:((k:Int)==1) with
       | true=>
        have Al:=Hd (show As=true by rw [HE.o,show decide (k=1)=true by have:=eq_of_beq d1;exact Zx (by omega)];rfl)
        go_wp2_with fail
        go_ret
        exact⟨aF (by rw [Al.o]),Ad.o⟩
       | false=>
        have Al:=Hd (show As=(xk==13) by rw [HE.o,show decide (k=1)=false by have:=ne_of_beq_false d1;exact Zy (by omega)];rfl)
        go_wp2_with fail
        go_ret
        exact⟨aF (by rw [Al.o]),Ad.o⟩
end
section
open Go.RowKit Go.Sort
def zN(n:Nd):Prop:=n.nm.size<=maxLen/\(∀ d∈n.all,lN d)/\∀ q∈n.eqs,sT q
def mG(es io i:Nat) (d:Dc):Bool:=dZ es bH d && !(decide (i<io) && !gB d.on)
theorem kY{α:Type} [Inhabited α] {l:List α}{k:Nat}(h:k<l.length):l[k]?.getD default∈l:=by
 rw [Yk h];exact Zg _
theorem aFa{n:Nd}{i:Nat}(h:i<n.ins.length+n.outs.length):n.all[i]?.getD default=(n.ins++n.outs)[i]?.getD default:=by
 rw [Nd.all,List.getElem?_append_left (by rw [Yn];exact h)]
theorem aMv{n:Nd}{es:Nat}(h:∀ i,i<n.all.length->mG es (n.ins.length+n.outs.length) i (n.all[i]?.getD default)=true):(n.all.all (dZ es bH) && jS n)=true:=by
 rw [Ys]
 constructor
 . rw [Zf];intro d hd;obtain⟨i,hi,rfl⟩:=Zi hd;have:=h i hi;rw [Yk hi,Yt,mG,Ys] at this;exact this.1
 . rw [jS,Zf];intro d hd;obtain⟨i,hi,rfl⟩:=Zi hd;have hl:i<n.ins.length+n.outs.length:=by rw [<- Yn];exact hi
   have:=h i (by rw [oB];omega);rw [aFa hl,Yk hi,Yt,mG,Ys,Zx hl] at this
   simpa using this.2
theorem aPh{n:Nd}{es i:Nat}(hi:i<n.all.length) (h:mG es (n.ins.length+n.outs.length) i (n.all[i]?.getD default)=false):(n.all.all (dZ es bH) && jS n)=false:=by
 rw [Bool.and_eq_false_iff];rw [mG,Bool.and_eq_false_iff] at h;rcases h with h | h
 . exact .inl (kX hi h)
 . right
   have h2:(decide (i<n.ins.length+n.outs.length) && !gB (n.all[i]?.getD default).on)=true:=by simpa using h
   rw [Ys,decide_eq_true_eq] at h2;rw [jS];refine kX (k:=i) (by rw [Yn];exact h2.1) ?_;rw [<- aFa h2.1]
   simpa using h2.2
theorem pQ.seven{w:World}{b o:Nat}{q:Qn}(h:pQ w b o q):∃ A c A' ca B' cb,aN w A q.ns.length q.ns/\aJ w q.x A' B' /\
 w.cell? ⟨b,o,none⟩=some (.slice A q.ns.length c)/\w.cell? ⟨b,o+1,none⟩=some (.int .i64 q.x.k)/\w.cell? ⟨b,o+2,none⟩=some (.int .i64 q.x.n)/\w.cell? ⟨b,o+3,none⟩=some (.string q.x.s)/\w.cell? ⟨b,o+4,none⟩=some (.int .i64 q.x.op) /\
  w.cell? ⟨b,o+5,none⟩=some (.slice A' q.x.arms.length ca)/\w.cell? ⟨b,o+6,none⟩=some (.slice B' q.x.subs.length cb):=by
 obtain⟨A,c,A',ca,B',cb,h1,h2,h3,h4⟩:=h;obtain⟨r0,r1,r2,r3,r4,r5⟩:=eG h3;exact⟨A,c,A',ca,B',cb,h2,h4,h1,r0,r1,r2,r3,r4,r5⟩
theorem aPi(E:Option Addr) (es ec:Nat) (x:Nd) (A1:Option Addr) (c1:Nat) (A2:Option Addr) (c2:Nat) (A3:Option Addr) (c3:Nat) (A4:Option Addr) (c4:Nat) (w:World) (Bw:es<=9223372036854775807) (h:cJ w x A1 A2 A3 A4) (Az:zN x) (hn:x.all.length<=1000):
 Calls Tryz.prog 69 #[.slice E es ec,.agg (bL x A1 c1 A2 c2 A3 c3 A4 c4)] w fun e w'=>e=.returned (.bool (gH es bH bB x))/\Below w.heap.size w w':=by
 have HF:=Hd fun w1 hw=>iB w x A1 c1 A2 c2 A3 c3 A4 c4 w1 hw h;have Ay:=Hd fun w1 (hw:cJ w1 x A1 A2 A3 A4)=>rT x A1 c1 A2 c2 A3 c3 A4 c4 w1 hw hn;have HE:=Hd (show gH es bH bB x=((x.all.all (dZ es bH) && jS x) && x.eqs.all (gK bB) && aX x.nm.data.toList && decide (0<x.outs.length)) from rfl);have Ca:x.ins.length+x.outs.length<=1000:=by have:=oB x;omega
 have Bj:=Hd Az;have Av:=Hd (fun hh=>aMv (n:=x) (es:=es) hh);have Br:=Hd (fun i hi hh=>aPh (n:=x) (es:=es) (i:=i) hi hh);have Cb:=aQ.max h.2.2.2;have Ap:=Hd fun w1=>iY x.nm w1 (by have:=Az.1;unfold maxLen at this;omega);unfold bL at Ay ⊢;generalize gH es bH bB x=Bx at *
 go_enter Tryz.func69,Tryz.ntmps69
 go_upto_region 1 with(fail)
 generalize Bh:w.alloc _=w1;obtain⟨Bd,hg,As,Ad⟩:=HF.o w1 Bh;have Bz:=Hd Bd;have HC:=Hd Ad;have Cc:=Hd As;obtain⟨q0,q1,q2,q3,q4,-⟩:=Sx (Ad w1 (Yg _ _));simp only [bL,List.getElem?_toArray,Yz,Zb] at HC q0 q1 q2 q3 q4;have Bu:=Hd (Ay.o w1 As);have Bv:=Hd (show aQ 7 pQ w1 A4 x.eqs.length x.eqs from As.2.2.2);clear Bh Ad Bd HF h As Az Ay;generalize hq:x.eqs=qs at *;generalize Bf:qs.length=nq at *;generalize x.ins.length=n1 at *;generalize x.outs.length=n2 at *;generalize x.vars.length=n3 at *;generalize hx:x.all=Ag at *;generalize Bc:Ag.length=na at *;have Bp:=Hd Bc;have Ar:=Hd Bf;clear Bc Bf
 go_wp2_with fail
 refine Bu.o.mono ?_;rintro e w2 ⟨A5,c5,rfl,Bi,Aw⟩;have Bb:=Hd (eN Bz.o Aw);have Af:=Hd Aw;have Bq:=Hd Bi;clear Bi Aw q0 q1 q2 q3 q4
 go_wp2_with fail
 go_loopw [6] (fun i wr=>∃ k:Nat,k<=na/\i=.int .i64 k/\(∀ j,j<k->mG es (n1+n2) j (Ag[j]?.getD default)=true)/\Below w2.heap.size w2 wr) (fun i _=>na-(intOf i).toNat)
 case atStart=>exact⟨0,Yq _,rfl,fun j hj=>absurd hj (by omega),Yg _ _⟩
 case round=>
  obtain⟨k,hk,rfl,Am,Ah⟩:=hrel;have HT:=Hd Am;have Ae:=Hd Ah;clear Am
  by_cases Au:k<na
  . obtain⟨b,Ax,rfl,hb,hc⟩:=aQ.at_ (Bq.o.below Ah) (by omega);obtain⟨d0,d1,d2,d3,d4,d5⟩:=(hc k Au).six;clear hc Ah;have hz:=Bj.o.2.1 (Ag[k]?.getD default) (by rw [hx];exact kY (by rw [Bp.o];exact Au));have HZ:=Hd hz;have HN:=Hd (Br.o k Au)
    have HS:=Hd fun(hf:mG es (n1+n2) k (Ag[k]?.getD default)=true)=>(show ∀ j,j<k+1->mG es (n1+n2) j (Ag[j]?.getD default)=true from fun j hj=>by
     rcases Nat.lt_or_ge j k with h1 | h1
     . exact HT.o j h1
     . obtain rfl:j=k:=by omega
       exact hf)
    clear hz;have Ac:=Hd fun(d:Dc)=>(show mG es (n1+n2) k d=(dZ es bH d && !(decide (k<n1+n2) && !(d.on.toList==[]))) by simp only [Zc];rfl);generalize Ag[k]?.getD default=d at d0 d1 d2 d3 d4 d5 HZ HN HS;have Ac:=Hd (Ac.o d);have HD:=Hd (aPf E es ec d wr Bw HZ.o);unfold bC at HD;generalize mG es (n1+n2) k d=ob at Ac HS HN
    cases h1:dZ es bH d with
    | false=>
     rw [h1] at HD Ac;have Ai:=Hd (HN.o (by rw [Ac.o];rfl))
     go_wp2_with fail
     refine HD.o.mono ?_;rintro e w3 ⟨rfl,Aa⟩;have Ab:=Hd (Ae.o.trans (Aa.mono Ae.o.size));clear Aa
     go_wp2_with fail
     go_ret
     exact⟨aF (by rw [HE.o,Ai.o];rfl),eN Bb.o Ab.o⟩
    | true=>
     rw [h1] at HD Ac
     cases h2:decide ((k:Int)<(n1:Int)+(n2:Int)) with
     | false=>
      have Al:=Hd (HS.o (by rw [Ac.o,show decide (k<n1+n2)=false by have:=of_decide_eq_false h2;exact Zy (by omega)];rfl))
      go_wp2_with fail
      refine HD.o.mono ?_;rintro e w3 ⟨rfl,Aa⟩;have Ab:=Hd (Ae.o.trans (Aa.mono Ae.o.size));have hB:=Af.o.trans (Ab.o.mono Af.o.size);have q1:=HC.o w3 hB 1;have q2:=HC.o w3 hB 2;simp only [Ya,Yb,Yc] at q1 q2;clear Aa hB
      go_wp2_with fail
      go_roundw
      case rel=>exact⟨k+1,by omega,by go_num,Al.o,Ab.o⟩
      case measure=>simp [intOf];omega
     | true=>
      rw [show decide (k<n1+n2)=true by have:=of_decide_eq_true h2;exact Zx (by omega)] at Ac
      cases h3:(d.on.toList==[]) with
      | true=>
       rw [h3] at Ac;have Al:=Hd (HS.o (by rw [Ac.o];rfl))
       go_wp2_with fail
       refine HD.o.mono ?_;rintro e w3 ⟨rfl,Aa⟩;have Ab:=Hd (Ae.o.trans (Aa.mono Ae.o.size));have hB:=Af.o.trans (Ab.o.mono Af.o.size);have q1:=HC.o w3 hB 1;have q2:=HC.o w3 hB 2;have t4:=(Aa.cell (p:=⟨b,Ax+k*6+4,none⟩) hb).trans d4;simp only [Ya,Yb,Yc] at q1 q2;clear Aa hB d0 d1 d2 d3 d4 d5
       go_wp2_with fail
       go_roundw
       case rel=>exact⟨k+1,by omega,by go_num,Al.o,Ab.o⟩
       case measure=>simp [intOf];omega
      | false=>
       rw [h3] at Ac;have Ai:=Hd (HN.o (by rw [Ac.o];rfl))
       go_wp2_with fail
       refine HD.o.mono ?_;rintro e w3 ⟨rfl,Aa⟩;have Ab:=Hd (Ae.o.trans (Aa.mono Ae.o.size));have hB:=Af.o.trans (Ab.o.mono Af.o.size);have q1:=HC.o w3 hB 1;have q2:=HC.o w3 hB 2;have t4:=(Aa.cell (p:=⟨b,Ax+k*6+4,none⟩) hb).trans d4;simp only [Ya,Yb,Yc] at q1 q2;clear Aa hB d0 d1 d2 d3 d4 d5
       go_wp2_with fail
       go_ret
       exact⟨aF (by rw [HE.o,Ai.o];rfl),eN Bb.o Ab.o⟩
  . obtain rfl:k=na:=by omega
    have HY:=Hd (Av.o fun i hi=>HT.o i hi);rw [HY.o,Bool.true_and] at HE;have Bg:=Hd (eN Bb.o Ah);have Bl:=Hd (Af.o.trans (Ah.mono Af.o.size));clear Ah
    go_wp2_with fail
    go_loopw [7] (fun i wq=>∃ j:Nat,j<=nq/\i=.int .i64 j/\(qs.take j).all (gK bB)=true/\Below wr.heap.size wr wq) (fun i _=>nq-(intOf i).toNat)
    case atStart=>exact⟨0,Yq _,rfl,by simp,Yg _ _⟩
    case round=>
     obtain⟨j,hj,rfl,Am,Ak⟩:=hrel;have Be:=Hd Am;have An:=Hd Ak;have hB:=Bl.o.trans (Ak.mono Bl.o.size);obtain⟨q0,-,q2,-,q4,-⟩:=Sx (HC.o _ hB);simp only [Ya,Yb,Yc] at q0 q2 q4;clear Am
     by_cases Ao:j<nq
     . obtain⟨b,Ax,rfl,hb,hc⟩:=aQ.at_ (gR.below Bv.o hB) (by omega);have Ba:=hc j Ao;have HS:=Hd fun hf=>mO (l:=qs) (f:=gK bB) Be.o (by rw [Ar.o];exact Ao) hf;have HN:=Hd fun hf=>kX (l:=qs) (f:=gK bB) (k:=j) (by rw [Ar.o];exact Ao) hf;have HQ:=Hd (Bj.o.2.2 (qs[j]?.getD default) (by rw [hq];exact kY (by rw [Ar.o];exact Ao)));clear hc Ak hB;generalize qs[j]?.getD default=q at Ba HS HN HQ;obtain⟨Aq,cq,A',ca,B',cb,Bm,Bk,r0,r1,r2,r3,r4,r5,r6⟩:=Ba.seven;have Aj:=Hd (aS1 q Aq cq A' ca B' cb _ Bm Bk HQ.o);unfold eM at Aj;clear Bm Bk Ba
       cases h1:gK bB q with
       | true=>
        rw [h1] at Aj;have Al:=Hd (HS.o h1)
        go_wp2_with fail
        refine Aj.o.mono ?_;rintro e w3 ⟨rfl,Aa⟩;have Ab:=Hd (An.o.trans (Aa.mono An.o.size));clear Aa
        go_wp2_with fail
        go_roundw
        case rel=>
         exact⟨j+1,by omega,by go_num,Al.o,Ab.o⟩
        case measure=>simp [intOf];omega
       | false=>
        rw [h1] at Aj;have Ai:=Hd (HN.o h1)
        go_wp2_with fail
        refine Aj.o.mono ?_;rintro e w3 ⟨rfl,Aa⟩;have Ab:=Hd (An.o.trans (Aa.mono An.o.size));clear Aa
        go_wp2_with fail
        go_ret
        exact⟨aF (by rw [HE.o,Ai.o];rfl),eN Bg.o Ab.o⟩
     . obtain rfl:j=nq:=by omega
       have Bo:=Hd (show qs.all (gK bB)=true by have:=Be.o;rwa [Yx (by rw [Ar.o];exact Yh _)] at this);rw [Bo.o,Bool.true_and] at HE;have Bn:=Hd (eN Bg.o Ak);clear Ak hB
       cases h1:aX x.nm.data.toList with
       | false=>
        rw [h1] at HE Ap
        go_wp2_with fail
        refine(Ap.o _).mono ?_;rintro e w3 ⟨rfl,Aa⟩;have Ab:=Hd (eN Bn.o Aa);clear Aa
        go_wp2_with fail
        go_ret
        exact⟨aF (by rw [HE.o];rfl),Ab.o⟩
       | true=>
        rw [h1,Bool.true_and] at HE;rw [h1] at Ap;have Bt:=Hd (show Bx=decide (0<n2) from HE.o)
        go_wp2_with fail
        refine(Ap.o _).mono ?_;rintro e w3 ⟨rfl,Aa⟩;have Ab:=Hd (eN Bn.o Aa);have t2:=(Aa.cell (p:=⟨w.heap.size,2,none⟩) (Yi _ _ q2)).trans q2;clear Aa q0 q2 q4
        go_wp2_with fail
        go_ret
        exact⟨aF Bt.o.symm,Ab.o⟩
end
section
open Go.RowKit Go.Sort
def aP(p:Pg) (E:Option Addr) (ec:Nat) (N:Option Addr) (nc:Nat):Array Value:=#[.slice E p.es.length ec,.slice N p.ns.length nc]
def cW(w:World) (p:Pg) (E N:Option Addr):Prop:=bV w E p.es.length p.es/\eW w N p.ns.length p.ns
theorem cW.below{w w':World}{p:Pg}{E N:Option Addr}(h:cW w p E N) (hb:Below w.heap.size w w'):cW w' p E N:=⟨h.1.below hb,h.2.below hb⟩
theorem kH(w:World) (p:Pg) (E:Option Addr) (ec:Nat) (N:Option Addr) (nc:Nat) (w1:World) (h:w.alloc (.cells (aP p E ec N nc) 25)=w1) (hr:cW w p E N):
 Below w.heap.size w w1/\w1.heap.size=w.heap.size+1/\cW w1 p E N/\∀ w',Below w1.heap.size w1 w'->∀ j,w'.cell? ⟨w.heap.size,j,none⟩=(aP p E ec N nc)[j]?:=by
 subst h;have hb:=(Yg w.heap.size w).alloc (Yh _) (.cells (aP p E ec N nc) 25);refine⟨hb,by simp,hr.below hb,fun w' hb j=>?_⟩;rw [hb.cell (p:=⟨w.heap.size,j,none⟩) (by simp),Zo]
theorem nR{α:Type} [Inhabited α] {f:α->Bool}:∀ {l:List α}{k i:Nat},k<l.length->(∀ j,j<k->f (l[j]?.getD default)=false)->f (l[k]?.getD default)=true->bE f l i=((i+k:Nat):Int)
 | [],k,i,h,_,_=>by simp at h
 | a::l,0,i,_,_,h=>by
  have h:f a=true:=by simpa using h
  simp [bE,h]
 | a::l,k+1,i,hk,hn,h=>by
  have h0:f a=false:=by simpa using hn 0 (by omega)
  rw [bE,h0,if_neg (by simp),nR (k:=k) (by simpa using hk) (fun j hj=>by simpa using hn (j+1) (by omega)) (by simpa using h)]
  congr 1
  omega
theorem nP{α:Type} [Inhabited α] {f:α->Bool}:∀ {l:List α}{i:Nat},(∀ j,j<l.length->f (l[j]?.getD default)=false)->bE f l i=-1
 | [],i,_=>rfl
 | a::l,i,hn=>by
  have h0:f a=false:=by simpa using hn 0 (by simp)
  rw [bE,h0,if_neg (by simp)];exact nP fun j hj=>by simpa using hn (j+1) (by simpa using hj)
theorem dK{P:Nat->Prop}{k:Nat}(h:∀ j,j<k->P j) (hk:P k):∀ j,j<k+1->P j:=fun j hj=>by
 rcases Nat.lt_or_ge j k with h1 | h1
 . exact h j h1
 . obtain rfl:j=k:=by omega
   exact hk
theorem aEl(p:Pg) (E:Option Addr) (ec:Nat) (N:Option Addr) (nc:Nat) (s:ByteArray) (w:World) (h:cW w p E N):
 Calls Tryz.prog 103 #[.agg (aP p E ec N nc),.string s] w fun e w'=>e=.returned (.int .i64 (cQ p s))/\Below w.heap.size w w':=by
 have HF:=Hd fun w1 hw=>kH w p E ec N nc w1 hw h;have Aq:=aQ.max h.2;have Ab:=Hd (fun(k:Nat) hk hn hy=>show cQ p s=(k:Int) by have:=nR (l:=p.ns) (f:=fun n:Nd=>n.nm.data.toList==s.data.toList) (k:=k) (i:=0) hk hn hy;rwa [Nat.zero_add] at this);have Ak:=Hd (fun hn=>show cQ p s=-1 from nP (l:=p.ns) (f:=fun n:Nd=>n.nm.data.toList==s.data.toList) (i:=0) hn);unfold aP;generalize cQ p s=Ap at *
 go_enter Tryz.func103,Tryz.ntmps103
 go_upto_region 1 with(fail)
 generalize Ae:w.alloc _=w1;obtain⟨Ad,hg,Ac,Aa⟩:=HF.o w1 Ae;have Ah:=Hd Ad;have q1:=Aa w1 (Yg _ _) 1;simp only [aP,List.getElem?_toArray,Yz,Zb] at q1;have HR:=Hd (show aQ 5 oO w1 N p.ns.length p.ns from Ac.2);clear Ae Aa Ad HF h Ac;generalize p.es.length=ne at *;generalize Al:p.ns=ns at *;generalize Am:ns.length=n at *;clear Al Am
 go_wp2_with fail
 go_loop [5] (fun i=>∃ k:Nat,k<=n/\i=.int .i64 k/\∀ j,j<k->((ns[j]?.getD default).nm.data.toList==s.data.toList)=false) (fun i=>n-(intOf i).toNat)
 case atStart=>exact⟨0,Yq _,rfl,fun j hj=>absurd hj (by omega)⟩
 case round=>
  obtain⟨k,hk,rfl,Ai⟩:=hrel;have HT:=Hd Ai;clear Ai
  by_cases Af:k<n
  . obtain⟨b,Ao,rfl,hb,hc⟩:=aQ.at_ HR.o (by omega);obtain⟨A1,c1,A2,c2,A3,c3,A4,c4,Ag,-⟩:=hc k Af;obtain⟨d0,-⟩:=tS Ag;clear hc Ag;have HH:=Hd (Ab.o k Af HT.o);have HS:=Hd fun(hf:((ns[k]?.getD default).nm.data.toList==s.data.toList)=false)=>dK (P:=fun j=>((ns[j]?.getD default).nm.data.toList==s.data.toList)=false) HT.o hf;generalize (ns[k]?.getD default).nm=x at d0 HH HS
    cases h1:(x.toList==s.toList) with
    | true=>
     have Aj:=Hd (HH.o (by rw [<- Zc,<- Zc];exact h1))
     go_wp2_with fail
     go_ret
     exact⟨cF Aj.o.symm,Ah.o⟩
    | false=>
     have An:=Hd (HS.o (by rw [<- Zc,<- Zc];exact h1))
     go_wp2_with fail
     go_round
     case rel=>exact⟨k+1,by omega,by go_num,An.o⟩
     case measure=>simp [intOf];omega
  . obtain rfl:k=n:=by omega
    have HN:=Hd (Ak.o HT.o)
    go_wp2_with fail
    go_ret
    exact⟨cF HN.o.symm,Ah.o⟩
end
section
open Go.RowKit Go.Sort
def jO(w:World) (g:Nat) (d:Dc):Prop:=w.heap[g]?=some (Obj.cells (bC d) 58)
theorem sC:(Tryz.prog.info? 58).map (·.size)=some 6:=by kernel_rfl
theorem aPj(d:Dc):(Tryz.prog.info? 58).map (·.size)=some (bC d).size:=sC
theorem uO{fn:Func}{p u:Tmp}(h:fn.results=#[.cell p 58,.tmp u]) (tmps:Array Value) (w:World) (g:Nat){d:Dc}
 (hp:tmps.getD p undef=.pointer (some ⟨g,0,none⟩)) (hg:jO w g d):(results fn tmps).run Tryz.prog w=.ok (.tuple #[.agg (bC d),tmps.getD u undef]) w:=by
 rw [results_cell_tmp h,hp];have hl:=run_loadVar_row (P:=Tryz.prog) w g 58 58 _ _ _ hg Tryz.underlying58 rfl (aPj d)
 simp [asAddr,Result.andThen,hl]
theorem jO.below{w w':World}{g:Nat}{d:Dc}(h:jO w g d) (hb:Below w.heap.size w w'):jO w' g d:=by
 have hl:g<w.heap.size:=(Yl.1 h).1;exact(hb.block g hl).trans h
theorem jO.set{w:World}{g:Nat}{d:Dc}(h:jO w g d) (d':Dc):jO (w.setRow g (bC d')) g d':=Xc _ _ _ _ _ _ h
theorem xF{α:Type} [Inhabited α] {f:α->Bool}:∀ {l:List α}{k:Nat},k<l.length->(∀ j,j<k->f (l[j]?.getD default)=false)->f (l[k]?.getD default)=true->l.find? f=some (l[k]?.getD default)
 | [],k,h,_,_=>by simp at h
 | a::l,0,_,_,h=>by
  have h:f a=true:=by simpa using h
  simp [List.find?,h]
 | a::l,k+1,hk,hn,h=>by
  have h0:f a=false:=by simpa using hn 0 (by omega)
  rw [List.find?_cons_of_neg (by simp [h0]),xF (k:=k) (by simpa using hk) (fun j hj=>by simpa using hn (j+1) (by omega)) (by simpa using h)]
  simp
theorem aCc{α:Type} [Inhabited α] {f:α->Bool}{l:List α}(hn:∀ j,j<l.length->f (l[j]?.getD default)=false):l.find? f=none:=by
 rw [List.find?_eq_none];intro a ha;obtain⟨j,hj,rfl⟩:=Zi ha;have:=hn j hj;rw [Yk hj] at this
 simpa using this
def nG(o:Option Dc):Value:=.tuple #[.agg (bC (o.getD default)),.bool o.isSome]
def mB(w:World) (o:Option Dc) (e:Ending) (w':World):Prop:=e=.returned (nG o)/\Below w.heap.size w w'
theorem oY(x:Nd) (A1:Option Addr) (c1:Nat) (A2:Option Addr) (c2:Nat) (A3:Option Addr) (c3:Nat) (A4:Option Addr) (c4:Nat) (s:ByteArray) (w:World) (h:cJ w x A1 A2 A3 A4) (hn:x.all.length<=1000):
 Calls Tryz.prog 28 #[.agg (bL x A1 c1 A2 c2 A3 c3 A4 c4),.string s] w (mB w (aW x s)):=by
 have HF:=Hd fun w1 hw=>iB w x A1 c1 A2 c2 A3 c3 A4 c4 w1 hw h;have Aj:=Hd fun w1 (hw:cJ w1 x A1 A2 A3 A4)=>rT x A1 c1 A2 c2 A3 c3 A4 c4 w1 hw hn;have Ah:=Hd (fun(k:Nat) hk hn hy=>show aW x s=some (x.all[k]?.getD default) from xF (l:=x.all) (f:=fun d:Dc=>d.nm.data.toList==s.data.toList) (k:=k) hk hn hy);have Bc:=Hd (fun hn=>show aW x s=none from aCc (l:=x.all) (f:=fun d:Dc=>d.nm.data.toList==s.data.toList) hn);unfold bL at Aj ⊢;generalize aW x s=Bi at *
 go_enter Tryz.func28,Tryz.ntmps28
 go_upto_region 1 with(fail)
 generalize Ar:w.alloc _=w1;obtain⟨Am,hg,Au,Ac⟩:=HF.o w1 Ar;have Ax:=Hd Am;have Be:=Hd Au;have Aq:=Hd Ac
 have Al:=Hd fun w2 (hw:w1.alloc (.cells (bC default) 58)=w2)=>(show jO w2 (w.heap.size+1) default/\Below w1.heap.size w1 w2 by
  subst hw;exact⟨by rw [<- hg];exact Zw _ _,(Yg _ _).alloc (Yh _) _⟩)
 clear Ar Ac Am HF h Au;generalize Av:w1.alloc _=w2;obtain⟨As,Af⟩:=Al.o w2 Av;have Ao:=Hd Af;have Ai:=Hd As;simp only [bL] at Aq;obtain⟨q0,q1,q2,q3,q4,-⟩:=Sx (Aq.o w2 Af);simp only [Ya,Yb,Yc] at q0 q1 q2 q3 q4;have Bd:=Hd (Aj.o w2 (Be.o.below Af));clear Av As Af Al Aj;generalize hx:x.all=Ad at *;generalize Ak:Ad.length=na at *;have Bf:=Hd Ak;clear Ak
 go_wp2_with fail
 refine Bd.o.mono ?_;rintro e w3 ⟨A5,c5,rfl,Ap,Ag⟩;have Aa:=Hd (Ai.o.below Ag);have Aw:=Hd (Ao.o.trans (Ag.mono Ao.o.size));have Bb:=Hd Ap;have Bh:=Ag.size;clear Ap Ag q0 q1 q2 q3 q4
 go_wp2_with fail
 go_loop [7] (fun i=>∃ k:Nat,k<=na/\i=.int .i64 k/\∀ j,j<k->((Ad[j]?.getD default).nm.data.toList==s.data.toList)=false) (fun i=>na-(intOf i).toNat)
 case atStart=>exact⟨0,Yq _,rfl,fun j hj=>absurd hj (by omega)⟩
 case round=>
  obtain⟨k,hk,rfl,Ay⟩:=hrel;have HT:=Hd Ay;clear Ay
  by_cases An:k<na
  . obtain⟨b,Bg,rfl,hb,hc⟩:=aQ.at_ Bb.o (by omega);obtain⟨d0,d1,d2,d3,d4,d5⟩:=(hc k An).six;clear hc;have HH:=Hd (Ah.o k An HT.o);have HS:=Hd fun(hf:((Ad[k]?.getD default).nm.data.toList==s.data.toList)=false)=>dK (P:=fun j=>((Ad[j]?.getD default).nm.data.toList==s.data.toList)=false) HT.o hf;generalize Ad[k]?.getD default=d at d0 d1 d2 d3 d4 d5 HH HS
    cases h1:(d.nm.toList==s.toList) with
    | true=>
     have Ba:=Hd (HH.o (by rw [<- Zc,<- Zc];exact h1));have Ab:=Hd (Aa.o.set d);have Ae:=Hd (Xb Aw.o (g:=w.heap.size+1) (by omega) (bC d));unfold bC at Ab Ae
     go_wp2_with (refine Zu rfl _ _ _ rfl (w.heap.size+1) _ rfl rfl _ _ Aa.o sC rfl (by simp [Value.oneCell']) ?_)
     exact Zt (uO (p:=4) (u:=5) rfl _ _ (w.heap.size+1) rfl Ab.o) rfl ⟨by rw [Ba.o];rfl,Ax.o.trans (Ae.o.mono (by omega))⟩
    | false=>
     have Az:=Hd (HS.o (by rw [<- Zc,<- Zc];exact h1))
     go_wp2_with fail
     go_round
     case rel=>exact⟨k+1,by omega,by go_num,Az.o⟩
     case measure=>simp [intOf];omega
  . obtain rfl:k=na:=by omega
    have HN:=Hd (Bc.o HT.o);have Ab:=Hd (Aa.o.set default);have Ae:=Hd (Xb Aw.o (g:=w.heap.size+1) (by omega) (bC default))
    go_wp2_with (refine Zu rfl _ _ _ rfl (w.heap.size+1) _ rfl rfl _ _ Aa.o sC rfl (by simp [Value.oneCell']) ?_)
    exact Zt (uO (d:=default) (p:=4) (u:=5) rfl _ _ (w.heap.size+1) rfl Ab.o) rfl ⟨by rw [HN.o];rfl,Ax.o.trans (Ae.o.mono (by omega))⟩
end
section
open Go.RowKit Go.Sort
end
section
open Go.RowKit Go.Sort Go.BigFrame
end
section
open Go.RowKit Go.Sort Go.BigFrame
end
section
open Go.RowKit Go.Sort Go.BigFrame
theorem oO.five{w:World}{b o:Nat}{x:Nd}(h:oO w b o x):∃ A1 c1 A2 c2 A3 c3 A4 c4,cJ w x A1 A2 A3 A4 /\
 w.cell? ⟨b,o,none⟩=some (.string x.nm)/\w.cell? ⟨b,o+1,none⟩=some (.slice A1 x.ins.length c1)/\w.cell? ⟨b,o+2,none⟩=some (.slice A2 x.outs.length c2)/\w.cell? ⟨b,o+3,none⟩=some (.slice A3 x.vars.length c3)/\w.cell? ⟨b,o+4,none⟩=some (.slice A4 x.eqs.length c4):=by
 obtain⟨A1,c1,A2,c2,A3,c3,A4,c4,h1,h2⟩:=h;obtain⟨d0,d1,d2,d3,d4⟩:=tS h1;exact⟨A1,c1,A2,c2,A3,c3,A4,c4,h2,d0,d1,d2,d3,d4⟩
end
section
open Go.RowKit Go.Sort
def oL(q:Qn):Prop:=q.ns.length<=20/\kO q.x=true/\∀ j,j<q.ns.length->(q.ns[j]?.getD ByteArray.empty).size<=100
def jC(n:Nd):Prop:=iK n.ins=true/\iK n.outs=true/\iK n.vars=true/\n.eqs.length<=30/\n.nm.size<=100/\∀ j,j<n.eqs.length->oL (n.eqs[j]?.getD default)
def gI(p:Pg):Prop:=nC p.es/\p.ns.length<=10/\∀ j,j<p.ns.length->jC (p.ns[j]?.getD default)
def yV(w:World) (p:Pg) (e:Ending) (w':World):Prop:=∃ b,e=.returned (.bool b)/\(b=true->gI p)/\Below w.heap.size w w'
theorem aJy{w w':World}(p:Pg) (hb:Below w.heap.size w w'):yV w p (.returned (.bool false)) w':=⟨false,rfl,fun h=>(by cases h),hb⟩
theorem wQ{w:World}{zc cs:Array Value}{T:TypeId}{w4:World}(hw:(w.alloc (.cells zc T)).setRow w.heap.size cs=w4):
 Below w.heap.size w w4/\w.heap.size<w4.heap.size/\∀ w',Below w4.heap.size w4 w'->∀ j,w'.cell? ⟨w.heap.size,j,none⟩=cs[j]?:=by
 have h1:w4.heap[w.heap.size]?=some (.cells cs T):=by
  rw [<- hw];exact Xc _ _ _ _ _ _ (Zw _ _)
 have Aa:w.heap.size<w4.heap.size:=(Yl.1 h1).1;refine⟨?_,Aa,fun w' hb j=>?_⟩
 . rw [<- hw];exact Xb ((Yg _ _).alloc (Yh _) _) (Yh _) cs
 . rw [hb.cell (p:=⟨w.heap.size,j,none⟩) Aa];unfold World.cell?;rw [show w4.heap[(⟨w.heap.size,j,none⟩:Addr).block]?=_ from h1];rfl
theorem aFb:(Tryz.prog.info? 53).map (·.size)=some 5:=by kernel_rfl
theorem aRr:(Tryz.prog.info? 56).map (·.size)=some 7:=by kernel_rfl
theorem aH0(p:Pg) (E:Option Addr) (ec:Nat) (N:Option Addr) (nc:Nat) (w:World) (h:cW w p E N):
 Calls Tryz.prog 6 #[.agg (aP p E ec N nc)] w (yV w p):=by
 have HF:=Hd fun w1 hw=>kH w p E ec N nc w1 hw h;have Cj:=Hd fun w1 a=>aHy E p.es.length ec p.es w1 a;have Ax:=Hd fun A n c l w1 a=>aPc A n c l w1 a;have Cb:=Hd fun x A ca B cb w1 a=>aLy x A ca B cb w1 a;have Ec:=aQ.max h.2;have Cw:=Hd (show nC p.es->p.ns.length<=10->(∀ j,j<p.ns.length->jC (p.ns[j]?.getD default))->gI p from fun a b c=>⟨a,b,c⟩);have Ac:=Hd fun w' hb=>aJy (w:=w) (w':=w') p hb;have Ch:=Hd fun w' (hb:Below w.heap.size w w') (ht:gI p)=>(show yV w p (.returned (.bool true)) w' from⟨true,rfl,fun _=>ht,hb⟩);unfold aP;unfold aE at Cb;generalize gI p=TP at *
 go_enter Tryz.func6,Tryz.ntmps6
 go_upto_region 1 with(fail)
 generalize Bw:w.alloc _=w1;obtain⟨Bn,hg,Ba,Af⟩:=HF.o w1 Bw;have Ao:=Hd Bn;have HC:=Hd Af;have Df:=Hd Ba.1;have Cz:=Hd (show aQ 5 oO w1 N p.ns.length p.ns from Ba.2);simp only [aP] at HC;have q0:=HC.o w1 (Yg _ _) 0;have q1:=HC.o w1 (Yg _ _) 1;simp only [Ya,Yb,Yc] at q0 q1;clear Bw Af Bn HF h Ba;generalize Ci:p.ns=ns at *;generalize Bk:ns.length=n at *;have Ed:=Hd Bk;clear Bk Ci
 go_wp2_with fail
 refine(Cj.o w1 Df.o).mono ?_;rintro e w2 ⟨be,rfl,Ca,rfl⟩
 cases be with
 | false=>
  go_wp2_with fail
  go_ret
  exact Ac.o w1 Ao.o
 | true=>
  have De:=Hd (Ca rfl);clear Ca
  by_cases Ef:10<n
  . go_wp2_with fail
    go_ret
    exact Ac.o w1 Ao.o
  . have Eb:decide ((10:Int)<(n:Int))=false:=Zy (by omega)
    go_wp2_with fail
    go_loopw [3] (fun i wr=>∃ k:Nat,k<=n/\i=.int .i64 k/\(∀ j,j<k->jC (ns[j]?.getD default))/\Below w1.heap.size w1 wr) (fun i _=>n-(intOf i).toNat)
    case atStart=>exact⟨0,Yq _,rfl,fun j hj=>absurd hj (by omega),Yg _ _⟩
    case round=>
     obtain⟨k,hk,rfl,Cf,Al⟩:=hrel;have HT:=Hd Cf;have Bi:=Hd Al;have hz:=Al.size;have q1:=HC.o wr Al 1;simp only [Ya,Yb,Yc] at q1;clear Cf
     by_cases Ck:k<n
     . obtain⟨b,Du,rfl,hb,hc⟩:=aQ.at_ (eW.below Cz.o Al) (by omega);have Aq:=hc k Ck;clear hc Al;have HS:=Hd fun(hf:jC (ns[k]?.getD default))=>dK (P:=fun j=>jC (ns[j]?.getD default)) HT.o hf;generalize ns[k]?.getD default=x at Aq HS;have Bb:=Hd (show iK x.ins=true->iK x.outs=true->iK x.vars=true->x.eqs.length<=30->x.nm.size<=100->(∀ j,j<x.eqs.length->oL (x.eqs[j]?.getD default))->jC x from fun a b c d e f=>⟨a,b,c,d,e,f⟩);obtain⟨A1,c1,A2,c2,A3,c3,A4,c4,Av,Ct,Db,Cv,Dj,Cm⟩:=Aq.five;have Ds:=aQ.max Av.2.2.2;have Ah:=Hd fun zc w4 hw=>wQ (w:=wr) (zc:=zc) (cs:=bL x A1 c1 A2 c2 A3 c3 A4 c4) (T:=53) (w4:=w4) hw;have Dh:=Hd Av;simp only [bL] at Ah;clear Av Aq
       go_upto_region 7 with(refine Zu rfl _ _ _ rfl wr.heap.size _ rfl rfl _ _ (Zw _ _) aFb rfl (by simp [Value.oneCell']) ?_)
       generalize Bf:World.setRow _ _ _=w4;obtain⟨An,Cx,Ab⟩:=Ah.o _ w4 Bf;have Aw:=Hd (Bi.o.trans (An.mono hz));have Ag:=Hd (Ao.o.trans (Aw.o.mono (by omega)));have Cg:=Hd Ab;have Ad:=Hd (Dh.o.below An);have Dw:=An.size;obtain⟨r0,r1,r2,r3,r4,-⟩:=Sx (Ab w4 (Yg _ _));simp only [Ya,Yb,Yc] at r0 r1 r2 r3 r4;have Bp:=Hd (Ax.o A1 x.ins.length c1 x.ins w4 Ad.o.1);have Bm:=Hd (Ax.o A2 x.outs.length c2 x.outs w4 Ad.o.2.1);have Br:=Hd (Ax.o A3 x.vars.length c3 x.vars w4 Ad.o.2.2.1);have Cu:=Hd (show aQ 7 pQ w4 A4 x.eqs.length x.eqs from Ad.o.2.2.2);clear Bf Ab An Ct Db Cv Dj Cm q1 Ah;generalize Co:x.eqs=qs at *;generalize Bq:qs.length=nq at *;have Ea:=Hd Bq;clear Bq Co;generalize wr.heap.size=gb at *
       cases g1:iK x.ins with
       | false=>
        go_wp2_with fail
        refine Bp.o.mono ?_;rw [g1];rintro e v1 ⟨rfl,rfl⟩
        go_wp2_with fail
        go_ret
        exact Ac.o w4 Ag.o
       | true=>
        go_wp2_with fail
        refine Bp.o.mono ?_;rw [g1];rintro e v1 ⟨rfl,rfl⟩
        cases g2:iK x.outs with
        | false=>
         go_wp2_with fail
         refine Bm.o.mono ?_;rw [g2];rintro e v2 ⟨rfl,rfl⟩
         go_wp2_with fail
         go_ret
         exact Ac.o w4 Ag.o
        | true=>
         go_wp2_with fail
         refine Bm.o.mono ?_;rw [g2];rintro e v2 ⟨rfl,rfl⟩
         cases g3:iK x.vars with
         | false=>
          go_wp2_with fail
          refine Br.o.mono ?_;rw [g3];rintro e v3 ⟨rfl,rfl⟩
          go_wp2_with fail
          go_ret
          exact Ac.o w4 Ag.o
         | true=>
          go_wp2_with fail
          refine Br.o.mono ?_;rw [g3];rintro e v3 ⟨rfl,rfl⟩
          by_cases Dr:30<nq
          . go_wp2_with fail
            go_ret
            exact Ac.o w4 Ag.o
          . have Dt:decide ((30:Int)<(nq:Int))=false:=Zy (by omega)
            by_cases Cp:100<x.nm.size
            . have As:decide ((100:Int)<(x.nm.size:Int))=true:=Zx (by omega)
              go_wp2_with fail
              go_ret
              exact Ac.o w4 Ag.o
            . have As:decide ((100:Int)<(x.nm.size:Int))=false:=Zy (by omega);have Bb:=Hd (Bb.o g1 g2 g3 (by omega) (by omega));generalize wr=wo at *
              go_wp2_with fail
              go_loopw [5] (fun i wq=>∃ j:Nat,j<=nq/\i=.int .i64 j/\(∀ a,a<j->oL (qs[a]?.getD default))/\Below w4.heap.size w4 wq) (fun i _=>nq-(intOf i).toNat)
              case atStart=>exact⟨0,Yq _,rfl,fun j hj=>absurd hj (by omega),Yg _ _⟩
              case round=>
               obtain⟨j,hj,rfl,Bz,Ai⟩:=hrel;have Bh:=Hd Bz;have Bl:=Hd Ai;have Dl:=Ai.size;have r4:=Cg.o _ Ai 4;simp only [Ya,Yb,Yc] at r4;clear Bz
               by_cases Cr:j<nq
               . obtain⟨b5,Dm,rfl,Dx,Cd⟩:=aQ.at_ (gR.below Cu.o Ai) (by omega);have Bc:=Cd j Cr;clear Cd Ai;have Bx:=Hd fun(hf:oL (qs[j]?.getD default))=>dK (P:=fun a=>oL (qs[a]?.getD default)) Bh.o hf;generalize qs[j]?.getD default=q at Bc Bx;have Az:=Hd (show q.ns.length<=20->kO q.x=true->(∀ j,j<q.ns.length->(q.ns[j]?.getD ByteArray.empty).size<=100)->oL q from fun a b c=>⟨a,b,c⟩);obtain⟨A6,c6,A7,c7,A8,c8,Bd,Cc,s0,s1,s2,s3,s4,s5,s6⟩:=Bc.seven;have Dv:=Bd.max;have Ah:=Hd fun zc w6 hw=>wQ (w:=wr) (zc:=zc) (cs:=eM q A6 c6 A7 c7 A8 c8) (T:=56) (w4:=w6) hw;have Dd:=Hd Bd;have Da:=Hd Cc;simp only [eM] at Ah;clear Bd Cc Bc
                 go_upto_region 13 with(refine Zu rfl _ _ _ rfl wr.heap.size _ rfl rfl _ _ (Zw _ _) aRr rfl (by simp [Value.oneCell']) ?_)
                 generalize Bj:World.setRow _ _ _=w6;obtain⟨Aj,Dk,Aa⟩:=Ah.o _ w6 Bj;have Be:=Hd (Bl.o.trans (Aj.mono Dl));have Ak:=Hd (Ag.o.trans (Be.o.mono Ag.o.size));have Cy:=Hd Aa;have Ar:=Hd (Dd.o.below Aj);have Dy:=Aj.size;obtain⟨t0,t1,t2,t3,t4,t5⟩:=Sx (Aa w6 (Yg _ _));have t6:=Aa w6 (Yg _ _) 6;simp only [Ya,Yb,Yc] at t0 t1 t2 t3 t4 t5 t6;have Am:=Hd (Cb.o q.x A7 c7 A8 c8 w6 (Da.o.below Aj));clear Bj Aa Aj s0 s1 s2 s3 s4 s5 s6 r4 Ah;generalize Cq:q.ns=ss at *;generalize Bo:ss.length=nn at *;have Dz:=Hd Bo;clear Bo Cq;generalize wr.heap.size=gq at *
                 by_cases Dp:20<nn
                 . go_wp2_with fail
                   go_ret
                   exact Ac.o w6 Ak.o
                 . have Ee:decide ((20:Int)<(nn:Int))=false:=Zy (by omega)
                   cases gx:kO q.x with
                   | false=>
                    rw [gx] at Am
                    go_wp2_with fail
                    refine Am.o.mono ?_;rintro e w7 ⟨rfl,Ae⟩;have Ap:=Hd (Ak.o.trans (Ae.mono Ak.o.size));clear Ae
                    go_wp2_with fail
                    go_ret
                    exact Ac.o w7 Ap.o
                   | true=>
                    rw [gx] at Am;have Az:=Hd (Az.o (by omega) gx)
                    go_wp2_with fail
                    refine Am.o.mono ?_;rintro e w7 ⟨rfl,Ae⟩;have Ap:=Hd (Ak.o.trans (Ae.mono Ak.o.size));have Au:=Hd (Be.o.trans (Ae.mono Be.o.size));have u0:=Cy.o w7 Ae 0;simp only [Ya,Yb,Yc] at u0;have Ay:=Hd (Ar.o.below Ae);clear Ae t0 t1 t2 t3 t4 t5 t6
                    go_wp2_with fail
                    go_loop [7] (fun i=>∃ m:Nat,m<=nn/\i=.int .i64 m/\∀ a,a<m->(ss[a]?.getD ByteArray.empty).size<=100) (fun i=>nn-(intOf i).toNat)
                    case atStart=>exact⟨0,Yq _,rfl,fun j hj=>absurd hj (by omega)⟩
                    case round=>
                     obtain⟨m,hm,rfl,Ce⟩:=hrel;have Bv:=Hd Ce;clear Ce
                     by_cases Bg:m<nn
                     . obtain⟨b8,Di,rfl,Dq,Bt⟩:=Ay.o.at_ Bg;have Dn:=Bt m Bg;clear Bt;have Bu:=Hd fun(hf:(ss[m]?.getD ByteArray.empty).size<=100)=>dK (P:=fun a=>(ss[a]?.getD ByteArray.empty).size<=100) Bv.o hf;generalize ss[m]?.getD ByteArray.empty=y at Dn Bu
                       by_cases hy:100<y.size
                       . go_wp2_with fail
                         go_ret
                         exact Ac.o w7 Ap.o
                       . have Cl:=Hd (Bu.o (by omega))
                         go_wp2_with fail
                         go_round
                         case rel=>exact⟨m+1,by omega,by go_num,Cl.o⟩
                         case measure=>simp [intOf];omega
                     . have Cn:=Hd (Bx.o (Az.o fun a ha=>Bv.o a (by omega)))
                       go_wp2_with fail
                       go_roundw
                       case rel=>exact⟨j+1,by omega,by go_num,Cn.o,Au.o⟩
                       case measure=>simp [intOf];omega
               . have Dg:=Hd (HS.o (Bb.o fun a ha=>Bh.o a (by omega)));have Cs:=Hd (Aw.o.trans (Bl.o.mono Aw.o.size))
                 go_wp2_with fail
                 go_roundw
                 case rel=>exact⟨k+1,by omega,by go_num,Dg.o,Cs.o⟩
                 case measure=>simp [intOf];omega
     . have HP:=Hd (Cw.o De.o (by omega) fun a ha=>HT.o a (by omega))
       go_wp2_with fail
       go_ret
       exact Ch.o wr (Ao.o.trans (Bi.o.mono (by omega))) HP.o
end
section
open Go.RowKit Go.Sort
section
variable {P:Program}{w:World}
theorem aGf{ops:Array Oper}{rest:List Oper}{o:Oper}{a:Act}{Q:Exit->Act->World->Prop}(Ai:o.guard=none) (s x:Operand) (t:TypeId)
 (ho:o.op=.call { callee:=.builtin .append,args:=#[s,x],argTypes:=#[t,t] })
 (base:Nat) (e:TypeId) (i:TypeInfo) (z:Value) (Aa:Nat) (ht:P.underlying t=some (.slice e)) (hi:P.info? e=some i) (hz:i.zero=some z)
 (Af:i.size=6) (Al:i.bytes=Aa) (Aj:z.cells.size=6)
 (v:Value) (n:Nat) (xs:List Dc) (hs:a.eval s=v) (Ac:w.ownsRow base e 6 v n (eL xs))
 (A:Option Addr) (m c:Nat) (l:List Dc) (hx:a.eval x=.slice A m c) (hr:cH w A m l)
 (Ak:n+m<=maxLen) (Ab:(n+m)*Aa<=140737488355328) (Ag:base<=w.heap.size)
 (h:∀ v' w',w'.ownsRow base e 6 v' (n+m) (eL (xs++l))->w.grownBy w' v.ownBlock->wpList P ops Q rest (a.put o.dst v') w'):wpList P ops Q (o::rest) a w:=by
 obtain⟨hA,Ad⟩:=hr.news;have Ae:=aQ.len hr;rcases A with _ | ad
 . obtain rfl:m=0:=hA rfl;obtain rfl:l=[]:=Zq Ae;refine wpList_plain Ai fun K hK=>?_;have Ah:=vM (P:=P) (w:=w) base t o.type e i 6 ht hi v n _ Ac c;unfold Oper.wp
   simp [execOp,ho,resolve,invoke,builtin,hs,hx,Ah,Result.andThen]
   exact hK _ _ (h v w (by simpa using Ac) (World.grownBy.refl w _))
 . exact wpList_append_own_at w Ai s x t ho base e i z 6 Aa ht hi hz Af Al Aj (by decide) v n _ hs Ac ad m c (eL l) hx (by rw [qM,Ae]) (fun j u hu=>Ad ad rfl j u hu) (tV l) Ak Ab Ag fun v' w' h1 h2 _ _=>h v' w' (by rw [yA];exact h1) h2
end
end
end Go.Proofs.YtegjgiofmpolnaaGreat
