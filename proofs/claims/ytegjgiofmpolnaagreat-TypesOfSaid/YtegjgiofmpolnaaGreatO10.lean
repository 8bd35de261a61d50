/- Parts of the proof: PgE, PgF, PgG, PgH, PgJ, PgK, PgN, PgO, PgQ, PgI, SlR. Conditions: each theorem's own. -/
import Derived.Laws.Tables
import Derived.Shelf.Spec.SlicesGrow
import Derived.Ground.Names8Prog
import Derived.Test.YtegjgiofmpolnaaGreatO05
import Derived.Test.YtegjgiofmpolnaaGreatO09
namespace Go.Proofs.YtegjgiofmpolnaaGreat
set_option linter.unusedVariables false
set_option linter.unusedSimpArgs false
set_option maxRecDepth 100000
set_option maxHeartbeats 40000000
section
open Go.RowKit
def qnA(q:Qn) (A:Option Addr) (c:Nat) (A':Option Addr) (ca:Nat) (B':Option Addr) (cb:Nat):Array Value:=
 #[.slice A q.ns.length c,.int .i64 q.x.k,.int .i64 q.x.n,.string q.x.s,.int .i64 q.x.op,.slice A' q.x.arms.length ca,.slice B' q.x.subs.length cb]
def OkQ(q:Qn):Prop:=(∀ s∈q.ns,s.size≤maxLen)∧sizeX q.x≤1000000∧∀ p∈partsX q.x,ShortP p
theorem qn_facts(w:World) (q:Qn) (A:Option Addr) (c:Nat) (A':Option Addr) (ca:Nat) (B':Option Addr) (cb:Nat) (w1:World) (h:w.alloc (.cells (qnA q A c A' ca B' cb) 56)=w1) (hr:RdT w A q.ns.length q.ns) (hx:rdX w q.x A' B'):
 Below w.heap.size w w1∧w1.heap.size=w.heap.size+1∧RdT w1 A q.ns.length q.ns∧rdX w1 q.x A' B'∧∀ w',Below w1.heap.size w1 w'→∀ j,w'.cell? ⟨w.heap.size,j,none⟩=(qnA q A c A' ca B' cb)[j]?:=by
 subst h;have hb:=(Below.refl w.heap.size w).alloc (Nat.le_refl _) (.cells (qnA q A c A' ca B' cb) 56);refine⟨hb,by simp,hr.below hb,hx.below hb,fun w' hb j=>?_⟩;rw [hb.cell (p:=⟨w.heap.size,j,none⟩) (by simp),World.cell?_alloc_new]
theorem getD_mem{ss:List ByteArray}{k:Nat}(h:k<ss.length):ss[k]?.getD ByteArray.empty∈ss:=by
 rw [List.getElem?_eq_getElem h];exact List.getElem_mem _
theorem refEq(q:Qn) (A:Option Addr) (c:Nat) (A':Option Addr) (ca:Nat) (B':Option Addr) (cb:Nat) (w:World) (hr:RdT w A q.ns.length q.ns) (hx:rdX w q.x A' B') (hok:OkQ q):
 Calls Tryz.prog 108 #[.agg (qnA q A c A' ca B' cb)] w fun e w'=>e=.returned (.bool (eqB rightX q))∧Below w.heap.size w w':=by
 have HF:=Hd fun w1 h=>qn_facts w q A c A' ca B' cb w1 h hr hx;have HE:=Hd (show eqB rightX q=(q.ns.all (fun s=>lowB s.data.toList) && decide (0<q.ns.length) && rightX q.x && (decide (q.ns.length=1) || q.x.k==13)) from rfl);have hmx:=hr.max;have HOK:=Hd hok;have HRX:=Hd fun w1 (h:rdX w1 q.x A' B')=>refRight q.x A' ca B' cb w1 h hok.2.1 hok.2.2;have hlen:q.ns.length=q.ns.length:=rfl;unfold qnA;unfold exA at HRX;generalize eqB rightX q=out at *
 go_enter Tryz.func108,Tryz.ntmps108
 go_upto_region 1 with(fail)
 generalize hw1:w.alloc _=w1;obtain⟨hb1,hg,hR1,hX1,hcell⟩:=HF.out w1 hw1;have HB1:=Hd hb1;have HC:=Hd hcell;have HR1:=Hd hR1;have HX1:=Hd hX1;simp only [qnA] at HC;clear hw1 hcell hb1 HF hr hx hR1 hX1 hok;have HNS:=Hd (show(q.ns.all fun s=>lowB s.data.toList)=q.ns.all (fun s=>lowB s.data.toList) from rfl);generalize hss:q.ns=ss at *;generalize hnn:ss.length=n at *;have HNN:=Hd hnn;generalize q.x.k=xk at *;generalize q.x.n=xn at *;generalize q.x.s=xs at *;generalize q.x.op=xo at *;generalize q.x.arms.length=xa at *;generalize q.x.subs.length=xb at *;clear hnn hlen
 go_wp2_with fail
 go_loopw [3] (fun i wr=>∃ k:Nat,k≤n∧i=.int .i64 k∧((ss.take k).all fun s=>lowB s.data.toList)=true∧Below w1.heap.size w1 wr) (fun i _=>n-(intOf i).toNat)
 case atStart=>exact⟨0,Nat.zero_le _,rfl,by simp,Below.refl _ _⟩
 case round=>
  obtain⟨k,hk,rfl,hto,hnx⟩:=hrel;have HT:=Hd hto;have HNX:=Hd hnx;have q0:=HC.out wr hnx 0;simp only [Ya,Yb,Yc] at q0;clear hto
  by_cases hlt:k<n
  · obtain⟨b,off,rfl,hb,hc⟩:=(HR1.out.below hnx).at_ hlt;have c0:=hc k hlt;clear hc hnx;have hz:=HOK.out.1 (ss[k]?.getD ByteArray.empty) (by rw [hss];exact getD_mem (by rw [HNN.out];exact hlt));have HS:=Hd fun hf=>all_take_step (l:=ss) (f:=fun s=>lowB s.data.toList) HT.out (by rw [HNN.out];exact hlt) hf;have HN:=Hd fun hf=>all_at_no (l:=ss) (f:=fun s=>lowB s.data.toList) (k:=k) (by rw [HNN.out];exact hlt) hf;unfold maxLen at hz;rw [show(default:ByteArray)=ByteArray.empty from rfl] at HS HN;generalize ss[k]?.getD ByteArray.empty=x at c0 hz HS HN
    cases hl:lowB x.data.toList with
    | true=>
     have HS2:=Hd (HS.out hl)
     go_wp2_with fail
     refine(refLow x wr (by omega)).mono ?_;rw [hl];rintro e w2 ⟨rfl,hb2⟩;have HB2:=Hd (HNX.out.trans (hb2.mono HNX.out.size));clear hb2
     go_wp2_with fail
     go_roundw
     case rel=>exact⟨k+1,by omega,by go_num,HS2.out,HB2.out⟩
     case measure=>simp [intOf];omega
    | false=>
     have HN2:=Hd (HN.out hl)
     go_wp2_with fail
     refine(refLow x wr (by omega)).mono ?_;rw [hl];rintro e w2 ⟨rfl,hb2⟩;have HB2:=Hd (HNX.out.trans (hb2.mono HNX.out.size));clear hb2
     go_wp2_with fail
     go_ret
     exact⟨ret_bool (by rw [HE.out,HN2.out];rfl),HB1.out.trans (HB2.out.mono (by omega))⟩
  · obtain rfl:k=n:=by omega
    have HY:=Hd (show(ss.all fun s=>lowB s.data.toList)=true by have:=HT.out;rwa [List.take_of_length_le (by rw [HNN.out];exact Nat.le_refl _)] at this);rw [HY.out,Bool.true_and] at HE;obtain⟨-,q1,q2,q3,q4,q5⟩:=Sx (HC.out wr hnx);have q6:=HC.out wr hnx 6;simp only [Ya,Yb,Yc] at q1 q2 q3 q4 q5 q6;have HBW:=Hd (HB1.out.trans (hnx.mono (by omega)));have HR2:=Hd (HRX.out wr (HX1.out.below hnx));clear hnx;rcases Nat.eq_zero_or_pos k with h0 | h0
    · subst h0
      go_wp2_with fail
      go_ret
      exact⟨ret_bool (by rw [HE.out];simp),HBW.out⟩
    · have d0:decide ((0:Int)<(k:Int))=true:=decide_eq_true (by omega);rw [decide_eq_true h0,Bool.true_and] at HE
      cases hrx:rightX q.x with
      | false=>
       rw [hrx] at HR2 HE
       go_wp2_with fail
       refine HR2.out.mono ?_;rintro e w2 ⟨rfl,hb2⟩;have HB2:=Hd (below_next HBW.out hb2);clear hb2
       go_wp2_with fail
       go_ret
       exact⟨ret_bool (by rw [HE.out];rfl),HB2.out⟩
      | true=>
       rw [hrx,Bool.true_and] at HE;rw [hrx] at HR2
       go_wp2_with fail
       refine HR2.out.mono ?_;rintro e w2 ⟨rfl,hb2⟩;have HB2:=Hd (below_next HBW.out hb2);have r0:=(hb2.cell (p:=⟨w.heap.size,0,none⟩) (World.block_lt_of_cell? _ _ q0)).trans q0;have r1:=(hb2.cell (p:=⟨w.heap.size,1,none⟩) (World.block_lt_of_cell? _ _ q1)).trans q1;clear hb2 q0 q1 q2 q3 q4 q5 q6
       cases d1:((k:Int)==1) with
       | true=>
        have HE2:=Hd (show out=true by rw [HE.out,show decide (k=1)=true by have:=eq_of_beq d1;exact decide_eq_true (by omega)];rfl)
        go_wp2_with fail
        go_ret
        exact⟨ret_bool (by rw [HE2.out]),HB2.out⟩
       | false=>
        have HE2:=Hd (show out=(xk==13) by rw [HE.out,show decide (k=1)=false by have:=ne_of_beq_false d1;exact decide_eq_false (by omega)];rfl)
        go_wp2_with fail
        go_ret
        exact⟨ret_bool (by rw [HE2.out]),HB2.out⟩
end
section
open Go.RowKit Go.Sort
def OkN(n:Nd):Prop:=n.nm.size≤maxLen∧(∀ d∈n.all,OkD d)∧∀ q∈n.eqs,OkQ q
def ndAtB(es io i:Nat) (d:Dc):Bool:=declB es rightB d && !(decide (i<io) && !noB d.on)
theorem getD_memA{α:Type} [Inhabited α] {l:List α}{k:Nat}(h:k<l.length):l[k]?.getD default∈l:=by
 rw [List.getElem?_eq_getElem h];exact List.getElem_mem _
theorem all_io{n:Nd}{i:Nat}(h:i<n.ins.length+n.outs.length):n.all[i]?.getD default=(n.ins++n.outs)[i]?.getD default:=by
 rw [Nd.all,List.getElem?_append_left (by rw [List.length_append];exact h)]
theorem node_yes{n:Nd}{es:Nat}(h:∀ i,i<n.all.length→ndAtB es (n.ins.length+n.outs.length) i (n.all[i]?.getD default)=true):(n.all.all (declB es rightB) && portsB n)=true:=by
 rw [Bool.and_eq_true]
 constructor
 · rw [List.all_eq_true];intro d hd;obtain⟨i,hi,rfl⟩:=List.getElem_of_mem hd;have:=h i hi;rw [List.getElem?_eq_getElem hi,Option.getD_some,ndAtB,Bool.and_eq_true] at this;exact this.1
 · rw [portsB,List.all_eq_true];intro d hd;obtain⟨i,hi,rfl⟩:=List.getElem_of_mem hd;have hl:i<n.ins.length+n.outs.length:=by rw [← List.length_append];exact hi
   have:=h i (by rw [all_len];omega);rw [all_io hl,List.getElem?_eq_getElem hi,Option.getD_some,ndAtB,Bool.and_eq_true,decide_eq_true hl] at this
   simpa using this.2
theorem node_no{n:Nd}{es i:Nat}(hi:i<n.all.length) (h:ndAtB es (n.ins.length+n.outs.length) i (n.all[i]?.getD default)=false):(n.all.all (declB es rightB) && portsB n)=false:=by
 rw [Bool.and_eq_false_iff];rw [ndAtB,Bool.and_eq_false_iff] at h;rcases h with h | h
 · exact .inl (all_at_no hi h)
 · right
   have h2:(decide (i<n.ins.length+n.outs.length) && !noB (n.all[i]?.getD default).on)=true:=by simpa using h
   rw [Bool.and_eq_true,decide_eq_true_eq] at h2;rw [portsB];refine all_at_no (k:=i) (by rw [List.length_append];exact h2.1) ?_;rw [← all_io h2.1]
   simpa using h2.2
theorem QnAt.seven{w:World}{b o:Nat}{q:Qn}(h:QnAt w b o q):∃ A c A' ca B' cb,RdT w A q.ns.length q.ns∧rdX w q.x A' B' ∧
 w.cell? ⟨b,o,none⟩=some (.slice A q.ns.length c)∧w.cell? ⟨b,o+1,none⟩=some (.int .i64 q.x.k)∧w.cell? ⟨b,o+2,none⟩=some (.int .i64 q.x.n)∧w.cell? ⟨b,o+3,none⟩=some (.string q.x.s)∧w.cell? ⟨b,o+4,none⟩=some (.int .i64 q.x.op) ∧
  w.cell? ⟨b,o+5,none⟩=some (.slice A' q.x.arms.length ca)∧w.cell? ⟨b,o+6,none⟩=some (.slice B' q.x.subs.length cb):=by
 obtain⟨A,c,A',ca,B',cb,h1,h2,h3,h4⟩:=h;obtain⟨r0,r1,r2,r3,r4,r5⟩:=rangeAt_six h3;exact⟨A,c,A',ca,B',cb,h2,h4,h1,r0,r1,r2,r3,r4,r5⟩
theorem refNode(E:Option Addr) (es ec:Nat) (x:Nd) (A1:Option Addr) (c1:Nat) (A2:Option Addr) (c2:Nat) (A3:Option Addr) (c3:Nat) (A4:Option Addr) (c4:Nat) (w:World) (hes:es≤9223372036854775807) (h:rdN w x A1 A2 A3 A4) (hok:OkN x) (hn:x.all.length≤1000):
 Calls Tryz.prog 69 #[.slice E es ec,.agg (ndA x A1 c1 A2 c2 A3 c3 A4 c4)] w fun e w'=>e=.returned (.bool (nodeB es rightB rightX x))∧Below w.heap.size w w':=by
 have HF:=Hd fun w1 hw=>nd_facts w x A1 c1 A2 c2 A3 c3 A4 c4 w1 hw h;have HAL:=Hd fun w1 (hw:rdN w1 x A1 A2 A3 A4)=>refAllD x A1 c1 A2 c2 A3 c3 A4 c4 w1 hw hn;have HE:=Hd (show nodeB es rightB rightX x=((x.all.all (declB es rightB) && portsB x) && x.eqs.all (eqB rightX) && lowB x.nm.data.toList && decide (0<x.outs.length)) from rfl);have hio:x.ins.length+x.outs.length≤1000:=by have:=all_len x;omega
 have HOK:=Hd hok;have HYES:=Hd (fun hh=>node_yes (n:=x) (es:=es) hh);have HNO:=Hd (fun i hi hh=>node_no (n:=x) (es:=es) (i:=i) hi hh);have hmx:=RdS.max h.2.2.2;have HLN:=Hd fun w1=>refLow x.nm w1 (by have:=hok.1;unfold maxLen at this;omega);unfold ndA at HAL ⊢;generalize nodeB es rightB rightX x=out at *
 go_enter Tryz.func69,Tryz.ntmps69
 go_upto_region 1 with(fail)
 generalize hw1:w.alloc _=w1;obtain⟨hb1,hg,hR1,hcell⟩:=HF.out w1 hw1;have HB1:=Hd hb1;have HC:=Hd hcell;have HR1:=Hd hR1;obtain⟨q0,q1,q2,q3,q4,-⟩:=Sx (hcell w1 (Below.refl _ _));simp only [ndA,List.getElem?_toArray,List.getElem?_cons_zero,List.getElem?_cons_succ] at HC q0 q1 q2 q3 q4;have HA1:=Hd (HAL.out w1 hR1);have HQR:=Hd (show RdS 7 QnAt w1 A4 x.eqs.length x.eqs from hR1.2.2.2);clear hw1 hcell hb1 HF h hR1 hok HAL;generalize hq:x.eqs=qs at *;generalize hql:qs.length=nq at *;generalize x.ins.length=n1 at *;generalize x.outs.length=n2 at *;generalize x.vars.length=n3 at *;generalize hx:x.all=all at *;generalize hxl:all.length=na at *;have HXL:=Hd hxl;have HQL:=Hd hql;clear hxl hql
 go_wp2_with fail
 refine HA1.out.mono ?_;rintro e w2 ⟨A5,c5,rfl,hR2,hb2⟩;have HB2:=Hd (below_next HB1.out hb2);have HW2:=Hd hb2;have HR2:=Hd hR2;clear hR2 hb2 q0 q1 q2 q3 q4
 go_wp2_with fail
 go_loopw [6] (fun i wr=>∃ k:Nat,k≤na∧i=.int .i64 k∧(∀ j,j<k→ndAtB es (n1+n2) j (all[j]?.getD default)=true)∧Below w2.heap.size w2 wr) (fun i _=>na-(intOf i).toNat)
 case atStart=>exact⟨0,Nat.zero_le _,rfl,fun j hj=>absurd hj (by omega),Below.refl _ _⟩
 case round=>
  obtain⟨k,hk,rfl,hto,hnx⟩:=hrel;have HT:=Hd hto;have HNX:=Hd hnx;clear hto
  by_cases hlt:k<na
  · obtain⟨b,off,rfl,hb,hc⟩:=RdS.at_ (HR2.out.below hnx) (by omega);obtain⟨d0,d1,d2,d3,d4,d5⟩:=(hc k hlt).six;clear hc hnx;have hz:=HOK.out.2.1 (all[k]?.getD default) (by rw [hx];exact getD_memA (by rw [HXL.out];exact hlt));have HZ:=Hd hz;have HN:=Hd (HNO.out k hlt)
    have HS:=Hd fun(hf:ndAtB es (n1+n2) k (all[k]?.getD default)=true)=>(show ∀ j,j<k+1→ndAtB es (n1+n2) j (all[j]?.getD default)=true from fun j hj=>by
     rcases Nat.lt_or_ge j k with h1 | h1
     · exact HT.out j h1
     · obtain rfl:j=k:=by omega
       exact hf)
    clear hz;have HDE:=Hd fun(d:Dc)=>(show ndAtB es (n1+n2) k d=(declB es rightB d && !(decide (k<n1+n2) && !(d.on.toList==[]))) by simp only [Lib.toList_data];rfl);generalize all[k]?.getD default=d at d0 d1 d2 d3 d4 d5 HZ HN HS;have HDE:=Hd (HDE.out d);have HD:=Hd (refDecl E es ec d wr hes HZ.out);unfold dcA at HD;generalize ndAtB es (n1+n2) k d=ob at HDE HS HN
    cases h1:declB es rightB d with
    | false=>
     rw [h1] at HD HDE;have HN2:=Hd (HN.out (by rw [HDE.out];rfl))
     go_wp2_with fail
     refine HD.out.mono ?_;rintro e w3 ⟨rfl,hb3⟩;have HB3:=Hd (HNX.out.trans (hb3.mono HNX.out.size));clear hb3
     go_wp2_with fail
     go_ret
     exact⟨ret_bool (by rw [HE.out,HN2.out];rfl),below_next HB2.out HB3.out⟩
    | true=>
     rw [h1] at HD HDE
     cases h2:decide ((k:Int)<(n1:Int)+(n2:Int)) with
     | false=>
      have HS2:=Hd (HS.out (by rw [HDE.out,show decide (k<n1+n2)=false by have:=of_decide_eq_false h2;exact decide_eq_false (by omega)];rfl))
      go_wp2_with fail
      refine HD.out.mono ?_;rintro e w3 ⟨rfl,hb3⟩;have HB3:=Hd (HNX.out.trans (hb3.mono HNX.out.size));have hB:=HW2.out.trans (HB3.out.mono HW2.out.size);have q1:=HC.out w3 hB 1;have q2:=HC.out w3 hB 2;simp only [Ya,Yb,Yc] at q1 q2;clear hb3 hB
      go_wp2_with fail
      go_roundw
      case rel=>exact⟨k+1,by omega,by go_num,HS2.out,HB3.out⟩
      case measure=>simp [intOf];omega
     | true=>
      rw [show decide (k<n1+n2)=true by have:=of_decide_eq_true h2;exact decide_eq_true (by omega)] at HDE
      cases h3:(d.on.toList==[]) with
      | true=>
       rw [h3] at HDE;have HS2:=Hd (HS.out (by rw [HDE.out];rfl))
       go_wp2_with fail
       refine HD.out.mono ?_;rintro e w3 ⟨rfl,hb3⟩;have HB3:=Hd (HNX.out.trans (hb3.mono HNX.out.size));have hB:=HW2.out.trans (HB3.out.mono HW2.out.size);have q1:=HC.out w3 hB 1;have q2:=HC.out w3 hB 2;have t4:=(hb3.cell (p:=⟨b,off+k*6+4,none⟩) hb).trans d4;simp only [Ya,Yb,Yc] at q1 q2;clear hb3 hB d0 d1 d2 d3 d4 d5
       go_wp2_with fail
       go_roundw
       case rel=>exact⟨k+1,by omega,by go_num,HS2.out,HB3.out⟩
       case measure=>simp [intOf];omega
      | false=>
       rw [h3] at HDE;have HN2:=Hd (HN.out (by rw [HDE.out];rfl))
       go_wp2_with fail
       refine HD.out.mono ?_;rintro e w3 ⟨rfl,hb3⟩;have HB3:=Hd (HNX.out.trans (hb3.mono HNX.out.size));have hB:=HW2.out.trans (HB3.out.mono HW2.out.size);have q1:=HC.out w3 hB 1;have q2:=HC.out w3 hB 2;have t4:=(hb3.cell (p:=⟨b,off+k*6+4,none⟩) hb).trans d4;simp only [Ya,Yb,Yc] at q1 q2;clear hb3 hB d0 d1 d2 d3 d4 d5
       go_wp2_with fail
       go_ret
       exact⟨ret_bool (by rw [HE.out,HN2.out];rfl),below_next HB2.out HB3.out⟩
  · obtain rfl:k=na:=by omega
    have HY:=Hd (HYES.out fun i hi=>HT.out i hi);rw [HY.out,Bool.true_and] at HE;have HBW:=Hd (below_next HB2.out hnx);have HW3:=Hd (HW2.out.trans (hnx.mono HW2.out.size));clear hnx
    go_wp2_with fail
    go_loopw [7] (fun i wq=>∃ j:Nat,j≤nq∧i=.int .i64 j∧(qs.take j).all (eqB rightX)=true∧Below wr.heap.size wr wq) (fun i _=>nq-(intOf i).toNat)
    case atStart=>exact⟨0,Nat.zero_le _,rfl,by simp,Below.refl _ _⟩
    case round=>
     obtain⟨j,hj,rfl,hto,hnq⟩:=hrel;have HTJ:=Hd hto;have HNQ:=Hd hnq;have hB:=HW3.out.trans (hnq.mono HW3.out.size);obtain⟨q0,-,q2,-,q4,-⟩:=Sx (HC.out _ hB);simp only [Ya,Yb,Yc] at q0 q2 q4;clear hto
     by_cases hjl:j<nq
     · obtain⟨b,off,rfl,hb,hc⟩:=RdS.at_ (RdQ.below HQR.out hB) (by omega);have hcj:=hc j hjl;have HS:=Hd fun hf=>all_take_step (l:=qs) (f:=eqB rightX) HTJ.out (by rw [HQL.out];exact hjl) hf;have HN:=Hd fun hf=>all_at_no (l:=qs) (f:=eqB rightX) (k:=j) (by rw [HQL.out];exact hjl) hf;have HQ:=Hd (HOK.out.2.2 (qs[j]?.getD default) (by rw [hq];exact getD_memA (by rw [HQL.out];exact hjl)));clear hc hnq hB;generalize qs[j]?.getD default=q at hcj HS HN HQ;obtain⟨Aq,cq,A',ca,B',cb,hqt,hqx,r0,r1,r2,r3,r4,r5,r6⟩:=hcj.seven;have HEQ:=Hd (refEq q Aq cq A' ca B' cb _ hqt hqx HQ.out);unfold qnA at HEQ;clear hqt hqx hcj
       cases h1:eqB rightX q with
       | true=>
        rw [h1] at HEQ;have HS2:=Hd (HS.out h1)
        go_wp2_with fail
        refine HEQ.out.mono ?_;rintro e w3 ⟨rfl,hb3⟩;have HB3:=Hd (HNQ.out.trans (hb3.mono HNQ.out.size));clear hb3
        go_wp2_with fail
        go_roundw
        case rel=>
         exact⟨j+1,by omega,by go_num,HS2.out,HB3.out⟩
        case measure=>simp [intOf];omega
       | false=>
        rw [h1] at HEQ;have HN2:=Hd (HN.out h1)
        go_wp2_with fail
        refine HEQ.out.mono ?_;rintro e w3 ⟨rfl,hb3⟩;have HB3:=Hd (HNQ.out.trans (hb3.mono HNQ.out.size));clear hb3
        go_wp2_with fail
        go_ret
        exact⟨ret_bool (by rw [HE.out,HN2.out];rfl),below_next HBW.out HB3.out⟩
     · obtain rfl:j=nq:=by omega
       have HQA:=Hd (show qs.all (eqB rightX)=true by have:=HTJ.out;rwa [List.take_of_length_le (by rw [HQL.out];exact Nat.le_refl _)] at this);rw [HQA.out,Bool.true_and] at HE;have HBQ:=Hd (below_next HBW.out hnq);clear hnq hB
       cases h1:lowB x.nm.data.toList with
       | false=>
        rw [h1] at HE HLN
        go_wp2_with fail
        refine(HLN.out _).mono ?_;rintro e w3 ⟨rfl,hb3⟩;have HB3:=Hd (below_next HBQ.out hb3);clear hb3
        go_wp2_with fail
        go_ret
        exact⟨ret_bool (by rw [HE.out];rfl),HB3.out⟩
       | true=>
        rw [h1,Bool.true_and] at HE;rw [h1] at HLN;have HE2:=Hd (show out=decide (0<n2) from HE.out)
        go_wp2_with fail
        refine(HLN.out _).mono ?_;rintro e w3 ⟨rfl,hb3⟩;have HB3:=Hd (below_next HBQ.out hb3);have t2:=(hb3.cell (p:=⟨w.heap.size,2,none⟩) (World.block_lt_of_cell? _ _ q2)).trans q2;clear hb3 q0 q2 q4
        go_wp2_with fail
        go_ret
        exact⟨ret_bool HE2.out.symm,HB3.out⟩
end
section
open Go.RowKit Go.Sort
def pgA(p:Pg) (E:Option Addr) (ec:Nat) (N:Option Addr) (nc:Nat):Array Value:=#[.slice E p.es.length ec,.slice N p.ns.length nc]
def rdP(w:World) (p:Pg) (E N:Option Addr):Prop:=RdE w E p.es.length p.es∧RdNs w N p.ns.length p.ns
theorem rdP.below{w w':World}{p:Pg}{E N:Option Addr}(h:rdP w p E N) (hb:Below w.heap.size w w'):rdP w' p E N:=⟨h.1.below hb,h.2.below hb⟩
theorem pg_facts(w:World) (p:Pg) (E:Option Addr) (ec:Nat) (N:Option Addr) (nc:Nat) (w1:World) (h:w.alloc (.cells (pgA p E ec N nc) 25)=w1) (hr:rdP w p E N):
 Below w.heap.size w w1∧w1.heap.size=w.heap.size+1∧rdP w1 p E N∧∀ w',Below w1.heap.size w1 w'→∀ j,w'.cell? ⟨w.heap.size,j,none⟩=(pgA p E ec N nc)[j]?:=by
 subst h;have hb:=(Below.refl w.heap.size w).alloc (Nat.le_refl _) (.cells (pgA p E ec N nc) 25);refine⟨hb,by simp,hr.below hb,fun w' hb j=>?_⟩;rw [hb.cell (p:=⟨w.heap.size,j,none⟩) (by simp),World.cell?_alloc_new]
theorem findI_hit{α:Type} [Inhabited α] {f:α→Bool}:∀ {l:List α}{k i:Nat},k<l.length→(∀ j,j<k→f (l[j]?.getD default)=false)→f (l[k]?.getD default)=true→findI f l i=((i+k:Nat):Int)
 | [],k,i,h,_,_=>by simp at h
 | a::l,0,i,_,_,h=>by
  have h:f a=true:=by simpa using h
  simp [findI,h]
 | a::l,k+1,i,hk,hn,h=>by
  have h0:f a=false:=by simpa using hn 0 (by omega)
  rw [findI,h0,if_neg (by simp),findI_hit (k:=k) (by simpa using hk) (fun j hj=>by simpa using hn (j+1) (by omega)) (by simpa using h)]
  congr 1
  omega
theorem findI_none{α:Type} [Inhabited α] {f:α→Bool}:∀ {l:List α}{i:Nat},(∀ j,j<l.length→f (l[j]?.getD default)=false)→findI f l i=-1
 | [],i,_=>rfl
 | a::l,i,hn=>by
  have h0:f a=false:=by simpa using hn 0 (by simp)
  rw [findI,h0,if_neg (by simp)];exact findI_none fun j hj=>by simpa using hn (j+1) (by simpa using hj)
theorem to_next{P:Nat→Prop}{k:Nat}(h:∀ j,j<k→P j) (hk:P k):∀ j,j<k+1→P j:=fun j hj=>by
 rcases Nat.lt_or_ge j k with h1 | h1
 · exact h j h1
 · obtain rfl:j=k:=by omega
   exact hk
theorem refFind(p:Pg) (E:Option Addr) (ec:Nat) (N:Option Addr) (nc:Nat) (s:ByteArray) (w:World) (h:rdP w p E N):
 Calls Tryz.prog 103 #[.agg (pgA p E ec N nc),.string s] w fun e w'=>e=.returned (.int .i64 (findN p s))∧Below w.heap.size w w':=by
 have HF:=Hd fun w1 hw=>pg_facts w p E ec N nc w1 hw h;have hmx:=RdS.max h.2;have HHIT:=Hd (fun(k:Nat) hk hn hy=>show findN p s=(k:Int) by have:=findI_hit (l:=p.ns) (f:=fun n:Nd=>n.nm.data.toList==s.data.toList) (k:=k) (i:=0) hk hn hy;rwa [Nat.zero_add] at this);have HNO:=Hd (fun hn=>show findN p s=-1 from findI_none (l:=p.ns) (f:=fun n:Nd=>n.nm.data.toList==s.data.toList) (i:=0) hn);unfold pgA;generalize findN p s=out at *
 go_enter Tryz.func103,Tryz.ntmps103
 go_upto_region 1 with(fail)
 generalize hw1:w.alloc _=w1;obtain⟨hb1,hg,hR1,hcell⟩:=HF.out w1 hw1;have HB1:=Hd hb1;have q1:=hcell w1 (Below.refl _ _) 1;simp only [pgA,List.getElem?_toArray,List.getElem?_cons_zero,List.getElem?_cons_succ] at q1;have HR:=Hd (show RdS 5 NdAt w1 N p.ns.length p.ns from hR1.2);clear hw1 hcell hb1 HF h hR1;generalize p.es.length=ne at *;generalize hns:p.ns=ns at *;generalize hnl:ns.length=n at *;clear hns hnl
 go_wp2_with fail
 go_loop [5] (fun i=>∃ k:Nat,k≤n∧i=.int .i64 k∧∀ j,j<k→((ns[j]?.getD default).nm.data.toList==s.data.toList)=false) (fun i=>n-(intOf i).toNat)
 case atStart=>exact⟨0,Nat.zero_le _,rfl,fun j hj=>absurd hj (by omega)⟩
 case round=>
  obtain⟨k,hk,rfl,hto⟩:=hrel;have HT:=Hd hto;clear hto
  by_cases hlt:k<n
  · obtain⟨b,off,rfl,hb,hc⟩:=RdS.at_ HR.out (by omega);obtain⟨A1,c1,A2,c2,A3,c3,A4,c4,hra,-⟩:=hc k hlt;obtain⟨d0,-⟩:=ndL_five hra;clear hc hra;have HH:=Hd (HHIT.out k hlt HT.out);have HS:=Hd fun(hf:((ns[k]?.getD default).nm.data.toList==s.data.toList)=false)=>to_next (P:=fun j=>((ns[j]?.getD default).nm.data.toList==s.data.toList)=false) HT.out hf;generalize (ns[k]?.getD default).nm=x at d0 HH HS
    cases h1:(x.toList==s.toList) with
    | true=>
     have HH2:=Hd (HH.out (by rw [← Lib.toList_data,← Lib.toList_data];exact h1))
     go_wp2_with fail
     go_ret
     exact⟨ret_int HH2.out.symm,HB1.out⟩
    | false=>
     have HS2:=Hd (HS.out (by rw [← Lib.toList_data,← Lib.toList_data];exact h1))
     go_wp2_with fail
     go_round
     case rel=>exact⟨k+1,by omega,by go_num,HS2.out⟩
     case measure=>simp [intOf];omega
  · obtain rfl:k=n:=by omega
    have HN:=Hd (HNO.out HT.out)
    go_wp2_with fail
    go_ret
    exact⟨ret_int HN.out.symm,HB1.out⟩
end
section
open Go.RowKit Go.Sort
def RowD(w:World) (g:Nat) (d:Dc):Prop:=w.heap[g]?=some (Obj.cells (dcA d) 58)
theorem dcinfo:(Tryz.prog.info? 58).map (·.size)=some 6:=by kernel_rfl
theorem dcinfo'(d:Dc):(Tryz.prog.info? 58).map (·.size)=some (dcA d).size:=dcinfo
theorem res_dc2{fn:Func}{p u:Tmp}(h:fn.results=#[.cell p 58,.tmp u]) (tmps:Array Value) (w:World) (g:Nat){d:Dc}
 (hp:tmps.getD p undef=.pointer (some ⟨g,0,none⟩)) (hg:RowD w g d):(results fn tmps).run Tryz.prog w=.ok (.tuple #[.agg (dcA d),tmps.getD u undef]) w:=by
 rw [results_cell_tmp h,hp];have hl:=run_loadVar_row (P:=Tryz.prog) w g 58 58 _ _ _ hg Tryz.underlying58 rfl (dcinfo' d)
 simp [asAddr,Result.andThen,hl]
theorem RowD.below{w w':World}{g:Nat}{d:Dc}(h:RowD w g d) (hb:Below w.heap.size w w'):RowD w' g d:=by
 have hl:g<w.heap.size:=(Array.getElem?_eq_some_iff.1 h).1;exact(hb.block g hl).trans h
theorem RowD.set{w:World}{g:Nat}{d:Dc}(h:RowD w g d) (d':Dc):RowD (w.setRow g (dcA d')) g d':=setRow_heap _ _ _ _ _ _ h
theorem find_hit{α:Type} [Inhabited α] {f:α→Bool}:∀ {l:List α}{k:Nat},k<l.length→(∀ j,j<k→f (l[j]?.getD default)=false)→f (l[k]?.getD default)=true→l.find? f=some (l[k]?.getD default)
 | [],k,h,_,_=>by simp at h
 | a::l,0,_,_,h=>by
  have h:f a=true:=by simpa using h
  simp [List.find?,h]
 | a::l,k+1,hk,hn,h=>by
  have h0:f a=false:=by simpa using hn 0 (by omega)
  rw [List.find?_cons_of_neg (by simp [h0]),find_hit (k:=k) (by simpa using hk) (fun j hj=>by simpa using hn (j+1) (by omega)) (by simpa using h)]
  simp
theorem find_none{α:Type} [Inhabited α] {f:α→Bool}{l:List α}(hn:∀ j,j<l.length→f (l[j]?.getD default)=false):l.find? f=none:=by
 rw [List.find?_eq_none];intro a ha;obtain⟨j,hj,rfl⟩:=List.getElem_of_mem ha;have:=hn j hj;rw [List.getElem?_eq_getElem hj] at this
 simpa using this
def declV(o:Option Dc):Value:=.tuple #[.agg (dcA (o.getD default)),.bool o.isSome]
def DeclPost(w:World) (o:Option Dc) (e:Ending) (w':World):Prop:=e=.returned (declV o)∧Below w.heap.size w w'
theorem refDeclN(x:Nd) (A1:Option Addr) (c1:Nat) (A2:Option Addr) (c2:Nat) (A3:Option Addr) (c3:Nat) (A4:Option Addr) (c4:Nat) (s:ByteArray) (w:World) (h:rdN w x A1 A2 A3 A4) (hn:x.all.length≤1000):
 Calls Tryz.prog 28 #[.agg (ndA x A1 c1 A2 c2 A3 c3 A4 c4),.string s] w (DeclPost w (declO x s)):=by
 have HF:=Hd fun w1 hw=>nd_facts w x A1 c1 A2 c2 A3 c3 A4 c4 w1 hw h;have HAL:=Hd fun w1 (hw:rdN w1 x A1 A2 A3 A4)=>refAllD x A1 c1 A2 c2 A3 c3 A4 c4 w1 hw hn;have HHIT:=Hd (fun(k:Nat) hk hn hy=>show declO x s=some (x.all[k]?.getD default) from find_hit (l:=x.all) (f:=fun d:Dc=>d.nm.data.toList==s.data.toList) (k:=k) hk hn hy);have HNO:=Hd (fun hn=>show declO x s=none from find_none (l:=x.all) (f:=fun d:Dc=>d.nm.data.toList==s.data.toList) hn);unfold ndA at HAL ⊢;generalize declO x s=out at *
 go_enter Tryz.func28,Tryz.ntmps28
 go_upto_region 1 with(fail)
 generalize hw1:w.alloc _=w1;obtain⟨hb1,hg,hR1,hcell⟩:=HF.out w1 hw1;have HB1:=Hd hb1;have HR1:=Hd hR1;have HCE:=Hd hcell
 have HN2:=Hd fun w2 (hw:w1.alloc (.cells (dcA default) 58)=w2)=>(show RowD w2 (w.heap.size+1) default∧Below w1.heap.size w1 w2 by
  subst hw;exact⟨by rw [← hg];exact heap_alloc_new _ _,(Below.refl _ _).alloc (Nat.le_refl _) _⟩)
 clear hw1 hcell hb1 HF h hR1;generalize hw2:w1.alloc _=w2;obtain⟨hr2,hb2⟩:=HN2.out w2 hw2;have HW2:=Hd hb2;have HROW:=Hd hr2;simp only [ndA] at HCE;obtain⟨q0,q1,q2,q3,q4,-⟩:=Sx (HCE.out w2 hb2);simp only [Ya,Yb,Yc] at q0 q1 q2 q3 q4;have HA1:=Hd (HAL.out w2 (HR1.out.below hb2));clear hw2 hr2 hb2 HN2 HAL;generalize hx:x.all=all at *;generalize hxl:all.length=na at *;have HXL:=Hd hxl;clear hxl
 go_wp2_with fail
 refine HA1.out.mono ?_;rintro e w3 ⟨A5,c5,rfl,hR3,hb3⟩;have HROW3:=Hd (HROW.out.below hb3);have HW3:=Hd (HW2.out.trans (hb3.mono HW2.out.size));have HR3:=Hd hR3;have hz3:=hb3.size;clear hR3 hb3 q0 q1 q2 q3 q4
 go_wp2_with fail
 go_loop [7] (fun i=>∃ k:Nat,k≤na∧i=.int .i64 k∧∀ j,j<k→((all[j]?.getD default).nm.data.toList==s.data.toList)=false) (fun i=>na-(intOf i).toNat)
 case atStart=>exact⟨0,Nat.zero_le _,rfl,fun j hj=>absurd hj (by omega)⟩
 case round=>
  obtain⟨k,hk,rfl,hto⟩:=hrel;have HT:=Hd hto;clear hto
  by_cases hlt:k<na
  · obtain⟨b,off,rfl,hb,hc⟩:=RdS.at_ HR3.out (by omega);obtain⟨d0,d1,d2,d3,d4,d5⟩:=(hc k hlt).six;clear hc;have HH:=Hd (HHIT.out k hlt HT.out);have HS:=Hd fun(hf:((all[k]?.getD default).nm.data.toList==s.data.toList)=false)=>to_next (P:=fun j=>((all[j]?.getD default).nm.data.toList==s.data.toList)=false) HT.out hf;generalize all[k]?.getD default=d at d0 d1 d2 d3 d4 d5 HH HS
    cases h1:(d.nm.toList==s.toList) with
    | true=>
     have HH2:=Hd (HH.out (by rw [← Lib.toList_data,← Lib.toList_data];exact h1));have HSET:=Hd (HROW3.out.set d);have HBS:=Hd (below_setRow HW3.out (g:=w.heap.size+1) (by omega) (dcA d));unfold dcA at HSET HBS
     go_wp2_with (refine wpList_store_row rfl _ _ _ rfl (w.heap.size+1) _ rfl rfl _ _ HROW3.out dcinfo rfl (by simp [Value.oneCell']) ?_)
     exact bodyPost_ret (res_dc2 (p:=4) (u:=5) rfl _ _ (w.heap.size+1) rfl HSET.out) rfl ⟨by rw [HH2.out];rfl,HB1.out.trans (HBS.out.mono (by omega))⟩
    | false=>
     have HS2:=Hd (HS.out (by rw [← Lib.toList_data,← Lib.toList_data];exact h1))
     go_wp2_with fail
     go_round
     case rel=>exact⟨k+1,by omega,by go_num,HS2.out⟩
     case measure=>simp [intOf];omega
  · obtain rfl:k=na:=by omega
    have HN:=Hd (HNO.out HT.out);have HSET:=Hd (HROW3.out.set default);have HBS:=Hd (below_setRow HW3.out (g:=w.heap.size+1) (by omega) (dcA default))
    go_wp2_with (refine wpList_store_row rfl _ _ _ rfl (w.heap.size+1) _ rfl rfl _ _ HROW3.out dcinfo rfl (by simp [Value.oneCell']) ?_)
    exact bodyPost_ret (res_dc2 (d:=default) (p:=4) (u:=5) rfl _ _ (w.heap.size+1) rfl HSET.out) rfl ⟨by rw [HN.out];rfl,HB1.out.trans (HBS.out.mono (by omega))⟩
end
section
open Go.RowKit Go.Sort
end
section
open Go.RowKit Go.Sort Go.BigFrame
end
section
open Go.RowKit Go.Sort Go.BigFrame
end
section
open Go.RowKit Go.Sort Go.BigFrame
theorem NdAt.five{w:World}{b o:Nat}{x:Nd}(h:NdAt w b o x):∃ A1 c1 A2 c2 A3 c3 A4 c4,rdN w x A1 A2 A3 A4 ∧
 w.cell? ⟨b,o,none⟩=some (.string x.nm)∧w.cell? ⟨b,o+1,none⟩=some (.slice A1 x.ins.length c1)∧w.cell? ⟨b,o+2,none⟩=some (.slice A2 x.outs.length c2)∧w.cell? ⟨b,o+3,none⟩=some (.slice A3 x.vars.length c3)∧w.cell? ⟨b,o+4,none⟩=some (.slice A4 x.eqs.length c4):=by
 obtain⟨A1,c1,A2,c2,A3,c3,A4,c4,h1,h2⟩:=h;obtain⟨d0,d1,d2,d3,d4⟩:=ndL_five h1;exact⟨A1,c1,A2,c2,A3,c3,A4,c4,h2,d0,d1,d2,d3,d4⟩
end
section
open Go.RowKit Go.Sort
def TinyQ(q:Qn):Prop:=q.ns.length≤20∧tinyX q.x=true∧∀ j,j<q.ns.length→(q.ns[j]?.getD ByteArray.empty).size≤100
def TinyN(n:Nd):Prop:=fewD n.ins=true∧fewD n.outs=true∧fewD n.vars=true∧n.eqs.length≤30∧n.nm.size≤100∧∀ j,j<n.eqs.length→TinyQ (n.eqs[j]?.getD default)
def TinyP(p:Pg):Prop:=EsTiny p.es∧p.ns.length≤10∧∀ j,j<p.ns.length→TinyN (p.ns[j]?.getD default)
def SmallP(w:World) (p:Pg) (e:Ending) (w':World):Prop:=∃ b,e=.returned (.bool b)∧(b=true→TinyP p)∧Below w.heap.size w w'
theorem smallP_no{w w':World}(p:Pg) (hb:Below w.heap.size w w'):SmallP w p (.returned (.bool false)) w':=⟨false,rfl,fun h=>(by cases h),hb⟩
theorem box_store{w:World}{zc cs:Array Value}{T:TypeId}{w4:World}(hw:(w.alloc (.cells zc T)).setRow w.heap.size cs=w4):
 Below w.heap.size w w4∧w.heap.size<w4.heap.size∧∀ w',Below w4.heap.size w4 w'→∀ j,w'.cell? ⟨w.heap.size,j,none⟩=cs[j]?:=by
 have h1:w4.heap[w.heap.size]?=some (.cells cs T):=by
  rw [← hw];exact setRow_heap _ _ _ _ _ _ (heap_alloc_new _ _)
 have hlt:w.heap.size<w4.heap.size:=(Array.getElem?_eq_some_iff.1 h1).1;refine⟨?_,hlt,fun w' hb j=>?_⟩
 · rw [← hw];exact below_setRow ((Below.refl _ _).alloc (Nat.le_refl _) _) (Nat.le_refl _) cs
 · rw [hb.cell (p:=⟨w.heap.size,j,none⟩) hlt];unfold World.cell?;rw [show w4.heap[(⟨w.heap.size,j,none⟩:Addr).block]?=_ from h1];rfl
theorem ndinfo:(Tryz.prog.info? 53).map (·.size)=some 5:=by kernel_rfl
theorem qninfo:(Tryz.prog.info? 56).map (·.size)=some 7:=by kernel_rfl
theorem refPgSmall(p:Pg) (E:Option Addr) (ec:Nat) (N:Option Addr) (nc:Nat) (w:World) (h:rdP w p E N):
 Calls Tryz.prog 6 #[.agg (pgA p E ec N nc)] w (SmallP w p):=by
 have HF:=Hd fun w1 hw=>pg_facts w p E ec N nc w1 hw h;have HSM:=Hd fun w1 a=>refEnSmall E p.es.length ec p.es w1 a;have HFW:=Hd fun A n c l w1 a=>refFewD A n c l w1 a;have HXS:=Hd fun x A ca B cb w1 a=>refSmall x A ca B cb w1 a;have hmx:=RdS.max h.2;have HTP:=Hd (show EsTiny p.es→p.ns.length≤10→(∀ j,j<p.ns.length→TinyN (p.ns[j]?.getD default))→TinyP p from fun a b c=>⟨a,b,c⟩);have HNO:=Hd fun w' hb=>smallP_no (w:=w) (w':=w') p hb;have HYS:=Hd fun w' (hb:Below w.heap.size w w') (ht:TinyP p)=>(show SmallP w p (.returned (.bool true)) w' from⟨true,rfl,fun _=>ht,hb⟩);unfold pgA;unfold exA at HXS;generalize TinyP p=TP at *
 go_enter Tryz.func6,Tryz.ntmps6
 go_upto_region 1 with(fail)
 generalize hw1:w.alloc _=w1;obtain⟨hb1,hg,hR1,hcell⟩:=HF.out w1 hw1;have HB1:=Hd hb1;have HC:=Hd hcell;have HEN:=Hd hR1.1;have HNS:=Hd (show RdS 5 NdAt w1 N p.ns.length p.ns from hR1.2);simp only [pgA] at HC;have q0:=HC.out w1 (Below.refl _ _) 0;have q1:=HC.out w1 (Below.refl _ _) 1;simp only [Ya,Yb,Yc] at q0 q1;clear hw1 hcell hb1 HF h hR1;generalize hns:p.ns=ns at *;generalize hnl:ns.length=n at *;have HNL:=Hd hnl;clear hnl hns
 go_wp2_with fail
 refine(HSM.out w1 HEN.out).mono ?_;rintro e w2 ⟨be,rfl,hbe,rfl⟩
 cases be with
 | false=>
  go_wp2_with fail
  go_ret
  exact HNO.out w1 HB1.out
 | true=>
  have HTE:=Hd (hbe rfl);clear hbe
  by_cases h10:10<n
  · go_wp2_with fail
    go_ret
    exact HNO.out w1 HB1.out
  · have d10:decide ((10:Int)<(n:Int))=false:=decide_eq_false (by omega)
    go_wp2_with fail
    go_loopw [3] (fun i wr=>∃ k:Nat,k≤n∧i=.int .i64 k∧(∀ j,j<k→TinyN (ns[j]?.getD default))∧Below w1.heap.size w1 wr) (fun i _=>n-(intOf i).toNat)
    case atStart=>exact⟨0,Nat.zero_le _,rfl,fun j hj=>absurd hj (by omega),Below.refl _ _⟩
    case round=>
     obtain⟨k,hk,rfl,hto,hnx⟩:=hrel;have HT:=Hd hto;have HNX:=Hd hnx;have hz:=hnx.size;have q1:=HC.out wr hnx 1;simp only [Ya,Yb,Yc] at q1;clear hto
     by_cases hlt:k<n
     · obtain⟨b,off,rfl,hb,hc⟩:=RdS.at_ (RdNs.below HNS.out hnx) (by omega);have hnd:=hc k hlt;clear hc hnx;have HS:=Hd fun(hf:TinyN (ns[k]?.getD default))=>to_next (P:=fun j=>TinyN (ns[j]?.getD default)) HT.out hf;generalize ns[k]?.getD default=x at hnd HS;have HTN:=Hd (show fewD x.ins=true→fewD x.outs=true→fewD x.vars=true→x.eqs.length≤30→x.nm.size≤100→(∀ j,j<x.eqs.length→TinyQ (x.eqs[j]?.getD default))→TinyN x from fun a b c d e f=>⟨a,b,c,d,e,f⟩);obtain⟨A1,c1,A2,c2,A3,c3,A4,c4,hrd,p10,p11,p12,p13,p14⟩:=hnd.five;have hmq:=RdS.max hrd.2.2.2;have HBX:=Hd fun zc w4 hw=>box_store (w:=wr) (zc:=zc) (cs:=ndA x A1 c1 A2 c2 A3 c3 A4 c4) (T:=53) (w4:=w4) hw;have HRD:=Hd hrd;simp only [ndA] at HBX;clear hrd hnd
       go_upto_region 7 with(refine wpList_store_row rfl _ _ _ rfl wr.heap.size _ rfl rfl _ _ (heap_alloc_new _ _) ndinfo rfl (by simp [Value.oneCell']) ?_)
       generalize hw4:World.setRow _ _ _=w4;obtain⟨hb4,hlt4,hcell4⟩:=HBX.out _ w4 hw4;have HB4:=Hd (HNX.out.trans (hb4.mono hz));have HBV:=Hd (HB1.out.trans (HB4.out.mono (by omega)));have HC4:=Hd hcell4;have HRD4:=Hd (HRD.out.below hb4);have hz4:=hb4.size;obtain⟨r0,r1,r2,r3,r4,-⟩:=Sx (hcell4 w4 (Below.refl _ _));simp only [Ya,Yb,Yc] at r0 r1 r2 r3 r4;have HF1:=Hd (HFW.out A1 x.ins.length c1 x.ins w4 HRD4.out.1);have HF2:=Hd (HFW.out A2 x.outs.length c2 x.outs w4 HRD4.out.2.1);have HF3:=Hd (HFW.out A3 x.vars.length c3 x.vars w4 HRD4.out.2.2.1);have HQS:=Hd (show RdS 7 QnAt w4 A4 x.eqs.length x.eqs from HRD4.out.2.2.2);clear hw4 hcell4 hb4 p10 p11 p12 p13 p14 q1 HBX;generalize hqs:x.eqs=qs at *;generalize hql:qs.length=nq at *;have HQL:=Hd hql;clear hql hqs;generalize wr.heap.size=gb at *
       cases g1:fewD x.ins with
       | false=>
        go_wp2_with fail
        refine HF1.out.mono ?_;rw [g1];rintro e v1 ⟨rfl,rfl⟩
        go_wp2_with fail
        go_ret
        exact HNO.out w4 HBV.out
       | true=>
        go_wp2_with fail
        refine HF1.out.mono ?_;rw [g1];rintro e v1 ⟨rfl,rfl⟩
        cases g2:fewD x.outs with
        | false=>
         go_wp2_with fail
         refine HF2.out.mono ?_;rw [g2];rintro e v2 ⟨rfl,rfl⟩
         go_wp2_with fail
         go_ret
         exact HNO.out w4 HBV.out
        | true=>
         go_wp2_with fail
         refine HF2.out.mono ?_;rw [g2];rintro e v2 ⟨rfl,rfl⟩
         cases g3:fewD x.vars with
         | false=>
          go_wp2_with fail
          refine HF3.out.mono ?_;rw [g3];rintro e v3 ⟨rfl,rfl⟩
          go_wp2_with fail
          go_ret
          exact HNO.out w4 HBV.out
         | true=>
          go_wp2_with fail
          refine HF3.out.mono ?_;rw [g3];rintro e v3 ⟨rfl,rfl⟩
          by_cases h30:30<nq
          · go_wp2_with fail
            go_ret
            exact HNO.out w4 HBV.out
          · have d30:decide ((30:Int)<(nq:Int))=false:=decide_eq_false (by omega)
            by_cases h100:100<x.nm.size
            · have d100:decide ((100:Int)<(x.nm.size:Int))=true:=decide_eq_true (by omega)
              go_wp2_with fail
              go_ret
              exact HNO.out w4 HBV.out
            · have d100:decide ((100:Int)<(x.nm.size:Int))=false:=decide_eq_false (by omega);have HTN:=Hd (HTN.out g1 g2 g3 (by omega) (by omega));generalize wr=wo at *
              go_wp2_with fail
              go_loopw [5] (fun i wq=>∃ j:Nat,j≤nq∧i=.int .i64 j∧(∀ a,a<j→TinyQ (qs[a]?.getD default))∧Below w4.heap.size w4 wq) (fun i _=>nq-(intOf i).toNat)
              case atStart=>exact⟨0,Nat.zero_le _,rfl,fun j hj=>absurd hj (by omega),Below.refl _ _⟩
              case round=>
               obtain⟨j,hj,rfl,htq,hnq⟩:=hrel;have HTQ:=Hd htq;have HNQ:=Hd hnq;have hzq:=hnq.size;have r4:=HC4.out _ hnq 4;simp only [Ya,Yb,Yc] at r4;clear htq
               by_cases hjl:j<nq
               · obtain⟨b5,off5,rfl,hb5,hc5⟩:=RdS.at_ (RdQ.below HQS.out hnq) (by omega);have hqa:=hc5 j hjl;clear hc5 hnq;have HSQ:=Hd fun(hf:TinyQ (qs[j]?.getD default))=>to_next (P:=fun a=>TinyQ (qs[a]?.getD default)) HTQ.out hf;generalize qs[j]?.getD default=q at hqa HSQ;have HTY:=Hd (show q.ns.length≤20→tinyX q.x=true→(∀ j,j<q.ns.length→(q.ns[j]?.getD ByteArray.empty).size≤100)→TinyQ q from fun a b c=>⟨a,b,c⟩);obtain⟨A6,c6,A7,c7,A8,c8,hqt,hqx,s0,s1,s2,s3,s4,s5,s6⟩:=hqa.seven;have hmt:=hqt.max;have HBX:=Hd fun zc w6 hw=>box_store (w:=wr) (zc:=zc) (cs:=qnA q A6 c6 A7 c7 A8 c8) (T:=56) (w4:=w6) hw;have HQT:=Hd hqt;have HQX:=Hd hqx;simp only [qnA] at HBX;clear hqt hqx hqa
                 go_upto_region 13 with(refine wpList_store_row rfl _ _ _ rfl wr.heap.size _ rfl rfl _ _ (heap_alloc_new _ _) qninfo rfl (by simp [Value.oneCell']) ?_)
                 generalize hw6:World.setRow _ _ _=w6;obtain⟨hb6,hlt6,hcell6⟩:=HBX.out _ w6 hw6;have HB6:=Hd (HNQ.out.trans (hb6.mono hzq));have HBU:=Hd (HBV.out.trans (HB6.out.mono HBV.out.size));have HC6:=Hd hcell6;have HQT6:=Hd (HQT.out.below hb6);have hz6:=hb6.size;obtain⟨t0,t1,t2,t3,t4,t5⟩:=Sx (hcell6 w6 (Below.refl _ _));have t6:=hcell6 w6 (Below.refl _ _) 6;simp only [Ya,Yb,Yc] at t0 t1 t2 t3 t4 t5 t6;have HX6:=Hd (HXS.out q.x A7 c7 A8 c8 w6 (HQX.out.below hb6));clear hw6 hcell6 hb6 s0 s1 s2 s3 s4 s5 s6 r4 HBX;generalize hss:q.ns=ss at *;generalize hsl:ss.length=nn at *;have HSL:=Hd hsl;clear hsl hss;generalize wr.heap.size=gq at *
                 by_cases h20:20<nn
                 · go_wp2_with fail
                   go_ret
                   exact HNO.out w6 HBU.out
                 · have d20:decide ((20:Int)<(nn:Int))=false:=decide_eq_false (by omega)
                   cases gx:tinyX q.x with
                   | false=>
                    rw [gx] at HX6
                    go_wp2_with fail
                    refine HX6.out.mono ?_;rintro e w7 ⟨rfl,hb7⟩;have HB7:=Hd (HBU.out.trans (hb7.mono HBU.out.size));clear hb7
                    go_wp2_with fail
                    go_ret
                    exact HNO.out w7 HB7.out
                   | true=>
                    rw [gx] at HX6;have HTY:=Hd (HTY.out (by omega) gx)
                    go_wp2_with fail
                    refine HX6.out.mono ?_;rintro e w7 ⟨rfl,hb7⟩;have HB7:=Hd (HBU.out.trans (hb7.mono HBU.out.size));have HB67:=Hd (HB6.out.trans (hb7.mono HB6.out.size));have u0:=HC6.out w7 hb7 0;simp only [Ya,Yb,Yc] at u0;have HQT7:=Hd (HQT6.out.below hb7);clear hb7 t0 t1 t2 t3 t4 t5 t6
                    go_wp2_with fail
                    go_loop [7] (fun i=>∃ m:Nat,m≤nn∧i=.int .i64 m∧∀ a,a<m→(ss[a]?.getD ByteArray.empty).size≤100) (fun i=>nn-(intOf i).toNat)
                    case atStart=>exact⟨0,Nat.zero_le _,rfl,fun j hj=>absurd hj (by omega)⟩
                    case round=>
                     obtain⟨m,hm,rfl,hts⟩:=hrel;have HTS:=Hd hts;clear hts
                     by_cases hml:m<nn
                     · obtain⟨b8,off8,rfl,hb8,hc8⟩:=HQT7.out.at_ hml;have hs8:=hc8 m hml;clear hc8;have HSS:=Hd fun(hf:(ss[m]?.getD ByteArray.empty).size≤100)=>to_next (P:=fun a=>(ss[a]?.getD ByteArray.empty).size≤100) HTS.out hf;generalize ss[m]?.getD ByteArray.empty=y at hs8 HSS
                       by_cases hy:100<y.size
                       · go_wp2_with fail
                         go_ret
                         exact HNO.out w7 HB7.out
                       · have HS2:=Hd (HSS.out (by omega))
                         go_wp2_with fail
                         go_round
                         case rel=>exact⟨m+1,by omega,by go_num,HS2.out⟩
                         case measure=>simp [intOf];omega
                     · have HS3:=Hd (HSQ.out (HTY.out fun a ha=>HTS.out a (by omega)))
                       go_wp2_with fail
                       go_roundw
                       case rel=>exact⟨j+1,by omega,by go_num,HS3.out,HB67.out⟩
                       case measure=>simp [intOf];omega
               · have HS4:=Hd (HS.out (HTN.out fun a ha=>HTQ.out a (by omega)));have HB8:=Hd (HB4.out.trans (HNQ.out.mono HB4.out.size))
                 go_wp2_with fail
                 go_roundw
                 case rel=>exact⟨k+1,by omega,by go_num,HS4.out,HB8.out⟩
                 case measure=>simp [intOf];omega
     · have HP:=Hd (HTP.out HTE.out (by omega) fun a ha=>HT.out a (by omega))
       go_wp2_with fail
       go_ret
       exact HYS.out wr (HB1.out.trans (HNX.out.mono (by omega))) HP.out
end
section
open Go.RowKit Go.Sort
section
variable {P:Program}{w:World}
end
theorem RowD.cells{w:World}{g:Nat}{d:Dc}(h:RowD w g d) (j:Nat):w.cell? ⟨g,j,none⟩=(dcA d)[j]?:=by
 unfold World.cell?;rw [show w.heap[(⟨g,j,none⟩:Addr).block]?=_ from h];rfl
def ClockAt(x:Nd) (out:Option (List Dc)) (w:World) (k:Nat) (t:ByteArray) (v:Value):Prop:=
 ∃ acc A c,v=.slice A acc.length c∧RdD w A acc.length acc∧acc.length=k∧clockR x (13-k) t acc=out
theorem ClockAt.below{x:Nd}{out:Option (List Dc)}{w w':World}{k:Nat}{t:ByteArray}{v:Value}(h:ClockAt x out w k t v) (hb:Below w.heap.size w w'):ClockAt x out w' k t v:=by
 obtain⟨acc,A,c,e,h1,h2⟩:=h;exact⟨acc,A,c,e,h1.below hb,h2⟩
end
section
open Go.Shelf Go.RowKit Go.Lib Go.Sort
end
end Go.Proofs.YtegjgiofmpolnaaGreat
