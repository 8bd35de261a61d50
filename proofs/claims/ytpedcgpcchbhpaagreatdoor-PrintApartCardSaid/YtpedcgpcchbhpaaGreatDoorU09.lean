/- Parts of the proof: PgE, PgF, PgG, PgH, PgJ, PgK, PgN, PgI, PhD. Conditions: each theorem's own. -/
import Derived.Sort.Grow
import Derived.Laws.ResultCell
import Derived.Laws.Rows
import Derived.Laws.Tables
import Derived.Laws.CopyOwn
import Derived.Test.YtpedcgpcchbhpaaGreatDoorU06
import Derived.Test.YtpedcgpcchbhpaaGreatDoorU08
namespace Go.Proofs.YtpedcgpcchbhpaaGreatDoor
set_option linter.unusedVariables false
set_option linter.unusedSimpArgs false
set_option maxRecDepth 100000
set_option maxHeartbeats 40000000
section
open Go.RowKit
def qnA(q:Qn) (A:Option Addr) (c:Nat) (A':Option Addr) (ca:Nat) (B':Option Addr) (cb:Nat):Array Value:=
 #[.slice A q.ns.length c,.int .i64 q.x.k,.int .i64 q.x.n,.string q.x.s,.int .i64 q.x.op,.slice A' q.x.arms.length ca,.slice B' q.x.subs.length cb]
def OkQ(q:Qn):Prop:=(∀ s∈q.ns,s.size≤maxLen)∧sizeX q.x≤1000000∧∀ p∈partsX q.x,ShortP p
theorem qn_facts(w:World) (q:Qn) (A:Option Addr) (c:Nat) (A':Option Addr) (ca:Nat) (B':Option Addr) (cb:Nat) (w1:World) (h:w.alloc (.cells (qnA q A c A' ca B' cb) 49)=w1) (hr:RdT w A q.ns.length q.ns) (hx:rdX w q.x A' B'):
 Below w.heap.size w w1∧w1.heap.size=w.heap.size+1∧RdT w1 A q.ns.length q.ns∧rdX w1 q.x A' B'∧∀ w',Below w1.heap.size w1 w'→∀ j,w'.cell? ⟨w.heap.size,j,none⟩=(qnA q A c A' ca B' cb)[j]?:=by
 subst h;have hb:=(Below.refl w.heap.size w).alloc (Nat.le_refl _) (.cells (qnA q A c A' ca B' cb) 49);refine⟨hb,by simp,hr.below hb,hx.below hb,fun w' hb j=>?_⟩;rw [hb.cell (p:=⟨w.heap.size,j,none⟩) (by simp),World.cell?_alloc_new]
theorem getD_mem{ss:List ByteArray}{k:Nat}(h:k<ss.length):ss[k]?.getD ByteArray.empty∈ss:=by
 rw [List.getElem?_eq_getElem h];exact List.getElem_mem _
theorem refEq(q:Qn) (A:Option Addr) (c:Nat) (A':Option Addr) (ca:Nat) (B':Option Addr) (cb:Nat) (w:World) (hr:RdT w A q.ns.length q.ns) (hx:rdX w q.x A' B') (hok:OkQ q):
 Calls Tryz.prog 61 #[.agg (qnA q A c A' ca B' cb)] w fun e w'=>e=.returned (.bool (eqB rightX q))∧Below w.heap.size w w':=by
 have HF:=Hd fun w1 h=>qn_facts w q A c A' ca B' cb w1 h hr hx;have HE:=Hd (show eqB rightX q=(q.ns.all (fun s=>lowB s.data.toList) && decide (0<q.ns.length) && rightX q.x && (decide (q.ns.length=1) || q.x.k==13)) from rfl);have hmx:=hr.max;have HOK:=Hd hok;have HRX:=Hd fun w1 (h:rdX w1 q.x A' B')=>refRight q.x A' ca B' cb w1 h hok.2.1 hok.2.2;have hlen:q.ns.length=q.ns.length:=rfl;unfold qnA;unfold exA at HRX;generalize eqB rightX q=out at *
 go_enter Tryz.func61,Tryz.ntmps61
 go_upto_region 1 with(fail)
 generalize hw1:w.alloc _=w1;obtain⟨hb1,hg,hR1,hX1,hcell⟩:=HF.out w1 hw1;have HB1:=Hd hb1;have HC:=Hd hcell;have HR1:=Hd hR1;have HX1:=Hd hX1;simp only [qnA] at HC;clear hw1 hcell hb1 HF hr hx hR1 hX1 hok;have HNS:=Hd (show(q.ns.all fun s=>lowB s.data.toList)=q.ns.all (fun s=>lowB s.data.toList) from rfl);generalize hss:q.ns=ss at *;generalize hnn:ss.length=n at *;have HNN:=Hd hnn;generalize q.x.k=xk at *;generalize q.x.n=xn at *;generalize q.x.s=xs at *;generalize q.x.op=xo at *;generalize q.x.arms.length=xa at *;generalize q.x.subs.length=xb at *;clear hnn hlen
 go_wp2_with fail
 go_loopw [3] (fun i wr=>∃ k:Nat,k≤n∧i=.int .i64 k∧((ss.take k).all fun s=>lowB s.data.toList)=true∧Below w1.heap.size w1 wr) (fun i _=>n-(intOf i).toNat)
 case atStart=>exact⟨0,Nat.zero_le _,rfl,by simp,Below.refl _ _⟩
 case round=>
  obtain⟨k,hk,rfl,hto,hnx⟩:=hrel;have HT:=Hd hto;have HNX:=Hd hnx;have q0:=HC.out wr hnx 0;simp only [Ya,Yb,Yc] at q0;clear hto
  by_cases hlt:k<n
  · obtain⟨b,off,rfl,hb,hc⟩:=(HR1.out.below hnx).at_ hlt;have c0:=hc k hlt;clear hc hnx;have hz:=HOK.out.1 (ss[k]?.getD ByteArray.empty) (by rw [hss];exact getD_mem (by rw [HNN.out];exact hlt));have HS:=Hd fun hf=>all_take_step (l:=ss) (f:=fun s=>lowB s.data.toList) HT.out (by rw [HNN.out];exact hlt) hf;have HN:=Hd fun hf=>all_at_no (l:=ss) (f:=fun s=>lowB s.data.toList) (k:=k) (by rw [HNN.out];exact hlt) hf;unfold maxLen at hz;rw [show(default:ByteArray)=ByteArray.empty from rfl] at HS HN;generalize ss[k]?.getD ByteArray.empty=x at c0 hz HS HN
    cases hl:lowB x.data.toList with
    | true=>
     have HS2:=Hd (HS.out hl)
     go_wp2_with fail
     refine(refLow x wr (by omega)).mono ?_;rw [hl];rintro e w2 ⟨rfl,hb2⟩;have HB2:=Hd (HNX.out.trans (hb2.mono HNX.out.size));clear hb2
     go_wp2_with fail
     go_roundw
     case rel=>exact⟨k+1,by omega,by go_num,HS2.out,HB2.out⟩
     case measure=>simp [intOf];omega
    | false=>
     have HN2:=Hd (HN.out hl)
     go_wp2_with fail
     refine(refLow x wr (by omega)).mono ?_;rw [hl];rintro e w2 ⟨rfl,hb2⟩;have HB2:=Hd (HNX.out.trans (hb2.mono HNX.out.size));clear hb2
     go_wp2_with fail
     go_ret
     exact⟨ret_bool (by rw [HE.out,HN2.out];rfl),HB1.out.trans (HB2.out.mono (by omega))⟩
  · obtain rfl:k=n:=by omega
    have HY:=Hd (show(ss.all fun s=>lowB s.data.toList)=true by have:=HT.out;rwa [List.take_of_length_le (by rw [HNN.out];exact Nat.le_refl _)] at this);rw [HY.out,Bool.true_and] at HE;obtain⟨-,q1,q2,q3,q4,q5⟩:=Sx (HC.out wr hnx);have q6:=HC.out wr hnx 6;simp only [Ya,Yb,Yc] at q1 q2 q3 q4 q5 q6;have HBW:=Hd (HB1.out.trans (hnx.mono (by omega)));have HR2:=Hd (HRX.out wr (HX1.out.below hnx));clear hnx;rcases Nat.eq_zero_or_pos k with h0 | h0
    · subst h0
      go_wp2_with fail
      go_ret
      exact⟨ret_bool (by rw [HE.out];simp),HBW.out⟩
    · have d0:decide ((0:Int)<(k:Int))=true:=decide_eq_true (by omega);rw [decide_eq_true h0,Bool.true_and] at HE
      cases hrx:rightX q.x with
      | false=>
       rw [hrx] at HR2 HE
       go_wp2_with fail
       refine HR2.out.mono ?_;rintro e w2 ⟨rfl,hb2⟩;have HB2:=Hd (below_next HBW.out hb2);clear hb2
       go_wp2_with fail
       go_ret
       exact⟨ret_bool (by rw [HE.out];rfl),HB2.out⟩
      | true=>
       rw [hrx,Bool.true_and] at HE;rw [hrx] at HR2
       go_wp2_with fail
       refine HR2.out.mono ?_;rintro e w2 ⟨rfl,hb2⟩;have HB2:=Hd (below_next HBW.out hb2);have r0:=(hb2.cell (p:=⟨w.heap.size,0,none⟩) (World.block_lt_of_cell? _ _ q0)).trans q0;have r1:=(hb2.cell (p:=⟨w.heap.size,1,none⟩) (World.block_lt_of_cell? _ _ q1)).trans q1;clear hb2 q0 q1 q2 q3 q4 q5 q6
       cases d1:((k:Int)==1) with
       | true=>
        have HE2:=Hd (show out=true by rw [HE.out,show decide (k=1)=true by have:=eq_of_beq d1;exact decide_eq_true (by omega)];rfl)
        go_wp2_with fail
        go_ret
        exact⟨ret_bool (by rw [HE2.out]),HB2.out⟩
       | false=>
        have HE2:=Hd (show out=(xk==13) by rw [HE.out,show decide (k=1)=false by have:=ne_of_beq_false d1;exact decide_eq_false (by omega)];rfl)
        go_wp2_with fail
        go_ret
        exact⟨ret_bool (by rw [HE2.out]),HB2.out⟩
end
section
open Go.RowKit Go.Sort
def OkN(n:Nd):Prop:=n.nm.size≤maxLen∧(∀ d∈n.all,OkD d)∧∀ q∈n.eqs,OkQ q
def ndAtB(es io i:Nat) (d:Dc):Bool:=declB es rightB d && !(decide (i<io) && !noB d.on)
theorem getD_memA{α:Type} [Inhabited α] {l:List α}{k:Nat}(h:k<l.length):l[k]?.getD default∈l:=by
 rw [List.getElem?_eq_getElem h];exact List.getElem_mem _
theorem all_io{n:Nd}{i:Nat}(h:i<n.ins.length+n.outs.length):n.all[i]?.getD default=(n.ins++n.outs)[i]?.getD default:=by
 rw [Nd.all,List.getElem?_append_left (by rw [List.length_append];exact h)]
theorem node_yes{n:Nd}{es:Nat}(h:∀ i,i<n.all.length→ndAtB es (n.ins.length+n.outs.length) i (n.all[i]?.getD default)=true):(n.all.all (declB es rightB) && portsB n)=true:=by
 rw [Bool.and_eq_true]
 constructor
 · rw [List.all_eq_true];intro d hd;obtain⟨i,hi,rfl⟩:=List.getElem_of_mem hd;have:=h i hi;rw [List.getElem?_eq_getElem hi,Option.getD_some,ndAtB,Bool.and_eq_true] at this;exact this.1
 · rw [portsB,List.all_eq_true];intro d hd;obtain⟨i,hi,rfl⟩:=List.getElem_of_mem hd;have hl:i<n.ins.length+n.outs.length:=by rw [← List.length_append];exact hi
   have:=h i (by rw [all_len];omega);rw [all_io hl,List.getElem?_eq_getElem hi,Option.getD_some,ndAtB,Bool.and_eq_true,decide_eq_true hl] at this
   simpa using this.2
theorem node_no{n:Nd}{es i:Nat}(hi:i<n.all.length) (h:ndAtB es (n.ins.length+n.outs.length) i (n.all[i]?.getD default)=false):(n.all.all (declB es rightB) && portsB n)=false:=by
 rw [Bool.and_eq_false_iff];rw [ndAtB,Bool.and_eq_false_iff] at h;rcases h with h | h
 · exact .inl (all_at_no hi h)
 · right
   have h2:(decide (i<n.ins.length+n.outs.length) && !noB (n.all[i]?.getD default).on)=true:=by simpa using h
   rw [Bool.and_eq_true,decide_eq_true_eq] at h2;rw [portsB];refine all_at_no (k:=i) (by rw [List.length_append];exact h2.1) ?_;rw [← all_io h2.1]
   simpa using h2.2
theorem QnAt.seven{w:World}{b o:Nat}{q:Qn}(h:QnAt w b o q):∃ A c A' ca B' cb,RdT w A q.ns.length q.ns∧rdX w q.x A' B' ∧
 w.cell? ⟨b,o,none⟩=some (.slice A q.ns.length c)∧w.cell? ⟨b,o+1,none⟩=some (.int .i64 q.x.k)∧w.cell? ⟨b,o+2,none⟩=some (.int .i64 q.x.n)∧w.cell? ⟨b,o+3,none⟩=some (.string q.x.s)∧w.cell? ⟨b,o+4,none⟩=some (.int .i64 q.x.op) ∧
  w.cell? ⟨b,o+5,none⟩=some (.slice A' q.x.arms.length ca)∧w.cell? ⟨b,o+6,none⟩=some (.slice B' q.x.subs.length cb):=by
 obtain⟨A,c,A',ca,B',cb,h1,h2,h3,h4⟩:=h;obtain⟨r0,r1,r2,r3,r4,r5⟩:=rangeAt_six h3;exact⟨A,c,A',ca,B',cb,h2,h4,h1,r0,r1,r2,r3,r4,r5⟩
theorem refNode(E:Option Addr) (es ec:Nat) (x:Nd) (A1:Option Addr) (c1:Nat) (A2:Option Addr) (c2:Nat) (A3:Option Addr) (c3:Nat) (A4:Option Addr) (c4:Nat) (w:World) (hes:es≤9223372036854775807) (h:rdN w x A1 A2 A3 A4) (hok:OkN x) (hn:x.all.length≤1000):
 Calls Tryz.prog 32 #[.slice E es ec,.agg (ndA x A1 c1 A2 c2 A3 c3 A4 c4)] w fun e w'=>e=.returned (.bool (nodeB es rightB rightX x))∧Below w.heap.size w w':=by
 have HF:=Hd fun w1 hw=>nd_facts w x A1 c1 A2 c2 A3 c3 A4 c4 w1 hw h;have HAL:=Hd fun w1 (hw:rdN w1 x A1 A2 A3 A4)=>refAllD x A1 c1 A2 c2 A3 c3 A4 c4 w1 hw hn;have HE:=Hd (show nodeB es rightB rightX x=((x.all.all (declB es rightB) && portsB x) && x.eqs.all (eqB rightX) && lowB x.nm.data.toList && decide (0<x.outs.length)) from rfl);have hio:x.ins.length+x.outs.length≤1000:=by have:=all_len x;omega
 have HOK:=Hd hok;have HYES:=Hd (fun hh=>node_yes (n:=x) (es:=es) hh);have HNO:=Hd (fun i hi hh=>node_no (n:=x) (es:=es) (i:=i) hi hh);have hmx:=RdS.max h.2.2.2;have HLN:=Hd fun w1=>refLow x.nm w1 (by have:=hok.1;unfold maxLen at this;omega);unfold ndA at HAL ⊢;generalize nodeB es rightB rightX x=out at *
 go_enter Tryz.func32,Tryz.ntmps32
 go_upto_region 1 with(fail)
 generalize hw1:w.alloc _=w1;obtain⟨hb1,hg,hR1,hcell⟩:=HF.out w1 hw1;have HB1:=Hd hb1;have HC:=Hd hcell;have HR1:=Hd hR1;obtain⟨q0,q1,q2,q3,q4,-⟩:=Sx (hcell w1 (Below.refl _ _));simp only [ndA,List.getElem?_toArray,List.getElem?_cons_zero,List.getElem?_cons_succ] at HC q0 q1 q2 q3 q4;have HA1:=Hd (HAL.out w1 hR1);have HQR:=Hd (show RdS 7 QnAt w1 A4 x.eqs.length x.eqs from hR1.2.2.2);clear hw1 hcell hb1 HF h hR1 hok HAL;generalize hq:x.eqs=qs at *;generalize hql:qs.length=nq at *;generalize x.ins.length=n1 at *;generalize x.outs.length=n2 at *;generalize x.vars.length=n3 at *;generalize hx:x.all=all at *;generalize hxl:all.length=na at *;have HXL:=Hd hxl;have HQL:=Hd hql;clear hxl hql
 go_wp2_with fail
 refine HA1.out.mono ?_;rintro e w2 ⟨A5,c5,rfl,hR2,hb2⟩;have HB2:=Hd (below_next HB1.out hb2);have HW2:=Hd hb2;have HR2:=Hd hR2;clear hR2 hb2 q0 q1 q2 q3 q4
 go_wp2_with fail
 go_loopw [6] (fun i wr=>∃ k:Nat,k≤na∧i=.int .i64 k∧(∀ j,j<k→ndAtB es (n1+n2) j (all[j]?.getD default)=true)∧Below w2.heap.size w2 wr) (fun i _=>na-(intOf i).toNat)
 case atStart=>exact⟨0,Nat.zero_le _,rfl,fun j hj=>absurd hj (by omega),Below.refl _ _⟩
 case round=>
  obtain⟨k,hk,rfl,hto,hnx⟩:=hrel;have HT:=Hd hto;have HNX:=Hd hnx;clear hto
  by_cases hlt:k<na
  · obtain⟨b,off,rfl,hb,hc⟩:=RdS.at_ (HR2.out.below hnx) (by omega);obtain⟨d0,d1,d2,d3,d4,d5⟩:=(hc k hlt).six;clear hc hnx;have hz:=HOK.out.2.1 (all[k]?.getD default) (by rw [hx];exact getD_memA (by rw [HXL.out];exact hlt));have HZ:=Hd hz;have HN:=Hd (HNO.out k hlt)
    have HS:=Hd fun(hf:ndAtB es (n1+n2) k (all[k]?.getD default)=true)=>(show ∀ j,j<k+1→ndAtB es (n1+n2) j (all[j]?.getD default)=true from fun j hj=>by
     rcases Nat.lt_or_ge j k with h1 | h1
     · exact HT.out j h1
     · obtain rfl:j=k:=by omega
       exact hf)
    clear hz;have HDE:=Hd fun(d:Dc)=>(show ndAtB es (n1+n2) k d=(declB es rightB d && !(decide (k<n1+n2) && !(d.on.toList==[]))) by simp only [Lib.toList_data];rfl);generalize all[k]?.getD default=d at d0 d1 d2 d3 d4 d5 HZ HN HS;have HDE:=Hd (HDE.out d);have HD:=Hd (refDecl E es ec d wr hes HZ.out);unfold dcA at HD;generalize ndAtB es (n1+n2) k d=ob at HDE HS HN
    cases h1:declB es rightB d with
    | false=>
     rw [h1] at HD HDE;have HN2:=Hd (HN.out (by rw [HDE.out];rfl))
     go_wp2_with fail
     refine HD.out.mono ?_;rintro e w3 ⟨rfl,hb3⟩;have HB3:=Hd (HNX.out.trans (hb3.mono HNX.out.size));clear hb3
     go_wp2_with fail
     go_ret
     exact⟨ret_bool (by rw [HE.out,HN2.out];rfl),below_next HB2.out HB3.out⟩
    | true=>
     rw [h1] at HD HDE
     cases h2:decide ((k:Int)<(n1:Int)+(n2:Int)) with
     | false=>
      have HS2:=Hd (HS.out (by rw [HDE.out,show decide (k<n1+n2)=false by have:=of_decide_eq_false h2;exact decide_eq_false (by omega)];rfl))
      go_wp2_with fail
      refine HD.out.mono ?_;rintro e w3 ⟨rfl,hb3⟩;have HB3:=Hd (HNX.out.trans (hb3.mono HNX.out.size));have hB:=HW2.out.trans (HB3.out.mono HW2.out.size);have q1:=HC.out w3 hB 1;have q2:=HC.out w3 hB 2;simp only [Ya,Yb,Yc] at q1 q2;clear hb3 hB
      go_wp2_with fail
      go_roundw
      case rel=>exact⟨k+1,by omega,by go_num,HS2.out,HB3.out⟩
      case measure=>simp [intOf];omega
     | true=>
      rw [show decide (k<n1+n2)=true by have:=of_decide_eq_true h2;exact decide_eq_true (by omega)] at HDE
      cases h3:(d.on.toList==[]) with
      | true=>
       rw [h3] at HDE;have HS2:=Hd (HS.out (by rw [HDE.out];rfl))
       go_wp2_with fail
       refine HD.out.mono ?_;rintro e w3 ⟨rfl,hb3⟩;have HB3:=Hd (HNX.out.trans (hb3.mono HNX.out.size));have hB:=HW2.out.trans (HB3.out.mono HW2.out.size);have q1:=HC.out w3 hB 1;have q2:=HC.out w3 hB 2;have t4:=(hb3.cell (p:=⟨b,off+k*6+4,none⟩) hb).trans d4;simp only [Ya,Yb,Yc] at q1 q2;clear hb3 hB d0 d1 d2 d3 d4 d5
       go_wp2_with fail
       go_roundw
       case rel=>exact⟨k+1,by omega,by go_num,HS2.out,HB3.out⟩
       case measure=>simp [intOf];omega
      | false=>
       rw [h3] at HDE;have HN2:=Hd (HN.out (by rw [HDE.out];rfl))
       go_wp2_with fail
       refine HD.out.mono ?_;rintro e w3 ⟨rfl,hb3⟩;have HB3:=Hd (HNX.out.trans (hb3.mono HNX.out.size));have hB:=HW2.out.trans (HB3.out.mono HW2.out.size);have q1:=HC.out w3 hB 1;have q2:=HC.out w3 hB 2;have t4:=(hb3.cell (p:=⟨b,off+k*6+4,none⟩) hb).trans d4;simp only [Ya,Yb,Yc] at q1 q2;clear hb3 hB d0 d1 d2 d3 d4 d5
       go_wp2_with fail
       go_ret
       exact⟨ret_bool (by rw [HE.out,HN2.out];rfl),below_next HB2.out HB3.out⟩
  · obtain rfl:k=na:=by omega
    have HY:=Hd (HYES.out fun i hi=>HT.out i hi);rw [HY.out,Bool.true_and] at HE;have HBW:=Hd (below_next HB2.out hnx);have HW3:=Hd (HW2.out.trans (hnx.mono HW2.out.size));clear hnx
    go_wp2_with fail
    go_loopw [7] (fun i wq=>∃ j:Nat,j≤nq∧i=.int .i64 j∧(qs.take j).all (eqB rightX)=true∧Below wr.heap.size wr wq) (fun i _=>nq-(intOf i).toNat)
    case atStart=>exact⟨0,Nat.zero_le _,rfl,by simp,Below.refl _ _⟩
    case round=>
     obtain⟨j,hj,rfl,hto,hnq⟩:=hrel;have HTJ:=Hd hto;have HNQ:=Hd hnq;have hB:=HW3.out.trans (hnq.mono HW3.out.size);obtain⟨q0,-,q2,-,q4,-⟩:=Sx (HC.out _ hB);simp only [Ya,Yb,Yc] at q0 q2 q4;clear hto
     by_cases hjl:j<nq
     · obtain⟨b,off,rfl,hb,hc⟩:=RdS.at_ (RdQ.below HQR.out hB) (by omega);have hcj:=hc j hjl;have HS:=Hd fun hf=>all_take_step (l:=qs) (f:=eqB rightX) HTJ.out (by rw [HQL.out];exact hjl) hf;have HN:=Hd fun hf=>all_at_no (l:=qs) (f:=eqB rightX) (k:=j) (by rw [HQL.out];exact hjl) hf;have HQ:=Hd (HOK.out.2.2 (qs[j]?.getD default) (by rw [hq];exact getD_memA (by rw [HQL.out];exact hjl)));clear hc hnq hB;generalize qs[j]?.getD default=q at hcj HS HN HQ;obtain⟨Aq,cq,A',ca,B',cb,hqt,hqx,r0,r1,r2,r3,r4,r5,r6⟩:=hcj.seven;have HEQ:=Hd (refEq q Aq cq A' ca B' cb _ hqt hqx HQ.out);unfold qnA at HEQ;clear hqt hqx hcj
       cases h1:eqB rightX q with
       | true=>
        rw [h1] at HEQ;have HS2:=Hd (HS.out h1)
        go_wp2_with fail
        refine HEQ.out.mono ?_;rintro e w3 ⟨rfl,hb3⟩;have HB3:=Hd (HNQ.out.trans (hb3.mono HNQ.out.size));clear hb3
        go_wp2_with fail
        go_roundw
        case rel=>
         exact⟨j+1,by omega,by go_num,HS2.out,HB3.out⟩
        case measure=>simp [intOf];omega
       | false=>
        rw [h1] at HEQ;have HN2:=Hd (HN.out h1)
        go_wp2_with fail
        refine HEQ.out.mono ?_;rintro e w3 ⟨rfl,hb3⟩;have HB3:=Hd (HNQ.out.trans (hb3.mono HNQ.out.size));clear hb3
        go_wp2_with fail
        go_ret
        exact⟨ret_bool (by rw [HE.out,HN2.out];rfl),below_next HBW.out HB3.out⟩
     · obtain rfl:j=nq:=by omega
       have HQA:=Hd (show qs.all (eqB rightX)=true by have:=HTJ.out;rwa [List.take_of_length_le (by rw [HQL.out];exact Nat.le_refl _)] at this);rw [HQA.out,Bool.true_and] at HE;have HBQ:=Hd (below_next HBW.out hnq);clear hnq hB
       cases h1:lowB x.nm.data.toList with
       | false=>
        rw [h1] at HE HLN
        go_wp2_with fail
        refine(HLN.out _).mono ?_;rintro e w3 ⟨rfl,hb3⟩;have HB3:=Hd (below_next HBQ.out hb3);clear hb3
        go_wp2_with fail
        go_ret
        exact⟨ret_bool (by rw [HE.out];rfl),HB3.out⟩
       | true=>
        rw [h1,Bool.true_and] at HE;rw [h1] at HLN;have HE2:=Hd (show out=decide (0<n2) from HE.out)
        go_wp2_with fail
        refine(HLN.out _).mono ?_;rintro e w3 ⟨rfl,hb3⟩;have HB3:=Hd (below_next HBQ.out hb3);have t2:=(hb3.cell (p:=⟨w.heap.size,2,none⟩) (World.block_lt_of_cell? _ _ q2)).trans q2;clear hb3 q0 q2 q4
        go_wp2_with fail
        go_ret
        exact⟨ret_bool HE2.out.symm,HB3.out⟩
end
section
open Go.RowKit Go.Sort
def pgA(p:Pg) (E:Option Addr) (ec:Nat) (N:Option Addr) (nc:Nat):Array Value:=#[.slice E p.es.length ec,.slice N p.ns.length nc]
def rdP(w:World) (p:Pg) (E N:Option Addr):Prop:=RdE w E p.es.length p.es∧RdNs w N p.ns.length p.ns
theorem rdP.below{w w':World}{p:Pg}{E N:Option Addr}(h:rdP w p E N) (hb:Below w.heap.size w w'):rdP w' p E N:=⟨h.1.below hb,h.2.below hb⟩
theorem pg_facts(w:World) (p:Pg) (E:Option Addr) (ec:Nat) (N:Option Addr) (nc:Nat) (w1:World) (h:w.alloc (.cells (pgA p E ec N nc) 25)=w1) (hr:rdP w p E N):
 Below w.heap.size w w1∧w1.heap.size=w.heap.size+1∧rdP w1 p E N∧∀ w',Below w1.heap.size w1 w'→∀ j,w'.cell? ⟨w.heap.size,j,none⟩=(pgA p E ec N nc)[j]?:=by
 subst h;have hb:=(Below.refl w.heap.size w).alloc (Nat.le_refl _) (.cells (pgA p E ec N nc) 25);refine⟨hb,by simp,hr.below hb,fun w' hb j=>?_⟩;rw [hb.cell (p:=⟨w.heap.size,j,none⟩) (by simp),World.cell?_alloc_new]
theorem findI_hit{α:Type} [Inhabited α] {f:α→Bool}:∀ {l:List α}{k i:Nat},k<l.length→(∀ j,j<k→f (l[j]?.getD default)=false)→f (l[k]?.getD default)=true→findI f l i=((i+k:Nat):Int)
 | [],k,i,h,_,_=>by simp at h
 | a::l,0,i,_,_,h=>by
  have h:f a=true:=by simpa using h
  simp [findI,h]
 | a::l,k+1,i,hk,hn,h=>by
  have h0:f a=false:=by simpa using hn 0 (by omega)
  rw [findI,h0,if_neg (by simp),findI_hit (k:=k) (by simpa using hk) (fun j hj=>by simpa using hn (j+1) (by omega)) (by simpa using h)]
  congr 1
  omega
theorem findI_none{α:Type} [Inhabited α] {f:α→Bool}:∀ {l:List α}{i:Nat},(∀ j,j<l.length→f (l[j]?.getD default)=false)→findI f l i=-1
 | [],i,_=>rfl
 | a::l,i,hn=>by
  have h0:f a=false:=by simpa using hn 0 (by simp)
  rw [findI,h0,if_neg (by simp)];exact findI_none fun j hj=>by simpa using hn (j+1) (by simpa using hj)
theorem to_next{P:Nat→Prop}{k:Nat}(h:∀ j,j<k→P j) (hk:P k):∀ j,j<k+1→P j:=fun j hj=>by
 rcases Nat.lt_or_ge j k with h1 | h1
 · exact h j h1
 · obtain rfl:j=k:=by omega
   exact hk
end
section
open Go.RowKit Go.Sort
def RowD(w:World) (g:Nat) (d:Dc):Prop:=w.heap[g]?=some (Obj.cells (dcA d) 38)
theorem RowD.below{w w':World}{g:Nat}{d:Dc}(h:RowD w g d) (hb:Below w.heap.size w w'):RowD w' g d:=by
 have hl:g<w.heap.size:=(Array.getElem?_eq_some_iff.1 h).1;exact(hb.block g hl).trans h
theorem RowD.set{w:World}{g:Nat}{d:Dc}(h:RowD w g d) (d':Dc):RowD (w.setRow g (dcA d')) g d':=setRow_heap _ _ _ _ _ _ h
end
section
open Go.RowKit Go.Sort
theorem toL_eq{a b:ByteArray}(h:a.data.toList=b.data.toList):a=b:=by
 cases a
 cases b
 congr 1
 exact Array.toList_inj.1 h
theorem eqD_refl(a:Dc):eqD a a=true:=by simp [eqD]
theorem refSameDecls(A:Option Addr) (n c:Nat) (l:List Dc) (B:Option Addr) (m d:Nat) (r:List Dc) (w:World) (hl:RdD w A n l) (hr:RdD w B m r):
 Calls Tryz.prog 63 #[.slice A n c,.slice B m d] w fun e w'=>e=.returned (.bool (sameL eqD l r))∧Below w.heap.size w w':=by
 have hln:=hl.len;have hrn:=hr.len;have hlm:=hl.max;have hrm:=hr.max
 by_cases hnm:n=m
 · subst hnm;have HNO:=Hd fun(i:Nat) hi hf=>sameL_no (f:=eqD) (l:=l) (m:=r) (i:=i) (by rw [hln];exact hi) (by rw [hln,hrn]) hf;have HYES:=Hd fun hf=>sameL_yes (f:=eqD) (l:=l) (m:=r) (by rw [hln,hrn]) (by rw [hln];exact hf);generalize sameL eqD l r=out at *;have dn:decide ((n:Int)=(n:Int))=true:=decide_eq_true rfl
   go_enter Tryz.func63,Tryz.ntmps63
   go_wp2_with fail
   go_loopw [5] (fun i wr=>∃ k:Nat,k≤n∧i=.int .i64 k∧(∀ j,j<k→eqD (l[j]?.getD default) (r[j]?.getD default)=true)∧Below w.heap.size w wr) (fun i _=>n-(intOf i).toNat)
   case atStart=>exact⟨0,Nat.zero_le _,rfl,fun j hj=>absurd hj (by omega),Below.refl _ _⟩
   case round=>
    obtain⟨k,hk,rfl,hto,hnx⟩:=hrel;have HT:=Hd hto;have HNX:=Hd hnx;clear hto
    by_cases hlt:k<n
    · obtain⟨b,off,rfl,hb,hc⟩:=RdS.at_ (hl.below hnx) (by omega);obtain⟨b',off',rfl,hb',hc'⟩:=RdS.at_ (hr.below hnx) (by omega);obtain⟨p0,p1,p2,p3,p4,p5⟩:=(hc k hlt).six;obtain⟨q0,q1,q2,q3,q4,q5⟩:=(hc' k hlt).six;clear hc hc' hnx;have HN:=Hd (HNO.out k hlt);have HS:=Hd fun(hf:eqD (l[k]?.getD default) (r[k]?.getD default)=true)=>to_next (P:=fun j=>eqD (l[j]?.getD default) (r[j]?.getD default)=true) HT.out hf;generalize l[k]?.getD default=x at p0 p1 p2 p3 p4 p5 HN HS;generalize r[k]?.getD default=y at q0 q1 q2 q3 q4 q5 HN HS;obtain⟨x0,x1,x2,x3,x4,x5⟩:=x;obtain⟨y0,y1,y2,y3,y4,y5⟩:=y;simp only at p0 p1 p2 p3 p4 p5 q0 q1 q2 q3 q4 q5
      by_cases e0:x0=y0
      · subst e0
        by_cases e1:x1=y1
        · subst e1
          by_cases e2:x2=y2
          · subst e2
            by_cases e3:x3=y3
            · subst e3
              by_cases e4:x4=y4
              · subst e4
                by_cases e5:x5=y5
                · subst e5;have HS2:=Hd (HS.out (eqD_refl _))
                  go_upto_region 6 with(fail)
                  go_quiet (fail)
                  go_wp2_with fail
                  go_roundw
                  case rel=>exact⟨k+1,by omega,by go_num,HS2.out,below_drewN HNX.out _⟩
                  case measure=>simp [intOf];omega
                · have f5:(x5.toList==y5.toList)=false:=by rw [Lib.toList_data,Lib.toList_data,beq_eq_false_iff_ne];exact fun h=>e5 (toL_eq h)
                  have HN2:=Hd (HN.out (by have h:=f5;rw [Lib.toList_data,Lib.toList_data] at h;simp [eqD,h]))
                  go_upto_region 6 with(fail)
                  go_quiet (fail)
                  go_wp2_with fail
                  go_ret
                  exact⟨ret_bool HN2.out.symm,below_drewN HNX.out _⟩
              · have f4:(x4.toList==y4.toList)=false:=by rw [Lib.toList_data,Lib.toList_data,beq_eq_false_iff_ne];exact fun h=>e4 (toL_eq h)
                have HN2:=Hd (HN.out (by have h:=f4;rw [Lib.toList_data,Lib.toList_data] at h;simp [eqD,h]))
                go_upto_region 6 with(fail)
                go_quiet (fail)
                go_wp2_with fail
                go_ret
                exact⟨ret_bool HN2.out.symm,below_drewN HNX.out _⟩
            · have f3:(x3==y3)=false:=by rw [beq_eq_false_iff_ne];exact e3
              have HN2:=Hd (HN.out (by simp [eqD,f3]))
              go_upto_region 6 with(fail)
              go_quiet (fail)
              go_wp2_with fail
              go_ret
              exact⟨ret_bool HN2.out.symm,below_drewN HNX.out _⟩
          · have f2:(x2==y2)=false:=by rw [beq_eq_false_iff_ne];exact e2
            have HN2:=Hd (HN.out (by simp [eqD,f2]))
            go_upto_region 6 with(fail)
            go_quiet (fail)
            go_wp2_with fail
            go_ret
            exact⟨ret_bool HN2.out.symm,below_drewN HNX.out _⟩
        · have f1:(x1==y1)=false:=by rw [beq_eq_false_iff_ne];exact e1
          have HN2:=Hd (HN.out (by simp [eqD,f1]))
          go_upto_region 6 with(fail)
          go_quiet (fail)
          go_wp2_with fail
          go_ret
          exact⟨ret_bool HN2.out.symm,below_drewN HNX.out _⟩
      · have f0:(x0.toList==y0.toList)=false:=by rw [Lib.toList_data,Lib.toList_data,beq_eq_false_iff_ne];exact fun h=>e0 (toL_eq h)
        have HN2:=Hd (HN.out (by have h:=f0;rw [Lib.toList_data,Lib.toList_data] at h;simp [eqD,h]))
        go_upto_region 6 with(fail)
        go_quiet (fail)
        go_wp2_with fail
        go_ret
        exact⟨ret_bool HN2.out.symm,below_drewN HNX.out _⟩
    · have hkn:k=n:=by omega
      have HY:=Hd (HYES.out fun i hi=>HT.out i (by omega))
      go_wp2_with fail
      go_ret
      exact⟨ret_bool HY.out.symm,HNX.out⟩
 · have dn:decide ((n:Int)=(m:Int))=false:=decide_eq_false (by omega);have dm:((n:Int)==(m:Int))=false:=by rw [beq_eq_false_iff_ne];omega
   have HE:=Hd (sameL_len (f:=eqD) (l:=l) (m:=r) (by rw [hln,hrn];exact hnm))
   go_enter Tryz.func63,Tryz.ntmps63
   go_wp2_with fail
   go_ret
   exact⟨ret_bool HE.out.symm,Below.refl _ _⟩
end
section
open Go.RowKit Go.Sort Go.BigFrame
def eqE(a b:En):Bool:=(a.1.data.toList==b.1.data.toList) && sameT a.2 b.2
theorem enD(es:List En) (i:Nat):es[i]?.getD default=(nmE es i,csE es i):=by
 unfold nmE csE
 cases es[i]? <;> rfl
theorem refEnSame(A:Option Addr) (n c:Nat) (l:List En) (B:Option Addr) (m d:Nat) (r:List En) (w:World) (hl:RdE w A n l) (hr:RdE w B m r):
 Calls Tryz.prog 35 #[.slice A n c,.slice B m d] w fun e w'=>e=.returned (.bool (sameL eqE l r))∧Below w.heap.size w w':=by
 have hln:=hl.len;have hrn:=hr.len;have hlm:=hl.max;have hrm:=hr.max
 by_cases hnm:n=m
 · subst hnm;have HNO:=Hd fun(i:Nat) hi hf=>sameL_no (f:=eqE) (l:=l) (m:=r) (i:=i) (by rw [hln];exact hi) (by rw [hln,hrn]) hf;have HYES:=Hd fun hf=>sameL_yes (f:=eqE) (l:=l) (m:=r) (by rw [hln,hrn]) (by rw [hln];exact hf);generalize sameL eqE l r=out at *;have dn:decide ((n:Int)=(n:Int))=true:=decide_eq_true rfl
   go_enter Tryz.func35,Tryz.ntmps35
   go_wp2_with fail
   go_loopw [5] (fun i wr=>∃ k:Nat,k≤n∧i=.int .i64 k∧(∀ j,j<k→eqE (l[j]?.getD default) (r[j]?.getD default)=true)∧Below w.heap.size w wr) (fun i _=>n-(intOf i).toNat)
   case atStart=>exact⟨0,Nat.zero_le _,rfl,fun j hj=>absurd hj (by omega),Below.refl _ _⟩
   case round=>
    obtain⟨k,hk,rfl,hto,hnx⟩:=hrel;have HT:=Hd hto;have HNX:=Hd hnx;clear hto
    by_cases hlt:k<n
    · obtain⟨b,off,rfl,hb,hc⟩:=(hl.below hnx).at_ hlt;obtain⟨b',off',rfl,hb',hc'⟩:=(hr.below hnx).at_ hlt;obtain⟨p0,A1,n1,c1,p1,hR1⟩:=hc k hlt;obtain⟨q0,A2,n2,c2,q1,hR2⟩:=hc' k hlt;clear hc hc' hnx;have HN:=Hd (HNO.out k hlt);have HS:=Hd fun(hf:eqE (l[k]?.getD default) (r[k]?.getD default)=true)=>to_next (P:=fun j=>eqE (l[j]?.getD default) (r[j]?.getD default)=true) HT.out hf;rw [enD,enD] at HN HS;have HEQ:=Hd (show eqE (nmE l k,csE l k) (nmE r k,csE r k)=((nmE l k).toList==(nmE r k).toList && sameT (csE l k) (csE r k)) by simp only [Lib.toList_data];rfl);rw [HEQ.out] at HN HS;clear HEQ;have HR1:=Hd hR1;have HR2:=Hd hR2;clear hR1 hR2;generalize nmE l k=x at p0 HN HS;generalize nmE r k=y at q0 HN HS;generalize csE l k=ss at HR1 HN HS;generalize csE r k=tt at HR2 HN HS;have HBR:=Hd fun d os=>below_regrown wr d os
      cases h1:(x.toList==y.toList) with
      | false=>
       have HN2:=Hd (HN.out (by rw [h1];rfl))
       go_upto_region 6 with(fail)
       have l0:=fun d os=>cell_regrown p0 d os;have l1:=fun d os=>cell_regrown p1 d os;have l2:=fun d os=>cell_regrown q0 d os;have l3:=fun d os=>cell_regrown q1 d os;have cA:=fun d os=>Calls.regrown_of (refNames A1 A2 n1 n2 c1 c2 ss tt (grow (redrawn wr d) os) (HR1.out.below (below_regrown wr d os)) (HR2.out.below (below_regrown wr d os)));clear cA;refine wp_region_quiet_below (by kernel_rfl) (by kernel_rfl) ?_
       repeat (go_big_quiet_step (fail))
       refine wpQuiet_nil ?_;intro _ hw';obtain⟨⟨dq,osq⟩,hw''⟩:=hw';subst hw'';have HB3:=Hd (HNX.out.trans ((HBR.out dq osq).mono HNX.out.size));clear l0 l1 l2 l3
       go_wp2_with fail
       go_ret
       exact⟨ret_bool HN2.out.symm,HB3.out⟩
      | true=>
       cases h2:sameT ss tt with
       | false=>
        have HN2:=Hd (HN.out (by rw [h1,h2];rfl))
        go_upto_region 6 with(fail)
        have l0:=fun d os=>cell_regrown p0 d os;have l1:=fun d os=>cell_regrown p1 d os;have l2:=fun d os=>cell_regrown q0 d os;have l3:=fun d os=>cell_regrown q1 d os;have cA:=fun d os=>Calls.regrown_of (refNames A1 A2 n1 n2 c1 c2 ss tt (grow (redrawn wr d) os) (HR1.out.below (below_regrown wr d os)) (HR2.out.below (below_regrown wr d os)));simp only [h2] at cA;refine wp_region_quiet_below (by kernel_rfl) (by kernel_rfl) ?_
        repeat (go_big_quiet_step (exact cA _ _))
        refine wpQuiet_nil ?_;intro _ hw';obtain⟨⟨dq,osq⟩,hw''⟩:=hw';subst hw'';have HB3:=Hd (HNX.out.trans ((HBR.out dq osq).mono HNX.out.size));clear cA l0 l1 l2 l3
        go_wp2_with fail
        go_ret
        exact⟨ret_bool HN2.out.symm,HB3.out⟩
       | true=>
        have HS2:=Hd (HS.out (by rw [h1,h2];rfl))
        go_upto_region 6 with(fail)
        have l0:=fun d os=>cell_regrown p0 d os;have l1:=fun d os=>cell_regrown p1 d os;have l2:=fun d os=>cell_regrown q0 d os;have l3:=fun d os=>cell_regrown q1 d os;have cA:=fun d os=>Calls.regrown_of (refNames A1 A2 n1 n2 c1 c2 ss tt (grow (redrawn wr d) os) (HR1.out.below (below_regrown wr d os)) (HR2.out.below (below_regrown wr d os)));simp only [h2] at cA;refine wp_region_quiet_below (by kernel_rfl) (by kernel_rfl) ?_
        repeat (go_big_quiet_step (exact cA _ _))
        refine wpQuiet_nil ?_;intro _ hw';obtain⟨⟨dq,osq⟩,hw''⟩:=hw';subst hw'';have HB3:=Hd (HNX.out.trans ((HBR.out dq osq).mono HNX.out.size));clear cA l0 l1 l2 l3
        go_wp2_with fail
        go_roundw
        case rel=>exact⟨k+1,by omega,by go_num,HS2.out,HB3.out⟩
        case measure=>simp [intOf];omega
    · have hkn:k=n:=by omega
      have HY:=Hd (HYES.out fun i hi=>HT.out i (by omega))
      go_wp2_with fail
      go_ret
      exact⟨ret_bool HY.out.symm,HNX.out⟩
 · have dm:((n:Int)==(m:Int))=false:=by rw [beq_eq_false_iff_ne];omega
   have HE:=Hd (sameL_len (f:=eqE) (l:=l) (m:=r) (by rw [hln,hrn];exact hnm))
   go_enter Tryz.func35,Tryz.ntmps35
   go_wp2_with fail
   go_ret
   exact⟨ret_bool HE.out.symm,Below.refl _ _⟩
end
section
open Go.RowKit Go.Sort Go.BigFrame
def eqQ(a b:Qn):Bool:=sameT a.ns b.ns && sameX a.x b.x
def eqN(a b:Nd):Bool:=(a.nm.data.toList==b.nm.data.toList) && sameL eqD a.ins b.ins && sameL eqD a.outs b.outs && sameL eqD a.vars b.vars && sameL eqQ a.eqs b.eqs
theorem refSameNode(x:Nd) (A1:Option Addr) (c1:Nat) (A2:Option Addr) (c2:Nat) (A3:Option Addr) (c3:Nat) (A4:Option Addr) (c4:Nat) (y:Nd) (B1:Option Addr) (d1:Nat) (B2:Option Addr) (d2:Nat) (B3:Option Addr) (d3:Nat) (B4:Option Addr) (d4:Nat) (w:World)
 (h:rdN w x A1 A2 A3 A4) (h':rdN w y B1 B2 B3 B4):
 Calls Tryz.prog 36 #[.agg (ndA x A1 c1 A2 c2 A3 c3 A4 c4),.agg (ndA y B1 d1 B2 d2 B3 d3 B4 d4)] w fun e w'=>e=.returned (.bool (eqN x y))∧Below w.heap.size w w':=by
 have HF:=Hd fun w1 hw=>nd_facts w x A1 c1 A2 c2 A3 c3 A4 c4 w1 hw h;have HF':=Hd fun w1 w2 hw (hb:Below w.heap.size w w1)=>nd_facts w1 y B1 d1 B2 d2 B3 d3 B4 d4 w2 hw (h'.below hb);have HE:=Hd (show eqN x y=((x.nm.toList==y.nm.toList) && sameL eqD x.ins y.ins && sameL eqD x.outs y.outs && sameL eqD x.vars y.vars && sameL eqQ x.eqs y.eqs) by simp only [Lib.toList_data];rfl);have HC1:=Hd fun w1 a b=>refSameDecls A1 x.ins.length c1 x.ins B1 y.ins.length d1 y.ins w1 a b;have HC2:=Hd fun w1 a b=>refSameDecls A2 x.outs.length c2 x.outs B2 y.outs.length d2 y.outs w1 a b;have HC3:=Hd fun w1 a b=>refSameDecls A3 x.vars.length c3 x.vars B3 y.vars.length d3 y.vars w1 a b;have HNO:=Hd fun(i:Nat) hi hl hf=>sameL_no (f:=eqQ) (l:=x.eqs) (m:=y.eqs) (i:=i) hi hl hf;have HYES:=Hd fun hl hf=>sameL_yes (f:=eqQ) (l:=x.eqs) (m:=y.eqs) hl hf;have HLEN:=Hd fun hl=>sameL_len (f:=eqQ) (l:=x.eqs) (m:=y.eqs) hl;have hmx:=RdS.max h.2.2.2;have hmy:=RdS.max h'.2.2.2;unfold ndA;generalize eqN x y=out at *
 go_enter Tryz.func36,Tryz.ntmps36
 go_upto_region 1 with(fail)
 generalize hw1:w.alloc _=w1;obtain⟨hb1,hg,hR1,hcell⟩:=HF.out w1 hw1;have HB1:=Hd hb1;generalize hw2:w1.alloc _=w2;obtain⟨hb2,hg2,hR2,hcell2⟩:=HF'.out w1 w2 hw2 hb1;rw [hg] at hg2;have HB2:=Hd (below_next hb1 hb2);have HX:=Hd fun w' (hb:Below w2.heap.size w2 w') j=>(show w'.cell? ⟨w.heap.size,j,none⟩=(ndA x A1 c1 A2 c2 A3 c3 A4 c4)[j]? from hcell w' (hb2.trans (hb.mono hb2.size)) j);have HY:=Hd fun w' (hb:Below w2.heap.size w2 w') j=>(show w'.cell? ⟨w.heap.size+1,j,none⟩=(ndA y B1 d1 B2 d2 B3 d3 B4 d4)[j]? by rw [← hg];exact hcell2 w' hb j);have HRX:=Hd (hR1.below hb2);have HRY:=Hd hR2;have HRX4:=Hd (show RdS 7 QnAt w2 A4 x.eqs.length x.eqs from(hR1.below hb2).2.2.2);have HRY4:=Hd (show RdS 7 QnAt w2 B4 y.eqs.length y.eqs from hR2.2.2.2);simp only [ndA] at HX HY;clear hw1 hw2 hcell hcell2 hb1 hb2 HF HF' h h' hR1 hR2;have HBW:=Hd (Below.refl w2.heap.size w2);generalize x.nm=s at *;generalize y.nm=t at *;generalize hqx:x.eqs=qs at *;generalize hqy:y.eqs=rs at *;generalize hnx:qs.length=n at *;generalize hny:rs.length=m at *;have p0:=HX.out w2 HBW.out 0;have q0:=HY.out w2 HBW.out 0;have p1:=HX.out w2 HBW.out 1;have q1:=HY.out w2 HBW.out 1;simp only [Ya,Yb,Yc] at p0 q0 p1 q1
 cases e0:(s.toList==t.toList) with
 | false=>
  have HB:=Hd HB2.out;rw [e0] at HE
  go_wp2_with fail
  go_ret
  exact⟨ret_bool (by rw [HE.out];rfl),HB.out⟩
 | true=>
  rw [e0] at HE
  cases e1:sameL eqD x.ins y.ins with
  | false=>
   rw [e1] at HE
   go_wp2_with fail
   refine(HC1.out w2 (RdD.below HRX.out.1 HBW.out) (RdD.below HRY.out.1 HBW.out)).mono ?_;rw [e1];rintro e v1 ⟨rfl,hb⟩;have HBW:=Hd (HBW.out.trans (hb.mono HBW.out.size));have HB:=Hd (HB2.out.trans (HBW.out.mono HB2.out.size));clear hb p1 q1;clear p0 q0
   go_wp2_with fail
   go_ret
   exact⟨ret_bool (by rw [HE.out];rfl),HB.out⟩
  | true=>
   rw [e1,Bool.and_true] at HE
   go_wp2_with fail
   refine(HC1.out w2 (RdD.below HRX.out.1 HBW.out) (RdD.below HRY.out.1 HBW.out)).mono ?_;rw [e1];rintro e v1 ⟨rfl,hb⟩;have HBW:=Hd (HBW.out.trans (hb.mono HBW.out.size));have HB:=Hd (HB2.out.trans (HBW.out.mono HB2.out.size));clear hb p1 q1;clear p0 q0;have p2:=HX.out v1 HBW.out 2;have q2:=HY.out v1 HBW.out 2;simp only [Ya,Yb,Yc] at p2 q2
   cases e2:sameL eqD x.outs y.outs with
   | false=>
    rw [e2] at HE
    go_wp2_with fail
    refine(HC2.out v1 (RdD.below HRX.out.2.1 HBW.out) (RdD.below HRY.out.2.1 HBW.out)).mono ?_;rw [e2];rintro e v2 ⟨rfl,hb⟩;have HBW:=Hd (HBW.out.trans (hb.mono HBW.out.size));have HB:=Hd (HB2.out.trans (HBW.out.mono HB2.out.size));clear hb p2 q2
    go_wp2_with fail
    go_ret
    exact⟨ret_bool (by rw [HE.out];rfl),HB.out⟩
   | true=>
    rw [e2,Bool.and_true] at HE
    go_wp2_with fail
    refine(HC2.out v1 (RdD.below HRX.out.2.1 HBW.out) (RdD.below HRY.out.2.1 HBW.out)).mono ?_;rw [e2];rintro e v2 ⟨rfl,hb⟩;have HBW:=Hd (HBW.out.trans (hb.mono HBW.out.size));have HB:=Hd (HB2.out.trans (HBW.out.mono HB2.out.size));clear hb p2 q2;have p3:=HX.out v2 HBW.out 3;have q3:=HY.out v2 HBW.out 3;simp only [Ya,Yb,Yc] at p3 q3
    cases e3:sameL eqD x.vars y.vars with
    | false=>
     rw [e3] at HE
     go_wp2_with fail
     refine(HC3.out v2 (RdD.below HRX.out.2.2.1 HBW.out) (RdD.below HRY.out.2.2.1 HBW.out)).mono ?_;rw [e3];rintro e v3 ⟨rfl,hb⟩;have HBW:=Hd (HBW.out.trans (hb.mono HBW.out.size));have HB:=Hd (HB2.out.trans (HBW.out.mono HB2.out.size));clear hb p3 q3
     go_wp2_with fail
     go_ret
     exact⟨ret_bool (by rw [HE.out];rfl),HB.out⟩
    | true=>
     rw [e3,Bool.and_true] at HE
     go_wp2_with fail
     refine(HC3.out v2 (RdD.below HRX.out.2.2.1 HBW.out) (RdD.below HRY.out.2.2.1 HBW.out)).mono ?_;rw [e3];rintro e v3 ⟨rfl,hb⟩;have HBW:=Hd (HBW.out.trans (hb.mono HBW.out.size));have HB:=Hd (HB2.out.trans (HBW.out.mono HB2.out.size));clear hb p3 q3;have p4:=HX.out v3 HBW.out 4;have q4:=HY.out v3 HBW.out 4;simp only [Ya,Yb,Yc] at p4 q4
     by_cases hnm:n=m
     · have dm:((n:Int)==(m:Int))=true:=by rw [beq_iff_eq];omega
       have hnm:n=m:=by omega
       subst hnm;have HBV:=Hd HBW.out
       go_wp2_with fail
       go_loopw [5] (fun i wr=>∃ k:Nat,k≤n∧i=.int .i64 k∧(∀ j,j<k→eqQ (qs[j]?.getD default) (rs[j]?.getD default)=true)∧Below w2.heap.size w2 wr) (fun i _=>n-(intOf i).toNat)
       case atStart=>exact⟨0,Nat.zero_le _,rfl,fun j hj=>absurd hj (by omega),HBV.out⟩
       case round=>
        obtain⟨k,hk,rfl,hto,hnx⟩:=hrel;have HT:=Hd hto;have HNX:=Hd hnx;have p4:=HX.out wr hnx 4;have q4:=HY.out wr hnx 4;simp only [Ya,Yb,Yc] at p4 q4;clear hto
        by_cases hlt:k<n
        · obtain⟨b,off,rfl,hb,hc⟩:=RdS.at_ (RdQ.below HRX4.out hnx) (by omega);obtain⟨b',off',rfl,hb',hc'⟩:=RdS.at_ (RdQ.below HRY4.out hnx) (by omega);have hq1:=hc k hlt;have hq2:=hc' k hlt;clear hc hc' hnx;have HN:=Hd (HNO.out k hlt (by first | trivial | rfl));have HS:=Hd fun(hf:eqQ (qs[k]?.getD default) (rs[k]?.getD default)=true)=>to_next (P:=fun j=>eqQ (qs[j]?.getD default) (rs[j]?.getD default)=true) HT.out hf;have HEQ:=Hd fun(a b:Qn)=>(show eqQ a b=(sameT a.ns b.ns && sameX a.x b.x) from rfl);generalize qs[k]?.getD default=qa at hq1 HN HS;generalize rs[k]?.getD default=qb at hq2 HN HS;rw [HEQ.out] at HN HS;clear HEQ;obtain⟨A6,c6,A7,c7,A8,c8,hT1,hX1,p10,p11,p12,p13,p14,p15,p16⟩:=hq1.seven;obtain⟨B6,d6,B7,d7,B8,d8,hT2,hX2,q10,q11,q12,q13,q14,q15,q16⟩:=hq2.seven;have HT1:=Hd hT1;have HT2:=Hd hT2;have HX1:=Hd hX1;have HX2:=Hd hX2;have HSX:=Hd fun w1 a b=>refSame qa.x A7 c7 A8 c8 qb.x B7 d7 B8 d8 w1 a b;have HBR:=Hd fun d os=>below_regrown wr d os;unfold exA at HSX;clear hT1 hT2 hX1 hX2 hq1 hq2
          go_upto_region 6 with(fail)
          have lp0:=fun d os=>cell_regrown p10 d os;have lq0:=fun d os=>cell_regrown q10 d os;have lp1:=fun d os=>cell_regrown p11 d os;have lq1:=fun d os=>cell_regrown q11 d os;have lp2:=fun d os=>cell_regrown p12 d os;have lq2:=fun d os=>cell_regrown q12 d os;have lp3:=fun d os=>cell_regrown p13 d os;have lq3:=fun d os=>cell_regrown q13 d os;have lp4:=fun d os=>cell_regrown p14 d os;have lq4:=fun d os=>cell_regrown q14 d os;have lp5:=fun d os=>cell_regrown p15 d os;have lq5:=fun d os=>cell_regrown q15 d os;have lp6:=fun d os=>cell_regrown p16 d os;have lq6:=fun d os=>cell_regrown q16 d os;have lx:=fun d os=>cell_regrown p4 d os;have ly:=fun d os=>cell_regrown q4 d os;have cA:=fun d os=>Calls.regrown_of (refNames A6 B6 qa.ns.length qb.ns.length c6 d6 qa.ns qb.ns (grow (redrawn wr d) os) (HT1.out.below (below_regrown wr d os)) (HT2.out.below (below_regrown wr d os)));have cB:=fun d os=>Calls.regrown_of (HSX.out (grow (redrawn wr d) os) (HX1.out.below (below_regrown wr d os)) (HX2.out.below (below_regrown wr d os)))
          cases g1:sameT qa.ns qb.ns with
          | false=>
           have HN2:=Hd (HN.out (by rw [g1];rfl));simp only [g1] at cA;rw [HN2.out] at HE;refine wp_region_quiet_below (by kernel_rfl) (by kernel_rfl) ?_
           repeat (go_big_quiet_step (first | with_reducible exact cA _ _ | with_reducible exact cB _ _))
           refine wpQuiet_nil ?_;intro _ hw';obtain⟨⟨dq,osq⟩,hw''⟩:=hw';subst hw'';have HNX:=Hd (HNX.out.trans ((HBR.out dq osq).mono HNX.out.size));clear lp0 lq0 lp1 lq1 lp2 lq2 lp3 lq3 lp4 lq4 lp5 lq5 lp6 lq6 lx ly cA cB;have HB:=Hd (HB2.out.trans (HNX.out.mono HB2.out.size))
           go_wp2_with fail
           go_ret
           exact⟨ret_bool (by rw [HE.out];rfl),HB.out⟩
          | true=>
           simp only [g1] at cA
           cases g2:sameX qa.x qb.x with
           | false=>
            have HN2:=Hd (HN.out (by rw [g1,g2];rfl));simp only [g2] at cB;rw [HN2.out] at HE;refine wp_region_quiet_below (by kernel_rfl) (by kernel_rfl) ?_
            repeat (go_big_quiet_step (first | with_reducible exact cA _ _ | with_reducible exact cB _ _))
            refine wpQuiet_nil ?_;intro _ hw';obtain⟨⟨dq,osq⟩,hw''⟩:=hw';subst hw'';have HNX:=Hd (HNX.out.trans ((HBR.out dq osq).mono HNX.out.size));clear lp0 lq0 lp1 lq1 lp2 lq2 lp3 lq3 lp4 lq4 lp5 lq5 lp6 lq6 lx ly cA cB;have HB:=Hd (HB2.out.trans (HNX.out.mono HB2.out.size))
            go_wp2_with fail
            go_ret
            exact⟨ret_bool (by rw [HE.out];rfl),HB.out⟩
           | true=>
            have HS2:=Hd (HS.out (by rw [g1,g2];rfl));simp only [g2] at cB;refine wp_region_quiet_below (by kernel_rfl) (by kernel_rfl) ?_
            repeat (go_big_quiet_step (first | with_reducible exact cA _ _ | with_reducible exact cB _ _))
            refine wpQuiet_nil ?_;intro _ hw';obtain⟨⟨dq,osq⟩,hw''⟩:=hw';subst hw'';have HNX:=Hd (HNX.out.trans ((HBR.out dq osq).mono HNX.out.size));clear lp0 lq0 lp1 lq1 lp2 lq2 lp3 lq3 lp4 lq4 lp5 lq5 lp6 lq6 lx ly cA cB
            go_wp2_with fail
            go_roundw
            case rel=>exact⟨k+1,by omega,by go_num,HS2.out,HNX.out⟩
            case measure=>simp [intOf];omega
        · obtain rfl:k=n:=by omega
          have HQ:=Hd (HYES.out (by first | trivial | rfl) fun i hi=>HT.out i hi);rw [HQ.out] at HE;have HB:=Hd (HB2.out.trans (HNX.out.mono HB2.out.size))
          go_wp2_with fail
          go_ret
          exact⟨ret_bool (by rw [HE.out];rfl),HB.out⟩
     · have dm:((n:Int)==(m:Int))=false:=by rw [beq_eq_false_iff_ne];omega
       have HL:=Hd (HLEN.out hnm);rw [HL.out] at HE
       go_wp2_with fail
       go_ret
       exact⟨ret_bool (by rw [HE.out];rfl),HB.out⟩
end
section
open Go.RowKit Go.Sort
section
variable {P:Program}{w:World}
theorem wpList_append_dc{ops:Array Oper}{rest:List Oper}{o:Oper}{a:Act}{Q:Exit→Act→World→Prop}(hgd:o.guard=none) (s x:Operand) (t:TypeId)
 (ho:o.op=.call { callee:=.builtin .append,args:=#[s,x],argTypes:=#[t,t] })
 (base:Nat) (e:TypeId) (i:TypeInfo) (z:Value) (bytes:Nat) (ht:P.underlying t=some (.slice e)) (hi:P.info? e=some i) (hz:i.zero=some z)
 (hsize:i.size=6) (hby:i.bytes=bytes) (hzs:z.cells.size=6)
 (v:Value) (n:Nat) (xs:List Dc) (hs:a.eval s=v) (hown:w.ownsRow base e 6 v n (flD xs))
 (A:Option Addr) (m c:Nat) (l:List Dc) (hx:a.eval x=.slice A m c) (hr:RdD w A m l)
 (h63:n+m≤maxLen) (hbytes:(n+m)*bytes≤140737488355328) (hbase:base≤w.heap.size)
 (h:∀ v' w',w'.ownsRow base e 6 v' (n+m) (flD (xs++l))→w.grownBy w' v.ownBlock→wpList P ops Q rest (a.put o.dst v') w'):wpList P ops Q (o::rest) a w:=by
 obtain⟨hA,hnews⟩:=hr.news;have hlen:=RdS.len hr;rcases A with _ | ad
 · obtain rfl:m=0:=hA rfl;obtain rfl:l=[]:=List.eq_nil_of_length_eq_zero hlen;refine wpList_plain hgd fun K hK=>?_;have hrun:=run_append_nil (P:=P) (w:=w) base t o.type e i 6 ht hi v n _ hown c;unfold Oper.wp
   simp [execOp,ho,resolve,invoke,builtin,hs,hx,hrun,Result.andThen]
   exact hK _ _ (h v w (by simpa using hown) (World.grownBy.refl w _))
 · exact wpList_append_own_at w hgd s x t ho base e i z 6 bytes ht hi hz hsize hby hzs (by decide) v n _ hs hown ad m c (flD l) hx (by rw [flD_len,hlen]) (fun j u hu=>hnews ad rfl j u hu) (flD_ones l) h63 hbytes hbase fun v' w' h1 h2 _ _=>h v' w' (by rw [flD_app];exact h1) h2
end
theorem RowD.cells{w:World}{g:Nat}{d:Dc}(h:RowD w g d) (j:Nat):w.cell? ⟨g,j,none⟩=(dcA d)[j]?:=by
 unfold World.cell?;rw [show w.heap[(⟨g,j,none⟩:Addr).block]?=_ from h];rfl
def ClockAt(x:Nd) (out:Option (List Dc)) (w:World) (k:Nat) (t:ByteArray) (v:Value):Prop:=
 ∃ acc A c,v=.slice A acc.length c∧RdD w A acc.length acc∧acc.length=k∧clockR x (13-k) t acc=out
theorem ClockAt.below{x:Nd}{out:Option (List Dc)}{w w':World}{k:Nat}{t:ByteArray}{v:Value}(h:ClockAt x out w k t v) (hb:Below w.heap.size w w'):ClockAt x out w' k t v:=by
 obtain⟨acc,A,c,e,h1,h2⟩:=h;exact⟨acc,A,c,e,h1.below hb,h2⟩
end
section
open Go.RowKit Go.Sort
def listK(x:Nd) (k:Nat):List Dc:=match k with | 0=>x.ins | 1=>x.outs | _=>x.vars
def lists3(x:Nd) (A1:Option Addr) (c1:Nat) (A2:Option Addr) (c2:Nat) (A3:Option Addr) (c3:Nat):Array Value:=#[.slice A1 x.ins.length c1,.slice A2 x.outs.length c2,.slice A3 x.vars.length c3]
theorem lists_at{x:Nd}{A1:Option Addr}{c1:Nat}{A2:Option Addr}{c2:Nat}{A3:Option Addr}{c3:Nat}{A4:Option Addr}{w:World}(h:rdN w x A1 A2 A3 A4){k:Nat}(hk:k<3):
 ∃ A c,(lists3 x A1 c1 A2 c2 A3 c3)[k]?=some (.slice A (listK x k).length c)∧RdD w A (listK x k).length (listK x k):=by
 match k,hk with
 | 0,_=>exact⟨A1,c1,rfl,h.1⟩
 | 1,_=>exact⟨A2,c2,rfl,h.2.1⟩
 | 2,_=>exact⟨A3,c3,rfl,h.2.2.1⟩
end
end Go.Proofs.YtpedcgpcchbhpaaGreatDoor
