/- Parts of the proof: PgO, PgQ, PgP, SlR, PhC. Conditions: each theorem's own. -/
import Derived.Shelf.Lay
import Derived.Shelf.Spec.SlicesGrow
import Derived.Ground.Names8Prog
import Derived.Test.YtpedcgpcchbhpaaGreatDoorU09
namespace Go.Proofs.YtpedcgpcchbhpaaGreatDoor
set_option linter.unusedVariables false
set_option linter.unusedSimpArgs false
set_option maxRecDepth 100000
set_option maxHeartbeats 40000000
section
open Go.RowKit Go.Sort Go.BigFrame
def eqP(a b:Pg):Bool:=sameL eqE a.es b.es && sameL eqN a.ns b.ns
theorem NdAt.five{w:World}{b o:Nat}{x:Nd}(h:NdAt w b o x):∃ A1 c1 A2 c2 A3 c3 A4 c4,rdN w x A1 A2 A3 A4 ∧
 w.cell? ⟨b,o,none⟩=some (.string x.nm)∧w.cell? ⟨b,o+1,none⟩=some (.slice A1 x.ins.length c1)∧w.cell? ⟨b,o+2,none⟩=some (.slice A2 x.outs.length c2)∧w.cell? ⟨b,o+3,none⟩=some (.slice A3 x.vars.length c3)∧w.cell? ⟨b,o+4,none⟩=some (.slice A4 x.eqs.length c4):=by
 obtain⟨A1,c1,A2,c2,A3,c3,A4,c4,h1,h2⟩:=h;obtain⟨d0,d1,d2,d3,d4⟩:=ndL_five h1;exact⟨A1,c1,A2,c2,A3,c3,A4,c4,h2,d0,d1,d2,d3,d4⟩
theorem refSameP(p:Pg) (E:Option Addr) (ec:Nat) (N:Option Addr) (nc:Nat) (q:Pg) (E':Option Addr) (ec':Nat) (N':Option Addr) (nc':Nat) (w:World) (h:rdP w p E N) (h':rdP w q E' N'):
 Calls Tryz.prog 16 #[.agg (pgA p E ec N nc),.agg (pgA q E' ec' N' nc')] w fun e w'=>e=.returned (.bool (eqP p q))∧Below w.heap.size w w':=by
 have HF:=Hd fun w1 hw=>pg_facts w p E ec N nc w1 hw h;have HF':=Hd fun w1 w2 hw (hb:Below w.heap.size w w1)=>pg_facts w1 q E' ec' N' nc' w2 hw (h'.below hb);have HE:=Hd (show eqP p q=(sameL eqE p.es q.es && sameL eqN p.ns q.ns) from rfl);have HC1:=Hd fun w1 a b=>refEnSame E p.es.length ec p.es E' q.es.length ec' q.es w1 a b;have HNO:=Hd fun(i:Nat) hi hl hf=>sameL_no (f:=eqN) (l:=p.ns) (m:=q.ns) (i:=i) hi hl hf;have HYES:=Hd fun hl hf=>sameL_yes (f:=eqN) (l:=p.ns) (m:=q.ns) hl hf;have HLEN:=Hd fun hl=>sameL_len (f:=eqN) (l:=p.ns) (m:=q.ns) hl;have hmx:=RdS.max h.2;have hmy:=RdS.max h'.2;unfold pgA;generalize eqP p q=out at *
 go_enter Tryz.func16,Tryz.ntmps16
 go_upto_region 1 with(fail)
 generalize hw1:w.alloc _=w1;obtain⟨hb1,hg,hR1,hcell⟩:=HF.out w1 hw1;have HB1:=Hd hb1;generalize hw2:w1.alloc _=w2;obtain⟨hb2,hg2,hR2,hcell2⟩:=HF'.out w1 w2 hw2 hb1;rw [hg] at hg2;have HB2:=Hd (below_next hb1 hb2);have HX:=Hd fun w' (hb:Below w2.heap.size w2 w') j=>(show w'.cell? ⟨w.heap.size,j,none⟩=(pgA p E ec N nc)[j]? from hcell w' (hb2.trans (hb.mono hb2.size)) j);have HY:=Hd fun w' (hb:Below w2.heap.size w2 w') j=>(show w'.cell? ⟨w.heap.size+1,j,none⟩=(pgA q E' ec' N' nc')[j]? by rw [← hg];exact hcell2 w' hb j);have HEX:=Hd (hR1.below hb2).1;have HEY:=Hd hR2.1;have HRX4:=Hd (show RdS 5 NdAt w2 N p.ns.length p.ns from(hR1.below hb2).2);have HRY4:=Hd (show RdS 5 NdAt w2 N' q.ns.length q.ns from hR2.2);simp only [pgA] at HX HY;clear hw1 hw2 hcell hcell2 hb1 hb2 HF HF' h h' hR1 hR2;have HBW:=Hd (Below.refl w2.heap.size w2);generalize hqx:p.ns=qs at *;generalize hqy:q.ns=rs at *;generalize hnx:qs.length=n at *;generalize hny:rs.length=m at *;have p0:=HX.out w2 HBW.out 0;have q0:=HY.out w2 HBW.out 0;simp only [Ya,Yb,Yc] at p0 q0
 cases e1:sameL eqE p.es q.es with
 | false=>
  rw [e1] at HE
  go_wp2_with fail
  refine(HC1.out w2 HEX.out HEY.out).mono ?_;rw [e1];rintro e v1 ⟨rfl,hb⟩;have HBW:=Hd hb;have HB:=Hd (HB2.out.trans (HBW.out.mono HB2.out.size));clear hb p0 q0
  go_wp2_with fail
  go_ret
  exact⟨ret_bool (by first | exact HE.out.symm | (rw [HE.out];rfl)),HB.out⟩
 | true=>
  rw [e1,Bool.true_and] at HE
  go_wp2_with fail
  refine(HC1.out w2 HEX.out HEY.out).mono ?_;rw [e1];rintro e v1 ⟨rfl,hb⟩;have HBW:=Hd hb;have HB:=Hd (HB2.out.trans (HBW.out.mono HB2.out.size));clear hb p0 q0;have p1:=HX.out v1 HBW.out 1;have q1:=HY.out v1 HBW.out 1;simp only [Ya,Yb,Yc] at p1 q1
  by_cases hnm:n=m
  · have dm:((n:Int)==(m:Int))=true:=by rw [beq_iff_eq];omega
    have hnm:n=m:=by omega
    subst hnm
    go_wp2_with fail
    go_loopw [5] (fun i wr=>∃ k:Nat,k≤n∧i=.int .i64 k∧(∀ j,j<k→eqN (qs[j]?.getD default) (rs[j]?.getD default)=true)∧Below w2.heap.size w2 wr) (fun i _=>n-(intOf i).toNat)
    case atStart=>exact⟨0,Nat.zero_le _,rfl,fun j hj=>absurd hj (by omega),HBW.out⟩
    case round=>
     obtain⟨k,hk,rfl,hto,hnx⟩:=hrel;have HT:=Hd hto;have HNX:=Hd hnx;have p4:=HX.out wr hnx 1;have q4:=HY.out wr hnx 1;simp only [Ya,Yb,Yc] at p4 q4;clear hto
     by_cases hlt:k<n
     · obtain⟨b,off,rfl,hb,hc⟩:=RdS.at_ (RdNs.below HRX4.out hnx) (by omega);obtain⟨b',off',rfl,hb',hc'⟩:=RdS.at_ (RdNs.below HRY4.out hnx) (by omega);have hq1:=hc k hlt;have hq2:=hc' k hlt;clear hc hc' hnx;have HN:=Hd (HNO.out k hlt (by first | trivial | rfl));have HS:=Hd fun(hf:eqN (qs[k]?.getD default) (rs[k]?.getD default)=true)=>to_next (P:=fun j=>eqN (qs[j]?.getD default) (rs[j]?.getD default)=true) HT.out hf;generalize qs[k]?.getD default=qa at hq1 HN HS;generalize rs[k]?.getD default=qb at hq2 HN HS;obtain⟨A1,c1,A2,c2,A3,c3,A4,c4,hX1,p10,p11,p12,p13,p14⟩:=hq1.five;obtain⟨B1,d1,B2,d2,B3,d3,B4,d4,hX2,q10,q11,q12,q13,q14⟩:=hq2.five;have HX1:=Hd hX1;have HX2:=Hd hX2;have HSX:=Hd fun w1 a b=>refSameNode qa A1 c1 A2 c2 A3 c3 A4 c4 qb B1 d1 B2 d2 B3 d3 B4 d4 w1 a b;have HBR:=Hd fun d os=>below_regrown wr d os;unfold ndA at HSX;clear hX1 hX2 hq1 hq2
       go_upto_region 6 with(fail)
       have lp0:=fun d os=>cell_regrown p10 d os;have lq0:=fun d os=>cell_regrown q10 d os;have lp1:=fun d os=>cell_regrown p11 d os;have lq1:=fun d os=>cell_regrown q11 d os;have lp2:=fun d os=>cell_regrown p12 d os;have lq2:=fun d os=>cell_regrown q12 d os;have lp3:=fun d os=>cell_regrown p13 d os;have lq3:=fun d os=>cell_regrown q13 d os;have lp4:=fun d os=>cell_regrown p14 d os;have lq4:=fun d os=>cell_regrown q14 d os;have lx:=fun d os=>cell_regrown p4 d os;have ly:=fun d os=>cell_regrown q4 d os;have cA:=fun d os=>Calls.regrown_of (HSX.out (grow (redrawn wr d) os) (HX1.out.below (below_regrown wr d os)) (HX2.out.below (below_regrown wr d os)))
       cases g1:eqN qa qb with
       | false=>
        have HN2:=Hd (HN.out g1);simp only [g1] at cA;rw [HN2.out] at HE;refine wp_region_quiet_below (by kernel_rfl) (by kernel_rfl) ?_
        repeat (go_big_quiet_step (with_reducible exact cA _ _))
        refine wpQuiet_nil ?_;intro _ hw';obtain⟨⟨dq,osq⟩,hw''⟩:=hw';subst hw'';have HNX:=Hd (HNX.out.trans ((HBR.out dq osq).mono HNX.out.size));clear lp0 lq0 lp1 lq1 lp2 lq2 lp3 lq3 lp4 lq4 lx ly cA;have HB:=Hd (HB2.out.trans (HNX.out.mono HB2.out.size))
        go_wp2_with fail
        go_ret
        exact⟨ret_bool (by first | exact HE.out.symm | (rw [HE.out];rfl)),HB.out⟩
       | true=>
        have HS2:=Hd (HS.out g1);simp only [g1] at cA;refine wp_region_quiet_below (by kernel_rfl) (by kernel_rfl) ?_
        repeat (go_big_quiet_step (with_reducible exact cA _ _))
        refine wpQuiet_nil ?_;intro _ hw';obtain⟨⟨dq,osq⟩,hw''⟩:=hw';subst hw'';have HNX:=Hd (HNX.out.trans ((HBR.out dq osq).mono HNX.out.size));clear lp0 lq0 lp1 lq1 lp2 lq2 lp3 lq3 lp4 lq4 lx ly cA
        go_wp2_with fail
        go_roundw
        case rel=>exact⟨k+1,by omega,by go_num,HS2.out,HNX.out⟩
        case measure=>simp [intOf];omega
     · obtain rfl:k=n:=by omega
       have HQ:=Hd (HYES.out (by first | trivial | rfl) fun i hi=>HT.out i hi);rw [HQ.out] at HE;have HB:=Hd (HB2.out.trans (HNX.out.mono HB2.out.size))
       go_wp2_with fail
       go_ret
       exact⟨ret_bool (by first | exact HE.out.symm | (rw [HE.out];rfl)),HB.out⟩
  · have dm:((n:Int)==(m:Int))=false:=by rw [beq_eq_false_iff_ne];omega
    have HL:=Hd (HLEN.out hnm);rw [HL.out] at HE
    go_wp2_with fail
    go_ret
    exact⟨ret_bool (by first | exact HE.out.symm | (rw [HE.out];rfl)),HB.out⟩
end
section
open Go.RowKit Go.Sort
def TinyQ(q:Qn):Prop:=q.ns.length≤20∧tinyX q.x=true∧∀ j,j<q.ns.length→(q.ns[j]?.getD ByteArray.empty).size≤100
def TinyN(n:Nd):Prop:=fewD n.ins=true∧fewD n.outs=true∧fewD n.vars=true∧n.eqs.length≤30∧n.nm.size≤100∧∀ j,j<n.eqs.length→TinyQ (n.eqs[j]?.getD default)
def TinyP(p:Pg):Prop:=EsTiny p.es∧p.ns.length≤10∧∀ j,j<p.ns.length→TinyN (p.ns[j]?.getD default)
def SmallP(w:World) (p:Pg) (e:Ending) (w':World):Prop:=∃ b,e=.returned (.bool b)∧(b=true→TinyP p)∧Below w.heap.size w w'
theorem smallP_no{w w':World}(p:Pg) (hb:Below w.heap.size w w'):SmallP w p (.returned (.bool false)) w':=⟨false,rfl,fun h=>(by cases h),hb⟩
theorem box_store{w:World}{zc cs:Array Value}{T:TypeId}{w4:World}(hw:(w.alloc (.cells zc T)).setRow w.heap.size cs=w4):
 Below w.heap.size w w4∧w.heap.size<w4.heap.size∧∀ w',Below w4.heap.size w4 w'→∀ j,w'.cell? ⟨w.heap.size,j,none⟩=cs[j]?:=by
 have h1:w4.heap[w.heap.size]?=some (.cells cs T):=by
  rw [← hw];exact setRow_heap _ _ _ _ _ _ (heap_alloc_new _ _)
 have hlt:w.heap.size<w4.heap.size:=(Array.getElem?_eq_some_iff.1 h1).1;refine⟨?_,hlt,fun w' hb j=>?_⟩
 · rw [← hw];exact below_setRow ((Below.refl _ _).alloc (Nat.le_refl _) _) (Nat.le_refl _) cs
 · rw [hb.cell (p:=⟨w.heap.size,j,none⟩) hlt];unfold World.cell?;rw [show w4.heap[(⟨w.heap.size,j,none⟩:Addr).block]?=_ from h1];rfl
theorem ndinfo:(Tryz.prog.info? 33).map (·.size)=some 5:=by kernel_rfl
theorem qninfo:(Tryz.prog.info? 49).map (·.size)=some 7:=by kernel_rfl
theorem refPgSmall(p:Pg) (E:Option Addr) (ec:Nat) (N:Option Addr) (nc:Nat) (w:World) (h:rdP w p E N):
 Calls Tryz.prog 6 #[.agg (pgA p E ec N nc)] w (SmallP w p):=by
 have HF:=Hd fun w1 hw=>pg_facts w p E ec N nc w1 hw h;have HSM:=Hd fun w1 a=>refEnSmall E p.es.length ec p.es w1 a;have HFW:=Hd fun A n c l w1 a=>refFewD A n c l w1 a;have HXS:=Hd fun x A ca B cb w1 a=>refSmall x A ca B cb w1 a;have hmx:=RdS.max h.2;have HTP:=Hd (show EsTiny p.es→p.ns.length≤10→(∀ j,j<p.ns.length→TinyN (p.ns[j]?.getD default))→TinyP p from fun a b c=>⟨a,b,c⟩);have HNO:=Hd fun w' hb=>smallP_no (w:=w) (w':=w') p hb;have HYS:=Hd fun w' (hb:Below w.heap.size w w') (ht:TinyP p)=>(show SmallP w p (.returned (.bool true)) w' from⟨true,rfl,fun _=>ht,hb⟩);unfold pgA;unfold exA at HXS;generalize TinyP p=TP at *
 go_enter Tryz.func6,Tryz.ntmps6
 go_upto_region 1 with(fail)
 generalize hw1:w.alloc _=w1;obtain⟨hb1,hg,hR1,hcell⟩:=HF.out w1 hw1;have HB1:=Hd hb1;have HC:=Hd hcell;have HEN:=Hd hR1.1;have HNS:=Hd (show RdS 5 NdAt w1 N p.ns.length p.ns from hR1.2);simp only [pgA] at HC;have q0:=HC.out w1 (Below.refl _ _) 0;have q1:=HC.out w1 (Below.refl _ _) 1;simp only [Ya,Yb,Yc] at q0 q1;clear hw1 hcell hb1 HF h hR1;generalize hns:p.ns=ns at *;generalize hnl:ns.length=n at *;have HNL:=Hd hnl;clear hnl hns
 go_wp2_with fail
 refine(HSM.out w1 HEN.out).mono ?_;rintro e w2 ⟨be,rfl,hbe,rfl⟩
 cases be with
 | false=>
  go_wp2_with fail
  go_ret
  exact HNO.out w1 HB1.out
 | true=>
  have HTE:=Hd (hbe rfl);clear hbe
  by_cases h10:10<n
  · go_wp2_with fail
    go_ret
    exact HNO.out w1 HB1.out
  · have d10:decide ((10:Int)<(n:Int))=false:=decide_eq_false (by omega)
    go_wp2_with fail
    go_loopw [3] (fun i wr=>∃ k:Nat,k≤n∧i=.int .i64 k∧(∀ j,j<k→TinyN (ns[j]?.getD default))∧Below w1.heap.size w1 wr) (fun i _=>n-(intOf i).toNat)
    case atStart=>exact⟨0,Nat.zero_le _,rfl,fun j hj=>absurd hj (by omega),Below.refl _ _⟩
    case round=>
     obtain⟨k,hk,rfl,hto,hnx⟩:=hrel;have HT:=Hd hto;have HNX:=Hd hnx;have hz:=hnx.size;have q1:=HC.out wr hnx 1;simp only [Ya,Yb,Yc] at q1;clear hto
     by_cases hlt:k<n
     · obtain⟨b,off,rfl,hb,hc⟩:=RdS.at_ (RdNs.below HNS.out hnx) (by omega);have hnd:=hc k hlt;clear hc hnx;have HS:=Hd fun(hf:TinyN (ns[k]?.getD default))=>to_next (P:=fun j=>TinyN (ns[j]?.getD default)) HT.out hf;generalize ns[k]?.getD default=x at hnd HS;have HTN:=Hd (show fewD x.ins=true→fewD x.outs=true→fewD x.vars=true→x.eqs.length≤30→x.nm.size≤100→(∀ j,j<x.eqs.length→TinyQ (x.eqs[j]?.getD default))→TinyN x from fun a b c d e f=>⟨a,b,c,d,e,f⟩);obtain⟨A1,c1,A2,c2,A3,c3,A4,c4,hrd,p10,p11,p12,p13,p14⟩:=hnd.five;have hmq:=RdS.max hrd.2.2.2;have HBX:=Hd fun zc w4 hw=>box_store (w:=wr) (zc:=zc) (cs:=ndA x A1 c1 A2 c2 A3 c3 A4 c4) (T:=33) (w4:=w4) hw;have HRD:=Hd hrd;simp only [ndA] at HBX;clear hrd hnd
       go_upto_region 7 with(refine wpList_store_row rfl _ _ _ rfl wr.heap.size _ rfl rfl _ _ (heap_alloc_new _ _) ndinfo rfl (by simp [Value.oneCell']) ?_)
       generalize hw4:World.setRow _ _ _=w4;obtain⟨hb4,hlt4,hcell4⟩:=HBX.out _ w4 hw4;have HB4:=Hd (HNX.out.trans (hb4.mono hz));have HBV:=Hd (HB1.out.trans (HB4.out.mono (by omega)));have HC4:=Hd hcell4;have HRD4:=Hd (HRD.out.below hb4);have hz4:=hb4.size;obtain⟨r0,r1,r2,r3,r4,-⟩:=Sx (hcell4 w4 (Below.refl _ _));simp only [Ya,Yb,Yc] at r0 r1 r2 r3 r4;have HF1:=Hd (HFW.out A1 x.ins.length c1 x.ins w4 HRD4.out.1);have HF2:=Hd (HFW.out A2 x.outs.length c2 x.outs w4 HRD4.out.2.1);have HF3:=Hd (HFW.out A3 x.vars.length c3 x.vars w4 HRD4.out.2.2.1);have HQS:=Hd (show RdS 7 QnAt w4 A4 x.eqs.length x.eqs from HRD4.out.2.2.2);clear hw4 hcell4 hb4 p10 p11 p12 p13 p14 q1 HBX;generalize hqs:x.eqs=qs at *;generalize hql:qs.length=nq at *;have HQL:=Hd hql;clear hql hqs;generalize wr.heap.size=gb at *
       cases g1:fewD x.ins with
       | false=>
        go_wp2_with fail
        refine HF1.out.mono ?_;rw [g1];rintro e v1 ⟨rfl,rfl⟩
        go_wp2_with fail
        go_ret
        exact HNO.out w4 HBV.out
       | true=>
        go_wp2_with fail
        refine HF1.out.mono ?_;rw [g1];rintro e v1 ⟨rfl,rfl⟩
        cases g2:fewD x.outs with
        | false=>
         go_wp2_with fail
         refine HF2.out.mono ?_;rw [g2];rintro e v2 ⟨rfl,rfl⟩
         go_wp2_with fail
         go_ret
         exact HNO.out w4 HBV.out
        | true=>
         go_wp2_with fail
         refine HF2.out.mono ?_;rw [g2];rintro e v2 ⟨rfl,rfl⟩
         cases g3:fewD x.vars with
         | false=>
          go_wp2_with fail
          refine HF3.out.mono ?_;rw [g3];rintro e v3 ⟨rfl,rfl⟩
          go_wp2_with fail
          go_ret
          exact HNO.out w4 HBV.out
         | true=>
          go_wp2_with fail
          refine HF3.out.mono ?_;rw [g3];rintro e v3 ⟨rfl,rfl⟩
          by_cases h30:30<nq
          · go_wp2_with fail
            go_ret
            exact HNO.out w4 HBV.out
          · have d30:decide ((30:Int)<(nq:Int))=false:=decide_eq_false (by omega)
            by_cases h100:100<x.nm.size
            · have d100:decide ((100:Int)<(x.nm.size:Int))=true:=decide_eq_true (by omega)
              go_wp2_with fail
              go_ret
              exact HNO.out w4 HBV.out
            · have d100:decide ((100:Int)<(x.nm.size:Int))=false:=decide_eq_false (by omega);have HTN:=Hd (HTN.out g1 g2 g3 (by omega) (by omega));generalize wr=wo at *
              go_wp2_with fail
              go_loopw [5] (fun i wq=>∃ j:Nat,j≤nq∧i=.int .i64 j∧(∀ a,a<j→TinyQ (qs[a]?.getD default))∧Below w4.heap.size w4 wq) (fun i _=>nq-(intOf i).toNat)
              case atStart=>exact⟨0,Nat.zero_le _,rfl,fun j hj=>absurd hj (by omega),Below.refl _ _⟩
              case round=>
               obtain⟨j,hj,rfl,htq,hnq⟩:=hrel;have HTQ:=Hd htq;have HNQ:=Hd hnq;have hzq:=hnq.size;have r4:=HC4.out _ hnq 4;simp only [Ya,Yb,Yc] at r4;clear htq
               by_cases hjl:j<nq
               · obtain⟨b5,off5,rfl,hb5,hc5⟩:=RdS.at_ (RdQ.below HQS.out hnq) (by omega);have hqa:=hc5 j hjl;clear hc5 hnq;have HSQ:=Hd fun(hf:TinyQ (qs[j]?.getD default))=>to_next (P:=fun a=>TinyQ (qs[a]?.getD default)) HTQ.out hf;generalize qs[j]?.getD default=q at hqa HSQ;have HTY:=Hd (show q.ns.length≤20→tinyX q.x=true→(∀ j,j<q.ns.length→(q.ns[j]?.getD ByteArray.empty).size≤100)→TinyQ q from fun a b c=>⟨a,b,c⟩);obtain⟨A6,c6,A7,c7,A8,c8,hqt,hqx,s0,s1,s2,s3,s4,s5,s6⟩:=hqa.seven;have hmt:=hqt.max;have HBX:=Hd fun zc w6 hw=>box_store (w:=wr) (zc:=zc) (cs:=qnA q A6 c6 A7 c7 A8 c8) (T:=49) (w4:=w6) hw;have HQT:=Hd hqt;have HQX:=Hd hqx;simp only [qnA] at HBX;clear hqt hqx hqa
                 go_upto_region 13 with(refine wpList_store_row rfl _ _ _ rfl wr.heap.size _ rfl rfl _ _ (heap_alloc_new _ _) qninfo rfl (by simp [Value.oneCell']) ?_)
                 generalize hw6:World.setRow _ _ _=w6;obtain⟨hb6,hlt6,hcell6⟩:=HBX.out _ w6 hw6;have HB6:=Hd (HNQ.out.trans (hb6.mono hzq));have HBU:=Hd (HBV.out.trans (HB6.out.mono HBV.out.size));have HC6:=Hd hcell6;have HQT6:=Hd (HQT.out.below hb6);have hz6:=hb6.size;obtain⟨t0,t1,t2,t3,t4,t5⟩:=Sx (hcell6 w6 (Below.refl _ _));have t6:=hcell6 w6 (Below.refl _ _) 6;simp only [Ya,Yb,Yc] at t0 t1 t2 t3 t4 t5 t6;have HX6:=Hd (HXS.out q.x A7 c7 A8 c8 w6 (HQX.out.below hb6));clear hw6 hcell6 hb6 s0 s1 s2 s3 s4 s5 s6 r4 HBX;generalize hss:q.ns=ss at *;generalize hsl:ss.length=nn at *;have HSL:=Hd hsl;clear hsl hss;generalize wr.heap.size=gq at *
                 by_cases h20:20<nn
                 · go_wp2_with fail
                   go_ret
                   exact HNO.out w6 HBU.out
                 · have d20:decide ((20:Int)<(nn:Int))=false:=decide_eq_false (by omega)
                   cases gx:tinyX q.x with
                   | false=>
                    rw [gx] at HX6
                    go_wp2_with fail
                    refine HX6.out.mono ?_;rintro e w7 ⟨rfl,hb7⟩;have HB7:=Hd (HBU.out.trans (hb7.mono HBU.out.size));clear hb7
                    go_wp2_with fail
                    go_ret
                    exact HNO.out w7 HB7.out
                   | true=>
                    rw [gx] at HX6;have HTY:=Hd (HTY.out (by omega) gx)
                    go_wp2_with fail
                    refine HX6.out.mono ?_;rintro e w7 ⟨rfl,hb7⟩;have HB7:=Hd (HBU.out.trans (hb7.mono HBU.out.size));have HB67:=Hd (HB6.out.trans (hb7.mono HB6.out.size));have u0:=HC6.out w7 hb7 0;simp only [Ya,Yb,Yc] at u0;have HQT7:=Hd (HQT6.out.below hb7);clear hb7 t0 t1 t2 t3 t4 t5 t6
                    go_wp2_with fail
                    go_loop [7] (fun i=>∃ m:Nat,m≤nn∧i=.int .i64 m∧∀ a,a<m→(ss[a]?.getD ByteArray.empty).size≤100) (fun i=>nn-(intOf i).toNat)
                    case atStart=>exact⟨0,Nat.zero_le _,rfl,fun j hj=>absurd hj (by omega)⟩
                    case round=>
                     obtain⟨m,hm,rfl,hts⟩:=hrel;have HTS:=Hd hts;clear hts
                     by_cases hml:m<nn
                     · obtain⟨b8,off8,rfl,hb8,hc8⟩:=HQT7.out.at_ hml;have hs8:=hc8 m hml;clear hc8;have HSS:=Hd fun(hf:(ss[m]?.getD ByteArray.empty).size≤100)=>to_next (P:=fun a=>(ss[a]?.getD ByteArray.empty).size≤100) HTS.out hf;generalize ss[m]?.getD ByteArray.empty=y at hs8 HSS
                       by_cases hy:100<y.size
                       · go_wp2_with fail
                         go_ret
                         exact HNO.out w7 HB7.out
                       · have HS2:=Hd (HSS.out (by omega))
                         go_wp2_with fail
                         go_round
                         case rel=>exact⟨m+1,by omega,by go_num,HS2.out⟩
                         case measure=>simp [intOf];omega
                     · have HS3:=Hd (HSQ.out (HTY.out fun a ha=>HTS.out a (by omega)))
                       go_wp2_with fail
                       go_roundw
                       case rel=>exact⟨j+1,by omega,by go_num,HS3.out,HB67.out⟩
                       case measure=>simp [intOf];omega
               · have HS4:=Hd (HS.out (HTN.out fun a ha=>HTQ.out a (by omega)));have HB8:=Hd (HB4.out.trans (HNQ.out.mono HB4.out.size))
                 go_wp2_with fail
                 go_roundw
                 case rel=>exact⟨k+1,by omega,by go_num,HS4.out,HB8.out⟩
                 case measure=>simp [intOf];omega
     · have HP:=Hd (HTP.out HTE.out (by omega) fun a ha=>HT.out a (by omega))
       go_wp2_with fail
       go_ret
       exact HYS.out wr (HB1.out.trans (HNX.out.mono (by omega))) HP.out
end
section
open Go.RowKit Go.Sort
theorem tiny_sizeX{x:Ex}(h:tinyX x=true):sizeX x≤1000000:=by
 simp only [tinyX,Bool.and_eq_true,decide_eq_true_eq] at h;omega
theorem tiny_shortX{x:Ex}(h:tinyX x=true):∀ p∈partsX x,ShortP p:=by
 simp only [tinyX,Bool.and_eq_true,List.all_eq_true] at h;exact fun p hp=>ShortP.of_few (h.2 p hp)
theorem TinyQ.ok{q:Qn}(h:TinyQ q):OkQ q:=by
 refine⟨fun s hs=>?_,tiny_sizeX h.2.1,tiny_shortX h.2.1⟩;obtain⟨j,hj,rfl⟩:=List.getElem_of_mem hs;have:=h.2.2 j hj;rw [List.getElem?_eq_getElem hj,Option.getD_some] at this;unfold maxLen;omega
theorem fewD_ok{l:List Dc}(h:fewD l=true):(∀ d∈l,OkD d)∧l.length≤20:=by
 simp only [fewD,Bool.and_eq_true,List.all_eq_true,decide_eq_true_eq] at h;refine⟨fun d hd=>?_,h.2⟩;have h1:=h.1 d hd;simp only [dcFew,Bool.and_eq_true,Bool.not_eq_true',decide_eq_false_iff_not] at h1;unfold OkD maxLen;omega
theorem TinyN.len{n:Nd}(h:TinyN n):n.all.length≤60:=by
 have h1:=(fewD_ok h.1).2;have h2:=(fewD_ok h.2.1).2;have h3:=(fewD_ok h.2.2.1).2;rw [all_len];omega
theorem TinyN.ok{n:Nd}(h:TinyN n):OkN n:=by
 refine⟨by have:=h.2.2.2.2.1;unfold maxLen;omega,fun d hd=>?_,fun q hq=>?_⟩
 · simp only [Nd.all,List.mem_append] at hd;rcases hd with(hd | hd) | hd
   · exact(fewD_ok h.1).1 d hd
   · exact(fewD_ok h.2.1).1 d hd
   · exact(fewD_ok h.2.2.1).1 d hd
 · obtain⟨j,hj,rfl⟩:=List.getElem_of_mem hq;have:=h.2.2.2.2.2 j hj;rw [List.getElem?_eq_getElem hj,Option.getD_some] at this;exact this.ok
def rightN(es:Nat) (l:List Nd):Bool:=l.all (nodeB es rightB rightX)
def onceN(l:List Nd):Bool:=l.all fun n=>onceS (namesD n.all)
def checkN(p:Pg):Int:=
 if enumsN p.es=0 then(if p.ns.length=0 then 5 else if 6<p.ns.length then 4 else if p.ns.any manyN then 4 else if rightN p.es.length p.ns then(if onceN p.ns && onceS (p.ns.map Nd.nm) then 0 else 6) else 1) else enumsN p.es
theorem nms_succ{l:List Nd}{k:Nat}(hk:k<l.length):(l.map Nd.nm).take (k+1)=(l.map Nd.nm).take k++[(l[k]?.getD default).nm]:=by
 rw [List.take_add_one,List.getElem?_map,List.getElem?_eq_getElem hk]
 simp
theorem all_take_and{α:Type} [Inhabited α] {f:α→Bool}{l:List α}{k:Nat}(hk:k<l.length):(l.take (k+1)).all f=((l.take k).all f && f (l[k]?.getD default)):=by
 rw [List.take_add_one,List.getElem?_eq_getElem hk,List.all_append]
 simp
theorem any_at_yes{α:Type} [Inhabited α] {f:α→Bool}{l:List α}{k:Nat}(hk:k<l.length) (hf:f (l[k]?.getD default)=true):l.any f=true:=by
 rw [List.getElem?_eq_getElem hk] at hf;exact List.any_eq_true.2 ⟨_,List.getElem_mem hk,hf⟩
theorem any_no{α:Type} [Inhabited α] {f:α→Bool}{l:List α}(h:∀ j,j<l.length→f (l[j]?.getD default)=false):l.any f=false:=by
 rw [List.any_eq_false];intro a ha;obtain⟨j,hj,rfl⟩:=List.getElem_of_mem ha;have:=h j hj;rw [List.getElem?_eq_getElem hj] at this
 simpa using this
theorem drewN_below{w:World}{m:Nat}:Below w.heap.size w (w.drewN m):=below_drewN (Below.refl _ _) m
theorem cells_grown{w w':World}{g:Nat}{cs:Array Value}{T:TypeId}{v:Value}(h:w.heap[g]?=some (.cells cs T)) (hgr:w.grownBy w' v.ownBlock) (hne:v.ownBlock≠some g):w'.heap[g]?=some (.cells cs T):=
 (hgr.block g (Array.getElem?_eq_some_iff.1 h).1 (fun e=>hne e.symm)).trans h
theorem cells_at{w w':World}{g:Nat}{cs:Array Value}{T:TypeId}(h:w.heap[g]?=some (.cells cs T)) (hb:Below w.heap.size w w') (j:Nat):w'.cell? ⟨g,j,none⟩=cs[j]?:=by
 have hlt:g<w.heap.size:=(Array.getElem?_eq_some_iff.1 h).1;rw [hb.cell (p:=⟨g,j,none⟩) hlt];unfold World.cell?;rw [show w.heap[(⟨g,j,none⟩:Addr).block]?=_ from h];rfl
theorem refCheck(p:Pg) (E:Option Addr) (ec:Nat) (N:Option Addr) (nc:Nat) (w:World) (h:rdP w p E N) (ht:TinyP p):
 Calls Tryz.prog 15 #[.agg (pgA p E ec N nc)] w fun e w'=>e=.returned (.int .i64 (checkN p))∧Below w.heap.size w w':=by
 have HF:=Hd fun w1 hw=>pg_facts w p E ec N nc w1 hw h;have HEC:=Hd fun w1 a=>refEnums E p.es.length ec p.es w1 a ht.1.ok ht.1.few;have HND:=Hd fun x A1 c1 A2 c2 A3 c3 A4 c4 w1 a b c=>refNode E p.es.length ec x A1 c1 A2 c2 A3 c3 A4 c4 w1 (by have:=ht.1.1;omega) a b c;have hmx:=RdS.max h.2;have HE:=Hd (show checkN p=if enumsN p.es=0 then(if p.ns.length=0 then 5 else if 6<p.ns.length then 4 else if p.ns.any manyN then 4 else if rightN p.es.length p.ns then(if onceN p.ns && onceS (p.ns.map Nd.nm) then 0 else 6) else 1) else enumsN p.es from rfl);have HTN:=Hd ht.2.2;obtain⟨i0,hi,ji0,ji1,ji2⟩:=info_parts infoString;unfold pgA;unfold rightN onceN at HE;generalize checkN p=out at *
 go_enter Tryz.func15,Tryz.ntmps15
 go_upto_region 1 with(fail)
 generalize hw1:w.alloc _=w1;obtain⟨hb1,hg,hR1,hcell⟩:=HF.out w1 hw1;have HB1:=Hd hb1;have HC:=Hd hcell;have HE1:=Hd (HEC.out w1 hR1.1);have HNS:=Hd (show RdS 5 NdAt w1 N p.ns.length p.ns from hR1.2);simp only [pgA] at HC;have q0:=HC.out w1 (Below.refl _ _) 0;simp only [Ya,Yb,Yc] at q0;clear hw1 hcell hb1 HF h hR1 HEC ht;generalize hns:p.ns=ns at *;generalize hnl:ns.length=n at *;have HNL:=Hd hnl;generalize p.es.length=ne at *;generalize enumsN p.es=en at *;clear hnl hns
 go_wp2_with fail
 refine HE1.out.mono ?_;rintro e w2 ⟨rfl,hb2⟩;have HB2:=Hd (HB1.out.trans (hb2.mono (by omega)));have HW2:=Hd hb2;have q1:=HC.out w2 hb2 1;have q0:=HC.out w2 hb2 0;have hz2:=hb2.size;simp only [Ya,Yb,Yc] at q0 q1;clear hb2
 by_cases he0:en=0
 · subst he0;rw [if_pos rfl] at HE;rcases Nat.eq_zero_or_pos n with hn0 | hn0
   · subst hn0;rw [if_pos rfl] at HE
     go_wp2_with fail
     go_ret
     exact⟨ret_int HE.out.symm,HB2.out⟩
   · rw [if_neg (by omega)] at HE;have dn0:((n:Int)==0)=false:=by rw [beq_eq_false_iff_ne];omega
     by_cases hn6:6<n
     · rw [if_pos hn6] at HE
       go_wp2_with fail
       go_ret
       exact⟨ret_int HE.out.symm,HB2.out⟩
     · rw [if_neg hn6] at HE;have d6:decide ((6:Int)<(n:Int))=false:=decide_eq_false (by omega);have hr3:=Hd (World.ownsRow_lit (base:=w2.heap.size) (e:=9) (size:=1) w2 #[] 0 (Nat.le_refl _) (by decide) rfl);have HB0:=Hd (HW2.out.alloc HW2.out.size (.cells #[] 9))
       go_wp2_with fail
       go_loopw [4,5,6,7] (fun v r o i wr=>∃ k:Nat,k≤n∧i=.int .i64 k∧wr.ownsRow w2.heap.size 9 1 v k (((ns.map Nd.nm).take k).map Value.string)∧r=.bool ((ns.take k).all (nodeB ne rightB rightX))∧o=.bool ((ns.take k).all fun n=>onceS (namesD n.all))∧(∀ j,j<k→manyN (ns[j]?.getD default)=false)∧Below w1.heap.size w1 wr∧w2.heap.size≤wr.heap.size) (fun _ _ _ i _=>n-(intOf i).toNat)
       case atStart=>exact⟨0,Nat.zero_le _,rfl,hr3.out,rfl,rfl,fun j hj=>absurd hj (by omega),HB0.out,by simp⟩
       case round=>
        obtain⟨k,hk,rfl,hrow,rfl,rfl,hmn,hnx,hzr⟩:=hrel;have HROW:=Hd hrow;have HMN:=Hd hmn;have HNX:=Hd hnx;have hz:=hnx.size;have q0:=HC.out wr hnx 0;have q1:=HC.out wr hnx 1;simp only [Ya,Yb,Yc] at q0 q1;clear hmn hrow hr3 HB0
        by_cases hlt:k<n
        · obtain⟨b,off,rfl,hb,hc⟩:=RdS.at_ HNS.out (by omega);have hnd:=hc k hlt;clear hc;have hnm:=nms_succ (l:=ns) (k:=k) (by rw [HNL.out];exact hlt);have hal:=all_take_and (f:=nodeB ne rightB rightX) (l:=ns) (k:=k) (by rw [HNL.out];exact hlt);have hon:=all_take_and (f:=fun n=>onceS (namesD n.all)) (l:=ns) (k:=k) (by rw [HNL.out];exact hlt);have hty:=HTN.out k hlt;have HAY:=Hd fun hf=>any_at_yes (l:=ns) (f:=manyN) (k:=k) (by rw [HNL.out];exact hlt) hf;have HS:=Hd fun(hf:manyN (ns[k]?.getD default)=false)=>to_next (P:=fun j=>manyN (ns[j]?.getD default)=false) HMN.out hf;generalize ns[k]?.getD default=x at hnd hnm hal hon hty HAY HS;have HNM:=Hd hnm;have HAL:=Hd hal;have HON:=Hd hon;have HTY:=Hd hty;have hlen:=hty.len
          have HMB:=Hd (show manyN x=(decide ((6:Int)<(x.ins.length:Int)) || decide ((6:Int)<(x.outs.length:Int)) || decide ((12:Int)<(x.vars.length:Int)) || decide ((18:Int)<(x.eqs.length:Int))) by
           have hd:∀ a b:Nat,decide ((a:Int)<(b:Int))=decide (a<b):=fun a b=>by simp
           have h6:=hd 6;have h12:=hd 12;have h18:=hd 18;simp only [manyN] at *;rw [← h6,← h6,← h12,← h18];rfl)
          clear hnm hal hon hty;obtain⟨A1,c1,A2,c2,A3,c3,A4,c4,hrd,e0,e1,e2,e3,e4⟩:=hnd.five;have p10:=(hnx.cell (p:=⟨b,off+k*5,none⟩) hb).trans e0;have p11:=(hnx.cell (p:=⟨b,off+k*5+1,none⟩) hb).trans e1;have p12:=(hnx.cell (p:=⟨b,off+k*5+2,none⟩) hb).trans e2;have p13:=(hnx.cell (p:=⟨b,off+k*5+3,none⟩) hb).trans e3;have p14:=(hnx.cell (p:=⟨b,off+k*5+4,none⟩) hb).trans e4;have HRD:=Hd fun w' (hb:Below w1.heap.size w1 w')=>hrd.below hb;have HXN:=Hd fun w' hb=>HND.out x A1 c1 A2 c2 A3 c3 A4 c4 w' (HRD.out w' hb) HTY.out.ok (by have:=HTY.out.len;omega);have HXA:=Hd fun w' hb=>refAllD x A1 c1 A2 c2 A3 c3 A4 c4 w' (HRD.out w' hb) (by have:=HTY.out.len;omega);have HBX:=Hd fun zc w4 (hw:(wr.alloc (.cells zc 33)).setRow wr.heap.size (ndA x A1 c1 A2 c2 A3 c3 A4 c4)=w4)=>(show w4.heap[wr.heap.size]?=some (.cells (ndA x A1 c1 A2 c2 A3 c3 A4 c4) 33)∧Below wr.heap.size wr w4 from⟨by rw [← hw];exact setRow_heap _ _ _ _ _ _ (heap_alloc_new _ _),(box_store hw).1⟩);unfold ndA at HXN HXA;clear e0 e1 e2 e3 e4 hrd hnd hnx
          go_upto_region 13 with(refine wpList_store_row rfl _ _ _ rfl wr.heap.size _ rfl rfl _ _ (heap_alloc_new _ _) ndinfo rfl (by simp [Value.oneCell']) ?_)
          generalize hw4:World.setRow _ _ _=w4;obtain⟨hh4,hb4⟩:=HBX.out _ w4 hw4;have HH4:=Hd hh4;have HB4:=Hd (HNX.out.trans (hb4.mono hz));have HROW4:=Hd (own_belowX HROW.out hb4);have hz4:=hb4.size;have hg4:wr.heap.size<w4.heap.size:=(Array.getElem?_eq_some_iff.1 hh4).1;have r0:=cells_at hh4 (Below.refl _ _) 0;have r1:=cells_at hh4 (Below.refl _ _) 1;have r2:=cells_at hh4 (Below.refl _ _) 2;have r3:=cells_at hh4 (Below.refl _ _) 3;have r4:=cells_at hh4 (Below.refl _ _) 4;simp only [ndA,List.getElem?_toArray,List.getElem?_cons_zero,List.getElem?_cons_succ] at r0 r1 r2 r3 r4;have HNE:=Hd (show u4.ownBlock≠some wr.heap.size from fun e=>by have:=(HROW.out.lt _ e).2;omega);clear hw4 hh4 hb4 HBX p10 p11 p12 p13 p14 q0 q1;generalize wr.heap.size=gb at *
          cases m1:decide ((6:Int)<(x.ins.length:Int)) with
          | true=>
           rw [m1] at HMB
           go_wp2_with fail
           go_ret
           exact⟨ret_int (by rw [HE.out,HAY.out (by rw [HMB.out];rfl)];rfl),HB1.out.trans (HB4.out.mono (by omega))⟩
          | false=>
           rw [m1] at HMB
           cases m2:decide ((6:Int)<(x.outs.length:Int)) with
           | true=>
            rw [m2] at HMB
            go_wp2_with fail
            go_ret
            exact⟨ret_int (by rw [HE.out,HAY.out (by rw [HMB.out];rfl)];rfl),HB1.out.trans (HB4.out.mono (by omega))⟩
           | false=>
            rw [m2] at HMB
            cases m3:decide ((12:Int)<(x.vars.length:Int)) with
            | true=>
             rw [m3] at HMB
             go_wp2_with fail
             go_ret
             exact⟨ret_int (by rw [HE.out,HAY.out (by rw [HMB.out];rfl)];rfl),HB1.out.trans (HB4.out.mono (by omega))⟩
            | false=>
             rw [m3] at HMB
             cases m4:decide ((18:Int)<(x.eqs.length:Int)) with
             | true=>
              rw [m4] at HMB
              go_wp2_with fail
              go_ret
              exact⟨ret_int (by rw [HE.out,HAY.out (by rw [HMB.out];rfl)];rfl),HB1.out.trans (HB4.out.mono (by omega))⟩
             | false=>
              rw [m4] at HMB;have HM2:=Hd (HS.out (by rw [HMB.out];rfl))
              go_upto_region 16 with(at_builtin;refine wpList_append_own_at _ rfl _ _ 44 rfl w2.heap.size 9 i0 (.string ByteArray.empty) 1 16 Tryz.underlying44 hi ji0 ji1 ji2 rfl (by decide) _ _ _ rfl (HROW4.out.alloc _) ⟨w4.heap.size,0,none⟩ 1 1 [.string x.nm] rfl rfl (cell_one_new _ _ _) (string_cells [x.nm]) (by unfold maxLen;omega) (by omega) (by simp;omega) ?_;intro v' w5 hown' hgrow hnil hloc;have HO5:=Hd hown';have HG5:=Hd hgrow;clear hown' hgrow hnil hloc)
              have HB5:=Hd ((HB4.out.alloc HB4.out.size (.cells #[.string x.nm] 9)).grown HG5.out (by have:=HB4.out.size;simp;omega) (fun j hj=>by have:=(HROW4.out.lt j hj).1;omega));have hh5:=cells_grown ((Below.heap_alloc w4 (.cells #[.string x.nm] 9) gb hg4).trans HH4.out) HG5.out HNE.out;have HH5:=Hd hh5;have hz5:=HB5.out.size;have hz45:=HG5.out.size
              simp at hz45
              have s0:=cells_at hh5 (Below.refl _ _) 0;have s1:=cells_at hh5 (Below.refl _ _) 1;have s2:=cells_at hh5 (Below.refl _ _) 2;have s3:=cells_at hh5 (Below.refl _ _) 3;have s4:=cells_at hh5 (Below.refl _ _) 4;have s5:=HC.out w5 HB5.out 0;simp only [ndA,List.getElem?_toArray,List.getElem?_cons_zero,List.getElem?_cons_succ] at s0 s1 s2 s3 s4 s5;clear r0 r1 r2 r3 r4 hh5
              cases hr:(ns.take k).all (nodeB ne rightB rightX) with
              | false=>
               cases ho:(ns.take k).all (fun n=>onceS (namesD n.all)) with
               | false=>
                have HRE:=Hd HO5.out;have HBE:=Hd HB5.out
                go_wp2_with fail
                go_roundw
                case rel=>
                 refine⟨k+1,by omega,by go_num,?_,?_,?_,HM2.out,HBE.out,by omega⟩
                 · rw [HNM.out,List.map_append];exact HRE.out
                 · rw [HAL.out,hr];rfl
                 · rw [HON.out,ho];rfl
                case measure=>simp [intOf];omega
               | true=>
                have HRE:=Hd HO5.out;have HBE:=Hd HB5.out
                go_wp2_with fail
                have HXA6:=Hd (HXA.out _ HBE.out);refine HXA6.out.mono ?_;rintro e w7 ⟨A9,c9,rfl,hr7,hb7⟩;have HBE:=Hd (HBE.out.trans (hb7.mono HBE.out.size));have HRE:=Hd (own_belowX HRE.out hb7);have hzz7:=hb7.size;have HN7:=Hd (refNamesD A9 x.all.length c9 x.all _ hr7 (by omega));clear hr7 hb7 s0 s1 s2 s3 s4 s5
                go_wp2_with fail
                refine HN7.out.mono ?_;rintro e w8 ⟨A10,c10,rfl,hr8,hb8⟩;have HBE:=Hd (HBE.out.trans (hb8.mono HBE.out.size));have HRE:=Hd (own_belowX HRE.out hb8);have hzz8:=hb8.size;have HN8:=Hd (refOnce A10 x.all.length c10 (namesD x.all) _ hr8 (by omega));clear hr8 hb8
                go_wp2_with fail
                refine HN8.out.mono ?_;rintro e w9 ⟨rfl,md,rfl⟩;have hzz9:w8.heap.size≤(w8.drewN md).heap.size:=Nat.le_refl _;have HBE:=Hd (HBE.out.trans ((drewN_below (m:=md)).mono HBE.out.size));have HRE:=Hd (own_belowX HRE.out (drewN_below (m:=md)))
                go_wp2_with fail
                go_roundw
                case rel=>
                 refine⟨k+1,by omega,by go_num,?_,?_,?_,HM2.out,HBE.out,by omega⟩
                 · rw [HNM.out,List.map_append];exact HRE.out
                 · rw [HAL.out,hr];rfl
                 · rw [HON.out,ho];rfl
                case measure=>simp [intOf];omega
              | true=>
               cases ho:(ns.take k).all (fun n=>onceS (namesD n.all)) with
               | false=>
                have HXN5:=Hd (HXN.out w5 HB5.out)
                go_wp2_with fail
                refine HXN5.out.mono ?_;rintro e w6 ⟨rfl,hb6⟩;have HBE:=Hd (HB5.out.trans (hb6.mono HB5.out.size));have HRE:=Hd (own_belowX HO5.out hb6);have hzz6:=hb6.size;have t0:=cells_at HH5.out hb6 0;have t1:=cells_at HH5.out hb6 1;have t2:=cells_at HH5.out hb6 2;have t3:=cells_at HH5.out hb6 3;have t4:=cells_at HH5.out hb6 4;simp only [ndA,List.getElem?_toArray,List.getElem?_cons_zero,List.getElem?_cons_succ] at t0 t1 t2 t3 t4;clear hb6 s0 s1 s2 s3 s4 s5
                go_wp2_with fail
                go_roundw
                case rel=>
                 refine⟨k+1,by omega,by go_num,?_,?_,?_,HM2.out,HBE.out,by omega⟩
                 · rw [HNM.out,List.map_append];exact HRE.out
                 · rw [HAL.out,hr];rfl
                 · rw [HON.out,ho];rfl
                case measure=>simp [intOf];omega
               | true=>
                have HXN5:=Hd (HXN.out w5 HB5.out)
                go_wp2_with fail
                refine HXN5.out.mono ?_;rintro e w6 ⟨rfl,hb6⟩;have HBE:=Hd (HB5.out.trans (hb6.mono HB5.out.size));have HRE:=Hd (own_belowX HO5.out hb6);have hzz6:=hb6.size;have t0:=cells_at HH5.out hb6 0;have t1:=cells_at HH5.out hb6 1;have t2:=cells_at HH5.out hb6 2;have t3:=cells_at HH5.out hb6 3;have t4:=cells_at HH5.out hb6 4;simp only [ndA,List.getElem?_toArray,List.getElem?_cons_zero,List.getElem?_cons_succ] at t0 t1 t2 t3 t4;clear hb6 s0 s1 s2 s3 s4 s5
                go_wp2_with fail
                have HXA6:=Hd (HXA.out _ HBE.out);refine HXA6.out.mono ?_;rintro e w7 ⟨A9,c9,rfl,hr7,hb7⟩;have HBE:=Hd (HBE.out.trans (hb7.mono HBE.out.size));have HRE:=Hd (own_belowX HRE.out hb7);have hzz7:=hb7.size;have HN7:=Hd (refNamesD A9 x.all.length c9 x.all _ hr7 (by omega));clear hr7 hb7 t0 t1 t2 t3 t4
                go_wp2_with fail
                refine HN7.out.mono ?_;rintro e w8 ⟨A10,c10,rfl,hr8,hb8⟩;have HBE:=Hd (HBE.out.trans (hb8.mono HBE.out.size));have HRE:=Hd (own_belowX HRE.out hb8);have hzz8:=hb8.size;have HN8:=Hd (refOnce A10 x.all.length c10 (namesD x.all) _ hr8 (by omega));clear hr8 hb8
                go_wp2_with fail
                refine HN8.out.mono ?_;rintro e w9 ⟨rfl,md,rfl⟩;have hzz9:w8.heap.size≤(w8.drewN md).heap.size:=Nat.le_refl _;have HBE:=Hd (HBE.out.trans ((drewN_below (m:=md)).mono HBE.out.size));have HRE:=Hd (own_belowX HRE.out (drewN_below (m:=md)))
                go_wp2_with fail
                go_roundw
                case rel=>
                 refine⟨k+1,by omega,by go_num,?_,?_,?_,HM2.out,HBE.out,by omega⟩
                 · rw [HNM.out,List.map_append];exact HRE.out
                 · rw [HAL.out,hr];rfl
                 · rw [HON.out,ho];rfl
                case measure=>simp [intOf];omega
        · obtain rfl:k=n:=by omega
          have hta:∀ f:Nd→Bool,(ns.take k).all f=ns.all f:=fun f=>by rw [List.take_of_length_le (by rw [HNL.out];exact Nat.le_refl _)]
          have HAN:=Hd (any_no (l:=ns) (f:=manyN) fun j hj=>HMN.out j (by rw [← HNL.out];exact hj));rw [HAN.out,if_neg (by simp)] at HE;have hrw:=HROW.out;rw [List.take_of_length_le (by rw [List.length_map,HNL.out];exact Nat.le_refl _)] at hrw;obtain⟨A9,c9,rfl,hR9,_⟩:=RdT.of_own hrw (by omega);have HO9:=Hd (refOnce A9 k c9 (ns.map Nd.nm) wr hR9 (by omega));have HBE:=Hd (HB1.out.trans (HNX.out.mono (by omega)));rw [hta,hta];clear hta hrw hR9 hnx
          cases hr:ns.all (nodeB ne rightB rightX) with
          | false=>
           rw [hr] at HE
           go_wp2_with fail
           go_ret
           exact⟨ret_int (by rw [HE.out];rfl),HBE.out⟩
          | true=>
           rw [hr,if_pos rfl] at HE
           cases ho:ns.all (fun n=>onceS (namesD n.all)) with
           | false=>
            rw [ho] at HE
            go_wp2_with fail
            go_ret
            exact⟨ret_int (by rw [HE.out];rfl),HBE.out⟩
           | true=>
            rw [ho,Bool.true_and] at HE
            cases hx:onceS (ns.map Nd.nm) with
            | false=>
             rw [hx] at HE HO9
             go_wp2_with fail
             refine HO9.out.mono ?_;rintro e w9 ⟨rfl,md,rfl⟩;have HBE:=Hd (HBE.out.trans ((drewN_below (m:=md)).mono HBE.out.size))
             go_wp2_with fail
             go_ret
             exact⟨ret_int (by rw [HE.out];rfl),HBE.out⟩
            | true=>
             rw [hx,if_pos rfl] at HE;rw [hx] at HO9
             go_wp2_with fail
             refine HO9.out.mono ?_;rintro e w9 ⟨rfl,md,rfl⟩;have HBE:=Hd (HBE.out.trans ((drewN_below (m:=md)).mono HBE.out.size))
             go_wp2_with fail
             go_ret
             exact⟨ret_int HE.out.symm,HBE.out⟩
 · rw [if_neg he0] at HE;have de:(en==0)=false:=by rw [beq_eq_false_iff_ne];exact he0
   go_wp2_with fail
   go_ret
   exact⟨ret_int HE.out.symm,HB2.out⟩
end
section
open Go.Shelf Go.RowKit Go.Lib Go.Sort
def growD_ren:Go.Shelf.Ren:=⟨fun | 4=>109 | n=>n,fun | 22=>29 | 25=>38 | 3=>3 | 4=>4 | 9=>9 | 20=>20 | 0=>0 | n=>n,fun | n=>n⟩
theorem growD:Go.Proofs.Lays8.n4 Tryz.prog growD_ren:={
 mixed:=by kernel_rfl
 f4:=⟨Tryz.f109.name,by decide,Tryz.func109.trans (congrArg some (by kernel_rfl))⟩
 t0:=Tryz.underlying0
 a0:=Tryz.isAgg0
 z0:=Tryz.sizeOf0
 v0:=Tryz.zeroValue0
 t3:=Tryz.underlying3
 a3:=Tryz.isAgg3
 z3:=Tryz.sizeOf3
 v3:=Tryz.zeroValue3
 t4:=Tryz.underlying4
 a4:=Tryz.isAgg4
 z4:=Tryz.sizeOf4
 v4:=Tryz.zeroValue4
 t9:=Tryz.underlying9
 a9:=Tryz.isAgg9
 z9:=Tryz.sizeOf9
 v9:=Tryz.zeroValue9
 t20:=Tryz.underlying20
 a20:=Tryz.isAgg20
 z20:=Tryz.sizeOf20
 v20:=Tryz.zeroValue20
 t22:=Tryz.underlying29
 a22:=Tryz.isAgg29
 z22:=Tryz.sizeOf29
 v22:=Tryz.zeroValue29 }
theorem slGrowD(n:Nat) (w:World) (hn:n≤1000000):
 Calls Tryz.prog 109 #[.slice none 0 0,.int .i64 n] w fun e w'=>∃ v,e=.returned v∧w'.ownsRow w.heap.size 38 6 v 0 (flD [])∧Below w.heap.size w w':=by
 obtain⟨i0,z0,hi,hz1,hz0,hz2,hz3⟩:=info_three infoDecl;rcases Nat.eq_zero_or_pos n with rfl | hp
 · refine(Any8.slices_Grow_room growD none 0 0 0 w (Nat.le_refl _) (by omega) (by omega) (by omega)).mono ?_;rintro e w' ⟨rfl,rfl⟩;exact⟨_,rfl,⟨rfl,.inl ⟨rfl,rfl⟩⟩,Below.refl _ _⟩
 · refine(Any8.slices_Grow_grow growD i0 z0 hi hz1 (by omega) none 0 0 n [] w (Nat.le_refl _) (by omega) (by rw [hz2];omega) (by omega) (by simp) (fun _=>rfl) (fun a h=>by cases h)).mono ?_;rintro e w' ⟨rfl,rfl⟩;refine⟨_,rfl,⟨rfl,.inr ⟨w.heap.size,_,_,rfl,Nat.le_refl _,heap_alloc_new _ _,Nat.zero_le _,?_,?_,?_⟩⟩,?_⟩
   · exact grownCap_le_maxLen _ _ _ _ (by unfold maxLen;omega)
   · have:=grownCap_ge w (0+n) 0 38
     show(_:Array Value).size=grownCap w (0+n) 0 38*6
     simp only [Array.size_append,size_zeroCells,hz3,List.size_toArray,List.length_nil];rw [show growD_ren.t 25=38 from rfl];omega
   · rfl
   · exact(Below.refl _ _).drew.alloc (Nat.le_refl _) _
end
section
open Go.RowKit Go.Sort
theorem own_below{w w':World}{base:Nat}{e:TypeId}{size n:Nat}{v:Value}{xs:List Value}(h:w.ownsRow base e size v n xs) (hb:Below w.heap.size w w'):w'.ownsRow base e size v n xs:=by
 refine⟨h.1,?_⟩;rcases h.2 with h2 | ⟨g,cap,cur,hv,hg,hh,hr⟩
 · exact .inl h2
 · exact .inr ⟨g,cap,cur,hv,hg,(hb.block g (Array.getElem?_eq_some_iff.1 hh).1).trans hh,hr⟩
end
end Go.Proofs.YtpedcgpcchbhpaaGreatDoor
