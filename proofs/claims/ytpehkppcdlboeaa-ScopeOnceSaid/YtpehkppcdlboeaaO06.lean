/- Parts of the proof: PgK, PgN, PgO, PgQ, PgP, ScM, ScA, ScB, ScC, ScD, ScE, ScF, ScG, ScP, SlR, PhC, PiF. Conditions: each theorem's own. -/
import Derived.Shelf.Spec.SlicesGrow
import Derived.Ground.Names8Prog
import Derived.Shelf.Strings.Search1
import Derived.Test.YtpehkppcdlboeaaO04
import Derived.Test.YtpehkppcdlboeaaO05
namespace Go.Proofs.Ytpehkppcdlboeaa
set_option linter.unusedVariables false
set_option linter.unusedSimpArgs false
set_option maxRecDepth 100000
set_option maxHeartbeats 40000000
section
open Go.RowKit Go.Sort Go.BigFrame
end
section
open Go.RowKit Go.Sort Go.BigFrame
end
section
open Go.RowKit Go.Sort Go.BigFrame
theorem NdAt.five{w:World}{b o:Nat}{x:Nd}(h:NdAt w b o x):∃ A1 c1 A2 c2 A3 c3 A4 c4,rdN w x A1 A2 A3 A4 ∧
 w.cell? ⟨b,o,none⟩=some (.string x.nm)∧w.cell? ⟨b,o+1,none⟩=some (.slice A1 x.ins.length c1)∧w.cell? ⟨b,o+2,none⟩=some (.slice A2 x.outs.length c2)∧w.cell? ⟨b,o+3,none⟩=some (.slice A3 x.vars.length c3)∧w.cell? ⟨b,o+4,none⟩=some (.slice A4 x.eqs.length c4):=by
 obtain⟨A1,c1,A2,c2,A3,c3,A4,c4,h1,h2⟩:=h;obtain⟨d0,d1,d2,d3,d4⟩:=ndL_five h1;exact⟨A1,c1,A2,c2,A3,c3,A4,c4,h2,d0,d1,d2,d3,d4⟩
end
section
open Go.RowKit Go.Sort
def TinyQ(q:Qn):Prop:=q.ns.length≤20∧tinyX q.x=true∧∀ j,j<q.ns.length→(q.ns[j]?.getD ByteArray.empty).size≤100
def TinyN(n:Nd):Prop:=fewD n.ins=true∧fewD n.outs=true∧fewD n.vars=true∧n.eqs.length≤30∧n.nm.size≤100∧∀ j,j<n.eqs.length→TinyQ (n.eqs[j]?.getD default)
def TinyP(p:Pg):Prop:=EsTiny p.es∧p.ns.length≤10∧∀ j,j<p.ns.length→TinyN (p.ns[j]?.getD default)
def SmallP(w:World) (p:Pg) (e:Ending) (w':World):Prop:=∃ b,e=.returned (.bool b)∧(b=true→TinyP p)∧Below w.heap.size w w'
theorem smallP_no{w w':World}(p:Pg) (hb:Below w.heap.size w w'):SmallP w p (.returned (.bool false)) w':=⟨false,rfl,fun h=>(by cases h),hb⟩
theorem box_store{w:World}{zc cs:Array Value}{T:TypeId}{w4:World}(hw:(w.alloc (.cells zc T)).setRow w.heap.size cs=w4):
 Below w.heap.size w w4∧w.heap.size<w4.heap.size∧∀ w',Below w4.heap.size w4 w'→∀ j,w'.cell? ⟨w.heap.size,j,none⟩=cs[j]?:=by
 have h1:w4.heap[w.heap.size]?=some (.cells cs T):=by
  rw [← hw];exact setRow_heap _ _ _ _ _ _ (heap_alloc_new _ _)
 have hlt:w.heap.size<w4.heap.size:=(Array.getElem?_eq_some_iff.1 h1).1;refine⟨?_,hlt,fun w' hb j=>?_⟩
 · rw [← hw];exact below_setRow ((Below.refl _ _).alloc (Nat.le_refl _) _) (Nat.le_refl _) cs
 · rw [hb.cell (p:=⟨w.heap.size,j,none⟩) hlt];unfold World.cell?;rw [show w4.heap[(⟨w.heap.size,j,none⟩:Addr).block]?=_ from h1];rfl
theorem ndinfo:(Try.prog.info? 41).map (·.size)=some 5:=by kernel_rfl
theorem qninfo:(Try.prog.info? 52).map (·.size)=some 7:=by kernel_rfl
theorem refPgSmall(p:Pg) (E:Option Addr) (ec:Nat) (N:Option Addr) (nc:Nat) (w:World) (h:rdP w p E N):
 Calls Try.prog 9 #[.agg (pgA p E ec N nc)] w (SmallP w p):=by
 have HF:=Hd fun w1 hw=>pg_facts w p E ec N nc w1 hw h;have HSM:=Hd fun w1 a=>refEnSmall E p.es.length ec p.es w1 a;have HFW:=Hd fun A n c l w1 a=>refFewD A n c l w1 a;have HXS:=Hd fun x A ca B cb w1 a=>refSmall x A ca B cb w1 a;have hmx:=RdS.max h.2;have HTP:=Hd (show EsTiny p.es→p.ns.length≤10→(∀ j,j<p.ns.length→TinyN (p.ns[j]?.getD default))→TinyP p from fun a b c=>⟨a,b,c⟩);have HNO:=Hd fun w' hb=>smallP_no (w:=w) (w':=w') p hb;have HYS:=Hd fun w' (hb:Below w.heap.size w w') (ht:TinyP p)=>(show SmallP w p (.returned (.bool true)) w' from⟨true,rfl,fun _=>ht,hb⟩);unfold pgA;unfold exA at HXS;generalize TinyP p=TP at *
 go_enter Try.func9,Try.ntmps9
 go_upto_region 1 with(fail)
 generalize hw1:w.alloc _=w1;obtain⟨hb1,hg,hR1,hcell⟩:=HF.out w1 hw1;have HB1:=Hd hb1;have HC:=Hd hcell;have HEN:=Hd hR1.1;have HNS:=Hd (show RdS 5 NdAt w1 N p.ns.length p.ns from hR1.2);simp only [pgA] at HC;have q0:=HC.out w1 (Below.refl _ _) 0;have q1:=HC.out w1 (Below.refl _ _) 1;simp only [Ya,Yb,Yc] at q0 q1;clear hw1 hcell hb1 HF h hR1;generalize hns:p.ns=ns at *;generalize hnl:ns.length=n at *;have HNL:=Hd hnl;clear hnl hns
 go_wp2_with fail
 refine(HSM.out w1 HEN.out).mono ?_;rintro e w2 ⟨be,rfl,hbe,rfl⟩
 cases be with
 | false=>
  go_wp2_with fail
  go_ret
  exact HNO.out w1 HB1.out
 | true=>
  have HTE:=Hd (hbe rfl);clear hbe
  by_cases h10:10<n
  · go_wp2_with fail
    go_ret
    exact HNO.out w1 HB1.out
  · have d10:decide ((10:Int)<(n:Int))=false:=decide_eq_false (by omega)
    go_wp2_with fail
    go_loopw [3] (fun i wr=>∃ k:Nat,k≤n∧i=.int .i64 k∧(∀ j,j<k→TinyN (ns[j]?.getD default))∧Below w1.heap.size w1 wr) (fun i _=>n-(intOf i).toNat)
    case atStart=>exact⟨0,Nat.zero_le _,rfl,fun j hj=>absurd hj (by omega),Below.refl _ _⟩
    case round=>
     obtain⟨k,hk,rfl,hto,hnx⟩:=hrel;have HT:=Hd hto;have HNX:=Hd hnx;have hz:=hnx.size;have q1:=HC.out wr hnx 1;simp only [Ya,Yb,Yc] at q1;clear hto
     by_cases hlt:k<n
     · obtain⟨b,off,rfl,hb,hc⟩:=RdS.at_ (RdNs.below HNS.out hnx) (by omega);have hnd:=hc k hlt;clear hc hnx;have HS:=Hd fun(hf:TinyN (ns[k]?.getD default))=>to_next (P:=fun j=>TinyN (ns[j]?.getD default)) HT.out hf;generalize ns[k]?.getD default=x at hnd HS;have HTN:=Hd (show fewD x.ins=true→fewD x.outs=true→fewD x.vars=true→x.eqs.length≤30→x.nm.size≤100→(∀ j,j<x.eqs.length→TinyQ (x.eqs[j]?.getD default))→TinyN x from fun a b c d e f=>⟨a,b,c,d,e,f⟩);obtain⟨A1,c1,A2,c2,A3,c3,A4,c4,hrd,p10,p11,p12,p13,p14⟩:=hnd.five;have hmq:=RdS.max hrd.2.2.2;have HBX:=Hd fun zc w4 hw=>box_store (w:=wr) (zc:=zc) (cs:=ndA x A1 c1 A2 c2 A3 c3 A4 c4) (T:=41) (w4:=w4) hw;have HRD:=Hd hrd;simp only [ndA] at HBX;clear hrd hnd
       go_upto_region 7 with(refine wpList_store_row rfl _ _ _ rfl wr.heap.size _ rfl rfl _ _ (heap_alloc_new _ _) ndinfo rfl (by simp [Value.oneCell']) ?_)
       generalize hw4:World.setRow _ _ _=w4;obtain⟨hb4,hlt4,hcell4⟩:=HBX.out _ w4 hw4;have HB4:=Hd (HNX.out.trans (hb4.mono hz));have HBV:=Hd (HB1.out.trans (HB4.out.mono (by omega)));have HC4:=Hd hcell4;have HRD4:=Hd (HRD.out.below hb4);have hz4:=hb4.size;obtain⟨r0,r1,r2,r3,r4,-⟩:=Sx (hcell4 w4 (Below.refl _ _));simp only [Ya,Yb,Yc] at r0 r1 r2 r3 r4;have HF1:=Hd (HFW.out A1 x.ins.length c1 x.ins w4 HRD4.out.1);have HF2:=Hd (HFW.out A2 x.outs.length c2 x.outs w4 HRD4.out.2.1);have HF3:=Hd (HFW.out A3 x.vars.length c3 x.vars w4 HRD4.out.2.2.1);have HQS:=Hd (show RdS 7 QnAt w4 A4 x.eqs.length x.eqs from HRD4.out.2.2.2);clear hw4 hcell4 hb4 p10 p11 p12 p13 p14 q1 HBX;generalize hqs:x.eqs=qs at *;generalize hql:qs.length=nq at *;have HQL:=Hd hql;clear hql hqs;generalize wr.heap.size=gb at *
       cases g1:fewD x.ins with
       | false=>
        go_wp2_with fail
        refine HF1.out.mono ?_;rw [g1];rintro e v1 ⟨rfl,rfl⟩
        go_wp2_with fail
        go_ret
        exact HNO.out w4 HBV.out
       | true=>
        go_wp2_with fail
        refine HF1.out.mono ?_;rw [g1];rintro e v1 ⟨rfl,rfl⟩
        cases g2:fewD x.outs with
        | false=>
         go_wp2_with fail
         refine HF2.out.mono ?_;rw [g2];rintro e v2 ⟨rfl,rfl⟩
         go_wp2_with fail
         go_ret
         exact HNO.out w4 HBV.out
        | true=>
         go_wp2_with fail
         refine HF2.out.mono ?_;rw [g2];rintro e v2 ⟨rfl,rfl⟩
         cases g3:fewD x.vars with
         | false=>
          go_wp2_with fail
          refine HF3.out.mono ?_;rw [g3];rintro e v3 ⟨rfl,rfl⟩
          go_wp2_with fail
          go_ret
          exact HNO.out w4 HBV.out
         | true=>
          go_wp2_with fail
          refine HF3.out.mono ?_;rw [g3];rintro e v3 ⟨rfl,rfl⟩
          by_cases h30:30<nq
          · go_wp2_with fail
            go_ret
            exact HNO.out w4 HBV.out
          · have d30:decide ((30:Int)<(nq:Int))=false:=decide_eq_false (by omega)
            by_cases h100:100<x.nm.size
            · have d100:decide ((100:Int)<(x.nm.size:Int))=true:=decide_eq_true (by omega)
              go_wp2_with fail
              go_ret
              exact HNO.out w4 HBV.out
            · have d100:decide ((100:Int)<(x.nm.size:Int))=false:=decide_eq_false (by omega);have HTN:=Hd (HTN.out g1 g2 g3 (by omega) (by omega));generalize wr=wo at *
              go_wp2_with fail
              go_loopw [5] (fun i wq=>∃ j:Nat,j≤nq∧i=.int .i64 j∧(∀ a,a<j→TinyQ (qs[a]?.getD default))∧Below w4.heap.size w4 wq) (fun i _=>nq-(intOf i).toNat)
              case atStart=>exact⟨0,Nat.zero_le _,rfl,fun j hj=>absurd hj (by omega),Below.refl _ _⟩
              case round=>
               obtain⟨j,hj,rfl,htq,hnq⟩:=hrel;have HTQ:=Hd htq;have HNQ:=Hd hnq;have hzq:=hnq.size;have r4:=HC4.out _ hnq 4;simp only [Ya,Yb,Yc] at r4;clear htq
               by_cases hjl:j<nq
               · obtain⟨b5,off5,rfl,hb5,hc5⟩:=RdS.at_ (RdQ.below HQS.out hnq) (by omega);have hqa:=hc5 j hjl;clear hc5 hnq;have HSQ:=Hd fun(hf:TinyQ (qs[j]?.getD default))=>to_next (P:=fun a=>TinyQ (qs[a]?.getD default)) HTQ.out hf;generalize qs[j]?.getD default=q at hqa HSQ;have HTY:=Hd (show q.ns.length≤20→tinyX q.x=true→(∀ j,j<q.ns.length→(q.ns[j]?.getD ByteArray.empty).size≤100)→TinyQ q from fun a b c=>⟨a,b,c⟩);obtain⟨A6,c6,A7,c7,A8,c8,hqt,hqx,s0,s1,s2,s3,s4,s5,s6⟩:=hqa.seven;have hmt:=hqt.max;have HBX:=Hd fun zc w6 hw=>box_store (w:=wr) (zc:=zc) (cs:=qnA q A6 c6 A7 c7 A8 c8) (T:=52) (w4:=w6) hw;have HQT:=Hd hqt;have HQX:=Hd hqx;simp only [qnA] at HBX;clear hqt hqx hqa
                 go_upto_region 13 with(refine wpList_store_row rfl _ _ _ rfl wr.heap.size _ rfl rfl _ _ (heap_alloc_new _ _) qninfo rfl (by simp [Value.oneCell']) ?_)
                 generalize hw6:World.setRow _ _ _=w6;obtain⟨hb6,hlt6,hcell6⟩:=HBX.out _ w6 hw6;have HB6:=Hd (HNQ.out.trans (hb6.mono hzq));have HBU:=Hd (HBV.out.trans (HB6.out.mono HBV.out.size));have HC6:=Hd hcell6;have HQT6:=Hd (HQT.out.below hb6);have hz6:=hb6.size;obtain⟨t0,t1,t2,t3,t4,t5⟩:=Sx (hcell6 w6 (Below.refl _ _));have t6:=hcell6 w6 (Below.refl _ _) 6;simp only [Ya,Yb,Yc] at t0 t1 t2 t3 t4 t5 t6;have HX6:=Hd (HXS.out q.x A7 c7 A8 c8 w6 (HQX.out.below hb6));clear hw6 hcell6 hb6 s0 s1 s2 s3 s4 s5 s6 r4 HBX;generalize hss:q.ns=ss at *;generalize hsl:ss.length=nn at *;have HSL:=Hd hsl;clear hsl hss;generalize wr.heap.size=gq at *
                 by_cases h20:20<nn
                 · go_wp2_with fail
                   go_ret
                   exact HNO.out w6 HBU.out
                 · have d20:decide ((20:Int)<(nn:Int))=false:=decide_eq_false (by omega)
                   cases gx:tinyX q.x with
                   | false=>
                    rw [gx] at HX6
                    go_wp2_with fail
                    refine HX6.out.mono ?_;rintro e w7 ⟨rfl,hb7⟩;have HB7:=Hd (HBU.out.trans (hb7.mono HBU.out.size));clear hb7
                    go_wp2_with fail
                    go_ret
                    exact HNO.out w7 HB7.out
                   | true=>
                    rw [gx] at HX6;have HTY:=Hd (HTY.out (by omega) gx)
                    go_wp2_with fail
                    refine HX6.out.mono ?_;rintro e w7 ⟨rfl,hb7⟩;have HB7:=Hd (HBU.out.trans (hb7.mono HBU.out.size));have HB67:=Hd (HB6.out.trans (hb7.mono HB6.out.size));have u0:=HC6.out w7 hb7 0;simp only [Ya,Yb,Yc] at u0;have HQT7:=Hd (HQT6.out.below hb7);clear hb7 t0 t1 t2 t3 t4 t5 t6
                    go_wp2_with fail
                    go_loop [7] (fun i=>∃ m:Nat,m≤nn∧i=.int .i64 m∧∀ a,a<m→(ss[a]?.getD ByteArray.empty).size≤100) (fun i=>nn-(intOf i).toNat)
                    case atStart=>exact⟨0,Nat.zero_le _,rfl,fun j hj=>absurd hj (by omega)⟩
                    case round=>
                     obtain⟨m,hm,rfl,hts⟩:=hrel;have HTS:=Hd hts;clear hts
                     by_cases hml:m<nn
                     · obtain⟨b8,off8,rfl,hb8,hc8⟩:=HQT7.out.at_ hml;have hs8:=hc8 m hml;clear hc8;have HSS:=Hd fun(hf:(ss[m]?.getD ByteArray.empty).size≤100)=>to_next (P:=fun a=>(ss[a]?.getD ByteArray.empty).size≤100) HTS.out hf;generalize ss[m]?.getD ByteArray.empty=y at hs8 HSS
                       by_cases hy:100<y.size
                       · go_wp2_with fail
                         go_ret
                         exact HNO.out w7 HB7.out
                       · have HS2:=Hd (HSS.out (by omega))
                         go_wp2_with fail
                         go_round
                         case rel=>exact⟨m+1,by omega,by go_num,HS2.out⟩
                         case measure=>simp [intOf];omega
                     · have HS3:=Hd (HSQ.out (HTY.out fun a ha=>HTS.out a (by omega)))
                       go_wp2_with fail
                       go_roundw
                       case rel=>exact⟨j+1,by omega,by go_num,HS3.out,HB67.out⟩
                       case measure=>simp [intOf];omega
               · have HS4:=Hd (HS.out (HTN.out fun a ha=>HTQ.out a (by omega)));have HB8:=Hd (HB4.out.trans (HNQ.out.mono HB4.out.size))
                 go_wp2_with fail
                 go_roundw
                 case rel=>exact⟨k+1,by omega,by go_num,HS4.out,HB8.out⟩
                 case measure=>simp [intOf];omega
     · have HP:=Hd (HTP.out HTE.out (by omega) fun a ha=>HT.out a (by omega))
       go_wp2_with fail
       go_ret
       exact HYS.out wr (HB1.out.trans (HNX.out.mono (by omega))) HP.out
end
section
open Go.RowKit Go.Sort
theorem tiny_sizeX{x:Ex}(h:tinyX x=true):sizeX x≤1000000:=by
 simp only [tinyX,Bool.and_eq_true,decide_eq_true_eq] at h;omega
theorem tiny_shortX{x:Ex}(h:tinyX x=true):∀ p∈partsX x,ShortP p:=by
 simp only [tinyX,Bool.and_eq_true,List.all_eq_true] at h;exact fun p hp=>ShortP.of_few (h.2 p hp)
theorem TinyQ.ok{q:Qn}(h:TinyQ q):OkQ q:=by
 refine⟨fun s hs=>?_,tiny_sizeX h.2.1,tiny_shortX h.2.1⟩;obtain⟨j,hj,rfl⟩:=List.getElem_of_mem hs;have:=h.2.2 j hj;rw [List.getElem?_eq_getElem hj,Option.getD_some] at this;unfold maxLen;omega
theorem fewD_ok{l:List Dc}(h:fewD l=true):(∀ d∈l,OkD d)∧l.length≤20:=by
 simp only [fewD,Bool.and_eq_true,List.all_eq_true,decide_eq_true_eq] at h;refine⟨fun d hd=>?_,h.2⟩;have h1:=h.1 d hd;simp only [dcFew,Bool.and_eq_true,Bool.not_eq_true',decide_eq_false_iff_not] at h1;unfold OkD maxLen;omega
theorem TinyN.len{n:Nd}(h:TinyN n):n.all.length≤60:=by
 have h1:=(fewD_ok h.1).2;have h2:=(fewD_ok h.2.1).2;have h3:=(fewD_ok h.2.2.1).2;rw [all_len];omega
theorem TinyN.ok{n:Nd}(h:TinyN n):OkN n:=by
 refine⟨by have:=h.2.2.2.2.1;unfold maxLen;omega,fun d hd=>?_,fun q hq=>?_⟩
 · simp only [Nd.all,List.mem_append] at hd;rcases hd with(hd | hd) | hd
   · exact(fewD_ok h.1).1 d hd
   · exact(fewD_ok h.2.1).1 d hd
   · exact(fewD_ok h.2.2.1).1 d hd
 · obtain⟨j,hj,rfl⟩:=List.getElem_of_mem hq;have:=h.2.2.2.2.2 j hj;rw [List.getElem?_eq_getElem hj,Option.getD_some] at this;exact this.ok
def rightN(es:Nat) (l:List Nd):Bool:=l.all (nodeB es rightB rightX)
def onceN(l:List Nd):Bool:=l.all fun n=>onceS (namesD n.all)
def checkN(p:Pg):Int:=
 if enumsN p.es=0 then(if p.ns.length=0 then 5 else if 6<p.ns.length then 4 else if p.ns.any manyN then 4 else if rightN p.es.length p.ns then(if onceN p.ns && onceS (p.ns.map Nd.nm) then 0 else 6) else 1) else enumsN p.es
theorem nms_succ{l:List Nd}{k:Nat}(hk:k<l.length):(l.map Nd.nm).take (k+1)=(l.map Nd.nm).take k++[(l[k]?.getD default).nm]:=by
 rw [List.take_add_one,List.getElem?_map,List.getElem?_eq_getElem hk]
 simp
end
section
def firstF{α:Type} [DecidableEq α] (z:α) (f:Nat→α):Nat→α
 | 0=>z
 | n+1=>if firstF z f n=z then f n else firstF z f n
theorem firstF_no{α:Type} [DecidableEq α] {z:α}{f:Nat→α}:∀ {n:Nat},(∀ j,j<n→f j=z)→firstF z f n=z
 | 0,_=>rfl
 | n+1,h=>by rw [firstF,if_pos (firstF_no fun j hj=>h j (by omega)),h n (by omega)]
theorem firstF_hit{α:Type} [DecidableEq α] {z:α}{f:Nat→α}{k:Nat}:∀ {n:Nat},k<n→(∀ j,j<k→f j=z)→f k≠z→firstF z f n=f k
 | 0,h,_,_=>absurd h (by omega)
 | n+1,hk,hn,hf=>by
  rw [firstF]
  by_cases h:k<n
  · have h1:=firstF_hit h hn hf;rw [h1,if_neg hf]
  · obtain rfl:k=n:=by omega
    rw [if_pos (firstF_no hn)]
theorem firstF_zero{α:Type} [DecidableEq α] {z:α}{f:Nat→α}:∀ {n:Nat},firstF z f n=z→∀ j,j<n→f j=z
 | 0,_,j,hj=>absurd hj (by omega)
 | n+1,h,j,hj=>by
  rw [firstF] at h
  by_cases h1:firstF z f n=z
  · rw [if_pos h1] at h
    by_cases h2:j<n
    · exact firstF_zero h1 j h2
    · obtain rfl:j=n:=by omega
      exact h
  · rw [if_neg h1] at h;exact absurd h h1
def armR(es:List En) (s:ByteArray):Option (Int × Int × Int):=
 if(s.toList==[116,114,117,101])=true then some (2,0,1)
 else if(s.toList==[102,97,108,115,101])=true then some (2,0,0)
 else(findE es s).map fun p=>(3,(p.1:Int),(p.2.1:Int))
def nmB(s:ByteArray) (t:ByteArray):Bool:=t.data.toList==s.data.toList
def isV(n:Nd) (s:ByteArray):Bool:=(declO n s).isSome
def armV(es:List En) (s:ByteArray):Bool:=(armR es s).isSome
def ndAt(p:Pg) (i:Nat):Nd:=p.ns[i]?.getD default
def partS(p:Pg) (i:Nat) (e:Ex):Bool:=
 if((e.k==3 || e.k==11 || e.k==12) && !isV (ndAt p i) e.s)=true then false
 else if e.arms.all (armV p.es)=false then false
 else if(e.k==4)=true then armV p.es e.s
 else if(e.k==13)=true then decide (0≤findN p e.s) && decide (findN p e.s<(i:Int))
 else !(e.k==17)
def cntS(s:ByteArray) (l:List ByteArray):Nat:=(l.filter (nmB s)).length
def defTo(n:Nd) (s:ByteArray) (i j:Nat):Nat:=cntS s ((n.eqs.take i).flatMap Qn.ns++((n.eqs[i]?.getD default).ns.take j))
def defN(n:Nd) (s:ByteArray) (i:Nat):Nat:=cntS s ((n.eqs.take i).flatMap Qn.ns)
def inputS(n:Nd) (s:ByteArray):Bool:=n.ins.any fun d=>nmB s d.nm
def nameS(n:Nd) (i:Nat) (ns:List ByteArray) (k:Nat):Int:=
 if isV n (ns[k]?.getD ByteArray.empty)=false then 5
 else if(inputS n (ns[k]?.getD ByteArray.empty) || decide (0<defN n (ns[k]?.getD ByteArray.empty) i))=true then 6
 else if(ns.take k).any (nmB (ns[k]?.getD ByteArray.empty))=true then 6 else 0
def eqS(p:Pg) (i j:Nat):Int:=
 if firstF (0:Int) (nameS (ndAt p i) j ((ndAt p i).eqs[j]?.getD default).ns) ((ndAt p i).eqs[j]?.getD default).ns.length=0
 then(if(partsX ((ndAt p i).eqs[j]?.getD default).x).all (partS p i)=true then 0 else 5)
 else firstF (0:Int) (nameS (ndAt p i) j ((ndAt p i).eqs[j]?.getD default).ns) ((ndAt p i).eqs[j]?.getD default).ns.length
def onS(p:Pg) (n:Nd) (d:Dc):Bool:=(d.on.toList==[]) || (isV n d.on && armV p.es d.ct)
abbrev Fl:=Int × Int × Int
def eqF(p:Pg) (i j:Nat):Fl:=if eqS p i j=0 then(0,0,0) else((i:Int),(j:Int),eqS p i j)
def nodeS(p:Pg) (i:Nat):Fl:=
 if(ndAt p i).all.all (onS p (ndAt p i))=false then((i:Int),-1,5)
 else if firstF ((0,0,0):Fl) (eqF p i) (ndAt p i).eqs.length=(0,0,0)
 then(if((ndAt p i).all.drop (ndAt p i).ins.length).all (fun d=>decide (0<defN (ndAt p i) d.nm (ndAt p i).eqs.length))=true then(0,0,0) else((i:Int),-1,5))
 else firstF ((0,0,0):Fl) (eqF p i) (ndAt p i).eqs.length
def checkS(p:Pg):Fl:=if checkN p=0 then firstF ((0,0,0):Fl) (nodeS p) p.ns.length else(0,-1,checkN p)
end
section
open Go.RowKit Go.Sort
def f3A(a b c:Int):Array Value:=#[.int .i64 a,.int .i64 b,.int .i64 c]
def F3(T:TypeId) (W:World) (g:Nat) (a b c:Int):Prop:=W.heap[g]?=some (Obj.cells (f3A a b c) T)
section
variable {T:TypeId}{W W':World}{g:Nat}{a b c:Int}
theorem F3.lt(h:F3 T W g a b c):g<W.heap.size:=(Array.getElem?_eq_some_iff.1 h).1
theorem F3.below(h:F3 T W g a b c) (hb:Below W.heap.size W W'):F3 T W' g a b c:=(hb.block g h.lt).trans h
theorem F3.set(h:F3 T W g a b c) (x y z:Int):F3 T (W.setRow g (f3A x y z)) g x y z:=setRow_heap _ _ _ _ _ _ h
theorem F3.cell(h:F3 T W g a b c) (j:Nat):W.cell? ⟨g,j,none⟩=(f3A a b c)[j]?:=by
 have:=cell_setRow_same W g j _ (f3A a b c) _ _ h;rwa [setRow_self W g _ _ _ h] at this
theorem F3.new(T:TypeId) (W:World) (a b c:Int):F3 T (W.alloc (.cells (f3A a b c) T)) W.heap.size a b c:=heap_alloc_new _ _
end
theorem fl_info:(Try.prog.info? 36).map (·.size)=some 3:=by kernel_rfl
theorem ty3_info:(Try.prog.info? 26).map (·.size)=some 3:=by kernel_rfl
theorem res_f3{fn:Func}{p:Tmp}(h:fn.results=#[.cell p 36]) (tmps:Array Value) (w:World) (i:Nat) (a b c:Int)
 (hp:tmps.getD p undef=.pointer (some ⟨i,0,none⟩)) (hg:F3 36 w i a b c):(results fn tmps).run Try.prog w=.ok (.agg (f3A a b c)) w:=
 results_cell_row h tmps w i _ _ _ _ hp hg Try.underlying36 rfl fl_info
theorem results_cell_two{fn:Func}{p u v:Tmp}{ty:TypeId}(h:fn.results=#[.cell p ty,.tmp u,.tmp v]) (tmps:Array Value) (P:Program) (w:World):
 (results fn tmps).run P w =
  ((asAddr (tmps.getD p undef)).run P w).andThen fun a w₁=>((loadVar ty a).run P w₁).andThen fun x w₂=>.ok (.tuple #[x,tmps.getD u undef,tmps.getD v undef]) w₂:=by
 simp only [results,h]
 simp [Sem.run_bind,Result.andThen]
theorem res_ty3{fn:Func}{p u v:Tmp}(h:fn.results=#[.cell p 26,.tmp u,.tmp v]) (tmps:Array Value) (w:World) (g:Nat) (a b c:Int)
 (hp:tmps.getD p undef=.pointer (some ⟨g,0,none⟩)) (hg:F3 26 w g a b c):(results fn tmps).run Try.prog w=.ok (.tuple #[.agg (f3A a b c),tmps.getD u undef,tmps.getD v undef]) w:=by
 rw [results_cell_two h,hp];have hl:=run_loadVar_row (P:=Try.prog) w g 26 26 _ _ _ hg Try.underlying26 rfl ty3_info
 simp [asAddr,Result.andThen,hl]
theorem f3_box{w w0:World}{T:TypeId}(h:w.alloc (.cells #[.int .i64 0,.int .i64 0,.int .i64 0] T)=w0):Below w.heap.size w w0∧F3 T w0 w.heap.size 0 0 0∧w0.heap.size=w.heap.size+1:=by
 subst h;exact⟨(Below.refl _ _).alloc (Nat.le_refl _) _,heap_alloc_new _ _,by simp⟩
def armW(o:Option (Int × Int × Int)):Value:=.tuple #[.agg (f3A ((o.map (·.1)).getD 0) ((o.map (·.2.1)).getD 0) 0),.int .i64 ((o.map (·.2.2)).getD 0),.bool o.isSome]
theorem below_set3{w w1:World}{v:Array Value}(h:Below w.heap.size w w1):Below w.heap.size w (w1.setRow w.heap.size v):=below_setRow h (Nat.le_refl _) _
theorem refFault(a b c:Int) (w:World):Calls Try.prog 15 #[.int .i64 a,.int .i64 b,.int .i64 c] w fun e w'=>e=.returned (.agg (f3A a b c))∧Below w.heap.size w w':=by
 go_enter Try.func15,Try.ntmps15
 go_upto_region 1 with(fail)
 generalize hw0:w.alloc _=w0;obtain⟨hb0,hR,hg0⟩:=f3_box hw0;have HB0:=Hd hb0;have HR:=Hd hR;clear hb0 hR hw0
 go_wp2_with (refine wpList_store_row rfl _ _ _ rfl (w.heap.size) _ rfl rfl _ _ HR.out fl_info rfl (by simp [Value.oneCell']) ?_)
 exact bodyPost_ret (res_f3 (p:=6) rfl _ _ w.heap.size a b c rfl (HR.out.set a b c)) rfl ⟨rfl,below_set3 HB0.out⟩
end
section
open Go.RowKit Go.Sort
theorem ret_boolS{a b:Bool}(h:a=b):Ending.returned (.bool a)=.returned (.bool b):=by rw [h]
theorem below_box{w w1 w2:World}{o:Obj}(h:Below w.heap.size w w1) (e:w1.alloc o=w2):Below w.heap.size w w2:=by
 subst e;exact h.alloc h.size _
theorem cntS_app(s:ByteArray) (a b:List ByteArray):cntS s (a++b)=cntS s a+cntS s b:=by simp [cntS]
theorem cntS_le(s:ByteArray) (l:List ByteArray):cntS s l≤l.length:=List.length_filter_le _ _
theorem defTo_zero(n:Nd) (s:ByteArray) (i:Nat):defTo n s i 0=defN n s i:=by simp [defTo,defN]
theorem defTo_next{n:Nd}{s:ByteArray}{i j:Nat}(hj:j<(n.eqs[i]?.getD default).ns.length):defTo n s i (j+1)=defTo n s i j+(if(((n.eqs[i]?.getD default).ns[j]?.getD ByteArray.empty).toList==s.toList)=true then 1 else 0):=by
 unfold defTo;rw [List.take_add_one,List.getElem?_eq_getElem hj,← List.append_assoc,cntS_app]
 congr 1
 simp only [Option.toList_some,Option.getD_some,Lib.toList_data];unfold cntS
 by_cases h:nmB s (n.eqs[i]?.getD default).ns[j]=true
 · rw [List.filter_cons_of_pos h];exact(if_pos h).symm
 · rw [List.filter_cons_of_neg h];exact(if_neg h).symm
theorem defTo_end{n:Nd}{s:ByteArray}{i j:Nat}(hi:i<n.eqs.length) (hj:j=(n.eqs[i]?.getD default).ns.length):defTo n s i j=defN n s (i+1):=by
 unfold defTo defN;rw [hj,List.take_length,List.take_add_one,List.getElem?_eq_getElem hi,List.flatMap_append]
 simp
theorem defN_zero(n:Nd) (s:ByteArray):defN n s 0=0:=by simp [defN,cntS]
end
section
open Go.RowKit Go.Sort
def FewQ(n:Nd):Prop:=n.eqs.length≤1000∧∀ q∈n.eqs,q.ns.length≤1000
theorem FewQ.at_{n:Nd}(h:FewQ n){i:Nat}(hi:i<n.eqs.length):(n.eqs[i]?.getD default).ns.length≤1000:=by
 rw [List.getElem?_eq_getElem hi,Option.getD_some];exact h.2 _ (List.getElem_mem _)
theorem defN_le{n:Nd}{s:ByteArray}(h:FewQ n):∀ i,defN n s i≤1000*n.eqs.length:=by
 intro i;refine Nat.le_trans (cntS_le _ _) ?_
 have h1:∀ (l:List Qn),(∀ q∈l,q.ns.length≤1000)→(l.flatMap Qn.ns).length≤1000*l.length:=by
  intro l
  induction l with
  | nil=>intro _;simp
  | cons a l ih=>
   intro hl;have h2:=ih fun q hq=>hl q (by simp [hq]);have h3:=hl a (by simp);simp only [List.flatMap_cons,List.length_append,List.length_cons];omega
 have h2:=h1 (n.eqs.take i) fun q hq=>h.2 q (List.mem_of_mem_take hq);have h3:(n.eqs.take i).length≤n.eqs.length:=by rw [List.length_take];omega
 exact Nat.le_trans h2 (Nat.mul_le_mul_left _ h3)
theorem defTo_le{n:Nd}{s:ByteArray}(h:FewQ n) (i j:Nat):defTo n s i j≤1000*n.eqs.length+j:=by
 have h1:=defN_le (s:=s) h i;unfold defTo;rw [cntS_app];have h2:=cntS_le s ((n.eqs[i]?.getD default).ns.take j);have h3:((n.eqs[i]?.getD default).ns.take j).length≤j:=by rw [List.length_take];omega
 unfold defN at h1;omega
end
section
open Go.RowKit Go.Sort Go.BigFrame
theorem nd_at15{w:World}{A:Option Addr}{n i:Nat}{l:List Nd}(h:RdNs w A n l) (hi:i<n):
 ∃ b off A1 c1 A2 c2 A3 c3 A4 c4,A=some ⟨b,off,none⟩∧b<w.heap.size∧rdN w (l[i]?.getD default) A1 A2 A3 A4 ∧
 w.cell? ⟨b,off+i*5,none⟩=some (.string (l[i]?.getD default).nm)∧w.cell? ⟨b,off+i*5+1,none⟩=some (.slice A1 (l[i]?.getD default).ins.length c1)∧w.cell? ⟨b,off+i*5+2,none⟩=some (.slice A2 (l[i]?.getD default).outs.length c2)∧w.cell? ⟨b,off+i*5+3,none⟩=some (.slice A3 (l[i]?.getD default).vars.length c3)∧w.cell? ⟨b,off+i*5+4,none⟩=some (.slice A4 (l[i]?.getD default).eqs.length c4):=by
 obtain⟨b,off,e,hb,hc⟩:=RdS.at_ h (by omega);obtain⟨A1,c1,A2,c2,A3,c3,A4,c4,h1,h2⟩:=hc i hi;obtain⟨d0,d1,d2,d3,d4⟩:=ndL_five h1;exact⟨b,off,A1,c1,A2,c2,A3,c3,A4,c4,e,hb,h2,d0,d1,d2,d3,d4⟩
end
section
open Go.RowKit Go.Sort Go.BigFrame
theorem eqS_hit{p:Pg}{i j k:Nat}(hk:k<((ndAt p i).eqs[j]?.getD default).ns.length) (hn:∀ a,a<k→nameS (ndAt p i) j ((ndAt p i).eqs[j]?.getD default).ns a=0) (h:nameS (ndAt p i) j ((ndAt p i).eqs[j]?.getD default).ns k≠0):
 eqS p i j=nameS (ndAt p i) j ((ndAt p i).eqs[j]?.getD default).ns k:=by
 unfold eqS;rw [firstF_hit hk hn h,if_neg h]
theorem eqS_parts{p:Pg}{i j:Nat}(hn:∀ a,a<((ndAt p i).eqs[j]?.getD default).ns.length→nameS (ndAt p i) j ((ndAt p i).eqs[j]?.getD default).ns a=0):
 eqS p i j=if(partsX ((ndAt p i).eqs[j]?.getD default).x).all (partS p i)=true then 0 else 5:=by
 unfold eqS;rw [firstF_no hn,if_pos rfl]
end
section
open Go.RowKit Go.Sort Go.BigFrame
def flV(f:Fl):Value:=.agg (f3A f.1 f.2.1 f.2.2)
theorem eqF_ne{p:Pg}{i j:Nat}(h:eqS p i j≠0):eqF p i j=((i:Int),(j:Int),eqS p i j)∧eqF p i j≠(0,0,0):=by
 have h1:eqF p i j=((i:Int),(j:Int),eqS p i j):=by unfold eqF;rw [if_neg h]
 refine⟨h1,fun e=>?_⟩;rw [h1] at e;injection e with _ e;injection e with _ e;exact h e
end
section
open Go.RowKit Go.Sort
theorem tiny_few{n:Nd}(h:TinyN n):n.all.length≤1000∧FewQ n∧∀ j,j<n.eqs.length→sizeX (n.eqs[j]?.getD default).x≤1000000:=by
 have h1:=(fewD_ok h.1).2;have h2:=(fewD_ok h.2.1).2;have h3:=(fewD_ok h.2.2.1).2;have h4:=h.2.2.2.1;refine⟨by rw [all_len];omega,⟨by omega,fun q hq=>?_⟩,fun j hj=>tiny_sizeX (h.2.2.2.2.2 j hj).2.1⟩;obtain⟨j,hj,rfl⟩:=List.getElem_of_mem hq;have:=(h.2.2.2.2.2 j hj).1;rw [List.getElem?_eq_getElem hj,Option.getD_some] at this;omega
theorem checkS_hit{p:Pg}{k:Nat}(h0:checkN p=0) (hk:k<p.ns.length) (hn:∀ a,a<k→nodeS p a=(0,0,0)) (h:nodeS p k≠(0,0,0)):checkS p=nodeS p k:=by
 unfold checkS;rw [if_pos h0];exact firstF_hit hk hn h
theorem checkS_no{p:Pg}(h0:checkN p=0) (hn:∀ a,a<p.ns.length→nodeS p a=(0,0,0)):checkS p=(0,0,0):=by
 unfold checkS;rw [if_pos h0];exact firstF_no hn
theorem fl_ne{a b c:Int}(h:¬ ((a,b,c):Fl)=(0,0,0)):(a != 0)=true∨(a=0∧(b != 0)=true)∨(a=0∧b=0∧(c != 0)=true):=by
 by_cases ha:a=0
 · by_cases hb:b=0
   · by_cases hc:c=0
     · subst ha hb hc;exact absurd rfl h
     · exact .inr (.inr ⟨ha,hb,bne_iff_ne.2 hc⟩)
   · exact .inr (.inl ⟨ha,bne_iff_ne.2 hb⟩)
 · exact .inl (bne_iff_ne.2 ha)
end
section
theorem nmB_eq{s t:ByteArray}:nmB s t=true↔t.data.toList=s.data.toList:=by simp [nmB]
theorem nmB_congr{s t:ByteArray}(h:nmB s t=true):nmB t=nmB s:=by
 funext x
 unfold nmB;rw [nmB_eq.1 h]
theorem cntS_congr{s t:ByteArray}(h:nmB s t=true) (l:List ByteArray):cntS t l=cntS s l:=by
 unfold cntS;rw [nmB_congr h]
theorem inputS_congr{n:Nd}{s t:ByteArray}(h:nmB s t=true):inputS n t=inputS n s:=by
 unfold inputS;rw [nmB_congr h]
theorem cntS_zero{s:ByteArray}{l:List ByteArray}(h:l.any (nmB s)=false):cntS s l=0:=by
 unfold cntS;rw [List.length_eq_zero_iff,List.filter_eq_nil_iff];intro x hx;have:=List.any_eq_false.1 h x hx
 simpa using this
theorem cntS_mem{s:ByteArray}{l:List ByteArray}(h:cntS s l≠0):∃ k,k<l.length∧nmB s (l[k]?.getD ByteArray.empty)=true:=by
 cases ha:l.any (nmB s) with
 | false=>exact absurd (cntS_zero ha) h
 | true=>
  obtain⟨x,hx,hn⟩:=List.any_eq_true.1 ha;obtain⟨k,hk,rfl⟩:=List.getElem_of_mem hx;exact⟨k,hk,by rwa [List.getElem?_eq_getElem hk]⟩
theorem nameS_zero{n:Nd}{i k:Nat}{ns:List ByteArray}(h:nameS n i ns k=0):inputS n (ns[k]?.getD ByteArray.empty)=false∧defN n (ns[k]?.getD ByteArray.empty) i=0∧(ns.take k).any (nmB (ns[k]?.getD ByteArray.empty))=false:=by
 unfold nameS at h
 split at h
 · cases h
 · split at h
   · cases h
   · rename_i h2
     split at h
     · cases h
     · rename_i h3
       simp only [Bool.or_eq_true,decide_eq_true_eq,not_or] at h2;exact⟨by simpa using h2.1,by omega,by simpa using h3⟩
theorem eqS_zero{p:Pg}{i j:Nat}(h:eqS p i j=0):(∀ k,k<((ndAt p i).eqs[j]?.getD default).ns.length→nameS (ndAt p i) j ((ndAt p i).eqs[j]?.getD default).ns k=0)∧(partsX ((ndAt p i).eqs[j]?.getD default).x).all (partS p i)=true:=by
 unfold eqS at h
 split at h
 · rename_i h1
   refine⟨firstF_zero h1,?_⟩
   split at h
   · assumption
   · cases h
 · rename_i h1
   exact absurd h h1
theorem nodeS_zero{p:Pg}{i:Nat}(h:nodeS p i=(0,0,0)):(∀ j,j<(ndAt p i).eqs.length→eqS p i j=0)∧((ndAt p i).all.drop (ndAt p i).ins.length).all (fun d=>decide (0<defN (ndAt p i) d.nm (ndAt p i).eqs.length))=true:=by
 unfold nodeS at h
 split at h
 · injection h with _ h;injection h with h _
   cases h
 · split at h
   · rename_i h1
     refine⟨fun j hj=>?_,?_⟩
     · have h2:=firstF_zero h1 j hj
       by_cases h3:eqS p i j=0
       · exact h3
       · exact absurd h2 (eqF_ne h3).2
     · split at h
       · assumption
       · injection h with _ h;injection h with h _
         cases h
   · rename_i h1
     exact absurd h h1
theorem checkS_zero{p:Pg}(h:checkS p=(0,0,0)):∀ i,i<p.ns.length→nodeS p i=(0,0,0):=by
 unfold checkS at h
 split at h
 · exact firstF_zero h
 · injection h with _ h;injection h with h _
   cases h
theorem cnt_take{ns:List ByteArray}(H:∀ k,k<ns.length→(ns.take k).any (nmB (ns[k]?.getD ByteArray.empty))=false) (s:ByteArray):∀ j,j≤ns.length→cntS s (ns.take j)≤1
 | 0,_=>by simp [cntS]
 | j+1,hj=>by
  have ih:=cnt_take H s j (by omega);have h1:=H j (by omega);rw [List.take_add_one,List.getElem?_eq_getElem (by omega),cntS_app];rw [List.getElem?_eq_getElem (by omega),Option.getD_some] at h1;simp only [Option.toList_some]
  by_cases hs:nmB s ns[j]=true
  · have h2:=cntS_zero h1;rw [cntS_congr hs] at h2;have h3:=cntS_le s [ns[j]];simp only [List.length_cons,List.length_nil] at h3;omega
  · have h2:cntS s [ns[j]]=0:=by unfold cntS;rw [List.filter_cons_of_neg hs];rfl
    omega
theorem defN_step{n:Nd}{s:ByteArray}{m:Nat}(hm:m<n.eqs.length):defN n s (m+1)=defN n s m+cntS s (n.eqs[m]?.getD default).ns:=by
 unfold defN;rw [List.take_add_one,List.getElem?_eq_getElem hm,List.flatMap_append,cntS_app]
 simp
theorem def_once{n:Nd}(H:∀ j,j<n.eqs.length→∀ k,k<(n.eqs[j]?.getD default).ns.length→nameS n j (n.eqs[j]?.getD default).ns k=0) (s:ByteArray):∀ m,m≤n.eqs.length→defN n s m≤1
 | 0,_=>by rw [defN_zero];omega
 | m+1,hm=>by
  have ih:=def_once H s m (by omega);rw [defN_step (by omega)]
  by_cases h0:cntS s (n.eqs[m]?.getD default).ns=0
  · omega
  · obtain⟨k,hk,hn⟩:=cntS_mem h0;have h1:=nameS_zero (H m (by omega) k hk)
    have h2:defN n s m=0:=by
     have:=h1.2.1;unfold defN at this ⊢;rwa [cntS_congr hn] at this
    have h3:=cnt_take (ns:=(n.eqs[m]?.getD default).ns) (fun k hk=>(nameS_zero (H m (by omega) k hk)).2.2) s _ (Nat.le_refl _);rw [List.take_length] at h3;omega
theorem def_input{n:Nd}(H:∀ j,j<n.eqs.length→∀ k,k<(n.eqs[j]?.getD default).ns.length→nameS n j (n.eqs[j]?.getD default).ns k=0){s:ByteArray}(hs:inputS n s=true):∀ m,m≤n.eqs.length→defN n s m=0
 | 0,_=>defN_zero n s
 | m+1,hm=>by
  rw [defN_step (by omega),def_input H hs m (by omega)]
  by_cases h0:cntS s (n.eqs[m]?.getD default).ns=0
  · omega
  · obtain⟨k,hk,hn⟩:=cntS_mem h0;have h1:=(nameS_zero (H m (by omega) k hk)).1;rw [inputS_congr hn,hs] at h1
    cases h1
theorem once_count{p:Pg}{i k:Nat}(h:nodeS p i=(0,0,0)) (hk:k<(ndAt p i).all.length):
 defN (ndAt p i) ((ndAt p i).all[k]?.getD default).nm (ndAt p i).eqs.length=if k<(ndAt p i).ins.length then 0 else 1:=by
 obtain⟨h1,h2⟩:=nodeS_zero h;have H:=fun j hj=>(eqS_zero (h1 j hj)).1
 by_cases hi:k<(ndAt p i).ins.length
 · rw [if_pos hi];refine def_input H ?_ _ (Nat.le_refl _);unfold inputS;refine List.any_eq_true.2 ⟨(ndAt p i).ins[k],List.getElem_mem hi,?_⟩
   have:(ndAt p i).all[k]?.getD default=(ndAt p i).ins[k]:=by
    unfold Nd.all;rw [List.getElem?_append_left (by rw [List.length_append];omega),List.getElem?_append_left hi,List.getElem?_eq_getElem hi];rfl
   rw [this,nmB_eq]
 · rw [if_neg hi];have h3:=def_once H ((ndAt p i).all[k]?.getD default).nm _ (Nat.le_refl _)
   have h4:0<defN (ndAt p i) ((ndAt p i).all[k]?.getD default).nm (ndAt p i).eqs.length:=by
    have:=List.all_eq_true.1 h2 ((ndAt p i).all[k]) (by
     rw [List.mem_drop_iff_getElem];exact⟨k-(ndAt p i).ins.length,by omega,by congr 1;omega⟩)
    rw [List.getElem?_eq_getElem hk]
    simpa using this
   omega
theorem once_calls{p:Pg}{i j:Nat}(h:nodeS p i=(0,0,0)) (hj:j<(ndAt p i).eqs.length):∀ e∈partsX ((ndAt p i).eqs[j]?.getD default).x,(e.k==13)=true→0≤findN p e.s∧findN p e.s<(i:Int):=by
 intro e he hk;have h1:=List.all_eq_true.1 (eqS_zero ((nodeS_zero h).1 j hj)).2 e he;have hk2:e.k=13:=by simpa using hk
 unfold partS at h1;rw [hk2] at h1
 split at h1
 · cases h1
 · split at h1
   · cases h1
   · simpa using h1
end
section
open Go.Shelf Go.RowKit Go.Lib Go.Sort
def growD_ren:Go.Shelf.Ren:=⟨fun | 4=>56 | n=>n,fun | 22=>38 | 25=>45 | 3=>3 | 4=>4 | 9=>9 | 20=>20 | 0=>0 | n=>n,fun | n=>n⟩
theorem growD:Go.Proofs.Lays8.n4 Try.prog growD_ren:={
 mixed:=by kernel_rfl
 f4:=⟨Try.f56.name,by decide,Try.func56.trans (congrArg some (by kernel_rfl))⟩
 t0:=Try.underlying0
 a0:=Try.isAgg0
 z0:=Try.sizeOf0
 v0:=Try.zeroValue0
 t3:=Try.underlying3
 a3:=Try.isAgg3
 z3:=Try.sizeOf3
 v3:=Try.zeroValue3
 t4:=Try.underlying4
 a4:=Try.isAgg4
 z4:=Try.sizeOf4
 v4:=Try.zeroValue4
 t9:=Try.underlying9
 a9:=Try.isAgg9
 z9:=Try.sizeOf9
 v9:=Try.zeroValue9
 t20:=Try.underlying20
 a20:=Try.isAgg20
 z20:=Try.sizeOf20
 v20:=Try.zeroValue20
 t22:=Try.underlying38
 a22:=Try.isAgg38
 z22:=Try.sizeOf38
 v22:=Try.zeroValue38 }
theorem slGrowD(n:Nat) (w:World) (hn:n≤1000000):
 Calls Try.prog 56 #[.slice none 0 0,.int .i64 n] w fun e w'=>∃ v,e=.returned v∧w'.ownsRow w.heap.size 45 6 v 0 (flD [])∧Below w.heap.size w w':=by
 obtain⟨i0,z0,hi,hz1,hz0,hz2,hz3⟩:=info_three infoDecl;rcases Nat.eq_zero_or_pos n with rfl | hp
 · refine(Any8.slices_Grow_room growD none 0 0 0 w (Nat.le_refl _) (by omega) (by omega) (by omega)).mono ?_;rintro e w' ⟨rfl,rfl⟩;exact⟨_,rfl,⟨rfl,.inl ⟨rfl,rfl⟩⟩,Below.refl _ _⟩
 · refine(Any8.slices_Grow_grow growD i0 z0 hi hz1 (by omega) none 0 0 n [] w (Nat.le_refl _) (by omega) (by rw [hz2];omega) (by omega) (by simp) (fun _=>rfl) (fun a h=>by cases h)).mono ?_;rintro e w' ⟨rfl,rfl⟩;refine⟨_,rfl,⟨rfl,.inr ⟨w.heap.size,_,_,rfl,Nat.le_refl _,heap_alloc_new _ _,Nat.zero_le _,?_,?_,?_⟩⟩,?_⟩
   · exact grownCap_le_maxLen _ _ _ _ (by unfold maxLen;omega)
   · have:=grownCap_ge w (0+n) 0 45
     show(_:Array Value).size=grownCap w (0+n) 0 45*6
     simp only [Array.size_append,size_zeroCells,hz3,List.size_toArray,List.length_nil];rw [show growD_ren.t 25=45 from rfl];omega
   · rfl
   · exact(Below.refl _ _).drew.alloc (Nat.le_refl _) _
end
section
open Go.RowKit Go.Sort
theorem own_below{w w':World}{base:Nat}{e:TypeId}{size n:Nat}{v:Value}{xs:List Value}(h:w.ownsRow base e size v n xs) (hb:Below w.heap.size w w'):w'.ownsRow base e size v n xs:=by
 refine⟨h.1,?_⟩;rcases h.2 with h2 | ⟨g,cap,cur,hv,hg,hh,hr⟩
 · exact .inl h2
 · exact .inr ⟨g,cap,cur,hv,hg,(hb.block g (Array.getElem?_eq_some_iff.1 hh).1).trans hh,hr⟩
end
section
open Go.RowKit Go.Sort
def catTo(x:Nd) (k:Nat):List Dc:=match k with | 0=>[] | 1=>x.ins | 2=>x.ins++x.outs | _=>x.all
theorem catTo_succ(x:Nd){k:Nat}(h:k<3):catTo x (k+1)=catTo x k++listK x k:=by
 match k,h with
 | 0,_=>rfl
 | 1,_=>rfl
 | 2,_=>rfl
theorem catTo_le(x:Nd){k:Nat}(h:k≤3):(catTo x k).length≤x.all.length:=by
 match k,h with
 | 0,_=>exact Nat.zero_le _
 | 1,_=>simp [catTo,Nd.all]
 | 2,_=>simp [catTo,Nd.all]
 | 3,_=>exact Nat.le_refl _
theorem slConcatD(x:Nd) (A1:Option Addr) (c1:Nat) (A2:Option Addr) (c2:Nat) (A3:Option Addr) (c3:Nat) (A4:Option Addr) (b:Nat) (w:World) (h:rdN w x A1 A2 A3 A4)
 (hc:∀ j,w.cell? ⟨b,j,none⟩=(lists3 x A1 c1 A2 c2 A3 c3)[j]?) (hb:b<w.heap.size) (hn:x.all.length≤1000):
 Calls Try.prog 35 #[.slice (some ⟨b,0,none⟩) 3 3] w (DeclsPost w x.all.length x.all):=by
 obtain⟨i0,z0,hi,hz1,hz0,hz2,hz3⟩:=info_three infoDecl;have HLS:=Hd fun(w:World) (h:rdN w x A1 A2 A3 A4) (k:Nat) hk=>lists_at (c1:=c1) (c2:=c2) (c3:=c3) h (k:=k) hk;have HC:=Hd hc;have HR:=Hd h;have HB:=Hd hb;have HSU:=Hd fun(k:Nat) hk=>catTo_succ x (k:=k) hk;have HLE:=Hd fun(k:Nat) hk=>(show(catTo x k).length≤1000 from Nat.le_trans (catTo_le x (k:=k) hk) hn);have HEND:=Hd (show catTo x 3=x.all from rfl);have HNIL:=Hd (show catTo x 0=[] from rfl);have HGR:=Hd fun w1=>slGrowD x.all.length w1 (by omega);have HLK:=Hd fun(k:Nat) hk=>(show(catTo x k).length+(listK x k).length≤1000 by rw [← List.length_append,← catTo_succ x hk];exact Nat.le_trans (catTo_le x (k:=k+1) (by omega)) hn);clear h hc hb hn;generalize catTo x=cat at *;generalize x.all=all at *
 go_enter Try.func35,Try.ntmps35
 go_wp2_with fail
 go_loopw [3,11] (fun s i wr=>∃ k:Nat,k≤3∧i=.int .i64 k∧s=.int .i64 (cat k).length∧wr=w) (fun _ i _=>3-(intOf i).toNat)
 case atStart=>exact⟨0,by omega,rfl,by rw [HNIL.out];rfl,rfl⟩
 case round=>
  obtain⟨k,hk,rfl,rfl,rfl⟩:=hrel
  by_cases hlt:k<3
  · obtain⟨A,c,hAk,-⟩:=HLS.out wr HR.out k hlt;have e0:=HC.out k;rw [hAk] at e0;have hlk:=HLK.out k hlt;have HS:=Hd (show(cat (k+1)).length=(cat k).length+(listK x k).length by rw [HSU.out k hlt,List.length_append]);clear hAk;generalize hn1:(cat k).length=n1 at *;generalize hm1:(listK x k).length=m1 at *;have d0:decide (((n1:Int)+(m1:Int))<0)=false:=decide_eq_false (by omega);clear hn1 hm1
    go_wp2_with fail
    go_roundw
    case rel=>exact⟨k+1,by omega,by go_num,by rw [HS.out];go_num,(by first | trivial | rfl)⟩
    case measure=>simp [intOf];omega
  · obtain rfl:k=3:=by omega
    rw [HEND.out]
    go_wp2_with fail
    refine(HGR.out wr).mono ?_;rintro e w2 ⟨v,rfl,hown,hb2⟩;have HOW:=Hd hown;have HB2:=Hd hb2;clear hown hb2
    go_wp2_with fail
    generalize wr=w at *
    go_loopw [6,27] (fun v i wr=>∃ k:Nat,k≤3∧i=.int .i64 k∧wr.ownsRow w.heap.size 45 6 v (cat k).length (flD (cat k))∧Below w.heap.size w wr) (fun _ i _=>3-(intOf i).toNat)
    case atStart=>exact⟨0,by omega,rfl,by rw [HNIL.out];exact HOW.out,HB2.out⟩
    case round=>
     obtain⟨k,hk,rfl,hown,hnx⟩:=hrel;have HO:=Hd hown;have HNX:=Hd hnx;clear hown
     by_cases hlt:k<3
     · obtain⟨A,c,hAk,hrd⟩:=HLS.out wr (HR.out.below hnx) k hlt;have e0:=(hnx.cell (p:=⟨b,k,none⟩) HB.out).trans (HC.out k);rw [hAk] at e0;have HRD:=Hd hrd;have hlk:=HLK.out k hlt;have HS:=Hd (HSU.out k hlt);clear hAk hrd hnx
       go_wp2_with (at_builtin;refine wpList_append_dc rfl _ _ 38 rfl w.heap.size 45 i0 z0 72 Try.underlying38 hi hz1 hz0 hz2 hz3 _ (cat k).length (cat k) rfl HO.out A (listK x k).length c (listK x k) rfl HRD.out (by unfold maxLen;omega) (by omega) HNX.out.size ?_;intro v' w5 hown' hgrow;have hB5:=HNX.out.grown hgrow HNX.out.size (fun j hj=>(HO.out.lt j hj).1);have HO5:=Hd hown';have HB5:=Hd hB5;clear hown' hgrow hB5)
       go_roundw
       case rel=>exact⟨k+1,by omega,by go_num,by rw [HS.out,List.length_append];exact HO5.out,HB5.out⟩
       case measure=>simp [intOf];omega
     · obtain rfl:k=3:=by omega
       rw [HEND.out] at HO;have hO:=HO.out;obtain⟨A,c,rfl,hrd⟩:=RdD.of_own hO (by have:=HLE.out 3 (by omega);rw [HEND.out] at this;omega);have HRD:=Hd hrd;clear hO hrd
       go_wp2_with fail
       go_ret
       exact⟨A,c,rfl,HRD.out,HNX.out⟩
end
end Go.Proofs.Ytpehkppcdlboeaa
