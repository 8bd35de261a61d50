/- Parts of the proof: PgQ, PgP, ScM, ClM, ScA, ScL. Conditions: each theorem's own. -/
import Derived.Test.YtkbpdoomhfkngaaO08
namespace Go.Proofs.Ytkbpdoomhfkngaa
set_option linter.unusedVariables false
set_option linter.unusedSimpArgs false
set_option maxRecDepth 100000
set_option maxHeartbeats 40000000
section
open Go.RowKit Go.Sort
def TinyQ(q:Qn):Prop:=q.ns.length≤20∧tinyX q.x=true∧∀ j,j<q.ns.length→(q.ns[j]?.getD ByteArray.empty).size≤100
def TinyN(n:Nd):Prop:=fewD n.ins=true∧fewD n.outs=true∧fewD n.vars=true∧n.eqs.length≤30∧n.nm.size≤100∧∀ j,j<n.eqs.length→TinyQ (n.eqs[j]?.getD default)
def TinyP(p:Pg):Prop:=EsTiny p.es∧p.ns.length≤10∧∀ j,j<p.ns.length→TinyN (p.ns[j]?.getD default)
def SmallP(w:World) (p:Pg) (e:Ending) (w':World):Prop:=∃ b,e=.returned (.bool b)∧(b=true→TinyP p)∧Below w.heap.size w w'
theorem smallP_no{w w':World}(p:Pg) (hb:Below w.heap.size w w'):SmallP w p (.returned (.bool false)) w':=⟨false,rfl,fun h=>(by cases h),hb⟩
theorem box_store{w:World}{zc cs:Array Value}{T:TypeId}{w4:World}(hw:(w.alloc (.cells zc T)).setRow w.heap.size cs=w4):
 Below w.heap.size w w4∧w.heap.size<w4.heap.size∧∀ w',Below w4.heap.size w4 w'→∀ j,w'.cell? ⟨w.heap.size,j,none⟩=cs[j]?:=by
 have h1:w4.heap[w.heap.size]?=some (.cells cs T):=by
  rw [← hw];exact setRow_heap _ _ _ _ _ _ (heap_alloc_new _ _)
 have hlt:w.heap.size<w4.heap.size:=(Array.getElem?_eq_some_iff.1 h1).1;refine⟨?_,hlt,fun w' hb j=>?_⟩
 · rw [← hw];exact below_setRow ((Below.refl _ _).alloc (Nat.le_refl _) _) (Nat.le_refl _) cs
 · rw [hb.cell (p:=⟨w.heap.size,j,none⟩) hlt];unfold World.cell?;rw [show w4.heap[(⟨w.heap.size,j,none⟩:Addr).block]?=_ from h1];rfl
theorem ndinfo:(Try.prog.info? 48).map (·.size)=some 5:=by kernel_rfl
theorem qninfo:(Try.prog.info? 51).map (·.size)=some 7:=by kernel_rfl
theorem refPgSmall(p:Pg) (E:Option Addr) (ec:Nat) (N:Option Addr) (nc:Nat) (w:World) (h:rdP w p E N):
 Calls Try.prog 5 #[.agg (pgA p E ec N nc)] w (SmallP w p):=by
 have HF:=Hd fun w1 hw=>pg_facts w p E ec N nc w1 hw h;have HSM:=Hd fun w1 a=>refEnSmall E p.es.length ec p.es w1 a;have HFW:=Hd fun A n c l w1 a=>refFewD A n c l w1 a;have HXS:=Hd fun x A ca B cb w1 a=>refSmall x A ca B cb w1 a;have hmx:=RdS.max h.2;have HTP:=Hd (show EsTiny p.es→p.ns.length≤10→(∀ j,j<p.ns.length→TinyN (p.ns[j]?.getD default))→TinyP p from fun a b c=>⟨a,b,c⟩);have HNO:=Hd fun w' hb=>smallP_no (w:=w) (w':=w') p hb;have HYS:=Hd fun w' (hb:Below w.heap.size w w') (ht:TinyP p)=>(show SmallP w p (.returned (.bool true)) w' from⟨true,rfl,fun _=>ht,hb⟩);unfold pgA;unfold exA at HXS;generalize TinyP p=TP at *
 go_enter Try.func5,Try.ntmps5
 go_upto_region 1 with(fail)
 generalize hw1:w.alloc _=w1;obtain⟨hb1,hg,hR1,hcell⟩:=HF.out w1 hw1;have HB1:=Hd hb1;have HC:=Hd hcell;have HEN:=Hd hR1.1;have HNS:=Hd (show RdS 5 NdAt w1 N p.ns.length p.ns from hR1.2);simp only [pgA] at HC;have q0:=HC.out w1 (Below.refl _ _) 0;have q1:=HC.out w1 (Below.refl _ _) 1;simp only [Ya,Yb,Yc] at q0 q1;clear hw1 hcell hb1 HF h hR1;generalize hns:p.ns=ns at *;generalize hnl:ns.length=n at *;have HNL:=Hd hnl;clear hnl hns
 go_wp2_with fail
 refine(HSM.out w1 HEN.out).mono ?_;rintro e w2 ⟨be,rfl,hbe,rfl⟩
 cases be with
 | false=>
  go_wp2_with fail
  go_ret
  exact HNO.out w1 HB1.out
 | true=>
  have HTE:=Hd (hbe rfl);clear hbe
  by_cases h10:10<n
  · go_wp2_with fail
    go_ret
    exact HNO.out w1 HB1.out
  · have d10:decide ((10:Int)<(n:Int))=false:=decide_eq_false (by omega)
    go_wp2_with fail
    go_loopw [3] (fun i wr=>∃ k:Nat,k≤n∧i=.int .i64 k∧(∀ j,j<k→TinyN (ns[j]?.getD default))∧Below w1.heap.size w1 wr) (fun i _=>n-(intOf i).toNat)
    case atStart=>exact⟨0,Nat.zero_le _,rfl,fun j hj=>absurd hj (by omega),Below.refl _ _⟩
    case round=>
     obtain⟨k,hk,rfl,hto,hnx⟩:=hrel;have HT:=Hd hto;have HNX:=Hd hnx;have hz:=hnx.size;have q1:=HC.out wr hnx 1;simp only [Ya,Yb,Yc] at q1;clear hto
     by_cases hlt:k<n
     · obtain⟨b,off,rfl,hb,hc⟩:=RdS.at_ (RdNs.below HNS.out hnx) (by omega);have hnd:=hc k hlt;clear hc hnx;have HS:=Hd fun(hf:TinyN (ns[k]?.getD default))=>to_next (P:=fun j=>TinyN (ns[j]?.getD default)) HT.out hf;generalize ns[k]?.getD default=x at hnd HS;have HTN:=Hd (show fewD x.ins=true→fewD x.outs=true→fewD x.vars=true→x.eqs.length≤30→x.nm.size≤100→(∀ j,j<x.eqs.length→TinyQ (x.eqs[j]?.getD default))→TinyN x from fun a b c d e f=>⟨a,b,c,d,e,f⟩);obtain⟨A1,c1,A2,c2,A3,c3,A4,c4,hrd,p10,p11,p12,p13,p14⟩:=hnd.five;have hmq:=RdS.max hrd.2.2.2;have HBX:=Hd fun zc w4 hw=>box_store (w:=wr) (zc:=zc) (cs:=ndA x A1 c1 A2 c2 A3 c3 A4 c4) (T:=48) (w4:=w4) hw;have HRD:=Hd hrd;simp only [ndA] at HBX;clear hrd hnd
       go_upto_region 7 with(refine wpList_store_row rfl _ _ _ rfl wr.heap.size _ rfl rfl _ _ (heap_alloc_new _ _) ndinfo rfl (by simp [Value.oneCell']) ?_)
       generalize hw4:World.setRow _ _ _=w4;obtain⟨hb4,hlt4,hcell4⟩:=HBX.out _ w4 hw4;have HB4:=Hd (HNX.out.trans (hb4.mono hz));have HBV:=Hd (HB1.out.trans (HB4.out.mono (by omega)));have HC4:=Hd hcell4;have HRD4:=Hd (HRD.out.below hb4);have hz4:=hb4.size;obtain⟨r0,r1,r2,r3,r4,-⟩:=Sx (hcell4 w4 (Below.refl _ _));simp only [Ya,Yb,Yc] at r0 r1 r2 r3 r4;have HF1:=Hd (HFW.out A1 x.ins.length c1 x.ins w4 HRD4.out.1);have HF2:=Hd (HFW.out A2 x.outs.length c2 x.outs w4 HRD4.out.2.1);have HF3:=Hd (HFW.out A3 x.vars.length c3 x.vars w4 HRD4.out.2.2.1);have HQS:=Hd (show RdS 7 QnAt w4 A4 x.eqs.length x.eqs from HRD4.out.2.2.2);clear hw4 hcell4 hb4 p10 p11 p12 p13 p14 q1 HBX;generalize hqs:x.eqs=qs at *;generalize hql:qs.length=nq at *;have HQL:=Hd hql;clear hql hqs;generalize wr.heap.size=gb at *
       cases g1:fewD x.ins with
       | false=>
        go_wp2_with fail
        refine HF1.out.mono ?_;rw [g1];rintro e v1 ⟨rfl,rfl⟩
        go_wp2_with fail
        go_ret
        exact HNO.out w4 HBV.out
       | true=>
        go_wp2_with fail
        refine HF1.out.mono ?_;rw [g1];rintro e v1 ⟨rfl,rfl⟩
        cases g2:fewD x.outs with
        | false=>
         go_wp2_with fail
         refine HF2.out.mono ?_;rw [g2];rintro e v2 ⟨rfl,rfl⟩
         go_wp2_with fail
         go_ret
         exact HNO.out w4 HBV.out
        | true=>
         go_wp2_with fail
         refine HF2.out.mono ?_;rw [g2];rintro e v2 ⟨rfl,rfl⟩
         cases g3:fewD x.vars with
         | false=>
          go_wp2_with fail
          refine HF3.out.mono ?_;rw [g3];rintro e v3 ⟨rfl,rfl⟩
          go_wp2_with fail
          go_ret
          exact HNO.out w4 HBV.out
         | true=>
          go_wp2_with fail
          refine HF3.out.mono ?_;rw [g3];rintro e v3 ⟨rfl,rfl⟩
          by_cases h30:30<nq
          · go_wp2_with fail
            go_ret
            exact HNO.out w4 HBV.out
          · have d30:decide ((30:Int)<(nq:Int))=false:=decide_eq_false (by omega)
            by_cases h100:100<x.nm.size
            · have d100:decide ((100:Int)<(x.nm.size:Int))=true:=decide_eq_true (by omega)
              go_wp2_with fail
              go_ret
              exact HNO.out w4 HBV.out
            · have d100:decide ((100:Int)<(x.nm.size:Int))=false:=decide_eq_false (by omega);have HTN:=Hd (HTN.out g1 g2 g3 (by omega) (by omega));generalize wr=wo at *
              go_wp2_with fail
              go_loopw [5] (fun i wq=>∃ j:Nat,j≤nq∧i=.int .i64 j∧(∀ a,a<j→TinyQ (qs[a]?.getD default))∧Below w4.heap.size w4 wq) (fun i _=>nq-(intOf i).toNat)
              case atStart=>exact⟨0,Nat.zero_le _,rfl,fun j hj=>absurd hj (by omega),Below.refl _ _⟩
              case round=>
               obtain⟨j,hj,rfl,htq,hnq⟩:=hrel;have HTQ:=Hd htq;have HNQ:=Hd hnq;have hzq:=hnq.size;have r4:=HC4.out _ hnq 4;simp only [Ya,Yb,Yc] at r4;clear htq
               by_cases hjl:j<nq
               · obtain⟨b5,off5,rfl,hb5,hc5⟩:=RdS.at_ (RdQ.below HQS.out hnq) (by omega);have hqa:=hc5 j hjl;clear hc5 hnq;have HSQ:=Hd fun(hf:TinyQ (qs[j]?.getD default))=>to_next (P:=fun a=>TinyQ (qs[a]?.getD default)) HTQ.out hf;generalize qs[j]?.getD default=q at hqa HSQ;have HTY:=Hd (show q.ns.length≤20→tinyX q.x=true→(∀ j,j<q.ns.length→(q.ns[j]?.getD ByteArray.empty).size≤100)→TinyQ q from fun a b c=>⟨a,b,c⟩);obtain⟨A6,c6,A7,c7,A8,c8,hqt,hqx,s0,s1,s2,s3,s4,s5,s6⟩:=hqa.seven;have hmt:=hqt.max;have HBX:=Hd fun zc w6 hw=>box_store (w:=wr) (zc:=zc) (cs:=qnA q A6 c6 A7 c7 A8 c8) (T:=51) (w4:=w6) hw;have HQT:=Hd hqt;have HQX:=Hd hqx;simp only [qnA] at HBX;clear hqt hqx hqa
                 go_upto_region 13 with(refine wpList_store_row rfl _ _ _ rfl wr.heap.size _ rfl rfl _ _ (heap_alloc_new _ _) qninfo rfl (by simp [Value.oneCell']) ?_)
                 generalize hw6:World.setRow _ _ _=w6;obtain⟨hb6,hlt6,hcell6⟩:=HBX.out _ w6 hw6;have HB6:=Hd (HNQ.out.trans (hb6.mono hzq));have HBU:=Hd (HBV.out.trans (HB6.out.mono HBV.out.size));have HC6:=Hd hcell6;have HQT6:=Hd (HQT.out.below hb6);have hz6:=hb6.size;obtain⟨t0,t1,t2,t3,t4,t5⟩:=Sx (hcell6 w6 (Below.refl _ _));have t6:=hcell6 w6 (Below.refl _ _) 6;simp only [Ya,Yb,Yc] at t0 t1 t2 t3 t4 t5 t6;have HX6:=Hd (HXS.out q.x A7 c7 A8 c8 w6 (HQX.out.below hb6));clear hw6 hcell6 hb6 s0 s1 s2 s3 s4 s5 s6 r4 HBX;generalize hss:q.ns=ss at *;generalize hsl:ss.length=nn at *;have HSL:=Hd hsl;clear hsl hss;generalize wr.heap.size=gq at *
                 by_cases h20:20<nn
                 · go_wp2_with fail
                   go_ret
                   exact HNO.out w6 HBU.out
                 · have d20:decide ((20:Int)<(nn:Int))=false:=decide_eq_false (by omega)
                   cases gx:tinyX q.x with
                   | false=>
                    rw [gx] at HX6
                    go_wp2_with fail
                    refine HX6.out.mono ?_;rintro e w7 ⟨rfl,hb7⟩;have HB7:=Hd (HBU.out.trans (hb7.mono HBU.out.size));clear hb7
                    go_wp2_with fail
                    go_ret
                    exact HNO.out w7 HB7.out
                   | true=>
                    rw [gx] at HX6;have HTY:=Hd (HTY.out (by omega) gx)
                    go_wp2_with fail
                    refine HX6.out.mono ?_;rintro e w7 ⟨rfl,hb7⟩;have HB7:=Hd (HBU.out.trans (hb7.mono HBU.out.size));have HB67:=Hd (HB6.out.trans (hb7.mono HB6.out.size));have u0:=HC6.out w7 hb7 0;simp only [Ya,Yb,Yc] at u0;have HQT7:=Hd (HQT6.out.below hb7);clear hb7 t0 t1 t2 t3 t4 t5 t6
                    go_wp2_with fail
                    go_loop [7] (fun i=>∃ m:Nat,m≤nn∧i=.int .i64 m∧∀ a,a<m→(ss[a]?.getD ByteArray.empty).size≤100) (fun i=>nn-(intOf i).toNat)
                    case atStart=>exact⟨0,Nat.zero_le _,rfl,fun j hj=>absurd hj (by omega)⟩
                    case round=>
                     obtain⟨m,hm,rfl,hts⟩:=hrel;have HTS:=Hd hts;clear hts
                     by_cases hml:m<nn
                     · obtain⟨b8,off8,rfl,hb8,hc8⟩:=HQT7.out.at_ hml;have hs8:=hc8 m hml;clear hc8;have HSS:=Hd fun(hf:(ss[m]?.getD ByteArray.empty).size≤100)=>to_next (P:=fun a=>(ss[a]?.getD ByteArray.empty).size≤100) HTS.out hf;generalize ss[m]?.getD ByteArray.empty=y at hs8 HSS
                       by_cases hy:100<y.size
                       · go_wp2_with fail
                         go_ret
                         exact HNO.out w7 HB7.out
                       · have HS2:=Hd (HSS.out (by omega))
                         go_wp2_with fail
                         go_round
                         case rel=>exact⟨m+1,by omega,by go_num,HS2.out⟩
                         case measure=>simp [intOf];omega
                     · have HS3:=Hd (HSQ.out (HTY.out fun a ha=>HTS.out a (by omega)))
                       go_wp2_with fail
                       go_roundw
                       case rel=>exact⟨j+1,by omega,by go_num,HS3.out,HB67.out⟩
                       case measure=>simp [intOf];omega
               · have HS4:=Hd (HS.out (HTN.out fun a ha=>HTQ.out a (by omega)));have HB8:=Hd (HB4.out.trans (HNQ.out.mono HB4.out.size))
                 go_wp2_with fail
                 go_roundw
                 case rel=>exact⟨k+1,by omega,by go_num,HS4.out,HB8.out⟩
                 case measure=>simp [intOf];omega
     · have HP:=Hd (HTP.out HTE.out (by omega) fun a ha=>HT.out a (by omega))
       go_wp2_with fail
       go_ret
       exact HYS.out wr (HB1.out.trans (HNX.out.mono (by omega))) HP.out
end
section
open Go.RowKit Go.Sort
theorem tiny_sizeX{x:Ex}(h:tinyX x=true):sizeX x≤1000000:=by
 simp only [tinyX,Bool.and_eq_true,decide_eq_true_eq] at h;omega
theorem tiny_shortX{x:Ex}(h:tinyX x=true):∀ p∈partsX x,ShortP p:=by
 simp only [tinyX,Bool.and_eq_true,List.all_eq_true] at h;exact fun p hp=>ShortP.of_few (h.2 p hp)
theorem TinyQ.ok{q:Qn}(h:TinyQ q):OkQ q:=by
 refine⟨fun s hs=>?_,tiny_sizeX h.2.1,tiny_shortX h.2.1⟩;obtain⟨j,hj,rfl⟩:=List.getElem_of_mem hs;have:=h.2.2 j hj;rw [List.getElem?_eq_getElem hj,Option.getD_some] at this;unfold maxLen;omega
theorem fewD_ok{l:List Dc}(h:fewD l=true):(∀ d∈l,OkD d)∧l.length≤20:=by
 simp only [fewD,Bool.and_eq_true,List.all_eq_true,decide_eq_true_eq] at h;refine⟨fun d hd=>?_,h.2⟩;have h1:=h.1 d hd;simp only [dcFew,Bool.and_eq_true,Bool.not_eq_true',decide_eq_false_iff_not] at h1;unfold OkD maxLen;omega
theorem TinyN.len{n:Nd}(h:TinyN n):n.all.length≤60:=by
 have h1:=(fewD_ok h.1).2;have h2:=(fewD_ok h.2.1).2;have h3:=(fewD_ok h.2.2.1).2;rw [all_len];omega
theorem TinyN.ok{n:Nd}(h:TinyN n):OkN n:=by
 refine⟨by have:=h.2.2.2.2.1;unfold maxLen;omega,fun d hd=>?_,fun q hq=>?_⟩
 · simp only [Nd.all,List.mem_append] at hd;rcases hd with(hd | hd) | hd
   · exact(fewD_ok h.1).1 d hd
   · exact(fewD_ok h.2.1).1 d hd
   · exact(fewD_ok h.2.2.1).1 d hd
 · obtain⟨j,hj,rfl⟩:=List.getElem_of_mem hq;have:=h.2.2.2.2.2 j hj;rw [List.getElem?_eq_getElem hj,Option.getD_some] at this;exact this.ok
def rightN(es:Nat) (l:List Nd):Bool:=l.all (nodeB es rightB rightX)
def onceN(l:List Nd):Bool:=l.all fun n=>onceS (namesD n.all)
def checkN(p:Pg):Int:=
 if enumsN p.es=0 then(if p.ns.length=0 then 5 else if 6<p.ns.length then 4 else if p.ns.any manyN then 4 else if rightN p.es.length p.ns then(if onceN p.ns && onceS (p.ns.map Nd.nm) then 0 else 6) else 1) else enumsN p.es
theorem nms_succ{l:List Nd}{k:Nat}(hk:k<l.length):(l.map Nd.nm).take (k+1)=(l.map Nd.nm).take k++[(l[k]?.getD default).nm]:=by
 rw [List.take_add_one,List.getElem?_map,List.getElem?_eq_getElem hk]
 simp
theorem all_take_and{α:Type} [Inhabited α] {f:α→Bool}{l:List α}{k:Nat}(hk:k<l.length):(l.take (k+1)).all f=((l.take k).all f && f (l[k]?.getD default)):=by
 rw [List.take_add_one,List.getElem?_eq_getElem hk,List.all_append]
 simp
theorem any_at_yes{α:Type} [Inhabited α] {f:α→Bool}{l:List α}{k:Nat}(hk:k<l.length) (hf:f (l[k]?.getD default)=true):l.any f=true:=by
 rw [List.getElem?_eq_getElem hk] at hf;exact List.any_eq_true.2 ⟨_,List.getElem_mem hk,hf⟩
theorem any_no{α:Type} [Inhabited α] {f:α→Bool}{l:List α}(h:∀ j,j<l.length→f (l[j]?.getD default)=false):l.any f=false:=by
 rw [List.any_eq_false];intro a ha;obtain⟨j,hj,rfl⟩:=List.getElem_of_mem ha;have:=h j hj;rw [List.getElem?_eq_getElem hj] at this
 simpa using this
theorem drewN_below{w:World}{m:Nat}:Below w.heap.size w (w.drewN m):=below_drewN (Below.refl _ _) m
theorem cells_grown{w w':World}{g:Nat}{cs:Array Value}{T:TypeId}{v:Value}(h:w.heap[g]?=some (.cells cs T)) (hgr:w.grownBy w' v.ownBlock) (hne:v.ownBlock≠some g):w'.heap[g]?=some (.cells cs T):=
 (hgr.block g (Array.getElem?_eq_some_iff.1 h).1 (fun e=>hne e.symm)).trans h
theorem cells_at{w w':World}{g:Nat}{cs:Array Value}{T:TypeId}(h:w.heap[g]?=some (.cells cs T)) (hb:Below w.heap.size w w') (j:Nat):w'.cell? ⟨g,j,none⟩=cs[j]?:=by
 have hlt:g<w.heap.size:=(Array.getElem?_eq_some_iff.1 h).1;rw [hb.cell (p:=⟨g,j,none⟩) hlt];unfold World.cell?;rw [show w.heap[(⟨g,j,none⟩:Addr).block]?=_ from h];rfl
theorem refCheck(p:Pg) (E:Option Addr) (ec:Nat) (N:Option Addr) (nc:Nat) (w:World) (h:rdP w p E N) (ht:TinyP p):
 Calls Try.prog 15 #[.agg (pgA p E ec N nc)] w fun e w'=>e=.returned (.int .i64 (checkN p))∧Below w.heap.size w w':=by
 have HF:=Hd fun w1 hw=>pg_facts w p E ec N nc w1 hw h;have HEC:=Hd fun w1 a=>refEnums E p.es.length ec p.es w1 a ht.1.ok ht.1.few;have HND:=Hd fun x A1 c1 A2 c2 A3 c3 A4 c4 w1 a b c=>refNode E p.es.length ec x A1 c1 A2 c2 A3 c3 A4 c4 w1 (by have:=ht.1.1;omega) a b c;have hmx:=RdS.max h.2;have HE:=Hd (show checkN p=if enumsN p.es=0 then(if p.ns.length=0 then 5 else if 6<p.ns.length then 4 else if p.ns.any manyN then 4 else if rightN p.es.length p.ns then(if onceN p.ns && onceS (p.ns.map Nd.nm) then 0 else 6) else 1) else enumsN p.es from rfl);have HTN:=Hd ht.2.2;obtain⟨i0,hi,ji0,ji1,ji2⟩:=info_parts infoString;unfold pgA;unfold rightN onceN at HE;generalize checkN p=out at *
 go_enter Try.func15,Try.ntmps15
 go_upto_region 1 with(fail)
 generalize hw1:w.alloc _=w1;obtain⟨hb1,hg,hR1,hcell⟩:=HF.out w1 hw1;have HB1:=Hd hb1;have HC:=Hd hcell;have HE1:=Hd (HEC.out w1 hR1.1);have HNS:=Hd (show RdS 5 NdAt w1 N p.ns.length p.ns from hR1.2);simp only [pgA] at HC;have q0:=HC.out w1 (Below.refl _ _) 0;simp only [Ya,Yb,Yc] at q0;clear hw1 hcell hb1 HF h hR1 HEC ht;generalize hns:p.ns=ns at *;generalize hnl:ns.length=n at *;have HNL:=Hd hnl;generalize p.es.length=ne at *;generalize enumsN p.es=en at *;clear hnl hns
 go_wp2_with fail
 refine HE1.out.mono ?_;rintro e w2 ⟨rfl,hb2⟩;have HB2:=Hd (HB1.out.trans (hb2.mono (by omega)));have HW2:=Hd hb2;have q1:=HC.out w2 hb2 1;have q0:=HC.out w2 hb2 0;have hz2:=hb2.size;simp only [Ya,Yb,Yc] at q0 q1;clear hb2
 by_cases he0:en=0
 · subst he0;rw [if_pos rfl] at HE;rcases Nat.eq_zero_or_pos n with hn0 | hn0
   · subst hn0;rw [if_pos rfl] at HE
     go_wp2_with fail
     go_ret
     exact⟨ret_int HE.out.symm,HB2.out⟩
   · rw [if_neg (by omega)] at HE;have dn0:((n:Int)==0)=false:=by rw [beq_eq_false_iff_ne];omega
     by_cases hn6:6<n
     · rw [if_pos hn6] at HE
       go_wp2_with fail
       go_ret
       exact⟨ret_int HE.out.symm,HB2.out⟩
     · rw [if_neg hn6] at HE;have d6:decide ((6:Int)<(n:Int))=false:=decide_eq_false (by omega);have hr3:=Hd (World.ownsRow_lit (base:=w2.heap.size) (e:=9) (size:=1) w2 #[] 0 (Nat.le_refl _) (by decide) rfl);have HB0:=Hd (HW2.out.alloc HW2.out.size (.cells #[] 9))
       go_wp2_with fail
       go_loopw [4,5,6,7] (fun v r o i wr=>∃ k:Nat,k≤n∧i=.int .i64 k∧wr.ownsRow w2.heap.size 9 1 v k (((ns.map Nd.nm).take k).map Value.string)∧r=.bool ((ns.take k).all (nodeB ne rightB rightX))∧o=.bool ((ns.take k).all fun n=>onceS (namesD n.all))∧(∀ j,j<k→manyN (ns[j]?.getD default)=false)∧Below w1.heap.size w1 wr∧w2.heap.size≤wr.heap.size) (fun _ _ _ i _=>n-(intOf i).toNat)
       case atStart=>exact⟨0,Nat.zero_le _,rfl,hr3.out,rfl,rfl,fun j hj=>absurd hj (by omega),HB0.out,by simp⟩
       case round=>
        obtain⟨k,hk,rfl,hrow,rfl,rfl,hmn,hnx,hzr⟩:=hrel;have HROW:=Hd hrow;have HMN:=Hd hmn;have HNX:=Hd hnx;have hz:=hnx.size;have q0:=HC.out wr hnx 0;have q1:=HC.out wr hnx 1;simp only [Ya,Yb,Yc] at q0 q1;clear hmn hrow hr3 HB0
        by_cases hlt:k<n
        · obtain⟨b,off,rfl,hb,hc⟩:=RdS.at_ HNS.out (by omega);have hnd:=hc k hlt;clear hc;have hnm:=nms_succ (l:=ns) (k:=k) (by rw [HNL.out];exact hlt);have hal:=all_take_and (f:=nodeB ne rightB rightX) (l:=ns) (k:=k) (by rw [HNL.out];exact hlt);have hon:=all_take_and (f:=fun n=>onceS (namesD n.all)) (l:=ns) (k:=k) (by rw [HNL.out];exact hlt);have hty:=HTN.out k hlt;have HAY:=Hd fun hf=>any_at_yes (l:=ns) (f:=manyN) (k:=k) (by rw [HNL.out];exact hlt) hf;have HS:=Hd fun(hf:manyN (ns[k]?.getD default)=false)=>to_next (P:=fun j=>manyN (ns[j]?.getD default)=false) HMN.out hf;generalize ns[k]?.getD default=x at hnd hnm hal hon hty HAY HS;have HNM:=Hd hnm;have HAL:=Hd hal;have HON:=Hd hon;have HTY:=Hd hty;have hlen:=hty.len
          have HMB:=Hd (show manyN x=(decide ((6:Int)<(x.ins.length:Int)) || decide ((6:Int)<(x.outs.length:Int)) || decide ((12:Int)<(x.vars.length:Int)) || decide ((18:Int)<(x.eqs.length:Int))) by
           have hd:∀ a b:Nat,decide ((a:Int)<(b:Int))=decide (a<b):=fun a b=>by simp
           have h6:=hd 6;have h12:=hd 12;have h18:=hd 18;simp only [manyN] at *;rw [← h6,← h6,← h12,← h18];rfl)
          clear hnm hal hon hty;obtain⟨A1,c1,A2,c2,A3,c3,A4,c4,hrd,e0,e1,e2,e3,e4⟩:=hnd.five;have p10:=(hnx.cell (p:=⟨b,off+k*5,none⟩) hb).trans e0;have p11:=(hnx.cell (p:=⟨b,off+k*5+1,none⟩) hb).trans e1;have p12:=(hnx.cell (p:=⟨b,off+k*5+2,none⟩) hb).trans e2;have p13:=(hnx.cell (p:=⟨b,off+k*5+3,none⟩) hb).trans e3;have p14:=(hnx.cell (p:=⟨b,off+k*5+4,none⟩) hb).trans e4;have HRD:=Hd fun w' (hb:Below w1.heap.size w1 w')=>hrd.below hb;have HXN:=Hd fun w' hb=>HND.out x A1 c1 A2 c2 A3 c3 A4 c4 w' (HRD.out w' hb) HTY.out.ok (by have:=HTY.out.len;omega);have HXA:=Hd fun w' hb=>refAllD x A1 c1 A2 c2 A3 c3 A4 c4 w' (HRD.out w' hb) (by have:=HTY.out.len;omega);have HBX:=Hd fun zc w4 (hw:(wr.alloc (.cells zc 48)).setRow wr.heap.size (ndA x A1 c1 A2 c2 A3 c3 A4 c4)=w4)=>(show w4.heap[wr.heap.size]?=some (.cells (ndA x A1 c1 A2 c2 A3 c3 A4 c4) 48)∧Below wr.heap.size wr w4 from⟨by rw [← hw];exact setRow_heap _ _ _ _ _ _ (heap_alloc_new _ _),(box_store hw).1⟩);unfold ndA at HXN HXA;clear e0 e1 e2 e3 e4 hrd hnd hnx
          go_upto_region 13 with(refine wpList_store_row rfl _ _ _ rfl wr.heap.size _ rfl rfl _ _ (heap_alloc_new _ _) ndinfo rfl (by simp [Value.oneCell']) ?_)
          generalize hw4:World.setRow _ _ _=w4;obtain⟨hh4,hb4⟩:=HBX.out _ w4 hw4;have HH4:=Hd hh4;have HB4:=Hd (HNX.out.trans (hb4.mono hz));have HROW4:=Hd (own_belowX HROW.out hb4);have hz4:=hb4.size;have hg4:wr.heap.size<w4.heap.size:=(Array.getElem?_eq_some_iff.1 hh4).1;have r0:=cells_at hh4 (Below.refl _ _) 0;have r1:=cells_at hh4 (Below.refl _ _) 1;have r2:=cells_at hh4 (Below.refl _ _) 2;have r3:=cells_at hh4 (Below.refl _ _) 3;have r4:=cells_at hh4 (Below.refl _ _) 4;simp only [ndA,List.getElem?_toArray,List.getElem?_cons_zero,List.getElem?_cons_succ] at r0 r1 r2 r3 r4;have HNE:=Hd (show u4.ownBlock≠some wr.heap.size from fun e=>by have:=(HROW.out.lt _ e).2;omega);clear hw4 hh4 hb4 HBX p10 p11 p12 p13 p14 q0 q1;generalize wr.heap.size=gb at *
          cases m1:decide ((6:Int)<(x.ins.length:Int)) with
          | true=>
           rw [m1] at HMB
           go_wp2_with fail
           go_ret
           exact⟨ret_int (by rw [HE.out,HAY.out (by rw [HMB.out];rfl)];rfl),HB1.out.trans (HB4.out.mono (by omega))⟩
          | false=>
           rw [m1] at HMB
           cases m2:decide ((6:Int)<(x.outs.length:Int)) with
           | true=>
            rw [m2] at HMB
            go_wp2_with fail
            go_ret
            exact⟨ret_int (by rw [HE.out,HAY.out (by rw [HMB.out];rfl)];rfl),HB1.out.trans (HB4.out.mono (by omega))⟩
           | false=>
            rw [m2] at HMB
            cases m3:decide ((12:Int)<(x.vars.length:Int)) with
            | true=>
             rw [m3] at HMB
             go_wp2_with fail
             go_ret
             exact⟨ret_int (by rw [HE.out,HAY.out (by rw [HMB.out];rfl)];rfl),HB1.out.trans (HB4.out.mono (by omega))⟩
            | false=>
             rw [m3] at HMB
             cases m4:decide ((18:Int)<(x.eqs.length:Int)) with
             | true=>
              rw [m4] at HMB
              go_wp2_with fail
              go_ret
              exact⟨ret_int (by rw [HE.out,HAY.out (by rw [HMB.out];rfl)];rfl),HB1.out.trans (HB4.out.mono (by omega))⟩
             | false=>
              rw [m4] at HMB;have HM2:=Hd (HS.out (by rw [HMB.out];rfl))
              go_upto_region 16 with(at_builtin;refine wpList_append_own_at _ rfl _ _ 26 rfl w2.heap.size 9 i0 (.string ByteArray.empty) 1 16 Try.underlying26 hi ji0 ji1 ji2 rfl (by decide) _ _ _ rfl (HROW4.out.alloc _) ⟨w4.heap.size,0,none⟩ 1 1 [.string x.nm] rfl rfl (cell_one_new _ _ _) (string_cells [x.nm]) (by unfold maxLen;omega) (by omega) (by simp;omega) ?_;intro v' w5 hown' hgrow hnil hloc;have HO5:=Hd hown';have HG5:=Hd hgrow;clear hown' hgrow hnil hloc)
              have HB5:=Hd ((HB4.out.alloc HB4.out.size (.cells #[.string x.nm] 9)).grown HG5.out (by have:=HB4.out.size;simp;omega) (fun j hj=>by have:=(HROW4.out.lt j hj).1;omega));have hh5:=cells_grown ((Below.heap_alloc w4 (.cells #[.string x.nm] 9) gb hg4).trans HH4.out) HG5.out HNE.out;have HH5:=Hd hh5;have hz5:=HB5.out.size;have hz45:=HG5.out.size
              simp at hz45
              have s0:=cells_at hh5 (Below.refl _ _) 0;have s1:=cells_at hh5 (Below.refl _ _) 1;have s2:=cells_at hh5 (Below.refl _ _) 2;have s3:=cells_at hh5 (Below.refl _ _) 3;have s4:=cells_at hh5 (Below.refl _ _) 4;have s5:=HC.out w5 HB5.out 0;simp only [ndA,List.getElem?_toArray,List.getElem?_cons_zero,List.getElem?_cons_succ] at s0 s1 s2 s3 s4 s5;clear r0 r1 r2 r3 r4 hh5
              cases hr:(ns.take k).all (nodeB ne rightB rightX) with
              | false=>
               cases ho:(ns.take k).all (fun n=>onceS (namesD n.all)) with
               | false=>
                have HRE:=Hd HO5.out;have HBE:=Hd HB5.out
                go_wp2_with fail
                go_roundw
                case rel=>
                 refine⟨k+1,by omega,by go_num,?_,?_,?_,HM2.out,HBE.out,by omega⟩
                 · rw [HNM.out,List.map_append];exact HRE.out
                 · rw [HAL.out,hr];rfl
                 · rw [HON.out,ho];rfl
                case measure=>simp [intOf];omega
               | true=>
                have HRE:=Hd HO5.out;have HBE:=Hd HB5.out
                go_wp2_with fail
                have HXA6:=Hd (HXA.out _ HBE.out);refine HXA6.out.mono ?_;rintro e w7 ⟨A9,c9,rfl,hr7,hb7⟩;have HBE:=Hd (HBE.out.trans (hb7.mono HBE.out.size));have HRE:=Hd (own_belowX HRE.out hb7);have hzz7:=hb7.size;have HN7:=Hd (refNamesD A9 x.all.length c9 x.all _ hr7 (by omega));clear hr7 hb7 s0 s1 s2 s3 s4 s5
                go_wp2_with fail
                refine HN7.out.mono ?_;rintro e w8 ⟨A10,c10,rfl,hr8,hb8⟩;have HBE:=Hd (HBE.out.trans (hb8.mono HBE.out.size));have HRE:=Hd (own_belowX HRE.out hb8);have hzz8:=hb8.size;have HN8:=Hd (refOnce A10 x.all.length c10 (namesD x.all) _ hr8 (by omega));clear hr8 hb8
                go_wp2_with fail
                refine HN8.out.mono ?_;rintro e w9 ⟨rfl,md,rfl⟩;have hzz9:w8.heap.size≤(w8.drewN md).heap.size:=Nat.le_refl _;have HBE:=Hd (HBE.out.trans ((drewN_below (m:=md)).mono HBE.out.size));have HRE:=Hd (own_belowX HRE.out (drewN_below (m:=md)))
                go_wp2_with fail
                go_roundw
                case rel=>
                 refine⟨k+1,by omega,by go_num,?_,?_,?_,HM2.out,HBE.out,by omega⟩
                 · rw [HNM.out,List.map_append];exact HRE.out
                 · rw [HAL.out,hr];rfl
                 · rw [HON.out,ho];rfl
                case measure=>simp [intOf];omega
              | true=>
               cases ho:(ns.take k).all (fun n=>onceS (namesD n.all)) with
               | false=>
                have HXN5:=Hd (HXN.out w5 HB5.out)
                go_wp2_with fail
                refine HXN5.out.mono ?_;rintro e w6 ⟨rfl,hb6⟩;have HBE:=Hd (HB5.out.trans (hb6.mono HB5.out.size));have HRE:=Hd (own_belowX HO5.out hb6);have hzz6:=hb6.size;have t0:=cells_at HH5.out hb6 0;have t1:=cells_at HH5.out hb6 1;have t2:=cells_at HH5.out hb6 2;have t3:=cells_at HH5.out hb6 3;have t4:=cells_at HH5.out hb6 4;simp only [ndA,List.getElem?_toArray,List.getElem?_cons_zero,List.getElem?_cons_succ] at t0 t1 t2 t3 t4;clear hb6 s0 s1 s2 s3 s4 s5
                go_wp2_with fail
                go_roundw
                case rel=>
                 refine⟨k+1,by omega,by go_num,?_,?_,?_,HM2.out,HBE.out,by omega⟩
                 · rw [HNM.out,List.map_append];exact HRE.out
                 · rw [HAL.out,hr];rfl
                 · rw [HON.out,ho];rfl
                case measure=>simp [intOf];omega
               | true=>
                have HXN5:=Hd (HXN.out w5 HB5.out)
                go_wp2_with fail
                refine HXN5.out.mono ?_;rintro e w6 ⟨rfl,hb6⟩;have HBE:=Hd (HB5.out.trans (hb6.mono HB5.out.size));have HRE:=Hd (own_belowX HO5.out hb6);have hzz6:=hb6.size;have t0:=cells_at HH5.out hb6 0;have t1:=cells_at HH5.out hb6 1;have t2:=cells_at HH5.out hb6 2;have t3:=cells_at HH5.out hb6 3;have t4:=cells_at HH5.out hb6 4;simp only [ndA,List.getElem?_toArray,List.getElem?_cons_zero,List.getElem?_cons_succ] at t0 t1 t2 t3 t4;clear hb6 s0 s1 s2 s3 s4 s5
                go_wp2_with fail
                have HXA6:=Hd (HXA.out _ HBE.out);refine HXA6.out.mono ?_;rintro e w7 ⟨A9,c9,rfl,hr7,hb7⟩;have HBE:=Hd (HBE.out.trans (hb7.mono HBE.out.size));have HRE:=Hd (own_belowX HRE.out hb7);have hzz7:=hb7.size;have HN7:=Hd (refNamesD A9 x.all.length c9 x.all _ hr7 (by omega));clear hr7 hb7 t0 t1 t2 t3 t4
                go_wp2_with fail
                refine HN7.out.mono ?_;rintro e w8 ⟨A10,c10,rfl,hr8,hb8⟩;have HBE:=Hd (HBE.out.trans (hb8.mono HBE.out.size));have HRE:=Hd (own_belowX HRE.out hb8);have hzz8:=hb8.size;have HN8:=Hd (refOnce A10 x.all.length c10 (namesD x.all) _ hr8 (by omega));clear hr8 hb8
                go_wp2_with fail
                refine HN8.out.mono ?_;rintro e w9 ⟨rfl,md,rfl⟩;have hzz9:w8.heap.size≤(w8.drewN md).heap.size:=Nat.le_refl _;have HBE:=Hd (HBE.out.trans ((drewN_below (m:=md)).mono HBE.out.size));have HRE:=Hd (own_belowX HRE.out (drewN_below (m:=md)))
                go_wp2_with fail
                go_roundw
                case rel=>
                 refine⟨k+1,by omega,by go_num,?_,?_,?_,HM2.out,HBE.out,by omega⟩
                 · rw [HNM.out,List.map_append];exact HRE.out
                 · rw [HAL.out,hr];rfl
                 · rw [HON.out,ho];rfl
                case measure=>simp [intOf];omega
        · obtain rfl:k=n:=by omega
          have hta:∀ f:Nd→Bool,(ns.take k).all f=ns.all f:=fun f=>by rw [List.take_of_length_le (by rw [HNL.out];exact Nat.le_refl _)]
          have HAN:=Hd (any_no (l:=ns) (f:=manyN) fun j hj=>HMN.out j (by rw [← HNL.out];exact hj));rw [HAN.out,if_neg (by simp)] at HE;have hrw:=HROW.out;rw [List.take_of_length_le (by rw [List.length_map,HNL.out];exact Nat.le_refl _)] at hrw;obtain⟨A9,c9,rfl,hR9,_⟩:=RdT.of_own hrw (by omega);have HO9:=Hd (refOnce A9 k c9 (ns.map Nd.nm) wr hR9 (by omega));have HBE:=Hd (HB1.out.trans (HNX.out.mono (by omega)));rw [hta,hta];clear hta hrw hR9 hnx
          cases hr:ns.all (nodeB ne rightB rightX) with
          | false=>
           rw [hr] at HE
           go_wp2_with fail
           go_ret
           exact⟨ret_int (by rw [HE.out];rfl),HBE.out⟩
          | true=>
           rw [hr,if_pos rfl] at HE
           cases ho:ns.all (fun n=>onceS (namesD n.all)) with
           | false=>
            rw [ho] at HE
            go_wp2_with fail
            go_ret
            exact⟨ret_int (by rw [HE.out];rfl),HBE.out⟩
           | true=>
            rw [ho,Bool.true_and] at HE
            cases hx:onceS (ns.map Nd.nm) with
            | false=>
             rw [hx] at HE HO9
             go_wp2_with fail
             refine HO9.out.mono ?_;rintro e w9 ⟨rfl,md,rfl⟩;have HBE:=Hd (HBE.out.trans ((drewN_below (m:=md)).mono HBE.out.size))
             go_wp2_with fail
             go_ret
             exact⟨ret_int (by rw [HE.out];rfl),HBE.out⟩
            | true=>
             rw [hx,if_pos rfl] at HE;rw [hx] at HO9
             go_wp2_with fail
             refine HO9.out.mono ?_;rintro e w9 ⟨rfl,md,rfl⟩;have HBE:=Hd (HBE.out.trans ((drewN_below (m:=md)).mono HBE.out.size))
             go_wp2_with fail
             go_ret
             exact⟨ret_int HE.out.symm,HBE.out⟩
 · rw [if_neg he0] at HE;have de:(en==0)=false:=by rw [beq_eq_false_iff_ne];exact he0
   go_wp2_with fail
   go_ret
   exact⟨ret_int HE.out.symm,HB2.out⟩
end
section
def armR(es:List En) (s:ByteArray):Option (Int × Int × Int):=
 if(s.toList==[116,114,117,101])=true then some (2,0,1)
 else if(s.toList==[102,97,108,115,101])=true then some (2,0,0)
 else(findE es s).map fun p=>(3,(p.1:Int),(p.2.1:Int))
def ndAt(p:Pg) (i:Nat):Nd:=p.ns[i]?.getD default
end
section
structure Cd where
 nm:ByteArray
 v:Int
instance :Inhabited Cd:=⟨⟨⟨#[]⟩,0⟩⟩
def eqC(a b:Cd):Bool:=(a.nm.toList==b.nm.toList) && (a.v==b.v)
theorem bytes_eq{a b:ByteArray}(h:(a.toList==b.toList)=true):a=b:=by
 rw [Lib.toList_data,Lib.toList_data,beq_iff_eq] at h;obtain⟨a⟩:=a;obtain⟨b⟩:=b;exact congrArg ByteArray.mk (Array.toList_inj.1 h)
theorem eqC_eq{a b:Cd}:eqC a b=true↔a=b:=by
 constructor
 · intro h;simp only [eqC,Bool.and_eq_true] at h;obtain⟨a1,a2⟩:=a;obtain⟨b1,b2⟩:=b;have h1:=bytes_eq h.1;have h2:=beq_iff_eq.1 h.2;simp only at h1 h2;rw [h1,h2]
 · rintro rfl
   simp [eqC]
abbrev sameC (a b:List Cd):Bool:=sameL eqC a b
theorem sameC_eq:∀ {a b:List Cd},sameC a b=true↔a=b
 | [],[]=>by simp [sameC,sameL]
 | [],b::m=>by simp [sameC,sameL]
 | a::l,[]=>by simp [sameC,sameL]
 | a::l,b::m=>by
  have ih:=sameC_eq (a:=l) (b:=m);simp only [sameC] at ih;simp only [sameC,sameL,Bool.and_eq_true,eqC_eq,ih,List.cons.injEq]
theorem sameC_refl(a:List Cd):sameC a a=true:=sameC_eq.2 rfl
theorem sameC_no{a b:List Cd}(h:a≠b):sameC a b=false:=by
 cases hc:sameC a b with
 | false=>rfl
 | true=>exact absurd (sameC_eq.1 hc) h
def condR(es:List En) (d:Dc):Option Cd:=(armR es d.ct).map fun r=>⟨d.on,r.2.2⟩
def condsR(es:List En):List Dc→Option (List Cd)
 | []=>some []
 | d::l=>match condR es d with
  | none=>none
  | some c=>(condsR es l).map (c::·)
def rowC(es:List En) (n:Nd) (s:ByteArray):Option (List Cd):=(clockO n s).bind (condsR es)
def hasC(es:List En) (n:Nd) (s:ByteArray) (on:List Cd):Bool:=match rowC es n s with
 | none=>false
 | some r=>sameC r on
theorem hasC_eq{es:List En}{n:Nd}{s:ByteArray}{on:List Cd}:hasC es n s on=true↔rowC es n s=some on:=by
 unfold hasC
 cases rowC es n s with
 | none=>simp
 | some r=>simp only [Option.some.injEq];exact sameC_eq
theorem condsR_len{es:List En}:∀ {l:List Dc}{cs:List Cd},condsR es l=some cs→cs.length=l.length
 | [],cs,h=>by injection h with h;subst h;rfl
 | d::l,cs,h=>by
  simp only [condsR] at h
  cases hc:condR es d with
  | none=>rw [hc] at h;cases h
  | some c=>
   rw [hc] at h;obtain⟨t,h1,rfl⟩:=Option.map_eq_some_iff.1 h
   simp [condsR_len h1]
theorem condsR_app{es:List En}:∀ {a b:List Dc}{ca:List Cd},condsR es a=some ca→condsR es (a++b)=(condsR es b).map (ca++·)
 | [],b,ca,h=>by injection h with h;subst h;simp
 | d::a,b,ca,h=>by
  simp only [condsR] at h
  cases hc:condR es d with
  | none=>rw [hc] at h;cases h
  | some c=>
   rw [hc] at h;obtain⟨t,h1,rfl⟩:=Option.map_eq_some_iff.1 h;simp only [List.cons_append,condsR,hc,condsR_app h1,Option.map_map];rfl
theorem condsR_take{es:List En}{l:List Dc}{cs:List Cd}{k:Nat}{c:Cd}(hk:k<l.length) (h:condsR es (l.take k)=some cs) (hc:condR es (l[k]?.getD default)=some c):condsR es (l.take (k+1))=some (cs++[c]):=by
 rw [List.getElem?_eq_getElem hk,Option.getD_some] at hc;rw [List.take_succ_eq_append_getElem hk,condsR_app h]
 simp [condsR,hc]
theorem condsR_mem{es:List En}:∀ {l:List Dc}{d:Dc},d∈l→condR es d=none→condsR es l=none
 | a::l,d,hd,h=>by
  simp only [condsR]
  cases hc:condR es a with
  | none=>rfl
  | some c=>
   rcases List.mem_cons.1 hd with rfl | hd
   · rw [h] at hc;cases hc
   · simp only [condsR_mem hd h,Option.map_none]
theorem condsR_no{es:List En}{l:List Dc}{k:Nat}(hk:k<l.length) (hc:condR es (l[k]?.getD default)=none):condsR es l=none:=by
 rw [List.getElem?_eq_getElem hk,Option.getD_some] at hc;exact condsR_mem (List.getElem_mem hk) hc
theorem clockR_len{n:Nd}:∀ (k:Nat) (s:ByteArray) (acc l:List Dc),clockR n k s acc=some l→l.length≤acc.length+k
 | 0,s,acc,l,h=>by cases h
 | k+1,s,acc,l,h=>by
  rw [clockR] at h
  cases hd:declO n s with
  | none=>rw [hd] at h;cases h
  | some d=>
   rw [hd] at h;simp only at h
   split at h
   · injection h with h;subst h;omega
   · have:=clockR_len k _ _ _ h;rw [List.length_cons] at this;omega
theorem clock_len{n:Nd}{s:ByteArray}{l:List Dc}(h:clockO n s=some l):l.length≤1000:=by
 have:=clockR_len 13 s [] l h
 simp at this
 omega
abbrev Ft:=List Cd→Bool
def fitAt(fs:List Ft) (i:Nat):Ft:=fs[i]?.getD fun _=>false
def whenC(es:List En) (n:Nd) (x:Ex) (fs:List Ft) (on:List Cd):Bool:=match rowC es n x.s with
 | none=>false
 | some row=>match armR es (x.arms[0]?.getD ByteArray.empty) with
  | none=>false
  | some r=>decide (x.arms.length=1) && decide (x.subs.length=1) && (sameC on (row++[⟨x.s,r.2.2⟩]) && fitAt fs 0 row)
def armC(es:List En) (x:Ex) (fs:List Ft) (on:List Cd) (k:Nat):Bool:=match armR es (x.arms[k]?.getD ByteArray.empty) with
 | none=>false
 | some r=>fitAt fs k (on++[⟨x.s,r.2.2⟩])
def mergeC(es:List En) (n:Nd) (x:Ex) (fs:List Ft) (on:List Cd):Bool:=
 hasC es n x.s on && decide (x.arms.length=x.subs.length) && (List.range x.subs.length).all (armC es x fs on)
def fitK(es:List En) (n:Nd) (x:Ex) (fs:List Ft) (on:List Cd):Bool:=
 if(x.k==1 || x.k==2 || x.k==4)=true then true
 else if(x.k==3)=true then hasC es n x.s on
 else if(x.k==8)=true then decide (x.subs.length=2) && fitAt fs 1 on
 else if(x.k==11)=true then whenC es n x fs on
 else if(x.k==12)=true then mergeC es n x fs on
 else if(x.k==17)=true then false
 else(List.range x.subs.length).all fun k=>fitAt fs k on
mutual
def fitX(es:List En) (n:Nd):Ex→Ft
 | .mk k m s op arms subs=>fitK es n (.mk k m s op arms subs) (fitL es n subs)
def fitL(es:List En) (n:Nd):List Ex→List Ft
 | []=>[]
 | x::l=>fitX es n x::fitL es n l
end
theorem fitL_eq(es:List En) (n:Nd):∀ l,fitL es n l=l.map (fitX es n)
 | []=>by simp only [fitL,List.map_nil]
 | x::l=>by simp only [fitL,List.map_cons,fitL_eq es n l]
theorem fitX_eq(es:List En) (n:Nd) (x:Ex):fitX es n x=fitK es n x (x.subs.map (fitX es n)):=by
 cases x
 simp only [fitX,fitL_eq,Ex.subs]
theorem fitAt_eq{es:List En}{n:Nd}{x:Ex}{i:Nat}(h:i<x.subs.length):fitAt (x.subs.map (fitX es n)) i=fitX es n (subX x i):=by
 unfold fitAt subX;rw [List.getElem?_map,List.getElem?_eq_getElem h];rfl
def rowOf(p:Pg) (i:Int) (s:ByteArray):Option (List Cd):=if i<0∨(p.ns.length:Int)≤i then none else rowC p.es (ndAt p i.toNat) s
theorem rangeC_all{n:Nat}{f:Nat→Bool}:(List.range n).all f=true↔∀ i,i<n→f i=true:=by simp [List.all_eq_true]
theorem rangeC_no{n k:Nat}{f:Nat→Bool}(hk:k<n) (h:f k=false):(List.range n).all f=false:=by
 cases hc:(List.range n).all f with
 | false=>rfl
 | true=>rw [rangeC_all.1 hc k hk] at h;cases h
end
section
open Go.RowKit Go.Sort
def f3A(a b c:Int):Array Value:=#[.int .i64 a,.int .i64 b,.int .i64 c]
def F3(T:TypeId) (W:World) (g:Nat) (a b c:Int):Prop:=W.heap[g]?=some (Obj.cells (f3A a b c) T)
section
variable {T:TypeId}{W W':World}{g:Nat}{a b c:Int}
theorem F3.lt(h:F3 T W g a b c):g<W.heap.size:=(Array.getElem?_eq_some_iff.1 h).1
theorem F3.below(h:F3 T W g a b c) (hb:Below W.heap.size W W'):F3 T W' g a b c:=(hb.block g h.lt).trans h
theorem F3.set(h:F3 T W g a b c) (x y z:Int):F3 T (W.setRow g (f3A x y z)) g x y z:=setRow_heap _ _ _ _ _ _ h
theorem F3.cell(h:F3 T W g a b c) (j:Nat):W.cell? ⟨g,j,none⟩=(f3A a b c)[j]?:=by
 have:=cell_setRow_same W g j _ (f3A a b c) _ _ h;rwa [setRow_self W g _ _ _ h] at this
theorem F3.new(T:TypeId) (W:World) (a b c:Int):F3 T (W.alloc (.cells (f3A a b c) T)) W.heap.size a b c:=heap_alloc_new _ _
end
theorem ty3_info:(Try.prog.info? 56).map (·.size)=some 3:=by kernel_rfl
theorem results_cell_two{fn:Func}{p u v:Tmp}{ty:TypeId}(h:fn.results=#[.cell p ty,.tmp u,.tmp v]) (tmps:Array Value) (P:Program) (w:World):
 (results fn tmps).run P w =
  ((asAddr (tmps.getD p undef)).run P w).andThen fun a w₁=>((loadVar ty a).run P w₁).andThen fun x w₂=>.ok (.tuple #[x,tmps.getD u undef,tmps.getD v undef]) w₂:=by
 simp only [results,h]
 simp [Sem.run_bind,Result.andThen]
theorem res_ty3{fn:Func}{p u v:Tmp}(h:fn.results=#[.cell p 56,.tmp u,.tmp v]) (tmps:Array Value) (w:World) (g:Nat) (a b c:Int)
 (hp:tmps.getD p undef=.pointer (some ⟨g,0,none⟩)) (hg:F3 56 w g a b c):(results fn tmps).run Try.prog w=.ok (.tuple #[.agg (f3A a b c),tmps.getD u undef,tmps.getD v undef]) w:=by
 rw [results_cell_two h,hp];have hl:=run_loadVar_row (P:=Try.prog) w g 56 56 _ _ _ hg Try.underlying56 rfl ty3_info
 simp [asAddr,Result.andThen,hl]
theorem f3_box{w w0:World}{T:TypeId}(h:w.alloc (.cells #[.int .i64 0,.int .i64 0,.int .i64 0] T)=w0):Below w.heap.size w w0∧F3 T w0 w.heap.size 0 0 0∧w0.heap.size=w.heap.size+1:=by
 subst h;exact⟨(Below.refl _ _).alloc (Nat.le_refl _) _,heap_alloc_new _ _,by simp⟩
def armW(o:Option (Int × Int × Int)):Value:=.tuple #[.agg (f3A ((o.map (·.1)).getD 0) ((o.map (·.2.1)).getD 0) 0),.int .i64 ((o.map (·.2.2)).getD 0),.bool o.isSome]
theorem below_set3{w w1:World}{v:Array Value}(h:Below w.heap.size w w1):Below w.heap.size w (w1.setRow w.heap.size v):=below_setRow h (Nat.le_refl _) _
end
section
open Go.RowKit Go.Sort Go.BigFrame
theorem scArm(A:Option Addr) (n c:Nat) (es:List En) (s:ByteArray) (w:World) (hE:RdE w A n es):
 Calls Try.prog 58 #[.slice A n c,.string s] w fun e w'=>e=.returned (armW (armR es s))∧Below w.heap.size w w':=by
 have HC:=Hd fun w1 (hb:Below w.heap.size w w1)=>tyCtor A n c es s w1 (hE.below hb);have HA:=Hd (show armR es s=if(s.toList==[116,114,117,101])=true then some (2,0,1) else if(s.toList==[102,97,108,115,101])=true then some (2,0,0) else(findE es s).map fun p=>(3,(p.1:Int),(p.2.1:Int)) from rfl);generalize armR es s=ar at *;clear hE
 cases h1:(s.toList==[116,114,117,101]) with
 | true=>
  have HE:=Hd (show ar=some (2,0,1) by rw [HA.out,if_pos h1]);rw [HE.out]
  go_enter Try.func58,Try.ntmps58
  go_upto_region 1 with(fail)
  generalize hw0:w.alloc _=w0;obtain⟨hb0,hR,hg0⟩:=f3_box hw0;have HB0:=Hd hb0;have HR:=Hd hR;clear hb0 hR hw0
  go_wp2_with (refine wpList_store_row rfl _ _ _ rfl (w.heap.size) _ rfl rfl _ _ HR.out ty3_info rfl (by simp [Value.oneCell']) ?_)
  exact bodyPost_ret (res_ty3 (p:=4) (u:=5) (v:=6) rfl _ _ w.heap.size 2 0 0 rfl (HR.out.set 2 0 0)) rfl ⟨rfl,below_set3 HB0.out⟩
 | false=>
  cases h2:(s.toList==[102,97,108,115,101]) with
  | true=>
   have HE:=Hd (show ar=some (2,0,0) by rw [HA.out,if_neg (by rw [h1];simp),if_pos h2]);rw [HE.out]
   go_enter Try.func58,Try.ntmps58
   go_upto_region 1 with(fail)
   generalize hw0:w.alloc _=w0;obtain⟨hb0,hR,hg0⟩:=f3_box hw0;have HB0:=Hd hb0;have HR:=Hd hR;clear hb0 hR hw0
   go_wp2_with (refine wpList_store_row rfl _ _ _ rfl (w.heap.size) _ rfl rfl _ _ HR.out ty3_info rfl (by simp [Value.oneCell']) ?_)
   exact bodyPost_ret (res_ty3 (p:=4) (u:=5) (v:=6) rfl _ _ w.heap.size 2 0 0 rfl (HR.out.set 2 0 0)) rfl ⟨rfl,below_set3 HB0.out⟩
  | false=>
   have HE:=Hd (show ar=(findE es s).map fun p=>(3,(p.1:Int),(p.2.1:Int)) by rw [HA.out,if_neg (by rw [h1];simp),if_neg (by rw [h2];simp)]);unfold ctorV at HC;rw [HE.out];clear HA HE
   cases hf:findE es s with
   | none=>
    rw [hf] at HC;simp only [Option.map_none,Option.getD_none,Option.isSome_none] at HC
    go_enter Try.func58,Try.ntmps58
    go_upto_region 1 with(fail)
    generalize hw0:w.alloc _=w0;obtain⟨hb0,hR,hg0⟩:=f3_box hw0;have HB0:=Hd hb0;have HR:=Hd hR;clear hb0 hR hw0
    go_wp2_with fail
    refine(HC.out _ HB0.out).mono ?_;rintro e w1 ⟨rfl,hb1⟩;have HR1:=Hd (HR.out.below hb1);have HB1:=Hd (HB0.out.trans (hb1.mono HB0.out.size));clear hb1
    go_wp2_with (refine wpList_store_row rfl _ _ _ rfl (w.heap.size) _ rfl rfl _ _ HR1.out ty3_info rfl (by simp [Value.oneCell']) ?_)
    exact bodyPost_ret (res_ty3 (p:=4) (u:=5) (v:=6) rfl _ _ w.heap.size 0 0 0 rfl (HR1.out.set 0 0 0)) rfl ⟨rfl,below_set3 HB1.out⟩
   | some q=>
    rw [hf] at HC;simp only [Option.map_some,Option.getD_some,Option.isSome_some] at HC;rw [show(some q).map (fun p:Pl=>((3:Int),(p.1:Int),(p.2.1:Int)))=some (3,(q.1:Int),(q.2.1:Int)) from rfl];generalize q.1=qa at *;generalize q.2.1=qb at *
    go_enter Try.func58,Try.ntmps58
    go_upto_region 1 with(fail)
    generalize hw0:w.alloc _=w0;obtain⟨hb0,hR,hg0⟩:=f3_box hw0;have HB0:=Hd hb0;have HR:=Hd hR;clear hb0 hR hw0
    go_wp2_with fail
    refine(HC.out _ HB0.out).mono ?_;rintro e w1 ⟨rfl,hb1⟩;have HR1:=Hd (HR.out.below hb1);have HB1:=Hd (HB0.out.trans (hb1.mono HB0.out.size));clear hb1
    go_wp2_with (refine wpList_store_row rfl _ _ _ rfl (w.heap.size) _ rfl rfl _ _ HR1.out ty3_info rfl (by simp [Value.oneCell']) ?_)
    exact bodyPost_ret (res_ty3 (p:=4) (u:=5) (v:=6) rfl _ _ w.heap.size 3 qa 0 rfl (HR1.out.set 3 qa 0)) rfl ⟨rfl,below_set3 HB1.out⟩
end
end Go.Proofs.Ytkbpdoomhfkngaa
