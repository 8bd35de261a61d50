/- Parts of the proof: PgP, SlR, PhC, PiA, PiF. Conditions: each theorem's own. -/
import Derived.Shelf.Spec.SlicesGrow
import Derived.Ground.Names8Prog
import Derived.Test.YtpehkppcdlboeaaGreatZ15
namespace Go.Proofs.YtpehkppcdlboeaaGreat
set_option linter.unusedVariables false
set_option linter.unusedSimpArgs false
set_option maxRecDepth 100000
set_option maxHeartbeats 40000000
section
open Go.RowKit Go.Sort
theorem tiny_sizeX{x:Ex}(h:tinyX x=true):sizeX x≤1000000:=by
 simp only [tinyX,Bool.and_eq_true,decide_eq_true_eq] at h;omega
theorem tiny_shortX{x:Ex}(h:tinyX x=true):∀ p∈partsX x,ShortP p:=by
 simp only [tinyX,Bool.and_eq_true,List.all_eq_true] at h;exact fun p hp=>ShortP.of_few (h.2 p hp)
theorem TinyQ.ok{q:Qn}(h:TinyQ q):OkQ q:=by
 refine⟨fun s hs=>?_,tiny_sizeX h.2.1,tiny_shortX h.2.1⟩;obtain⟨j,hj,rfl⟩:=List.getElem_of_mem hs;have:=h.2.2 j hj;rw [List.getElem?_eq_getElem hj,Option.getD_some] at this;unfold maxLen;omega
theorem fewD_ok{l:List Dc}(h:fewD l=true):(∀ d∈l,OkD d)∧l.length≤20:=by
 simp only [fewD,Bool.and_eq_true,List.all_eq_true,decide_eq_true_eq] at h;refine⟨fun d hd=>?_,h.2⟩;have h1:=h.1 d hd;simp only [dcFew,Bool.and_eq_true,Bool.not_eq_true',decide_eq_false_iff_not] at h1;unfold OkD maxLen;omega
theorem TinyN.len{n:Nd}(h:TinyN n):n.all.length≤60:=by
 have h1:=(fewD_ok h.1).2;have h2:=(fewD_ok h.2.1).2;have h3:=(fewD_ok h.2.2.1).2;rw [all_len];omega
theorem TinyN.ok{n:Nd}(h:TinyN n):OkN n:=by
 refine⟨by have:=h.2.2.2.2.1;unfold maxLen;omega,fun d hd=>?_,fun q hq=>?_⟩
 · simp only [Nd.all,List.mem_append] at hd;rcases hd with(hd | hd) | hd
   · exact(fewD_ok h.1).1 d hd
   · exact(fewD_ok h.2.1).1 d hd
   · exact(fewD_ok h.2.2.1).1 d hd
 · obtain⟨j,hj,rfl⟩:=List.getElem_of_mem hq;have:=h.2.2.2.2.2 j hj;rw [List.getElem?_eq_getElem hj,Option.getD_some] at this;exact this.ok
def rightN(es:Nat) (l:List Nd):Bool:=l.all (nodeB es rightB rightX)
def onceN(l:List Nd):Bool:=l.all fun n=>onceS (namesD n.all)
def checkN(p:Pg):Int:=
 if enumsN p.es=0 then(if p.ns.length=0 then 5 else if 6<p.ns.length then 4 else if p.ns.any manyN then 4 else if rightN p.es.length p.ns then(if onceN p.ns && onceS (p.ns.map Nd.nm) then 0 else 6) else 1) else enumsN p.es
theorem nms_succ{l:List Nd}{k:Nat}(hk:k<l.length):(l.map Nd.nm).take (k+1)=(l.map Nd.nm).take k++[(l[k]?.getD default).nm]:=by
 rw [List.take_add_one,List.getElem?_map,List.getElem?_eq_getElem hk]
 simp
theorem all_take_and{α:Type} [Inhabited α] {f:α→Bool}{l:List α}{k:Nat}(hk:k<l.length):(l.take (k+1)).all f=((l.take k).all f && f (l[k]?.getD default)):=by
 rw [List.take_add_one,List.getElem?_eq_getElem hk,List.all_append]
 simp
theorem any_at_yes{α:Type} [Inhabited α] {f:α→Bool}{l:List α}{k:Nat}(hk:k<l.length) (hf:f (l[k]?.getD default)=true):l.any f=true:=by
 rw [List.getElem?_eq_getElem hk] at hf;exact List.any_eq_true.2 ⟨_,List.getElem_mem hk,hf⟩
theorem any_no{α:Type} [Inhabited α] {f:α→Bool}{l:List α}(h:∀ j,j<l.length→f (l[j]?.getD default)=false):l.any f=false:=by
 rw [List.any_eq_false];intro a ha;obtain⟨j,hj,rfl⟩:=List.getElem_of_mem ha;have:=h j hj;rw [List.getElem?_eq_getElem hj] at this
 simpa using this
theorem drewN_below{w:World}{m:Nat}:Below w.heap.size w (w.drewN m):=below_drewN (Below.refl _ _) m
theorem cells_grown{w w':World}{g:Nat}{cs:Array Value}{T:TypeId}{v:Value}(h:w.heap[g]?=some (.cells cs T)) (hgr:w.grownBy w' v.ownBlock) (hne:v.ownBlock≠some g):w'.heap[g]?=some (.cells cs T):=
 (hgr.block g (Array.getElem?_eq_some_iff.1 h).1 (fun e=>hne e.symm)).trans h
theorem cells_at{w w':World}{g:Nat}{cs:Array Value}{T:TypeId}(h:w.heap[g]?=some (.cells cs T)) (hb:Below w.heap.size w w') (j:Nat):w'.cell? ⟨g,j,none⟩=cs[j]?:=by
 have hlt:g<w.heap.size:=(Array.getElem?_eq_some_iff.1 h).1;rw [hb.cell (p:=⟨g,j,none⟩) hlt];unfold World.cell?;rw [show w.heap[(⟨g,j,none⟩:Addr).block]?=_ from h];rfl
theorem refCheck(p:Pg) (E:Option Addr) (ec:Nat) (N:Option Addr) (nc:Nat) (w:World) (h:rdP w p E N) (ht:TinyP p):
 Calls Tryz.prog 16 #[.agg (pgA p E ec N nc)] w fun e w'=>e=.returned (.int .i64 (checkN p))∧Below w.heap.size w w':=by
 have HF:=Hd fun w1 hw=>pg_facts w p E ec N nc w1 hw h;have HEC:=Hd fun w1 a=>refEnums E p.es.length ec p.es w1 a ht.1.ok ht.1.few;have HND:=Hd fun x A1 c1 A2 c2 A3 c3 A4 c4 w1 a b c=>refNode E p.es.length ec x A1 c1 A2 c2 A3 c3 A4 c4 w1 (by have:=ht.1.1;omega) a b c;have hmx:=RdS.max h.2;have HE:=Hd (show checkN p=if enumsN p.es=0 then(if p.ns.length=0 then 5 else if 6<p.ns.length then 4 else if p.ns.any manyN then 4 else if rightN p.es.length p.ns then(if onceN p.ns && onceS (p.ns.map Nd.nm) then 0 else 6) else 1) else enumsN p.es from rfl);have HTN:=Hd ht.2.2;obtain⟨i0,hi,ji0,ji1,ji2⟩:=info_parts infoString;unfold pgA;unfold rightN onceN at HE;generalize checkN p=out at *
 go_enter Tryz.func16,Tryz.ntmps16
 go_upto_region 1 with(fail)
 generalize hw1:w.alloc _=w1;obtain⟨hb1,hg,hR1,hcell⟩:=HF.out w1 hw1;have HB1:=Hd hb1;have HC:=Hd hcell;have HE1:=Hd (HEC.out w1 hR1.1);have HNS:=Hd (show RdS 5 NdAt w1 N p.ns.length p.ns from hR1.2);simp only [pgA] at HC;have q0:=HC.out w1 (Below.refl _ _) 0;simp only [Ya,Yb,Yc] at q0;clear hw1 hcell hb1 HF h hR1 HEC ht;generalize hns:p.ns=ns at *;generalize hnl:ns.length=n at *;have HNL:=Hd hnl;generalize p.es.length=ne at *;generalize enumsN p.es=en at *;clear hnl hns
 go_wp2_with fail
 refine HE1.out.mono ?_;rintro e w2 ⟨rfl,hb2⟩;have HB2:=Hd (HB1.out.trans (hb2.mono (by omega)));have HW2:=Hd hb2;have q1:=HC.out w2 hb2 1;have q0:=HC.out w2 hb2 0;have hz2:=hb2.size;simp only [Ya,Yb,Yc] at q0 q1;clear hb2
 by_cases he0:en=0
 · subst he0;rw [if_pos rfl] at HE;rcases Nat.eq_zero_or_pos n with hn0 | hn0
   · subst hn0;rw [if_pos rfl] at HE
     go_wp2_with fail
     go_ret
     exact⟨ret_int HE.out.symm,HB2.out⟩
   · rw [if_neg (by omega)] at HE;have dn0:((n:Int)==0)=false:=by rw [beq_eq_false_iff_ne];omega
     by_cases hn6:6<n
     · rw [if_pos hn6] at HE
       go_wp2_with fail
       go_ret
       exact⟨ret_int HE.out.symm,HB2.out⟩
     · rw [if_neg hn6] at HE;have d6:decide ((6:Int)<(n:Int))=false:=decide_eq_false (by omega);have hr3:=Hd (World.ownsRow_lit (base:=w2.heap.size) (e:=9) (size:=1) w2 #[] 0 (Nat.le_refl _) (by decide) rfl);have HB0:=Hd (HW2.out.alloc HW2.out.size (.cells #[] 9))
       go_wp2_with fail
       go_loopw [4,5,6,7] (fun v r o i wr=>∃ k:Nat,k≤n∧i=.int .i64 k∧wr.ownsRow w2.heap.size 9 1 v k (((ns.map Nd.nm).take k).map Value.string)∧r=.bool ((ns.take k).all (nodeB ne rightB rightX))∧o=.bool ((ns.take k).all fun n=>onceS (namesD n.all))∧(∀ j,j<k→manyN (ns[j]?.getD default)=false)∧Below w1.heap.size w1 wr∧w2.heap.size≤wr.heap.size) (fun _ _ _ i _=>n-(intOf i).toNat)
       case atStart=>exact⟨0,Nat.zero_le _,rfl,hr3.out,rfl,rfl,fun j hj=>absurd hj (by omega),HB0.out,by simp⟩
       case round=>
        obtain⟨k,hk,rfl,hrow,rfl,rfl,hmn,hnx,hzr⟩:=hrel;have HROW:=Hd hrow;have HMN:=Hd hmn;have HNX:=Hd hnx;have hz:=hnx.size;have q0:=HC.out wr hnx 0;have q1:=HC.out wr hnx 1;simp only [Ya,Yb,Yc] at q0 q1;clear hmn hrow hr3 HB0
        by_cases hlt:k<n
        · obtain⟨b,off,rfl,hb,hc⟩:=RdS.at_ HNS.out (by omega);have hnd:=hc k hlt;clear hc;have hnm:=nms_succ (l:=ns) (k:=k) (by rw [HNL.out];exact hlt);have hal:=all_take_and (f:=nodeB ne rightB rightX) (l:=ns) (k:=k) (by rw [HNL.out];exact hlt);have hon:=all_take_and (f:=fun n=>onceS (namesD n.all)) (l:=ns) (k:=k) (by rw [HNL.out];exact hlt);have hty:=HTN.out k hlt;have HAY:=Hd fun hf=>any_at_yes (l:=ns) (f:=manyN) (k:=k) (by rw [HNL.out];exact hlt) hf;have HS:=Hd fun(hf:manyN (ns[k]?.getD default)=false)=>to_next (P:=fun j=>manyN (ns[j]?.getD default)=false) HMN.out hf;generalize ns[k]?.getD default=x at hnd hnm hal hon hty HAY HS;have HNM:=Hd hnm;have HAL:=Hd hal;have HON:=Hd hon;have HTY:=Hd hty;have hlen:=hty.len
          have HMB:=Hd (show manyN x=(decide ((6:Int)<(x.ins.length:Int)) || decide ((6:Int)<(x.outs.length:Int)) || decide ((12:Int)<(x.vars.length:Int)) || decide ((18:Int)<(x.eqs.length:Int))) by
           have hd:∀ a b:Nat,decide ((a:Int)<(b:Int))=decide (a<b):=fun a b=>by simp
           have h6:=hd 6;have h12:=hd 12;have h18:=hd 18;simp only [manyN] at *;rw [← h6,← h6,← h12,← h18];rfl)
          clear hnm hal hon hty;obtain⟨A1,c1,A2,c2,A3,c3,A4,c4,hrd,e0,e1,e2,e3,e4⟩:=hnd.five;have p10:=(hnx.cell (p:=⟨b,off+k*5,none⟩) hb).trans e0;have p11:=(hnx.cell (p:=⟨b,off+k*5+1,none⟩) hb).trans e1;have p12:=(hnx.cell (p:=⟨b,off+k*5+2,none⟩) hb).trans e2;have p13:=(hnx.cell (p:=⟨b,off+k*5+3,none⟩) hb).trans e3;have p14:=(hnx.cell (p:=⟨b,off+k*5+4,none⟩) hb).trans e4;have HRD:=Hd fun w' (hb:Below w1.heap.size w1 w')=>hrd.below hb;have HXN:=Hd fun w' hb=>HND.out x A1 c1 A2 c2 A3 c3 A4 c4 w' (HRD.out w' hb) HTY.out.ok (by have:=HTY.out.len;omega);have HXA:=Hd fun w' hb=>refAllD x A1 c1 A2 c2 A3 c3 A4 c4 w' (HRD.out w' hb) (by have:=HTY.out.len;omega);have HBX:=Hd fun zc w4 (hw:(wr.alloc (.cells zc 36)).setRow wr.heap.size (ndA x A1 c1 A2 c2 A3 c3 A4 c4)=w4)=>(show w4.heap[wr.heap.size]?=some (.cells (ndA x A1 c1 A2 c2 A3 c3 A4 c4) 36)∧Below wr.heap.size wr w4 from⟨by rw [← hw];exact setRow_heap _ _ _ _ _ _ (heap_alloc_new _ _),(box_store hw).1⟩);unfold ndA at HXN HXA;clear e0 e1 e2 e3 e4 hrd hnd hnx
          go_upto_region 13 with(refine wpList_store_row rfl _ _ _ rfl wr.heap.size _ rfl rfl _ _ (heap_alloc_new _ _) ndinfo rfl (by simp [Value.oneCell']) ?_)
          generalize hw4:World.setRow _ _ _=w4;obtain⟨hh4,hb4⟩:=HBX.out _ w4 hw4;have HH4:=Hd hh4;have HB4:=Hd (HNX.out.trans (hb4.mono hz));have HROW4:=Hd (own_belowX HROW.out hb4);have hz4:=hb4.size;have hg4:wr.heap.size<w4.heap.size:=(Array.getElem?_eq_some_iff.1 hh4).1;have r0:=cells_at hh4 (Below.refl _ _) 0;have r1:=cells_at hh4 (Below.refl _ _) 1;have r2:=cells_at hh4 (Below.refl _ _) 2;have r3:=cells_at hh4 (Below.refl _ _) 3;have r4:=cells_at hh4 (Below.refl _ _) 4;simp only [ndA,List.getElem?_toArray,List.getElem?_cons_zero,List.getElem?_cons_succ] at r0 r1 r2 r3 r4;have HNE:=Hd (show u4.ownBlock≠some wr.heap.size from fun e=>by have:=(HROW.out.lt _ e).2;omega);clear hw4 hh4 hb4 HBX p10 p11 p12 p13 p14 q0 q1;generalize wr.heap.size=gb at *
          cases m1:decide ((6:Int)<(x.ins.length:Int)) with
          | true=>
           rw [m1] at HMB
           go_wp2_with fail
           go_ret
           exact⟨ret_int (by rw [HE.out,HAY.out (by rw [HMB.out];rfl)];rfl),HB1.out.trans (HB4.out.mono (by omega))⟩
          | false=>
           rw [m1] at HMB
           cases m2:decide ((6:Int)<(x.outs.length:Int)) with
           | true=>
            rw [m2] at HMB
            go_wp2_with fail
            go_ret
            exact⟨ret_int (by rw [HE.out,HAY.out (by rw [HMB.out];rfl)];rfl),HB1.out.trans (HB4.out.mono (by omega))⟩
           | false=>
            rw [m2] at HMB
            cases m3:decide ((12:Int)<(x.vars.length:Int)) with
            | true=>
             rw [m3] at HMB
             go_wp2_with fail
             go_ret
             exact⟨ret_int (by rw [HE.out,HAY.out (by rw [HMB.out];rfl)];rfl),HB1.out.trans (HB4.out.mono (by omega))⟩
            | false=>
             rw [m3] at HMB
             cases m4:decide ((18:Int)<(x.eqs.length:Int)) with
             | true=>
              rw [m4] at HMB
              go_wp2_with fail
              go_ret
              exact⟨ret_int (by rw [HE.out,HAY.out (by rw [HMB.out];rfl)];rfl),HB1.out.trans (HB4.out.mono (by omega))⟩
             | false=>
              rw [m4] at HMB;have HM2:=Hd (HS.out (by rw [HMB.out];rfl))
              go_upto_region 16 with(at_builtin;refine wpList_append_own_at _ rfl _ _ 38 rfl w2.heap.size 9 i0 (.string ByteArray.empty) 1 16 Tryz.underlying38 hi ji0 ji1 ji2 rfl (by decide) _ _ _ rfl (HROW4.out.alloc _) ⟨w4.heap.size,0,none⟩ 1 1 [.string x.nm] rfl rfl (cell_one_new _ _ _) (string_cells [x.nm]) (by unfold maxLen;omega) (by omega) (by simp;omega) ?_;intro v' w5 hown' hgrow hnil hloc;have HO5:=Hd hown';have HG5:=Hd hgrow;clear hown' hgrow hnil hloc)
              have HB5:=Hd ((HB4.out.alloc HB4.out.size (.cells #[.string x.nm] 9)).grown HG5.out (by have:=HB4.out.size;simp;omega) (fun j hj=>by have:=(HROW4.out.lt j hj).1;omega));have hh5:=cells_grown ((Below.heap_alloc w4 (.cells #[.string x.nm] 9) gb hg4).trans HH4.out) HG5.out HNE.out;have HH5:=Hd hh5;have hz5:=HB5.out.size;have hz45:=HG5.out.size
              simp at hz45
              have s0:=cells_at hh5 (Below.refl _ _) 0;have s1:=cells_at hh5 (Below.refl _ _) 1;have s2:=cells_at hh5 (Below.refl _ _) 2;have s3:=cells_at hh5 (Below.refl _ _) 3;have s4:=cells_at hh5 (Below.refl _ _) 4;have s5:=HC.out w5 HB5.out 0;simp only [ndA,List.getElem?_toArray,List.getElem?_cons_zero,List.getElem?_cons_succ] at s0 s1 s2 s3 s4 s5;clear r0 r1 r2 r3 r4 hh5
              cases hr:(ns.take k).all (nodeB ne rightB rightX) with
              | false=>
               cases ho:(ns.take k).all (fun n=>onceS (namesD n.all)) with
               | false=>
                have HRE:=Hd HO5.out;have HBE:=Hd HB5.out
                go_wp2_with fail
                go_roundw
                case rel=>
                 refine⟨k+1,by omega,by go_num,?_,?_,?_,HM2.out,HBE.out,by omega⟩
                 · rw [HNM.out,List.map_append];exact HRE.out
                 · rw [HAL.out,hr];rfl
                 · rw [HON.out,ho];rfl
                case measure=>simp [intOf];omega
               | true=>
                have HRE:=Hd HO5.out;have HBE:=Hd HB5.out
                go_wp2_with fail
                have HXA6:=Hd (HXA.out _ HBE.out);refine HXA6.out.mono ?_;rintro e w7 ⟨A9,c9,rfl,hr7,hb7⟩;have HBE:=Hd (HBE.out.trans (hb7.mono HBE.out.size));have HRE:=Hd (own_belowX HRE.out hb7);have hzz7:=hb7.size;have HN7:=Hd (refNamesD A9 x.all.length c9 x.all _ hr7 (by omega));clear hr7 hb7 s0 s1 s2 s3 s4 s5
                go_wp2_with fail
                refine HN7.out.mono ?_;rintro e w8 ⟨A10,c10,rfl,hr8,hb8⟩;have HBE:=Hd (HBE.out.trans (hb8.mono HBE.out.size));have HRE:=Hd (own_belowX HRE.out hb8);have hzz8:=hb8.size;have HN8:=Hd (refOnce A10 x.all.length c10 (namesD x.all) _ hr8 (by omega));clear hr8 hb8
                go_wp2_with fail
                refine HN8.out.mono ?_;rintro e w9 ⟨rfl,md,rfl⟩;have hzz9:w8.heap.size≤(w8.drewN md).heap.size:=Nat.le_refl _;have HBE:=Hd (HBE.out.trans ((drewN_below (m:=md)).mono HBE.out.size));have HRE:=Hd (own_belowX HRE.out (drewN_below (m:=md)))
                go_wp2_with fail
                go_roundw
                case rel=>
                 refine⟨k+1,by omega,by go_num,?_,?_,?_,HM2.out,HBE.out,by omega⟩
                 · rw [HNM.out,List.map_append];exact HRE.out
                 · rw [HAL.out,hr];rfl
                 · rw [HON.out,ho];rfl
                case measure=>simp [intOf];omega
              | true=>
               cases ho:(ns.take k).all (fun n=>onceS (namesD n.all)) with
               | false=>
                have HXN5:=Hd (HXN.out w5 HB5.out)
                go_wp2_with fail
                refine HXN5.out.mono ?_;rintro e w6 ⟨rfl,hb6⟩;have HBE:=Hd (HB5.out.trans (hb6.mono HB5.out.size));have HRE:=Hd (own_belowX HO5.out hb6);have hzz6:=hb6.size;have t0:=cells_at HH5.out hb6 0;have t1:=cells_at HH5.out hb6 1;have t2:=cells_at HH5.out hb6 2;have t3:=cells_at HH5.out hb6 3;have t4:=cells_at HH5.out hb6 4;simp only [ndA,List.getElem?_toArray,List.getElem?_cons_zero,List.getElem?_cons_succ] at t0 t1 t2 t3 t4;clear hb6 s0 s1 s2 s3 s4 s5
                go_wp2_with fail
                go_roundw
                case rel=>
                 refine⟨k+1,by omega,by go_num,?_,?_,?_,HM2.out,HBE.out,by omega⟩
                 · rw [HNM.out,List.map_append];exact HRE.out
                 · rw [HAL.out,hr];rfl
                 · rw [HON.out,ho];rfl
                case measure=>simp [intOf];omega
               | true=>
                have HXN5:=Hd (HXN.out w5 HB5.out)
                go_wp2_with fail
                refine HXN5.out.mono ?_;rintro e w6 ⟨rfl,hb6⟩;have HBE:=Hd (HB5.out.trans (hb6.mono HB5.out.size));have HRE:=Hd (own_belowX HO5.out hb6);have hzz6:=hb6.size;have t0:=cells_at HH5.out hb6 0;have t1:=cells_at HH5.out hb6 1;have t2:=cells_at HH5.out hb6 2;have t3:=cells_at HH5.out hb6 3;have t4:=cells_at HH5.out hb6 4;simp only [ndA,List.getElem?_toArray,List.getElem?_cons_zero,List.getElem?_cons_succ] at t0 t1 t2 t3 t4;clear hb6 s0 s1 s2 s3 s4 s5
                go_wp2_with fail
                have HXA6:=Hd (HXA.out _ HBE.out);refine HXA6.out.mono ?_;rintro e w7 ⟨A9,c9,rfl,hr7,hb7⟩;have HBE:=Hd (HBE.out.trans (hb7.mono HBE.out.size));have HRE:=Hd (own_belowX HRE.out hb7);have hzz7:=hb7.size;have HN7:=Hd (refNamesD A9 x.all.length c9 x.all _ hr7 (by omega));clear hr7 hb7 t0 t1 t2 t3 t4
                go_wp2_with fail
                refine HN7.out.mono ?_;rintro e w8 ⟨A10,c10,rfl,hr8,hb8⟩;have HBE:=Hd (HBE.out.trans (hb8.mono HBE.out.size));have HRE:=Hd (own_belowX HRE.out hb8);have hzz8:=hb8.size;have HN8:=Hd (refOnce A10 x.all.length c10 (namesD x.all) _ hr8 (by omega));clear hr8 hb8
                go_wp2_with fail
                refine HN8.out.mono ?_;rintro e w9 ⟨rfl,md,rfl⟩;have hzz9:w8.heap.size≤(w8.drewN md).heap.size:=Nat.le_refl _;have HBE:=Hd (HBE.out.trans ((drewN_below (m:=md)).mono HBE.out.size));have HRE:=Hd (own_belowX HRE.out (drewN_below (m:=md)))
                go_wp2_with fail
                go_roundw
                case rel=>
                 refine⟨k+1,by omega,by go_num,?_,?_,?_,HM2.out,HBE.out,by omega⟩
                 · rw [HNM.out,List.map_append];exact HRE.out
                 · rw [HAL.out,hr];rfl
                 · rw [HON.out,ho];rfl
                case measure=>simp [intOf];omega
        · obtain rfl:k=n:=by omega
          have hta:∀ f:Nd→Bool,(ns.take k).all f=ns.all f:=fun f=>by rw [List.take_of_length_le (by rw [HNL.out];exact Nat.le_refl _)]
          have HAN:=Hd (any_no (l:=ns) (f:=manyN) fun j hj=>HMN.out j (by rw [← HNL.out];exact hj));rw [HAN.out,if_neg (by simp)] at HE;have hrw:=HROW.out;rw [List.take_of_length_le (by rw [List.length_map,HNL.out];exact Nat.le_refl _)] at hrw;obtain⟨A9,c9,rfl,hR9,_⟩:=RdT.of_own hrw (by omega);have HO9:=Hd (refOnce A9 k c9 (ns.map Nd.nm) wr hR9 (by omega));have HBE:=Hd (HB1.out.trans (HNX.out.mono (by omega)));rw [hta,hta];clear hta hrw hR9 hnx
          cases hr:ns.all (nodeB ne rightB rightX) with
          | false=>
           rw [hr] at HE
           go_wp2_with fail
           go_ret
           exact⟨ret_int (by rw [HE.out];rfl),HBE.out⟩
          | true=>
           rw [hr,if_pos rfl] at HE
           cases ho:ns.all (fun n=>onceS (namesD n.all)) with
           | false=>
            rw [ho] at HE
            go_wp2_with fail
            go_ret
            exact⟨ret_int (by rw [HE.out];rfl),HBE.out⟩
           | true=>
            rw [ho,Bool.true_and] at HE
            cases hx:onceS (ns.map Nd.nm) with
            | false=>
             rw [hx] at HE HO9
             go_wp2_with fail
             refine HO9.out.mono ?_;rintro e w9 ⟨rfl,md,rfl⟩;have HBE:=Hd (HBE.out.trans ((drewN_below (m:=md)).mono HBE.out.size))
             go_wp2_with fail
             go_ret
             exact⟨ret_int (by rw [HE.out];rfl),HBE.out⟩
            | true=>
             rw [hx,if_pos rfl] at HE;rw [hx] at HO9
             go_wp2_with fail
             refine HO9.out.mono ?_;rintro e w9 ⟨rfl,md,rfl⟩;have HBE:=Hd (HBE.out.trans ((drewN_below (m:=md)).mono HBE.out.size))
             go_wp2_with fail
             go_ret
             exact⟨ret_int HE.out.symm,HBE.out⟩
 · rw [if_neg he0] at HE;have de:(en==0)=false:=by rw [beq_eq_false_iff_ne];exact he0
   go_wp2_with fail
   go_ret
   exact⟨ret_int HE.out.symm,HB2.out⟩
end
section
open Go.Shelf Go.RowKit Go.Lib Go.Sort
def growD_ren:Go.Shelf.Ren:=⟨fun | 4=>58 | n=>n,fun | 22=>33 | 25=>48 | 3=>3 | 4=>4 | 9=>9 | 20=>20 | 0=>0 | n=>n,fun | n=>n⟩
theorem growD:Go.Proofs.Lays8.n4 Tryz.prog growD_ren:={
 mixed:=by kernel_rfl
 f4:=⟨Tryz.f58.name,by decide,Tryz.func58.trans (congrArg some (by kernel_rfl))⟩
 t0:=Tryz.underlying0
 a0:=Tryz.isAgg0
 z0:=Tryz.sizeOf0
 v0:=Tryz.zeroValue0
 t3:=Tryz.underlying3
 a3:=Tryz.isAgg3
 z3:=Tryz.sizeOf3
 v3:=Tryz.zeroValue3
 t4:=Tryz.underlying4
 a4:=Tryz.isAgg4
 z4:=Tryz.sizeOf4
 v4:=Tryz.zeroValue4
 t9:=Tryz.underlying9
 a9:=Tryz.isAgg9
 z9:=Tryz.sizeOf9
 v9:=Tryz.zeroValue9
 t20:=Tryz.underlying20
 a20:=Tryz.isAgg20
 z20:=Tryz.sizeOf20
 v20:=Tryz.zeroValue20
 t22:=Tryz.underlying33
 a22:=Tryz.isAgg33
 z22:=Tryz.sizeOf33
 v22:=Tryz.zeroValue33 }
theorem slGrowD(n:Nat) (w:World) (hn:n≤1000000):
 Calls Tryz.prog 58 #[.slice none 0 0,.int .i64 n] w fun e w'=>∃ v,e=.returned v∧w'.ownsRow w.heap.size 48 6 v 0 (flD [])∧Below w.heap.size w w':=by
 obtain⟨i0,z0,hi,hz1,hz0,hz2,hz3⟩:=info_three infoDecl;rcases Nat.eq_zero_or_pos n with rfl | hp
 · refine(Any8.slices_Grow_room growD none 0 0 0 w (Nat.le_refl _) (by omega) (by omega) (by omega)).mono ?_;rintro e w' ⟨rfl,rfl⟩;exact⟨_,rfl,⟨rfl,.inl ⟨rfl,rfl⟩⟩,Below.refl _ _⟩
 · refine(Any8.slices_Grow_grow growD i0 z0 hi hz1 (by omega) none 0 0 n [] w (Nat.le_refl _) (by omega) (by rw [hz2];omega) (by omega) (by simp) (fun _=>rfl) (fun a h=>by cases h)).mono ?_;rintro e w' ⟨rfl,rfl⟩;refine⟨_,rfl,⟨rfl,.inr ⟨w.heap.size,_,_,rfl,Nat.le_refl _,heap_alloc_new _ _,Nat.zero_le _,?_,?_,?_⟩⟩,?_⟩
   · exact grownCap_le_maxLen _ _ _ _ (by unfold maxLen;omega)
   · have:=grownCap_ge w (0+n) 0 48
     show(_:Array Value).size=grownCap w (0+n) 0 48*6
     simp only [Array.size_append,size_zeroCells,hz3,List.size_toArray,List.length_nil];rw [show growD_ren.t 25=48 from rfl];omega
   · rfl
   · exact(Below.refl _ _).drew.alloc (Nat.le_refl _) _
end
section
open Go.RowKit Go.Sort
theorem own_below{w w':World}{base:Nat}{e:TypeId}{size n:Nat}{v:Value}{xs:List Value}(h:w.ownsRow base e size v n xs) (hb:Below w.heap.size w w'):w'.ownsRow base e size v n xs:=by
 refine⟨h.1,?_⟩;rcases h.2 with h2 | ⟨g,cap,cur,hv,hg,hh,hr⟩
 · exact .inl h2
 · exact .inr ⟨g,cap,cur,hv,hg,(hb.block g (Array.getElem?_eq_some_iff.1 hh).1).trans hh,hr⟩
end
section
open Go.RowKit Go.Sort
theorem findI_any{α:Type}(f:α→Bool):∀ (l:List α),decide ((0:Int)≤findI f l 0)=l.any f:=by
 have key:∀ (l:List α) (i:Nat),decide ((0:Int)≤findI f l i)=l.any f:=by
  intro l
  induction l with
  | nil=>intro i;simp [findI]
  | cons a l ih=>
   intro i;rw [findI]
   cases ha:f a with
   | true=>simp [ha]
   | false=>simp only [List.any_cons,ha,Bool.false_or];rw [if_neg (by simp)];exact ih (i+1)
 exact fun l=>key l 0
theorem findI_hitS{f:ByteArray→Bool}:∀ {l:List ByteArray}{k i:Nat},k<l.length→(∀ j,j<k→f (l[j]?.getD ByteArray.empty)=false)→f (l[k]?.getD ByteArray.empty)=true→findI f l i=((i+k:Nat):Int)
 | [],k,i,h,_,_=>by simp at h
 | a::l,0,i,_,_,h=>by
  have h:f a=true:=by simpa using h
  simp [findI,h]
 | a::l,k+1,i,hk,hn,h=>by
  have h0:f a=false:=by simpa using hn 0 (by omega)
  rw [findI,h0,if_neg (by simp),findI_hitS (k:=k) (by simpa using hk) (fun j hj=>by simpa using hn (j+1) (by omega)) (by simpa using h)]
  congr 1
  omega
theorem findI_noneS{f:ByteArray→Bool}:∀ {l:List ByteArray}{i:Nat},(∀ j,j<l.length→f (l[j]?.getD ByteArray.empty)=false)→findI f l i=-1
 | [],i,_=>rfl
 | a::l,i,hn=>by
  have h0:f a=false:=by simpa using hn 0 (by simp)
  rw [findI,h0,if_neg (by simp)];exact findI_noneS fun j hj=>by simpa using hn (j+1) (by simpa using hj)
theorem nd_at{w:World}{A:Option Addr}{n i:Nat}{l:List Nd}(h:RdNs w A n l) (hi:i<n):
 ∃ b off A1 c1 A2 c2 A3 c3 A4 c4,A=some ⟨b,off,none⟩∧b<w.heap.size∧rdN w (l[i]?.getD default) A1 A2 A3 A4 ∧
 w.cell? ⟨b,off+i*5,none⟩=some (.string (l[i]?.getD default).nm)∧w.cell? ⟨b,off+i*5+1,none⟩=some (.slice A1 (l[i]?.getD default).ins.length c1)∧w.cell? ⟨b,off+i*5+2,none⟩=some (.slice A2 (l[i]?.getD default).outs.length c2)∧w.cell? ⟨b,off+i*5+3,none⟩=some (.slice A3 (l[i]?.getD default).vars.length c3)∧w.cell? ⟨b,off+i*5+4,none⟩=some (.slice A4 (l[i]?.getD default).eqs.length c4):=by
 obtain⟨b,off,e,hb,hc⟩:=RdS.at_ h (by omega);obtain⟨A1,c1,A2,c2,A3,c3,A4,c4,h1,h2⟩:=hc i hi;obtain⟨d0,d1,d2,d3,d4⟩:=ndL_five h1;exact⟨b,off,A1,c1,A2,c2,A3,c3,A4,c4,e,hb,h2,d0,d1,d2,d3,d4⟩
theorem qn_at{w:World}{A:Option Addr}{n i:Nat}{l:List Qn}(h:RdQ w A n l) (hi:i<n):
 ∃ b off,∃ B c A' ca B' cb,A=some ⟨b,off,none⟩∧b<w.heap.size∧(RdT w B (l[i]?.getD default).ns.length (l[i]?.getD default).ns∧rdX w (l[i]?.getD default).x A' B') ∧
  w.cell? ⟨b,off+i*7,none⟩=some (.slice B (l[i]?.getD default).ns.length c)∧w.cell? ⟨b,off+i*7+1,none⟩=some (.int .i64 (l[i]?.getD default).x.k)∧w.cell? ⟨b,off+i*7+2,none⟩=some (.int .i64 (l[i]?.getD default).x.n) ∧
  w.cell? ⟨b,off+i*7+3,none⟩=some (.string (l[i]?.getD default).x.s)∧w.cell? ⟨b,off+i*7+4,none⟩=some (.int .i64 (l[i]?.getD default).x.op)∧w.cell? ⟨b,off+i*7+5,none⟩=some (.slice A' (l[i]?.getD default).x.arms.length ca)∧w.cell? ⟨b,off+i*7+6,none⟩=some (.slice B' (l[i]?.getD default).x.subs.length cb):=by
 obtain⟨b,off,e,hb,hc⟩:=RdS.at_ h (by omega);obtain⟨B,c,A',ca,B',cb,h0,h1,h2,h3⟩:=hc i hi;obtain⟨c0,c1,c2,c3,c4,c5⟩:=rangeAt_six h2;exact⟨b,off,B,c,A',ca,B',cb,e,hb,⟨h1,h3⟩,h0,c0,c1,c2,c3,c4,c5⟩
theorem dc_at{w:World}{A:Option Addr}{n i:Nat}{l:List Dc}(h:RdD w A n l) (hi:i<n):
 ∃ b off,A=some ⟨b,off,none⟩∧b<w.heap.size∧w.cell? ⟨b,off+i*6,none⟩=some (.string (l[i]?.getD default).nm)∧w.cell? ⟨b,off+i*6+1,none⟩=some (.int .i64 (l[i]?.getD default).k)∧w.cell? ⟨b,off+i*6+2,none⟩=some (.int .i64 (l[i]?.getD default).e) ∧
  w.cell? ⟨b,off+i*6+3,none⟩=some (.int .i64 (l[i]?.getD default).l)∧w.cell? ⟨b,off+i*6+4,none⟩=some (.string (l[i]?.getD default).on)∧w.cell? ⟨b,off+i*6+5,none⟩=some (.string (l[i]?.getD default).ct):=by
 obtain⟨b,off,e,hb,hc⟩:=RdS.at_ h (by omega);exact⟨b,off,e,hb,(hc i hi).six⟩
def PredNd(g:Nat) (lb:Array Value) (f:Nd→Bool) (l:List Nd) (w:World):Prop:=
 ∀ x,x∈l→∀ (A1:Option Addr) (c1:Nat) (A2:Option Addr) (c2:Nat) (A3:Option Addr) (c3:Nat) (A4:Option Addr) (c4:Nat) (W:World),Below w.heap.size w W→rdN W x A1 A2 A3 A4 →
  Calls Tryz.prog g (#[.agg (ndA x A1 c1 A2 c2 A3 c3 A4 c4)]++lb) W fun e w'=>e=.returned (.bool (f x))∧Below W.heap.size W w'
theorem slIndexNd(g:Nat) (lb:Array Value) (eg:∀ args w,(callFunc g args).run Tryz.prog w=.ok (.enter g args) w) (f:Nd→Bool) (A:Option Addr) (n c:Nat) (l:List Nd) (w:World) (h:RdNs w A n l) (hf:PredNd g lb f l w):
 Calls Tryz.prog 43 #[.slice A n c,.func (.func g) #[] lb] w fun e w'=>e=.returned (.int .i64 (findI f l 0))∧Below w.heap.size w w':=by
 have HR:=Hd h;have HP:=Hd hf;have hln:=RdS.len h;have hmx:=RdS.max h;have HHIT:=Hd (fun(k:Nat) hk hn hy=>show findI f l 0=(k:Int) by have:=findI_hit (l:=l) (f:=f) (k:=k) (i:=0) hk hn hy;rwa [Nat.zero_add] at this);have HNO:=Hd (fun hn=>show findI f l 0=-1 from findI_none (l:=l) (f:=f) (i:=0) hn);generalize findI f l 0=out at *;have HLN:=Hd hln;clear h hf hln;unfold PredNd at HP
 go_enter Tryz.func43,Tryz.ntmps43
 go_wp2_with fail
 go_loopw [5,8] (fun _ i wr=>∃ k:Nat,k≤n∧i=.int .i64 k∧(∀ j,j<k→f (l[j]?.getD default)=false)∧Below w.heap.size w wr) (fun _ i _=>n-(intOf i).toNat)
 case atStart=>exact⟨0,Nat.zero_le _,rfl,fun j hj=>absurd hj (by omega),Below.refl _ _⟩
 case round=>
  obtain⟨k,hk,rfl,hto,hnx⟩:=hrel;have HT:=Hd hto;have HNX:=Hd hnx;clear hto
  by_cases hlt:k<n
  · obtain⟨b,off,A1,c1,A2,c2,A3,c3,A4,c4,rfl,hb,hrd,d0,d1,d2,d3,d4⟩:=nd_at (HR.out.below hnx) hlt;have HCL:=Hd (HP.out _ (getD_memA (by rw [HLN.out];exact hlt)) A1 c1 A2 c2 A3 c3 A4 c4 wr hnx hrd);have HH:=Hd (HHIT.out k (by rw [HLN.out];exact hlt) HT.out);have HS:=Hd fun(hf:f (l[k]?.getD default)=false)=>to_next (P:=fun j=>f (l[j]?.getD default)=false) HT.out hf;clear hnx  hrd;unfold ndA at HCL;generalize l[k]?.getD default=x at d0 d1 d2 d3 d4 HCL HH HS
    cases hq:f x with
    | true=>
     have HO:=Hd (HH.out hq);rw [hq] at HCL
     go_wp2_with (go_at_fn g;refine HCL.out.mono ?_;rintro e w3 ⟨rfl,hb3⟩)
     go_ret
     exact⟨ret_int HO.out.symm,HNX.out.trans (hb3.mono HNX.out.size)⟩
    | false=>
     have HO:=Hd (HS.out hq);rw [hq] at HCL
     go_wp2_with (go_at_fn g;refine HCL.out.mono ?_;rintro e w3 ⟨rfl,hb3⟩;have HB3:=Hd (HNX.out.trans (hb3.mono HNX.out.size));clear hb3)
     go_roundw
     case rel=>exact⟨k+1,by omega,by go_num,HO.out,HB3.out⟩
     case measure=>simp [intOf];omega
  · have hkn:k=n:=by omega
    have HN:=Hd (HNO.out fun j hj=>HT.out j (by rw [HLN.out] at hj;omega))
    go_wp2_with fail
    go_ret
    exact⟨ret_int HN.out.symm,HNX.out⟩
theorem slHasNd(g:Nat) (lb:Array Value) (eg:∀ args w,(callFunc g args).run Tryz.prog w=.ok (.enter g args) w) (f:Nd→Bool) (A:Option Addr) (n c:Nat) (l:List Nd) (w:World) (h:RdNs w A n l) (hf:PredNd g lb f l w):
 Calls Tryz.prog 21 #[.slice A n c,.func (.func g) #[] lb] w fun e w'=>e=.returned (.bool (l.any f))∧Below w.heap.size w w':=by
 have HI:=Hd (slIndexNd g lb eg f A n c l w h hf);have HA:=Hd (findI_any f l);clear h hf
 go_enter Tryz.func21,Tryz.ntmps21
 go_wp2_with fail
 refine HI.out.mono ?_;rintro e w2 ⟨rfl,hb2⟩;have HB2:=Hd hb2;clear hb2
 cases ha:l.any f with
 | true=>
  rw [ha] at HA;have d0:decide ((0:Int)≤findI f l 0)=true:=HA.out
  go_wp2_with fail
  go_ret
  exact⟨ret_bool ha.symm,HB2.out⟩
 | false=>
  rw [ha] at HA;have d0:decide ((0:Int)≤findI f l 0)=false:=HA.out
  go_wp2_with fail
  go_ret
  exact⟨ret_bool ha.symm,HB2.out⟩
def PredDc(g:Nat) (lb:Array Value) (f:Dc→Bool) (l:List Dc) (w:World):Prop:=
 ∀ x,x∈l→∀ (W:World),Below w.heap.size w W →
  Calls Tryz.prog g (#[.agg (dcA x)]++lb) W fun e w'=>e=.returned (.bool (f x))∧Below W.heap.size W w'
theorem slIndexDc(g:Nat) (lb:Array Value) (eg:∀ args w,(callFunc g args).run Tryz.prog w=.ok (.enter g args) w) (f:Dc→Bool) (A:Option Addr) (n c:Nat) (l:List Dc) (w:World) (h:RdD w A n l) (hf:PredDc g lb f l w):
 Calls Tryz.prog 59 #[.slice A n c,.func (.func g) #[] lb] w fun e w'=>e=.returned (.int .i64 (findI f l 0))∧Below w.heap.size w w':=by
 have HR:=Hd h;have HP:=Hd hf;have hln:=RdS.len h;have hmx:=RdS.max h;have HHIT:=Hd (fun(k:Nat) hk hn hy=>show findI f l 0=(k:Int) by have:=findI_hit (l:=l) (f:=f) (k:=k) (i:=0) hk hn hy;rwa [Nat.zero_add] at this);have HNO:=Hd (fun hn=>show findI f l 0=-1 from findI_none (l:=l) (f:=f) (i:=0) hn);generalize findI f l 0=out at *;have HLN:=Hd hln;clear h hf hln;unfold PredDc at HP
 go_enter Tryz.func59,Tryz.ntmps59
 go_wp2_with fail
 go_loopw [5,8] (fun _ i wr=>∃ k:Nat,k≤n∧i=.int .i64 k∧(∀ j,j<k→f (l[j]?.getD default)=false)∧Below w.heap.size w wr) (fun _ i _=>n-(intOf i).toNat)
 case atStart=>exact⟨0,Nat.zero_le _,rfl,fun j hj=>absurd hj (by omega),Below.refl _ _⟩
 case round=>
  obtain⟨k,hk,rfl,hto,hnx⟩:=hrel;have HT:=Hd hto;have HNX:=Hd hnx;clear hto
  by_cases hlt:k<n
  · obtain⟨b,off,rfl,hb,d0,d1,d2,d3,d4,d5⟩:=dc_at (HR.out.below hnx) hlt;have HCL:=Hd (HP.out _ (getD_memA (by rw [HLN.out];exact hlt))  wr hnx);have HH:=Hd (HHIT.out k (by rw [HLN.out];exact hlt) HT.out);have HS:=Hd fun(hf:f (l[k]?.getD default)=false)=>to_next (P:=fun j=>f (l[j]?.getD default)=false) HT.out hf;clear hnx;unfold dcA at HCL;generalize l[k]?.getD default=x at d0 d1 d2 d3 d4 d5 HCL HH HS
    cases hq:f x with
    | true=>
     have HO:=Hd (HH.out hq);rw [hq] at HCL
     go_wp2_with (go_at_fn g;refine HCL.out.mono ?_;rintro e w3 ⟨rfl,hb3⟩)
     go_ret
     exact⟨ret_int HO.out.symm,HNX.out.trans (hb3.mono HNX.out.size)⟩
    | false=>
     have HO:=Hd (HS.out hq);rw [hq] at HCL
     go_wp2_with (go_at_fn g;refine HCL.out.mono ?_;rintro e w3 ⟨rfl,hb3⟩;have HB3:=Hd (HNX.out.trans (hb3.mono HNX.out.size));clear hb3)
     go_roundw
     case rel=>exact⟨k+1,by omega,by go_num,HO.out,HB3.out⟩
     case measure=>simp [intOf];omega
  · have hkn:k=n:=by omega
    have HN:=Hd (HNO.out fun j hj=>HT.out j (by rw [HLN.out] at hj;omega))
    go_wp2_with fail
    go_ret
    exact⟨ret_int HN.out.symm,HNX.out⟩
theorem slHasDc(g:Nat) (lb:Array Value) (eg:∀ args w,(callFunc g args).run Tryz.prog w=.ok (.enter g args) w) (f:Dc→Bool) (A:Option Addr) (n c:Nat) (l:List Dc) (w:World) (h:RdD w A n l) (hf:PredDc g lb f l w):
 Calls Tryz.prog 29 #[.slice A n c,.func (.func g) #[] lb] w fun e w'=>e=.returned (.bool (l.any f))∧Below w.heap.size w w':=by
 have HI:=Hd (slIndexDc g lb eg f A n c l w h hf);have HA:=Hd (findI_any f l);clear h hf
 go_enter Tryz.func29,Tryz.ntmps29
 go_wp2_with fail
 refine HI.out.mono ?_;rintro e w2 ⟨rfl,hb2⟩;have HB2:=Hd hb2;clear hb2
 cases ha:l.any f with
 | true=>
  rw [ha] at HA;have d0:decide ((0:Int)≤findI f l 0)=true:=HA.out
  go_wp2_with fail
  go_ret
  exact⟨ret_bool ha.symm,HB2.out⟩
 | false=>
  rw [ha] at HA;have d0:decide ((0:Int)≤findI f l 0)=false:=HA.out
  go_wp2_with fail
  go_ret
  exact⟨ret_bool ha.symm,HB2.out⟩
def PredQn(g:Nat) (lb:Array Value) (f:Qn→Bool) (l:List Qn) (w:World):Prop:=
 ∀ x,x∈l→∀ (B:Option Addr) (c:Nat) (A:Option Addr) (ca:Nat) (D:Option Addr) (cb:Nat) (W:World),Below w.heap.size w W→RdT W B x.ns.length x.ns∧rdX W x.x A D →
  Calls Tryz.prog g (#[.agg (qnA x B c A ca D cb)]++lb) W fun e w'=>e=.returned (.bool (f x))∧Below W.heap.size W w'
theorem slIndexQn(g:Nat) (lb:Array Value) (eg:∀ args w,(callFunc g args).run Tryz.prog w=.ok (.enter g args) w) (f:Qn→Bool) (A:Option Addr) (n c:Nat) (l:List Qn) (w:World) (h:RdQ w A n l) (hf:PredQn g lb f l w):
 Calls Tryz.prog 79 #[.slice A n c,.func (.func g) #[] lb] w fun e w'=>e=.returned (.int .i64 (findI f l 0))∧Below w.heap.size w w':=by
 have HR:=Hd h;have HP:=Hd hf;have hln:=RdS.len h;have hmx:=RdS.max h;have HHIT:=Hd (fun(k:Nat) hk hn hy=>show findI f l 0=(k:Int) by have:=findI_hit (l:=l) (f:=f) (k:=k) (i:=0) hk hn hy;rwa [Nat.zero_add] at this);have HNO:=Hd (fun hn=>show findI f l 0=-1 from findI_none (l:=l) (f:=f) (i:=0) hn);generalize findI f l 0=out at *;have HLN:=Hd hln;clear h hf hln;unfold PredQn at HP
 go_enter Tryz.func79,Tryz.ntmps79
 go_wp2_with fail
 go_loopw [5,8] (fun _ i wr=>∃ k:Nat,k≤n∧i=.int .i64 k∧(∀ j,j<k→f (l[j]?.getD default)=false)∧Below w.heap.size w wr) (fun _ i _=>n-(intOf i).toNat)
 case atStart=>exact⟨0,Nat.zero_le _,rfl,fun j hj=>absurd hj (by omega),Below.refl _ _⟩
 case round=>
  obtain⟨k,hk,rfl,hto,hnx⟩:=hrel;have HT:=Hd hto;have HNX:=Hd hnx;clear hto
  by_cases hlt:k<n
  · obtain⟨b,off,B,cB,A1,ca,D,cb,rfl,hb,hrd,d0,d1,d2,d3,d4,d5,d6⟩:=qn_at (HR.out.below hnx) hlt;have HCL:=Hd (HP.out _ (getD_memA (by rw [HLN.out];exact hlt)) B cB A1 ca D cb wr hnx hrd);have HH:=Hd (HHIT.out k (by rw [HLN.out];exact hlt) HT.out);have HS:=Hd fun(hf:f (l[k]?.getD default)=false)=>to_next (P:=fun j=>f (l[j]?.getD default)=false) HT.out hf;clear hnx  hrd;unfold qnA at HCL;generalize l[k]?.getD default=x at d0 d1 d2 d3 d4 d5 d6 HCL HH HS
    cases hq:f x with
    | true=>
     have HO:=Hd (HH.out hq);rw [hq] at HCL
     go_wp2_with (go_at_fn g;refine HCL.out.mono ?_;rintro e w3 ⟨rfl,hb3⟩)
     go_ret
     exact⟨ret_int HO.out.symm,HNX.out.trans (hb3.mono HNX.out.size)⟩
    | false=>
     have HO:=Hd (HS.out hq);rw [hq] at HCL
     go_wp2_with (go_at_fn g;refine HCL.out.mono ?_;rintro e w3 ⟨rfl,hb3⟩;have HB3:=Hd (HNX.out.trans (hb3.mono HNX.out.size));clear hb3)
     go_roundw
     case rel=>exact⟨k+1,by omega,by go_num,HO.out,HB3.out⟩
     case measure=>simp [intOf];omega
  · have hkn:k=n:=by omega
    have HN:=Hd (HNO.out fun j hj=>HT.out j (by rw [HLN.out] at hj;omega))
    go_wp2_with fail
    go_ret
    exact⟨ret_int HN.out.symm,HNX.out⟩
theorem slHasQn(g:Nat) (lb:Array Value) (eg:∀ args w,(callFunc g args).run Tryz.prog w=.ok (.enter g args) w) (f:Qn→Bool) (A:Option Addr) (n c:Nat) (l:List Qn) (w:World) (h:RdQ w A n l) (hf:PredQn g lb f l w):
 Calls Tryz.prog 53 #[.slice A n c,.func (.func g) #[] lb] w fun e w'=>e=.returned (.bool (l.any f))∧Below w.heap.size w w':=by
 have HI:=Hd (slIndexQn g lb eg f A n c l w h hf);have HA:=Hd (findI_any f l);clear h hf
 go_enter Tryz.func53,Tryz.ntmps53
 go_wp2_with fail
 refine HI.out.mono ?_;rintro e w2 ⟨rfl,hb2⟩;have HB2:=Hd hb2;clear hb2
 cases ha:l.any f with
 | true=>
  rw [ha] at HA;have d0:decide ((0:Int)≤findI f l 0)=true:=HA.out
  go_wp2_with fail
  go_ret
  exact⟨ret_bool ha.symm,HB2.out⟩
 | false=>
  rw [ha] at HA;have d0:decide ((0:Int)≤findI f l 0)=false:=HA.out
  go_wp2_with fail
  go_ret
  exact⟨ret_bool ha.symm,HB2.out⟩
def PredT(g:Nat) (lb:Array Value) (f:ByteArray→Bool) (l:List ByteArray) (w:World):Prop:=
 ∀ x,x∈l→∀ (W:World),Below w.heap.size w W →
  Calls Tryz.prog g (#[.string x]++lb) W fun e w'=>e=.returned (.bool (f x))∧Below W.heap.size W w'
theorem slIndexT(g:Nat) (lb:Array Value) (eg:∀ args w,(callFunc g args).run Tryz.prog w=.ok (.enter g args) w) (f:ByteArray→Bool) (A:Option Addr) (n c:Nat) (l:List ByteArray) (w:World) (h:RdT w A n l) (hf:PredT g lb f l w):
 Calls Tryz.prog 96 #[.slice A n c,.func (.func g) #[] lb] w fun e w'=>e=.returned (.int .i64 (findI f l 0))∧Below w.heap.size w w':=by
 have HR:=Hd h;have HP:=Hd hf;have hln:=RdT.len h;have hmx:=RdT.max h;have HHIT:=Hd (fun(k:Nat) hk hn hy=>show findI f l 0=(k:Int) by have:=findI_hitS (l:=l) (f:=f) (k:=k) (i:=0) hk hn hy;rwa [Nat.zero_add] at this);have HNO:=Hd (fun hn=>show findI f l 0=-1 from findI_noneS (l:=l) (f:=f) (i:=0) hn);generalize findI f l 0=out at *;have HLN:=Hd hln;clear h hf hln;unfold PredT at HP
 go_enter Tryz.func96,Tryz.ntmps96
 go_wp2_with fail
 go_loopw [5,8] (fun _ i wr=>∃ k:Nat,k≤n∧i=.int .i64 k∧(∀ j,j<k→f (l[j]?.getD ByteArray.empty)=false)∧Below w.heap.size w wr) (fun _ i _=>n-(intOf i).toNat)
 case atStart=>exact⟨0,Nat.zero_le _,rfl,fun j hj=>absurd hj (by omega),Below.refl _ _⟩
 case round=>
  obtain⟨k,hk,rfl,hto,hnx⟩:=hrel;have HT:=Hd hto;have HNX:=Hd hnx;clear hto
  by_cases hlt:k<n
  · obtain⟨b,off,rfl,hb,hc⟩:=(HR.out.below hnx).at_ hlt;have d0:=hc k hlt;have HCL:=Hd (HP.out _ (getD_mem (by rw [HLN.out];exact hlt))  wr hnx);have HH:=Hd (HHIT.out k (by rw [HLN.out];exact hlt) HT.out);have HS:=Hd fun(hf:f (l[k]?.getD ByteArray.empty)=false)=>to_next (P:=fun j=>f (l[j]?.getD ByteArray.empty)=false) HT.out hf;clear hnx hc
    skip
    generalize l[k]?.getD ByteArray.empty=x at d0 HCL HH HS
    cases hq:f x with
    | true=>
     have HO:=Hd (HH.out hq);rw [hq] at HCL
     go_wp2_with (go_at_fn g;refine HCL.out.mono ?_;rintro e w3 ⟨rfl,hb3⟩)
     go_ret
     exact⟨ret_int HO.out.symm,HNX.out.trans (hb3.mono HNX.out.size)⟩
    | false=>
     have HO:=Hd (HS.out hq);rw [hq] at HCL
     go_wp2_with (go_at_fn g;refine HCL.out.mono ?_;rintro e w3 ⟨rfl,hb3⟩;have HB3:=Hd (HNX.out.trans (hb3.mono HNX.out.size));clear hb3)
     go_roundw
     case rel=>exact⟨k+1,by omega,by go_num,HO.out,HB3.out⟩
     case measure=>simp [intOf];omega
  · have hkn:k=n:=by omega
    have HN:=Hd (HNO.out fun j hj=>HT.out j (by rw [HLN.out] at hj;omega))
    go_wp2_with fail
    go_ret
    exact⟨ret_int HN.out.symm,HNX.out⟩
theorem slHasT(g:Nat) (lb:Array Value) (eg:∀ args w,(callFunc g args).run Tryz.prog w=.ok (.enter g args) w) (f:ByteArray→Bool) (A:Option Addr) (n c:Nat) (l:List ByteArray) (w:World) (h:RdT w A n l) (hf:PredT g lb f l w):
 Calls Tryz.prog 81 #[.slice A n c,.func (.func g) #[] lb] w fun e w'=>e=.returned (.bool (l.any f))∧Below w.heap.size w w':=by
 have HI:=Hd (slIndexT g lb eg f A n c l w h hf);have HA:=Hd (findI_any f l);clear h hf
 go_enter Tryz.func81,Tryz.ntmps81
 go_wp2_with fail
 refine HI.out.mono ?_;rintro e w2 ⟨rfl,hb2⟩;have HB2:=Hd hb2;clear hb2
 cases ha:l.any f with
 | true=>
  rw [ha] at HA;have d0:decide ((0:Int)≤findI f l 0)=true:=HA.out
  go_wp2_with fail
  go_ret
  exact⟨ret_bool ha.symm,HB2.out⟩
 | false=>
  rw [ha] at HA;have d0:decide ((0:Int)≤findI f l 0)=false:=HA.out
  go_wp2_with fail
  go_ret
  exact⟨ret_bool ha.symm,HB2.out⟩
end
section
open Go.RowKit Go.Sort
def catTo(x:Nd) (k:Nat):List Dc:=match k with | 0=>[] | 1=>x.ins | 2=>x.ins++x.outs | _=>x.all
theorem catTo_succ(x:Nd){k:Nat}(h:k<3):catTo x (k+1)=catTo x k++listK x k:=by
 match k,h with
 | 0,_=>rfl
 | 1,_=>rfl
 | 2,_=>rfl
theorem catTo_le(x:Nd){k:Nat}(h:k≤3):(catTo x k).length≤x.all.length:=by
 match k,h with
 | 0,_=>exact Nat.zero_le _
 | 1,_=>simp [catTo,Nd.all]
 | 2,_=>simp [catTo,Nd.all]
 | 3,_=>exact Nat.le_refl _
theorem slConcatD(x:Nd) (A1:Option Addr) (c1:Nat) (A2:Option Addr) (c2:Nat) (A3:Option Addr) (c3:Nat) (A4:Option Addr) (b:Nat) (w:World) (h:rdN w x A1 A2 A3 A4)
 (hc:∀ j,w.cell? ⟨b,j,none⟩=(lists3 x A1 c1 A2 c2 A3 c3)[j]?) (hb:b<w.heap.size) (hn:x.all.length≤1000):
 Calls Tryz.prog 28 #[.slice (some ⟨b,0,none⟩) 3 3] w (DeclsPost w x.all.length x.all):=by
 obtain⟨i0,z0,hi,hz1,hz0,hz2,hz3⟩:=info_three infoDecl;have HLS:=Hd fun(w:World) (h:rdN w x A1 A2 A3 A4) (k:Nat) hk=>lists_at (c1:=c1) (c2:=c2) (c3:=c3) h (k:=k) hk;have HC:=Hd hc;have HR:=Hd h;have HB:=Hd hb;have HSU:=Hd fun(k:Nat) hk=>catTo_succ x (k:=k) hk;have HLE:=Hd fun(k:Nat) hk=>(show(catTo x k).length≤1000 from Nat.le_trans (catTo_le x (k:=k) hk) hn);have HEND:=Hd (show catTo x 3=x.all from rfl);have HNIL:=Hd (show catTo x 0=[] from rfl);have HGR:=Hd fun w1=>slGrowD x.all.length w1 (by omega);have HLK:=Hd fun(k:Nat) hk=>(show(catTo x k).length+(listK x k).length≤1000 by rw [← List.length_append,← catTo_succ x hk];exact Nat.le_trans (catTo_le x (k:=k+1) (by omega)) hn);clear h hc hb hn;generalize catTo x=cat at *;generalize x.all=all at *
 go_enter Tryz.func28,Tryz.ntmps28
 go_wp2_with fail
 go_loopw [3,11] (fun s i wr=>∃ k:Nat,k≤3∧i=.int .i64 k∧s=.int .i64 (cat k).length∧wr=w) (fun _ i _=>3-(intOf i).toNat)
 case atStart=>exact⟨0,by omega,rfl,by rw [HNIL.out];rfl,rfl⟩
 case round=>
  obtain⟨k,hk,rfl,rfl,rfl⟩:=hrel
  by_cases hlt:k<3
  · obtain⟨A,c,hAk,-⟩:=HLS.out wr HR.out k hlt;have e0:=HC.out k;rw [hAk] at e0;have hlk:=HLK.out k hlt;have HS:=Hd (show(cat (k+1)).length=(cat k).length+(listK x k).length by rw [HSU.out k hlt,List.length_append]);clear hAk;generalize hn1:(cat k).length=n1 at *;generalize hm1:(listK x k).length=m1 at *;have d0:decide (((n1:Int)+(m1:Int))<0)=false:=decide_eq_false (by omega);clear hn1 hm1
    go_wp2_with fail
    go_roundw
    case rel=>exact⟨k+1,by omega,by go_num,by rw [HS.out];go_num,(by first | trivial | rfl)⟩
    case measure=>simp [intOf];omega
  · obtain rfl:k=3:=by omega
    rw [HEND.out]
    go_wp2_with fail
    refine(HGR.out wr).mono ?_;rintro e w2 ⟨v,rfl,hown,hb2⟩;have HOW:=Hd hown;have HB2:=Hd hb2;clear hown hb2
    go_wp2_with fail
    generalize wr=w at *
    go_loopw [6,27] (fun v i wr=>∃ k:Nat,k≤3∧i=.int .i64 k∧wr.ownsRow w.heap.size 48 6 v (cat k).length (flD (cat k))∧Below w.heap.size w wr) (fun _ i _=>3-(intOf i).toNat)
    case atStart=>exact⟨0,by omega,rfl,by rw [HNIL.out];exact HOW.out,HB2.out⟩
    case round=>
     obtain⟨k,hk,rfl,hown,hnx⟩:=hrel;have HO:=Hd hown;have HNX:=Hd hnx;clear hown
     by_cases hlt:k<3
     · obtain⟨A,c,hAk,hrd⟩:=HLS.out wr (HR.out.below hnx) k hlt;have e0:=(hnx.cell (p:=⟨b,k,none⟩) HB.out).trans (HC.out k);rw [hAk] at e0;have HRD:=Hd hrd;have hlk:=HLK.out k hlt;have HS:=Hd (HSU.out k hlt);clear hAk hrd hnx
       go_wp2_with (at_builtin;refine wpList_append_dc rfl _ _ 33 rfl w.heap.size 48 i0 z0 72 Tryz.underlying33 hi hz1 hz0 hz2 hz3 _ (cat k).length (cat k) rfl HO.out A (listK x k).length c (listK x k) rfl HRD.out (by unfold maxLen;omega) (by omega) HNX.out.size ?_;intro v' w5 hown' hgrow;have hB5:=HNX.out.grown hgrow HNX.out.size (fun j hj=>(HO.out.lt j hj).1);have HO5:=Hd hown';have HB5:=Hd hB5;clear hown' hgrow hB5)
       go_roundw
       case rel=>exact⟨k+1,by omega,by go_num,by rw [HS.out,List.length_append];exact HO5.out,HB5.out⟩
       case measure=>simp [intOf];omega
     · obtain rfl:k=3:=by omega
       rw [HEND.out] at HO;have hO:=HO.out;obtain⟨A,c,rfl,hrd⟩:=RdD.of_own hO (by have:=HLE.out 3 (by omega);rw [HEND.out] at this;omega);have HRD:=Hd hrd;clear hO hrd
       go_wp2_with fail
       go_ret
       exact⟨A,c,rfl,HRD.out,HNX.out⟩
end
end Go.Proofs.YtpehkppcdlboeaaGreat
