/- Parts of the proof: PgP, ScM, ScA, ScB, ScC. Conditions: each theorem's own. -/
import Derived.Test.YtegjgiofmpolnaaGreatO10
namespace Go.Proofs.YtegjgiofmpolnaaGreat
set_option linter.unusedVariables false
set_option linter.unusedSimpArgs false
set_option maxRecDepth 100000
set_option maxHeartbeats 40000000
section
open Go.RowKit Go.Sort
theorem tiny_sizeX{x:Ex}(h:tinyX x=true):sizeX x≤1000000:=by
 simp only [tinyX,Bool.and_eq_true,decide_eq_true_eq] at h;omega
theorem tiny_shortX{x:Ex}(h:tinyX x=true):∀ p∈partsX x,ShortP p:=by
 simp only [tinyX,Bool.and_eq_true,List.all_eq_true] at h;exact fun p hp=>ShortP.of_few (h.2 p hp)
theorem TinyQ.ok{q:Qn}(h:TinyQ q):OkQ q:=by
 refine⟨fun s hs=>?_,tiny_sizeX h.2.1,tiny_shortX h.2.1⟩;obtain⟨j,hj,rfl⟩:=List.getElem_of_mem hs;have:=h.2.2 j hj;rw [List.getElem?_eq_getElem hj,Option.getD_some] at this;unfold maxLen;omega
theorem fewD_ok{l:List Dc}(h:fewD l=true):(∀ d∈l,OkD d)∧l.length≤20:=by
 simp only [fewD,Bool.and_eq_true,List.all_eq_true,decide_eq_true_eq] at h;refine⟨fun d hd=>?_,h.2⟩;have h1:=h.1 d hd;simp only [dcFew,Bool.and_eq_true,Bool.not_eq_true',decide_eq_false_iff_not] at h1;unfold OkD maxLen;omega
theorem TinyN.len{n:Nd}(h:TinyN n):n.all.length≤60:=by
 have h1:=(fewD_ok h.1).2;have h2:=(fewD_ok h.2.1).2;have h3:=(fewD_ok h.2.2.1).2;rw [all_len];omega
theorem TinyN.ok{n:Nd}(h:TinyN n):OkN n:=by
 refine⟨by have:=h.2.2.2.2.1;unfold maxLen;omega,fun d hd=>?_,fun q hq=>?_⟩
 · simp only [Nd.all,List.mem_append] at hd;rcases hd with(hd | hd) | hd
   · exact(fewD_ok h.1).1 d hd
   · exact(fewD_ok h.2.1).1 d hd
   · exact(fewD_ok h.2.2.1).1 d hd
 · obtain⟨j,hj,rfl⟩:=List.getElem_of_mem hq;have:=h.2.2.2.2.2 j hj;rw [List.getElem?_eq_getElem hj,Option.getD_some] at this;exact this.ok
def rightN(es:Nat) (l:List Nd):Bool:=l.all (nodeB es rightB rightX)
def onceN(l:List Nd):Bool:=l.all fun n=>onceS (namesD n.all)
def checkN(p:Pg):Int:=
 if enumsN p.es=0 then(if p.ns.length=0 then 5 else if 6<p.ns.length then 4 else if p.ns.any manyN then 4 else if rightN p.es.length p.ns then(if onceN p.ns && onceS (p.ns.map Nd.nm) then 0 else 6) else 1) else enumsN p.es
theorem nms_succ{l:List Nd}{k:Nat}(hk:k<l.length):(l.map Nd.nm).take (k+1)=(l.map Nd.nm).take k++[(l[k]?.getD default).nm]:=by
 rw [List.take_add_one,List.getElem?_map,List.getElem?_eq_getElem hk]
 simp
theorem all_take_and{α:Type} [Inhabited α] {f:α→Bool}{l:List α}{k:Nat}(hk:k<l.length):(l.take (k+1)).all f=((l.take k).all f && f (l[k]?.getD default)):=by
 rw [List.take_add_one,List.getElem?_eq_getElem hk,List.all_append]
 simp
theorem any_at_yes{α:Type} [Inhabited α] {f:α→Bool}{l:List α}{k:Nat}(hk:k<l.length) (hf:f (l[k]?.getD default)=true):l.any f=true:=by
 rw [List.getElem?_eq_getElem hk] at hf;exact List.any_eq_true.2 ⟨_,List.getElem_mem hk,hf⟩
theorem any_no{α:Type} [Inhabited α] {f:α→Bool}{l:List α}(h:∀ j,j<l.length→f (l[j]?.getD default)=false):l.any f=false:=by
 rw [List.any_eq_false];intro a ha;obtain⟨j,hj,rfl⟩:=List.getElem_of_mem ha;have:=h j hj;rw [List.getElem?_eq_getElem hj] at this
 simpa using this
theorem drewN_below{w:World}{m:Nat}:Below w.heap.size w (w.drewN m):=below_drewN (Below.refl _ _) m
theorem cells_grown{w w':World}{g:Nat}{cs:Array Value}{T:TypeId}{v:Value}(h:w.heap[g]?=some (.cells cs T)) (hgr:w.grownBy w' v.ownBlock) (hne:v.ownBlock≠some g):w'.heap[g]?=some (.cells cs T):=
 (hgr.block g (Array.getElem?_eq_some_iff.1 h).1 (fun e=>hne e.symm)).trans h
theorem cells_at{w w':World}{g:Nat}{cs:Array Value}{T:TypeId}(h:w.heap[g]?=some (.cells cs T)) (hb:Below w.heap.size w w') (j:Nat):w'.cell? ⟨g,j,none⟩=cs[j]?:=by
 have hlt:g<w.heap.size:=(Array.getElem?_eq_some_iff.1 h).1;rw [hb.cell (p:=⟨g,j,none⟩) hlt];unfold World.cell?;rw [show w.heap[(⟨g,j,none⟩:Addr).block]?=_ from h];rfl
theorem refCheck(p:Pg) (E:Option Addr) (ec:Nat) (N:Option Addr) (nc:Nat) (w:World) (h:rdP w p E N) (ht:TinyP p):
 Calls Tryz.prog 38 #[.agg (pgA p E ec N nc)] w fun e w'=>e=.returned (.int .i64 (checkN p))∧Below w.heap.size w w':=by
 have HF:=Hd fun w1 hw=>pg_facts w p E ec N nc w1 hw h;have HEC:=Hd fun w1 a=>refEnums E p.es.length ec p.es w1 a ht.1.ok ht.1.few;have HND:=Hd fun x A1 c1 A2 c2 A3 c3 A4 c4 w1 a b c=>refNode E p.es.length ec x A1 c1 A2 c2 A3 c3 A4 c4 w1 (by have:=ht.1.1;omega) a b c;have hmx:=RdS.max h.2;have HE:=Hd (show checkN p=if enumsN p.es=0 then(if p.ns.length=0 then 5 else if 6<p.ns.length then 4 else if p.ns.any manyN then 4 else if rightN p.es.length p.ns then(if onceN p.ns && onceS (p.ns.map Nd.nm) then 0 else 6) else 1) else enumsN p.es from rfl);have HTN:=Hd ht.2.2;obtain⟨i0,hi,ji0,ji1,ji2⟩:=info_parts infoString;unfold pgA;unfold rightN onceN at HE;generalize checkN p=out at *
 go_enter Tryz.func38,Tryz.ntmps38
 go_upto_region 1 with(fail)
 generalize hw1:w.alloc _=w1;obtain⟨hb1,hg,hR1,hcell⟩:=HF.out w1 hw1;have HB1:=Hd hb1;have HC:=Hd hcell;have HE1:=Hd (HEC.out w1 hR1.1);have HNS:=Hd (show RdS 5 NdAt w1 N p.ns.length p.ns from hR1.2);simp only [pgA] at HC;have q0:=HC.out w1 (Below.refl _ _) 0;simp only [Ya,Yb,Yc] at q0;clear hw1 hcell hb1 HF h hR1 HEC ht;generalize hns:p.ns=ns at *;generalize hnl:ns.length=n at *;have HNL:=Hd hnl;generalize p.es.length=ne at *;generalize enumsN p.es=en at *;clear hnl hns
 go_wp2_with fail
 refine HE1.out.mono ?_;rintro e w2 ⟨rfl,hb2⟩;have HB2:=Hd (HB1.out.trans (hb2.mono (by omega)));have HW2:=Hd hb2;have q1:=HC.out w2 hb2 1;have q0:=HC.out w2 hb2 0;have hz2:=hb2.size;simp only [Ya,Yb,Yc] at q0 q1;clear hb2
 by_cases he0:en=0
 · subst he0;rw [if_pos rfl] at HE;rcases Nat.eq_zero_or_pos n with hn0 | hn0
   · subst hn0;rw [if_pos rfl] at HE
     go_wp2_with fail
     go_ret
     exact⟨ret_int HE.out.symm,HB2.out⟩
   · rw [if_neg (by omega)] at HE;have dn0:((n:Int)==0)=false:=by rw [beq_eq_false_iff_ne];omega
     by_cases hn6:6<n
     · rw [if_pos hn6] at HE
       go_wp2_with fail
       go_ret
       exact⟨ret_int HE.out.symm,HB2.out⟩
     · rw [if_neg hn6] at HE;have d6:decide ((6:Int)<(n:Int))=false:=decide_eq_false (by omega);have hr3:=Hd (World.ownsRow_lit (base:=w2.heap.size) (e:=9) (size:=1) w2 #[] 0 (Nat.le_refl _) (by decide) rfl);have HB0:=Hd (HW2.out.alloc HW2.out.size (.cells #[] 9))
       go_wp2_with fail
       go_loopw [4,5,6,7] (fun v r o i wr=>∃ k:Nat,k≤n∧i=.int .i64 k∧wr.ownsRow w2.heap.size 9 1 v k (((ns.map Nd.nm).take k).map Value.string)∧r=.bool ((ns.take k).all (nodeB ne rightB rightX))∧o=.bool ((ns.take k).all fun n=>onceS (namesD n.all))∧(∀ j,j<k→manyN (ns[j]?.getD default)=false)∧Below w1.heap.size w1 wr∧w2.heap.size≤wr.heap.size) (fun _ _ _ i _=>n-(intOf i).toNat)
       case atStart=>exact⟨0,Nat.zero_le _,rfl,hr3.out,rfl,rfl,fun j hj=>absurd hj (by omega),HB0.out,by simp⟩
       case round=>
        obtain⟨k,hk,rfl,hrow,rfl,rfl,hmn,hnx,hzr⟩:=hrel;have HROW:=Hd hrow;have HMN:=Hd hmn;have HNX:=Hd hnx;have hz:=hnx.size;have q0:=HC.out wr hnx 0;have q1:=HC.out wr hnx 1;simp only [Ya,Yb,Yc] at q0 q1;clear hmn hrow hr3 HB0
        by_cases hlt:k<n
        · obtain⟨b,off,rfl,hb,hc⟩:=RdS.at_ HNS.out (by omega);have hnd:=hc k hlt;clear hc;have hnm:=nms_succ (l:=ns) (k:=k) (by rw [HNL.out];exact hlt);have hal:=all_take_and (f:=nodeB ne rightB rightX) (l:=ns) (k:=k) (by rw [HNL.out];exact hlt);have hon:=all_take_and (f:=fun n=>onceS (namesD n.all)) (l:=ns) (k:=k) (by rw [HNL.out];exact hlt);have hty:=HTN.out k hlt;have HAY:=Hd fun hf=>any_at_yes (l:=ns) (f:=manyN) (k:=k) (by rw [HNL.out];exact hlt) hf;have HS:=Hd fun(hf:manyN (ns[k]?.getD default)=false)=>to_next (P:=fun j=>manyN (ns[j]?.getD default)=false) HMN.out hf;generalize ns[k]?.getD default=x at hnd hnm hal hon hty HAY HS;have HNM:=Hd hnm;have HAL:=Hd hal;have HON:=Hd hon;have HTY:=Hd hty;have hlen:=hty.len
          have HMB:=Hd (show manyN x=(decide ((6:Int)<(x.ins.length:Int)) || decide ((6:Int)<(x.outs.length:Int)) || decide ((12:Int)<(x.vars.length:Int)) || decide ((18:Int)<(x.eqs.length:Int))) by
           have hd:∀ a b:Nat,decide ((a:Int)<(b:Int))=decide (a<b):=fun a b=>by simp
           have h6:=hd 6;have h12:=hd 12;have h18:=hd 18;simp only [manyN] at *;rw [← h6,← h6,← h12,← h18];rfl)
          clear hnm hal hon hty;obtain⟨A1,c1,A2,c2,A3,c3,A4,c4,hrd,e0,e1,e2,e3,e4⟩:=hnd.five;have p10:=(hnx.cell (p:=⟨b,off+k*5,none⟩) hb).trans e0;have p11:=(hnx.cell (p:=⟨b,off+k*5+1,none⟩) hb).trans e1;have p12:=(hnx.cell (p:=⟨b,off+k*5+2,none⟩) hb).trans e2;have p13:=(hnx.cell (p:=⟨b,off+k*5+3,none⟩) hb).trans e3;have p14:=(hnx.cell (p:=⟨b,off+k*5+4,none⟩) hb).trans e4;have HRD:=Hd fun w' (hb:Below w1.heap.size w1 w')=>hrd.below hb;have HXN:=Hd fun w' hb=>HND.out x A1 c1 A2 c2 A3 c3 A4 c4 w' (HRD.out w' hb) HTY.out.ok (by have:=HTY.out.len;omega);have HXA:=Hd fun w' hb=>refAllD x A1 c1 A2 c2 A3 c3 A4 c4 w' (HRD.out w' hb) (by have:=HTY.out.len;omega);have HBX:=Hd fun zc w4 (hw:(wr.alloc (.cells zc 53)).setRow wr.heap.size (ndA x A1 c1 A2 c2 A3 c3 A4 c4)=w4)=>(show w4.heap[wr.heap.size]?=some (.cells (ndA x A1 c1 A2 c2 A3 c3 A4 c4) 53)∧Below wr.heap.size wr w4 from⟨by rw [← hw];exact setRow_heap _ _ _ _ _ _ (heap_alloc_new _ _),(box_store hw).1⟩);unfold ndA at HXN HXA;clear e0 e1 e2 e3 e4 hrd hnd hnx
          go_upto_region 13 with(refine wpList_store_row rfl _ _ _ rfl wr.heap.size _ rfl rfl _ _ (heap_alloc_new _ _) ndinfo rfl (by simp [Value.oneCell']) ?_)
          generalize hw4:World.setRow _ _ _=w4;obtain⟨hh4,hb4⟩:=HBX.out _ w4 hw4;have HH4:=Hd hh4;have HB4:=Hd (HNX.out.trans (hb4.mono hz));have HROW4:=Hd (own_belowX HROW.out hb4);have hz4:=hb4.size;have hg4:wr.heap.size<w4.heap.size:=(Array.getElem?_eq_some_iff.1 hh4).1;have r0:=cells_at hh4 (Below.refl _ _) 0;have r1:=cells_at hh4 (Below.refl _ _) 1;have r2:=cells_at hh4 (Below.refl _ _) 2;have r3:=cells_at hh4 (Below.refl _ _) 3;have r4:=cells_at hh4 (Below.refl _ _) 4;simp only [ndA,List.getElem?_toArray,List.getElem?_cons_zero,List.getElem?_cons_succ] at r0 r1 r2 r3 r4;have HNE:=Hd (show u4.ownBlock≠some wr.heap.size from fun e=>by have:=(HROW.out.lt _ e).2;omega);clear hw4 hh4 hb4 HBX p10 p11 p12 p13 p14 q0 q1;generalize wr.heap.size=gb at *
          cases m1:decide ((6:Int)<(x.ins.length:Int)) with
          | true=>
           rw [m1] at HMB
           go_wp2_with fail
           go_ret
           exact⟨ret_int (by rw [HE.out,HAY.out (by rw [HMB.out];rfl)];rfl),HB1.out.trans (HB4.out.mono (by omega))⟩
          | false=>
           rw [m1] at HMB
           cases m2:decide ((6:Int)<(x.outs.length:Int)) with
           | true=>
            rw [m2] at HMB
            go_wp2_with fail
            go_ret
            exact⟨ret_int (by rw [HE.out,HAY.out (by rw [HMB.out];rfl)];rfl),HB1.out.trans (HB4.out.mono (by omega))⟩
           | false=>
            rw [m2] at HMB
            cases m3:decide ((12:Int)<(x.vars.length:Int)) with
            | true=>
             rw [m3] at HMB
             go_wp2_with fail
             go_ret
             exact⟨ret_int (by rw [HE.out,HAY.out (by rw [HMB.out];rfl)];rfl),HB1.out.trans (HB4.out.mono (by omega))⟩
            | false=>
             rw [m3] at HMB
             cases m4:decide ((18:Int)<(x.eqs.length:Int)) with
             | true=>
              rw [m4] at HMB
              go_wp2_with fail
              go_ret
              exact⟨ret_int (by rw [HE.out,HAY.out (by rw [HMB.out];rfl)];rfl),HB1.out.trans (HB4.out.mono (by omega))⟩
             | false=>
              rw [m4] at HMB;have HM2:=Hd (HS.out (by rw [HMB.out];rfl))
              go_upto_region 16 with(at_builtin;refine wpList_append_own_at _ rfl _ _ 32 rfl w2.heap.size 9 i0 (.string ByteArray.empty) 1 16 Tryz.underlying32 hi ji0 ji1 ji2 rfl (by decide) _ _ _ rfl (HROW4.out.alloc _) ⟨w4.heap.size,0,none⟩ 1 1 [.string x.nm] rfl rfl (cell_one_new _ _ _) (string_cells [x.nm]) (by unfold maxLen;omega) (by omega) (by simp;omega) ?_;intro v' w5 hown' hgrow hnil hloc;have HO5:=Hd hown';have HG5:=Hd hgrow;clear hown' hgrow hnil hloc)
              have HB5:=Hd ((HB4.out.alloc HB4.out.size (.cells #[.string x.nm] 9)).grown HG5.out (by have:=HB4.out.size;simp;omega) (fun j hj=>by have:=(HROW4.out.lt j hj).1;omega));have hh5:=cells_grown ((Below.heap_alloc w4 (.cells #[.string x.nm] 9) gb hg4).trans HH4.out) HG5.out HNE.out;have HH5:=Hd hh5;have hz5:=HB5.out.size;have hz45:=HG5.out.size
              simp at hz45
              have s0:=cells_at hh5 (Below.refl _ _) 0;have s1:=cells_at hh5 (Below.refl _ _) 1;have s2:=cells_at hh5 (Below.refl _ _) 2;have s3:=cells_at hh5 (Below.refl _ _) 3;have s4:=cells_at hh5 (Below.refl _ _) 4;have s5:=HC.out w5 HB5.out 0;simp only [ndA,List.getElem?_toArray,List.getElem?_cons_zero,List.getElem?_cons_succ] at s0 s1 s2 s3 s4 s5;clear r0 r1 r2 r3 r4 hh5
              cases hr:(ns.take k).all (nodeB ne rightB rightX) with
              | false=>
               cases ho:(ns.take k).all (fun n=>onceS (namesD n.all)) with
               | false=>
                have HRE:=Hd HO5.out;have HBE:=Hd HB5.out
                go_wp2_with fail
                go_roundw
                case rel=>
                 refine⟨k+1,by omega,by go_num,?_,?_,?_,HM2.out,HBE.out,by omega⟩
                 · rw [HNM.out,List.map_append];exact HRE.out
                 · rw [HAL.out,hr];rfl
                 · rw [HON.out,ho];rfl
                case measure=>simp [intOf];omega
               | true=>
                have HRE:=Hd HO5.out;have HBE:=Hd HB5.out
                go_wp2_with fail
                have HXA6:=Hd (HXA.out _ HBE.out);refine HXA6.out.mono ?_;rintro e w7 ⟨A9,c9,rfl,hr7,hb7⟩;have HBE:=Hd (HBE.out.trans (hb7.mono HBE.out.size));have HRE:=Hd (own_belowX HRE.out hb7);have hzz7:=hb7.size;have HN7:=Hd (refNamesD A9 x.all.length c9 x.all _ hr7 (by omega));clear hr7 hb7 s0 s1 s2 s3 s4 s5
                go_wp2_with fail
                refine HN7.out.mono ?_;rintro e w8 ⟨A10,c10,rfl,hr8,hb8⟩;have HBE:=Hd (HBE.out.trans (hb8.mono HBE.out.size));have HRE:=Hd (own_belowX HRE.out hb8);have hzz8:=hb8.size;have HN8:=Hd (refOnce A10 x.all.length c10 (namesD x.all) _ hr8 (by omega));clear hr8 hb8
                go_wp2_with fail
                refine HN8.out.mono ?_;rintro e w9 ⟨rfl,md,rfl⟩;have hzz9:w8.heap.size≤(w8.drewN md).heap.size:=Nat.le_refl _;have HBE:=Hd (HBE.out.trans ((drewN_below (m:=md)).mono HBE.out.size));have HRE:=Hd (own_belowX HRE.out (drewN_below (m:=md)))
                go_wp2_with fail
                go_roundw
                case rel=>
                 refine⟨k+1,by omega,by go_num,?_,?_,?_,HM2.out,HBE.out,by omega⟩
                 · rw [HNM.out,List.map_append];exact HRE.out
                 · rw [HAL.out,hr];rfl
                 · rw [HON.out,ho];rfl
                case measure=>simp [intOf];omega
              | true=>
               cases ho:(ns.take k).all (fun n=>onceS (namesD n.all)) with
               | false=>
                have HXN5:=Hd (HXN.out w5 HB5.out)
                go_wp2_with fail
                refine HXN5.out.mono ?_;rintro e w6 ⟨rfl,hb6⟩;have HBE:=Hd (HB5.out.trans (hb6.mono HB5.out.size));have HRE:=Hd (own_belowX HO5.out hb6);have hzz6:=hb6.size;have t0:=cells_at HH5.out hb6 0;have t1:=cells_at HH5.out hb6 1;have t2:=cells_at HH5.out hb6 2;have t3:=cells_at HH5.out hb6 3;have t4:=cells_at HH5.out hb6 4;simp only [ndA,List.getElem?_toArray,List.getElem?_cons_zero,List.getElem?_cons_succ] at t0 t1 t2 t3 t4;clear hb6 s0 s1 s2 s3 s4 s5
                go_wp2_with fail
                go_roundw
                case rel=>
                 refine⟨k+1,by omega,by go_num,?_,?_,?_,HM2.out,HBE.out,by omega⟩
                 · rw [HNM.out,List.map_append];exact HRE.out
                 · rw [HAL.out,hr];rfl
                 · rw [HON.out,ho];rfl
                case measure=>simp [intOf];omega
               | true=>
                have HXN5:=Hd (HXN.out w5 HB5.out)
                go_wp2_with fail
                refine HXN5.out.mono ?_;rintro e w6 ⟨rfl,hb6⟩;have HBE:=Hd (HB5.out.trans (hb6.mono HB5.out.size));have HRE:=Hd (own_belowX HO5.out hb6);have hzz6:=hb6.size;have t0:=cells_at HH5.out hb6 0;have t1:=cells_at HH5.out hb6 1;have t2:=cells_at HH5.out hb6 2;have t3:=cells_at HH5.out hb6 3;have t4:=cells_at HH5.out hb6 4;simp only [ndA,List.getElem?_toArray,List.getElem?_cons_zero,List.getElem?_cons_succ] at t0 t1 t2 t3 t4;clear hb6 s0 s1 s2 s3 s4 s5
                go_wp2_with fail
                have HXA6:=Hd (HXA.out _ HBE.out);refine HXA6.out.mono ?_;rintro e w7 ⟨A9,c9,rfl,hr7,hb7⟩;have HBE:=Hd (HBE.out.trans (hb7.mono HBE.out.size));have HRE:=Hd (own_belowX HRE.out hb7);have hzz7:=hb7.size;have HN7:=Hd (refNamesD A9 x.all.length c9 x.all _ hr7 (by omega));clear hr7 hb7 t0 t1 t2 t3 t4
                go_wp2_with fail
                refine HN7.out.mono ?_;rintro e w8 ⟨A10,c10,rfl,hr8,hb8⟩;have HBE:=Hd (HBE.out.trans (hb8.mono HBE.out.size));have HRE:=Hd (own_belowX HRE.out hb8);have hzz8:=hb8.size;have HN8:=Hd (refOnce A10 x.all.length c10 (namesD x.all) _ hr8 (by omega));clear hr8 hb8
                go_wp2_with fail
                refine HN8.out.mono ?_;rintro e w9 ⟨rfl,md,rfl⟩;have hzz9:w8.heap.size≤(w8.drewN md).heap.size:=Nat.le_refl _;have HBE:=Hd (HBE.out.trans ((drewN_below (m:=md)).mono HBE.out.size));have HRE:=Hd (own_belowX HRE.out (drewN_below (m:=md)))
                go_wp2_with fail
                go_roundw
                case rel=>
                 refine⟨k+1,by omega,by go_num,?_,?_,?_,HM2.out,HBE.out,by omega⟩
                 · rw [HNM.out,List.map_append];exact HRE.out
                 · rw [HAL.out,hr];rfl
                 · rw [HON.out,ho];rfl
                case measure=>simp [intOf];omega
        · obtain rfl:k=n:=by omega
          have hta:∀ f:Nd→Bool,(ns.take k).all f=ns.all f:=fun f=>by rw [List.take_of_length_le (by rw [HNL.out];exact Nat.le_refl _)]
          have HAN:=Hd (any_no (l:=ns) (f:=manyN) fun j hj=>HMN.out j (by rw [← HNL.out];exact hj));rw [HAN.out,if_neg (by simp)] at HE;have hrw:=HROW.out;rw [List.take_of_length_le (by rw [List.length_map,HNL.out];exact Nat.le_refl _)] at hrw;obtain⟨A9,c9,rfl,hR9,_⟩:=RdT.of_own hrw (by omega);have HO9:=Hd (refOnce A9 k c9 (ns.map Nd.nm) wr hR9 (by omega));have HBE:=Hd (HB1.out.trans (HNX.out.mono (by omega)));rw [hta,hta];clear hta hrw hR9 hnx
          cases hr:ns.all (nodeB ne rightB rightX) with
          | false=>
           rw [hr] at HE
           go_wp2_with fail
           go_ret
           exact⟨ret_int (by rw [HE.out];rfl),HBE.out⟩
          | true=>
           rw [hr,if_pos rfl] at HE
           cases ho:ns.all (fun n=>onceS (namesD n.all)) with
           | false=>
            rw [ho] at HE
            go_wp2_with fail
            go_ret
            exact⟨ret_int (by rw [HE.out];rfl),HBE.out⟩
           | true=>
            rw [ho,Bool.true_and] at HE
            cases hx:onceS (ns.map Nd.nm) with
            | false=>
             rw [hx] at HE HO9
             go_wp2_with fail
             refine HO9.out.mono ?_;rintro e w9 ⟨rfl,md,rfl⟩;have HBE:=Hd (HBE.out.trans ((drewN_below (m:=md)).mono HBE.out.size))
             go_wp2_with fail
             go_ret
             exact⟨ret_int (by rw [HE.out];rfl),HBE.out⟩
            | true=>
             rw [hx,if_pos rfl] at HE;rw [hx] at HO9
             go_wp2_with fail
             refine HO9.out.mono ?_;rintro e w9 ⟨rfl,md,rfl⟩;have HBE:=Hd (HBE.out.trans ((drewN_below (m:=md)).mono HBE.out.size))
             go_wp2_with fail
             go_ret
             exact⟨ret_int HE.out.symm,HBE.out⟩
 · rw [if_neg he0] at HE;have de:(en==0)=false:=by rw [beq_eq_false_iff_ne];exact he0
   go_wp2_with fail
   go_ret
   exact⟨ret_int HE.out.symm,HB2.out⟩
end
section
def firstF{α:Type} [DecidableEq α] (z:α) (f:Nat→α):Nat→α
 | 0=>z
 | n+1=>if firstF z f n=z then f n else firstF z f n
theorem firstF_no{α:Type} [DecidableEq α] {z:α}{f:Nat→α}:∀ {n:Nat},(∀ j,j<n→f j=z)→firstF z f n=z
 | 0,_=>rfl
 | n+1,h=>by rw [firstF,if_pos (firstF_no fun j hj=>h j (by omega)),h n (by omega)]
theorem firstF_hit{α:Type} [DecidableEq α] {z:α}{f:Nat→α}{k:Nat}:∀ {n:Nat},k<n→(∀ j,j<k→f j=z)→f k≠z→firstF z f n=f k
 | 0,h,_,_=>absurd h (by omega)
 | n+1,hk,hn,hf=>by
  rw [firstF]
  by_cases h:k<n
  · have h1:=firstF_hit h hn hf;rw [h1,if_neg hf]
  · obtain rfl:k=n:=by omega
    rw [if_pos (firstF_no hn)]
def armR(es:List En) (s:ByteArray):Option (Int × Int × Int):=
 if(s.toList==[116,114,117,101])=true then some (2,0,1)
 else if(s.toList==[102,97,108,115,101])=true then some (2,0,0)
 else(findE es s).map fun p=>(3,(p.1:Int),(p.2.1:Int))
def nmB(s:ByteArray) (t:ByteArray):Bool:=t.data.toList==s.data.toList
def isV(n:Nd) (s:ByteArray):Bool:=(declO n s).isSome
def armV(es:List En) (s:ByteArray):Bool:=(armR es s).isSome
def ndAt(p:Pg) (i:Nat):Nd:=p.ns[i]?.getD default
def partS(p:Pg) (i:Nat) (e:Ex):Bool:=
 if((e.k==3 || e.k==11 || e.k==12) && !isV (ndAt p i) e.s)=true then false
 else if e.arms.all (armV p.es)=false then false
 else if(e.k==4)=true then armV p.es e.s
 else if(e.k==13)=true then decide (0≤findN p e.s) && decide (findN p e.s<(i:Int))
 else !(e.k==17)
def cntS(s:ByteArray) (l:List ByteArray):Nat:=(l.filter (nmB s)).length
def defTo(n:Nd) (s:ByteArray) (i j:Nat):Nat:=cntS s ((n.eqs.take i).flatMap Qn.ns++((n.eqs[i]?.getD default).ns.take j))
def defN(n:Nd) (s:ByteArray) (i:Nat):Nat:=cntS s ((n.eqs.take i).flatMap Qn.ns)
def inputS(n:Nd) (s:ByteArray):Bool:=n.ins.any fun d=>nmB s d.nm
def nameS(n:Nd) (i:Nat) (ns:List ByteArray) (k:Nat):Int:=
 if isV n (ns[k]?.getD ByteArray.empty)=false then 5
 else if(inputS n (ns[k]?.getD ByteArray.empty) || decide (0<defN n (ns[k]?.getD ByteArray.empty) i))=true then 6
 else if(ns.take k).any (nmB (ns[k]?.getD ByteArray.empty))=true then 6 else 0
def eqS(p:Pg) (i j:Nat):Int:=
 if firstF (0:Int) (nameS (ndAt p i) j ((ndAt p i).eqs[j]?.getD default).ns) ((ndAt p i).eqs[j]?.getD default).ns.length=0
 then(if(partsX ((ndAt p i).eqs[j]?.getD default).x).all (partS p i)=true then 0 else 5)
 else firstF (0:Int) (nameS (ndAt p i) j ((ndAt p i).eqs[j]?.getD default).ns) ((ndAt p i).eqs[j]?.getD default).ns.length
def onS(p:Pg) (n:Nd) (d:Dc):Bool:=(d.on.toList==[]) || (isV n d.on && armV p.es d.ct)
abbrev Fl:=Int × Int × Int
def eqF(p:Pg) (i j:Nat):Fl:=if eqS p i j=0 then(0,0,0) else((i:Int),(j:Int),eqS p i j)
def nodeS(p:Pg) (i:Nat):Fl:=
 if(ndAt p i).all.all (onS p (ndAt p i))=false then((i:Int),-1,5)
 else if firstF ((0,0,0):Fl) (eqF p i) (ndAt p i).eqs.length=(0,0,0)
 then(if((ndAt p i).all.drop (ndAt p i).ins.length).all (fun d=>decide (0<defN (ndAt p i) d.nm (ndAt p i).eqs.length))=true then(0,0,0) else((i:Int),-1,5))
 else firstF ((0,0,0):Fl) (eqF p i) (ndAt p i).eqs.length
def checkS(p:Pg):Fl:=if checkN p=0 then firstF ((0,0,0):Fl) (nodeS p) p.ns.length else(0,-1,checkN p)
end
section
open Go.RowKit Go.Sort
def f3A(a b c:Int):Array Value:=#[.int .i64 a,.int .i64 b,.int .i64 c]
def F3(T:TypeId) (W:World) (g:Nat) (a b c:Int):Prop:=W.heap[g]?=some (Obj.cells (f3A a b c) T)
section
variable {T:TypeId}{W W':World}{g:Nat}{a b c:Int}
theorem F3.lt(h:F3 T W g a b c):g<W.heap.size:=(Array.getElem?_eq_some_iff.1 h).1
theorem F3.below(h:F3 T W g a b c) (hb:Below W.heap.size W W'):F3 T W' g a b c:=(hb.block g h.lt).trans h
theorem F3.set(h:F3 T W g a b c) (x y z:Int):F3 T (W.setRow g (f3A x y z)) g x y z:=setRow_heap _ _ _ _ _ _ h
theorem F3.cell(h:F3 T W g a b c) (j:Nat):W.cell? ⟨g,j,none⟩=(f3A a b c)[j]?:=by
 have:=cell_setRow_same W g j _ (f3A a b c) _ _ h;rwa [setRow_self W g _ _ _ h] at this
theorem F3.new(T:TypeId) (W:World) (a b c:Int):F3 T (W.alloc (.cells (f3A a b c) T)) W.heap.size a b c:=heap_alloc_new _ _
end
theorem fl_info:(Tryz.prog.info? 30).map (·.size)=some 3:=by kernel_rfl
theorem ty3_info:(Tryz.prog.info? 38).map (·.size)=some 3:=by kernel_rfl
theorem res_f3{fn:Func}{p:Tmp}(h:fn.results=#[.cell p 30]) (tmps:Array Value) (w:World) (i:Nat) (a b c:Int)
 (hp:tmps.getD p undef=.pointer (some ⟨i,0,none⟩)) (hg:F3 30 w i a b c):(results fn tmps).run Tryz.prog w=.ok (.agg (f3A a b c)) w:=
 results_cell_row h tmps w i _ _ _ _ hp hg Tryz.underlying30 rfl fl_info
theorem results_cell_two{fn:Func}{p u v:Tmp}{ty:TypeId}(h:fn.results=#[.cell p ty,.tmp u,.tmp v]) (tmps:Array Value) (P:Program) (w:World):
 (results fn tmps).run P w =
  ((asAddr (tmps.getD p undef)).run P w).andThen fun a w₁=>((loadVar ty a).run P w₁).andThen fun x w₂=>.ok (.tuple #[x,tmps.getD u undef,tmps.getD v undef]) w₂:=by
 simp only [results,h]
 simp [Sem.run_bind,Result.andThen]
theorem res_ty3{fn:Func}{p u v:Tmp}(h:fn.results=#[.cell p 38,.tmp u,.tmp v]) (tmps:Array Value) (w:World) (g:Nat) (a b c:Int)
 (hp:tmps.getD p undef=.pointer (some ⟨g,0,none⟩)) (hg:F3 38 w g a b c):(results fn tmps).run Tryz.prog w=.ok (.tuple #[.agg (f3A a b c),tmps.getD u undef,tmps.getD v undef]) w:=by
 rw [results_cell_two h,hp];have hl:=run_loadVar_row (P:=Tryz.prog) w g 38 38 _ _ _ hg Tryz.underlying38 rfl ty3_info
 simp [asAddr,Result.andThen,hl]
theorem f3_box{w w0:World}{T:TypeId}(h:w.alloc (.cells #[.int .i64 0,.int .i64 0,.int .i64 0] T)=w0):Below w.heap.size w w0∧F3 T w0 w.heap.size 0 0 0∧w0.heap.size=w.heap.size+1:=by
 subst h;exact⟨(Below.refl _ _).alloc (Nat.le_refl _) _,heap_alloc_new _ _,by simp⟩
def armW(o:Option (Int × Int × Int)):Value:=.tuple #[.agg (f3A ((o.map (·.1)).getD 0) ((o.map (·.2.1)).getD 0) 0),.int .i64 ((o.map (·.2.2)).getD 0),.bool o.isSome]
theorem below_set3{w w1:World}{v:Array Value}(h:Below w.heap.size w w1):Below w.heap.size w (w1.setRow w.heap.size v):=below_setRow h (Nat.le_refl _) _
theorem refFault(a b c:Int) (w:World):Calls Tryz.prog 30 #[.int .i64 a,.int .i64 b,.int .i64 c] w fun e w'=>e=.returned (.agg (f3A a b c))∧Below w.heap.size w w':=by
 go_enter Tryz.func30,Tryz.ntmps30
 go_upto_region 1 with(fail)
 generalize hw0:w.alloc _=w0;obtain⟨hb0,hR,hg0⟩:=f3_box hw0;have HB0:=Hd hb0;have HR:=Hd hR;clear hb0 hR hw0
 go_wp2_with (refine wpList_store_row rfl _ _ _ rfl (w.heap.size) _ rfl rfl _ _ HR.out fl_info rfl (by simp [Value.oneCell']) ?_)
 exact bodyPost_ret (res_f3 (p:=6) rfl _ _ w.heap.size a b c rfl (HR.out.set a b c)) rfl ⟨rfl,below_set3 HB0.out⟩
theorem refArm15(A:Option Addr) (n c:Nat) (es:List En) (s:ByteArray) (w:World) (hE:RdE w A n es):
 Calls Tryz.prog 29 #[.slice A n c,.string s] w fun e w'=>e=.returned (armW (armR es s))∧Below w.heap.size w w':=by
 have HC:=Hd fun w1 (hb:Below w.heap.size w w1)=>refCtor A n c es s w1 (hE.below hb);have HA:=Hd (show armR es s=if(s.toList==[116,114,117,101])=true then some (2,0,1) else if(s.toList==[102,97,108,115,101])=true then some (2,0,0) else(findE es s).map fun p=>(3,(p.1:Int),(p.2.1:Int)) from rfl);generalize armR es s=ar at *;clear hE
 cases h1:(s.toList==[116,114,117,101]) with
 | true=>
  have HE:=Hd (show ar=some (2,0,1) by rw [HA.out,if_pos h1]);rw [HE.out]
  go_enter Tryz.func29,Tryz.ntmps29
  go_upto_region 1 with(fail)
  generalize hw0:w.alloc _=w0;obtain⟨hb0,hR,hg0⟩:=f3_box hw0;have HB0:=Hd hb0;have HR:=Hd hR;clear hb0 hR hw0
  go_wp2_with (refine wpList_store_row rfl _ _ _ rfl (w.heap.size) _ rfl rfl _ _ HR.out ty3_info rfl (by simp [Value.oneCell']) ?_)
  exact bodyPost_ret (res_ty3 (p:=4) (u:=5) (v:=6) rfl _ _ w.heap.size 2 0 0 rfl (HR.out.set 2 0 0)) rfl ⟨rfl,below_set3 HB0.out⟩
 | false=>
  cases h2:(s.toList==[102,97,108,115,101]) with
  | true=>
   have HE:=Hd (show ar=some (2,0,0) by rw [HA.out,if_neg (by rw [h1];simp),if_pos h2]);rw [HE.out]
   go_enter Tryz.func29,Tryz.ntmps29
   go_upto_region 1 with(fail)
   generalize hw0:w.alloc _=w0;obtain⟨hb0,hR,hg0⟩:=f3_box hw0;have HB0:=Hd hb0;have HR:=Hd hR;clear hb0 hR hw0
   go_wp2_with (refine wpList_store_row rfl _ _ _ rfl (w.heap.size) _ rfl rfl _ _ HR.out ty3_info rfl (by simp [Value.oneCell']) ?_)
   exact bodyPost_ret (res_ty3 (p:=4) (u:=5) (v:=6) rfl _ _ w.heap.size 2 0 0 rfl (HR.out.set 2 0 0)) rfl ⟨rfl,below_set3 HB0.out⟩
  | false=>
   have HE:=Hd (show ar=(findE es s).map fun p=>(3,(p.1:Int),(p.2.1:Int)) by rw [HA.out,if_neg (by rw [h1];simp),if_neg (by rw [h2];simp)]);unfold ctorV at HC;rw [HE.out];clear HA HE
   cases hf:findE es s with
   | none=>
    rw [hf] at HC;simp only [Option.map_none,Option.getD_none,Option.isSome_none] at HC
    go_enter Tryz.func29,Tryz.ntmps29
    go_upto_region 1 with(fail)
    generalize hw0:w.alloc _=w0;obtain⟨hb0,hR,hg0⟩:=f3_box hw0;have HB0:=Hd hb0;have HR:=Hd hR;clear hb0 hR hw0
    go_wp2_with fail
    refine(HC.out _ HB0.out).mono ?_;rintro e w1 ⟨rfl,hb1⟩;have HR1:=Hd (HR.out.below hb1);have HB1:=Hd (HB0.out.trans (hb1.mono HB0.out.size));clear hb1
    go_wp2_with (refine wpList_store_row rfl _ _ _ rfl (w.heap.size) _ rfl rfl _ _ HR1.out ty3_info rfl (by simp [Value.oneCell']) ?_)
    exact bodyPost_ret (res_ty3 (p:=4) (u:=5) (v:=6) rfl _ _ w.heap.size 0 0 0 rfl (HR1.out.set 0 0 0)) rfl ⟨rfl,below_set3 HB1.out⟩
   | some q=>
    rw [hf] at HC;simp only [Option.map_some,Option.getD_some,Option.isSome_some] at HC;rw [show(some q).map (fun p:Pl=>((3:Int),(p.1:Int),(p.2.1:Int)))=some (3,(q.1:Int),(q.2.1:Int)) from rfl];generalize q.1=qa at *;generalize q.2.1=qb at *
    go_enter Tryz.func29,Tryz.ntmps29
    go_upto_region 1 with(fail)
    generalize hw0:w.alloc _=w0;obtain⟨hb0,hR,hg0⟩:=f3_box hw0;have HB0:=Hd hb0;have HR:=Hd hR;clear hb0 hR hw0
    go_wp2_with fail
    refine(HC.out _ HB0.out).mono ?_;rintro e w1 ⟨rfl,hb1⟩;have HR1:=Hd (HR.out.below hb1);have HB1:=Hd (HB0.out.trans (hb1.mono HB0.out.size));clear hb1
    go_wp2_with (refine wpList_store_row rfl _ _ _ rfl (w.heap.size) _ rfl rfl _ _ HR1.out ty3_info rfl (by simp [Value.oneCell']) ?_)
    exact bodyPost_ret (res_ty3 (p:=4) (u:=5) (v:=6) rfl _ _ w.heap.size 3 qa 0 rfl (HR1.out.set 3 qa 0)) rfl ⟨rfl,below_set3 HB1.out⟩
end
section
open Go.RowKit Go.Sort
theorem ret_boolS{a b:Bool}(h:a=b):Ending.returned (.bool a)=.returned (.bool b):=by rw [h]
theorem below_box{w w1 w2:World}{o:Obj}(h:Below w.heap.size w w1) (e:w1.alloc o=w2):Below w.heap.size w w2:=by
 subst e;exact h.alloc h.size _
theorem refIs15(x:Nd) (A1:Option Addr) (c1:Nat) (A2:Option Addr) (c2:Nat) (A3:Option Addr) (c3:Nat) (A4:Option Addr) (c4:Nat) (s:ByteArray) (w:World) (h:rdN w x A1 A2 A3 A4) (hn:x.all.length≤1000):
 Calls Tryz.prog 71 #[.agg (ndA x A1 c1 A2 c2 A3 c3 A4 c4),.string s] w fun e w'=>e=.returned (.bool (isV x s))∧Below w.heap.size w w':=by
 have HF:=Hd fun w1 hw=>nd_facts w x A1 c1 A2 c2 A3 c3 A4 c4 w1 hw h;have HC:=Hd fun w1 (a:rdN w1 x A1 A2 A3 A4)=>refDeclN x A1 c1 A2 c2 A3 c3 A4 c4 s w1 a hn;have HV:=Hd (show(declO x s).isSome=isV x s from rfl);clear h hn;unfold DeclPost declV at HC;unfold dcA at HC;generalize (declO x s).isSome=ok at *;generalize (declO x s).getD default=d at *;unfold ndA at HF HC ⊢
 go_enter Tryz.func71,Tryz.ntmps71
 go_upto_region 1 with(fail)
 generalize hw1:w.alloc _=w1;obtain⟨hb1,hg,hr1,hcell⟩:=HF.out w1 hw1;have HB1:=Hd hb1;obtain⟨q0,q1,q2,q3,q4,-⟩:=Sx (hcell w1 (Below.refl _ _));simp only [Ya,Yb,Yc] at q0 q1 q2 q3 q4;have HD:=Hd (HC.out w1 hr1);clear hw1 hcell hb1 HF HC hr1 hg
 go_wp2_with fail
 refine HD.out.mono ?_;rintro e w2 ⟨rfl,hb2⟩;have HB2:=Hd (HB1.out.trans (hb2.mono HB1.out.size));clear hb2 q0 q1 q2 q3 q4 HD
 go_wp2_with fail
 go_ret
 exact⟨ret_boolS HV.out,below_box HB2.out rfl⟩
theorem refArmP15(p:Pg) (E:Option Addr) (ec:Nat) (N:Option Addr) (nc:Nat) (s:ByteArray) (w:World) (h:rdP w p E N):
 Calls Tryz.prog 72 #[.agg (pgA p E ec N nc),.string s] w fun e w'=>e=.returned (.bool (armV p.es s))∧Below w.heap.size w w':=by
 have HF:=Hd fun w1 hw=>pg_facts w p E ec N nc w1 hw h;have HC:=Hd fun w1 (a:RdE w1 E p.es.length p.es)=>refArm15 E p.es.length ec p.es s w1 a;have HV:=Hd (show(armR p.es s).isSome=armV p.es s from rfl);clear h;unfold armW f3A at HC;generalize (armR p.es s).isSome=ok at *;generalize ((armR p.es s).map (·.1)).getD 0=r1 at *;generalize ((armR p.es s).map (·.2.1)).getD 0=r2 at *;generalize ((armR p.es s).map (·.2.2)).getD 0=r3 at *;unfold pgA at HF ⊢
 go_enter Tryz.func72,Tryz.ntmps72
 go_upto_region 1 with(fail)
 generalize hw1:w.alloc _=w1;obtain⟨hb1,hg,hr1,hcell⟩:=HF.out w1 hw1;have HB1:=Hd hb1;have q0:=hcell w1 (Below.refl _ _) 0;simp only [Ya,Yb,Yc] at q0;have HD:=Hd (HC.out w1 hr1.1);clear hw1 hcell hb1 HF HC hr1 hg
 go_wp2_with fail
 refine HD.out.mono ?_;rintro e w2 ⟨rfl,hb2⟩;have HB2:=Hd (HB1.out.trans (hb2.mono HB1.out.size));clear hb2 q0 HD
 go_wp2_with fail
 go_ret
 exact⟨ret_boolS HV.out,below_box HB2.out rfl⟩
theorem input_hit{n:Nd}{s:ByteArray}{k:Nat}(hk:k<n.ins.length) (h:((n.ins[k]?.getD default).nm.toList==s.toList)=true):inputS n s=true:=by
 unfold inputS;rw [List.getElem?_eq_getElem hk] at h;refine List.any_eq_true.2 ⟨_,List.getElem_mem hk,?_⟩;rw [Lib.toList_data,Lib.toList_data] at h;exact h
theorem input_no{n:Nd}{s:ByteArray}(h:∀ j,j<n.ins.length→((n.ins[j]?.getD default).nm.toList==s.toList)=false):inputS n s=false:=by
 unfold inputS;rw [List.any_eq_false];intro d hd;obtain⟨j,hj,rfl⟩:=List.getElem_of_mem hd;have:=h j hj;rw [List.getElem?_eq_getElem hj,Lib.toList_data,Lib.toList_data] at this
 simpa [nmB] using this
theorem refInput15(x:Nd) (A1:Option Addr) (c1:Nat) (A2:Option Addr) (c2:Nat) (A3:Option Addr) (c3:Nat) (A4:Option Addr) (c4:Nat) (s:ByteArray) (w:World) (h:rdN w x A1 A2 A3 A4):
 Calls Tryz.prog 109 #[.agg (ndA x A1 c1 A2 c2 A3 c3 A4 c4),.string s] w fun e w'=>e=.returned (.bool (inputS x s))∧Below w.heap.size w w':=by
 have HF:=Hd fun w1 hw=>nd_facts w x A1 c1 A2 c2 A3 c3 A4 c4 w1 hw h;have HH:=Hd fun k hk h=>input_hit (n:=x) (s:=s) (k:=k) hk h;have HN:=Hd fun h=>input_no (n:=x) (s:=s) h;have hmx:=RdS.max h.1;clear h;generalize inputS x s=res at *;unfold ndA at HF ⊢;generalize hn1:x.ins.length=n1 at *
 go_enter Tryz.func109,Tryz.ntmps109
 go_upto_region 1 with(fail)
 generalize hw1:w.alloc _=w1;obtain⟨hb1,hg,hr1,hcell⟩:=HF.out w1 hw1;have HB1:=Hd hb1;have HC:=Hd hcell;have HR:=Hd hr1.1;clear hw1 hcell hb1 HF hr1 hg
 go_wp2_with fail
 go_loopw [5] (fun i wr=>∃ k:Nat,k≤n1∧i=.int .i64 k∧(∀ j,j<k→((x.ins[j]?.getD default).nm.toList==s.toList)=false)∧Below w1.heap.size w1 wr) (fun i _=>n1-(intOf i).toNat)
 case atStart=>exact⟨0,Nat.zero_le _,rfl,fun j hj=>absurd hj (by omega),Below.refl _ _⟩
 case round=>
  obtain⟨k,hk,rfl,hto,hbr⟩:=hrel;have HTO:=Hd hto;have HBR:=Hd hbr;have q1:=HC.out wr hbr 1;simp only [Ya,Yb,Yc] at q1
  by_cases hlt:k<n1
  · obtain⟨b,off,rfl,hb,hat⟩:=RdS.at_ (HR.out.below hbr) (by omega);obtain⟨d0,-⟩:=(hat k (by omega)).six;have HHK:=Hd (HH.out k (by omega));have HNX:=Hd fun hf=>to_next (P:=fun j=>((x.ins[j]?.getD default).nm.toList==s.toList)=false) HTO.out hf;clear hat hto hbr;generalize (x.ins[k]?.getD default).nm=nm at *
    cases hx:(nm.toList==s.toList) with
    | true=>
     have HE:=Hd (HHK.out hx)
     go_wp2_with fail
     go_ret
     exact⟨ret_boolS HE.out.symm,HB1.out.trans (HBR.out.mono HB1.out.size)⟩
    | false=>
     have HNN:=Hd (HNX.out hx)
     go_wp2_with fail
     go_roundw
     case rel=>exact⟨k+1,by omega,by go_num,HNN.out,HBR.out⟩
     case measure=>simp [intOf];omega
  · have hkn:k=n1:=by omega
    have HE:=Hd (HN.out fun j hj=>hto j (by omega));clear hto hbr
    go_wp2_with fail
    go_ret
    exact⟨ret_boolS HE.out.symm,HB1.out.trans (HBR.out.mono HB1.out.size)⟩
theorem cntS_app(s:ByteArray) (a b:List ByteArray):cntS s (a++b)=cntS s a+cntS s b:=by simp [cntS]
theorem cntS_le(s:ByteArray) (l:List ByteArray):cntS s l≤l.length:=List.length_filter_le _ _
theorem defTo_zero(n:Nd) (s:ByteArray) (i:Nat):defTo n s i 0=defN n s i:=by simp [defTo,defN]
theorem defTo_next{n:Nd}{s:ByteArray}{i j:Nat}(hj:j<(n.eqs[i]?.getD default).ns.length):defTo n s i (j+1)=defTo n s i j+(if(((n.eqs[i]?.getD default).ns[j]?.getD ByteArray.empty).toList==s.toList)=true then 1 else 0):=by
 unfold defTo;rw [List.take_add_one,List.getElem?_eq_getElem hj,← List.append_assoc,cntS_app]
 congr 1
 simp only [Option.toList_some,Option.getD_some,Lib.toList_data];unfold cntS
 by_cases h:nmB s (n.eqs[i]?.getD default).ns[j]=true
 · rw [List.filter_cons_of_pos h];exact(if_pos h).symm
 · rw [List.filter_cons_of_neg h];exact(if_neg h).symm
theorem defTo_end{n:Nd}{s:ByteArray}{i j:Nat}(hi:i<n.eqs.length) (hj:j=(n.eqs[i]?.getD default).ns.length):defTo n s i j=defN n s (i+1):=by
 unfold defTo defN;rw [hj,List.take_length,List.take_add_one,List.getElem?_eq_getElem hi,List.flatMap_append]
 simp
theorem defN_zero(n:Nd) (s:ByteArray):defN n s 0=0:=by simp [defN,cntS]
end
section
open Go.RowKit Go.Sort
def FewQ(n:Nd):Prop:=n.eqs.length≤1000∧∀ q∈n.eqs,q.ns.length≤1000
theorem FewQ.at_{n:Nd}(h:FewQ n){i:Nat}(hi:i<n.eqs.length):(n.eqs[i]?.getD default).ns.length≤1000:=by
 rw [List.getElem?_eq_getElem hi,Option.getD_some];exact h.2 _ (List.getElem_mem _)
theorem defN_le{n:Nd}{s:ByteArray}(h:FewQ n):∀ i,defN n s i≤1000*n.eqs.length:=by
 intro i;refine Nat.le_trans (cntS_le _ _) ?_
 have h1:∀ (l:List Qn),(∀ q∈l,q.ns.length≤1000)→(l.flatMap Qn.ns).length≤1000*l.length:=by
  intro l
  induction l with
  | nil=>intro _;simp
  | cons a l ih=>
   intro hl;have h2:=ih fun q hq=>hl q (by simp [hq]);have h3:=hl a (by simp);simp only [List.flatMap_cons,List.length_append,List.length_cons];omega
 have h2:=h1 (n.eqs.take i) fun q hq=>h.2 q (List.mem_of_mem_take hq);have h3:(n.eqs.take i).length≤n.eqs.length:=by rw [List.length_take];omega
 exact Nat.le_trans h2 (Nat.mul_le_mul_left _ h3)
theorem defTo_le{n:Nd}{s:ByteArray}(h:FewQ n) (i j:Nat):defTo n s i j≤1000*n.eqs.length+j:=by
 have h1:=defN_le (s:=s) h i;unfold defTo;rw [cntS_app];have h2:=cntS_le s ((n.eqs[i]?.getD default).ns.take j);have h3:((n.eqs[i]?.getD default).ns.take j).length≤j:=by rw [List.length_take];omega
 unfold defN at h1;omega
theorem refDefined15(x:Nd) (A1:Option Addr) (c1:Nat) (A2:Option Addr) (c2:Nat) (A3:Option Addr) (c3:Nat) (A4:Option Addr) (c4:Nat) (s:ByteArray) (m:Nat) (w:World) (h:rdN w x A1 A2 A3 A4) (hm:m≤x.eqs.length) (hq:FewQ x):
 Calls Tryz.prog 74 #[.agg (ndA x A1 c1 A2 c2 A3 c3 A4 c4),.string s,.int .i64 m] w fun e w'=>e=.returned (.int .i64 (defN x s m))∧Below w.heap.size w w':=by
 have HF:=Hd fun w1 hw=>nd_facts w x A1 c1 A2 c2 A3 c3 A4 c4 w1 hw h;have hmx:=RdS.max h.2.2.2;have hqn:=hq.1;have HQA:=Hd fun i (hi:i<x.eqs.length)=>hq.at_ hi;have HNX:=Hd fun i j hj=>defTo_next (n:=x) (s:=s) (i:=i) (j:=j) hj;have HND:=Hd fun i j hi hj=>defTo_end (n:=x) (s:=s) (i:=i) (j:=j) hi hj;have HZ:=Hd fun i=>defTo_zero x s i;have HZ0:=Hd (defN_zero x s);have HLE:=Hd fun i j=>defTo_le (s:=s) hq i j;clear h hq;unfold ndA at HF ⊢;generalize hn1:x.eqs.length=nq at *;generalize defTo x s=dt at *;generalize defN x s=dn at *
 go_enter Tryz.func74,Tryz.ntmps74
 go_upto_region 1 with(fail)
 generalize hw1:w.alloc _=w1;obtain⟨hb1,hg,hr1,hcell⟩:=HF.out w1 hw1;have HB1:=Hd hb1;have q4:=hcell w1 (Below.refl _ _) 4;simp only [Ya,Yb,Yc] at q4;have HR:=Hd hr1.2.2.2;clear hw1 hcell hb1 HF hr1 hg
 go_wp2_with fail
 go_loopw [7,8] (fun c i wr=>∃ k:Nat,k≤m∧i=.int .i64 k∧c=.int .i64 (dn k)∧wr=w1) (fun _ i _=>m-(intOf i).toNat)
 case atStart=>exact⟨0,Nat.zero_le _,rfl,by rw [HZ0.out];rfl,rfl⟩
 case round=>
  obtain⟨k,hk,rfl,rfl,rfl⟩:=hrel
  by_cases hlt:k<m
  · obtain⟨b,off,rfl,hb,hat⟩:=RdS.at_ HR.out (by omega);obtain⟨A,c,A',ca,B',cb,r1,r2,e0,-⟩:=(hat k (by omega)).seven;have hql:=HQA.out k (by omega);have HNK:=Hd fun j hj=>HNX.out k j hj;have HNE:=Hd fun j hj=>HND.out k j (by omega) hj;have HZK:=Hd (HZ.out k);have HLK:=Hd (HLE.out k);have HR1:=Hd r1;clear hat r2 r1;generalize hnsl:(x.eqs[k]?.getD default).ns.length=nk at *;generalize (x.eqs[k]?.getD default).ns=ns at *
    go_wp2_with fail
    go_loopw [7,9] (fun c i wr2=>∃ j:Nat,j≤nk∧i=.int .i64 j∧c=.int .i64 (dt k j)∧wr2=wr) (fun _ i _=>nk-(intOf i).toNat)
    case atStart=>exact⟨0,Nat.zero_le _,rfl,by rw [HZK.out],rfl⟩
    case round=>
     obtain⟨j,hj,rfl,rfl,rfl⟩:=hrel;have hle:=HLK.out j
     by_cases hjt:j<nk
     · obtain⟨b2,off2,rfl,hb2,hat2⟩:=HR1.out.at_ hjt;have d0:=hat2 j hjt;have HN:=Hd (HNK.out j hjt);clear hat2;generalize ns[j]?.getD ByteArray.empty=y at *;generalize dt k j=dj at *
       cases hx:(y.toList==s.toList) with
       | true=>
        have HE:=Hd (show dt k (j+1)=dj+1 by rw [HN.out,if_pos hx])
        go_wp2_with fail
        go_roundw
        case rel=>exact⟨j+1,by omega,by go_num,by rw [HE.out];go_num,(by first | trivial | rfl)⟩
        case measure=>simp [intOf];omega
       | false=>
        have HE:=Hd (show dt k (j+1)=dj by rw [HN.out,if_neg (by rw [hx];simp)];rfl)
        go_wp2_with fail
        go_roundw
        case rel=>exact⟨j+1,by omega,by go_num,by rw [HE.out],(by first | trivial | rfl)⟩
        case measure=>simp [intOf];omega
     · have hjn:j=nk:=by omega
       have HE:=Hd (HNE.out j hjn)
       go_wp2_with fail
       go_roundw
       case rel=>exact⟨k+1,by omega,by go_num,by rw [HE.out],(by first | trivial | rfl)⟩
       case measure=>simp [intOf];omega
  · have hkm:k=m:=by omega
    subst hkm
    go_wp2_with fail
    go_ret
    exact⟨rfl,HB1.out⟩
end
end Go.Proofs.YtegjgiofmpolnaaGreat
