/- Parts of the proof: ScJ. Conditions: each theorem's own. -/
import Derived.Test.YtkbpdoomhfkngaaGreatR19
namespace Go.Proofs.YtkbpdoomhfkngaaGreat
set_option linter.unusedVariables false
set_option linter.unusedSimpArgs false
set_option maxRecDepth 100000
set_option maxHeartbeats 40000000
section
open Go.RowKit Go.Sort Go.BigFrame
theorem nodeR_zero{p:Pg}{i:Nat}{a:Int}(h:NodeR p i a 0):nodeS p i=(0,0,0):=by unfold NodeR at h;rw [h,if_pos rfl]
theorem nodeR_bad{p:Pg}{i:Nat}{a e:Int}(h:NodeR p i a e) (he:e≠0):nodeS p i=((i:Int),a,e)∧nodeS p i≠(0,0,0):=by
 unfold NodeR at h;rw [if_neg he] at h;exact⟨h,fun h'=>by rw [h] at h';injection h' with _ h';injection h' with _ h';exact he h'⟩
theorem nm_snoc{l:List Nd}{k:Nat}(h:k<l.length):(l.take (k+1)).map Nd.nm=(l.take k).map Nd.nm++[(l[k]?.getD default).nm]:=by
 rw [List.map_take,List.map_take,nms_succ h]
theorem scCheck(p:Pg) (E:Option Addr) (ec:Nat) (N:Option Addr) (nc:Nat) (w:World) (h:rdP w p E N) (ht:TinyP p):
 Calls Tryz.prog 27 #[.agg (pgA p E ec N nc)] w fun e w'=>e=.returned (flV (checkS p))∧Below w.heap.size w w':=by
 have hmm:=@run_makeMap Tryz.prog;have HF:=Hd fun w1 hw=>box_new (w:=w) (w1:=w1) (o:=.cells (pgA p E ec N nc) 25) hw;have HH:=Hd h;have HCK:=Hd fun w1 (a:Below w.heap.size w w1)=>pgCheck p E ec N nc w1 (h.below a) ht;have HWI:=Hd fun i (hi:i<p.ns.length) bn A1 c1 A2 c2 A3 c3 A4 c4 w1 (a:rdN w1 (ndAt p i) A1 A2 A3 A4)=>scWithin E p.es.length ec bn (ndAt p i) A1 c1 A2 c2 A3 c3 A4 c4 w1 a (tiny_few (ht.2.2 i hi)).1 (fun d hd=>((ht.2.2 i hi:TinyN (ndAt p i)).ok.2.1 d hd).1);have HNO:=Hd fun(h0:checkN p=0) i (hi:i<p.ns.length) bn bv bd mn mv A1 c1 A2 c2 A3 c3 A4 c4 w1 hb hbd hr hN hV hD hnd hvd=>scNode p i E ec bn bv bd mn mv A1 c1 A2 c2 A3 c3 A4 c4 w w1 hb hbd h.1 hr hN hV hD hnd hvd (good_of ht h0 hi);have HHIT:=Hd fun k h0 hk hn h=>checkS_hit (p:=p) (k:=k) h0 hk hn h;have HEND:=Hd fun h0 hn=>checkS_no (p:=p) h0 hn;have HBADC:=Hd fun(h0:¬ checkN p=0)=>(show checkS p=(0,-1,checkN p) by unfold checkS;rw [if_neg h0]);have HSN:=Hd fun k (hk:k<p.ns.length)=>nm_snoc (l:=p.ns) (k:=k) hk;have HTN:=Hd fun i (hi:i<p.ns.length)=>(show TinyN (ndAt p i) from ht.2.2 i hi);have hmx:=RdS.max h.2;have hns:=ht.2.1;clear h ht;generalize checkS p=res at *;generalize checkN p=ck at *;unfold RoomP at HWI;unfold NodeP at HNO;unfold pgA at HF HCK ⊢;generalize hpn:p.ns.length=pn at *;generalize hpe:p.es.length=ne at *;have HPN:=Hd hpn;clear hpn hpe
 go_enter Tryz.func27,Tryz.ntmps27
 go_upto_region 1 with(fail)
 generalize hw1:w.alloc _=w1;obtain⟨hb1,hg1,hz1⟩:=HF.out w1 hw1;generalize hw2:w1.alloc _=w2;obtain⟨hb2,hR2,hg2⟩:=f3_box hw2;simp only [hg1] at hR2;have hz12:=(hb2.block w.heap.size (by omega)).trans hz1;have HZ:=Hd hz12;have HR2:=Hd hR2;have HB2:=Hd (hb1.trans (hb2.mono hb1.size));have HG2:=Hd (show w.heap.size+1<w2.heap.size by omega);have y0:=blk_cell hz12 0;have y1:=blk_cell hz12 1;simp only [Ya,Yb,Yc] at y0 y1;have HCW:=Hd (HCK.out w2 HB2.out);clear hw1 hw2 hb1 hb2 HF hg2 hg1 hR2 hz1 hz12 HCK
 go_wp2_with fail
 refine HCW.out.mono ?_;rintro e w3 ⟨rfl,hb3⟩;have HB3:=Hd (HB2.out.trans (hb3.mono HB2.out.size));have HR3:=Hd (HR2.out.below hb3);have HZ3:=Hd ((hb3.block w.heap.size (by have:=HG2.out;omega)).trans HZ.out);have HG3:=Hd (Nat.lt_of_lt_of_le HG2.out hb3.size);clear hb3 y0 y1 HCW HR2 HZ
 by_cases h0:ck=0
 · have h0b:(ck != 0)=false:=by rw [h0];rfl
   have HNO0:=Hd (HNO.out h0);have HHIT0:=Hd fun k=>HHIT.out k h0;have HEND0:=Hd (HEND.out h0);clear HNO HHIT HEND HBADC;have z1:=blk_cell HZ3.out 1;simp only [Ya,Yb,Yc] at z1
   go_upto_region 5 with(fail)
   generalize hw4:w3.alloc _=w4;obtain⟨hb4,hg4,-⟩:=box_new hw4;have hs4:=set_new hw4;have HS4:=Hd hs4;have HB4:=Hd (HB3.out.trans (hb4.mono HB3.out.size));have HR4:=Hd (HR3.out.below hb4);have HZ4:=Hd ((hb4.block w.heap.size (by have:=HG3.out;omega)).trans HZ3.out);have HG4:=Hd (Nat.lt_of_lt_of_le HG3.out hb4.size);have z4:=(hb4.cell (p:=⟨w.heap.size,1,none⟩) (by have:=HG3.out;show w.heap.size<w3.heap.size;omega)).trans z1;clear hw4 hs4 hb4 z1 HR3 HZ3;generalize hbn:w3.heap.size=bn at *;clear hbn hg4;have hbnw:w.heap.size+1<bn:=HG3.out;have HBN:=Hd hbnw
   go_wp2_with fail
   go_loopw [19] (fun c wr=>∃ k:Nat,k≤pn∧c=.int .i64 k∧(∀ a,a<k→nodeS p a=(0,0,0))∧SetAt wr bn k ((p.ns.take k).map Nd.nm)∧Gd bn w4 wr) (fun c _=>pn-(intOf c).toNat)
   case atStart=>exact⟨0,Nat.zero_le _,rfl,fun a ha=>absurd ha (by omega),HS4.out,Gd.refl _⟩
   case round=>
    obtain⟨k,hk,rfl,hto,hset,hgd⟩:=hrel;have HTO:=Hd hto;have HS:=Hd hset;have HGD:=Hd hgd;have hbr:=Gd.below HB4.out hgd HB4.out.size (by omega);have HBR:=Hd hbr;have HRR:=Hd (show F3 30 wr (w.heap.size+1) 0 0 0 from hgd.blk HR4.out (by omega));have hzr:=hgd.blk HZ4.out (by omega);have HZR:=Hd hzr;clear hto hset hgd
    by_cases hlt:k<pn
    · obtain⟨b,off,A1,c1,A2,c2,A3,c3,A4,c4,rfl,hb,hrd,f0,f1,f2,f3,f4⟩:=nd_at HH.out.2 (i:=k) (by rw [HPN.out];exact hlt);have d0:=(hbr.cell (p:=⟨b,off+k*5,none⟩) hb).trans f0;have d1:=(hbr.cell (p:=⟨b,off+k*5+1,none⟩) hb).trans f1;have d2:=(hbr.cell (p:=⟨b,off+k*5+2,none⟩) hb).trans f2;have d3:=(hbr.cell (p:=⟨b,off+k*5+3,none⟩) hb).trans f3;have d4:=(hbr.cell (p:=⟨b,off+k*5+4,none⟩) hb).trans f4;have HTK:=Hd (HTN.out k hlt);have HSK:=Hd (HSN.out k hlt);have HHK:=Hd fun h=>HHIT0.out k hlt HTO.out h;have HRD:=Hd (show rdN w (ndAt p k) A1 A2 A3 A4 from hrd);have HWK:=Hd fun w1 (a:rdN w1 (ndAt p k) A1 A2 A3 A4)=>HWI.out k hlt bn A1 c1 A2 c2 A3 c3 A4 c4 w1 a;have HNK:=Hd fun bv bd w1 hb hbd hN hV hD hnd hvd=>HNO0.out k hlt bn bv bd k (ndAt p k).all.length A1 c1 A2 c2 A3 c3 A4 c4 w1 hb hbd hrd hN hV hD hnd hvd;have hnm:p.ns[k]?.getD default=ndAt p k:=rfl;have HINS:=Hd (show(ndAt p k).ins.length≤1000 by have:=(HTK.out).len;rw [all_len] at this;omega);have HNMS:=Hd (show(ndAt p k).nm.size≤maxLen from(HTK.out).ok.1);rw [hnm] at d0 d1 d2 d3 d4;have HNM:=Hd hnm;rw [hnm] at HSK;unfold ndA at HWK HNK;clear hnm f0 f1 f2 f3 f4 hrd
      go_upto_region 8 with(fail)
      generalize hw6:wr.alloc _=w6;obtain⟨hb6,hg6,hz6⟩:=box_new hw6;have HB6:=Hd (hbr.trans (hb6.mono hbr.size));have HG6:=Hd (HGD.out.trans (Gd.of_below hb6));have HS6:=Hd (HS.out.below hb6);have HR6:=Hd (HRR.out.below hb6);have hzr6:=(hb6.block w.heap.size (by have:=HBR.out.size;have:=HGD.out.size;have:=HG4.out;omega)).trans hzr;have a0:=blk_cell hzr6 0;have x0:=blk_cell hz6 0;have x1:=blk_cell hz6 1;have x2:=blk_cell hz6 2;have x3:=blk_cell hz6 3;have x4:=blk_cell hz6 4;simp only [Ya,Yb,Yc] at a0 x0 x1 x2 x3 x4;have HL1:=Hd (show w.heap.size<w6.heap.size by have:=HB6.out.size;have:=hg6;have:=HBR.out.size;omega);have HL2:=Hd (show wr.heap.size<w6.heap.size by omega);clear hw6 hb6 hg6 hz6 hzr6 hzr hbr d0 d1 d2 d3 d4;generalize wr.heap.size=g6 at *
      go_region_held3 (fun W=>W.cell? ⟨w.heap.size,0,none⟩=some (.slice E ne ec)∧W.cell? ⟨g6,0,none⟩=some (.string (ndAt p k).nm)∧W.cell? ⟨g6,1,none⟩=some (.slice A1 (ndAt p k).ins.length c1)∧W.cell? ⟨g6,2,none⟩=some (.slice A2 (ndAt p k).outs.length c2)∧W.cell? ⟨g6,3,none⟩=some (.slice A3 (ndAt p k).vars.length c3)∧W.cell? ⟨g6,4,none⟩=some (.slice A4 (ndAt p k).eqs.length c4)) (first | exact⟨a0,x0,x1,x2,x3,x4⟩ | exact⟨a0a,x0a,x1a,x2a,x3a,x4a⟩ | exact⟨a0d,x0d,x1d,x2d,x3d,x4d⟩)
       ((first
         | (go_at_call 43;refine(HWK.out _ (HRD.out.below (HB6.out.trans ((below_drewN (Below.refl w6.heap.size w6) 1).mono HB6.out.size)))).mono ?_;rintro r Wa ⟨bv,bd,rfl,hsv,hsd,hba,hle,hlt2⟩;have HBa:=Hd ((below_drewN (Below.refl w6.heap.size w6) 1).trans (hba.mono (below_drewN (Below.refl w6.heap.size w6) 1).size));have HLE:=Hd (show w6.heap.size≤bv from hle);have HLT:=Hd hlt2;have HSV:=Hd hsv;have HSD:=Hd hsd;have a0a:=(HBa.out.cell (p:=⟨w.heap.size,0,none⟩) HL1.out).trans a0;have x0a:=(HBa.out.cell (p:=⟨g6,0,none⟩) HL2.out).trans x0;have x1a:=(HBa.out.cell (p:=⟨g6,1,none⟩) HL2.out).trans x1;have x2a:=(HBa.out.cell (p:=⟨g6,2,none⟩) HL2.out).trans x2;have x3a:=(HBa.out.cell (p:=⟨g6,3,none⟩) HL2.out).trans x3;have x4a:=(HBa.out.cell (p:=⟨g6,4,none⟩) HL2.out).trans x4;clear hba hle hlt2 hsv hsd)
         | (go_at_call 44;refine(HNK.out bv bd _ (HB6.out.trans (HBa.out.mono HB6.out.size)) (by have:=HLE.out;have:=HLT.out;have:=HL1.out;omega) (HS6.out.below HBa.out) HSV.out (HSD.out.mono HINS.out) (by have:=HLE.out;have:=HLT.out;have:=HS6.out.lt;omega) (by have:=HLT.out;omega)).mono ?_;rintro r Wd ⟨av,er,rfl,hnr,hgd⟩;have HNR:=Hd hnr;have HBd:=Hd (Gd.below HBa.out hgd HBa.out.size (by have:=HLE.out;have:=HLT.out;omega));have a0d:=(HBd.out.cell (p:=⟨w.heap.size,0,none⟩) HL1.out).trans a0;have x0d:=(HBd.out.cell (p:=⟨g6,0,none⟩) HL2.out).trans x0;have x1d:=(HBd.out.cell (p:=⟨g6,1,none⟩) HL2.out).trans x1;have x2d:=(HBd.out.cell (p:=⟨g6,2,none⟩) HL2.out).trans x2;have x3d:=(HBd.out.cell (p:=⟨g6,3,none⟩) HL2.out).trans x3;have x4d:=(HBd.out.cell (p:=⟨g6,4,none⟩) HL2.out).trans x4;clear hnr hgd)))
      have HBW:=Hd (HB6.out.trans (HBd.out.mono HB6.out.size));have HRd:=Hd (HR6.out.below HBd.out);have HGd:=Hd (HG6.out.trans (Gd.of_below HBd.out));have HSd:=Hd (HS6.out.below HBd.out);clear a0 x0 x1 x2 x3 x4 a0a x0a x1a x2a x3a x4a x1d x2d x3d x4d a0d
      by_cases her:er=0
      · subst her;have HZN:=Hd (to_next (P:=fun a=>nodeS p a=(0,0,0)) HTO.out (nodeR_zero HNR.out));have HAD:=Hd (scAdd bn k ((p.ns.take k).map Nd.nm) (ndAt p k).nm Wd HSd.out (by omega) HNMS.out);clear HSV HSD
        go_wp2_with fail
        refine HAD.out.mono ?_;rintro e w9 ⟨rfl,hs9,hg9⟩;have HS9:=Hd hs9;have HG9:=Hd (HGd.out.trans hg9);clear hs9 hg9 HAD x0d
        go_wp2_with fail
        go_roundw
        case rel=>exact⟨k+1,by omega,by go_num,HZN.out,by rw [HSK.out];exact HS9.out,HG9.out⟩
        case measure=>simp [intOf];omega
      · have her2:(er != 0)=true:=bne_iff_ne.2 her;have HRS:=Hd (show res=((k:Int),av,er) by rw [HHK.out (nodeR_bad HNR.out her).2];exact(nodeR_bad HNR.out her).1);clear her
        go_wp2_with (refine wpList_store_row rfl _ _ _ rfl (w.heap.size+1) _ rfl rfl _ _ HRd.out fl_info rfl (by simp [f3A,Value.oneCell']) ?_)
        exact bodyPost_ret (res_f3 (p:=2) rfl _ _ (w.heap.size+1) k av er rfl (HRd.out.set _ _ _)) rfl ⟨by rw [HRS.out];rfl,below_setRow HBW.out (Nat.le_succ _) _⟩
    · have hkn:k=pn:=by omega
      have HRS:=Hd (HEND0.out fun a ha=>HTO.out a (by omega));clear hzr hbr
      go_wp2_with (refine wpList_store_row rfl _ _ _ rfl (w.heap.size+1) _ rfl rfl _ _ HRR.out fl_info rfl (by simp [f3A,Value.oneCell']) ?_)
      exact bodyPost_ret (res_f3 (p:=2) rfl _ _ (w.heap.size+1) 0 0 0 rfl (HRR.out.set _ _ _)) rfl ⟨by rw [HRS.out];rfl,below_setRow HBR.out (Nat.le_succ _) _⟩
 · have h0b:(ck != 0)=true:=by rw [bne_iff_ne];exact h0
   have HR:=Hd (HBADC.out h0);clear HHIT HEND HNO HBADC
   go_wp2_with (refine wpList_store_row rfl _ _ _ rfl (w.heap.size+1) _ rfl rfl _ _ HR3.out fl_info rfl (by simp [f3A,Value.oneCell']) ?_)
   exact bodyPost_ret (res_f3 (p:=2) rfl _ _ (w.heap.size+1) 0 (-1) ck rfl (HR3.out.set _ _ _)) rfl ⟨by rw [HR.out];rfl,below_setRow HB3.out (Nat.le_succ _) _⟩
end
end Go.Proofs.YtkbpdoomhfkngaaGreat
