/- Parts of the proof: ScU, ScO, ScH. Conditions: each theorem's own. -/
import Derived.WalkMore
import Derived.Test.YtkbpdoomhfkngaaGreatR16
import Derived.Test.YtkbpdoomhfkngaaGreatR18
namespace Go.Proofs.YtkbpdoomhfkngaaGreat
set_option linter.unusedVariables false
set_option linter.unusedSimpArgs false
set_option maxRecDepth 100000
set_option maxHeartbeats 40000000
section
open Go.RowKit Go.Sort Go.BigFrame
theorem rm_info:(Tryz.prog.info? 88).map (·.size)=some 4:=by kernel_rfl
theorem res_rm{fn:Func}{p:Tmp}(h:fn.results=#[.cell p 88]) (tmps:Array Value) (w:World) (i:Nat) (E:Option Addr) (n c bn bv bd:Nat)
 (hp:tmps.getD p undef=.pointer (some ⟨i,0,none⟩)) (hg:w.heap[i]?=some (Obj.cells (rmA E n c bn bv bd) 88)):(results fn tmps).run Tryz.prog w=.ok (.agg (rmA E n c bn bv bd)) w:=
 results_cell_row h tmps w i _ _ _ _ hp hg Tryz.underlying88 rfl rm_info
theorem names_snoc{l:List Dc}{k:Nat}(h:k<l.length):(namesD l).take (k+1)=(namesD l).take k++[(l[k]?.getD default).nm]:=by
 unfold namesD;rw [List.take_succ_eq_append_getElem (by simpa using h),List.getElem?_eq_getElem h]
 simp
theorem SetAt.row{W:World}{b m g:Nat}{l:List ByteArray}(h:SetAt W b m l) (hne:b≠g) (cs:Array Value):SetAt (W.setRow g cs) b m l:=
 h.kept (row:=some g) ⟨rfl,rfl,rfl,by simp,fun k _ hk=>setRow_other W g k _ (fun e=>hk (by rw [e]))⟩ (fun e=>hne (by injection e))
theorem box_new{w w1:World}{o:Obj}(h:w.alloc o=w1):Below w.heap.size w w1∧w1.heap.size=w.heap.size+1∧w1.heap[w.heap.size]?=some o:=by
 subst h;exact⟨(Below.refl _ _).alloc (Nat.le_refl _) _,by simp,World.alloc_heap_new _ _⟩
theorem set_new{w w1:World}(h:w.alloc (.map #[] 0)=w1):SetAt w1 w.heap.size 0 []:=by
 subst h;exact SetAt.new _
def RoomP(E:Option Addr) (n c bn:Nat) (w:World) (x:Nd) (e:Ending) (w':World):Prop:=
 ∃ bv bd,e=.returned (.agg (rmA E n c bn bv bd))∧SetAt w' bv x.all.length (namesD x.all)∧SetAt w' bd x.ins.length (namesD x.ins)∧Below w.heap.size w w'∧w.heap.size≤bv∧bv<bd
theorem scWithin(E:Option Addr) (n c bn:Nat) (x:Nd) (A1:Option Addr) (c1:Nat) (A2:Option Addr) (c2:Nat) (A3:Option Addr) (c3:Nat) (A4:Option Addr) (c4:Nat) (w:World) (h:rdN w x A1 A2 A3 A4) (hn:x.all.length≤1000) (hz:∀ d∈x.all,d.nm.size≤maxLen):
 Calls Tryz.prog 43 #[.slice E n c,.map (some bn),.agg (ndA x A1 c1 A2 c2 A3 c3 A4 c4)] w (RoomP E n c bn w x):=by
 have hmm:=@run_makeMap Tryz.prog;have HF:=Hd fun w1 hw=>nd_facts w x A1 c1 A2 c2 A3 c3 A4 c4 w1 hw h;have HCC:=Hd fun b w1 (a:rdN w1 x A1 A2 A3 A4) hc hb=>slConcatD x A1 c1 A2 c2 A3 c3 A4 b w1 a hc hb (by omega);have HI:=Hd h.1;have HSA:=Hd fun k (hk:k<x.all.length)=>names_snoc (l:=x.all) (k:=k) hk;have HSI:=Hd fun k (hk:k<x.ins.length)=>names_snoc (l:=x.ins) (k:=k) hk;have HZA:=Hd fun k (hk:k<x.all.length)=>hz _ (getD_memA (l:=x.all) hk);have hli:x.ins.length≤x.all.length:=by unfold Nd.all;simp
 have HZI:=Hd fun k (hk:k<x.ins.length)=>hz (x.ins[k]?.getD default) (by unfold Nd.all;rw [List.append_assoc];exact List.mem_append_left _ (getD_memA (l:=x.ins) hk));have HEA:=Hd (show(namesD x.all).take x.all.length=namesD x.all from List.take_of_length_le (by unfold namesD;simp));have HEI:=Hd (show(namesD x.ins).take x.ins.length=namesD x.ins from List.take_of_length_le (by unfold namesD;simp));have HBX:=Hd (fun w d w1 h=>dc_facts w d w1 h);have hRP:∀ bv bd w',SetAt w' bv x.all.length (namesD x.all)→SetAt w' bd x.ins.length (namesD x.ins)→Below w.heap.size w w'→w.heap.size≤bv→bv<bd→RoomP E n c bn w x (.returned (.agg (rmA E n c bn bv bd))) w':=fun bv bd w' h1 h2 h3 h4 h5=>⟨bv,bd,rfl,h1,h2,h3,h4,h5⟩;have HRP:=Hd hRP;clear h hz hRP;generalize RoomP E n c bn w x=RP at *;unfold ndA at HF ⊢;unfold lists3 at HCC;unfold dcA at HBX;generalize namesD x.all=sa at *;generalize namesD x.ins=si at *;generalize hal:x.all=al at *;generalize hil:x.ins=il at *;generalize hna:al.length=na at *;generalize hni:il.length=ni at *;have HNA:=Hd hna;have HNI:=Hd hni;clear hal hil hna hni
 go_enter Tryz.func43,Tryz.ntmps43
 go_upto_region 2 with(fail)
 generalize hw1:w.alloc _=w1;obtain⟨hb1,hg1,hr1,hcell1⟩:=HF.out w1 hw1;have HC1:=Hd hcell1;have HR1:=Hd hr1;have HB1:=Hd hb1;generalize hw2:w1.alloc _=w2;obtain⟨hb2,hg2,hz2⟩:=box_new hw2;generalize hw3:w2.alloc _=w3;obtain⟨hb3,hg3,-⟩:=box_new hw3;have hs3:=set_new hw3;generalize hw4:w3.alloc _=w4;obtain⟨hb4,hg4,-⟩:=box_new hw4;have hs4:=set_new hw4;generalize hw5:w4.alloc _=w5;obtain⟨hb5,hg5,hz5⟩:=box_new hw5;rw [hg1] at hz2;rw [hg2,hg1] at hs3;rw [hg3,hg2,hg1] at hs4;rw [hg4,hg3,hg2,hg1] at hz5;have hb15:Below w1.heap.size w1 w5:=((hb2.trans (hb3.mono (by omega))).trans (hb4.mono (by omega))).trans (hb5.mono (by omega));have hb25:Below w2.heap.size w2 w5:=(hb3.trans (hb4.mono (by omega))).trans (hb5.mono (by omega));have hb35:Below w3.heap.size w3 w5:=hb4.trans (hb5.mono (by omega));have hz25:=(hb25.block (w.heap.size+1) (by omega)).trans hz2;have hs35:=hs3.below hb35;have hs45:=hs4.below hb5;have hB5:Below w.heap.size w w5:=hb1.trans (hb15.mono (by omega));have hg:w5.heap.size=w.heap.size+1+1+1+1+1:=by omega
 obtain⟨-,q1,q2,q3,-,-⟩:=Sx (hcell1 w5 hb15);simp only [Ya,Yb,Yc] at q1 q2 q3;have hb6:=(Below.refl w5.heap.size w5).alloc (Nat.le_refl _) (.cells #[.slice A1 ni c1,.slice A2 x.outs.length c2,.slice A3 x.vars.length c3] 32);have HC6:=Hd (HCC.out w5.heap.size _ ((hr1.below hb15).below hb6) (fun j=>by rw [World.cell?_alloc_new]) (by simp));have HB6:=Hd hb6;have HN:=Hd fun W (b:Below w5.heap.size w5 W) j=>hcell1 W (hb15.trans (b.mono (by omega))) j;have HZ5:=Hd hz5;have HZ2:=Hd hz25;have HS3:=Hd hs35;have HS4:=Hd hs45;have HB5:=Hd hB5;have HG5:=Hd hg;clear hw1 hw2 hw3 hw4 hw5 hcell1 hr1 hb1 hb2 hb3 hb4 hb5 hb15 hb25 hb35 hz2 hz5 hz25 hs3 hs4 hs35 hs45 hB5 HF HCC hb6 hg1 hg2 hg3 hg4 hg5;clear hg
 go_wp2_with fail
 refine HC6.out.mono ?_;rintro e w6 ⟨A,cA,rfl,hrd,hb6⟩;have hB56:Below w5.heap.size w5 w6:=HB6.out.trans (hb6.mono HB6.out.size);have HRD:=Hd hrd;have HN6:=Hd (HN.out w6 hB56);have HZ56:=Hd ((hB56.block (w.heap.size+1+1+1+1) (by rw [HG5.out];omega)).trans HZ5.out);have HZ26:=Hd ((hB56.block (w.heap.size+1) (by rw [HG5.out];omega)).trans HZ2.out);have HS36:=Hd (HS3.out.below hB56);have HS46:=Hd (HS4.out.below hB56);have HB06:=Hd (HB5.out.trans (hB56.mono HB5.out.size));have HG6:=Hd (show w.heap.size+1+1+1+1+1≤w6.heap.size by have:=hB56.size;rw [HG5.out] at this;exact this);clear hrd hb6 hB56 HN HZ5 HZ2 HS3 HS4 HB6 HB5 HG5 q1 q2 q3;clear HC6
 go_wp2_with fail
 go_loopw [26] (fun i wr=>∃ k:Nat,k≤na∧i=.int .i64 k∧SetAt wr (w.heap.size+1+1) k (sa.take k)∧Gd (w.heap.size+1+1) w6 wr) (fun i _=>na-(intOf i).toNat)
 case atStart=>exact⟨0,Nat.zero_le _,rfl,HS36.out,Gd.refl _⟩
 case round=>
  obtain⟨k,hk,rfl,hset,hgd⟩:=hrel;have HS:=Hd hset;have HGD:=Hd hgd;clear hset
  by_cases hlt:k<na
  · obtain⟨b,off,rfl,hb,d0,d1,d2,d3,d4,d5⟩:=dc_at (hgd.rdD HRD.out) hlt;have HZK:=Hd (HZA.out k hlt);have HSK:=Hd (HSA.out k hlt);clear hgd;generalize al[k]?.getD default=p at *
    go_upto_region 5 with(fail)
    generalize hw7:wr.alloc _=w7;obtain⟨hb7,hg7,hcell7⟩:=HBX.out wr p w7 hw7;have r2:=(hb7.cell (p:=⟨w.heap.size+1+1+1+1,2,none⟩) (Nat.lt_of_lt_of_le (by have:=HG6.out;show w.heap.size+1+1+1+1<w6.heap.size;omega) HGD.out.size)).trans ((HGD.out.cell (j:=2) (by have:=HG6.out;omega)).trans (blk_cell HZ56.out 2));have e0:=hcell7 w7 (Below.refl _ _) 0;simp only [Ya,Yb,Yc] at e0 r2;have HAD:=Hd (scAdd (w.heap.size+1+1) k (sa.take k) p.nm w7 (HS.out.below hb7) (by omega) HZK.out);have HG7:=Hd (HGD.out.trans (Gd.of_below hb7));clear hw7 hb7 hcell7 d0 d1 d2 d3 d4 d5 hg7
    go_wp2_with fail
    refine HAD.out.mono ?_;rintro e w8 ⟨rfl,hs8,hg8⟩;have HS8:=Hd hs8;have HG8:=Hd (HG7.out.trans hg8);clear hs8 hg8 e0 r2 HAD
    go_wp2_with fail
    go_roundw
    case rel=>exact⟨k+1,by omega,by go_num,by rw [HSK.out];exact HS8.out,HG8.out⟩
    case measure=>simp [intOf];omega
  · obtain rfl:k=na:=by omega
    have n1:=(hgd.cell (j:=1) (i:=w.heap.size) (by have:=HG6.out;omega)).trans (HN6.out 1);simp only [Ya,Yb,Yc] at n1;have HBW:=Hd (Gd.below HB06.out hgd HB06.out.size (by omega));clear hgd
    go_wp2_with fail
    generalize wr=wz at *
    go_loopw [39] (fun i wr=>∃ j:Nat,j≤ni∧i=.int .i64 j∧SetAt wr (w.heap.size+1+1+1) j (si.take j)∧Gd (w.heap.size+1+1+1) wz wr) (fun i _=>ni-(intOf i).toNat)
    case atStart=>exact⟨0,Nat.zero_le _,rfl,HS46.out.gd HGD.out (by omega),Gd.refl _⟩
    case round=>
     obtain⟨j,hj,rfl,hset2,hgd2⟩:=hrel;have HS2:=Hd hset2;have HGD2:=Hd hgd2;have HBR:=Hd (Gd.below HBW.out hgd2 HBW.out.size (by omega));clear hset2 hgd2
     by_cases hlt2:j<ni
     · obtain⟨b,off,rfl,hb,d0,d1,d2,d3,d4,d5⟩:=dc_at (HI.out.below HBR.out) hlt2;have HZK:=Hd (HZI.out j hlt2);have HSK:=Hd (HSI.out j hlt2);generalize il[j]?.getD default=p at *
       go_upto_region 10 with(fail)
       generalize hw7:wr.alloc _=w7;obtain⟨hb7,hg7,hcell7⟩:=HBX.out wr p w7 hw7
       have r3:=(hb7.cell (p:=⟨w.heap.size+1+1+1+1,3,none⟩) (Nat.lt_of_lt_of_le (Nat.lt_of_lt_of_le (by have:=HG6.out;show w.heap.size+1+1+1+1<w6.heap.size;omega) HGD.out.size) HGD2.out.size)).trans
        ((HGD2.out.cell (j:=3) (Nat.lt_of_lt_of_le (by have:=HG6.out;omega) HGD.out.size)).trans ((HGD.out.cell (j:=3) (by have:=HG6.out;omega)).trans (blk_cell HZ56.out 3)))
       have e0:=hcell7 w7 (Below.refl _ _) 0;simp only [Ya,Yb,Yc] at e0 r3;have HAD:=Hd (scAdd (w.heap.size+1+1+1) j (si.take j) p.nm w7 (HS2.out.below hb7) (by omega) HZK.out);have HG7:=Hd (HGD2.out.trans (Gd.of_below hb7));clear hw7 hb7 hcell7 d0 d1 d2 d3 d4 d5 hg7
       go_wp2_with fail
       refine HAD.out.mono ?_;rintro e w8 ⟨rfl,hs8,hg8⟩;have HS8:=Hd hs8;have HG8:=Hd (HG7.out.trans hg8);clear hs8 hg8 e0 r3 HAD
       go_wp2_with fail
       go_roundw
       case rel=>exact⟨j+1,by omega,by go_num,by rw [HSK.out];exact HS8.out,HG8.out⟩
       case measure=>simp [intOf];omega
     · obtain rfl:j=ni:=by omega
       have hlz:w.heap.size+1+1+1+1<wz.heap.size:=Nat.lt_of_lt_of_le (by have:=HG6.out;omega) HGD.out.size;have HV:=Hd (HGD2.out.blk (HGD.out.blk HZ26.out (by omega)) (by omega));have hR:∀ a,wr.cell? ⟨w.heap.size+1+1+1+1,a,none⟩=_:=fun a=>(HGD2.out.cell (j:=a) hlz).trans ((HGD.out.cell (j:=a) (by have:=HG6.out;omega)).trans (blk_cell HZ56.out a));obtain⟨r0,r1,r2,r3,-,-⟩:=Sx hR;simp only [Ya,Yb,Yc] at r0 r1 r2 r3;have HSA2:=Hd (show SetAt wr (w.heap.size+1+1) k sa by have:=HS.out.gd HGD2.out (by omega);rwa [HEA.out] at this);have HSI2:=Hd (show SetAt wr (w.heap.size+1+1+1) j si by have:=HS2.out;rwa [HEI.out] at this);clear hR hlz
       go_wp2_with (refine wpList_store_row rfl _ _ _ rfl (w.heap.size+1) _ rfl rfl _ _ HV.out rm_info rfl (by simp [Value.oneCell']) ?_)
       exact bodyPost_ret (res_rm (p:=6) rfl _ _ (w.heap.size+1) E n c bn (w.heap.size+1+1) (w.heap.size+1+1+1) rfl (setRow_heap _ _ _ _ _ _ HV.out)) rfl
        (HRP.out _ _ _ (HSA2.out.row (by omega) _) (HSI2.out.row (by omega) _) (below_setRow HBR.out (by omega) _) (by omega) (by omega))
end
section
open Go.RowKit Go.Shelf Go.Sort Go.BigFrame
attribute [local go_sem] Oper.semAt_some
def nsAt(l:List Qn) (k:Nat):List ByteArray:=(l[k]?.getD default).ns
def nmAt(l:List Qn) (k j:Nat):ByteArray:=(nsAt l k)[j]?.getD ByteArray.empty
def nmS(vs:List ByteArray) (D:Nat→List ByteArray) (l:List Qn) (k j:Nat):Int:=defineB vs (D k++(nsAt l k).take j) (nmAt l k j)
def EqsP(l:List Qn) (D:Nat→List ByteArray) (eS:Nat→Int) (bd:Nat) (w:World) (e:Ending) (w':World):Prop:=
 ∃ a er:Int,e=.returned (.tuple #[.int .i64 a,.int .i64 er])∧Gd bd w w' ∧
  ((∃ k,k<l.length∧(∀ j,j<k→eS j=0)∧eS k≠0∧a=(k:Nat)∧er=eS k)∨((∀ j,j<l.length→eS j=0)∧er=0∧SetAt w' bd 10000 (D l.length)))
theorem ns_snoc{l:List Qn}{k j:Nat}(h:j<(nsAt l k).length):(nsAt l k).take (j+1)=(nsAt l k).take j++[nmAt l k j]:=take_snocT h
def mkD(m:Nat):Deferred:={ target:=.collected m,args:=#[] }
def Fix(bd:Nat) (w:World) (rm:Array Value) (ms:List Nat) (W:World):Prop:=
 Gd bd w W∧W.heap[w.heap.size]?=some (.cells rm 88)∧Boxed W (w.heap.size+1) 28 (.int .i64 0)∧ms.Nodup∧∀ m,m∈ms→w.heap.size+1+1≤m∧W.heap[m]?=some (.deferred (some []))
section
variable {bd:Nat}{w W W':World}{rm:Array Value}{ms:List Nat}
theorem Fix.gd(h:Fix bd w rm ms W) (hd:bd<w.heap.size) (hg:Gd bd W W'):Fix bd w rm ms W' :=
 ⟨h.1.trans hg,hg.blk h.2.1 (by omega),hg.blk h.2.2.1 (by omega),h.2.2.2.1,fun m hm=>⟨(h.2.2.2.2 m hm).1,(hg.block (Array.getElem?_eq_some_iff.1 (h.2.2.2.2 m hm).2).1 (by have:=(h.2.2.2.2 m hm).1;omega)).trans (h.2.2.2.2 m hm).2⟩⟩
theorem Fix.below(h:Fix bd w rm ms W) (hd:bd<w.heap.size) (hb:Below W.heap.size W W'):Fix bd w rm ms W':=h.gd hd (Gd.of_below hb)
theorem Fix.set0(h:Fix bd w rm ms W):Fix bd w rm ms (W.setCell ⟨w.heap.size+1,0,none⟩ (.int .i64 0)):=
 ⟨h.1.new ((Below.refl (w.heap.size+1) W).setCell (p:=⟨w.heap.size+1,0,none⟩) (Nat.le_refl _) _) (by omega),(Below.heap_setCell _ _ _ _ (by simp)).trans h.2.1,h.2.2.1.set _,h.2.2.2.1,
  fun m hm=>⟨(h.2.2.2.2 m hm).1,(Below.heap_setCell _ _ _ _ (by have:=(h.2.2.2.2 m hm).1;simp;omega)).trans (h.2.2.2.2 m hm).2⟩⟩
def Out(bd:Nat) (w:World) (ms:List Nat) (W:World):Prop:=Gd bd w W∧ms.Nodup∧∀ m,m∈ms→w.heap.size+1+1≤m∧W.heap[m]?=some (.deferred (some []))
theorem Fix.bad(h:Fix bd w rm ms W) (v:Value):Out bd w ms (W.setCell ⟨w.heap.size+1,0,none⟩ v):=
 ⟨h.1.new ((Below.refl (w.heap.size+1) W).setCell (p:=⟨w.heap.size+1,0,none⟩) (Nat.le_refl _) _) (by omega),h.2.2.2.1,
  fun m hm=>⟨(h.2.2.2.2 m hm).1,(Below.heap_setCell _ _ _ _ (by have:=(h.2.2.2.2 m hm).1;simp;omega)).trans (h.2.2.2.2 m hm).2⟩⟩
theorem Fix.ok(h:Fix bd w rm ms W):Out bd w ms W:=⟨h.1,h.2.2.2⟩
theorem Out.below(h:Out bd w ms W) (hb:Below W.heap.size W W') (hs:w.heap.size≤W.heap.size):Out bd w ms W' :=
 ⟨h.1.new hb hs,h.2.1,fun m hm=>⟨(h.2.2 m hm).1,(hb.block m (Array.getElem?_eq_some_iff.1 (h.2.2 m hm).2).1).trans (h.2.2 m hm).2⟩⟩
theorem Fix.mark(h:Fix bd w rm ms W){m:Nat}(hm:w.heap.size+1+1≤m) (hn:m∉ms) (hd:W.heap[m]?=some (.deferred (some []))):Fix bd w rm (m::ms) W:=
 ⟨h.1,h.2.1,h.2.2.1,List.nodup_cons.2 ⟨hn,h.2.2.2.1⟩,fun x hx=>by
  rcases List.mem_cons.1 hx with rfl | hx
  · exact⟨hm,hd⟩
  · exact h.2.2.2.2 x hx⟩
theorem ownFrom_grown{β:Type}{B:Nat}{X0:World}{row0:Option Nat}(hB:X0.heap.size≤B):OwnFrom B (fun(_:β) W=>X0.grownBy W row0):=fun s X Y row hs hg hr=>World.grownBy.andThen hs hg (fun j e=>.inl (Nat.le_trans hB (hr j e).1))
theorem SetAt.blkeq{b m:Nat}{l:List ByteArray}(h:SetAt W b m l) (e:W'.heap[b]?=W.heap[b]?):SetAt W' b m l:=by
 obtain⟨es,clock,hb,r⟩:=h;exact⟨es,clock,e.trans hb,r⟩
theorem putObj_below{lo m:Nat}(hm:lo≤m) (W:World) (o:Obj):Below lo W (W.putObj m o):=⟨rfl,rfl,rfl,by simp [World.putObj],fun k hk=>World.putObj_heap_other (by omega)⟩
theorem leaves_marks{F:Fence}{n:Nat}{P:Program}{fn:Func}{tmps:Array Value}{R:Ending→World→Prop}{lo:Nat}:∀ (ms:List Nat) (W:World),ms.Nodup→(∀ m,m∈ms→lo≤m∧W.heap[m]?=some (.deferred (some []))) →
 (∀ W',Below lo W W'→LeavesInM F n P fn tmps R [] .returning W')→LeavesInM F n P fn tmps R (ms.map mkD) .returning W
 | [],W,_,_,h=>h W (Below.refl _ _)
 | m::ms,W,hn,hm,h=>by
  have h1:=hm m (by simp);obtain⟨hn1,hn2⟩:=List.nodup_cons.1 hn;have hb:=putObj_below h1.1 W (.deferred none);refine⟨by simp,.inl ⟨m,W.putObj m (.deferred none),rfl,run_takeDeferred h1.2,?_⟩⟩;refine leaves_marks ms _ hn2 (fun x hx=>⟨(hm x (by simp [hx])).1,?_⟩) fun W' h'=>h W' (hb.trans h');refine(World.putObj_heap_other (fun e=>?_)).trans (hm x (by simp [hx])).2;subst e;exact hn1 hx
end
theorem scEqs_in(n:Nat) (hn6:6≤n) (E:Option Addr) (nE cE bn bv bd mn mv:Nat) (es:List En) (nds vs:List ByteArray) (l:List Qn) (D:Nat→List ByteArray) (eS:Nat→Int) (pS:Ex→Bool) (Q:Option Addr) (cq:Nat) (w0 w:World)
 (hb0:Below w0.heap.size w0 w) (hbd:w0.heap.size≤bd) (hE:RdE w0 E nE es) (hQ:RdQ w0 Q l.length l) (hN:SetAt w bn mn nds) (hV:SetAt w bv mv vs) (hD:SetAt w bd 1000 (D 0)) (hnd:bn≠bd) (hvd:bv≠bd)
 (hl:l.length≤30) (hns:∀ k,k<l.length→(nsAt l k).length≤20∧∀ j,j<(nsAt l k).length→(nmAt l k j).size≤maxLen) (hx:∀ k,k<l.length→∀ z∈partsX (l[k]?.getD default).x,z.s.size≤maxLen∧leadsB vs nds es z=pS z)
 (hDk:∀ k,k<l.length→D (k+1)=D k++nsAt l k)
 (hhit:∀ k,k<l.length→∀ j,j<(nsAt l k).length→(∀ a,a<j→nmS vs D l k a=0)→nmS vs D l k j≠0→eS k=nmS vs D l k j)
 (hpart:∀ k,k<l.length→(∀ a,a<(nsAt l k).length→nmS vs D l k a=0)→eS k=if(partsX (l[k]?.getD default).x).all pS=true then 0 else 5):
 CallsIn Fence.wide n Tryz.prog 74 #[.agg (rmA E nE cE bn bv bd),.slice Q l.length cq] w (EqsP l D eS bd w):=by
 have h1:1≤n:=by omega
 have HF:=Hd fun w1 hw=>rm_facts w E nE cE bn bv bd w1 hw;have HFN:=Hd fun w1 hw=>box_new (w:=w) (w1:=w1) (o:=.cells (rmA E nE cE bn bv bd) 88) hw;have HQ:=Hd hQ;have HN:=Hd hN;have HV:=Hd hV;have HD:=Hd hD;have HB0:=Hd hb0;have HNS:=Hd hns;have HX:=Hd hx;have HDK:=Hd hDk;have HHIT:=Hd hhit;have HPART:=Hd hpart;have HEP:=Hd (show ∀ e w',(∃ a er:Int,e=.returned (.tuple #[.int .i64 a,.int .i64 er])∧Gd bd w w'∧((∃ k,k<l.length∧(∀ j,j<k→eS j=0)∧eS k≠0∧a=(k:Nat)∧er=eS k)∨((∀ j,j<l.length→eS j=0)∧er=0∧SetAt w' bd 10000 (D l.length))))→EqsP l D eS bd w e w' from fun _ _ h=>h);have HDEF:=Hd fun md ds s w1 (a:SetAt w1 bv mv vs) (b:SetAt w1 bd md ds) hm hs=>scDefine E nE cE bn bv bd mv md vs ds s w1 a b hvd hm hs;have HLD:=Hd fun x A ca B cb w1 (a:Below w0.heap.size w0 w1) (hn:SetAt w1 bn mn nds) (hv:SetAt w1 bv mv vs) (hx:rdX w1 x A B) hs=>scLeads E nE cE bn bv bd mn mv es nds vs x A ca B cb w1 (hE.below a) hn hv hx hs;have HEA:=Hd exEach;have HST:=Hd each_stops;clear hb0 hE hQ hN hV hD hns hx hDk hhit hpart;generalize EqsP l D eS bd w=EP at *;generalize hlen:l.length=len at *;have HLEN:=Hd hlen;clear hlen;unfold rmA at HF HFN HDEF HLD ⊢;refine callsIn_of_wp_marks Tryz.func74 rfl trivial ?_ rfl;simp only [Tryz.ntmps74,List.size_toArray,List.length_cons,List.length_nil,Nat.reduceAdd,Nat.reduceSub,Array.replicate_succ,Array.replicate_zero,List.push_toArray,List.append_toArray,List.nil_append,List.cons_append];refine wpIn_wide.2 ?_
 go_wp2_with fail
 go_step3
 go_wp2_with fail
 go_step3
 go_wp2_with fail
 have hbw:bd<w.heap.size:=HD.out.lt;generalize hw1:w.alloc _=w1;obtain⟨hb1,hg1,hz1⟩:=HFN.out w1 hw1;generalize hw2:w1.alloc _=w2;obtain⟨hb2,hg2,hz2⟩:=box_new hw2;rw [hg1] at hz2;have HFX:=Hd (show Fix bd w (rmA E nE cE bn bv bd) [] w2 from⟨Gd.of_below (hb1.trans (hb2.mono hb1.size)),(hb2.block _ (by omega)).trans hz1,hz2,List.nodup_nil,fun m hm=>by cases hm⟩);have HD2:=Hd (HD.out.below (hb1.trans (hb2.mono hb1.size)));clear hw1 hw2 hb1 hb2 hz1 hz2 HF HFN hg1 hg2;refine wp_loop (fun a' w'=>∃ (u6 u8 u9 u11 u12 u15 u16 u17 u18 u19 u20 u21 u22 u23 u24 u25 u26 u27 u28 u29 u30 u31 u32 u33 u34 u35 u36 u37 u38 u39 u40 u41 u42:Value) (ds:List Deferred),(∃ (k:Nat) (at_:Int) (ms:List Nat),k≤len∧u15=.int .i64 k∧u6=.int .i64 at_∧(∀ a,a<k→eS a=0)∧Fix bd w (rmA E nE cE bn bv bd) ms w'∧SetAt w' bd (1000+20*k) (D k)∧ds=ms.map mkD)∧a'={ tmps:=List.toArray (.agg #[.slice E nE cE,.map (some bn),.map (some bv),.map (some bd)]::.slice Q len cq::.pointer (some ⟨w.heap.size,0,none⟩)::undef::.int .i64 0::.int .i64 0::u6::.pointer (some ⟨w.heap.size+1,0,none⟩)::u8::u9::undef::u11::u12::.slice Q len cq::.int .i64 len::u15::u16::u17::u18::u19::u20::u21::u22::u23::u24::u25::u26::u27::u28::u29::u30::u31::u32::u33::u34::u35::u36::u37::u38::u39::u40::u41::u42::undef::undef::[]),defers:=ds }) (fun a' _=>len-(intOf (a'.tmps.getD 15 undef)).toNat) ?_ ?_
 · (repeat apply Exists.intro)
   refine⟨⟨0,-1,[],Nat.zero_le _,rfl,rfl,fun a ha=>absurd ha (by omega),HFX.out,HD2.out,rfl⟩,rfl⟩
 rintro a' wr ⟨u6,u8,u9,u11,u12,u15,u16,u17,u18,u19,u20,u21,u22,u23,u24,u25,u26,u27,u28,u29,u30,u31,u32,u33,u34,u35,u36,u37,u38,u39,u40,u41,u42,ds,⟨k,at_,ms,hk,rfl,rfl,hto,hfx,hset,rfl⟩,rfl⟩;have HTO:=Hd hto;have HFK:=Hd hfx;have HSK:=Hd hset;have hbw0:=Gd.below HB0.out hfx.1 HB0.out.size hbd;have HBW:=Hd hbw0;clear hto hfx hset HFX HD2
 by_cases hlt:k<len
 · obtain⟨b,off,B,cB,A,ca,B',cb,rfl,hb,⟨hrt,hrx⟩,f0,f1,f2,f3,f4,f5,f6⟩:=qn_at HQ.out hlt;have d0:=(hbw0.cell (p:=⟨b,off+k*7,none⟩) hb).trans f0;have d1:=(hbw0.cell (p:=⟨b,off+k*7+1,none⟩) hb).trans f1;have d2:=(hbw0.cell (p:=⟨b,off+k*7+2,none⟩) hb).trans f2;have d3:=(hbw0.cell (p:=⟨b,off+k*7+3,none⟩) hb).trans f3;have d4:=(hbw0.cell (p:=⟨b,off+k*7+4,none⟩) hb).trans f4;have d5:=(hbw0.cell (p:=⟨b,off+k*7+5,none⟩) hb).trans f5;have d6:=(hbw0.cell (p:=⟨b,off+k*7+6,none⟩) hb).trans f6;have HRT:=Hd hrt;have HNK:=Hd (HNS.out k hlt);have HXK:=Hd (HX.out k hlt);have HDKK:=Hd (HDK.out k hlt);have HHK:=Hd (HHIT.out k hlt);have HPK:=Hd (HPART.out k hlt);have HRX:=Hd hrx;have HMM:=Hd (show(l[k]?.getD default).ns.length=(nsAt l k).length from rfl);have HNSN:=Hd fun j hj=>ns_snoc (l:=l) (k:=k) (j:=j) hj;have HNM:=Hd fun j=>(show(l[k]?.getD default).ns[j]?.getD ByteArray.empty=nmAt l k j from rfl);clear hrt hrx f0 f1 f2 f3 f4 f5 f6 hbw0;rw [HMM.out] at d0;generalize hmm:(nsAt l k).length=m at *;have hml:m≤20:=HNK.out.1;generalize l[k]?.getD default=q at *;have HRTM:=Hd (show RdT w0 B m q.ns by have:=HRT.out;rwa [HMM.out] at this);have hwr:w.heap.size+1<wr.heap.size:=HFK.out.2.2.1.lt;clear HRT
   go_wp2_with fail
   generalize hv1:wr.alloc _=v1;obtain⟨hc1,hg1,hz1⟩:=box_new hv1;have HF1:=Hd (HFK.out.below hbw hc1);have HS1:=Hd (HSK.out.below hc1);have HZ9:=Hd hz1;clear hv1 hc1 hg1 hz1 d0 d1 d2 d3 d4 d5 d6;generalize hg9:wr.heap.size=g9 at *;have HG9:=Hd hg9;clear hg9;generalize wr=wo at *
   go_loopw [24] (fun i wr=>∃ j:Nat,j≤m∧i=.int .i64 j∧(∀ a,a<j→nmS vs D l k a=0)∧Fix bd w (rmA E nE cE bn bv bd) ms wr∧wr.heap[g9]?=some (Obj.cells #[.slice B m cB,.int .i64 q.x.k,.int .i64 q.x.n,.string q.x.s,.int .i64 q.x.op,.slice A q.x.arms.length ca,.slice B' q.x.subs.length cb] 54)∧SetAt wr bd (1000+20*k+j) (D k++(nsAt l k).take j)) (fun i _=>m-(intOf i).toNat)
   case atStart=>exact⟨0,Nat.zero_le _,rfl,fun a ha=>absurd ha (by omega),HF1.out,HZ9.out,by simpa using HS1.out⟩
   case round=>
    obtain⟨j,hj,rfl,htoj,hfj,hzj,hsj⟩:=hrel;have HTJ:=Hd htoj;have HFJ:=Hd hfj;have HZJ:=Hd hzj;have HSJ:=Hd hsj;have hbj:=Gd.below HB0.out hfj.1 HB0.out.size hbd;have HBJ:=Hd hbj;have hvj:=HV.out.gd hfj.1 hvd;have HVJ:=Hd hvj;clear HF1 HS1 HZ9
    by_cases hjm:j<m
    · obtain⟨b2,off2,rfl,hb2,hc2⟩:=HRTM.out.at_ hjm;have e1:=(hbj.cell (p:=⟨b2,off2+j,none⟩) hb2).trans (hc2 j hjm);rw [HNM.out] at e1;have HSN:=Hd (HNSN.out j hjm);have HDF:=Hd (HDEF.out (1000+20*k+j) (D k++(nsAt l k).take j) (nmAt l k j) wr hvj hsj (by omega) (HNK.out.2 j hjm));have HVV:=Hd (show nmS vs D l k j=defineB vs (D k++(nsAt l k).take j) (nmAt l k j) from rfl);have HHJ:=Hd (HHK.out j hjm HTJ.out);have r0:=blk_cell hfj.2.1 0;have r1:=blk_cell hfj.2.1 1;have r2:=blk_cell hfj.2.1 2;have r3:=blk_cell hfj.2.1 3;simp only [rmA,List.getElem?_toArray,List.getElem?_cons_zero,List.getElem?_cons_succ] at r0 r1 r2 r3;clear htoj hfj hzj hsj hbj hvj hc2;generalize defineB vs (D k++(nsAt l k).take j) (nmAt l k j)=v at *;generalize nmAt l k j=nm at e1 HDF HSN
      go_wp2_with fail
      refine HDF.out.mono ?_;rintro e5 w5 ⟨rfl,hg5,hs5⟩;have hf5:=HFJ.out.gd hbw hg5;have HF5:=Hd hf5;have HS5:=Hd hs5;have HZ5:=Hd (hg5.blk HZJ.out (by have:=HFK.out.1.size;rw [HG9.out] at this;omega));have c7:=hf5.2.2.1.cell;have f7:=hf5.2.2.1.frozen;have c8:=(hf5.2.2.1.set (.int .i64 v)).cell;clear hg5 hs5 hf5 r0 r1 r2 r3 e1 HDF
      by_cases hv0:v=0
      · subst hv0;have HSS:=Hd (HS5.out rfl);have HTN:=Hd (to_next (P:=fun a=>nmS vs D l k a=0) HTJ.out HVV.out);clear HS5
        go_wp2_with fail
        go_roundw
        case rel=>exact⟨j+1,by omega,by go_num,HTN.out,HF5.out.set0,(Below.heap_setCell _ _ _ _ (by simp;omega)).trans HZ5.out,by rw [HSN.out,← List.append_assoc];exact World.ownsMap.setCell HSS.out (by simp;omega) _⟩
        case measure=>simp [intOf];omega
      · have hvb:(v != 0)=true:=bne_iff_ne.2 hv0;have HV0:=Hd hv0;clear hv0;have HO:=Hd (HF5.out.bad (.int .i64 v));have HEV:=Hd (show eS k=v by have:=HHJ.out (by rw [HVV.out];exact HV0.out);rw [HVV.out] at this;exact this);clear HHJ HVV
        go_wp2_with fail
        generalize w5.setCell _ _=w6 at *
        go_quiet (fail)
        go_wp2_with fail
        have HO7:=Hd (HO.out.below (below_drewN (Below.refl _ _) nq) HO.out.1.size);rw [Exit.noGoto_ret];refine leaves_marks (lo:=w.heap.size+1+1) ms _ HO7.out.2.1 HO7.out.2.2 fun W' hW'=>?_;exact⟨.tuple #[.int .i64 (k:Nat),.int .i64 v],by simp [results,Tryz.f74,go_sem],HEP.out _ _ ⟨(k:Nat),v,rfl,HO7.out.1.new hW' (by omega),.inl ⟨k,hlt,HTO.out,by rw [HEV.out];exact HV0.out,rfl,HEV.out.symm⟩⟩⟩
    · obtain rfl:j=m:=by omega
      have e1:=blk_cell hzj 1;have e2:=blk_cell hzj 2;have e3:=blk_cell hzj 3;have e4:=blk_cell hzj 4;have e5:=blk_cell hzj 5;have e6:=blk_cell hzj 6;simp only [Ya,Yb,Yc] at e1 e2 e3 e4 e5 e6;have HEC:=Hd (HEA.out q.x A ca B' cb wr (HRX.out.below hbj));unfold exA at HEC;clear htoj hfj hzj hsj hbj hvj
      go_wp2_with fail
      refine HEC.out.mono ?_;rintro e w' ⟨rfl,rfl⟩;clear e1 e2 e3 e4 e5 e6 HEC
      go_wp2_with fail
      generalize hW0:wr.alloc _=W0;obtain⟨hbW,hgW,hbx⟩:=box_new hW0;have HF0:=Hd (HFJ.out.below hbw hbW);have HS0:=Hd (HSJ.out.below hbW);have HBW0:=Hd (HBJ.out.trans (hbW.mono HBJ.out.size));have HN0:=Hd ((HN.out.gd HFJ.out.1 hnd).below hbW);have HV0:=Hd (HVJ.out.below hbW);have HGW:=Hd hgW;have hlo:w.heap.size+1+1≤W0.heap.size:=by have:=HF0.out.2.2.1.lt;omega
      have HMS:=Hd fun m hm=>(Array.getElem?_eq_some_iff.1 (HF0.out.2.2.2.2 m hm).2).1;have HTK:=Hd (show(nsAt l k).take j=nsAt l k from List.take_of_length_le (by omega));clear hW0 hbW hgW
      refine wpIn_wide.1 (wpIn_rangeFunc_ownH rfl h1 (gf:=139) (lb:=#[.pointer (some ⟨wr.heap.size,0,none⟩)]) rfl trivial (enters_of Tryz.func139 (by kernel_rfl) rfl)
       (HST.out (n-1) wr.heap.size q.x A ca B' cb w0 W0 HRX.out HBW0.out hbx) (fun h k=>h.trans k) (kpE_b HBW0.out.size) (Below.refl _ _) (fun _=>rfl)
       (fun(pre:List (PtIn w0 q.x)) W=>(∀ z∈exs pre,pS z=true)∧Below W0.heap.size W0 W)
       (fun c (pre:List (PtIn w0 q.x)) W=>(c=Code.exit 0∧∃ z∈exs pre,pS z=false)∧Boxed W (w.heap.size+1) 28 (.int .i64 5)∧W0.grownBy W (some (w.heap.size+1)))
       (OwnFrom.and (ownFrom_pure _ _) (ownFrom_below (Nat.le_refl _) (Nat.le_refl _)))
       (fun c=>OwnFrom.and (ownFrom_pure _ _) (OwnFrom.and (Own.from (boxed_own _ _ (fun _=>_)) _) (ownFrom_grown (Nat.le_refl _))))
       ⟨fun z hz=>by simp [exs] at hz,Below.refl _ _⟩
       (fun(y:PtIn w0 q.x) a' W=>∃ Bx:Nat,W.heap[Bx]?=some (Obj.cells (exA y.1.x y.1.A y.1.ca y.1.B y.1.cb) 52)∧a'={ tmps:=List.toArray (.agg #[.slice E nE cE,.map (some bn),.map (some bv),.map (some bd)]::.slice (some ⟨b,off,none⟩) len cq::.pointer (some ⟨w.heap.size,0,none⟩)::undef::.int .i64 0::.int .i64 0::.int .i64 k::.pointer (some ⟨w.heap.size+1,0,none⟩)::.int .i64 k::.pointer (some ⟨g9,0,none⟩)::undef::u11::.pointer (some ⟨Bx,0,none⟩)::.slice (some ⟨b,off,none⟩) len cq::.int .i64 len::.int .i64 k::.bool true::.int .i64 k::.pointer (some ⟨b,off+k*7,none⟩)::.agg #[.slice B j cB,.int .i64 q.x.k,.int .i64 q.x.n,.string q.x.s,.int .i64 q.x.op,.slice A q.x.arms.length ca,.slice B' q.x.subs.length cb]::.int .i64 k::.pointer (some ⟨g9,0,none⟩)::.slice B j cB::.int .i64 j::.int .i64 j::.bool false::u26::u27::u28::u29::u30::u31::u32::u33::.pointer (some ⟨g9,1,none⟩)::.agg #[.int .i64 q.x.k,.int .i64 q.x.n,.string q.x.s,.int .i64 q.x.op,.slice A q.x.arms.length ca,.slice B' q.x.subs.length cb]::.func (.func 139) #[] #[.pointer (some ⟨wr.heap.size,0,none⟩)]::.agg (exA y.1.x y.1.A y.1.ca y.1.B y.1.cb)::u38::u39::u40::u41::u42::undef::undef::[]),defers:=[] })
       (fun y a' s X Y row hs hg hr=>by obtain⟨Bx,h2,h3⟩:=hs;exact⟨Bx,(blkOwn (β:=Unit) Bx _ _).from W0.heap.size () X Y row h2 hg hr,h3⟩)
       ?assign ?body ?done ?stop)
      case assign=>
       rintro lp pre y W K ⟨hp,hB⟩ hK;have hz:∀ v:Value,(#[37]:Array Tmp).zip #[v]=#[(37,v)]:=fun v=>by first | rfl | simp
       simp only [encP,hz];unfold exA at hK ⊢
       gi_wp2
       exact hK _ _ ((KeepsOthers.alloc _ _).from _) (KpE.of_below ((Below.refl _ _).alloc (Nat.le_refl _) _) (Nat.le_trans HBW0.out.size hB.size)) ⟨hp,hB.alloc hB.size _⟩ ⟨W.heap.size,World.alloc_heap_new _ _,rfl⟩
      case body=>
       rintro lp pre y a' W hlp _ ⟨hp,hB⟩ ⟨Bx,hbxx,rfl⟩ hlt2;have hBW:=HBW0.out.trans (hB.mono HBW0.out.size);have hFW:=HF0.out.below hbw hB;have hLW:=HLD.out y.1.x y.1.A y.1.ca y.1.B y.1.cb W hBW (HN0.out.below hB) (HV0.out.below hB) (y.2.1.below hBW) (HXK.out _ y.2.2).1;rw [(HXK.out _ y.2.2).2] at hLW;have HLW:=Hd hLW;have HFW:=Hd hFW;have HBB:=Hd hB;have HPP:=Hd hp;have HSZ:=Hd (Nat.le_trans HBW0.out.size hB.size);have HEY:=Hd (show exs (pre++[y])=exs pre++[y.1.x] by rw [exs_app];rfl);have r0:=blk_cell hFW.2.1 0;have r1:=blk_cell hFW.2.1 1;have r2:=blk_cell hFW.2.1 2;have r3:=blk_cell hFW.2.1 3;have q0:=blk_cell hbxx 0;have q1:=blk_cell hbxx 1;have q2:=blk_cell hbxx 2;have q3:=blk_cell hbxx 3;have q4:=blk_cell hbxx 4;have q5:=blk_cell hbxx 5;have hd1:1≤n-1-1:=by omega
       clear hLW hFW hB hp hBW hbxx;unfold exA at q0 q1 q2 q3 q4 q5 HLW ⊢;unfold rmA at r0 r1 r2 r3;simp only [Ya,Yb,Yc] at r0 r1 r2 r3 q0 q1 q2 q3 q4 q5
       cases hps:pS y.1.x with
       | true=>
        rw [hps] at HLW
        have HAL:=Hd (show ∀ z∈exs (pre++[y]),pS z=true from fun z hz=>by
         rw [HEY.out] at hz;rcases List.mem_append.1 hz with h | h
         · exact HPP.out z h
         · obtain rfl:z=y.1.x:=by simpa using h
           exact hps)
        gi_wp2_with fail
        refine⟨trivial,(CallsIn.inRound lp (callsIn_wide.2 HLW.out)).mono ?_⟩;rintro e w3 ⟨rfl,hb3⟩;have HB3:=Hd hb3;clear hb3
        gi_wp2_with fail
        exact⟨keepsFromBelow HB3.out,KpE.of_below HB3.out HSZ.out,HAL.out,HBB.out.trans (HB3.out.mono HBB.out.size)⟩
       | false=>
        rw [hps] at HLW;have HEX:=Hd (show ∃ z∈exs (pre++[y]),pS z=false from⟨y.1.x,by rw [HEY.out];simp,hps⟩)
        gi_wp2_with fail
        refine⟨trivial,(CallsIn.inRound lp (callsIn_wide.2 HLW.out)).mono ?_⟩;rintro e w3 ⟨rfl,hb3⟩;have HB3:=Hd hb3;have hbr:=(HFW.out.below hbw hb3).2.2.1;have c7:=hbr.cell;have f7:=hbr.frozen;have HBR:=Hd hbr;clear hb3 hbr
        gi_wp2_with fail
        exact⟨(keepsFromBelow HB3.out).trans ((KeepsOthers.setCell _ _ _).from _),⟨rfl,HEX.out⟩,HBR.out.set _,((grownBy_of_below' (HBB.out.trans (HB3.out.mono HBB.out.size))).but _).trans (grownBy_setCell' _ _ _)⟩
      case done=>
       rintro D2 ys W hD2 hys ⟨hp,hB⟩ hK;have HALL:=Hd (show eS k=0 by rw [HPK.out HTJ.out,if_pos];rw [List.all_eq_true];intro z hz;exact hp z (by rw [hys];exact hz));have HFM:=Hd ((HF0.out.below hbw hB).mark (Nat.le_trans hlo hD2) (fun h=>absurd (HMS.out _ h) (by omega)) hK);have HSW:=Hd (show SetAt W bd (1000+20*(k+1)) (D (k+1)) by have:=HS0.out.below hB;rw [HTK.out] at this;rw [HDKK.out];exact this.mono (by omega));have HTN:=Hd (to_next (P:=fun a=>eS a=0) HTO.out HALL.out);clear hp hB hK hys
       go_wp2_with fail
       refine⟨?_,?_⟩
       · (repeat apply Exists.intro)
         refine⟨⟨k+1,k,D2::ms,by omega,by go_num,rfl,HTN.out,HFM.out,HSW.out,rfl⟩,rfl⟩
       · show len-((k:Int)+1).toNat<len-((k:Int)).toNat
         omega
      case stop=>
       rintro D2 c pre W hD2 hpre ⟨⟨rfl,hbad⟩,hb5,hg5⟩ hK
       have HEV:=Hd (show eS k=5 by
        rw [HPK.out HTJ.out,if_neg];intro h;obtain⟨z,hz,hn⟩:=hbad;have:=List.all_eq_true.1 h z (hpre.subset hz);rw [hn] at this
        cases this)
       have HO:=Hd (show Out bd w (D2::ms) W from by
        have hF:=HF0.out;refine⟨⟨World.grownBy.andThen hF.1.1 hg5 (fun j e=>.inl (by cases e;omega)),fun p hp=>?_⟩,List.nodup_cons.2 ⟨fun h=>absurd (HMS.out _ h) (by omega),hF.2.2.2.1⟩,fun x hx=>?_⟩
        · refine(World.cell?_of_block (hg5.block p.block (Nat.lt_of_lt_of_le hp hF.1.size) (fun e=>?_))).trans (hF.1.2 p hp);injection e with e;omega
        · rcases List.mem_cons.1 hx with rfl | hx
          · exact⟨Nat.le_trans hlo hD2,hK⟩
          · exact⟨(hF.2.2.2.2 x hx).1,(hg5.block x (HMS.out x hx) (fun e=>by injection e with e;have:=(hF.2.2.2.2 x hx).1;omega)).trans (hF.2.2.2.2 x hx).2⟩)
       have c7:=hb5.cell;clear hb5 hg5 hK;refine wpIn_wide.2 ?_
       go_wp2_with fail
       go_quiet (fail)
       go_wp2_with fail
       have HO7:=Hd (HO.out.below (below_drewN (Below.refl _ _) nq) HO.out.1.size);rw [Exit.noGoto_ret];refine leaves_marks (lo:=w.heap.size+1+1) (D2::ms) _ HO7.out.2.1 HO7.out.2.2 fun W' hW'=>?_;exact⟨.tuple #[.int .i64 (k:Nat),.int .i64 5],by simp [results,Tryz.f74,go_sem],HEP.out _ _ ⟨(k:Nat),5,rfl,HO7.out.1.new hW' (by omega),.inl ⟨k,hlt,HTO.out,by rw [HEV.out];decide,rfl,HEV.out.symm⟩⟩⟩
 · obtain rfl:k=len:=by omega
   have c7:=HFK.out.2.2.1.cell;have HO:=Hd HFK.out.ok;have HSK2:=Hd (HSK.out.mono (m':=10000) (by omega))
   go_wp2_with fail
   go_quiet (fail)
   go_wp2_with fail
   rw [Exit.noGoto_ret];refine leaves_marks (lo:=w.heap.size+1+1) ms _ (HO.out.below (below_drewN (Below.refl _ _) nq) HO.out.1.size).2.1 (HO.out.below (below_drewN (Below.refl _ _) nq) HO.out.1.size).2.2 fun W' hW'=>?_;have hS:=HSK2.out.below (below_drewN (Below.refl _ _) nq);exact⟨.tuple #[.int .i64 at_,.int .i64 0],by simp [results,Tryz.f74,go_sem],HEP.out _ _ ⟨at_,0,rfl,(HO.out.below (below_drewN (Below.refl _ _) nq) HO.out.1.size).1.new hW' (by omega),.inr ⟨HTO.out,rfl,hS.blkeq (hW'.block bd (by omega))⟩⟩⟩
theorem scEqs(E:Option Addr) (nE cE bn bv bd mn mv:Nat) (es:List En) (nds vs:List ByteArray) (l:List Qn) (D:Nat→List ByteArray) (eS:Nat→Int) (pS:Ex→Bool) (Q:Option Addr) (cq:Nat) (w0 w:World)
 (hb0:Below w0.heap.size w0 w) (hbd:w0.heap.size≤bd) (hE:RdE w0 E nE es) (hQ:RdQ w0 Q l.length l) (hN:SetAt w bn mn nds) (hV:SetAt w bv mv vs) (hD:SetAt w bd 1000 (D 0)) (hnd:bn≠bd) (hvd:bv≠bd)
 (hl:l.length≤30) (hns:∀ k,k<l.length→(nsAt l k).length≤20∧∀ j,j<(nsAt l k).length→(nmAt l k j).size≤maxLen) (hx:∀ k,k<l.length→∀ z∈partsX (l[k]?.getD default).x,z.s.size≤maxLen∧leadsB vs nds es z=pS z)
 (hDk:∀ k,k<l.length→D (k+1)=D k++nsAt l k)
 (hhit:∀ k,k<l.length→∀ j,j<(nsAt l k).length→(∀ a,a<j→nmS vs D l k a=0)→nmS vs D l k j≠0→eS k=nmS vs D l k j)
 (hpart:∀ k,k<l.length→(∀ a,a<(nsAt l k).length→nmS vs D l k a=0)→eS k=if(partsX (l[k]?.getD default).x).all pS=true then 0 else 5):
 Calls Tryz.prog 74 #[.agg (rmA E nE cE bn bv bd),.slice Q l.length cq] w (EqsP l D eS bd w):=
 callsIn_wide.1 (scEqs_in 6 (Nat.le_refl _) E nE cE bn bv bd mn mv es nds vs l D eS pS Q cq w0 w hb0 hbd hE hQ hN hV hD hnd hvd hl hns hx hDk hhit hpart)
end
section
open Go.RowKit Go.Sort Go.BigFrame
def GoodN(p:Pg) (i:Nat):Prop:=TinyN (ndAt p i)∧portsB (ndAt p i)=true∧onceS (namesD (ndAt p i).all)=true∧∀ k,k<(ndAt p i).eqs.length→∀ z∈partsX ((ndAt p i).eqs[k]?.getD default).x,partX z=true
theorem good_of{p:Pg}{i:Nat}(ht:TinyP p) (h0:checkN p=0) (hi:i<p.ns.length):GoodN p i:=by
 have hx:ndAt p i∈p.ns:=getD_memA hi;unfold checkN rightN onceN at h0
 split at h0 <;> try (rename_i he;exact absurd h0 he)
 split at h0 <;> try (cases h0;done)
 split at h0 <;> try (cases h0;done)
 split at h0 <;> try (cases h0;done)
 split at h0 <;> try (cases h0;done)
 rename_i hr
 split at h0 <;> try (cases h0;done)
 rename_i ho
 have h1:=List.all_eq_true.1 hr _ hx;simp only [Bool.and_eq_true] at ho;have h2:=List.all_eq_true.1 ho.1 _ hx;unfold nodeB at h1;simp only [Bool.and_eq_true] at h1;refine⟨ht.2.2 i hi,h1.1.1.1.2,h2,fun k hk z hz=>?_⟩;have h3:=List.all_eq_true.1 h1.1.1.2 _ (getD_memA (l:=(ndAt p i).eqs) hk);unfold eqB at h3;simp only [Bool.and_eq_true] at h3;have h4:=h3.1.2;unfold rightX at h4;simp only [Bool.and_eq_true] at h4;exact List.all_eq_true.1 h4.2 z hz
def NodeP(p:Pg) (i bd:Nat) (w:World) (e:Ending) (w':World):Prop:=∃ a er:Int,e=.returned (.tuple #[.int .i64 a,.int .i64 er])∧NodeR p i a er∧Gd bd w w'
theorem scNode(p:Pg) (i:Nat) (E:Option Addr) (ec bn bv bd mn mv:Nat) (A1:Option Addr) (c1:Nat) (A2:Option Addr) (c2:Nat) (A3:Option Addr) (c3:Nat) (A4:Option Addr) (c4:Nat) (w0 w:World)
 (hb0:Below w0.heap.size w0 w) (hbd:w0.heap.size≤bd) (hE:RdE w0 E p.es.length p.es) (hr:rdN w0 (ndAt p i) A1 A2 A3 A4) (hN:SetAt w bn mn ((p.ns.take i).map Nd.nm)) (hV:SetAt w bv mv (namesD (ndAt p i).all)) (hD:SetAt w bd 1000 (namesD (ndAt p i).ins)) (hnd:bn≠bd) (hvd:bv≠bd) (hg:GoodN p i):
 Calls Tryz.prog 44 #[.agg (rmA E p.es.length ec bn bv bd),.agg (ndA (ndAt p i) A1 c1 A2 c2 A3 c3 A4 c4)] w (NodeP p i bd w):=by
 have hmk:∀ fn first cap w,(Instr.makeFunc fn first cap).run Tryz.prog w=.ok (.func fn first cap) w:=fun _ _ _ _=>rfl
 have hok:=hg.1.ok;have HB0:=Hd hb0;have HR:=Hd hr;have HD:=Hd hD;have HF:=Hd fun w1 hw=>box_new (w:=w) (w1:=w1) (o:=.cells (rmA E p.es.length ec bn bv bd) 88) hw;have HF2:=Hd fun w w1 hw=>box_new (w:=w) (w1:=w1) (o:=.cells (ndA (ndAt p i) A1 c1 A2 c2 A3 c3 A4 c4) 36) hw
 have HU:=Hd fun w1 (a:Below w.heap.size w w1)=>slHasDcF 73 (.agg (rmA E p.es.length ec bn bv bd)) (fun _ _=>rfl) (offB (namesD (ndAt p i).all) p.es) A3 (ndAt p i).vars.length c3 (ndAt p i).vars w1 (hr.2.2.1.below (hb0.trans (a.mono hb0.size)))
  (fun d hd W hW=>scUntimed E p.es.length ec bn bv bd mv p.es (namesD (ndAt p i).all) d W (hE.below (hb0.trans ((a.trans (hW.mono a.size)).mono hb0.size))) (hV.below (a.trans (hW.mono a.size))) (hok.2.1 d (by unfold Nd.all;exact List.mem_append_right _ hd)).2.1)
 have HEQ:=Hd fun w1 (a:Below w.heap.size w w1)=>scEqs E p.es.length ec bn bv bd mn mv p.es ((p.ns.take i).map Nd.nm) (namesD (ndAt p i).all) (ndAt p i).eqs (dsTo (ndAt p i)) (eqS p i) (partS p i) A4 c4 w0 w1 (hb0.trans (a.mono hb0.size)) hbd hE hr.2.2.2 (hN.below a) (hV.below a) (by rw [dsTo_zero];exact hD.below a) hnd hvd
  hg.1.2.2.2.1 (fun k hk=>⟨(hg.1.2.2.2.2.2 k hk).1,fun j hj=>(Nat.le_trans ((hg.1.2.2.2.2.2 k hk).2.2 j hj) (by unfold maxLen;omega))⟩)
  (fun k hk z hz=>⟨Nat.le_trans (tiny_shortX (hg.1.2.2.2.2.2 k hk).2.1 z hz).1 (by unfold maxLen;omega),leads_eq (hg.2.2.2 k hk z hz)⟩)
  (fun k hk=>dsTo_succ hk)
  (fun k hk j hj hn he=>by
   have hq:∀ a,nameS (ndAt p i) k ((ndAt p i).eqs[k]?.getD default).ns a=nmS (namesD (ndAt p i).all) (dsTo (ndAt p i)) (ndAt p i).eqs k a:=fun a=>nameS_eq _ _ _ _;rw [← hq];exact eqS_hit hj (fun a ha=>(hq a).trans (hn a ha)) (by rw [hq];exact he))
  (fun k hk hn=>by
   have hq:∀ a,nameS (ndAt p i) k ((ndAt p i).eqs[k]?.getD default).ns a=nmS (namesD (ndAt p i).all) (dsTo (ndAt p i)) (ndAt p i).eqs k a:=fun a=>nameS_eq _ _ _ _;exact eqS_parts (fun a ha=>(hq a).trans (hn a ha)))
 have HO:=Hd fun w1 (b:Below w0.heap.size w0 w1) (hs:SetAt w1 bd 10000 (dsTo (ndAt p i) (ndAt p i).eqs.length))=>slHasDcF 75 (.agg (rmA E p.es.length ec bn bv bd)) (fun _ _=>rfl) (fun d=>!(dsTo (ndAt p i) (ndAt p i).eqs.length).any (nmB d.nm)) A2 (ndAt p i).outs.length c2 (ndAt p i).outs w1 (hr.2.1.below b)
  (fun d hd W hW=>scUndefined E p.es.length ec bn bv bd 10000 _ d W (hs.below hW) (hok.2.1 d (by unfold Nd.all;exact List.mem_append_left _ (List.mem_append_right _ hd))).1)
 have HO2:=Hd fun w1 (b:Below w0.heap.size w0 w1) (hs:SetAt w1 bd 10000 (dsTo (ndAt p i) (ndAt p i).eqs.length))=>slHasDcF 75 (.agg (rmA E p.es.length ec bn bv bd)) (fun _ _=>rfl) (fun d=>!(dsTo (ndAt p i) (ndAt p i).eqs.length).any (nmB d.nm)) A3 (ndAt p i).vars.length c3 (ndAt p i).vars w1 (hr.2.2.1.below b)
  (fun d hd W hW=>scUndefined E p.es.length ec bn bv bd 10000 _ d W (hs.below hW) (hok.2.1 d (by unfold Nd.all;exact List.mem_append_right _ hd)).1)
 have HOFF:=Hd fun h=>nodeR_off (p:=p) (i:=i) h;have HEQR:=Hd fun k h hk hn he=>nodeR_eq (p:=p) (i:=i) (k:=k) hg.2.1 h hk hn he;have HEND:=Hd fun b h hn hb=>nodeR_end (p:=p) (i:=i) hg.2.1 hg.2.2.1 h hn (b:=b) hb;have HNP:=Hd (show ∀ (a er:Int) w',NodeR p i a er→Gd bd w w'→NodeP p i bd w (.returned (.tuple #[.int .i64 a,.int .i64 er])) w' from fun a er w' h1 h2=>⟨a,er,rfl,h1,h2⟩);have hbw:=hD.lt;clear hb0 hE hr hN hV hD hg hok;unfold EqsP at HEQ;generalize NodeP p i bd w=NP at *;generalize NodeR p i=NR at *;generalize eqS p i=eS at *;generalize hoff:(ndAt p i).vars.any (offB (namesD (ndAt p i).all) p.es)=boff at *;generalize ho1:((ndAt p i).outs.any fun d=>!(dsTo (ndAt p i) (ndAt p i).eqs.length).any (nmB d.nm))=b1 at *;generalize ho2:((ndAt p i).vars.any fun d=>!(dsTo (ndAt p i) (ndAt p i).eqs.length).any (nmB d.nm))=b2 at *;generalize dsTo (ndAt p i) (ndAt p i).eqs.length=ds at *;clear hoff ho1 ho2;unfold rmA at HF HU HEQ HO HO2 ⊢;unfold ndA at HF2 ⊢;generalize p.es.length=ne at *;generalize ndAt p i=x at *;generalize x.ins.length=n1 at *;generalize x.outs.length=n2 at *;generalize x.vars.length=n3 at *;generalize x.eqs.length=n4 at *
 go_enter Tryz.func44,Tryz.ntmps44
 go_upto_region 1 with(fail)
 generalize hw1:w.alloc _=w1;obtain⟨hb1,hg1,hz1⟩:=HF.out w1 hw1;generalize hw2:w1.alloc _=w2;obtain⟨hb2,hg2,hz2⟩:=HF2.out w1 w2 hw2;rw [hg1] at hz2;have hz12:=(hb2.block w.heap.size (by omega)).trans hz1;have HZ1:=Hd hz12;have HZ2:=Hd hz2;have HB2:=Hd (hb1.trans (hb2.mono hb1.size));have HG2:=Hd (show w.heap.size+1<w2.heap.size by omega);have q0:=blk_cell hz12 0;have q1:=blk_cell hz12 1;have q2:=blk_cell hz12 2;have q3:=blk_cell hz12 3;have d3:=blk_cell hz2 3;simp only [Ya,Yb,Yc] at q0 q1 q2 q3 d3;have HU2:=Hd (HU.out w2 HB2.out);clear hw1 hw2 hb1 hb2 hz1 hz2 hz12 HF HF2 HU hg1 hg2
 cases boff with
 | true=>
  go_wp2_with fail
  refine HU2.out.mono ?_;rintro e w3 ⟨rfl,hb3⟩;have HB3:=Hd (HB2.out.trans (hb3.mono HB2.out.size));clear hb3 HU2 q0 q1 q2 q3 d3
  go_wp2_with fail
  exact HNP.out _ _ _ (HOFF.out (by first | trivial | rfl)) (Gd.of_below HB3.out)
 | false=>
  go_wp2_with fail
  refine HU2.out.mono ?_;rintro e w3 ⟨rfl,hb3⟩;have HB3:=Hd (HB2.out.trans (hb3.mono HB2.out.size));have z1:=(hb3.block w.heap.size (by have:=HG2.out;omega)).trans HZ1.out;have z2:=(hb3.block (w.heap.size+1) HG2.out).trans HZ2.out;have HG3:=Hd (Nat.lt_of_lt_of_le HG2.out hb3.size);have HZ13:=Hd z1;have HZ23:=Hd z2;have r0:=blk_cell z1 0;have r1:=blk_cell z1 1;have r2:=blk_cell z1 2;have r3:=blk_cell z1 3;have e4:=blk_cell z2 4;simp only [Ya,Yb,Yc] at r0 r1 r2 r3 e4;have HE3:=Hd (HEQ.out w3 HB3.out);clear hb3 HU2 q0 q1 q2 q3 d3 z1 z2 HEQ HZ1 HZ2
  go_wp2_with fail
  refine HE3.out.mono ?_;rintro e w4 ⟨a,er,rfl,hg4,hres⟩;have HG4:=Hd ((Gd.of_below HB3.out).trans hg4);rcases hres with⟨k,hk,hto,hne,rfl,rfl⟩|⟨hto,rfl,hs4⟩
  · have hvb:(eS k != 0)=true:=bne_iff_ne.2 hne;have HRR:=Hd (HEQR.out k (by first | trivial | rfl) hk hto hne);clear hg4 hto hne r0 r1 r2 r3 e4 HE3;generalize eS k=v at *
    go_wp2_with fail
    exact HNP.out _ _ _ HRR.out HG4.out
  · have z1:=hg4.blk HZ13.out (by omega);have z2:=hg4.blk HZ23.out (by omega);have hbw4:=Gd.below HB0.out HG4.out HB0.out.size hbd;have HBW4:=Hd hbw4;have HS4:=Hd hs4;have HTO:=Hd hto;have s0:=blk_cell z1 0;have s1:=blk_cell z1 1;have s2:=blk_cell z1 2;have s3:=blk_cell z1 3;have f2:=blk_cell z2 2;have HZ14:=Hd z1;have HZ24:=Hd z2;have HSZ:=Hd (Nat.lt_of_lt_of_le HG3.out hg4.size);simp only [Ya,Yb,Yc] at s0 s1 s2 s3 f2;have HO4:=Hd (HO.out w4 hbw4 hs4);clear hg4 hto hs4 z1 z2 hbw4 r0 r1 r2 r3 e4 HE3 HO
    cases b1 with
    | true=>
     have HRR:=Hd (HEND.out true (by first | trivial | rfl) HTO.out (by first | trivial | rfl))
     go_wp2_with fail
     refine HO4.out.mono ?_;rintro e w5 ⟨rfl,hb5⟩;have HG5:=Hd (HG4.out.trans (Gd.of_below hb5));clear hb5 s0 s1 s2 s3 f2 HO4
     go_wp2_with fail
     exact HNP.out _ _ _ HRR.out HG5.out
    | false=>
     go_wp2_with fail
     refine HO4.out.mono ?_;rintro e w5 ⟨rfl,hb5⟩;have HG5:=Hd (HG4.out.trans (Gd.of_below hb5));have z1:=(hb5.block w.heap.size (by have:=HSZ.out;omega)).trans HZ14.out;have z2:=(hb5.block (w.heap.size+1) HSZ.out).trans HZ24.out;have t0:=blk_cell z1 0;have t1:=blk_cell z1 1;have t2:=blk_cell z1 2;have t3:=blk_cell z1 3;have g3:=blk_cell z2 3;simp only [Ya,Yb,Yc] at t0 t1 t2 t3 g3;have HO5:=Hd (HO2.out w5 (HBW4.out.trans (hb5.mono HBW4.out.size)) (HS4.out.below hb5));clear hb5 s0 s1 s2 s3 f2 HO4 z1 z2 HO2
     cases b2 with
     | true=>
      have HRR:=Hd (HEND.out true (by first | trivial | rfl) HTO.out (by first | trivial | rfl))
      go_wp2_with fail
      refine HO5.out.mono ?_;rintro e w6 ⟨rfl,hb6⟩;have HG6:=Hd (HG5.out.trans (Gd.of_below hb6));clear hb6 t0 t1 t2 t3 g3 HO5
      go_wp2_with fail
      exact HNP.out _ _ _ HRR.out HG6.out
     | false=>
      have HRR:=Hd (HEND.out false (by first | trivial | rfl) HTO.out (by first | trivial | rfl))
      go_wp2_with fail
      refine HO5.out.mono ?_;rintro e w6 ⟨rfl,hb6⟩;have HG6:=Hd (HG5.out.trans (Gd.of_below hb6));clear hb6 t0 t1 t2 t3 g3 HO5
      go_wp2_with fail
      exact HNP.out _ _ _ HRR.out HG6.out
end
end Go.Proofs.YtkbpdoomhfkngaaGreat
