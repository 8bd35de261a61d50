/- Parts of the proof: ScK, ScL, ScR, ScS. Conditions: each theorem's own. -/
import Derived.Test.YtkbpdoomhfkngaaGreatR14
import Derived.Test.YtkbpdoomhfkngaaGreatR17
namespace Go.Proofs.YtkbpdoomhfkngaaGreat
set_option linter.unusedVariables false
set_option linter.unusedSimpArgs false
set_option maxRecDepth 100000
set_option maxHeartbeats 40000000
section
open Go.RowKit Go.Sort Go.Maps Go.WideMaps
def setS(l:List ByteArray):DataW Unit:=setOf (.agg []) (l.map fun s=>Lit.string s.data.toList)
theorem setS_nil:setS []=.map []:=by simp [setS,setOf]
theorem setS_snoc(l:List ByteArray) (s:ByteArray):setS (l++[s])=(setS l).put (.string s.data.toList) (.agg []):=by
 unfold setS;rw [List.map_append];exact setOf_snoc _ _ _
theorem has_setS(l:List ByteArray) (s:ByteArray):Maps.has (setS l) (.string s.data.toList)=l.any (nmB s):=by
 unfold setS;rw [has_setOf _ _ _ (fun y hy=>by obtain⟨_,_,rfl⟩:=List.mem_map.1 hy;trivial),any_string,Bool.eq_iff_iff,decide_eq_true_eq,List.any_eq_true,List.mem_map];exact⟨fun⟨a,h,e⟩=>⟨a,h,nmB_eq.2 e⟩,fun⟨a,h,e⟩=>⟨a,h,nmB_eq.1 e⟩⟩
def SetAt(W:World) (b m:Nat) (l:List ByteArray):Prop:=W.ownsMap Tryz.prog 9 unitElem b m (setS l)
section
variable {W W':World}{b d m:Nat}{l:List ByteArray}
theorem SetAt.lt(h:SetAt W b m l):b<W.heap.size:=World.ownsMap.lt h
theorem SetAt.kept(h:SetAt W b m l){row:Option Nat}(hg:W.grownBy W' row) (hne:some b≠row):SetAt W' b m l:=World.ownsMap.kept h hg hne
theorem SetAt.below(h:SetAt W b m l) (hb:Below W.heap.size W W'):SetAt W' b m l:=h.kept (grownBy_of_below' hb) (by simp)
theorem SetAt.mono(h:SetAt W b m l){m':Nat}(hm:m≤m'):SetAt W b m' l:=World.ownsMap.mono h hm
theorem SetAt.new(W:World):SetAt (W.alloc (.map #[] 0)) W.heap.size 0 []:=by unfold SetAt;rw [setS_nil];exact World.ownsMap_made _ _ _ _
theorem SetAt.no_cell(h:SetAt W b m l){p:Addr}(hp:p.block=b):W.cell? p=none:=by
 obtain⟨es,clock,hb,-⟩:=h;unfold World.cell?;rw [hp,hb]
def Gd(d:Nat) (W W':World):Prop:=W.grownBy W' (some d)∧∀ p:Addr,p.block<W.heap.size→W'.cell? p=W.cell? p
theorem Gd.refl(W:World):Gd d W W:=⟨World.grownBy.refl _ _,fun _ _=>rfl⟩
theorem Gd.of_below(h:Below W.heap.size W W'):Gd d W W':=⟨(grownBy_of_below' h).but _,fun _ hp=>h.cell hp⟩
theorem Gd.trans{A B C:World}(h:Gd d A B) (k:Gd d B C):Gd d A C:=⟨World.grownBy.trans h.1 k.1,fun p hp=>(k.2 p (Nat.lt_of_lt_of_le hp (World.grownBy.size h.1))).trans (h.2 p hp)⟩
theorem Gd.size(h:Gd d W W'):W.heap.size≤W'.heap.size:=World.grownBy.size h.1
theorem Gd.below{w:World}{n:Nat}(hw:Below n w W) (h:Gd d W W') (hn:n≤W.heap.size) (hd:n≤d):Below n w W':=hw.grown h.1 hn (fun j e=>by cases e;exact hd)
theorem Gd.block(h:Gd d W W'){i:Nat}(hi:i<W.heap.size) (hne:i≠d):W'.heap[i]?=W.heap[i]?:=World.grownBy.block h.1 i hi (fun e=>hne (by injection e))
theorem Gd.blk(h:Gd d W W'){i:Nat}{cs:Array Value}{T:TypeId}(e:W.heap[i]?=some (Obj.cells cs T)) (hne:i≠d):W'.heap[i]?=some (Obj.cells cs T):=(h.block (Array.getElem?_eq_some_iff.1 e).1 hne).trans e
theorem Gd.cell(h:Gd d W W'){i j:Nat}(hi:i<W.heap.size):W'.cell? ⟨i,j,none⟩=W.cell? ⟨i,j,none⟩:=h.2 ⟨i,j,none⟩ hi
theorem Gd.new{w:World}{n:Nat}(h:Gd d w W) (hb:Below n W W') (hn:w.heap.size≤n):Gd d w W' :=
 ⟨⟨hb.os.trans h.1.os,hb.tape.trans h.1.tape,hb.output.trans h.1.output,Nat.le_trans h.size hb.size,fun i hi hne=>(hb.block i (Nat.lt_of_lt_of_le hi hn)).trans (h.1.block i hi hne)⟩,
  fun p hp=>(hb.cell (Nat.lt_of_lt_of_le hp hn)).trans (h.2 p hp)⟩
theorem SetAt.gd(h:SetAt W b m l) (hg:Gd d W W') (hne:b≠d):SetAt W' b m l:=h.kept hg.1 (fun e=>hne (by injection e))
theorem Gd.rdD{A:Option Addr}{n:Nat}{l:List Dc}(h:Gd d W W') (r:RdD W A n l):RdD W' A n l:=r.keep h.size h.2
end
theorem blk_cell{W:World}{i:Nat}{cs:Array Value}{T:TypeId}(e:W.heap[i]?=some (Obj.cells cs T)) (j:Nat):W.cell? ⟨i,j,none⟩=cs[j]?:=by simp [World.cell?,e]
theorem scAdd(b m:Nat) (l:List ByteArray) (s:ByteArray) (w:World) (h:SetAt w b m l) (hm:m<1000000) (hs:s.size≤maxLen):
 Calls Tryz.prog 45 #[.map (some b),.string s] w fun e w'=>e=.returned (.tuple #[])∧SetAt w' b (m+1) (l++[s])∧Gd b w w':=by
 have hkey:keyOf Tryz.prog 9 (.string s)=some (.string s.data.toList):=keyOf_string_mk Tryz.underlying9 hs;have hmm:m<maxLen:=by unfold maxLen;omega
 have HS:=Hd (setS_snoc l s);have h0:=h
 have HG:=Hd (fun w' (h:w.grownBy w' (some b)) (hs':SetAt w' b (m+1) (l++[s]))=>(show Gd b w w' from⟨h,fun p hp=>by
  by_cases e:p.block=b
  · rw [h0.no_cell e,hs'.no_cell e]
  · exact World.cell?_of_block (h.block p.block hp (fun e'=>e (by injection e')))⟩))
 have hown:w.ownsMap Tryz.prog 9 unitElem b m (setS l):=h;unfold SetAt;rw [HS.out];have HSS:=Hd HS.out;clear h HS h0
 go_enter Tryz.func45,Tryz.ntmps45
 go_wp2_with (at_mapUpdate;refine wpList_mapUpdate_own _ rfl _ _ _ 85 rfl 9 117 keyLaw Tryz.underlying85 (unitElem (H:=Unit)) b m _ rfl hown hmm _ _ _ rfl rfl hkey _ [] unitElem_mk ?_;intro w1 hown1 hgrow1)
 have HW:=Hd hown1;have HG2:=Hd (HG.out _ hgrow1 (by unfold SetAt;rw [HSS.out];exact hown1));clear hown1 hgrow1
 go_wp2_with fail
 go_end0
 exact⟨rfl,HW.out,HG2.out⟩
theorem scHas(b m:Nat) (l:List ByteArray) (s:ByteArray) (w:World) (h:SetAt w b m l) (hs:s.size≤maxLen):
 Calls Tryz.prog 109 #[.map (some b),.string s] w fun e w'=>e=.returned (.bool (l.any (nmB s)))∧Below w.heap.size w w':=by
 have hkey:keyOf Tryz.prog 9 (.string s)=some (.string s.data.toList):=keyOf_string_mk Tryz.underlying9 hs;have hhas:=has_setS l s;have hown:w.ownsMap Tryz.prog 9 unitElem b m (setS l):=h;clear h;generalize l.any (nmB s)=out at *
 go_enter Tryz.func109,Tryz.ntmps109
 go_wp2_with (at_lookup;refine wpList_lookup_own_unit _ rfl _ _ 85 rfl 9 117 keyLaw Tryz.underlying85 (zeroUnit _) b m _ rfl hown _ _ rfl hkey ?_)
 go_ret
 refine⟨rfl,?_⟩;exact(Below.refl _ _).alloc (Nat.le_refl _) _
end
section
open Go.RowKit Go.Sort Go.BigFrame
theorem scArm(A:Option Addr) (n c:Nat) (es:List En) (s:ByteArray) (w:World) (hE:RdE w A n es):
 Calls Tryz.prog 63 #[.slice A n c,.string s] w fun e w'=>e=.returned (armW (armR es s))∧Below w.heap.size w w':=by
 have HC:=Hd fun w1 (hb:Below w.heap.size w w1)=>tyCtor A n c es s w1 (hE.below hb);have HA:=Hd (show armR es s=if(s.toList==[116,114,117,101])=true then some (2,0,1) else if(s.toList==[102,97,108,115,101])=true then some (2,0,0) else(findE es s).map fun p=>(3,(p.1:Int),(p.2.1:Int)) from rfl);generalize armR es s=ar at *;clear hE
 cases h1:(s.toList==[116,114,117,101]) with
 | true=>
  have HE:=Hd (show ar=some (2,0,1) by rw [HA.out,if_pos h1]);rw [HE.out]
  go_enter Tryz.func63,Tryz.ntmps63
  go_upto_region 1 with(fail)
  generalize hw0:w.alloc _=w0;obtain⟨hb0,hR,hg0⟩:=f3_box hw0;have HB0:=Hd hb0;have HR:=Hd hR;clear hb0 hR hw0
  go_wp2_with (refine wpList_store_row rfl _ _ _ rfl (w.heap.size) _ rfl rfl _ _ HR.out ty3_info rfl (by simp [Value.oneCell']) ?_)
  exact bodyPost_ret (res_ty3 (p:=4) (u:=5) (v:=6) rfl _ _ w.heap.size 2 0 0 rfl (HR.out.set 2 0 0)) rfl ⟨rfl,below_set3 HB0.out⟩
 | false=>
  cases h2:(s.toList==[102,97,108,115,101]) with
  | true=>
   have HE:=Hd (show ar=some (2,0,0) by rw [HA.out,if_neg (by rw [h1];simp),if_pos h2]);rw [HE.out]
   go_enter Tryz.func63,Tryz.ntmps63
   go_upto_region 1 with(fail)
   generalize hw0:w.alloc _=w0;obtain⟨hb0,hR,hg0⟩:=f3_box hw0;have HB0:=Hd hb0;have HR:=Hd hR;clear hb0 hR hw0
   go_wp2_with (refine wpList_store_row rfl _ _ _ rfl (w.heap.size) _ rfl rfl _ _ HR.out ty3_info rfl (by simp [Value.oneCell']) ?_)
   exact bodyPost_ret (res_ty3 (p:=4) (u:=5) (v:=6) rfl _ _ w.heap.size 2 0 0 rfl (HR.out.set 2 0 0)) rfl ⟨rfl,below_set3 HB0.out⟩
  | false=>
   have HE:=Hd (show ar=(findE es s).map fun p=>(3,(p.1:Int),(p.2.1:Int)) by rw [HA.out,if_neg (by rw [h1];simp),if_neg (by rw [h2];simp)]);unfold ctorV at HC;rw [HE.out];clear HA HE
   cases hf:findE es s with
   | none=>
    rw [hf] at HC;simp only [Option.map_none,Option.getD_none,Option.isSome_none] at HC
    go_enter Tryz.func63,Tryz.ntmps63
    go_upto_region 1 with(fail)
    generalize hw0:w.alloc _=w0;obtain⟨hb0,hR,hg0⟩:=f3_box hw0;have HB0:=Hd hb0;have HR:=Hd hR;clear hb0 hR hw0
    go_wp2_with fail
    refine(HC.out _ HB0.out).mono ?_;rintro e w1 ⟨rfl,hb1⟩;have HR1:=Hd (HR.out.below hb1);have HB1:=Hd (HB0.out.trans (hb1.mono HB0.out.size));clear hb1
    go_wp2_with (refine wpList_store_row rfl _ _ _ rfl (w.heap.size) _ rfl rfl _ _ HR1.out ty3_info rfl (by simp [Value.oneCell']) ?_)
    exact bodyPost_ret (res_ty3 (p:=4) (u:=5) (v:=6) rfl _ _ w.heap.size 0 0 0 rfl (HR1.out.set 0 0 0)) rfl ⟨rfl,below_set3 HB1.out⟩
   | some q=>
    rw [hf] at HC;simp only [Option.map_some,Option.getD_some,Option.isSome_some] at HC;rw [show(some q).map (fun p:Pl=>((3:Int),(p.1:Int),(p.2.1:Int)))=some (3,(q.1:Int),(q.2.1:Int)) from rfl];generalize q.1=qa at *;generalize q.2.1=qb at *
    go_enter Tryz.func63,Tryz.ntmps63
    go_upto_region 1 with(fail)
    generalize hw0:w.alloc _=w0;obtain⟨hb0,hR,hg0⟩:=f3_box hw0;have HB0:=Hd hb0;have HR:=Hd hR;clear hb0 hR hw0
    go_wp2_with fail
    refine(HC.out _ HB0.out).mono ?_;rintro e w1 ⟨rfl,hb1⟩;have HR1:=Hd (HR.out.below hb1);have HB1:=Hd (HB0.out.trans (hb1.mono HB0.out.size));clear hb1
    go_wp2_with (refine wpList_store_row rfl _ _ _ rfl (w.heap.size) _ rfl rfl _ _ HR1.out ty3_info rfl (by simp [Value.oneCell']) ?_)
    exact bodyPost_ret (res_ty3 (p:=4) (u:=5) (v:=6) rfl _ _ w.heap.size 3 qa 0 rfl (HR1.out.set 3 qa 0)) rfl ⟨rfl,below_set3 HB1.out⟩
def rmA(E:Option Addr) (n c bn bv bd:Nat):Array Value:=#[.slice E n c,.map (some bn),.map (some bv),.map (some bd)]
theorem rm_facts(w:World) (E:Option Addr) (n c bn bv bd:Nat) (w1:World) (h:w.alloc (.cells (rmA E n c bn bv bd) 88)=w1):
 Below w.heap.size w w1∧w1.heap.size=w.heap.size+1∧∀ w',Below w1.heap.size w1 w'→∀ j,w'.cell? ⟨w.heap.size,j,none⟩=(rmA E n c bn bv bd)[j]?:=by
 subst h;refine⟨(Below.refl _ _).alloc (Nat.le_refl _) _,by simp,fun w' hb j=>?_⟩;rw [hb.cell (p:=⟨w.heap.size,j,none⟩) (by simp),World.cell?_alloc_new]
theorem scNoArm(E:Option Addr) (n c bn bv bd:Nat) (es:List En) (s:ByteArray) (w:World) (hE:RdE w E n es):
 Calls Tryz.prog 110 #[.agg (rmA E n c bn bv bd),.string s] w fun e w'=>e=.returned (.bool (!armV es s))∧Below w.heap.size w w':=by
 have HF:=Hd fun w1 hw=>rm_facts w E n c bn bv bd w1 hw;have HC:=Hd fun w1 (a:Below w.heap.size w w1)=>scArm E n c es s w1 (hE.below a);have HV:=Hd (show(armR es s).isSome=armV es s from rfl);clear hE;unfold armW f3A at HC;generalize (armR es s).isSome=ok at *;generalize ((armR es s).map (·.1)).getD 0=r1 at *;generalize ((armR es s).map (·.2.1)).getD 0=r2 at *;generalize ((armR es s).map (·.2.2)).getD 0=r3 at *;unfold rmA at HF ⊢
 go_enter Tryz.func110,Tryz.ntmps110
 go_upto_region 1 with(fail)
 generalize hw1:w.alloc _=w1;obtain⟨hb1,hg,hcell⟩:=HF.out w1 hw1;have HB1:=Hd hb1;have q0:=hcell w1 (Below.refl _ _) 0;simp only [Ya,Yb,Yc] at q0;have HD:=Hd (HC.out w1 hb1);clear hw1 hcell hb1 HF HC hg
 go_wp2_with fail
 refine HD.out.mono ?_;rintro e w2 ⟨rfl,hb2⟩;have HB2:=Hd (HB1.out.trans (hb2.mono HB1.out.size));clear hb2 q0 HD
 go_wp2_with fail
 go_ret
 exact⟨ret_boolS (congrArg not HV.out),below_box HB2.out rfl⟩
theorem scUndefined(E:Option Addr) (n c bn bv bd m:Nat) (ds:List ByteArray) (d:Dc) (w:World) (hd:SetAt w bd m ds) (hs:d.nm.size≤maxLen):
 Calls Tryz.prog 75 #[.agg (rmA E n c bn bv bd),.agg (dcA d)] w fun e w'=>e=.returned (.bool (!ds.any (nmB d.nm)))∧Below w.heap.size w w':=by
 have HF:=Hd fun w1 hw=>rm_facts w E n c bn bv bd w1 hw;have HF2:=Hd fun w w1 hw=>dc_facts w d w1 hw;have HC:=Hd fun w1 (a:Below w.heap.size w w1)=>scHas bd m ds d.nm w1 (hd.below a) hs;clear hd hs;generalize ds.any (nmB d.nm)=out at *;unfold rmA at HF ⊢;unfold dcA at HF2 ⊢
 go_enter Tryz.func75,Tryz.ntmps75
 go_upto_region 1 with(fail)
 generalize hw1:w.alloc _=w1;obtain⟨hb1,hg,hcell⟩:=HF.out w1 hw1;generalize hw2:w1.alloc _=w2;obtain⟨hb2,hg2,hcell2⟩:=HF2.out w1 w2 hw2;rw [hg] at hcell2;have HB2:=Hd (hb1.trans (hb2.mono hb1.size));have q3:=hcell w2 hb2 3;have d0:=hcell2 w2 (Below.refl _ _) 0;simp only [Ya,Yb,Yc] at q3 d0;have HD:=Hd (HC.out w2 HB2.out);clear hw1 hw2 hcell hcell2 hb1 hb2 HF HF2 HC
 go_wp2_with fail
 refine HD.out.mono ?_;rintro e w3 ⟨rfl,hb3⟩;have HB3:=Hd (HB2.out.trans (hb3.mono HB2.out.size));clear hb3 q3 d0 HD
 go_wp2_with fail
 go_ret
 exact⟨rfl,HB3.out⟩
end
section
open Go.RowKit Go.Sort Go.BigFrame
theorem scUntimed(E:Option Addr) (n c bn bv bd m:Nat) (es:List En) (vs:List ByteArray) (d:Dc) (w:World) (hE:RdE w E n es) (hd:SetAt w bv m vs) (hs:d.on.size≤maxLen):
 Calls Tryz.prog 73 #[.agg (rmA E n c bn bv bd),.agg (dcA d)] w fun e w'=>e=.returned (.bool (offB vs es d))∧Below w.heap.size w w':=by
 have HF:=Hd fun w1 hw=>rm_facts w E n c bn bv bd w1 hw;have HF2:=Hd fun w w1 hw=>dc_facts w d w1 hw;have HC:=Hd fun w1 (a:Below w.heap.size w w1)=>scHas bv m vs d.on w1 (hd.below a) hs;have HA:=Hd fun w1 (a:Below w.heap.size w w1)=>scNoArm E n c bn bv bd es d.ct w1 (hE.below a);have HO:=Hd (show offB vs es d=(!(d.on.toList==[]) && (!vs.any (nmB d.on) || !armV es d.ct)) from rfl);clear hd hs hE;generalize offB vs es d=out at *;generalize vs.any (nmB d.on)=bh at *;generalize armV es d.ct=ba at *;unfold rmA at HF HA ⊢;unfold dcA at HF2 ⊢;generalize d.on=on at *;generalize d.ct=ct at *
 cases h1:(on.toList==[]) with
 | true=>
  have h2:on.toList.isEmpty=true:=by rw [← h1];cases on.toList <;> rfl
  have HR:=Hd (show out=false by rw [HO.out,h1];rfl)
  go_enter Tryz.func73,Tryz.ntmps73
  go_upto_region 1 with(fail)
  generalize hw1:w.alloc _=w1;obtain⟨hb1,hg,hcell⟩:=HF.out w1 hw1;generalize hw2:w1.alloc _=w2;obtain⟨hb2,hg2,hcell2⟩:=HF2.out w1 w2 hw2;rw [hg] at hcell2;have HB2:=Hd (hb1.trans (hb2.mono hb1.size));have q2:=hcell w2 hb2 2;have d4:=hcell2 w2 (Below.refl _ _) 4;simp only [Ya,Yb,Yc] at q2 d4;clear hw1 hw2 hcell hcell2 hb1 hb2 HF HF2 HC HA
  go_wp2_with fail
  go_ret
  exact⟨ret_boolS HR.out.symm,HB2.out⟩
 | false=>
  have h2:on.toList.isEmpty=false:=by rw [← h1];cases on.toList <;> rfl
  cases bh with
  | false=>
   have HR:=Hd (show out=true by rw [HO.out,h1];rfl)
   go_enter Tryz.func73,Tryz.ntmps73
   go_upto_region 1 with(fail)
   generalize hw1:w.alloc _=w1;obtain⟨hb1,hg,hcell⟩:=HF.out w1 hw1;generalize hw2:w1.alloc _=w2;obtain⟨hb2,hg2,hcell2⟩:=HF2.out w1 w2 hw2;rw [hg] at hcell2;have HB2:=Hd (hb1.trans (hb2.mono hb1.size));have q2:=hcell w2 hb2 2;have d4:=hcell2 w2 (Below.refl _ _) 4;simp only [Ya,Yb,Yc] at q2 d4;have HD:=Hd (HC.out w2 HB2.out);clear hw1 hw2 hcell hcell2 hb1 hb2 HF HF2 HC HA
   go_wp2_with fail
   refine HD.out.mono ?_;rintro e w3 ⟨rfl,hb3⟩;have HB3:=Hd (HB2.out.trans (hb3.mono HB2.out.size));clear hb3 HD
   go_wp2_with fail
   go_ret
   exact⟨ret_boolS HR.out.symm,HB3.out⟩
  | true=>
   have HR:=Hd (show out=!ba by rw [HO.out,h1];cases ba <;> rfl)
   go_enter Tryz.func73,Tryz.ntmps73
   go_upto_region 1 with(fail)
   generalize hw1:w.alloc _=w1;obtain⟨hb1,hg,hcell⟩:=HF.out w1 hw1;generalize hw2:w1.alloc _=w2;obtain⟨hb2,hg2,hcell2⟩:=HF2.out w1 w2 hw2;rw [hg] at hcell2;have HB2:=Hd (hb1.trans (hb2.mono hb1.size));obtain⟨q0,q1,q2,q3,-,-⟩:=Sx (hcell w2 hb2);have d4:=hcell2 w2 (Below.refl _ _) 4;have d5:=hcell2 w2 (Below.refl _ _) 5;simp only [Ya,Yb,Yc] at q0 q1 q2 q3 d4 d5;have HQ0:=Hd fun W (b:Below w2.heap.size w2 W) j=>hcell W (hb2.trans (b.mono hb2.size)) j;have HQ1:=Hd fun W (b:Below w2.heap.size w2 W) j=>hcell2 W b j;have HD:=Hd (HC.out w2 HB2.out);clear hw1 hw2 hcell hcell2 hb1 hb2 HF HF2 HC
   go_wp2_with fail
   refine HD.out.mono ?_;rintro e w3 ⟨rfl,hb3⟩;have HB3:=Hd (HB2.out.trans (hb3.mono HB2.out.size));obtain⟨r0,r1,r2,r3,-,-⟩:=Sx (HQ0.out w3 hb3);have e3:=HQ1.out w3 hb3 5;simp only [Ya,Yb,Yc] at r0 r1 r2 r3 e3;have HE:=Hd (HA.out w3 HB3.out);clear hb3 HD q0 q1 q2 q3 d4 d5 HA
   go_wp2_with fail
   refine HE.out.mono ?_;rintro e w4 ⟨rfl,hb4⟩;have HB4:=Hd (HB3.out.trans (hb4.mono HB3.out.size));clear hb4 HE
   go_wp2_with fail
   go_ret
   exact⟨ret_boolS HR.out.symm,HB4.out⟩
theorem scDefine(E:Option Addr) (n c bn bv bd m md:Nat) (vs ds:List ByteArray) (s:ByteArray) (w:World) (hv:SetAt w bv m vs) (hd:SetAt w bd md ds) (hne:bv≠bd) (hm:md<1000000) (hs:s.size≤maxLen):
 Calls Tryz.prog 111 #[.agg (rmA E n c bn bv bd),.string s] w fun e w'=>e=.returned (.int .i64 (defineB vs ds s))∧Gd bd w w'∧(defineB vs ds s=0→SetAt w' bd (md+1) (ds++[s])):=by
 have HF:=Hd fun w1 hw=>rm_facts w E n c bn bv bd w1 hw;have HC:=Hd fun w1 (a:Below w.heap.size w w1)=>scHas bv m vs s w1 (hv.below a) hs;have HD:=Hd fun w1 (a:Below w.heap.size w w1)=>scHas bd md ds s w1 (hd.below a) hs;have HA:=Hd fun w1 (a:Below w.heap.size w w1)=>scAdd bd md ds s w1 (hd.below a) hm hs;have HO:=Hd (show defineB vs ds s=if vs.any (nmB s)=false then 5 else if ds.any (nmB s)=true then 6 else 0 from rfl);have hlt:=hd.lt;clear hd hs hv;generalize defineB vs ds s=out at *;generalize vs.any (nmB s)=b1 at *;generalize ds.any (nmB s)=b2 at *;unfold rmA at HF ⊢
 go_enter Tryz.func111,Tryz.ntmps111
 go_upto_region 1 with(fail)
 generalize hw1:w.alloc _=w1;obtain⟨hb1,hg,hcell⟩:=HF.out w1 hw1;have HB1:=Hd hb1;have HQ:=Hd hcell;have q2:=hcell w1 (Below.refl _ _) 2;simp only [Ya,Yb,Yc] at q2;have HC1:=Hd (HC.out w1 hb1);clear hw1 hcell hb1 HF HC
 cases b1 with
 | false=>
  have HR:=Hd (show out=5 by rw [HO.out,if_pos rfl])
  go_wp2_with fail
  refine HC1.out.mono ?_;rintro e w2 ⟨rfl,hb2⟩;have HB2:=Hd (HB1.out.trans (hb2.mono HB1.out.size));clear hb2 HC1 q2
  go_wp2_with fail
  go_ret
  exact⟨by rw [HR.out];rfl,Gd.of_below HB2.out,fun h=>by rw [HR.out] at h;cases h⟩
 | true=>
  go_wp2_with fail
  refine HC1.out.mono ?_;rintro e w2 ⟨rfl,hb2⟩;have HB2:=Hd (HB1.out.trans (hb2.mono HB1.out.size));have q3:=HQ.out w2 hb2 3;have HQ2:=Hd fun W (b:Below w2.heap.size w2 W) j=>HQ.out W (hb2.trans (b.mono hb2.size)) j;simp only [Ya,Yb,Yc] at q3;have HD2:=Hd (HD.out w2 HB2.out);clear hb2 HC1 q2 HD HQ
  cases b2 with
  | true=>
   have HR:=Hd (show out=6 by rw [HO.out,if_neg (by decide),if_pos rfl])
   go_wp2_with fail
   refine HD2.out.mono ?_;rintro e w3 ⟨rfl,hb3⟩;have HB3:=Hd (HB2.out.trans (hb3.mono HB2.out.size));clear hb3 HD2 q3
   go_wp2_with fail
   go_ret
   exact⟨by rw [HR.out];rfl,Gd.of_below HB3.out,fun h=>by rw [HR.out] at h;cases h⟩
  | false=>
   have HR:=Hd (show out=0 by rw [HO.out,if_neg (by decide),if_neg (by decide)])
   go_wp2_with fail
   refine HD2.out.mono ?_;rintro e w3 ⟨rfl,hb3⟩;have HB3:=Hd (HB2.out.trans (hb3.mono HB2.out.size));have r3:=HQ2.out w3 hb3 3;simp only [Ya,Yb,Yc] at r3;have HA3:=Hd (HA.out w3 HB3.out);clear hb3 HD2 q3 HQ2 HA
   go_wp2_with fail
   refine HA3.out.mono ?_;rintro e w4 ⟨rfl,hs4,hg4⟩;have HS4:=Hd hs4;have HG4:=Hd ((Gd.of_below HB3.out).trans hg4);clear hs4 hg4 HA3 r3
   go_wp2_with fail
   go_ret
   exact⟨by rw [HR.out];rfl,HG4.out,fun _=>HS4.out⟩
end
section
open Go.RowKit Go.Sort Go.BigFrame
theorem scLeads(E:Option Addr) (n c bn bv bd mn mv:Nat) (es:List En) (nds vs:List ByteArray) (x:Ex) (A:Option Addr) (ca:Nat) (B:Option Addr) (cb:Nat) (w:World) (hE:RdE w E n es) (hn:SetAt w bn mn nds) (hv:SetAt w bv mv vs) (hx:rdX w x A B) (hs:x.s.size≤maxLen):
 Calls Tryz.prog 113 #[.agg (rmA E n c bn bv bd),.agg (exA x A ca B cb)] w fun e w'=>e=.returned (.bool (leadsB vs nds es x))∧Below w.heap.size w w':=by
 have hmk:∀ fn first cap w,(Instr.makeFunc fn first cap).run Tryz.prog w=.ok (.func fn first cap) w:=fun _ _ _ _=>rfl
 have HF:=Hd fun w1 hw=>rm_facts w E n c bn bv bd w1 hw;have HF2:=Hd fun w w1 hw h=>box_facts w x A ca B cb w1 hw h;have HX:=Hd hx;have HV:=Hd fun w1 (a:Below w.heap.size w w1)=>scHas bv mv vs x.s w1 (hv.below a) hs;have HN:=Hd fun w1 (a:Below w.heap.size w w1)=>scHas bn mn nds x.s w1 (hn.below a) hs;have HA:=Hd fun w1 (a:Below w.heap.size w w1)=>scNoArm E n c bn bv bd es x.s w1 (hE.below a);have HP:=Hd fun w1 (a:Below w.heap.size w w1)=>slHasTF 110 (.agg (rmA E n c bn bv bd)) (fun _ _=>rfl) (fun t=>!armV es t) A x.arms.length ca x.arms w1 (hx.below a).arms (fun t ht W hW=>scNoArm E n c bn bv bd es t W (hE.below (a.trans (hW.mono a.size))));have HO:=Hd (show leadsB vs nds es x=if x.k==3 then vs.any (nmB x.s) else if x.k==11 || x.k==12 then vs.any (nmB x.s) && !(x.arms.any fun a=>!armV es a) else if x.k==4 then armV es x.s else if x.k==13 then nds.any (nmB x.s) else !(x.k==17) from rfl);clear hE hn hv hs hx;generalize leadsB vs nds es x=out at *;generalize vs.any (nmB x.s)=bh at *;generalize nds.any (nmB x.s)=bm at *;generalize armV es x.s=ba at *;generalize (x.arms.any fun a=>!armV es a)=bp at *;unfold rmA at HF HA HP ⊢;unfold exA at HF2 ⊢;generalize x.arms.length=la at *;generalize x.subs.length=lb at *;generalize x.s=s at *;generalize x.k=k at *
 rcases(show k=3∨k=11∨k=12∨k=4∨k=13∨k=17∨((k==3)=false∧(k==11)=false∧(k==12)=false∧(k==4)=false∧(k==13)=false∧(k==17)=false) by
  simp only [beq_eq_false_iff_ne];omega) with rfl | rfl | rfl | rfl | rfl | rfl | ⟨b3,b11,b12,b4,b13,b17⟩
 · have HR:=Hd (show out=bh by rw [HO.out];rfl)
   go_enter Tryz.func113,Tryz.ntmps113
   go_upto_region 1 with(fail)
   generalize hw1:w.alloc _=w1;obtain⟨hb1,hg,hcell⟩:=HF.out w1 hw1;generalize hw2:w1.alloc _=w2;obtain⟨hb2,hg2,hr2,hcell2⟩:=HF2.out w1 w2 hw2 (HX.out.below hb1);rw [hg] at hcell2;have HB2:=Hd (hb1.trans (hb2.mono hb1.size));obtain⟨d0,-,d2,-,d4,-⟩:=Sx (hcell2 w2 (Below.refl _ _));obtain⟨q0,q1,q2,q3,-,-⟩:=Sx (hcell w2 hb2);simp only [Ya,Yb,Yc] at d0 d2 d4 q0 q1 q2 q3;have HQ0:=Hd fun W (b:Below w2.heap.size w2 W) j=>hcell W (hb2.trans (b.mono hb2.size)) j;have HQ1:=Hd fun W (b:Below w2.heap.size w2 W) j=>hcell2 W b j;clear hw1 hw2 hcell hcell2 hb1 hb2 HF HF2 hr2;have HD:=Hd (HV.out w2 HB2.out);clear HV HN HA HP
   go_wp2_with fail
   refine HD.out.mono ?_;rintro e w3 ⟨rfl,hb3⟩;have HB3:=Hd (HB2.out.trans (hb3.mono HB2.out.size));clear hb3 HD q0 q1 q2 q3 d0 d2 d4
   go_wp2_with fail
   go_ret
   exact⟨ret_boolS HR.out.symm,HB3.out⟩
 · have HR:=Hd (show out=(bh && !bp) by rw [HO.out];rfl)
   go_enter Tryz.func113,Tryz.ntmps113
   go_upto_region 1 with(fail)
   generalize hw1:w.alloc _=w1;obtain⟨hb1,hg,hcell⟩:=HF.out w1 hw1;generalize hw2:w1.alloc _=w2;obtain⟨hb2,hg2,hr2,hcell2⟩:=HF2.out w1 w2 hw2 (HX.out.below hb1);rw [hg] at hcell2;have HB2:=Hd (hb1.trans (hb2.mono hb1.size));obtain⟨d0,-,d2,-,d4,-⟩:=Sx (hcell2 w2 (Below.refl _ _));obtain⟨q0,q1,q2,q3,-,-⟩:=Sx (hcell w2 hb2);simp only [Ya,Yb,Yc] at d0 d2 d4 q0 q1 q2 q3;have HQ0:=Hd fun W (b:Below w2.heap.size w2 W) j=>hcell W (hb2.trans (b.mono hb2.size)) j;have HQ1:=Hd fun W (b:Below w2.heap.size w2 W) j=>hcell2 W b j;clear hw1 hw2 hcell hcell2 hb1 hb2 HF HF2 hr2;have HD:=Hd (HV.out w2 HB2.out);clear HV HN HA
   cases bh with
   | false=>
    go_wp2_with fail
    refine HD.out.mono ?_;rintro e w3 ⟨rfl,hb3⟩;have HB3:=Hd (HB2.out.trans (hb3.mono HB2.out.size));clear hb3 HD q0 q1 q2 q3 d0 d2 d4 HP
    go_wp2_with fail
    go_ret
    exact⟨ret_boolS HR.out.symm,HB3.out⟩
   | true=>
    go_wp2_with fail
    refine HD.out.mono ?_;rintro e w3 ⟨rfl,hb3⟩;have HB3:=Hd (HB2.out.trans (hb3.mono HB2.out.size));have e4:=HQ1.out w3 hb3 4;obtain⟨r0,r1,r2,r3,-,-⟩:=Sx (HQ0.out w3 hb3);simp only [Ya,Yb,Yc] at e4 r0 r1 r2 r3;have HE:=Hd (HP.out w3 HB3.out);clear hb3 HD q0 q1 q2 q3 d0 d2 d4 HP
    go_wp2_with fail
    refine HE.out.mono ?_;rintro e w4 ⟨rfl,hb4⟩;have HB4:=Hd (HB3.out.trans (hb4.mono HB3.out.size));clear hb4 HE
    go_wp2_with fail
    go_ret
    exact⟨ret_boolS HR.out.symm,HB4.out⟩
 · have HR:=Hd (show out=(bh && !bp) by rw [HO.out];rfl)
   go_enter Tryz.func113,Tryz.ntmps113
   go_upto_region 1 with(fail)
   generalize hw1:w.alloc _=w1;obtain⟨hb1,hg,hcell⟩:=HF.out w1 hw1;generalize hw2:w1.alloc _=w2;obtain⟨hb2,hg2,hr2,hcell2⟩:=HF2.out w1 w2 hw2 (HX.out.below hb1);rw [hg] at hcell2;have HB2:=Hd (hb1.trans (hb2.mono hb1.size));obtain⟨d0,-,d2,-,d4,-⟩:=Sx (hcell2 w2 (Below.refl _ _));obtain⟨q0,q1,q2,q3,-,-⟩:=Sx (hcell w2 hb2);simp only [Ya,Yb,Yc] at d0 d2 d4 q0 q1 q2 q3;have HQ0:=Hd fun W (b:Below w2.heap.size w2 W) j=>hcell W (hb2.trans (b.mono hb2.size)) j;have HQ1:=Hd fun W (b:Below w2.heap.size w2 W) j=>hcell2 W b j;clear hw1 hw2 hcell hcell2 hb1 hb2 HF HF2 hr2;have HD:=Hd (HV.out w2 HB2.out);clear HV HN HA
   cases bh with
   | false=>
    go_wp2_with fail
    refine HD.out.mono ?_;rintro e w3 ⟨rfl,hb3⟩;have HB3:=Hd (HB2.out.trans (hb3.mono HB2.out.size));clear hb3 HD q0 q1 q2 q3 d0 d2 d4 HP
    go_wp2_with fail
    go_ret
    exact⟨ret_boolS HR.out.symm,HB3.out⟩
   | true=>
    go_wp2_with fail
    refine HD.out.mono ?_;rintro e w3 ⟨rfl,hb3⟩;have HB3:=Hd (HB2.out.trans (hb3.mono HB2.out.size));have e4:=HQ1.out w3 hb3 4;obtain⟨r0,r1,r2,r3,-,-⟩:=Sx (HQ0.out w3 hb3);simp only [Ya,Yb,Yc] at e4 r0 r1 r2 r3;have HE:=Hd (HP.out w3 HB3.out);clear hb3 HD q0 q1 q2 q3 d0 d2 d4 HP
    go_wp2_with fail
    refine HE.out.mono ?_;rintro e w4 ⟨rfl,hb4⟩;have HB4:=Hd (HB3.out.trans (hb4.mono HB3.out.size));clear hb4 HE
    go_wp2_with fail
    go_ret
    exact⟨ret_boolS HR.out.symm,HB4.out⟩
 · have HR:=Hd (show out=ba by rw [HO.out];rfl)
   go_enter Tryz.func113,Tryz.ntmps113
   go_upto_region 1 with(fail)
   generalize hw1:w.alloc _=w1;obtain⟨hb1,hg,hcell⟩:=HF.out w1 hw1;generalize hw2:w1.alloc _=w2;obtain⟨hb2,hg2,hr2,hcell2⟩:=HF2.out w1 w2 hw2 (HX.out.below hb1);rw [hg] at hcell2;have HB2:=Hd (hb1.trans (hb2.mono hb1.size));obtain⟨d0,-,d2,-,d4,-⟩:=Sx (hcell2 w2 (Below.refl _ _));obtain⟨q0,q1,q2,q3,-,-⟩:=Sx (hcell w2 hb2);simp only [Ya,Yb,Yc] at d0 d2 d4 q0 q1 q2 q3;have HQ0:=Hd fun W (b:Below w2.heap.size w2 W) j=>hcell W (hb2.trans (b.mono hb2.size)) j;have HQ1:=Hd fun W (b:Below w2.heap.size w2 W) j=>hcell2 W b j;clear hw1 hw2 hcell hcell2 hb1 hb2 HF HF2 hr2;have HD:=Hd (HA.out w2 HB2.out);clear HV HN HA HP
   go_wp2_with fail
   refine HD.out.mono ?_;rintro e w3 ⟨rfl,hb3⟩;have HB3:=Hd (HB2.out.trans (hb3.mono HB2.out.size));clear hb3 HD q0 q1 q2 q3 d0 d2 d4
   go_wp2_with fail
   go_ret
   exact⟨ret_boolS HR.out.symm,HB3.out⟩
 · have HR:=Hd (show out=bm by rw [HO.out];rfl)
   go_enter Tryz.func113,Tryz.ntmps113
   go_upto_region 1 with(fail)
   generalize hw1:w.alloc _=w1;obtain⟨hb1,hg,hcell⟩:=HF.out w1 hw1;generalize hw2:w1.alloc _=w2;obtain⟨hb2,hg2,hr2,hcell2⟩:=HF2.out w1 w2 hw2 (HX.out.below hb1);rw [hg] at hcell2;have HB2:=Hd (hb1.trans (hb2.mono hb1.size));obtain⟨d0,-,d2,-,d4,-⟩:=Sx (hcell2 w2 (Below.refl _ _));obtain⟨q0,q1,q2,q3,-,-⟩:=Sx (hcell w2 hb2);simp only [Ya,Yb,Yc] at d0 d2 d4 q0 q1 q2 q3;have HQ0:=Hd fun W (b:Below w2.heap.size w2 W) j=>hcell W (hb2.trans (b.mono hb2.size)) j;have HQ1:=Hd fun W (b:Below w2.heap.size w2 W) j=>hcell2 W b j;clear hw1 hw2 hcell hcell2 hb1 hb2 HF HF2 hr2;have HD:=Hd (HN.out w2 HB2.out);clear HV HN HA HP
   go_wp2_with fail
   refine HD.out.mono ?_;rintro e w3 ⟨rfl,hb3⟩;have HB3:=Hd (HB2.out.trans (hb3.mono HB2.out.size));clear hb3 HD q0 q1 q2 q3 d0 d2 d4
   go_wp2_with fail
   go_ret
   exact⟨ret_boolS HR.out.symm,HB3.out⟩
 · have HR:=Hd (show out=false by rw [HO.out];rfl)
   go_enter Tryz.func113,Tryz.ntmps113
   go_upto_region 1 with(fail)
   generalize hw1:w.alloc _=w1;obtain⟨hb1,hg,hcell⟩:=HF.out w1 hw1;generalize hw2:w1.alloc _=w2;obtain⟨hb2,hg2,hr2,hcell2⟩:=HF2.out w1 w2 hw2 (HX.out.below hb1);rw [hg] at hcell2;have HB2:=Hd (hb1.trans (hb2.mono hb1.size));obtain⟨d0,-,d2,-,d4,-⟩:=Sx (hcell2 w2 (Below.refl _ _));obtain⟨q0,q1,q2,q3,-,-⟩:=Sx (hcell w2 hb2);simp only [Ya,Yb,Yc] at d0 d2 d4 q0 q1 q2 q3;have HQ0:=Hd fun W (b:Below w2.heap.size w2 W) j=>hcell W (hb2.trans (b.mono hb2.size)) j;have HQ1:=Hd fun W (b:Below w2.heap.size w2 W) j=>hcell2 W b j;clear hw1 hw2 hcell hcell2 hb1 hb2 HF HF2 hr2;clear HV HN HA HP
   go_wp2_with fail
   go_ret
   exact⟨ret_boolS HR.out.symm,HB2.out⟩
 · have HR:=Hd (show out=true by rw [HO.out];rw [b3,b11,b12,b4,b13,b17];rfl)
   go_enter Tryz.func113,Tryz.ntmps113
   go_upto_region 1 with(fail)
   generalize hw1:w.alloc _=w1;obtain⟨hb1,hg,hcell⟩:=HF.out w1 hw1;generalize hw2:w1.alloc _=w2;obtain⟨hb2,hg2,hr2,hcell2⟩:=HF2.out w1 w2 hw2 (HX.out.below hb1);rw [hg] at hcell2;have HB2:=Hd (hb1.trans (hb2.mono hb1.size));obtain⟨d0,-,d2,-,d4,-⟩:=Sx (hcell2 w2 (Below.refl _ _));obtain⟨q0,q1,q2,q3,-,-⟩:=Sx (hcell w2 hb2);simp only [Ya,Yb,Yc] at d0 d2 d4 q0 q1 q2 q3;have HQ0:=Hd fun W (b:Below w2.heap.size w2 W) j=>hcell W (hb2.trans (b.mono hb2.size)) j;have HQ1:=Hd fun W (b:Below w2.heap.size w2 W) j=>hcell2 W b j;clear hw1 hw2 hcell hcell2 hb1 hb2 HF HF2 hr2;clear HV HN HA HP
   go_wp2_with fail
   go_ret
   exact⟨ret_boolS HR.out.symm,HB2.out⟩
end
end Go.Proofs.YtkbpdoomhfkngaaGreat
