/- Parts of the proof: ScK, ScL, ScR, ScS, ScU. Conditions: each theorem's own. -/
import Derived.Test.YtpehkppcdlboeaaA10
import Derived.Test.YtpehkppcdlboeaaA11
namespace Go.Proofs.Ytpehkppcdlboeaa
set_option linter.unusedVariables false
set_option linter.unusedSimpArgs false
set_option maxRecDepth 100000
set_option maxHeartbeats 40000000
section
open Go.RowKit Go.Sort Go.Maps Go.WideMaps
def setS(l:List ByteArray):DataW Unit:=setOf (.agg []) (l.map fun s=>Lit.string s.data.toList)
theorem setS_nil:setS []=.map []:=by simp [setS,setOf]
theorem setS_snoc(l:List ByteArray) (s:ByteArray):setS (l++[s])=(setS l).put (.string s.data.toList) (.agg []):=by
 unfold setS;rw [List.map_append];exact setOf_snoc _ _ _
theorem has_setS(l:List ByteArray) (s:ByteArray):Maps.has (setS l) (.string s.data.toList)=l.any (nmB s):=by
 unfold setS;rw [has_setOf _ _ _ (fun y hy=>by obtain⟨_,_,rfl⟩:=List.mem_map.1 hy;trivial),any_string,Bool.eq_iff_iff,decide_eq_true_eq,List.any_eq_true,List.mem_map];exact⟨fun⟨a,h,e⟩=>⟨a,h,nmB_eq.2 e⟩,fun⟨a,h,e⟩=>⟨a,h,nmB_eq.1 e⟩⟩
def SetAt(W:World) (b m:Nat) (l:List ByteArray):Prop:=W.ownsMap Try.prog 9 unitElem b m (setS l)
section
variable {W W':World}{b d m:Nat}{l:List ByteArray}
theorem SetAt.lt(h:SetAt W b m l):b<W.heap.size:=World.ownsMap.lt h
theorem SetAt.kept(h:SetAt W b m l){row:Option Nat}(hg:W.grownBy W' row) (hne:some b≠row):SetAt W' b m l:=World.ownsMap.kept h hg hne
theorem SetAt.below(h:SetAt W b m l) (hb:Below W.heap.size W W'):SetAt W' b m l:=h.kept (grownBy_of_below' hb) (by simp)
theorem SetAt.mono(h:SetAt W b m l){m':Nat}(hm:m≤m'):SetAt W b m' l:=World.ownsMap.mono h hm
theorem SetAt.new(W:World):SetAt (W.alloc (.map #[] 0)) W.heap.size 0 []:=by unfold SetAt;rw [setS_nil];exact World.ownsMap_made _ _ _ _
theorem SetAt.no_cell(h:SetAt W b m l){p:Addr}(hp:p.block=b):W.cell? p=none:=by
 obtain⟨es,clock,hb,-⟩:=h;unfold World.cell?;rw [hp,hb]
def Gd(d:Nat) (W W':World):Prop:=W.grownBy W' (some d)∧∀ p:Addr,p.block<W.heap.size→W'.cell? p=W.cell? p
theorem Gd.refl(W:World):Gd d W W:=⟨World.grownBy.refl _ _,fun _ _=>rfl⟩
theorem Gd.of_below(h:Below W.heap.size W W'):Gd d W W':=⟨(grownBy_of_below' h).but _,fun _ hp=>h.cell hp⟩
theorem Gd.trans{A B C:World}(h:Gd d A B) (k:Gd d B C):Gd d A C:=⟨World.grownBy.trans h.1 k.1,fun p hp=>(k.2 p (Nat.lt_of_lt_of_le hp (World.grownBy.size h.1))).trans (h.2 p hp)⟩
theorem Gd.size(h:Gd d W W'):W.heap.size≤W'.heap.size:=World.grownBy.size h.1
theorem Gd.below{w:World}{n:Nat}(hw:Below n w W) (h:Gd d W W') (hn:n≤W.heap.size) (hd:n≤d):Below n w W':=hw.grown h.1 hn (fun j e=>by cases e;exact hd)
theorem Gd.block(h:Gd d W W'){i:Nat}(hi:i<W.heap.size) (hne:i≠d):W'.heap[i]?=W.heap[i]?:=World.grownBy.block h.1 i hi (fun e=>hne (by injection e))
theorem Gd.blk(h:Gd d W W'){i:Nat}{cs:Array Value}{T:TypeId}(e:W.heap[i]?=some (Obj.cells cs T)) (hne:i≠d):W'.heap[i]?=some (Obj.cells cs T):=(h.block (Array.getElem?_eq_some_iff.1 e).1 hne).trans e
theorem Gd.cell(h:Gd d W W'){i j:Nat}(hi:i<W.heap.size):W'.cell? ⟨i,j,none⟩=W.cell? ⟨i,j,none⟩:=h.2 ⟨i,j,none⟩ hi
theorem Gd.new{w:World}{n:Nat}(h:Gd d w W) (hb:Below n W W') (hn:w.heap.size≤n):Gd d w W' :=
 ⟨⟨hb.os.trans h.1.os,hb.tape.trans h.1.tape,hb.output.trans h.1.output,Nat.le_trans h.size hb.size,fun i hi hne=>(hb.block i (Nat.lt_of_lt_of_le hi hn)).trans (h.1.block i hi hne)⟩,
  fun p hp=>(hb.cell (Nat.lt_of_lt_of_le hp hn)).trans (h.2 p hp)⟩
theorem SetAt.gd(h:SetAt W b m l) (hg:Gd d W W') (hne:b≠d):SetAt W' b m l:=h.kept hg.1 (fun e=>hne (by injection e))
theorem Gd.rdD{A:Option Addr}{n:Nat}{l:List Dc}(h:Gd d W W') (r:RdD W A n l):RdD W' A n l:=r.keep h.size h.2
end
theorem blk_cell{W:World}{i:Nat}{cs:Array Value}{T:TypeId}(e:W.heap[i]?=some (Obj.cells cs T)) (j:Nat):W.cell? ⟨i,j,none⟩=cs[j]?:=by simp [World.cell?,e]
theorem scAdd(b m:Nat) (l:List ByteArray) (s:ByteArray) (w:World) (h:SetAt w b m l) (hm:m<1000000) (hs:s.size≤maxLen):
 Calls Try.prog 23 #[.map (some b),.string s] w fun e w'=>e=.returned (.tuple #[])∧SetAt w' b (m+1) (l++[s])∧Gd b w w':=by
 have hkey:keyOf Try.prog 9 (.string s)=some (.string s.data.toList):=keyOf_string_mk Try.underlying9 hs;have hmm:m<maxLen:=by unfold maxLen;omega
 have HS:=Hd (setS_snoc l s);have h0:=h
 have HG:=Hd (fun w' (h:w.grownBy w' (some b)) (hs':SetAt w' b (m+1) (l++[s]))=>(show Gd b w w' from⟨h,fun p hp=>by
  by_cases e:p.block=b
  · rw [h0.no_cell e,hs'.no_cell e]
  · exact World.cell?_of_block (h.block p.block hp (fun e'=>e (by injection e')))⟩))
 have hown:w.ownsMap Try.prog 9 unitElem b m (setS l):=h;unfold SetAt;rw [HS.out];have HSS:=Hd HS.out;clear h HS h0
 go_enter Try.func23,Try.ntmps23
 go_wp2_with (at_mapUpdate;refine wpList_mapUpdate_own _ rfl _ _ _ 63 rfl 9 87 keyLaw Try.underlying63 (unitElem (H:=Unit)) b m _ rfl hown hmm _ _ _ rfl rfl hkey _ [] unitElem_mk ?_;intro w1 hown1 hgrow1)
 have HW:=Hd hown1;have HG2:=Hd (HG.out _ hgrow1 (by unfold SetAt;rw [HSS.out];exact hown1));clear hown1 hgrow1
 go_wp2_with fail
 go_end0
 exact⟨rfl,HW.out,HG2.out⟩
theorem scHas(b m:Nat) (l:List ByteArray) (s:ByteArray) (w:World) (h:SetAt w b m l) (hs:s.size≤maxLen):
 Calls Try.prog 58 #[.map (some b),.string s] w fun e w'=>e=.returned (.bool (l.any (nmB s)))∧Below w.heap.size w w':=by
 have hkey:keyOf Try.prog 9 (.string s)=some (.string s.data.toList):=keyOf_string_mk Try.underlying9 hs;have hhas:=has_setS l s;have hown:w.ownsMap Try.prog 9 unitElem b m (setS l):=h;clear h;generalize l.any (nmB s)=out at *
 go_enter Try.func58,Try.ntmps58
 go_wp2_with (at_lookup;refine wpList_lookup_own_unit _ rfl _ _ 63 rfl 9 87 keyLaw Try.underlying63 (zeroUnit _) b m _ rfl hown _ _ rfl hkey ?_)
 go_ret
 refine⟨rfl,?_⟩;exact(Below.refl _ _).alloc (Nat.le_refl _) _
end
section
open Go.RowKit Go.Sort Go.BigFrame
theorem scArm(A:Option Addr) (n c:Nat) (es:List En) (s:ByteArray) (w:World) (hE:RdE w A n es):
 Calls Try.prog 7 #[.slice A n c,.string s] w fun e w'=>e=.returned (armW (armR es s))∧Below w.heap.size w w':=by
 have HC:=Hd fun w1 (hb:Below w.heap.size w w1)=>tyCtor A n c es s w1 (hE.below hb);have HA:=Hd (show armR es s=if(s.toList==[116,114,117,101])=true then some (2,0,1) else if(s.toList==[102,97,108,115,101])=true then some (2,0,0) else(findE es s).map fun p=>(3,(p.1:Int),(p.2.1:Int)) from rfl);generalize armR es s=ar at *;clear hE
 cases h1:(s.toList==[116,114,117,101]) with
 | true=>
  have HE:=Hd (show ar=some (2,0,1) by rw [HA.out,if_pos h1]);rw [HE.out]
  go_enter Try.func7,Try.ntmps7
  go_upto_region 1 with(fail)
  generalize hw0:w.alloc _=w0;obtain⟨hb0,hR,hg0⟩:=f3_box hw0;have HB0:=Hd hb0;have HR:=Hd hR;clear hb0 hR hw0
  go_wp2_with (refine wpList_store_row rfl _ _ _ rfl (w.heap.size) _ rfl rfl _ _ HR.out ty3_info rfl (by simp [Value.oneCell']) ?_)
  exact bodyPost_ret (res_ty3 (p:=4) (u:=5) (v:=6) rfl _ _ w.heap.size 2 0 0 rfl (HR.out.set 2 0 0)) rfl ⟨rfl,below_set3 HB0.out⟩
 | false=>
  cases h2:(s.toList==[102,97,108,115,101]) with
  | true=>
   have HE:=Hd (show ar=some (2,0,0) by rw [HA.out,if_neg (by rw [h1];simp),if_pos h2]);rw [HE.out]
   go_enter Try.func7,Try.ntmps7
   go_upto_region 1 with(fail)
   generalize hw0:w.alloc _=w0;obtain⟨hb0,hR,hg0⟩:=f3_box hw0;have HB0:=Hd hb0;have HR:=Hd hR;clear hb0 hR hw0
   go_wp2_with (refine wpList_store_row rfl _ _ _ rfl (w.heap.size) _ rfl rfl _ _ HR.out ty3_info rfl (by simp [Value.oneCell']) ?_)
   exact bodyPost_ret (res_ty3 (p:=4) (u:=5) (v:=6) rfl _ _ w.heap.size 2 0 0 rfl (HR.out.set 2 0 0)) rfl ⟨rfl,below_set3 HB0.out⟩
  | false=>
   have HE:=Hd (show ar=(findE es s).map fun p=>(3,(p.1:Int),(p.2.1:Int)) by rw [HA.out,if_neg (by rw [h1];simp),if_neg (by rw [h2];simp)]);unfold ctorV at HC;rw [HE.out];clear HA HE
   cases hf:findE es s with
   | none=>
    rw [hf] at HC;simp only [Option.map_none,Option.getD_none,Option.isSome_none] at HC
    go_enter Try.func7,Try.ntmps7
    go_upto_region 1 with(fail)
    generalize hw0:w.alloc _=w0;obtain⟨hb0,hR,hg0⟩:=f3_box hw0;have HB0:=Hd hb0;have HR:=Hd hR;clear hb0 hR hw0
    go_wp2_with fail
    refine(HC.out _ HB0.out).mono ?_;rintro e w1 ⟨rfl,hb1⟩;have HR1:=Hd (HR.out.below hb1);have HB1:=Hd (HB0.out.trans (hb1.mono HB0.out.size));clear hb1
    go_wp2_with (refine wpList_store_row rfl _ _ _ rfl (w.heap.size) _ rfl rfl _ _ HR1.out ty3_info rfl (by simp [Value.oneCell']) ?_)
    exact bodyPost_ret (res_ty3 (p:=4) (u:=5) (v:=6) rfl _ _ w.heap.size 0 0 0 rfl (HR1.out.set 0 0 0)) rfl ⟨rfl,below_set3 HB1.out⟩
   | some q=>
    rw [hf] at HC;simp only [Option.map_some,Option.getD_some,Option.isSome_some] at HC;rw [show(some q).map (fun p:Pl=>((3:Int),(p.1:Int),(p.2.1:Int)))=some (3,(q.1:Int),(q.2.1:Int)) from rfl];generalize q.1=qa at *;generalize q.2.1=qb at *
    go_enter Try.func7,Try.ntmps7
    go_upto_region 1 with(fail)
    generalize hw0:w.alloc _=w0;obtain⟨hb0,hR,hg0⟩:=f3_box hw0;have HB0:=Hd hb0;have HR:=Hd hR;clear hb0 hR hw0
    go_wp2_with fail
    refine(HC.out _ HB0.out).mono ?_;rintro e w1 ⟨rfl,hb1⟩;have HR1:=Hd (HR.out.below hb1);have HB1:=Hd (HB0.out.trans (hb1.mono HB0.out.size));clear hb1
    go_wp2_with (refine wpList_store_row rfl _ _ _ rfl (w.heap.size) _ rfl rfl _ _ HR1.out ty3_info rfl (by simp [Value.oneCell']) ?_)
    exact bodyPost_ret (res_ty3 (p:=4) (u:=5) (v:=6) rfl _ _ w.heap.size 3 qa 0 rfl (HR1.out.set 3 qa 0)) rfl ⟨rfl,below_set3 HB1.out⟩
def rmA(E:Option Addr) (n c bn bv bd:Nat):Array Value:=#[.slice E n c,.map (some bn),.map (some bv),.map (some bd)]
theorem rm_facts(w:World) (E:Option Addr) (n c bn bv bd:Nat) (w1:World) (h:w.alloc (.cells (rmA E n c bn bv bd) 66)=w1):
 Below w.heap.size w w1∧w1.heap.size=w.heap.size+1∧∀ w',Below w1.heap.size w1 w'→∀ j,w'.cell? ⟨w.heap.size,j,none⟩=(rmA E n c bn bv bd)[j]?:=by
 subst h;refine⟨(Below.refl _ _).alloc (Nat.le_refl _) _,by simp,fun w' hb j=>?_⟩;rw [hb.cell (p:=⟨w.heap.size,j,none⟩) (by simp),World.cell?_alloc_new]
theorem scNoArm(E:Option Addr) (n c bn bv bd:Nat) (es:List En) (s:ByteArray) (w:World) (hE:RdE w E n es):
 Calls Try.prog 59 #[.agg (rmA E n c bn bv bd),.string s] w fun e w'=>e=.returned (.bool (!armV es s))∧Below w.heap.size w w':=by
 have HF:=Hd fun w1 hw=>rm_facts w E n c bn bv bd w1 hw;have HC:=Hd fun w1 (a:Below w.heap.size w w1)=>scArm E n c es s w1 (hE.below a);have HV:=Hd (show(armR es s).isSome=armV es s from rfl);clear hE;unfold armW f3A at HC;generalize (armR es s).isSome=ok at *;generalize ((armR es s).map (·.1)).getD 0=r1 at *;generalize ((armR es s).map (·.2.1)).getD 0=r2 at *;generalize ((armR es s).map (·.2.2)).getD 0=r3 at *;unfold rmA at HF ⊢
 go_enter Try.func59,Try.ntmps59
 go_upto_region 1 with(fail)
 generalize hw1:w.alloc _=w1;obtain⟨hb1,hg,hcell⟩:=HF.out w1 hw1;have HB1:=Hd hb1;have q0:=hcell w1 (Below.refl _ _) 0;simp only [Ya,Yb,Yc] at q0;have HD:=Hd (HC.out w1 hb1);clear hw1 hcell hb1 HF HC hg
 go_wp2_with fail
 refine HD.out.mono ?_;rintro e w2 ⟨rfl,hb2⟩;have HB2:=Hd (HB1.out.trans (hb2.mono HB1.out.size));clear hb2 q0 HD
 go_wp2_with fail
 go_ret
 exact⟨ret_boolS (congrArg not HV.out),below_box HB2.out rfl⟩
theorem scUndefined(E:Option Addr) (n c bn bv bd m:Nat) (ds:List ByteArray) (d:Dc) (w:World) (hd:SetAt w bd m ds) (hs:d.nm.size≤maxLen):
 Calls Try.prog 39 #[.agg (rmA E n c bn bv bd),.agg (dcA d)] w fun e w'=>e=.returned (.bool (!ds.any (nmB d.nm)))∧Below w.heap.size w w':=by
 have HF:=Hd fun w1 hw=>rm_facts w E n c bn bv bd w1 hw;have HF2:=Hd fun w w1 hw=>dc_facts w d w1 hw;have HC:=Hd fun w1 (a:Below w.heap.size w w1)=>scHas bd m ds d.nm w1 (hd.below a) hs;clear hd hs;generalize ds.any (nmB d.nm)=out at *;unfold rmA at HF ⊢;unfold dcA at HF2 ⊢
 go_enter Try.func39,Try.ntmps39
 go_upto_region 1 with(fail)
 generalize hw1:w.alloc _=w1;obtain⟨hb1,hg,hcell⟩:=HF.out w1 hw1;generalize hw2:w1.alloc _=w2;obtain⟨hb2,hg2,hcell2⟩:=HF2.out w1 w2 hw2;rw [hg] at hcell2;have HB2:=Hd (hb1.trans (hb2.mono hb1.size));have q3:=hcell w2 hb2 3;have d0:=hcell2 w2 (Below.refl _ _) 0;simp only [Ya,Yb,Yc] at q3 d0;have HD:=Hd (HC.out w2 HB2.out);clear hw1 hw2 hcell hcell2 hb1 hb2 HF HF2 HC
 go_wp2_with fail
 refine HD.out.mono ?_;rintro e w3 ⟨rfl,hb3⟩;have HB3:=Hd (HB2.out.trans (hb3.mono HB2.out.size));clear hb3 q3 d0 HD
 go_wp2_with fail
 go_ret
 exact⟨rfl,HB3.out⟩
end
section
open Go.RowKit Go.Sort Go.BigFrame
theorem scUntimed(E:Option Addr) (n c bn bv bd m:Nat) (es:List En) (vs:List ByteArray) (d:Dc) (w:World) (hE:RdE w E n es) (hd:SetAt w bv m vs) (hs:d.on.size≤maxLen):
 Calls Try.prog 37 #[.agg (rmA E n c bn bv bd),.agg (dcA d)] w fun e w'=>e=.returned (.bool (offB vs es d))∧Below w.heap.size w w':=by
 have HF:=Hd fun w1 hw=>rm_facts w E n c bn bv bd w1 hw;have HF2:=Hd fun w w1 hw=>dc_facts w d w1 hw;have HC:=Hd fun w1 (a:Below w.heap.size w w1)=>scHas bv m vs d.on w1 (hd.below a) hs;have HA:=Hd fun w1 (a:Below w.heap.size w w1)=>scNoArm E n c bn bv bd es d.ct w1 (hE.below a);have HO:=Hd (show offB vs es d=(!(d.on.toList==[]) && (!vs.any (nmB d.on) || !armV es d.ct)) from rfl);clear hd hs hE;generalize offB vs es d=out at *;generalize vs.any (nmB d.on)=bh at *;generalize armV es d.ct=ba at *;unfold rmA at HF HA ⊢;unfold dcA at HF2 ⊢;generalize d.on=on at *;generalize d.ct=ct at *
 cases h1:(on.toList==[]) with
 | true=>
  have h2:on.toList.isEmpty=true:=by rw [← h1];cases on.toList <;> rfl
  have HR:=Hd (show out=false by rw [HO.out,h1];rfl)
  go_enter Try.func37,Try.ntmps37
  go_upto_region 1 with(fail)
  generalize hw1:w.alloc _=w1;obtain⟨hb1,hg,hcell⟩:=HF.out w1 hw1;generalize hw2:w1.alloc _=w2;obtain⟨hb2,hg2,hcell2⟩:=HF2.out w1 w2 hw2;rw [hg] at hcell2;have HB2:=Hd (hb1.trans (hb2.mono hb1.size));have q2:=hcell w2 hb2 2;have d4:=hcell2 w2 (Below.refl _ _) 4;simp only [Ya,Yb,Yc] at q2 d4;clear hw1 hw2 hcell hcell2 hb1 hb2 HF HF2 HC HA
  go_wp2_with fail
  go_ret
  exact⟨ret_boolS HR.out.symm,HB2.out⟩
 | false=>
  have h2:on.toList.isEmpty=false:=by rw [← h1];cases on.toList <;> rfl
  cases bh with
  | false=>
   have HR:=Hd (show out=true by rw [HO.out,h1];rfl)
   go_enter Try.func37,Try.ntmps37
   go_upto_region 1 with(fail)
   generalize hw1:w.alloc _=w1;obtain⟨hb1,hg,hcell⟩:=HF.out w1 hw1;generalize hw2:w1.alloc _=w2;obtain⟨hb2,hg2,hcell2⟩:=HF2.out w1 w2 hw2;rw [hg] at hcell2;have HB2:=Hd (hb1.trans (hb2.mono hb1.size));have q2:=hcell w2 hb2 2;have d4:=hcell2 w2 (Below.refl _ _) 4;simp only [Ya,Yb,Yc] at q2 d4;have HD:=Hd (HC.out w2 HB2.out);clear hw1 hw2 hcell hcell2 hb1 hb2 HF HF2 HC HA
   go_wp2_with fail
   refine HD.out.mono ?_;rintro e w3 ⟨rfl,hb3⟩;have HB3:=Hd (HB2.out.trans (hb3.mono HB2.out.size));clear hb3 HD
   go_wp2_with fail
   go_ret
   exact⟨ret_boolS HR.out.symm,HB3.out⟩
  | true=>
   have HR:=Hd (show out=!ba by rw [HO.out,h1];cases ba <;> rfl)
   go_enter Try.func37,Try.ntmps37
   go_upto_region 1 with(fail)
   generalize hw1:w.alloc _=w1;obtain⟨hb1,hg,hcell⟩:=HF.out w1 hw1;generalize hw2:w1.alloc _=w2;obtain⟨hb2,hg2,hcell2⟩:=HF2.out w1 w2 hw2;rw [hg] at hcell2;have HB2:=Hd (hb1.trans (hb2.mono hb1.size));obtain⟨q0,q1,q2,q3,-,-⟩:=Sx (hcell w2 hb2);have d4:=hcell2 w2 (Below.refl _ _) 4;have d5:=hcell2 w2 (Below.refl _ _) 5;simp only [Ya,Yb,Yc] at q0 q1 q2 q3 d4 d5;have HQ0:=Hd fun W (b:Below w2.heap.size w2 W) j=>hcell W (hb2.trans (b.mono hb2.size)) j;have HQ1:=Hd fun W (b:Below w2.heap.size w2 W) j=>hcell2 W b j;have HD:=Hd (HC.out w2 HB2.out);clear hw1 hw2 hcell hcell2 hb1 hb2 HF HF2 HC
   go_wp2_with fail
   refine HD.out.mono ?_;rintro e w3 ⟨rfl,hb3⟩;have HB3:=Hd (HB2.out.trans (hb3.mono HB2.out.size));obtain⟨r0,r1,r2,r3,-,-⟩:=Sx (HQ0.out w3 hb3);have e3:=HQ1.out w3 hb3 5;simp only [Ya,Yb,Yc] at r0 r1 r2 r3 e3;have HE:=Hd (HA.out w3 HB3.out);clear hb3 HD q0 q1 q2 q3 d4 d5 HA
   go_wp2_with fail
   refine HE.out.mono ?_;rintro e w4 ⟨rfl,hb4⟩;have HB4:=Hd (HB3.out.trans (hb4.mono HB3.out.size));clear hb4 HE
   go_wp2_with fail
   go_ret
   exact⟨ret_boolS HR.out.symm,HB4.out⟩
theorem scDefine(E:Option Addr) (n c bn bv bd m md:Nat) (vs ds:List ByteArray) (s:ByteArray) (w:World) (hv:SetAt w bv m vs) (hd:SetAt w bd md ds) (hne:bv≠bd) (hm:md<1000000) (hs:s.size≤maxLen):
 Calls Try.prog 60 #[.agg (rmA E n c bn bv bd),.string s] w fun e w'=>e=.returned (.int .i64 (defineB vs ds s))∧Gd bd w w'∧(defineB vs ds s=0→SetAt w' bd (md+1) (ds++[s])):=by
 have HF:=Hd fun w1 hw=>rm_facts w E n c bn bv bd w1 hw;have HC:=Hd fun w1 (a:Below w.heap.size w w1)=>scHas bv m vs s w1 (hv.below a) hs;have HD:=Hd fun w1 (a:Below w.heap.size w w1)=>scHas bd md ds s w1 (hd.below a) hs;have HA:=Hd fun w1 (a:Below w.heap.size w w1)=>scAdd bd md ds s w1 (hd.below a) hm hs;have HO:=Hd (show defineB vs ds s=if vs.any (nmB s)=false then 5 else if ds.any (nmB s)=true then 6 else 0 from rfl);have hlt:=hd.lt;clear hd hs hv;generalize defineB vs ds s=out at *;generalize vs.any (nmB s)=b1 at *;generalize ds.any (nmB s)=b2 at *;unfold rmA at HF ⊢
 go_enter Try.func60,Try.ntmps60
 go_upto_region 1 with(fail)
 generalize hw1:w.alloc _=w1;obtain⟨hb1,hg,hcell⟩:=HF.out w1 hw1;have HB1:=Hd hb1;have HQ:=Hd hcell;have q2:=hcell w1 (Below.refl _ _) 2;simp only [Ya,Yb,Yc] at q2;have HC1:=Hd (HC.out w1 hb1);clear hw1 hcell hb1 HF HC
 cases b1 with
 | false=>
  have HR:=Hd (show out=5 by rw [HO.out,if_pos rfl])
  go_wp2_with fail
  refine HC1.out.mono ?_;rintro e w2 ⟨rfl,hb2⟩;have HB2:=Hd (HB1.out.trans (hb2.mono HB1.out.size));clear hb2 HC1 q2
  go_wp2_with fail
  go_ret
  exact⟨by rw [HR.out];rfl,Gd.of_below HB2.out,fun h=>by rw [HR.out] at h;cases h⟩
 | true=>
  go_wp2_with fail
  refine HC1.out.mono ?_;rintro e w2 ⟨rfl,hb2⟩;have HB2:=Hd (HB1.out.trans (hb2.mono HB1.out.size));have q3:=HQ.out w2 hb2 3;have HQ2:=Hd fun W (b:Below w2.heap.size w2 W) j=>HQ.out W (hb2.trans (b.mono hb2.size)) j;simp only [Ya,Yb,Yc] at q3;have HD2:=Hd (HD.out w2 HB2.out);clear hb2 HC1 q2 HD HQ
  cases b2 with
  | true=>
   have HR:=Hd (show out=6 by rw [HO.out,if_neg (by decide),if_pos rfl])
   go_wp2_with fail
   refine HD2.out.mono ?_;rintro e w3 ⟨rfl,hb3⟩;have HB3:=Hd (HB2.out.trans (hb3.mono HB2.out.size));clear hb3 HD2 q3
   go_wp2_with fail
   go_ret
   exact⟨by rw [HR.out];rfl,Gd.of_below HB3.out,fun h=>by rw [HR.out] at h;cases h⟩
  | false=>
   have HR:=Hd (show out=0 by rw [HO.out,if_neg (by decide),if_neg (by decide)])
   go_wp2_with fail
   refine HD2.out.mono ?_;rintro e w3 ⟨rfl,hb3⟩;have HB3:=Hd (HB2.out.trans (hb3.mono HB2.out.size));have r3:=HQ2.out w3 hb3 3;simp only [Ya,Yb,Yc] at r3;have HA3:=Hd (HA.out w3 HB3.out);clear hb3 HD2 q3 HQ2 HA
   go_wp2_with fail
   refine HA3.out.mono ?_;rintro e w4 ⟨rfl,hs4,hg4⟩;have HS4:=Hd hs4;have HG4:=Hd ((Gd.of_below HB3.out).trans hg4);clear hs4 hg4 HA3 r3
   go_wp2_with fail
   go_ret
   exact⟨by rw [HR.out];rfl,HG4.out,fun _=>HS4.out⟩
end
section
open Go.RowKit Go.Sort Go.BigFrame
theorem scLeads(E:Option Addr) (n c bn bv bd mn mv:Nat) (es:List En) (nds vs:List ByteArray) (x:Ex) (A:Option Addr) (ca:Nat) (B:Option Addr) (cb:Nat) (w:World) (hE:RdE w E n es) (hn:SetAt w bn mn nds) (hv:SetAt w bv mv vs) (hx:rdX w x A B) (hs:x.s.size≤maxLen):
 Calls Try.prog 62 #[.agg (rmA E n c bn bv bd),.agg (exA x A ca B cb)] w fun e w'=>e=.returned (.bool (leadsB vs nds es x))∧Below w.heap.size w w':=by
 have hmk:∀ fn first cap w,(Instr.makeFunc fn first cap).run Try.prog w=.ok (.func fn first cap) w:=fun _ _ _ _=>rfl
 have HF:=Hd fun w1 hw=>rm_facts w E n c bn bv bd w1 hw;have HF2:=Hd fun w w1 hw h=>box_facts w x A ca B cb w1 hw h;have HX:=Hd hx;have HV:=Hd fun w1 (a:Below w.heap.size w w1)=>scHas bv mv vs x.s w1 (hv.below a) hs;have HN:=Hd fun w1 (a:Below w.heap.size w w1)=>scHas bn mn nds x.s w1 (hn.below a) hs;have HA:=Hd fun w1 (a:Below w.heap.size w w1)=>scNoArm E n c bn bv bd es x.s w1 (hE.below a);have HP:=Hd fun w1 (a:Below w.heap.size w w1)=>slHasTF 59 (.agg (rmA E n c bn bv bd)) (fun _ _=>rfl) (fun t=>!armV es t) A x.arms.length ca x.arms w1 (hx.below a).arms (fun t ht W hW=>scNoArm E n c bn bv bd es t W (hE.below (a.trans (hW.mono a.size))));have HO:=Hd (show leadsB vs nds es x=if x.k==3 then vs.any (nmB x.s) else if x.k==11 || x.k==12 then vs.any (nmB x.s) && !(x.arms.any fun a=>!armV es a) else if x.k==4 then armV es x.s else if x.k==13 then nds.any (nmB x.s) else !(x.k==17) from rfl);clear hE hn hv hs hx;generalize leadsB vs nds es x=out at *;generalize vs.any (nmB x.s)=bh at *;generalize nds.any (nmB x.s)=bm at *;generalize armV es x.s=ba at *;generalize (x.arms.any fun a=>!armV es a)=bp at *;unfold rmA at HF HA HP ⊢;unfold exA at HF2 ⊢;generalize x.arms.length=la at *;generalize x.subs.length=lb at *;generalize x.s=s at *;generalize x.k=k at *
 rcases(show k=3∨k=11∨k=12∨k=4∨k=13∨k=17∨((k==3)=false∧(k==11)=false∧(k==12)=false∧(k==4)=false∧(k==13)=false∧(k==17)=false) by
  simp only [beq_eq_false_iff_ne];omega) with rfl | rfl | rfl | rfl | rfl | rfl | ⟨b3,b11,b12,b4,b13,b17⟩
 · have HR:=Hd (show out=bh by rw [HO.out];rfl)
   go_enter Try.func62,Try.ntmps62
   go_upto_region 1 with(fail)
   generalize hw1:w.alloc _=w1;obtain⟨hb1,hg,hcell⟩:=HF.out w1 hw1;generalize hw2:w1.alloc _=w2;obtain⟨hb2,hg2,hr2,hcell2⟩:=HF2.out w1 w2 hw2 (HX.out.below hb1);rw [hg] at hcell2;have HB2:=Hd (hb1.trans (hb2.mono hb1.size));obtain⟨d0,-,d2,-,d4,-⟩:=Sx (hcell2 w2 (Below.refl _ _));obtain⟨q0,q1,q2,q3,-,-⟩:=Sx (hcell w2 hb2);simp only [Ya,Yb,Yc] at d0 d2 d4 q0 q1 q2 q3;have HQ0:=Hd fun W (b:Below w2.heap.size w2 W) j=>hcell W (hb2.trans (b.mono hb2.size)) j;have HQ1:=Hd fun W (b:Below w2.heap.size w2 W) j=>hcell2 W b j;clear hw1 hw2 hcell hcell2 hb1 hb2 HF HF2 hr2;have HD:=Hd (HV.out w2 HB2.out);clear HV HN HA HP
   go_wp2_with fail
   refine HD.out.mono ?_;rintro e w3 ⟨rfl,hb3⟩;have HB3:=Hd (HB2.out.trans (hb3.mono HB2.out.size));clear hb3 HD q0 q1 q2 q3 d0 d2 d4
   go_wp2_with fail
   go_ret
   exact⟨ret_boolS HR.out.symm,HB3.out⟩
 · have HR:=Hd (show out=(bh && !bp) by rw [HO.out];rfl)
   go_enter Try.func62,Try.ntmps62
   go_upto_region 1 with(fail)
   generalize hw1:w.alloc _=w1;obtain⟨hb1,hg,hcell⟩:=HF.out w1 hw1;generalize hw2:w1.alloc _=w2;obtain⟨hb2,hg2,hr2,hcell2⟩:=HF2.out w1 w2 hw2 (HX.out.below hb1);rw [hg] at hcell2;have HB2:=Hd (hb1.trans (hb2.mono hb1.size));obtain⟨d0,-,d2,-,d4,-⟩:=Sx (hcell2 w2 (Below.refl _ _));obtain⟨q0,q1,q2,q3,-,-⟩:=Sx (hcell w2 hb2);simp only [Ya,Yb,Yc] at d0 d2 d4 q0 q1 q2 q3;have HQ0:=Hd fun W (b:Below w2.heap.size w2 W) j=>hcell W (hb2.trans (b.mono hb2.size)) j;have HQ1:=Hd fun W (b:Below w2.heap.size w2 W) j=>hcell2 W b j;clear hw1 hw2 hcell hcell2 hb1 hb2 HF HF2 hr2;have HD:=Hd (HV.out w2 HB2.out);clear HV HN HA
   cases bh with
   | false=>
    go_wp2_with fail
    refine HD.out.mono ?_;rintro e w3 ⟨rfl,hb3⟩;have HB3:=Hd (HB2.out.trans (hb3.mono HB2.out.size));clear hb3 HD q0 q1 q2 q3 d0 d2 d4 HP
    go_wp2_with fail
    go_ret
    exact⟨ret_boolS HR.out.symm,HB3.out⟩
   | true=>
    go_wp2_with fail
    refine HD.out.mono ?_;rintro e w3 ⟨rfl,hb3⟩;have HB3:=Hd (HB2.out.trans (hb3.mono HB2.out.size));have e4:=HQ1.out w3 hb3 4;obtain⟨r0,r1,r2,r3,-,-⟩:=Sx (HQ0.out w3 hb3);simp only [Ya,Yb,Yc] at e4 r0 r1 r2 r3;have HE:=Hd (HP.out w3 HB3.out);clear hb3 HD q0 q1 q2 q3 d0 d2 d4 HP
    go_wp2_with fail
    refine HE.out.mono ?_;rintro e w4 ⟨rfl,hb4⟩;have HB4:=Hd (HB3.out.trans (hb4.mono HB3.out.size));clear hb4 HE
    go_wp2_with fail
    go_ret
    exact⟨ret_boolS HR.out.symm,HB4.out⟩
 · have HR:=Hd (show out=(bh && !bp) by rw [HO.out];rfl)
   go_enter Try.func62,Try.ntmps62
   go_upto_region 1 with(fail)
   generalize hw1:w.alloc _=w1;obtain⟨hb1,hg,hcell⟩:=HF.out w1 hw1;generalize hw2:w1.alloc _=w2;obtain⟨hb2,hg2,hr2,hcell2⟩:=HF2.out w1 w2 hw2 (HX.out.below hb1);rw [hg] at hcell2;have HB2:=Hd (hb1.trans (hb2.mono hb1.size));obtain⟨d0,-,d2,-,d4,-⟩:=Sx (hcell2 w2 (Below.refl _ _));obtain⟨q0,q1,q2,q3,-,-⟩:=Sx (hcell w2 hb2);simp only [Ya,Yb,Yc] at d0 d2 d4 q0 q1 q2 q3;have HQ0:=Hd fun W (b:Below w2.heap.size w2 W) j=>hcell W (hb2.trans (b.mono hb2.size)) j;have HQ1:=Hd fun W (b:Below w2.heap.size w2 W) j=>hcell2 W b j;clear hw1 hw2 hcell hcell2 hb1 hb2 HF HF2 hr2;have HD:=Hd (HV.out w2 HB2.out);clear HV HN HA
   cases bh with
   | false=>
    go_wp2_with fail
    refine HD.out.mono ?_;rintro e w3 ⟨rfl,hb3⟩;have HB3:=Hd (HB2.out.trans (hb3.mono HB2.out.size));clear hb3 HD q0 q1 q2 q3 d0 d2 d4 HP
    go_wp2_with fail
    go_ret
    exact⟨ret_boolS HR.out.symm,HB3.out⟩
   | true=>
    go_wp2_with fail
    refine HD.out.mono ?_;rintro e w3 ⟨rfl,hb3⟩;have HB3:=Hd (HB2.out.trans (hb3.mono HB2.out.size));have e4:=HQ1.out w3 hb3 4;obtain⟨r0,r1,r2,r3,-,-⟩:=Sx (HQ0.out w3 hb3);simp only [Ya,Yb,Yc] at e4 r0 r1 r2 r3;have HE:=Hd (HP.out w3 HB3.out);clear hb3 HD q0 q1 q2 q3 d0 d2 d4 HP
    go_wp2_with fail
    refine HE.out.mono ?_;rintro e w4 ⟨rfl,hb4⟩;have HB4:=Hd (HB3.out.trans (hb4.mono HB3.out.size));clear hb4 HE
    go_wp2_with fail
    go_ret
    exact⟨ret_boolS HR.out.symm,HB4.out⟩
 · have HR:=Hd (show out=ba by rw [HO.out];rfl)
   go_enter Try.func62,Try.ntmps62
   go_upto_region 1 with(fail)
   generalize hw1:w.alloc _=w1;obtain⟨hb1,hg,hcell⟩:=HF.out w1 hw1;generalize hw2:w1.alloc _=w2;obtain⟨hb2,hg2,hr2,hcell2⟩:=HF2.out w1 w2 hw2 (HX.out.below hb1);rw [hg] at hcell2;have HB2:=Hd (hb1.trans (hb2.mono hb1.size));obtain⟨d0,-,d2,-,d4,-⟩:=Sx (hcell2 w2 (Below.refl _ _));obtain⟨q0,q1,q2,q3,-,-⟩:=Sx (hcell w2 hb2);simp only [Ya,Yb,Yc] at d0 d2 d4 q0 q1 q2 q3;have HQ0:=Hd fun W (b:Below w2.heap.size w2 W) j=>hcell W (hb2.trans (b.mono hb2.size)) j;have HQ1:=Hd fun W (b:Below w2.heap.size w2 W) j=>hcell2 W b j;clear hw1 hw2 hcell hcell2 hb1 hb2 HF HF2 hr2;have HD:=Hd (HA.out w2 HB2.out);clear HV HN HA HP
   go_wp2_with fail
   refine HD.out.mono ?_;rintro e w3 ⟨rfl,hb3⟩;have HB3:=Hd (HB2.out.trans (hb3.mono HB2.out.size));clear hb3 HD q0 q1 q2 q3 d0 d2 d4
   go_wp2_with fail
   go_ret
   exact⟨ret_boolS HR.out.symm,HB3.out⟩
 · have HR:=Hd (show out=bm by rw [HO.out];rfl)
   go_enter Try.func62,Try.ntmps62
   go_upto_region 1 with(fail)
   generalize hw1:w.alloc _=w1;obtain⟨hb1,hg,hcell⟩:=HF.out w1 hw1;generalize hw2:w1.alloc _=w2;obtain⟨hb2,hg2,hr2,hcell2⟩:=HF2.out w1 w2 hw2 (HX.out.below hb1);rw [hg] at hcell2;have HB2:=Hd (hb1.trans (hb2.mono hb1.size));obtain⟨d0,-,d2,-,d4,-⟩:=Sx (hcell2 w2 (Below.refl _ _));obtain⟨q0,q1,q2,q3,-,-⟩:=Sx (hcell w2 hb2);simp only [Ya,Yb,Yc] at d0 d2 d4 q0 q1 q2 q3;have HQ0:=Hd fun W (b:Below w2.heap.size w2 W) j=>hcell W (hb2.trans (b.mono hb2.size)) j;have HQ1:=Hd fun W (b:Below w2.heap.size w2 W) j=>hcell2 W b j;clear hw1 hw2 hcell hcell2 hb1 hb2 HF HF2 hr2;have HD:=Hd (HN.out w2 HB2.out);clear HV HN HA HP
   go_wp2_with fail
   refine HD.out.mono ?_;rintro e w3 ⟨rfl,hb3⟩;have HB3:=Hd (HB2.out.trans (hb3.mono HB2.out.size));clear hb3 HD q0 q1 q2 q3 d0 d2 d4
   go_wp2_with fail
   go_ret
   exact⟨ret_boolS HR.out.symm,HB3.out⟩
 · have HR:=Hd (show out=false by rw [HO.out];rfl)
   go_enter Try.func62,Try.ntmps62
   go_upto_region 1 with(fail)
   generalize hw1:w.alloc _=w1;obtain⟨hb1,hg,hcell⟩:=HF.out w1 hw1;generalize hw2:w1.alloc _=w2;obtain⟨hb2,hg2,hr2,hcell2⟩:=HF2.out w1 w2 hw2 (HX.out.below hb1);rw [hg] at hcell2;have HB2:=Hd (hb1.trans (hb2.mono hb1.size));obtain⟨d0,-,d2,-,d4,-⟩:=Sx (hcell2 w2 (Below.refl _ _));obtain⟨q0,q1,q2,q3,-,-⟩:=Sx (hcell w2 hb2);simp only [Ya,Yb,Yc] at d0 d2 d4 q0 q1 q2 q3;have HQ0:=Hd fun W (b:Below w2.heap.size w2 W) j=>hcell W (hb2.trans (b.mono hb2.size)) j;have HQ1:=Hd fun W (b:Below w2.heap.size w2 W) j=>hcell2 W b j;clear hw1 hw2 hcell hcell2 hb1 hb2 HF HF2 hr2;clear HV HN HA HP
   go_wp2_with fail
   go_ret
   exact⟨ret_boolS HR.out.symm,HB2.out⟩
 · have HR:=Hd (show out=true by rw [HO.out];rw [b3,b11,b12,b4,b13,b17];rfl)
   go_enter Try.func62,Try.ntmps62
   go_upto_region 1 with(fail)
   generalize hw1:w.alloc _=w1;obtain⟨hb1,hg,hcell⟩:=HF.out w1 hw1;generalize hw2:w1.alloc _=w2;obtain⟨hb2,hg2,hr2,hcell2⟩:=HF2.out w1 w2 hw2 (HX.out.below hb1);rw [hg] at hcell2;have HB2:=Hd (hb1.trans (hb2.mono hb1.size));obtain⟨d0,-,d2,-,d4,-⟩:=Sx (hcell2 w2 (Below.refl _ _));obtain⟨q0,q1,q2,q3,-,-⟩:=Sx (hcell w2 hb2);simp only [Ya,Yb,Yc] at d0 d2 d4 q0 q1 q2 q3;have HQ0:=Hd fun W (b:Below w2.heap.size w2 W) j=>hcell W (hb2.trans (b.mono hb2.size)) j;have HQ1:=Hd fun W (b:Below w2.heap.size w2 W) j=>hcell2 W b j;clear hw1 hw2 hcell hcell2 hb1 hb2 HF HF2 hr2;clear HV HN HA HP
   go_wp2_with fail
   go_ret
   exact⟨ret_boolS HR.out.symm,HB2.out⟩
end
section
open Go.RowKit Go.Sort Go.BigFrame
theorem rm_info:(Try.prog.info? 66).map (·.size)=some 4:=by kernel_rfl
theorem res_rm{fn:Func}{p:Tmp}(h:fn.results=#[.cell p 66]) (tmps:Array Value) (w:World) (i:Nat) (E:Option Addr) (n c bn bv bd:Nat)
 (hp:tmps.getD p undef=.pointer (some ⟨i,0,none⟩)) (hg:w.heap[i]?=some (Obj.cells (rmA E n c bn bv bd) 66)):(results fn tmps).run Try.prog w=.ok (.agg (rmA E n c bn bv bd)) w:=
 results_cell_row h tmps w i _ _ _ _ hp hg Try.underlying66 rfl rm_info
theorem names_snoc{l:List Dc}{k:Nat}(h:k<l.length):(namesD l).take (k+1)=(namesD l).take k++[(l[k]?.getD default).nm]:=by
 unfold namesD;rw [List.take_succ_eq_append_getElem (by simpa using h),List.getElem?_eq_getElem h]
 simp
theorem SetAt.row{W:World}{b m g:Nat}{l:List ByteArray}(h:SetAt W b m l) (hne:b≠g) (cs:Array Value):SetAt (W.setRow g cs) b m l:=
 h.kept (row:=some g) ⟨rfl,rfl,rfl,by simp,fun k _ hk=>setRow_other W g k _ (fun e=>hk (by rw [e]))⟩ (fun e=>hne (by injection e))
theorem box_new{w w1:World}{o:Obj}(h:w.alloc o=w1):Below w.heap.size w w1∧w1.heap.size=w.heap.size+1∧w1.heap[w.heap.size]?=some o:=by
 subst h;exact⟨(Below.refl _ _).alloc (Nat.le_refl _) _,by simp,World.alloc_heap_new _ _⟩
theorem set_new{w w1:World}(h:w.alloc (.map #[] 0)=w1):SetAt w1 w.heap.size 0 []:=by
 subst h;exact SetAt.new _
def RoomP(E:Option Addr) (n c bn:Nat) (w:World) (x:Nd) (e:Ending) (w':World):Prop:=
 ∃ bv bd,e=.returned (.agg (rmA E n c bn bv bd))∧SetAt w' bv x.all.length (namesD x.all)∧SetAt w' bd x.ins.length (namesD x.ins)∧Below w.heap.size w w'∧w.heap.size≤bv∧bv<bd
theorem scWithin(E:Option Addr) (n c bn:Nat) (x:Nd) (A1:Option Addr) (c1:Nat) (A2:Option Addr) (c2:Nat) (A3:Option Addr) (c3:Nat) (A4:Option Addr) (c4:Nat) (w:World) (h:rdN w x A1 A2 A3 A4) (hn:x.all.length≤1000) (hz:∀ d∈x.all,d.nm.size≤maxLen):
 Calls Try.prog 21 #[.slice E n c,.map (some bn),.agg (ndA x A1 c1 A2 c2 A3 c3 A4 c4)] w (RoomP E n c bn w x):=by
 have hmm:=@run_makeMap Try.prog;have HF:=Hd fun w1 hw=>nd_facts w x A1 c1 A2 c2 A3 c3 A4 c4 w1 hw h;have HCC:=Hd fun b w1 (a:rdN w1 x A1 A2 A3 A4) hc hb=>slConcatD x A1 c1 A2 c2 A3 c3 A4 b w1 a hc hb (by omega);have HI:=Hd h.1;have HSA:=Hd fun k (hk:k<x.all.length)=>names_snoc (l:=x.all) (k:=k) hk;have HSI:=Hd fun k (hk:k<x.ins.length)=>names_snoc (l:=x.ins) (k:=k) hk;have HZA:=Hd fun k (hk:k<x.all.length)=>hz _ (getD_memA (l:=x.all) hk);have hli:x.ins.length≤x.all.length:=by unfold Nd.all;simp
 have HZI:=Hd fun k (hk:k<x.ins.length)=>hz (x.ins[k]?.getD default) (by unfold Nd.all;rw [List.append_assoc];exact List.mem_append_left _ (getD_memA (l:=x.ins) hk));have HEA:=Hd (show(namesD x.all).take x.all.length=namesD x.all from List.take_of_length_le (by unfold namesD;simp));have HEI:=Hd (show(namesD x.ins).take x.ins.length=namesD x.ins from List.take_of_length_le (by unfold namesD;simp));have HBX:=Hd (fun w d w1 h=>dc_facts w d w1 h);have hRP:∀ bv bd w',SetAt w' bv x.all.length (namesD x.all)→SetAt w' bd x.ins.length (namesD x.ins)→Below w.heap.size w w'→w.heap.size≤bv→bv<bd→RoomP E n c bn w x (.returned (.agg (rmA E n c bn bv bd))) w':=fun bv bd w' h1 h2 h3 h4 h5=>⟨bv,bd,rfl,h1,h2,h3,h4,h5⟩;have HRP:=Hd hRP;clear h hz hRP;generalize RoomP E n c bn w x=RP at *;unfold ndA at HF ⊢;unfold lists3 at HCC;unfold dcA at HBX;generalize namesD x.all=sa at *;generalize namesD x.ins=si at *;generalize hal:x.all=al at *;generalize hil:x.ins=il at *;generalize hna:al.length=na at *;generalize hni:il.length=ni at *;have HNA:=Hd hna;have HNI:=Hd hni;clear hal hil hna hni
 go_enter Try.func21,Try.ntmps21
 go_upto_region 2 with(fail)
 generalize hw1:w.alloc _=w1;obtain⟨hb1,hg1,hr1,hcell1⟩:=HF.out w1 hw1;have HC1:=Hd hcell1;have HR1:=Hd hr1;have HB1:=Hd hb1;generalize hw2:w1.alloc _=w2;obtain⟨hb2,hg2,hz2⟩:=box_new hw2;generalize hw3:w2.alloc _=w3;obtain⟨hb3,hg3,-⟩:=box_new hw3;have hs3:=set_new hw3;generalize hw4:w3.alloc _=w4;obtain⟨hb4,hg4,-⟩:=box_new hw4;have hs4:=set_new hw4;generalize hw5:w4.alloc _=w5;obtain⟨hb5,hg5,hz5⟩:=box_new hw5;rw [hg1] at hz2;rw [hg2,hg1] at hs3;rw [hg3,hg2,hg1] at hs4;rw [hg4,hg3,hg2,hg1] at hz5;have hb15:Below w1.heap.size w1 w5:=((hb2.trans (hb3.mono (by omega))).trans (hb4.mono (by omega))).trans (hb5.mono (by omega));have hb25:Below w2.heap.size w2 w5:=(hb3.trans (hb4.mono (by omega))).trans (hb5.mono (by omega));have hb35:Below w3.heap.size w3 w5:=hb4.trans (hb5.mono (by omega));have hz25:=(hb25.block (w.heap.size+1) (by omega)).trans hz2;have hs35:=hs3.below hb35;have hs45:=hs4.below hb5;have hB5:Below w.heap.size w w5:=hb1.trans (hb15.mono (by omega));have hg:w5.heap.size=w.heap.size+1+1+1+1+1:=by omega
 obtain⟨-,q1,q2,q3,-,-⟩:=Sx (hcell1 w5 hb15);simp only [Ya,Yb,Yc] at q1 q2 q3;have hb6:=(Below.refl w5.heap.size w5).alloc (Nat.le_refl _) (.cells #[.slice A1 ni c1,.slice A2 x.outs.length c2,.slice A3 x.vars.length c3] 38);have HC6:=Hd (HCC.out w5.heap.size _ ((hr1.below hb15).below hb6) (fun j=>by rw [World.cell?_alloc_new]) (by simp));have HB6:=Hd hb6;have HN:=Hd fun W (b:Below w5.heap.size w5 W) j=>hcell1 W (hb15.trans (b.mono (by omega))) j;have HZ5:=Hd hz5;have HZ2:=Hd hz25;have HS3:=Hd hs35;have HS4:=Hd hs45;have HB5:=Hd hB5;have HG5:=Hd hg;clear hw1 hw2 hw3 hw4 hw5 hcell1 hr1 hb1 hb2 hb3 hb4 hb5 hb15 hb25 hb35 hz2 hz5 hz25 hs3 hs4 hs35 hs45 hB5 HF HCC hb6 hg1 hg2 hg3 hg4 hg5;clear hg
 go_wp2_with fail
 refine HC6.out.mono ?_;rintro e w6 ⟨A,cA,rfl,hrd,hb6⟩;have hB56:Below w5.heap.size w5 w6:=HB6.out.trans (hb6.mono HB6.out.size);have HRD:=Hd hrd;have HN6:=Hd (HN.out w6 hB56);have HZ56:=Hd ((hB56.block (w.heap.size+1+1+1+1) (by rw [HG5.out];omega)).trans HZ5.out);have HZ26:=Hd ((hB56.block (w.heap.size+1) (by rw [HG5.out];omega)).trans HZ2.out);have HS36:=Hd (HS3.out.below hB56);have HS46:=Hd (HS4.out.below hB56);have HB06:=Hd (HB5.out.trans (hB56.mono HB5.out.size));have HG6:=Hd (show w.heap.size+1+1+1+1+1≤w6.heap.size by have:=hB56.size;rw [HG5.out] at this;exact this);clear hrd hb6 hB56 HN HZ5 HZ2 HS3 HS4 HB6 HB5 HG5 q1 q2 q3;clear HC6
 go_wp2_with fail
 go_loopw [26] (fun i wr=>∃ k:Nat,k≤na∧i=.int .i64 k∧SetAt wr (w.heap.size+1+1) k (sa.take k)∧Gd (w.heap.size+1+1) w6 wr) (fun i _=>na-(intOf i).toNat)
 case atStart=>exact⟨0,Nat.zero_le _,rfl,HS36.out,Gd.refl _⟩
 case round=>
  obtain⟨k,hk,rfl,hset,hgd⟩:=hrel;have HS:=Hd hset;have HGD:=Hd hgd;clear hset
  by_cases hlt:k<na
  · obtain⟨b,off,rfl,hb,d0,d1,d2,d3,d4,d5⟩:=dc_at (hgd.rdD HRD.out) hlt;have HZK:=Hd (HZA.out k hlt);have HSK:=Hd (HSA.out k hlt);clear hgd;generalize al[k]?.getD default=p at *
    go_upto_region 5 with(fail)
    generalize hw7:wr.alloc _=w7;obtain⟨hb7,hg7,hcell7⟩:=HBX.out wr p w7 hw7;have r2:=(hb7.cell (p:=⟨w.heap.size+1+1+1+1,2,none⟩) (Nat.lt_of_lt_of_le (by have:=HG6.out;show w.heap.size+1+1+1+1<w6.heap.size;omega) HGD.out.size)).trans ((HGD.out.cell (j:=2) (by have:=HG6.out;omega)).trans (blk_cell HZ56.out 2));have e0:=hcell7 w7 (Below.refl _ _) 0;simp only [Ya,Yb,Yc] at e0 r2;have HAD:=Hd (scAdd (w.heap.size+1+1) k (sa.take k) p.nm w7 (HS.out.below hb7) (by omega) HZK.out);have HG7:=Hd (HGD.out.trans (Gd.of_below hb7));clear hw7 hb7 hcell7 d0 d1 d2 d3 d4 d5 hg7
    go_wp2_with fail
    refine HAD.out.mono ?_;rintro e w8 ⟨rfl,hs8,hg8⟩;have HS8:=Hd hs8;have HG8:=Hd (HG7.out.trans hg8);clear hs8 hg8 e0 r2 HAD
    go_wp2_with fail
    go_roundw
    case rel=>exact⟨k+1,by omega,by go_num,by rw [HSK.out];exact HS8.out,HG8.out⟩
    case measure=>simp [intOf];omega
  · obtain rfl:k=na:=by omega
    have n1:=(hgd.cell (j:=1) (i:=w.heap.size) (by have:=HG6.out;omega)).trans (HN6.out 1);simp only [Ya,Yb,Yc] at n1;have HBW:=Hd (Gd.below HB06.out hgd HB06.out.size (by omega));clear hgd
    go_wp2_with fail
    generalize wr=wz at *
    go_loopw [39] (fun i wr=>∃ j:Nat,j≤ni∧i=.int .i64 j∧SetAt wr (w.heap.size+1+1+1) j (si.take j)∧Gd (w.heap.size+1+1+1) wz wr) (fun i _=>ni-(intOf i).toNat)
    case atStart=>exact⟨0,Nat.zero_le _,rfl,HS46.out.gd HGD.out (by omega),Gd.refl _⟩
    case round=>
     obtain⟨j,hj,rfl,hset2,hgd2⟩:=hrel;have HS2:=Hd hset2;have HGD2:=Hd hgd2;have HBR:=Hd (Gd.below HBW.out hgd2 HBW.out.size (by omega));clear hset2 hgd2
     by_cases hlt2:j<ni
     · obtain⟨b,off,rfl,hb,d0,d1,d2,d3,d4,d5⟩:=dc_at (HI.out.below HBR.out) hlt2;have HZK:=Hd (HZI.out j hlt2);have HSK:=Hd (HSI.out j hlt2);generalize il[j]?.getD default=p at *
       go_upto_region 10 with(fail)
       generalize hw7:wr.alloc _=w7;obtain⟨hb7,hg7,hcell7⟩:=HBX.out wr p w7 hw7
       have r3:=(hb7.cell (p:=⟨w.heap.size+1+1+1+1,3,none⟩) (Nat.lt_of_lt_of_le (Nat.lt_of_lt_of_le (by have:=HG6.out;show w.heap.size+1+1+1+1<w6.heap.size;omega) HGD.out.size) HGD2.out.size)).trans
        ((HGD2.out.cell (j:=3) (Nat.lt_of_lt_of_le (by have:=HG6.out;omega) HGD.out.size)).trans ((HGD.out.cell (j:=3) (by have:=HG6.out;omega)).trans (blk_cell HZ56.out 3)))
       have e0:=hcell7 w7 (Below.refl _ _) 0;simp only [Ya,Yb,Yc] at e0 r3;have HAD:=Hd (scAdd (w.heap.size+1+1+1) j (si.take j) p.nm w7 (HS2.out.below hb7) (by omega) HZK.out);have HG7:=Hd (HGD2.out.trans (Gd.of_below hb7));clear hw7 hb7 hcell7 d0 d1 d2 d3 d4 d5 hg7
       go_wp2_with fail
       refine HAD.out.mono ?_;rintro e w8 ⟨rfl,hs8,hg8⟩;have HS8:=Hd hs8;have HG8:=Hd (HG7.out.trans hg8);clear hs8 hg8 e0 r3 HAD
       go_wp2_with fail
       go_roundw
       case rel=>exact⟨j+1,by omega,by go_num,by rw [HSK.out];exact HS8.out,HG8.out⟩
       case measure=>simp [intOf];omega
     · obtain rfl:j=ni:=by omega
       have hlz:w.heap.size+1+1+1+1<wz.heap.size:=Nat.lt_of_lt_of_le (by have:=HG6.out;omega) HGD.out.size;have HV:=Hd (HGD2.out.blk (HGD.out.blk HZ26.out (by omega)) (by omega));have hR:∀ a,wr.cell? ⟨w.heap.size+1+1+1+1,a,none⟩=_:=fun a=>(HGD2.out.cell (j:=a) hlz).trans ((HGD.out.cell (j:=a) (by have:=HG6.out;omega)).trans (blk_cell HZ56.out a));obtain⟨r0,r1,r2,r3,-,-⟩:=Sx hR;simp only [Ya,Yb,Yc] at r0 r1 r2 r3;have HSA2:=Hd (show SetAt wr (w.heap.size+1+1) k sa by have:=HS.out.gd HGD2.out (by omega);rwa [HEA.out] at this);have HSI2:=Hd (show SetAt wr (w.heap.size+1+1+1) j si by have:=HS2.out;rwa [HEI.out] at this);clear hR hlz
       go_wp2_with (refine wpList_store_row rfl _ _ _ rfl (w.heap.size+1) _ rfl rfl _ _ HV.out rm_info rfl (by simp [Value.oneCell']) ?_)
       exact bodyPost_ret (res_rm (p:=6) rfl _ _ (w.heap.size+1) E n c bn (w.heap.size+1+1) (w.heap.size+1+1+1) rfl (setRow_heap _ _ _ _ _ _ HV.out)) rfl
        (HRP.out _ _ _ (HSA2.out.row (by omega) _) (HSI2.out.row (by omega) _) (below_setRow HBR.out (by omega) _) (by omega) (by omega))
end
end Go.Proofs.Ytpehkppcdlboeaa
