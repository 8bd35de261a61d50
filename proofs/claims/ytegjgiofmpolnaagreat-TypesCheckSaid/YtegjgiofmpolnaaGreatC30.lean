/- Parts of the proof: ScK, ScL, ScR, ScS. Conditions: each theorem's own. -/
import Derived.Test.YtegjgiofmpolnaaGreatC14
import Derived.Test.YtegjgiofmpolnaaGreatC28
namespace Go.Proofs.YtegjgiofmpolnaaGreat
set_option linter.unusedVariables false
set_option linter.unusedSimpArgs false
set_option maxRecDepth 100000
set_option maxHeartbeats 40000000
section
open Go.RowKit Go.Sort Go.Maps Go.WideMaps
def mN(l:List ByteArray):DataW Unit:=setOf (.agg []) (l.map fun s=>Lit.string s.data.toList)
theorem aNv:mN []=.map []:=by simp [mN,setOf]
theorem aK6(l:List ByteArray) (s:ByteArray):mN (l++[s])=(mN l).put (.string s.data.toList) (.agg []):=by
 unfold mN;rw [Zp];exact setOf_snoc _ _ _
theorem aNw(l:List ByteArray) (s:ByteArray):Maps.has (mN l) (.string s.data.toList)=l.any (bQ s):=by
 unfold mN;rw [has_setOf _ _ _ (fun y hy=>by obtain⟨_,_,rfl⟩:=List.mem_map.1 hy;trivial),vS,Zm,decide_eq_true_eq,List.any_eq_true,List.mem_map];exact⟨fun⟨a,h,e⟩=>⟨a,h,yW.2 e⟩,fun⟨a,h,e⟩=>⟨a,h,yW.1 e⟩⟩
def bJ(W:World) (b m:Nat) (l:List ByteArray):Prop:=W.ownsMap Tryz.prog 9 unitElem b m (mN l)
section
variable {W W':World}{b d m:Nat}{l:List ByteArray}
theorem bJ.lt(h:bJ W b m l):b<W.heap.size:=World.ownsMap.lt h
theorem bJ.kept(h:bJ W b m l){row:Option Nat}(hg:W.grownBy W' row) (Aa:some b≠row):bJ W' b m l:=World.ownsMap.kept h hg Aa
theorem bJ.below(h:bJ W b m l) (hb:Below W.heap.size W W'):bJ W' b m l:=h.kept (rF hb) (by simp)
theorem bJ.mono(h:bJ W b m l){m':Nat}(hm:m<=m'):bJ W b m' l:=World.ownsMap.mono h hm
theorem bJ.new(W:World):bJ (W.alloc (.map #[] 0)) W.heap.size 0 []:=by unfold bJ;rw [aNv];exact World.ownsMap_made _ _ _ _
theorem bJ.no_cell(h:bJ W b m l){p:Addr}(hp:p.block=b):W.cell? p=none:=by
 obtain⟨es,Aa,hb,-⟩:=h;unfold World.cell?;rw [hp,hb]
def Gd(d:Nat) (W W':World):Prop:=W.grownBy W' (some d)/\∀ p:Addr,p.block<W.heap.size->W'.cell? p=W.cell? p
theorem Gd.refl(W:World):Gd d W W:=⟨World.grownBy.refl _ _,fun _ _=>rfl⟩
theorem Gd.of_below(h:Below W.heap.size W W'):Gd d W W':=⟨(rF h).but _,fun _ hp=>h.cell hp⟩
theorem Gd.trans{A B C:World}(h:Gd d A B) (k:Gd d B C):Gd d A C:=⟨World.grownBy.trans h.1 k.1,fun p hp=>(k.2 p (Yr hp (World.grownBy.size h.1))).trans (h.2 p hp)⟩
theorem Gd.size(h:Gd d W W'):W.heap.size<=W'.heap.size:=World.grownBy.size h.1
theorem Gd.below{w:World}{n:Nat}(hw:Below n w W) (h:Gd d W W') (hn:n<=W.heap.size) (hd:n<=d):Below n w W':=hw.grown h.1 hn (fun j e=>by cases e;exact hd)
theorem Gd.block(h:Gd d W W'){i:Nat}(hi:i<W.heap.size) (Aa:i≠d):W'.heap[i]?=W.heap[i]?:=World.grownBy.block h.1 i hi (fun e=>Aa (by injection e))
theorem Gd.blk(h:Gd d W W'){i:Nat}{cs:Array Value}{T:TypeId}(e:W.heap[i]?=some (Obj.cells cs T)) (Aa:i≠d):W'.heap[i]?=some (Obj.cells cs T):=(h.block (Yl.1 e).1 Aa).trans e
theorem Gd.cell(h:Gd d W W'){i j:Nat}(hi:i<W.heap.size):W'.cell? ⟨i,j,none⟩=W.cell? ⟨i,j,none⟩:=h.2 ⟨i,j,none⟩ hi
theorem Gd.new{w:World}{n:Nat}(h:Gd d w W) (hb:Below n W W') (hn:w.heap.size<=n):Gd d w W' :=
 ⟨⟨hb.os.trans h.1.os,hb.tape.trans h.1.tape,hb.output.trans h.1.output,Yp h.size hb.size,fun i hi Aa=>(hb.block i (Yr hi hn)).trans (h.1.block i hi Aa)⟩,
  fun p hp=>(hb.cell (Yr hp hn)).trans (h.2 p hp)⟩
theorem bJ.gd(h:bJ W b m l) (hg:Gd d W W') (Aa:b≠d):bJ W' b m l:=h.kept hg.1 (fun e=>Aa (by injection e))
theorem Gd.rdD{A:Option Addr}{n:Nat}{l:List Dc}(h:Gd d W W') (r:cH W A n l):cH W' A n l:=r.keep h.size h.2
end
theorem bU{W:World}{i:Nat}{cs:Array Value}{T:TypeId}(e:W.heap[i]?=some (Obj.cells cs T)) (j:Nat):W.cell? ⟨i,j,none⟩=cs[j]?:=by simp [World.cell?,e]
theorem vC(b m:Nat) (l:List ByteArray) (s:ByteArray) (w:World) (h:bJ w b m l) (hm:m<1000000) (hs:s.size<=maxLen):
 Calls Tryz.prog 56 #[.map (some b),.string s] w fun e w'=>e=.returned (.tuple #[])/\bJ w' b (m+1) (l++[s])/\Gd b w w':=by
 have Ac:keyOf Tryz.prog 9 (.string s)=some (.string s.data.toList):=keyOf_string_mk Tryz.underlying9 hs;have Ag:m<maxLen:=by unfold maxLen;omega
 have HS:=Hd (aK6 l s);have h0:=h
 have HG:=Hd (fun w' (h:w.grownBy w' (some b)) (Af:bJ w' b (m+1) (l++[s]))=>(show Gd b w w' from⟨h,fun p hp=>by
  by_cases e:p.block=b
  . rw [h0.no_cell e,Af.no_cell e]
  . exact Ym (h.block p.block hp (fun e'=>e (by injection e')))⟩))
 have Ad:w.ownsMap Tryz.prog 9 unitElem b m (mN l):=h;unfold bJ;rw [HS.o];have Ae:=Hd HS.o;clear h HS h0
 go_enter Tryz.func56,Tryz.ntmps56
 go_wp2_with (at_mapUpdate;refine wpList_mapUpdate_own _ rfl _ _ _ 90 rfl 9 136 sB Tryz.underlying90 (unitElem (H:=Unit)) b m _ rfl Ad Ag _ _ _ rfl rfl Ac _ [] unitElem_mk ?_;intro w1 Ab Aa)
 have HW:=Hd Ab;have Ah:=Hd (HG.o _ Aa (by unfold bJ;rw [Ae.o];exact Ab));clear Ab Aa
 go_wp2_with fail
 go_end0
 exact⟨rfl,HW.o,Ah.o⟩
theorem qY(b m:Nat) (l:List ByteArray) (s:ByteArray) (w:World) (h:bJ w b m l) (hs:s.size<=maxLen):
 Calls Tryz.prog 148 #[.map (some b),.string s] w fun e w'=>e=.returned (.bool (l.any (bQ s)))/\Below w.heap.size w w':=by
 have Aa:keyOf Tryz.prog 9 (.string s)=some (.string s.data.toList):=keyOf_string_mk Tryz.underlying9 hs;have Ac:=aNw l s;have Ab:w.ownsMap Tryz.prog 9 unitElem b m (mN l):=h;clear h;generalize l.any (bQ s)=Ad at *
 go_enter Tryz.func148,Tryz.ntmps148
 go_wp2_with (at_lookup;refine wpList_lookup_own_unit _ rfl _ _ 90 rfl 9 136 sB Tryz.underlying90 (wY _) b m _ rfl Ab _ _ rfl Aa ?_)
 go_ret
 refine⟨rfl,?_⟩;exact(Yg _ _).alloc (Yh _) _
end
section
open Go.RowKit Go.Sort Go.BigFrame
theorem zK(A:Option Addr) (n c:Nat) (es:List En) (s:ByteArray) (w:World) (hE:bV w A n es):
 Calls Tryz.prog 101 #[.slice A n c,.string s] w fun e w'=>e=.returned (nI (cU es s))/\Below w.heap.size w w':=by
 have HC:=Hd fun w1 (hb:Below w.heap.size w w1)=>aRm A n c es s w1 (hE.below hb);have HA:=Hd (show cU es s=if(s.toList==[116,114,117,101])=true then some (2,0,1) else if(s.toList==[102,97,108,115,101])=true then some (2,0,0) else(fN es s).map fun p=>(3,(p.1:Int),(p.2.1:Int)) from rfl);generalize cU es s=ar at *;clear hE
 cases h1:(s.toList==[116,114,117,101]) with
 | true=>
  have HE:=Hd (show ar=some (2,0,1) by rw [HA.o,if_pos h1]);rw [HE.o]
  go_enter Tryz.func101,Tryz.ntmps101
  go_upto_region 1 with(fail)
  generalize Aa:w.alloc _=w0;obtain⟨Ab,hR,Af⟩:=jA Aa;have Ac:=Hd Ab;have HR:=Hd hR;clear Ab hR Aa
  go_wp2_with (refine Zu rfl _ _ _ rfl (w.heap.size) _ rfl rfl _ _ HR.o bM rfl (by simp [Value.oneCell']) ?_)
  exact Zt (kJ (p:=4) (u:=5) (v:=6) rfl _ _ w.heap.size 2 0 0 rfl (HR.o.set 2 0 0)) rfl ⟨rfl,mQ Ac.o⟩
 | false=>
  cases h2:(s.toList==[102,97,108,115,101]) with
  | true=>
   have HE:=Hd (show ar=some (2,0,0) by rw [HA.o,if_neg (by rw [h1];simp),if_pos h2]);rw [HE.o]
   go_enter Tryz.func101,Tryz.ntmps101
   go_upto_region 1 with(fail)
   generalize Aa:w.alloc _=w0;obtain⟨Ab,hR,Af⟩:=jA Aa;have Ac:=Hd Ab;have HR:=Hd hR;clear Ab hR Aa
   go_wp2_with (refine Zu rfl _ _ _ rfl (w.heap.size) _ rfl rfl _ _ HR.o bM rfl (by simp [Value.oneCell']) ?_)
   exact Zt (kJ (p:=4) (u:=5) (v:=6) rfl _ _ w.heap.size 2 0 0 rfl (HR.o.set 2 0 0)) rfl ⟨rfl,mQ Ac.o⟩
  | false=>
   have HE:=Hd (show ar=(fN es s).map fun p=>(3,(p.1:Int),(p.2.1:Int)) by rw [HA.o,if_neg (by rw [h1];simp),if_neg (by rw [h2];simp)]);unfold jT at HC;rw [HE.o];clear HA HE
   cases hf:fN es s with
   | none=>
    rw [hf] at HC;simp only [Option.map_none,Option.getD_none,Option.isSome_none] at HC
    go_enter Tryz.func101,Tryz.ntmps101
    go_upto_region 1 with(fail)
    generalize Aa:w.alloc _=w0;obtain⟨Ab,hR,Af⟩:=jA Aa;have Ac:=Hd Ab;have HR:=Hd hR;clear Ab hR Aa
    go_wp2_with fail
    refine(HC.o _ Ac.o).mono ?_;rintro e w1 ⟨rfl,Ad⟩;have Ae:=Hd (HR.o.below Ad);have Ag:=Hd (Ac.o.trans (Ad.mono Ac.o.size));clear Ad
    go_wp2_with (refine Zu rfl _ _ _ rfl (w.heap.size) _ rfl rfl _ _ Ae.o bM rfl (by simp [Value.oneCell']) ?_)
    exact Zt (kJ (p:=4) (u:=5) (v:=6) rfl _ _ w.heap.size 0 0 0 rfl (Ae.o.set 0 0 0)) rfl ⟨rfl,mQ Ag.o⟩
   | some q=>
    rw [hf] at HC;simp only [Option.map_some,Yt,Option.isSome_some] at HC;rw [show(some q).map (fun p:Pl=>((3:Int),(p.1:Int),(p.2.1:Int)))=some (3,(q.1:Int),(q.2.1:Int)) from rfl];generalize q.1=qa at *;generalize q.2.1=qb at *
    go_enter Tryz.func101,Tryz.ntmps101
    go_upto_region 1 with(fail)
    generalize Aa:w.alloc _=w0;obtain⟨Ab,hR,Af⟩:=jA Aa;have Ac:=Hd Ab;have HR:=Hd hR;clear Ab hR Aa
    go_wp2_with fail
    refine(HC.o _ Ac.o).mono ?_;rintro e w1 ⟨rfl,Ad⟩;have Ae:=Hd (HR.o.below Ad);have Ag:=Hd (Ac.o.trans (Ad.mono Ac.o.size));clear Ad
    go_wp2_with (refine Zu rfl _ _ _ rfl (w.heap.size) _ rfl rfl _ _ Ae.o bM rfl (by simp [Value.oneCell']) ?_)
    exact Zt (kJ (p:=4) (u:=5) (v:=6) rfl _ _ w.heap.size 3 qa 0 rfl (Ae.o.set 3 qa 0)) rfl ⟨rfl,mQ Ag.o⟩
def dJ(E:Option Addr) (n c bn bv bd:Nat):Array Value:=#[.slice E n c,.map (some bn),.map (some bv),.map (some bd)]
theorem qH(w:World) (E:Option Addr) (n c bn bv bd:Nat) (w1:World) (h:w.alloc (.cells (dJ E n c bn bv bd) 93)=w1):
 Below w.heap.size w w1/\w1.heap.size=w.heap.size+1/\∀ w',Below w1.heap.size w1 w'->∀ j,w'.cell? ⟨w.heap.size,j,none⟩=(dJ E n c bn bv bd)[j]?:=by
 subst h;refine⟨(Yg _ _).alloc (Yh _) _,by simp,fun w' hb j=>?_⟩;rw [hb.cell (p:=⟨w.heap.size,j,none⟩) (by simp),Zo]
theorem yH(E:Option Addr) (n c bn bv bd:Nat) (es:List En) (s:ByteArray) (w:World) (hE:bV w E n es):
 Calls Tryz.prog 149 #[.agg (dJ E n c bn bv bd),.string s] w fun e w'=>e=.returned (.bool (!cM es s))/\Below w.heap.size w w':=by
 have HF:=Hd fun w1 hw=>qH w E n c bn bv bd w1 hw;have HC:=Hd fun w1 (a:Below w.heap.size w w1)=>zK E n c es s w1 (hE.below a);have HV:=Hd (show(cU es s).isSome=cM es s from rfl);clear hE;unfold nI aC at HC;generalize (cU es s).isSome=ok at *;generalize ((cU es s).map (·.1)).getD 0=r1 at *;generalize ((cU es s).map (·.2.1)).getD 0=r2 at *;generalize ((cU es s).map (·.2.2)).getD 0=r3 at *;unfold dJ at HF ⊢
 go_enter Tryz.func149,Tryz.ntmps149
 go_upto_region 1 with(fail)
 generalize Ad:w.alloc _=w1;obtain⟨Ab,hg,Aa⟩:=HF.o w1 Ad;have Ae:=Hd Ab;have q0:=Aa w1 (Yg _ _) 0;simp only [Ya,Yb,Yc] at q0;have HD:=Hd (HC.o w1 Ab);clear Ad Aa Ab HF HC hg
 go_wp2_with fail
 refine HD.o.mono ?_;rintro e w2 ⟨rfl,Ac⟩;have Af:=Hd (Ae.o.trans (Ac.mono Ae.o.size));clear Ac q0 HD
 go_wp2_with fail
 go_ret
 exact⟨cR (congrArg not HV.o),wR Af.o rfl⟩
theorem aAn(E:Option Addr) (n c bn bv bd m:Nat) (ds:List ByteArray) (d:Dc) (w:World) (hd:bJ w bd m ds) (hs:d.nm.size<=maxLen):
 Calls Tryz.prog 100 #[.agg (dJ E n c bn bv bd),.agg (bC d)] w fun e w'=>e=.returned (.bool (!ds.any (bQ d.nm)))/\Below w.heap.size w w':=by
 have HF:=Hd fun w1 hw=>qH w E n c bn bv bd w1 hw;have Ad:=Hd fun w w1 hw=>kZ w d w1 hw;have HC:=Hd fun w1 (a:Below w.heap.size w w1)=>qY bd m ds d.nm w1 (hd.below a) hs;clear hd hs;generalize ds.any (bQ d.nm)=Al at *;unfold dJ at HF ⊢;unfold bC at Ad ⊢
 go_enter Tryz.func100,Tryz.ntmps100
 go_upto_region 1 with(fail)
 generalize Ah:w.alloc _=w1;obtain⟨Ae,hg,Ab⟩:=HF.o w1 Ah;generalize Ag:w1.alloc _=w2;obtain⟨Ac,Ak,Aa⟩:=Ad.o w1 w2 Ag;rw [hg] at Aa;have Af:=Hd (Ae.trans (Ac.mono Ae.size));have q3:=Ab w2 Ac 3;have d0:=Aa w2 (Yg _ _) 0;simp only [Ya,Yb,Yc] at q3 d0;have HD:=Hd (HC.o w2 Af.o);clear Ah Ag Ab Aa Ae Ac HF Ad HC
 go_wp2_with fail
 refine HD.o.mono ?_;rintro e w3 ⟨rfl,Ai⟩;have Aj:=Hd (Af.o.trans (Ai.mono Af.o.size));clear Ai q3 d0 HD
 go_wp2_with fail
 go_ret
 exact⟨rfl,Aj.o⟩
end
section
open Go.RowKit Go.Sort Go.BigFrame
theorem aK7(E:Option Addr) (n c bn bv bd m:Nat) (es:List En) (vs:List ByteArray) (d:Dc) (w:World) (hE:bV w E n es) (hd:bJ w bv m vs) (hs:d.on.size<=maxLen):
 Calls Tryz.prog 98 #[.agg (dJ E n c bn bv bd),.agg (bC d)] w fun e w'=>e=.returned (.bool (lL vs es d))/\Below w.heap.size w w':=by
 have HF:=Hd fun w1 hw=>qH w E n c bn bv bd w1 hw;have Ah:=Hd fun w w1 hw=>kZ w d w1 hw;have HC:=Hd fun w1 (a:Below w.heap.size w w1)=>qY bv m vs d.on w1 (hd.below a) hs;have HA:=Hd fun w1 (a:Below w.heap.size w w1)=>yH E n c bn bv bd es d.ct w1 (hE.below a);have HO:=Hd (show lL vs es d=(!(d.on.toList==[]) && (!vs.any (bQ d.on) || !cM es d.ct)) from rfl);clear hd hs hE;generalize lL vs es d=Ak at *;generalize vs.any (bQ d.on)=bh at *;generalize cM es d.ct=ba at *;unfold dJ at HF HA ⊢;unfold bC at Ah ⊢;generalize d.on=on at *;generalize d.ct=ct at *
 cases h1:(on.toList==[]) with
 | true=>
  have h2:on.toList.isEmpty=true:=by rw [<- h1];cases on.toList <;> rfl
  have HR:=Hd (show Ak=false by rw [HO.o,h1];rfl)
  go_enter Tryz.func98,Tryz.ntmps98
  go_upto_region 1 with(fail)
  generalize Ag:w.alloc _=w1;obtain⟨Ad,hg,Ab⟩:=HF.o w1 Ag;generalize Af:w1.alloc _=w2;obtain⟨Ac,Al,Aa⟩:=Ah.o w1 w2 Af;rw [hg] at Aa;have Ae:=Hd (Ad.trans (Ac.mono Ad.size));have q2:=Ab w2 Ac 2;have d4:=Aa w2 (Yg _ _) 4;simp only [Ya,Yb,Yc] at q2 d4;clear Ag Af Ab Aa Ad Ac HF Ah HC HA
  go_wp2_with fail
  go_ret
  exact⟨cR HR.o.symm,Ae.o⟩
 | false=>
  have h2:on.toList.isEmpty=false:=by rw [<- h1];cases on.toList <;> rfl
  cases bh with
  | false=>
   have HR:=Hd (show Ak=true by rw [HO.o,h1];rfl)
   go_enter Tryz.func98,Tryz.ntmps98
   go_upto_region 1 with(fail)
   generalize Ag:w.alloc _=w1;obtain⟨Ad,hg,Ab⟩:=HF.o w1 Ag;generalize Af:w1.alloc _=w2;obtain⟨Ac,Al,Aa⟩:=Ah.o w1 w2 Af;rw [hg] at Aa;have Ae:=Hd (Ad.trans (Ac.mono Ad.size));have q2:=Ab w2 Ac 2;have d4:=Aa w2 (Yg _ _) 4;simp only [Ya,Yb,Yc] at q2 d4;have HD:=Hd (HC.o w2 Ae.o);clear Ag Af Ab Aa Ad Ac HF Ah HC HA
   go_wp2_with fail
   refine HD.o.mono ?_;rintro e w3 ⟨rfl,Ai⟩;have Aj:=Hd (Ae.o.trans (Ai.mono Ae.o.size));clear Ai HD
   go_wp2_with fail
   go_ret
   exact⟨cR HR.o.symm,Aj.o⟩
  | true=>
   have HR:=Hd (show Ak=!ba by rw [HO.o,h1];cases ba <;> rfl)
   go_enter Tryz.func98,Tryz.ntmps98
   go_upto_region 1 with(fail)
   generalize Ag:w.alloc _=w1;obtain⟨Ad,hg,Ab⟩:=HF.o w1 Ag;generalize Af:w1.alloc _=w2;obtain⟨Ac,Al,Aa⟩:=Ah.o w1 w2 Af;rw [hg] at Aa;have Ae:=Hd (Ad.trans (Ac.mono Ad.size));obtain⟨q0,q1,q2,q3,-,-⟩:=Sx (Ab w2 Ac);have d4:=Aa w2 (Yg _ _) 4;have d5:=Aa w2 (Yg _ _) 5;simp only [Ya,Yb,Yc] at q0 q1 q2 q3 d4 d5;have Ap:=Hd fun W (b:Below w2.heap.size w2 W) j=>Ab W (Ac.trans (b.mono Ac.size)) j;have Ao:=Hd fun W (b:Below w2.heap.size w2 W) j=>Aa W b j;have HD:=Hd (HC.o w2 Ae.o);clear Ag Af Ab Aa Ad Ac HF Ah HC
   go_wp2_with fail
   refine HD.o.mono ?_;rintro e w3 ⟨rfl,Ai⟩;have Aj:=Hd (Ae.o.trans (Ai.mono Ae.o.size));obtain⟨r0,r1,r2,r3,-,-⟩:=Sx (Ap.o w3 Ai);have e3:=Ao.o w3 Ai 5;simp only [Ya,Yb,Yc] at r0 r1 r2 r3 e3;have HE:=Hd (HA.o w3 Aj.o);clear Ai HD q0 q1 q2 q3 d4 d5 HA
   go_wp2_with fail
   refine HE.o.mono ?_;rintro e w4 ⟨rfl,Am⟩;have An:=Hd (Aj.o.trans (Am.mono Aj.o.size));clear Am HE
   go_wp2_with fail
   go_ret
   exact⟨cR HR.o.symm,An.o⟩
theorem aNx(E:Option Addr) (n c bn bv bd m md:Nat) (vs ds:List ByteArray) (s:ByteArray) (w:World) (hv:bJ w bv m vs) (hd:bJ w bd md ds) (Ar:bv≠bd) (hm:md<1000000) (hs:s.size<=maxLen):
 Calls Tryz.prog 150 #[.agg (dJ E n c bn bv bd),.string s] w fun e w'=>e=.returned (.int .i64 (mV vs ds s))/\Gd bd w w'/\(mV vs ds s=0->bJ w' bd (md+1) (ds++[s])):=by
 have HF:=Hd fun w1 hw=>qH w E n c bn bv bd w1 hw;have HC:=Hd fun w1 (a:Below w.heap.size w w1)=>qY bv m vs s w1 (hv.below a) hs;have HD:=Hd fun w1 (a:Below w.heap.size w w1)=>qY bd md ds s w1 (hd.below a) hs;have HA:=Hd fun w1 (a:Below w.heap.size w w1)=>vC bd md ds s w1 (hd.below a) hm hs;have HO:=Hd (show mV vs ds s=if vs.any (bQ s)=false then 5 else if ds.any (bQ s)=true then 6 else 0 from rfl);have As:=hd.lt;clear hd hs hv;generalize mV vs ds s=Aj at *;generalize vs.any (bQ s)=b1 at *;generalize ds.any (bQ s)=b2 at *;unfold dJ at HF ⊢
 go_enter Tryz.func150,Tryz.ntmps150
 go_upto_region 1 with(fail)
 generalize Al:w.alloc _=w1;obtain⟨Ai,hg,Aa⟩:=HF.o w1 Al;have Ah:=Hd Ai;have HQ:=Hd Aa;have q2:=Aa w1 (Yg _ _) 2;simp only [Ya,Yb,Yc] at q2;have Ag:=Hd (HC.o w1 Ai);clear Al Aa Ai HF HC
 cases b1 with
 | false=>
  have HR:=Hd (show Aj=5 by rw [HO.o,if_pos rfl])
  go_wp2_with fail
  refine Ag.o.mono ?_;rintro e w2 ⟨rfl,Ab⟩;have Ac:=Hd (Ah.o.trans (Ab.mono Ah.o.size));clear Ab Ag q2
  go_wp2_with fail
  go_ret
  exact⟨by rw [HR.o];rfl,Gd.of_below Ac.o,fun h=>by rw [HR.o] at h;cases h⟩
 | true=>
  go_wp2_with fail
  refine Ag.o.mono ?_;rintro e w2 ⟨rfl,Ab⟩;have Ac:=Hd (Ah.o.trans (Ab.mono Ah.o.size));have q3:=HQ.o w2 Ab 3;have Am:=Hd fun W (b:Below w2.heap.size w2 W) j=>HQ.o W (Ab.trans (b.mono Ab.size)) j;simp only [Ya,Yb,Yc] at q3;have Af:=Hd (HD.o w2 Ac.o);clear Ab Ag q2 HD HQ
  cases b2 with
  | true=>
   have HR:=Hd (show Aj=6 by rw [HO.o,if_neg (by decide),if_pos rfl])
   go_wp2_with fail
   refine Af.o.mono ?_;rintro e w3 ⟨rfl,Ad⟩;have Ae:=Hd (Ac.o.trans (Ad.mono Ac.o.size));clear Ad Af q3
   go_wp2_with fail
   go_ret
   exact⟨by rw [HR.o];rfl,Gd.of_below Ae.o,fun h=>by rw [HR.o] at h;cases h⟩
  | false=>
   have HR:=Hd (show Aj=0 by rw [HO.o,if_neg (by decide),if_neg (by decide)])
   go_wp2_with fail
   refine Af.o.mono ?_;rintro e w3 ⟨rfl,Ad⟩;have Ae:=Hd (Ac.o.trans (Ad.mono Ac.o.size));have r3:=Am.o w3 Ad 3;simp only [Ya,Yb,Yc] at r3;have Ak:=Hd (HA.o w3 Ae.o);clear Ad Af q3 Am HA
   go_wp2_with fail
   refine Ak.o.mono ?_;rintro e w4 ⟨rfl,Ao,An⟩;have Ap:=Hd Ao;have Aq:=Hd ((Gd.of_below Ae.o).trans An);clear Ao An Ak r3
   go_wp2_with fail
   go_ret
   exact⟨by rw [HR.o];rfl,Aq.o,fun _=>Ap.o⟩
end
section
open Go.RowKit Go.Sort Go.BigFrame
theorem aQq(E:Option Addr) (n c bn bv bd mn mv:Nat) (es:List En) (An vs:List ByteArray) (x:Ex) (A:Option Addr) (ca:Nat) (B:Option Addr) (cb:Nat) (w:World) (hE:bV w E n es) (hn:bJ w bn mn An) (hv:bJ w bv mv vs) (hx:aJ w x A B) (hs:x.s.size<=maxLen):
 Calls Tryz.prog 151 #[.agg (dJ E n c bn bv bd),.agg (aE x A ca B cb)] w fun e w'=>e=.returned (.bool (pJ vs An es x))/\Below w.heap.size w w':=by
 have Au:∀ fn first As w,(Instr.makeFunc fn first As).run Tryz.prog w=.ok (.func fn first As) w:=fun _ _ _ _=>rfl
 have HF:=Hd fun w1 hw=>qH w E n c bn bv bd w1 hw;have Aj:=Hd fun w w1 hw h=>eC w x A ca B cb w1 hw h;have HX:=Hd hx;have HV:=Hd fun w1 (a:Below w.heap.size w w1)=>qY bv mv vs x.s w1 (hv.below a) hs;have HN:=Hd fun w1 (a:Below w.heap.size w w1)=>qY bn mn An x.s w1 (hn.below a) hs;have HA:=Hd fun w1 (a:Below w.heap.size w w1)=>yH E n c bn bv bd es x.s w1 (hE.below a);have HP:=Hd fun w1 (a:Below w.heap.size w w1)=>aQl 149 (.agg (dJ E n c bn bv bd)) (fun _ _=>rfl) (fun t=>!cM es t) A x.arms.length ca x.arms w1 (hx.below a).arms (fun t ht W hW=>yH E n c bn bv bd es t W (hE.below (a.trans (hW.mono a.size))));have HO:=Hd (show pJ vs An es x=if x.k==3 then vs.any (bQ x.s) else if x.k==11 || x.k==12 then vs.any (bQ x.s) && !(x.arms.any fun a=>!cM es a) else if x.k==4 then cM es x.s else if x.k==13 then An.any (bQ x.s) else !(x.k==17) from rfl);clear hE hn hv hs hx;generalize pJ vs An es x=Ao at *;generalize vs.any (bQ x.s)=bh at *;generalize An.any (bQ x.s)=bm at *;generalize cM es x.s=ba at *;generalize (x.arms.any fun a=>!cM es a)=bp at *;unfold dJ at HF HA HP ⊢;unfold aE at Aj ⊢;generalize x.arms.length=la at *;generalize x.subs.length=lb at *;generalize x.s=s at *;generalize x.k=k at *
 rcases(show k=3\/k=11\/k=12\/k=4\/k=13\/k=17\/((k==3)=false/\(k==11)=false/\(k==12)=false/\(k==4)=false/\(k==13)=false/\(k==17)=false) by
  simp only [Xa];omega) with rfl | rfl | rfl | rfl | rfl | rfl | ⟨b3,b11,b12,b4,b13,b17⟩
 . have HR:=Hd (show Ao=bh by rw [HO.o];rfl)
   go_enter Tryz.func151,Tryz.ntmps151
   go_upto_region 1 with(fail)
   generalize Ag:w.alloc _=w1;obtain⟨Ad,hg,Ab⟩:=HF.o w1 Ag;generalize Ah:w1.alloc _=w2;obtain⟨Ac,Ap,Ak,Aa⟩:=Aj.o w1 w2 Ah (HX.o.below Ad);rw [hg] at Aa;have Ae:=Hd (Ad.trans (Ac.mono Ad.size));obtain⟨d0,-,d2,-,d4,-⟩:=Sx (Aa w2 (Yg _ _));obtain⟨q0,q1,q2,q3,-,-⟩:=Sx (Ab w2 Ac);simp only [Ya,Yb,Yc] at d0 d2 d4 q0 q1 q2 q3;have Am:=Hd fun W (b:Below w2.heap.size w2 W) j=>Ab W (Ac.trans (b.mono Ac.size)) j;have Al:=Hd fun W (b:Below w2.heap.size w2 W) j=>Aa W b j;clear Ag Ah Ab Aa Ad Ac HF Aj Ak;have HD:=Hd (HV.o w2 Ae.o);clear HV HN HA HP
   go_wp2_with fail
   refine HD.o.mono ?_;rintro e w3 ⟨rfl,Af⟩;have Ai:=Hd (Ae.o.trans (Af.mono Ae.o.size));clear Af HD q0 q1 q2 q3 d0 d2 d4
   go_wp2_with fail
   go_ret
   exact⟨cR HR.o.symm,Ai.o⟩
 . have HR:=Hd (show Ao=(bh && !bp) by rw [HO.o];rfl)
   go_enter Tryz.func151,Tryz.ntmps151
   go_upto_region 1 with(fail)
   generalize Ag:w.alloc _=w1;obtain⟨Ad,hg,Ab⟩:=HF.o w1 Ag;generalize Ah:w1.alloc _=w2;obtain⟨Ac,Ap,Ak,Aa⟩:=Aj.o w1 w2 Ah (HX.o.below Ad);rw [hg] at Aa;have Ae:=Hd (Ad.trans (Ac.mono Ad.size));obtain⟨d0,-,d2,-,d4,-⟩:=Sx (Aa w2 (Yg _ _));obtain⟨q0,q1,q2,q3,-,-⟩:=Sx (Ab w2 Ac);simp only [Ya,Yb,Yc] at d0 d2 d4 q0 q1 q2 q3;have Am:=Hd fun W (b:Below w2.heap.size w2 W) j=>Ab W (Ac.trans (b.mono Ac.size)) j;have Al:=Hd fun W (b:Below w2.heap.size w2 W) j=>Aa W b j;clear Ag Ah Ab Aa Ad Ac HF Aj Ak;have HD:=Hd (HV.o w2 Ae.o);clear HV HN HA
   cases bh with
   | false=>
    go_wp2_with fail
    refine HD.o.mono ?_;rintro e w3 ⟨rfl,Af⟩;have Ai:=Hd (Ae.o.trans (Af.mono Ae.o.size));clear Af HD q0 q1 q2 q3 d0 d2 d4 HP
    go_wp2_with fail
    go_ret
    exact⟨cR HR.o.symm,Ai.o⟩
   | true=>
    go_wp2_with fail
    refine HD.o.mono ?_;rintro e w3 ⟨rfl,Af⟩;have Ai:=Hd (Ae.o.trans (Af.mono Ae.o.size));have e4:=Al.o w3 Af 4;obtain⟨r0,r1,r2,r3,-,-⟩:=Sx (Am.o w3 Af);simp only [Ya,Yb,Yc] at e4 r0 r1 r2 r3;have HE:=Hd (HP.o w3 Ai.o);clear Af HD q0 q1 q2 q3 d0 d2 d4 HP
    go_wp2_with fail
    refine HE.o.mono ?_;rintro e w4 ⟨rfl,Aq⟩;have Ar:=Hd (Ai.o.trans (Aq.mono Ai.o.size));clear Aq HE
    go_wp2_with fail
    go_ret
    exact⟨cR HR.o.symm,Ar.o⟩
 . have HR:=Hd (show Ao=(bh && !bp) by rw [HO.o];rfl)
   go_enter Tryz.func151,Tryz.ntmps151
   go_upto_region 1 with(fail)
   generalize Ag:w.alloc _=w1;obtain⟨Ad,hg,Ab⟩:=HF.o w1 Ag;generalize Ah:w1.alloc _=w2;obtain⟨Ac,Ap,Ak,Aa⟩:=Aj.o w1 w2 Ah (HX.o.below Ad);rw [hg] at Aa;have Ae:=Hd (Ad.trans (Ac.mono Ad.size));obtain⟨d0,-,d2,-,d4,-⟩:=Sx (Aa w2 (Yg _ _));obtain⟨q0,q1,q2,q3,-,-⟩:=Sx (Ab w2 Ac);simp only [Ya,Yb,Yc] at d0 d2 d4 q0 q1 q2 q3;have Am:=Hd fun W (b:Below w2.heap.size w2 W) j=>Ab W (Ac.trans (b.mono Ac.size)) j;have Al:=Hd fun W (b:Below w2.heap.size w2 W) j=>Aa W b j;clear Ag Ah Ab Aa Ad Ac HF Aj Ak;have HD:=Hd (HV.o w2 Ae.o);clear HV HN HA
   cases bh with
   | false=>
    go_wp2_with fail
    refine HD.o.mono ?_;rintro e w3 ⟨rfl,Af⟩;have Ai:=Hd (Ae.o.trans (Af.mono Ae.o.size));clear Af HD q0 q1 q2 q3 d0 d2 d4 HP
    go_wp2_with fail
    go_ret
    exact⟨cR HR.o.symm,Ai.o⟩
   | true=>
    go_wp2_with fail
    refine HD.o.mono ?_;rintro e w3 ⟨rfl,Af⟩;have Ai:=Hd (Ae.o.trans (Af.mono Ae.o.size));have e4:=Al.o w3 Af 4;obtain⟨r0,r1,r2,r3,-,-⟩:=Sx (Am.o w3 Af);simp only [Ya,Yb,Yc] at e4 r0 r1 r2 r3;have HE:=Hd (HP.o w3 Ai.o);clear Af HD q0 q1 q2 q3 d0 d2 d4 HP
    go_wp2_with fail
    refine HE.o.mono ?_;rintro e w4 ⟨rfl,Aq⟩;have Ar:=Hd (Ai.o.trans (Aq.mono Ai.o.size));clear Aq HE
    go_wp2_with fail
    go_ret
    exact⟨cR HR.o.symm,Ar.o⟩
 . have HR:=Hd (show Ao=ba by rw [HO.o];rfl)
   go_enter Tryz.func151,Tryz.ntmps151
   go_upto_region 1 with(fail)
   generalize Ag:w.alloc _=w1;obtain⟨Ad,hg,Ab⟩:=HF.o w1 Ag;generalize Ah:w1.alloc _=w2;obtain⟨Ac,Ap,Ak,Aa⟩:=Aj.o w1 w2 Ah (HX.o.below Ad);rw [hg] at Aa;have Ae:=Hd (Ad.trans (Ac.mono Ad.size));obtain⟨d0,-,d2,-,d4,-⟩:=Sx (Aa w2 (Yg _ _));obtain⟨q0,q1,q2,q3,-,-⟩:=Sx (Ab w2 Ac);simp only [Ya,Yb,Yc] at d0 d2 d4 q0 q1 q2 q3;have Am:=Hd fun W (b:Below w2.heap.size w2 W) j=>Ab W (Ac.trans (b.mono Ac.size)) j;have Al:=Hd fun W (b:Below w2.heap.size w2 W) j=>Aa W b j;clear Ag Ah Ab Aa Ad Ac HF Aj Ak;have HD:=Hd (HA.o w2 Ae.o);clear HV HN HA HP
   go_wp2_with fail
   refine HD.o.mono ?_;rintro e w3 ⟨rfl,Af⟩;have Ai:=Hd (Ae.o.trans (Af.mono Ae.o.size));clear Af HD q0 q1 q2 q3 d0 d2 d4
   go_wp2_with fail
   go_ret
   exact⟨cR HR.o.symm,Ai.o⟩
 . have HR:=Hd (show Ao=bm by rw [HO.o];rfl)
   go_enter Tryz.func151,Tryz.ntmps151
   go_upto_region 1 with(fail)
   generalize Ag:w.alloc _=w1;obtain⟨Ad,hg,Ab⟩:=HF.o w1 Ag;generalize Ah:w1.alloc _=w2;obtain⟨Ac,Ap,Ak,Aa⟩:=Aj.o w1 w2 Ah (HX.o.below Ad);rw [hg] at Aa;have Ae:=Hd (Ad.trans (Ac.mono Ad.size));obtain⟨d0,-,d2,-,d4,-⟩:=Sx (Aa w2 (Yg _ _));obtain⟨q0,q1,q2,q3,-,-⟩:=Sx (Ab w2 Ac);simp only [Ya,Yb,Yc] at d0 d2 d4 q0 q1 q2 q3;have Am:=Hd fun W (b:Below w2.heap.size w2 W) j=>Ab W (Ac.trans (b.mono Ac.size)) j;have Al:=Hd fun W (b:Below w2.heap.size w2 W) j=>Aa W b j;clear Ag Ah Ab Aa Ad Ac HF Aj Ak;have HD:=Hd (HN.o w2 Ae.o);clear HV HN HA HP
   go_wp2_with fail
   refine HD.o.mono ?_;rintro e w3 ⟨rfl,Af⟩;have Ai:=Hd (Ae.o.trans (Af.mono Ae.o.size));clear Af HD q0 q1 q2 q3 d0 d2 d4
   go_wp2_with fail
   go_ret
   exact⟨cR HR.o.symm,Ai.o⟩
 . have HR:=Hd (show Ao=false by rw [HO.o];rfl)
   go_enter Tryz.func151,Tryz.ntmps151
   go_upto_region 1 with(fail)
   generalize Ag:w.alloc _=w1;obtain⟨Ad,hg,Ab⟩:=HF.o w1 Ag;generalize Ah:w1.alloc _=w2;obtain⟨Ac,Ap,Ak,Aa⟩:=Aj.o w1 w2 Ah (HX.o.below Ad);rw [hg] at Aa;have Ae:=Hd (Ad.trans (Ac.mono Ad.size));obtain⟨d0,-,d2,-,d4,-⟩:=Sx (Aa w2 (Yg _ _));obtain⟨q0,q1,q2,q3,-,-⟩:=Sx (Ab w2 Ac);simp only [Ya,Yb,Yc] at d0 d2 d4 q0 q1 q2 q3;have Am:=Hd fun W (b:Below w2.heap.size w2 W) j=>Ab W (Ac.trans (b.mono Ac.size)) j;have Al:=Hd fun W (b:Below w2.heap.size w2 W) j=>Aa W b j;clear Ag Ah Ab Aa Ad Ac HF Aj Ak;clear HV HN HA HP
   go_wp2_with fail
   go_ret
   exact⟨cR HR.o.symm,Ae.o⟩
 . have HR:=Hd (show Ao=true by rw [HO.o];rw [b3,b11,b12,b4,b13,b17];rfl)
   go_enter Tryz.func151,Tryz.ntmps151
   go_upto_region 1 with(fail)
   generalize Ag:w.alloc _=w1;obtain⟨Ad,hg,Ab⟩:=HF.o w1 Ag;generalize Ah:w1.alloc _=w2;obtain⟨Ac,Ap,Ak,Aa⟩:=Aj.o w1 w2 Ah (HX.o.below Ad);rw [hg] at Aa;have Ae:=Hd (Ad.trans (Ac.mono Ad.size));obtain⟨d0,-,d2,-,d4,-⟩:=Sx (Aa w2 (Yg _ _));obtain⟨q0,q1,q2,q3,-,-⟩:=Sx (Ab w2 Ac);simp only [Ya,Yb,Yc] at d0 d2 d4 q0 q1 q2 q3;have Am:=Hd fun W (b:Below w2.heap.size w2 W) j=>Ab W (Ac.trans (b.mono Ac.size)) j;have Al:=Hd fun W (b:Below w2.heap.size w2 W) j=>Aa W b j;clear Ag Ah Ab Aa Ad Ac HF Aj Ak;clear HV HN HA HP
   go_wp2_with fail
   go_ret
   exact⟨cR HR.o.symm,Ae.o⟩
end
end Go.Proofs.YtegjgiofmpolnaaGreat
