/- A part of the proof. Conditions: each theorem's own. -/
import Derived.Test.YtkbpdoomhfkngaaGreatC13
import Derived.Test.YtkbpdoomhfkngaaGreatC15
namespace Go.Proofs.YtkbpdoomhfkngaaGreat
set_option linter.unusedVariables false
set_option linter.unusedSimpArgs false
set_option maxRecDepth 100000
set_option maxHeartbeats 40000000
section
open Go.RowKit Go.Sort Go.Maps Go.WideMaps
def oD(l:List ByteArray):DataW Unit:=setOf (.agg []) (l.map fun s=>Lit.string s.data.toList)
theorem bAm:oD []=.map []:=by simp[oD,setOf]
theorem aXe(l:List ByteArray)(s:ByteArray):oD (l++[s])=(oD l).put (.string s.data.toList) (.agg []):=by
 unfold oD;rw[Zq];exact setOf_snoc _ _ _
theorem bAn(l:List ByteArray)(s:ByteArray):Maps.has (oD l) (.string s.data.toList)=l.any (cI s):=by
 unfold oD;rw[has_setOf _ _ _ (fun y hy=>by obtain⟨_,_,rfl⟩:=List.mem_map.1 hy;trivial),aBh,Zn,decide_eq_true_eq,List.any_eq_true,List.mem_map];exact⟨fun⟨a,h,e⟩=>⟨a,h,aDu.2 e⟩,fun⟨a,h,e⟩=>⟨a,h,aDu.1 e⟩⟩
def bT(W:World)(b m:Nat)(l:List ByteArray):Prop:=W.ownsMap Tryz.prog 9 unitElem b m (oD l)
section
variable {W W':World}{b d m:Nat}{l:List ByteArray}
theorem bT.lt(h:bT W b m l):b<W.heap.size:=World.ownsMap.lt h
theorem bT.kept(h:bT W b m l){row:Option Nat}(hg:W.grownBy W' row)(An:some b≠row):bT W' b m l:=World.ownsMap.kept h hg An
theorem bT.below(h:bT W b m l)(hb:Below W.heap.size W W'):bT W' b m l:=h.kept (uJ hb) aG
theorem bT.mono(h:bT W b m l){m':Nat}(hm:m<=m'):bT W b m' l:=World.ownsMap.mono h hm
theorem bT.new(W:World):bT (W.alloc (.map #[] 0)) W.heap.size 0 []:=by unfold bT;rw[bAm];exact World.ownsMap_made _ _ _ _
theorem bT.no_cell(h:bT W b m l){p:Addr}(hp:p.block=b):W.cell? p=none:=by
 obtain⟨es,Aq,hb,-⟩:=h;unfold World.cell?;rw[hp,hb]
def Gd(d:Nat)(W W':World):Prop:=W.grownBy W' (some d)/\∀p:Addr,p.block<W.heap.size->W'.cell? p=W.cell? p
theorem Gd.refl(W:World):Gd d W W:=⟨World.grownBy.refl _ _,fun _ _=>rfl⟩
theorem Gd.of_below(h:Below W.heap.size W W'):Gd d W W':=⟨(uJ h).but _,fun _ hp=>h.cell hp⟩
theorem Gd.trans{A B C:World}(h:Gd d A B)(k:Gd d B C):Gd d A C:=⟨World.grownBy.trans h.1 k.1,fun p hp=>(k.2 p (Yr hp (World.grownBy.size h.1))).trans (h.2 p hp)⟩
theorem Gd.size(h:Gd d W W'):W.heap.size<=W'.heap.size:=World.grownBy.size h.1
theorem Gd.below{w:World}{n:Nat}(hw:Below n w W)(h:Gd d W W')(hn:n<=W.heap.size)(hd:n<=d):Below n w W':=hw.grown h.1 hn (fun j e=>by cases e;exact hd)
theorem Gd.block(h:Gd d W W'){i:Nat}(hi:i<W.heap.size)(An:i≠d):W'.heap[i]?=W.heap[i]?:=World.grownBy.block h.1 i hi (fun e=>An zN)
theorem Gd.blk(h:Gd d W W'){i:Nat}{cs:Array Value}{T:TypeId}(e:W.heap[i]?=some (Obj.cells cs T))(An:i≠d):W'.heap[i]?=some (Obj.cells cs T):=(h.block (Yl.1 e).1 An).trans e
theorem Gd.cell(h:Gd d W W'){i j:Nat}(hi:i<W.heap.size):W'.cell? ⟨i,j,none⟩=W.cell? ⟨i,j,none⟩:=h.2 ⟨i,j,none⟩ hi
theorem Gd.new{w:World}{n:Nat}(h:Gd d w W)(hb:Below n W W')(hn:w.heap.size<=n):Gd d w W':=
 ⟨⟨hb.os.trans h.1.os,hb.tape.trans h.1.tape,hb.output.trans h.1.output,Yp h.size hb.size,fun i hi An=>(hb.block i (Yr hi hn)).trans (h.1.block i hi An)⟩,
  fun p hp=>(hb.cell (Yr hp hn)).trans (h.2 p hp)⟩
theorem bT.gd(h:bT W b m l)(hg:Gd d W W')(An:b≠d):bT W' b m l:=h.kept hg.1 (fun e=>An zN)
theorem Gd.rdD{A:Option Addr}{n:Nat}{l:List Dc}(h:Gd d W W')(r:bZ W A n l):bZ W' A n l:=r.keep h.size h.2
end
theorem cQ{W:World}{i:Nat}{cs:Array Value}{T:TypeId}(e:W.heap[i]?=some (Obj.cells cs T))(j:Nat):W.cell? ⟨i,j,none⟩=cs[j]?:=by simp[World.cell?,e]
theorem zY(b m:Nat)(l:List ByteArray)(s:ByteArray)(w:World)(h:bT w b m l)(hm:m<1000000)(hs:s.size<=maxLen):
 Calls Tryz.prog 45 #[.map (some b),.string s] w fun e w'=>e=.returned (.tuple #[])/\bT w' b (m+1) (l++[s])/\Gd b w w':=by
 have Bx:keyOf Tryz.prog 9 (.string s)=some (.string s.data.toList):=keyOf_string_mk Tryz.underlying9 hs;have hmm:m<maxLen:=dP;have HS:=Hd (aXe l s);have h0:=h
 have HG:=Hd (fun w' (h:w.grownBy w' (some b)) (Jx:bT w' b (m+1) (l++[s]))=>(show Gd b w w' from⟨h,fun p hp=>by
  by_cases e:p.block=b;· rw[h0.no_cell e,Jx.no_cell e]
  . exact Ym (h.block p.block hp (fun e'=>e (by injection e')))⟩))
 have Bq:w.ownsMap Tryz.prog 9 unitElem b m (oD l):=h;unfold bT;rw[HS.o];have Nu:=Hd HS.o;clear h HS h0;go_in
 go_wp2_with (at_mapUpdate;refine wpList_mapUpdate_own _ rfl _ _ _ 85 rfl 9 117 vM Tryz.underlying85 (unitElem (H:=Unit)) b m _ rfl Bq hmm _ _ _ rfl rfl Bx _ [] unitElem_mk ?_;intro w1 Bp Aq);have HW:=Hd Bp;have Nt:=Hd (HG.o _ Aq (by unfold bT;rw[Nu.o];exact Bp));clear Bp Aq;go_wp2_with fail;go_end0
 exact⟨rfl,HW.o,Nt.o⟩
theorem tV(b m:Nat)(l:List ByteArray)(s:ByteArray)(w:World)(h:bT w b m l)(hs:s.size<=maxLen):
 Calls Tryz.prog 109 #[.map (some b),.string s] w fun e w'=>e=.returned (.bool (l.any (cI s)))/\Below w.heap.size w w':=by
 have Aq:keyOf Tryz.prog 9 (.string s)=some (.string s.data.toList):=keyOf_string_mk Tryz.underlying9 hs;have Bp:=bAn l s;have Bq:w.ownsMap Tryz.prog 9 unitElem b m (oD l):=h;clear h;generalize l.any (cI s)=Au at *;go_in
 go_wp2_with (at_lookup;refine wpList_lookup_own_unit _ rfl _ _ 85 rfl 9 117 vM Tryz.underlying85 (aCf _) b m _ rfl Bq _ _ rfl Aq ?_);go_ret;refine⟨rfl,?_⟩;exact(Yg _ _).alloc (Yh _) _
end
section
open Go.RowKit Go.Sort Go.BigFrame
theorem zZ(A:Option Addr)(n c:Nat)(es:List En)(s:ByteArray)(w:World)(hE:bU w A n es):
 Calls Tryz.prog 63 #[.slice A n c,.string s] w fun e w'=>e=.returned (lG (bP es s))/\Below w.heap.size w w':=by
 have HC:=Hd fun w1 (hb:Below w.heap.size w w1)=>bFt A n c es s w1 (hE.below hb);have HA:=Hd (show bP es s=if(s.toList==[116,114,117,101])=true then some (2,0,1)else if(s.toList==[102,97,108,115,101])=true then some (2,0,0)else(iF es s).map fun p=>(3,(p.1:Int),(p.2.1:Int))from rfl);generalize bP es s=ar at *;clear hE;cases h1:(s.toList==[116,114,117,101])with
 |true=>
  exact aQv
 |false=>
  exact fK4
def eF(E:Option Addr)(n c bn bv bd:Nat):Array Value:=#[.slice E n c,.map (some bn),.map (some bv),.map (some bd)]
theorem sY(w:World)(E:Option Addr)(n c bn bv bd:Nat)(w1:World)(h:w.alloc (.cells (eF E n c bn bv bd) 88)=w1):
 Below w.heap.size w w1/\w1.heap.size=w.heap.size+1/\∀w',Below w1.heap.size w1 w'->∀j,w'.cell? ⟨w.heap.size,j,none⟩=(eF E n c bn bv bd)[j]?:=by
 subst h;refine⟨(Yg _ _).alloc (Yh _) _,by simp,fun w' hb j=>?_⟩;rw[hb.cell (p:=⟨w.heap.size,j,none⟩) aG,Zp]
theorem aDf(E:Option Addr)(n c bn bv bd:Nat)(es:List En)(s:ByteArray)(w:World)(hE:bU w E n es):
 Calls Tryz.prog 110 #[.agg (eF E n c bn bv bd),.string s] w fun e w'=>e=.returned (.bool (!dM es s))/\Below w.heap.size w w':=by
 have HF:=Hd fun w1 hw=>sY w E n c bn bv bd w1 hw;have HC:=Hd fun w1 (a:Below w.heap.size w w1)=>zZ E n c es s w1 (hE.below a);have HV:=Hd (show(bP es s).isSome=dM es s from rfl);clear hE;unfold lG aF at HC;generalize (bP es s).isSome=ok at *;generalize ((bP es s).map (·.1)).getD 0=r1 at *;generalize ((bP es s).map (·.2.1)).getD 0=r2 at *;generalize ((bP es s).map (·.2.2)).getD 0=r3 at *;unfold eF at HF⊢;go_in
 go_upto_region 1 with(fail);generalize Ag:w.alloc _=w1;obtain⟨Aa,hg,hcell⟩:=HF.o w1 Ag;have Ac:=Hd Aa;have q0:=hcell w1 (Yg _ _) 0;simp only[Ya,Yb,Yc]at q0;have HD:=Hd (HC.o w1 Aa);clear Ag hcell Aa HF HC hg;go_wp2_with fail;refine HD.o.mono ?_;rintro e w2 ⟨rfl,Ad⟩;have Aj:=Hd (Ac.o.tr Ad);clear Ad q0 HD;go_wp2_with fail;go_ret;exact⟨fF (congrArg not HV.o),aB7 Aj.o rfl⟩
theorem aGo(E:Option Addr)(n c bn bv bd m:Nat)(ds:List ByteArray)(d:Dc)(w:World)(hd:bT w bd m ds)(hs:d.nm.size<=maxLen):
 Calls Tryz.prog 75 #[.agg (eF E n c bn bv bd),.agg (aU d)] w fun e w'=>e=.returned (.bool (!ds.any (cI d.nm)))/\Below w.heap.size w w':=by
 have HF:=Hd fun w1 hw=>sY w E n c bn bv bd w1 hw;have Fd:=Hd fun w w1 hw=>mG w d w1 hw;have HC:=Hd fun w1 (a:Below w.heap.size w w1)=>tV bd m ds d.nm w1 (hd.below a) hs;clear hd hs;generalize ds.any (cI d.nm)=Au at *;unfold eF at HF⊢;unfold aU at Fd⊢;go_in
 go_upto_region 1 with(fail);generalize Ag:w.alloc _=w1;obtain⟨Aa,hg,hcell⟩:=HF.o w1 Ag;generalize Br:w1.alloc _=w2;obtain⟨Ad,hg2,Am⟩:=Fd.o w1 w2 Br;rw[hg]at Am;have Aj:=Hd (Aa.tr Ad);have q3:=hcell w2 Ad 3;have d0:=Am w2 (Yg _ _) 0;simp only[Ya,Yb,Yc]at q3 d0;have HD:=Hd (HC.o w2 Aj.o);clear Ag Br hcell Am Aa Ad HF Fd HC;go_wp2_with fail;refine HD.o.mono ?_;rintro e w3 ⟨rfl,Ak⟩;have Ax:=Hd (Aj.o.tr Ak);clear Ak q3 d0 HD;go_wp2_with fail;go_ret;exact⟨rfl,Ax.o⟩
theorem aXf(E:Option Addr)(n c bn bv bd m:Nat)(es:List En)(vs:List ByteArray)(d:Dc)(w:World)(hE:bU w E n es)(hd:bT w bv m vs)(hs:d.on.size<=maxLen):
 Calls Tryz.prog 73 #[.agg (eF E n c bn bv bd),.agg (aU d)] w fun e w'=>e=.returned (.bool (nA vs es d))/\Below w.heap.size w w':=by
 have HF:=Hd fun w1 hw=>sY w E n c bn bv bd w1 hw;have Fd:=Hd fun w w1 hw=>mG w d w1 hw;have HC:=Hd fun w1 (a:Below w.heap.size w w1)=>tV bv m vs d.on w1 (hd.below a) hs;have HA:=Hd fun w1 (a:Below w.heap.size w w1)=>aDf E n c bn bv bd es d.ct w1 (hE.below a);have HO:=Hd (show nA vs es d=(!(d.on.toList==[]) && (!vs.any (cI d.on) || !dM es d.ct))from rfl);clear hd hs hE;generalize nA vs es d=Au at *;generalize vs.any (cI d.on)=bh at *;generalize dM es d.ct=ba at *;unfold eF at HF HA⊢;unfold aU at Fd⊢;generalize d.on=on at *;generalize d.ct=ct at *;cases h1:(on.toList==[])with
 |true=>
  have h2:on.toList.isEmpty=true:=aAl;have HR:=Hd (show Au=false by rw[HO.o,h1];rfl);go_in
  go_upto_region 1 with(fail);generalize Ag:w.alloc _=w1;obtain⟨Aa,hg,hcell⟩:=HF.o w1 Ag;generalize Br:w1.alloc _=w2;obtain⟨Ad,hg2,Am⟩:=Fd.o w1 w2 Br;rw[hg]at Am;have Aj:=Hd (Aa.tr Ad);have q2:=hcell w2 Ad 2;have d4:=Am w2 (Yg _ _) 4;simp only[Ya,Yb,Yc]at q2 d4;clear Ag Br hcell Am Aa Ad HF Fd HC HA;go_wp2_with fail;go_ret;exact⟨fF HR.o.symm,Aj.o⟩
 |false=>
  have h2:on.toList.isEmpty=false:=aAl;cases bh with
  |false=>
   have HR:=Hd (show Au=true by rw[HO.o,h1];rfl);go_in
   go_upto_region 1 with(fail);generalize Ag:w.alloc _=w1;obtain⟨Aa,hg,hcell⟩:=HF.o w1 Ag;generalize Br:w1.alloc _=w2;obtain⟨Ad,hg2,Am⟩:=Fd.o w1 w2 Br;rw[hg]at Am;have Aj:=Hd (Aa.tr Ad);have q2:=hcell w2 Ad 2;have d4:=Am w2 (Yg _ _) 4;simp only[Ya,Yb,Yc]at q2 d4;have HD:=Hd (HC.o w2 Aj.o);clear Ag Br hcell Am Aa Ad HF Fd HC HA;go_wp2_with fail;refine HD.o.mono ?_;rintro e w3 ⟨rfl,Ak⟩;have Ax:=Hd (Aj.o.tr Ak);clear Ak HD;go_wp2_with fail;go_ret;exact⟨fF HR.o.symm,Ax.o⟩
  |true=>
   have HR:=Hd (show Au=!ba by rw[HO.o,h1];cases ba<;>rfl);go_in
   go_upto_region 1 with(fail);generalize Ag:w.alloc _=w1;obtain⟨Aa,hg,hcell⟩:=HF.o w1 Ag;generalize Br:w1.alloc _=w2;obtain⟨Ad,hg2,Am⟩:=Fd.o w1 w2 Br;rw[hg]at Am;have Aj:=Hd (Aa.tr Ad);obtain⟨q0,q1,q2,q3,-,-⟩:=Sx (hcell w2 Ad);have d4:=Am w2 (Yg _ _) 4;have d5:=Am w2 (Yg _ _) 5;simp only[Ya,Yb,Yc]at q0 q1 q2 q3 d4 d5;have Nf:=Hd fun W (b:Below w2.heap.size w2 W) j=>hcell W (Ad.tr b) j;have Io:=Hd fun W (b:Below w2.heap.size w2 W) j=>Am W b j;have HD:=Hd (HC.o w2 Aj.o);clear Ag Br hcell Am Aa Ad HF Fd HC;go_wp2_with fail;refine HD.o.mono ?_;rintro e w3 ⟨rfl,Ak⟩;have Ax:=Hd (Aj.o.tr Ak);obtain⟨r0,r1,r2,r3,-,-⟩:=Sx (Nf.o w3 Ak);have e3:=Io.o w3 Ak 5;simp only[Ya,Yb,Yc]at r0 r1 r2 r3 e3;have HE:=Hd (HA.o w3 Ax.o);clear Ak HD q0 q1 q2 q3 d4 d5 HA;go_wp2_with fail;refine HE.o.mono ?_;rintro e w4 ⟨rfl,Bk⟩;have Be:=Hd (Ax.o.tr Bk);clear Bk HE;go_wp2_with fail;go_ret;exact⟨fF HR.o.symm,Be.o⟩
theorem bAo(E:Option Addr)(n c bn bv bd m md:Nat)(vs ds:List ByteArray)(s:ByteArray)(w:World)(hv:bT w bv m vs)(hd:bT w bd md ds)(An:bv≠bd)(hm:md<1000000)(hs:s.size<=maxLen):
 Calls Tryz.prog 111 #[.agg (eF E n c bn bv bd),.string s] w fun e w'=>e=.returned (.int .i64 (oO vs ds s))/\Gd bd w w'/\(oO vs ds s=0->bT w' bd (md+1) (ds++[s])):=by
 have HF:=Hd fun w1 hw=>sY w E n c bn bv bd w1 hw;have HC:=Hd fun w1 (a:Below w.heap.size w w1)=>tV bv m vs s w1 (hv.below a) hs;have HD:=Hd fun w1 (a:Below w.heap.size w w1)=>tV bd md ds s w1 (hd.below a) hs;have HA:=Hd fun w1 (a:Below w.heap.size w w1)=>zY bd md ds s w1 (hd.below a) hm hs;have HO:=Hd (show oO vs ds s=if vs.any (cI s)=false then 5 else if ds.any (cI s)=true then 6 else 0 from rfl);have Ah:=hd.lt;clear hd hs hv;generalize oO vs ds s=Au at *;generalize vs.any (cI s)=b1 at *;generalize ds.any (cI s)=b2 at *;unfold eF at HF⊢;go_in
 go_upto_region 1 with(fail);generalize Ag:w.alloc _=w1;obtain⟨Aa,hg,hcell⟩:=HF.o w1 Ag;have Ac:=Hd Aa;have HQ:=Hd hcell;have q2:=hcell w1 (Yg _ _) 2;simp only[Ya,Yb,Yc]at q2;have Bp:=Hd (HC.o w1 Aa);clear Ag hcell Aa HF HC;cases b1 with
 |false=>
  have HR:=Hd (show Au=5 by rw[HO.o,if_pos rfl]);go_wp2_with fail;refine Bp.o.mono ?_;rintro e w2 ⟨rfl,Ad⟩;have Aj:=Hd (Ac.o.tr Ad);clear Ad Bp q2;go_wp2_with fail;go_ret;exact⟨by rw[HR.o];rfl,Gd.of_below Aj.o,fun h=>by rw[HR.o]at h;cases h⟩
 |true=>
  go_wp2_with fail;refine Bp.o.mono ?_;rintro e w2 ⟨rfl,Ad⟩;have Aj:=Hd (Ac.o.tr Ad);have q3:=HQ.o w2 Ad 3;have Nu:=Hd fun W (b:Below w2.heap.size w2 W) j=>HQ.o W (Ad.tr b) j;simp only[Ya,Yb,Yc]at q3;have Aq:=Hd (HD.o w2 Aj.o);clear Ad Bp q2 HD HQ;cases b2 with
  |true=>
   have HR:=Hd (show Au=6 by rw[HO.o,if_neg bS,if_pos rfl]);go_wp2_with fail;refine Aq.o.mono ?_;rintro e w3 ⟨rfl,Ak⟩;have Ax:=Hd (Aj.o.tr Ak);clear Ak Aq q3;go_wp2_with fail;go_ret;exact⟨by rw[HR.o];rfl,Gd.of_below Ax.o,fun h=>by rw[HR.o]at h;cases h⟩
  |false=>
   have HR:=Hd (show Au=0 by rw[HO.o,if_neg bS,if_neg bS]);go_wp2_with fail;refine Aq.o.mono ?_;rintro e w3 ⟨rfl,Ak⟩;have Ax:=Hd (Aj.o.tr Ak);have r3:=Nu.o w3 Ak 3;simp only[Ya,Yb,Yc]at r3;have Bx:=Hd (HA.o w3 Ax.o);clear Ak Aq q3 Nu HA;go_wp2_with fail;refine Bx.o.mono ?_;rintro e w4 ⟨rfl,Nt,Jx⟩;have Nv:=Hd Nt;have Nw:=Hd ((Gd.of_below Ax.o).trans Jx);clear Nt Jx Bx r3;go_wp2_with fail;go_ret;exact⟨by rw[HR.o];rfl,Nw.o,fun _=>Nv.o⟩
theorem bDx(E:Option Addr)(n c bn bv bd mn mv:Nat)(es:List En)(Aq vs:List ByteArray)(x:Ex)(A:Option Addr)(ca:Nat)(B:Option Addr)(cb:Nat)(w:World)(hE:bU w E n es)(hn:bT w bn mn Aq)(hv:bT w bv mv vs)(hx:aH w x A B)(hs:x.s.size<=maxLen):
 Calls Tryz.prog 113 #[.agg (eF E n c bn bv bd),.agg (aE x A ca B cb)] w fun e w'=>e=.returned (.bool (rT vs Aq es x))/\Below w.heap.size w w':=by
 have Bp:∀fn first cap w,(Instr.makeFunc fn first cap).run Tryz.prog w=.ok (.func fn first cap) w:=fun _ _ _ _=>rfl
 have HF:=Hd fun w1 hw=>sY w E n c bn bv bd w1 hw;have Fd:=Hd fun w w1 hw h=>fB w x A ca B cb w1 hw h;have HX:=Hd hx;have HV:=Hd fun w1 (a:Below w.heap.size w w1)=>tV bv mv vs x.s w1 (hv.below a) hs;have HN:=Hd fun w1 (a:Below w.heap.size w w1)=>tV bn mn Aq x.s w1 (hn.below a) hs;have HA:=Hd fun w1 (a:Below w.heap.size w w1)=>aDf E n c bn bv bd es x.s w1 (hE.below a);have HP:=Hd fun w1 (a:Below w.heap.size w w1)=>bDu 110 (.agg (eF E n c bn bv bd)) (fun _ _=>rfl) (fun t=>!dM es t) A x.arms.length ca x.arms w1 (hx.below a).arms (fun t ht W hW=>aDf E n c bn bv bd es t W (hE.below (a.tr hW)));have HO:=Hd (show rT vs Aq es x=if x.k==3 then vs.any (cI x.s) else if x.k==11 || x.k==12 then vs.any (cI x.s) && !(x.arms.any fun a=>!dM es a) else if x.k==4 then dM es x.s else if x.k==13 then Aq.any (cI x.s) else !(x.k==17) from rfl);clear hE hn hv hs hx;generalize rT vs Aq es x=Au at *;generalize vs.any (cI x.s)=bh at *;generalize Aq.any (cI x.s)=bm at *;generalize dM es x.s=ba at *;generalize (x.arms.any fun a=>!dM es a)=bp at *;unfold eF at HF HA HP ⊢;unfold aE at Fd ⊢;generalize x.arms.length=la at *;generalize x.subs.length=lb at *;generalize x.s=s at *;generalize x.k=k at *;rcases(show k=3\/k=11\/k=12\/k=4\/k=13\/k=17\/((k==3)=false/\(k==11)=false/\(k==12)=false/\(k==4)=false/\(k==13)=false/\(k==17)=false) by
  simp only[Xb];omega)with rfl|rfl|rfl|rfl|rfl|rfl|⟨b3,b11,b12,b4,b13,b17⟩
 . have HR:=Hd (show Au=bh by rw[HO.o];rfl);go_in
   go_upto_region 1 with(fail);generalize Ag:w.alloc _=w1;obtain⟨Aa,hg,hcell⟩:=HF.o w1 Ag;generalize Br:w1.alloc _=w2;obtain⟨Ad,hg2,Gg,Am⟩:=Fd.o w1 w2 Br (HX.o.below Aa);rw[hg]at Am;have Aj:=Hd (Aa.tr Ad);obtain⟨d0,-,d2,-,d4,-⟩:=Sx (Am w2 (Yg _ _));obtain⟨q0,q1,q2,q3,-,-⟩:=Sx (hcell w2 Ad);simp only[Ya,Yb,Yc]at d0 d2 d4 q0 q1 q2 q3;clear Ag Br hcell Am Aa Ad HF Fd Gg;have HD:=Hd (HV.o w2 Aj.o);exact aD5
 . exact aP1
 . exact aP1
 . have HR:=Hd (show Au=ba by rw[HO.o];rfl);go_in
   go_upto_region 1 with(fail);generalize Ag:w.alloc _=w1;obtain⟨Aa,hg,hcell⟩:=HF.o w1 Ag;generalize Br:w1.alloc _=w2;obtain⟨Ad,hg2,Gg,Am⟩:=Fd.o w1 w2 Br (HX.o.below Aa);rw[hg]at Am;have Aj:=Hd (Aa.tr Ad);obtain⟨d0,-,d2,-,d4,-⟩:=Sx (Am w2 (Yg _ _));obtain⟨q0,q1,q2,q3,-,-⟩:=Sx (hcell w2 Ad);simp only[Ya,Yb,Yc]at d0 d2 d4 q0 q1 q2 q3;clear Ag Br hcell Am Aa Ad HF Fd Gg;have HD:=Hd (HA.o w2 Aj.o);exact aD5
 . have HR:=Hd (show Au=bm by rw[HO.o];rfl);go_in
   go_upto_region 1 with(fail);generalize Ag:w.alloc _=w1;obtain⟨Aa,hg,hcell⟩:=HF.o w1 Ag;generalize Br:w1.alloc _=w2;obtain⟨Ad,hg2,Gg,Am⟩:=Fd.o w1 w2 Br (HX.o.below Aa);rw[hg]at Am;have Aj:=Hd (Aa.tr Ad);obtain⟨d0,-,d2,-,d4,-⟩:=Sx (Am w2 (Yg _ _));obtain⟨q0,q1,q2,q3,-,-⟩:=Sx (hcell w2 Ad);simp only[Ya,Yb,Yc]at d0 d2 d4 q0 q1 q2 q3;clear Ag Br hcell Am Aa Ad HF Fd Gg;have HD:=Hd (HN.o w2 Aj.o);exact aD5
 . have HR:=Hd (show Au=false by rw[HO.o];rfl);exact aQr
 . have HR:=Hd (show Au=true by rw[HO.o];rw[b3,b11,b12,b4,b13,b17];rfl);exact aQr
theorem aKy:(Tryz.prog.info? 88).map (·.size)=some 4:=aC
theorem bGi{fn:Func}{p:Tmp}(h:fn.results=#[.cell p 88])(tmps:Array Value)(w:World)(i:Nat)(E:Option Addr)(n c bn bv bd:Nat)
 (hp:tmps.getD p undef=.pointer (some ⟨i,0,none⟩))(hg:w.heap[i]?=some (Obj.cells (eF E n c bn bv bd) 88)):(results fn tmps).run Tryz.prog w=.ok (.agg (eF E n c bn bv bd)) w:=
 results_cell_row h tmps w i _ _ _ _ hp hg Tryz.underlying88 rfl aKy
theorem aHk{l:List Dc}{k:Nat}(h:k<l.length):(bM l).take (k+1)=(bM l).take k++[(l[k]?.getD default).nm]:=by
 unfold bM;rw[List.take_succ_eq_append_getElem iI,Yk h];simp
theorem bT.row{W:World}{b m g:Nat}{l:List ByteArray}(h:bT W b m l)(An:b≠g)(cs:Array Value):bT (W.setRow g cs) b m l:=
 h.kept (row:=some g) ⟨rfl,rfl,rfl,by simp,fun k _ hk=>setRow_other W g k _ (fun e=>hk (by rw[e]))⟩ (fun e=>An zN)
theorem kX{w w1:World}{o:Obj}(h:w.alloc o=w1):Below w.heap.size w w1/\w1.heap.size=w.heap.size+1/\w1.heap[w.heap.size]?=some o:=by
 subst h;exact⟨(Yg _ _).alloc (Yh _) _,by simp,World.alloc_heap_new _ _⟩
theorem aDg{w w1:World}(h:w.alloc (.map #[] 0)=w1):bT w1 w.heap.size 0 []:=by
 subst h;exact bT.new _
def aAa(E:Option Addr)(n c bn:Nat)(w:World)(x:Nd)(e:Ending)(w':World):Prop:=
 ∃bv bd,e=.returned (.agg (eF E n c bn bv bd))/\bT w' bv x.all.length (bM x.all)/\bT w' bd x.ins.length (bM x.ins)/\Below w.heap.size w w'/\w.heap.size<=bv/\bv<bd
theorem bAp(E:Option Addr)(n c bn:Nat)(x:Nd)(A1:Option Addr)(c1:Nat)(A2:Option Addr)(c2:Nat)(A3:Option Addr)(c3:Nat)(A4:Option Addr)(c4:Nat)(w:World)(h:cF w x A1 A2 A3 A4)(hn:x.all.length<=1000)(hz:∀d∈x.all,d.nm.size<=maxLen):
 Calls Tryz.prog 43 #[.slice E n c,.map (some bn),.agg (bK x A1 c1 A2 c2 A3 c3 A4 c4)] w (aAa E n c bn w x):=by
 have hmm:=@run_makeMap Tryz.prog;have HF:=Hd fun w1 hw=>iE w x A1 c1 A2 c2 A3 c3 A4 c4 w1 hw h;have Ox:=Hd fun b w1 (a:cF w1 x A1 A2 A3 A4) hc hb=>aIj x A1 c1 A2 c2 A3 c3 A4 b w1 a hc hb aA;have HI:=Hd h.1;have Pw:=Hd fun k (hk:k<x.all.length)=>aHk (l:=x.all) (k:=k) hk;have Gz:=Hd fun k (hk:k<x.ins.length)=>aHk (l:=x.ins) (k:=k) hk;have Qa:=Hd fun k (hk:k<x.all.length)=>hz _ (nH (l:=x.all) hk);have Qd:x.ins.length<=x.all.length:=by unfold Nd.all;simp
 have Pq:=Hd fun k (hk:k<x.ins.length)=>hz (x.ins[k]?.getD default) (by unfold Nd.all;rw[Yw];exact List.mem_append_left _ (nH (l:=x.ins) hk));have Pr:=Hd (show(bM x.all).take x.all.length=bM x.all from Yx (by unfold bM;simp));have Py:=Hd (show(bM x.ins).take x.ins.length=bM x.ins from Yx (by unfold bM;simp));have Bt:=Hd (fun w d w1 h=>mG w d w1 h);have Pn:∀bv bd w',bT w' bv x.all.length (bM x.all)->bT w' bd x.ins.length (bM x.ins)->Below w.heap.size w w'->w.heap.size<=bv->bv<bd->aAa E n c bn w x (.returned (.agg (eF E n c bn bv bd))) w':=fun bv bd w' h1 h2 h3 h4 h5=>⟨bv,bd,rfl,h1,h2,h3,h4,h5⟩;have Px:=Hd Pn;clear h hz Pn;generalize aAa E n c bn w x=RP at *;unfold bK at HF⊢;unfold vO at Ox;unfold aU at Bt;generalize bM x.all=sa at *;generalize bM x.ins=si at *;generalize Ps:x.all=al at *;generalize Qb:x.ins=il at *;generalize Pu:al.length=na at *;generalize Pz:il.length=ni at *;clear Ps Qb Pu Pz;go_in
 go_upto_region 2 with(fail);generalize Ag:w.alloc _=w1;obtain⟨Aa,Od,Av,Bx⟩:=HF.o w1 Ag;generalize Br:w1.alloc _=w2;obtain⟨Ad,hg2,Cu⟩:=kX Br;generalize Cr:w2.alloc _=w3;obtain⟨Ak,Ou,-⟩:=kX Cr;have Om:=aDg Cr;generalize On:w3.alloc _=w4;obtain⟨Bk,Po,-⟩:=kX On;have Pa:=aDg On;generalize Pk:w4.alloc _=w5;obtain⟨Bv,Qc,Ov⟩:=kX Pk;rw[Od]at Cu;rw[hg2,Od]at Om;rw[Ou,hg2,Od]at Pa;rw[Po,Ou,hg2,Od]at Ov;have Nt:Below w1.heap.size w1 w5:=((Ad.trans (Ak.mono aA)).trans (Bk.mono aA)).trans (Bv.mono aA);have Oa:Below w2.heap.size w2 w5:=(Ak.trans (Bk.mono aA)).trans (Bv.mono aA);have Og:Below w3.heap.size w3 w5:=Bk.trans (Bv.mono aA);have Oe:=(Oa.block (w.heap.size+1) aA).trans Cu;have Ob:=Om.below Og;have Of:=Pa.below Bv;have Jj:Below w.heap.size w w5:=Aa.trans (Nt.mono aA);have hg:w5.heap.size=w.heap.size+1+1+1+1+1:=aA;obtain⟨-,q1,q2,q3,-,-⟩:=Sx (Bx w5 Nt);simp only[Ya,Yb,Yc]at q1 q2 q3;have Ci:=(Yg w5.heap.size w5).alloc (Yh _) (.cells #[.slice A1 ni c1,.slice A2 x.outs.length c2,.slice A3 x.vars.length c3] 32);have Ph:=Hd (Ox.o w5.heap.size _ ((Av.below Nt).below Ci) (fun j=>by rw[Zp]) aG);have Du:=Hd Ci;have HN:=Hd fun W (b:Below w5.heap.size w5 W) j=>Bx W (Nt.trans (b.mono aA)) j;have Pp:=Hd Ov;have Pi:=Hd Oe;have Pj:=Hd Ob;have Pm:=Hd Of;have Ck:=Hd Jj;have Kg:=Hd hg;clear Ag Br Cr On Pk Bx Av Aa Ad Ak Bk Bv Nt Oa Og Cu Ov Oe Om Pa Ob Of Jj HF Ox Ci Od hg2 Ou Po Qc;clear hg;go_wp2_with fail;refine Ph.o.mono ?_;rintro e w6 ⟨A,cA,rfl,Ap,Ci⟩;have Bp:Below w5.heap.size w5 w6:=Du.o.tr Ci;have Ed:=Hd Ap;have Pv:=Hd (HN.o w6 Bp);have Nw:=Hd ((Bp.block (w.heap.size+1+1+1+1) (by rw[Kg.o];omega)).trans Pp.o);have Pb:=Hd ((Bp.block (w.heap.size+1) (by rw[Kg.o];omega)).trans Pi.o);have Pd:=Hd (Pj.o.below Bp);have Ow:=Hd (Pm.o.below Bp);have Oi:=Hd (Ck.o.tr Bp);have Lv:=Hd (show w.heap.size+1+1+1+1+1<=w6.heap.size by have:=Bp.size;rw[Kg.o]at this;exact this);clear Ap Ci Bp HN Pp Pi Pj Pm Du Ck Kg q1 q2 q3;clear Ph;go_wp2_with fail;go_loopw [26] (fun i wr=>∃k:Nat,k<=na/\i=.int .i64 k/\bT wr (w.heap.size+1+1) k (sa.take k)/\Gd (w.heap.size+1+1) w6 wr) (fun i _=>na-(intOf i).toNat)
 case atStart=>exact⟨0,Yq _,rfl,Pd.o,Gd.refl _⟩
 case round=>
  obtain⟨k,hk,rfl,Oh,Nz⟩:=hrel;have HS:=Hd Oh;have Nu:=Hd Nz;clear Oh;by_cases Ah:k<na
  . obtain⟨b,off,rfl,hb,d0,d1,d2,d3,d4,d5⟩:=wB (Nz.rdD Ed.o) Ah;have Pe:=Hd (Qa.o k Ah);have Gn:=Hd (Pw.o k Ah);clear Nz;generalize al[k]?.getD default=p at *;go_upto_region 5 with(fail);generalize Ok:wr.alloc _=w7;obtain⟨Dw,Oy,Aq⟩:=Bt.o wr p w7 Ok;have r2:=(Dw.cell (p:=⟨w.heap.size+1+1+1+1,2,none⟩) (Yr aPj Nu.o.size)).trans ((Nu.o.cell (j:=2) oA).trans (cQ Nw.o 2));have e0:=Aq w7 (Yg _ _) 0;simp only[Ya,Yb,Yc]at e0 r2;have Oj:=Hd (zY (w.heap.size+1+1) k (sa.take k) p.nm w7 (HS.o.below Dw) aA Pe.o);have Oo:=Hd (Nu.o.trans (Gd.of_below Dw));clear Ok Dw Aq d0 d1 d2 d3 d4 d5 Oy;go_wp2_with fail;refine Oj.o.mono ?_;rintro e w8 ⟨rfl,Oc,Ol⟩;have Pc:=Hd Oc;have Oq:=Hd (Oo.o.trans Ol);clear Oc Ol e0 r2 Oj;go_wp2_with fail;go_roundw;case rel=>exact⟨k+1,by omega,by go_num,by rw[Gn.o];exact Pc.o,Oq.o⟩
    case measure=>simp[intOf];omega
  . obtain rfl:k=na:=by omega
    have n1:=(Nz.cell (j:=1) (i:=w.heap.size) oA).trans (Pv.o 1);simp only[Ya,Yb,Yc]at n1;have Bo:=Hd (Gd.below Oi.o Nz Oi.o.size aA);clear Nz;go_wp2_with fail;generalize wr=wz at *;go_loopw [39] (fun i wr=>∃j:Nat,j<=ni/\i=.int .i64 j/\bT wr (w.heap.size+1+1+1) j (si.take j)/\Gd (w.heap.size+1+1+1) wz wr) (fun i _=>ni-(intOf i).toNat)
    case atStart=>exact⟨0,Yq _,rfl,Ow.o.gd Nu.o aA,Gd.refl _⟩
    case round=>
     obtain⟨j,hj,rfl,Nv,Nx⟩:=hrel;have Fu:=Hd Nv;have Jx:=Hd Nx;have Cm:=Hd (Gd.below Bo.o Nx Bo.o.size aA);clear Nv Nx;by_cases Ny:j<ni
     . obtain⟨b,off,rfl,hb,d0,d1,d2,d3,d4,d5⟩:=wB (HI.o.below Cm.o) Ny;have Pe:=Hd (Pq.o j Ny);have Gn:=Hd (Gz.o j Ny);generalize il[j]?.getD default=p at *;go_upto_region 10 with(fail);generalize Ok:wr.alloc _=w7;obtain⟨Dw,Oy,Aq⟩:=Bt.o wr p w7 Ok;have r3:=(Dw.cell (p:=⟨w.heap.size+1+1+1+1,3,none⟩) (Yr (Yr aPj Nu.o.size) Jx.o.size)).trans
        ((Jx.o.cell (j:=3) (Yr oA Nu.o.size)).trans ((Nu.o.cell (j:=3) oA).trans (cQ Nw.o 3)))
       have e0:=Aq w7 (Yg _ _) 0;simp only[Ya,Yb,Yc]at e0 r3;have Oj:=Hd (zY (w.heap.size+1+1+1) j (si.take j) p.nm w7 (Fu.o.below Dw) aA Pe.o);have Oo:=Hd (Jx.o.trans (Gd.of_below Dw));clear Ok Dw Aq d0 d1 d2 d3 d4 d5 Oy;go_wp2_with fail;refine Oj.o.mono ?_;rintro e w8 ⟨rfl,Oc,Ol⟩;have Pc:=Hd Oc;have Oq:=Hd (Oo.o.trans Ol);clear Oc Ol e0 r3 Oj;go_wp2_with fail;go_roundw;case rel=>exact⟨j+1,by omega,by go_num,by rw[Gn.o];exact Pc.o,Oq.o⟩
       case measure=>simp[intOf];omega
     . obtain rfl:j=ni:=by omega
       have Pf:w.heap.size+1+1+1+1<wz.heap.size:=Yr oA Nu.o.size;have HV:=Hd (Jx.o.blk (Nu.o.blk Pb.o aA) aA);have hR:∀a,wr.cell? ⟨w.heap.size+1+1+1+1,a,none⟩=_:=fun a=>(Jx.o.cell (j:=a) Pf).trans ((Nu.o.cell (j:=a) oA).trans (cQ Nw.o a));obtain⟨r0,r1,r2,r3,-,-⟩:=Sx hR;simp only[Ya,Yb,Yc]at r0 r1 r2 r3;have Oz:=Hd (show bT wr (w.heap.size+1+1) k sa by have:=HS.o.gd Jx.o aA;rwa[Pr.o]at this);have Ot:=Hd (show bT wr (w.heap.size+1+1+1) j si by have:=Fu.o;rwa[Py.o]at this);clear hR Pf;go_wp2_with (refine Zv rfl _ _ _ rfl (w.heap.size+1) _ rfl rfl _ _ HV.o aKy rfl aQ ?_);exact Zu (bGi (p:=6) rfl _ _ (w.heap.size+1) E n c bn (w.heap.size+1+1) (w.heap.size+1+1+1) rfl (Xd _ _ _ _ _ _ HV.o)) rfl
        (Px.o _ _ _ (Oz.o.row aA _) (Ot.o.row aA _) (Xc Cm.o aA _) aA aA)
end
section
open Go.RowKit Go.Shelf Go.Sort Go.BigFrame
attribute [local go_sem] Oper.semAt_some
def fY(l:List Qn)(k:Nat):List ByteArray:=(l[k]?.getD default).ns
def pJ(l:List Qn)(k j:Nat):ByteArray:=(fY l k)[j]?.getD ByteArray.empty
def lM(vs:List ByteArray)(D:Nat->List ByteArray)(l:List Qn)(k j:Nat):Int:=oO vs (D k++(fY l k).take j) (pJ l k j)
def wT(l:List Qn)(D:Nat->List ByteArray)(eS:Nat->Int)(bd:Nat)(w:World)(e:Ending)(w':World):Prop:=
 ∃a er:Int,e=.returned (.tuple #[.int .i64 a,.int .i64 er])/\Gd bd w w'/\
  ((∃k,k<l.length/\(∀j,j<k->eS j=0)/\eS k≠0/\a=(k:Nat)/\er=eS k)\/((∀j,j<l.length->eS j=0)/\er=0/\bT w' bd 10000 (D l.length)))
theorem bDy{l:List Qn}{k j:Nat}(h:j<(fY l k).length):(fY l k).take (j+1)=(fY l k).take j++[pJ l k j]:=xJ h
def mkD(m:Nat):Deferred:={ target:=.collected m,args:=#[] }
def iL(bd:Nat)(w:World)(rm:Array Value)(ms:List Nat)(W:World):Prop:=
 Gd bd w W/\W.heap[w.heap.size]?=some (.cells rm 88)/\Boxed W (w.heap.size+1) 28 (.int .i64 0)/\ms.Nodup/\∀m,m∈ms->w.heap.size+1+1<=m/\W.heap[m]?=some (.deferred (some []))
section
variable {bd:Nat}{w W W':World}{rm:Array Value}{ms:List Nat}
theorem iL.gd(h:iL bd w rm ms W)(hd:bd<w.heap.size)(hg:Gd bd W W'):iL bd w rm ms W':=
 ⟨h.1.trans hg,hg.blk h.2.1 aA,hg.blk h.2.2.1 aA,h.2.2.2.1,fun m hm=>⟨(h.2.2.2.2 m hm).1,(hg.block (Yl.1 (h.2.2.2.2 m hm).2).1 (by have:=(h.2.2.2.2 m hm).1;omega)).trans (h.2.2.2.2 m hm).2⟩⟩
theorem iL.below(h:iL bd w rm ms W)(hd:bd<w.heap.size)(hb:Below W.heap.size W W'):iL bd w rm ms W':=h.gd hd (Gd.of_below hb)
theorem iL.set0(h:iL bd w rm ms W):iL bd w rm ms (W.setCell ⟨w.heap.size+1,0,none⟩ (.int .i64 0)):=
 ⟨h.1.new ((Yg (w.heap.size+1) W).setCell (p:=⟨w.heap.size+1,0,none⟩) (Yh _) _) aA,(Below.heap_setCell _ _ _ _ aG).trans h.2.1,h.2.2.1.set _,h.2.2.2.1,
  fun m hm=>⟨(h.2.2.2.2 m hm).1,(Below.heap_setCell _ _ _ _ aPu).trans (h.2.2.2.2 m hm).2⟩⟩
def uI(bd:Nat)(w:World)(ms:List Nat)(W:World):Prop:=Gd bd w W/\ms.Nodup/\∀m,m∈ms->w.heap.size+1+1<=m/\W.heap[m]?=some (.deferred (some []))
theorem iL.bad(h:iL bd w rm ms W)(v:Value):uI bd w ms (W.setCell ⟨w.heap.size+1,0,none⟩ v):=
 ⟨h.1.new ((Yg (w.heap.size+1) W).setCell (p:=⟨w.heap.size+1,0,none⟩) (Yh _) _) aA,h.2.2.2.1,
  fun m hm=>⟨(h.2.2.2.2 m hm).1,(Below.heap_setCell _ _ _ _ aPu).trans (h.2.2.2.2 m hm).2⟩⟩
theorem iL.ok(h:iL bd w rm ms W):uI bd w ms W:=⟨h.1,h.2.2.2⟩
theorem uI.below(h:uI bd w ms W)(hb:Below W.heap.size W W')(hs:w.heap.size<=W.heap.size):uI bd w ms W':=
 ⟨h.1.new hb hs,h.2.1,fun m hm=>⟨(h.2.2 m hm).1,(hb.block m (Yl.1 (h.2.2 m hm).2).1).trans (h.2.2 m hm).2⟩⟩
theorem iL.mark(h:iL bd w rm ms W){m:Nat}(hm:w.heap.size+1+1<=m)(hn:m∉ms)(hd:W.heap[m]?=some (.deferred (some []))):iL bd w rm (m::ms) W:=
 ⟨h.1,h.2.1,h.2.2.1,List.nodup_cons.2 ⟨hn,h.2.2.2.1⟩,fun x hx=>by
  rcases Yu.1 hx with rfl|hx;· exact⟨hm,hd⟩
  . exact h.2.2.2.2 x hx⟩
theorem aSv{β:Type}{B:Nat}{X0:World}{Aq:Option Nat}(hB:X0.heap.size<=B):OwnFrom B (fun(_:β) W=>X0.grownBy W Aq):=fun s X Y row hs hg hr=>World.grownBy.andThen hs hg (fun j e=>.inl (Yp hB (hr j e).1))
theorem bT.blkeq{b m:Nat}{l:List ByteArray}(h:bT W b m l)(e:W'.heap[b]?=W.heap[b]?):bT W' b m l:=by
 obtain⟨es,Aq,hb,r⟩:=h;exact⟨es,Aq,e.trans hb,r⟩
theorem aS3{lo m:Nat}(hm:lo<=m)(W:World)(o:Obj):Below lo W (W.putObj m o):=⟨rfl,rfl,rfl,by simp[World.putObj],fun k hk=>World.putObj_heap_other aA⟩
theorem xC{F:Fence}{n:Nat}{P:Program}{fn:Func}{tmps:Array Value}{R:Ending->World->Prop}{lo:Nat}:∀(ms:List Nat)(W:World),ms.Nodup->(∀m,m∈ms->lo<=m/\W.heap[m]?=some (.deferred (some [])))->
 (∀W',Below lo W W'->LeavesInM F n P fn tmps R [] .returning W')->LeavesInM F n P fn tmps R (ms.map mkD) .returning W
 |[],W,_,_,h=>h W (Yg _ _)
 |m::ms,W,hn,hm,h=>by
  have h1:=hm m aG;obtain⟨hn1,Lm⟩:=List.nodup_cons.1 hn;have hb:=aS3 h1.1 W (.deferred none);refine⟨by simp,.inl ⟨m,W.putObj m (.deferred none),rfl,run_takeDeferred h1.2,?_⟩⟩;refine xC ms _ Lm (fun x hx=>⟨(hm x (by simp[hx])).1,?_⟩) fun W' h'=>h W' (hb.trans h');refine(World.putObj_heap_other (fun e=>?_)).trans (hm x (by simp[hx])).2;subst e;exact hn1 hx
end
theorem bAq(n:Nat)(Rq:6<=n)(E:Option Addr)(nE cE bn bv bd mn mv:Nat)(es:List En)(Oo vs:List ByteArray)(l:List Qn)(D:Nat->List ByteArray)(eS:Nat->Int)(pS:Ex->Bool)(Q:Option Addr)(cq:Nat)(w0 w:World)
 (Ae:Below w0.heap.size w0 w)(Hf:w0.heap.size<=bd)(hE:bU w0 E nE es)(hQ:gN w0 Q l.length l)(hN:bT w bn mn Oo)(hV:bT w bv mv vs)(hD:bT w bd 1000 (D 0))(Eb:bn≠bd)(Qq:bv≠bd)
 (hl:l.length<=30)(Gf:∀k,k<l.length->(fY l k).length<=20/\∀j,j<(fY l k).length->(pJ l k j).size<=maxLen)(hx:∀k,k<l.length->∀z∈bL (l[k]?.getD default).x,z.s.size<=maxLen/\rT vs Oo es z=pS z)
 (Px:∀k,k<l.length->D (k+1)=D k++fY l k)
 (Oh:∀k,k<l.length->∀j,j<(fY l k).length->(∀a,a<j->lM vs D l k a=0)->lM vs D l k j≠0->eS k=lM vs D l k j)
 (Nw:∀k,k<l.length->(∀a,a<(fY l k).length->lM vs D l k a=0)->eS k=if(bL (l[k]?.getD default).x).all pS=true then 0 else 5):
 CallsIn Fence.wide n Tryz.prog 74 #[.agg (eF E nE cE bn bv bd),.slice Q l.length cq] w (wT l D eS bd w):=by
 have h1:1<=n:=aA;have HF:=Hd fun w1 hw=>sY w E nE cE bn bv bd w1 hw;have Iy:=Hd fun w1 hw=>kX (w:=w) (w1:=w1) (o:=.cells (eF E nE cE bn bv bd) 88) hw;have HQ:=Hd hQ;have HN:=Hd hN;have HV:=Hd hV;have HD:=Hd hD;have Af:=Hd Ae;have Eg:=Hd Gf;have HX:=Hd hx;have Rk:=Hd Px;have Cs:=Hd Oh;have Od:=Hd Nw;have Pd:=Hd (show ∀e w',(∃a er:Int,e=.returned (.tuple #[.int .i64 a,.int .i64 er])/\Gd bd w w'/\((∃k,k<l.length/\(∀j,j<k->eS j=0)/\eS k≠0/\a=(k:Nat)/\er=eS k)\/((∀j,j<l.length->eS j=0)/\er=0/\bT w' bd 10000 (D l.length))))->wT l D eS bd w e w' from fun _ _ h=>h);have Ol:=Hd fun md ds s w1 (a:bT w1 bv mv vs)(b:bT w1 bd md ds) hm hs=>bAo E nE cE bn bv bd mv md vs ds s w1 a b Qq hm hs;have Qp:=Hd fun x A ca B cb w1 (a:Below w0.heap.size w0 w1)(hn:bT w1 bn mn Oo)(hv:bT w1 bv mv vs)(hx:aH w1 x A B) hs=>bDx E nE cE bn bv bd mn mv es Oo vs x A ca B cb w1 (hE.below a) hn hv hx hs;have Re:=Hd aLj;have Rc:=Hd aG1;clear Ae hE hQ hN hV hD Gf hx Px Oh Nw;generalize wT l D eS bd w=EP at *;generalize Pk:l.length=len at *;clear Pk;unfold eF at HF Iy Ol Qp⊢;refine callsIn_of_wp_marks Tryz.func74 rfl trivial ?_ rfl;simp only[Tryz.ntmps74,List.size_toArray,Yo,Zd,Nat.reduceAdd,Nat.reduceSub,Array.replicate_succ,Array.replicate_zero,List.push_toArray,List.append_toArray,Ze,Yv];refine wpIn_wide.2 ?_;go_wp2_with fail;go_step3;go_wp2_with fail;go_step3;go_wp2_with fail;have Cb:bd<w.heap.size:=HD.o.lt;generalize Ag:w.alloc _=w1;obtain⟨Aa,Ov,Ok⟩:=Iy.o w1 Ag;generalize Br:w1.alloc _=w2;obtain⟨Ad,hg2,Cu⟩:=kX Br;rw[Ov]at Cu;have Qb:=Hd (show iL bd w (eF E nE cE bn bv bd) [] w2 from⟨Gd.of_below (Aa.tr Ad),(Ad.block _ aA).trans Ok,Cu,List.nodup_nil,fun m hm=>by cases hm⟩);have Ps:=Hd (HD.o.below (Aa.tr Ad));clear Ag Br Aa Ad Ok Cu HF Iy Ov hg2;refine wp_loop (fun a' w'=>∃(u6 u8 u9 u11 u12 u15 u16 u17 u18 u19 u20 u21 u22 u23 u24 u25 u26 u27 u28 u29 u30 u31 u32 u33 u34 u35 u36 u37 u38 u39 u40 u41 u42:Value)(ds:List Deferred),(∃(k:Nat)(at_:Int)(ms:List Nat),k<=len/\u15=.int .i64 k/\u6=.int .i64 at_/\(∀a,a<k->eS a=0)/\iL bd w (eF E nE cE bn bv bd) ms w'/\bT w' bd (1000+20*k) (D k)/\ds=ms.map mkD)/\a'={ tmps:=List.toArray (.agg #[.slice E nE cE,.map (some bn),.map (some bv),.map (some bd)]::.slice Q len cq::.pointer (some ⟨w.heap.size,0,none⟩)::undef::.int .i64 0::.int .i64 0::u6::.pointer (some ⟨w.heap.size+1,0,none⟩)::u8::u9::undef::u11::u12::.slice Q len cq::.int .i64 len::u15::u16::u17::u18::u19::u20::u21::u22::u23::u24::u25::u26::u27::u28::u29::u30::u31::u32::u33::u34::u35::u36::u37::u38::u39::u40::u41::u42::undef::undef::[]),defers:=ds }) (fun a' _=>len-(intOf (a'.tmps.getD 15 undef)).toNat) ?_ ?_
 . (repeat apply Exists.intro)
   refine⟨⟨0,-1,[],Yq _,rfl,rfl,fun a ha=>absurd ha aA,Qb.o,Ps.o,rfl⟩,rfl⟩
 rintro a' wr ⟨u6,u8,u9,u11,u12,u15,u16,u17,u18,u19,u20,u21,u22,u23,u24,u25,u26,u27,u28,u29,u30,u31,u32,u33,u34,u35,u36,u37,u38,u39,u40,u41,u42,ds,⟨k,at_,ms,hk,rfl,rfl,Bc,Pn,Of,rfl⟩,rfl⟩;have Cg:=Hd Bc;have Oj:=Hd Pn;have Gn:=Hd Of;have Aq:=Gd.below Af.o Pn.1 Af.o.size Hf;clear Bc Pn Of Qb Ps;by_cases Ah:k<len
 . obtain⟨b,off,B,cB,A,ca,B',cb,rfl,hb,⟨Fc,Qd⟩,f0,f1,f2,f3,f4,f5,f6⟩:=aEw HQ.o Ah;have d0:=(Aq.cell (p:=⟨b,off+k*7,none⟩) hb).trans f0;have d1:=(Aq.cell (p:=⟨b,off+k*7+1,none⟩) hb).trans f1;have d2:=(Aq.cell (p:=⟨b,off+k*7+2,none⟩) hb).trans f2;have d3:=(Aq.cell (p:=⟨b,off+k*7+3,none⟩) hb).trans f3;have d4:=(Aq.cell (p:=⟨b,off+k*7+4,none⟩) hb).trans f4;have d5:=(Aq.cell (p:=⟨b,off+k*7+5,none⟩) hb).trans f5;have d6:=(Aq.cell (p:=⟨b,off+k*7+6,none⟩) hb).trans f6;have Pw:=Hd Fc;have Fi:=Hd (Eg.o k Ah);have Qs:=Hd (HX.o k Ah);have Pj:=Hd (Rk.o k Ah);have Qw:=Hd (Cs.o k Ah);have Qo:=Hd (Od.o k Ah);have Pu:=Hd Qd;have Py:=Hd (show(l[k]?.getD default).ns.length=(fY l k).length from rfl);have Pa:=Hd fun j hj=>bDy (l:=l) (k:=k) (j:=j) hj;have Iq:=Hd fun j=>(show(l[k]?.getD default).ns[j]?.getD ByteArray.empty=pJ l k j from rfl);clear Fc Qd f0 f1 f2 f3 f4 f5 f6 Aq;rw[Py.o]at d0;generalize hmm:(fY l k).length=m at *;have Rt:m<=20:=Fi.o.1;generalize l[k]?.getD default=q at *;have Pf:=Hd (show aP w0 B m q.ns by have:=Pw.o;rwa[Py.o]at this);have Rs:w.heap.size+1<wr.heap.size:=Oj.o.2.2.1.lt;clear Pw;go_wp2_with fail;generalize Qk:wr.alloc _=v1;obtain⟨Oz,Ov,Ok⟩:=kX Qk;have Pv:=Hd (Oj.o.below Cb Oz);have Qg:=Hd (Gn.o.below Oz);have Qj:=Hd Ok;clear Qk Oz Ov Ok d0 d1 d2 d3 d4 d5 d6;generalize Qf:wr.heap.size=g9 at *;have Rn:=Hd Qf;clear Qf;generalize wr=wo at *;go_loopw [24] (fun i wr=>∃j:Nat,j<=m/\i=.int .i64 j/\(∀a,a<j->lM vs D l k a=0)/\iL bd w (eF E nE cE bn bv bd) ms wr/\wr.heap[g9]?=some (Obj.cells #[.slice B m cB,.int .i64 q.x.k,.int .i64 q.x.n,.string q.x.s,.int .i64 q.x.op,.slice A q.x.arms.length ca,.slice B' q.x.subs.length cb] 54)/\bT wr bd (1000+20*k+j) (D k++(fY l k).take j)) (fun i _=>m-(intOf i).toNat)
   case atStart=>exact⟨0,Yq _,rfl,fun a ha=>absurd ha aA,Pv.o,Qj.o,by simpa using Qg.o⟩
   case round=>
    obtain⟨j,hj,rfl,Nz,Nu,Nv,Ox⟩:=hrel;have Ow:=Hd Nz;have Ph:=Hd Nu;have Rj:=Hd Nv;have Rh:=Hd Ox;have Om:=Gd.below Af.o Nu.1 Af.o.size Hf;have Rb:=Hd Om;have Ot:=HV.o.gd Nu.1 Qq;have Rg:=Hd Ot;clear Pv Qg Qj;by_cases Oi:j<m
    . obtain⟨b2,Gc,rfl,Ad,Gb⟩:=Pf.o.at_ Oi;have e1:=(Om.cell (p:=⟨b2,Gc+j,none⟩) Ad).trans (Gb j Oi);rw[Iq.o]at e1;have Qm:=Hd (Pa.o j Oi);have Pe:=Hd (Ol.o (1000+20*k+j) (D k++(fY l k).take j) (pJ l k j) wr Ot Ox aA (Fi.o.2 j Oi));have Ou:=Hd (show lM vs D l k j=oO vs (D k++(fY l k).take j) (pJ l k j)from rfl);have Ql:=Hd (Qw.o j Oi Ow.o);have r0:=cQ Nu.2.1 0;have r1:=cQ Nu.2.1 1;have r2:=cQ Nu.2.1 2;have r3:=cQ Nu.2.1 3;simp only[eF,List.getElem?_toArray,Yz,Zb]at r0 r1 r2 r3;clear Nz Nu Nv Ox Om Ot Gb;generalize oO vs (D k++(fY l k).take j) (pJ l k j)=v at *;generalize pJ l k j=nm at e1 Pe Qm;go_wp2_with fail;refine Pe.o.mono ?_;rintro e5 w5 ⟨rfl,Nx,Qh⟩;have Oe:=Ph.o.gd Cb Nx;have Qa:=Hd Oe;have Pz:=Hd Qh;have Rp:=Hd (Nx.blk Rj.o (by have:=Oj.o.1.size;rw[Rn.o]at this;omega));have c7:=Oe.2.2.1.cell;have f7:=Oe.2.2.1.frozen;have c8:=(Oe.2.2.1.set (.int .i64 v)).cell;clear Nx Qh Oe r0 r1 r2 r3 e1 Pe;by_cases Jk:v=0
      . subst Jk;have Ro:=Hd (Pz.o rfl);have Pr:=Hd (dC (P:=fun a=>lM vs D l k a=0) Ow.o Ou.o);clear Pz;go_wp2_with fail;go_roundw;case rel=>exact⟨j+1,by omega,by go_num,Pr.o,Qa.o.set0,(Below.heap_setCell _ _ _ _ dA).trans Rp.o,by rw[Qm.o,<-Yw];exact World.ownsMap.setCell Ro.o dA _⟩
        case measure=>simp[intOf];omega
      . have Ru:(v !=0)=true:=bne_iff_ne.2 Jk;have Oq:=Hd Jk;clear Jk;have HO:=Hd (Qa.o.bad (.int .i64 v));have Og:=Hd (show eS k=v by have:=Ql.o (by rw[Ou.o];exact Oq.o);rw[Ou.o]at this;exact this);clear Ql Ou;go_wp2_with fail;generalize w5.setCell _ _=w6 at *;go_quiet (fail);go_wp2_with fail;have Ny:=Hd (HO.o.below (bG (Yg _ _) nq) HO.o.1.size);rw[Exit.noGoto_ret];refine xC (lo:=w.heap.size+1+1) ms _ Ny.o.2.1 Ny.o.2.2 fun W' Oa=>?_;exact⟨.tuple #[.int .i64 (k:Nat),.int .i64 v],by simp[results,Tryz.f74,go_sem],Pd.o _ _ ⟨(k:Nat),v,rfl,Ny.o.1.new Oa aA,.inl ⟨k,Ah,Cg.o,by rw[Og.o];exact Oq.o,rfl,Og.o.symm⟩⟩⟩
    . obtain rfl:j=m:=by omega
      have e1:=cQ Nv 1;have e2:=cQ Nv 2;have e3:=cQ Nv 3;have e4:=cQ Nv 4;have e5:=cQ Nv 5;have e6:=cQ Nv 6;simp only[Ya,Yb,Yc]at e1 e2 e3 e4 e5 e6;have Pp:=Hd (Re.o q.x A ca B' cb wr (Pu.o.below Om));unfold aE at Pp;clear Nz Nu Nv Ox Om Ot;go_wp2_with fail;refine Pp.o.mono ?_;rintro e w' ⟨rfl,rfl⟩;clear e1 e2 e3 e4 e5 e6 Pp;go_wp2_with fail;generalize Qi:wr.alloc _=W0;obtain⟨Ob,Ri,Cp⟩:=kX Qi;have Ks:=Hd (Ph.o.below Cb Ob);have Qy:=Hd (Rh.o.below Ob);have Jx:=Hd (Rb.o.tr Ob);have Qx:=Hd ((HN.o.gd Ph.o.1 Eb).below Ob);have Oq:=Hd (Rg.o.below Ob);have Eh:w.heap.size+1+1<=W0.heap.size:=by have:=Ks.o.2.2.1.lt;omega
      have Pb:=Hd fun m hm=>(Yl.1 (Ks.o.2.2.2.2 m hm).2).1;have Gh:=Hd (show(fY l k).take j=fY l k from Yx aA);clear Qi Ob Ri;refine wpIn_wide.1 (wpIn_rangeFunc_ownH rfl h1 (gf:=139) (lb:=#[.pointer (some ⟨wr.heap.size,0,none⟩)]) rfl trivial (enters_of Tryz.func139 aC rfl)
       (Rc.o (n-1) wr.heap.size q.x A ca B' cb w0 W0 Pu.o Jx.o Cp) (fun h k=>h.trans k) (aOz Jx.o.size) (Yg _ _) (fun _=>rfl)
       (fun(Nt:List (iQ w0 q.x)) W=>(∀z∈eR Nt,pS z=true)/\Below W0.heap.size W0 W)
       (fun c (Nt:List (iQ w0 q.x)) W=>(c=Code.exit 0/\∃z∈eR Nt,pS z=false)/\Boxed W (w.heap.size+1) 28 (.int .i64 5)/\W0.grownBy W (some (w.heap.size+1)))
       (OwnFrom.and (ownFrom_pure _ _) (ownFrom_below (Yh _) (Yh _)))
       (fun c=>OwnFrom.and (ownFrom_pure _ _) (OwnFrom.and (Own.from (boxed_own _ _ (fun _=>_)) _) (aSv (Yh _))))
       ⟨fun z hz=>by simp[eR]at hz,Yg _ _⟩
       (fun(y:iQ w0 q.x) a' W=>∃Bx:Nat,W.heap[Bx]?=some (Obj.cells (aE y.1.x y.1.A y.1.ca y.1.B y.1.cb) 52)/\a'={ tmps:=List.toArray (.agg #[.slice E nE cE,.map (some bn),.map (some bv),.map (some bd)]::.slice (some ⟨b,off,none⟩) len cq::.pointer (some ⟨w.heap.size,0,none⟩)::undef::.int .i64 0::.int .i64 0::.int .i64 k::.pointer (some ⟨w.heap.size+1,0,none⟩)::.int .i64 k::.pointer (some ⟨g9,0,none⟩)::undef::u11::.pointer (some ⟨Bx,0,none⟩)::.slice (some ⟨b,off,none⟩) len cq::.int .i64 len::.int .i64 k::.bool true::.int .i64 k::.pointer (some ⟨b,off+k*7,none⟩)::.agg #[.slice B j cB,.int .i64 q.x.k,.int .i64 q.x.n,.string q.x.s,.int .i64 q.x.op,.slice A q.x.arms.length ca,.slice B' q.x.subs.length cb]::.int .i64 k::.pointer (some ⟨g9,0,none⟩)::.slice B j cB::.int .i64 j::.int .i64 j::.bool false::u26::u27::u28::u29::u30::u31::u32::u33::.pointer (some ⟨g9,1,none⟩)::.agg #[.int .i64 q.x.k,.int .i64 q.x.n,.string q.x.s,.int .i64 q.x.op,.slice A q.x.arms.length ca,.slice B' q.x.subs.length cb]::.func (.func 139) #[] #[.pointer (some ⟨wr.heap.size,0,none⟩)]::.agg (aE y.1.x y.1.A y.1.ca y.1.B y.1.cb)::u38::u39::u40::u41::u42::undef::undef::[]),defers:=[] })
       (fun y a' s X Y row hs hg hr=>by obtain⟨Bx,h2,h3⟩:=hs;exact⟨Bx,(aDn (β:=Unit) Bx _ _).from W0.heap.size () X Y row h2 hg hr,h3⟩)
       ?assign ?body ?done ?stop)
      case assign=>
       rintro lp Nt y W K ⟨hp,hB⟩ hK;have hz:∀v:Value,(#[37]:Array Tmp).zip #[v]=#[(37,v)]:=fun v=>by first|rfl|simp
       simp only[wO,hz];unfold aE at hK⊢;gi_wp2;exact hK _ _ ((KeepsOthers.alloc _ _).from _) (iK.of_below ((Yg _ _).alloc (Yh _) _) (Yp Jx.o.size hB.size)) ⟨hp,hB.alloc hB.size _⟩ ⟨W.heap.size,World.alloc_heap_new _ _,rfl⟩
      case body=>
       rintro lp Nt y a' W Rr _ ⟨hp,hB⟩ ⟨Bx,Bp,rfl⟩ Ra;have Pi:=Jx.o.tr hB;have Oc:=Ks.o.below Cb hB;have Pc:=Qp.o y.1.x y.1.A y.1.ca y.1.B y.1.cb W Pi (Qx.o.below hB) (Oq.o.below hB) (y.2.1.below Pi) (Qs.o _ y.2.2).1;rw[(Qs.o _ y.2.2).2]at Pc;have Fj:=Hd Pc;have Qt:=Hd Oc;have Qe:=Hd hB;have Qv:=Hd hp;have Rf:=Hd (Yp Jx.o.size hB.size);have Qc:=Hd (show eR (Nt++[y])=eR Nt++[y.1.x]by rw[yQ];rfl);have r0:=cQ Oc.2.1 0;have r1:=cQ Oc.2.1 1;have r2:=cQ Oc.2.1 2;have r3:=cQ Oc.2.1 3;have q0:=cQ Bp 0;have q1:=cQ Bp 1;have q2:=cQ Bp 2;have q3:=cQ Bp 3;have q4:=cQ Bp 4;have q5:=cQ Bp 5;have Kj:1<=n-1-1:=aA;clear Pc Oc hB hp Pi Bp;unfold aE at q0 q1 q2 q3 q4 q5 Fj⊢;unfold eF at r0 r1 r2 r3;simp only[Ya,Yb,Yc]at r0 r1 r2 r3 q0 q1 q2 q3 q4 q5;cases On:pS y.1.x with
       |true=>
        rw[On]at Fj
        have Ch:=Hd (show ∀ z∈eR (Nt++[y]),pS z=true from fun z hz=>by
         rw[Qc.o]at hz;rcases Zo.1 hz with h|h;· exact Qv.o z h
         . obtain rfl:z=y.1.x:=by simpa using h
           exact On)
        gi_wp2_with fail;refine⟨trivial,(CallsIn.inRound lp (callsIn_wide.2 Fj.o)).mono ?_⟩;rintro e w3 ⟨rfl,Ak⟩;have Ax:=Hd Ak;clear Ak;gi_wp2_with fail;exact⟨xB Ax.o,iK.of_below Ax.o Rf.o,Ch.o,Qe.o.tr Ax.o⟩
       |false=>
        rw[On]at Fj;have Rl:=Hd (show ∃z∈eR (Nt++[y]),pS z=false from⟨y.1.x,by rw[Qc.o];simp,On⟩);gi_wp2_with fail;refine⟨trivial,(CallsIn.inRound lp (callsIn_wide.2 Fj.o)).mono ?_⟩;rintro e w3 ⟨rfl,Ak⟩;have Ax:=Hd Ak;have Ay:=(Qt.o.below Cb Ak).2.2.1;have c7:=Ay.cell;have f7:=Ay.frozen;have Cm:=Hd Ay;clear Ak Ay;gi_wp2_with fail;exact⟨(xB Ax.o).trans ((KeepsOthers.setCell _ _ _).from _),⟨rfl,Rl.o⟩,Cm.o.set _,((uJ (Qe.o.tr Ax.o)).but _).trans (grownBy_setCell' _ _ _)⟩
      case done=>
       rintro D2 ys W Pm Qr ⟨hp,hB⟩ hK;have Dl:=Hd (show eS k=0 by rw[Qo.o Ow.o,if_pos];rw[Zg];intro z hz;exact hp z (by rw[Qr];exact hz));have Qu:=Hd ((Ks.o.below Cb hB).mark (Yp Eh Pm) (fun h=>absurd (Pb.o _ h) aA) hK);have Qz:=Hd (show bT W bd (1000+20*(k+1)) (D (k+1))by have:=Qy.o.below hB;rw[Gh.o]at this;rw[Pj.o];exact this.mono aA);have Pr:=Hd (dC (P:=fun a=>eS a=0) Cg.o Dl.o);clear hp hB hK Qr;go_wp2_with fail;refine⟨?_,?_⟩
       . (repeat apply Exists.intro)
         refine⟨⟨k+1,k,D2::ms,by omega,by go_num,rfl,Pr.o,Qu.o,Qz.o,rfl⟩,rfl⟩
       . show len-((k:Int)+1).toNat<len-((k:Int)).toNat;omega
      case stop=>
       rintro D2 c Nt W Pm Pq ⟨⟨rfl,Po⟩,Bv,Nx⟩ hK;have Og:=Hd (show eS k=5 by
        rw[Qo.o Ow.o,if_neg];intro h;obtain⟨z,hz,hn⟩:=Po
        have:=Zg.1 h z (Pq.subset hz)
        rw[hn]at this;cases this)
       have HO:=Hd (show uI bd w (D2::ms) W from by
        have hF:=Ks.o;refine⟨⟨World.grownBy.andThen hF.1.1 Nx (fun j e=>.inl (by cases e;omega)),fun p hp=>?_⟩,List.nodup_cons.2 ⟨fun h=>absurd (Pb.o _ h) aA,hF.2.2.2.1⟩,fun x hx=>?_⟩
        . refine(Ym (Nx.block p.block (Yr hp hF.1.size) (fun e=>?_))).trans (hF.1.2 p hp);injection e with e;omega
        . rcases Yu.1 hx with rfl|hx;· exact⟨Yp Eh Pm,hK⟩
          . exact⟨(hF.2.2.2.2 x hx).1,(Nx.block x (Pb.o x hx) (fun e=>by injection e with e;have:=(hF.2.2.2.2 x hx).1;omega)).trans (hF.2.2.2.2 x hx).2⟩)
       have c7:=Bv.cell;clear Bv Nx hK;refine wpIn_wide.2 ?_;go_wp2_with fail;go_quiet (fail);go_wp2_with fail;have Ny:=Hd (HO.o.below (bG (Yg _ _) nq) HO.o.1.size);rw[Exit.noGoto_ret];refine xC (lo:=w.heap.size+1+1) (D2::ms) _ Ny.o.2.1 Ny.o.2.2 fun W' Oa=>?_;exact⟨.tuple #[.int .i64 (k:Nat),.int .i64 5],by simp[results,Tryz.f74,go_sem],Pd.o _ _ ⟨(k:Nat),5,rfl,Ny.o.1.new Oa aA,.inl ⟨k,Ah,Cg.o,by rw[Og.o];decide,rfl,Og.o.symm⟩⟩⟩
 . obtain rfl:k=len:=by omega
   have c7:=Oj.o.2.2.1.cell;have HO:=Hd Oj.o.ok;have Oy:=Hd (Gn.o.mono (m':=10000) aA);go_wp2_with fail;go_quiet (fail);go_wp2_with fail;rw[Exit.noGoto_ret];refine xC (lo:=w.heap.size+1+1) ms _ (HO.o.below (bG (Yg _ _) nq) HO.o.1.size).2.1 (HO.o.below (bG (Yg _ _) nq) HO.o.1.size).2.2 fun W' Oa=>?_;have hS:=Oy.o.below (bG (Yg _ _) nq);exact⟨.tuple #[.int .i64 at_,.int .i64 0],by simp[results,Tryz.f74,go_sem],Pd.o _ _ ⟨at_,0,rfl,(HO.o.below (bG (Yg _ _) nq) HO.o.1.size).1.new Oa aA,.inr ⟨Cg.o,rfl,hS.blkeq (Oa.block bd aA)⟩⟩⟩
theorem bHn(E:Option Addr)(nE cE bn bv bd mn mv:Nat)(es:List En)(Bx vs:List ByteArray)(l:List Qn)(D:Nat->List ByteArray)(eS:Nat->Int)(pS:Ex->Bool)(Q:Option Addr)(cq:Nat)(w0 w:World)
 (Ae:Below w0.heap.size w0 w)(Hf:w0.heap.size<=bd)(hE:bU w0 E nE es)(hQ:gN w0 Q l.length l)(hN:bT w bn mn Bx)(hV:bT w bv mv vs)(hD:bT w bd 1000 (D 0))(Eb:bn≠bd)(Nt:bv≠bd)
 (hl:l.length<=30)(Gf:∀k,k<l.length->(fY l k).length<=20/\∀j,j<(fY l k).length->(pJ l k j).size<=maxLen)(hx:∀k,k<l.length->∀z∈bL (l[k]?.getD default).x,z.s.size<=maxLen/\rT vs Bx es z=pS z)
 (Jx:∀k,k<l.length->D (k+1)=D k++fY l k)
 (Bp:∀k,k<l.length->∀j,j<(fY l k).length->(∀a,a<j->lM vs D l k a=0)->lM vs D l k j≠0->eS k=lM vs D l k j)
 (Aq:∀k,k<l.length->(∀a,a<(fY l k).length->lM vs D l k a=0)->eS k=if(bL (l[k]?.getD default).x).all pS=true then 0 else 5):
 Calls Tryz.prog 74 #[.agg (eF E nE cE bn bv bd),.slice Q l.length cq] w (wT l D eS bd w):=
 callsIn_wide.1 (bAq 6 (Yh _) E nE cE bn bv bd mn mv es Bx vs l D eS pS Q cq w0 w Ae Hf hE hQ hN hV hD Eb Nt hl Gf hx Jx Bp Aq)
end
end Go.Proofs.YtkbpdoomhfkngaaGreat
