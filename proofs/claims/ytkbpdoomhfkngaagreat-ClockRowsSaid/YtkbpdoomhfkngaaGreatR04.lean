/- Parts of the proof: TyQ, TyS, PgB, TyC, TyB. Conditions: each theorem's own. -/
import Derived.Test.YtkbpdoomhfkngaaGreatR03
namespace Go.Proofs.YtkbpdoomhfkngaaGreat
set_option linter.unusedVariables false
set_option linter.unusedSimpArgs false
set_option maxRecDepth 100000
set_option maxHeartbeats 40000000
section
open Go.RowKit
def manyB(es:List En):Bool:=decide (4<es.length) || es.any fun e=>decide (6<e.2.length)
def fewTo(es:List En) (k:Nat):Prop:=∀ j,j<k→(csE es j).length≤6
def enumsN(es:List En):Int:=if manyB es then 4 else if namedB es then(if apartB es then 0 else 6) else 1
section
variable {es:List En}{k:Nat}
theorem many_at(h:k<es.length) (hb:6<(csE es k).length):manyB es=true:=by
 unfold manyB;rw [Bool.or_eq_true,List.any_eq_true];refine .inr ⟨es[k]'h,List.getElem_mem h,?_⟩;rw [en_at h];exact decide_eq_true hb
theorem many_no(h4:es.length≤4) (H:fewTo es k) (h:es.length≤k):manyB es=false:=by
 unfold manyB;rw [Bool.or_eq_false_iff,List.any_eq_false];refine⟨decide_eq_false (by omega),fun e he=>?_⟩;obtain⟨j,hj,rfl⟩:=List.getElem_of_mem he;have:=H j (by omega);rw [en_at hj];simp only [decide_eq_true_eq];omega
theorem fewTo_succ(H:fewTo es k) (h:(csE es k).length≤6):fewTo es (k+1):=fun j hj=>by
 rcases Nat.lt_or_ge j k with h1 | h1
 · exact H j h1
 · obtain rfl:j=k:=by omega
   exact h
end
theorem tyMany(A:Option Addr) (len cap:Nat) (es:List En) (w:World) (hE:RdE w A len es):
 Calls Tryz.prog 94 #[.slice A len cap] w fun e w'=>e=.returned (.bool (manyB es))∧Below w.heap.size w w':=by
 have hlen:=hE.len;have hmx:=hE.max
 by_cases h4:4<len
 · go_enter Tryz.func94,Tryz.ntmps94
   go_wp2_with fail
   go_ret
   exact⟨ret_bool (by simp [manyB,hlen,h4]),Below.refl _ _⟩
 · have hd4:decide ((4:Int)<(len:Int))=false:=decide_eq_false (by omega)
   go_enter Tryz.func94,Tryz.ntmps94
   go_wp2_with fail
   go_loopw [10] (fun i wr=>∃ k:Nat,k≤len∧i=.int .i64 k∧fewTo es k∧Below w.heap.size w wr) (fun i _=>len-(intOf i).toNat)
   case atStart=>exact⟨0,Nat.zero_le _,rfl,fun j hj=>absurd hj (by omega),Below.refl _ _⟩
   case round=>
    obtain⟨k,hk,rfl,hto,hnx⟩:=hrel;have HT:=Hd hto;clear hto
    by_cases hlt:k<len
    · obtain⟨b,off,rfl,hb,hc⟩:=hE.at_ hlt;obtain⟨hn0,A',n',c',hs0,hR0⟩:=hc k hlt;have hn1:wr.cell? ⟨b,off+k*2,none⟩=some (.string (nmE es k)):=(hnx.cell (p:=⟨b,off+k*2,none⟩) hb).trans hn0;have hs1:wr.cell? ⟨b,off+k*2+1,none⟩=some (.slice A' n' c'):=(hnx.cell (p:=⟨b,off+k*2+1,none⟩) hb).trans hs0;have hkl:k<es.length:=by omega
      have hcl:=hR0.len;have hcm:=hR0.max
      by_cases h6:6<n'
      · have HE:=Hd (many_at hkl (by omega))
        go_wp2_with fail
        go_ret
        exact⟨ret_bool HE.out.symm,hnx.alloc hnx.size _⟩
      · have HN:=Hd (fewTo_succ HT.out (by omega));have hd6:decide ((6:Int)<(n':Int))=false:=decide_eq_false (by omega)
        go_wp2_with fail
        go_roundw
        case rel=>exact⟨k+1,by omega,by go_num,HN.out,hnx.alloc hnx.size _⟩
        case measure=>simp [intOf];omega
    · go_wp2_with fail
      go_ret
      exact⟨ret_bool (many_no (by omega) HT.out (by omega)).symm,hnx⟩
theorem tyEnums(A:Option Addr) (len cap:Nat) (es:List En) (w:World) (hE:RdE w A len es) (hok:EsOk es) (hfew:EsFew es):
 Calls Tryz.prog 66 #[.slice A len cap] w fun e w'=>e=.returned (.int .i64 (enumsN es))∧Below w.heap.size w w':=by
 have HE:=Hd hE;clear hE
 cases hm:manyB es with
 | true=>
  have hN:=Hd (show(4:Int)=enumsN es by simp [enumsN,hm])
  go_enter Tryz.func66,Tryz.ntmps66
  go_wp2_with fail
  refine(tyMany A len cap es w HE.out).mono ?_;rw [hm];rintro e w1 ⟨rfl,hb1⟩;have HB1:=Hd hb1;clear hb1
  go_wp2_with fail
  go_ret
  exact⟨ret_int hN.out,HB1.out⟩
 | false=>
  cases hn:namedB es with
  | false=>
   have hN:=Hd (show(1:Int)=enumsN es by simp [enumsN,hm,hn])
   go_enter Tryz.func66,Tryz.ntmps66
   go_wp2_with fail
   refine(tyMany A len cap es w HE.out).mono ?_;rw [hm];rintro e w1 ⟨rfl,hb1⟩;have HB1:=Hd hb1;clear hb1
   go_wp2_with fail
   refine(tyNamed A len cap es _ (HE.out.below HB1.out) hok).mono ?_;rw [hn];rintro e w2 ⟨rfl,hb2⟩;have HB2:=Hd (below_trans2 HB1.out hb2);clear hb2
   go_wp2_with fail
   go_ret
   exact⟨ret_int hN.out,HB2.out⟩
  | true=>
   cases ha:apartB es with
   | false=>
    have hN:=Hd (show(6:Int)=enumsN es by simp [enumsN,hm,hn,ha])
    go_enter Tryz.func66,Tryz.ntmps66
    go_wp2_with fail
    refine(tyMany A len cap es w HE.out).mono ?_;rw [hm];rintro e w1 ⟨rfl,hb1⟩;have HB1:=Hd hb1;clear hb1
    go_wp2_with fail
    refine(tyNamed A len cap es _ (HE.out.below HB1.out) hok).mono ?_;rw [hn];rintro e w2 ⟨rfl,hb2⟩;have HB2:=Hd (below_trans2 HB1.out hb2);clear hb2
    go_wp2_with fail
    refine(tyApart A len cap es _ (HE.out.below HB2.out) hok hfew).mono ?_;rw [ha];rintro e w3 ⟨rfl,hb3⟩;have HB3:=Hd (below_trans2 HB2.out hb3);clear hb3
    go_wp2_with fail
    go_ret
    exact⟨ret_int hN.out,HB3.out⟩
   | true=>
    have hN:=Hd (show(0:Int)=enumsN es by simp [enumsN,hm,hn,ha])
    go_enter Tryz.func66,Tryz.ntmps66
    go_wp2_with fail
    refine(tyMany A len cap es w HE.out).mono ?_;rw [hm];rintro e w1 ⟨rfl,hb1⟩;have HB1:=Hd hb1;clear hb1
    go_wp2_with fail
    refine(tyNamed A len cap es _ (HE.out.below HB1.out) hok).mono ?_;rw [hn];rintro e w2 ⟨rfl,hb2⟩;have HB2:=Hd (below_trans2 HB1.out hb2);clear hb2
    go_wp2_with fail
    refine(tyApart A len cap es _ (HE.out.below HB2.out) hok hfew).mono ?_;rw [ha];rintro e w3 ⟨rfl,hb3⟩;have HB3:=Hd (below_trans2 HB2.out hb3);clear hb3
    go_wp2_with fail
    go_ret
    exact⟨ret_int hN.out,HB3.out⟩
end
section
open Go.RowKit
theorem RdT.news{w:World}{a:Addr}{n:Nat}{l:List ByteArray}(h:RdT w (some a) n l) (j:Nat) (u:Value) (hu:(l.map Value.string)[j]?=some u):w.cell? (a.add j)=some u:=by
 have hj:j<l.length:=by
  rcases Nat.lt_or_ge j l.length with h | h
  · exact h
  · rw [List.getElem?_eq_none (by simpa using h)] at hu;cases hu
 obtain⟨b,off,e,_,hc⟩:=h.at_ (i:=j) (by rw [← h.len];exact hj);injection e with e;subst e;have:=hc j (by rw [← h.len];exact hj);have e2:(⟨b,off,none⟩:Addr).add j=⟨b,off+j,none⟩:=by unfold Addr.add;split <;> simp_all
 rw [e2,this,← hu]
 simp [List.getElem?_eq_getElem hj]
section
variable {P:Program}{w:World}
end
def Apt(u v:Value):Prop:=∀ g,u.ownBlock=some g→v.ownBlock≠some g
theorem Apt.symm{u v:Value}(h:Apt u v):Apt v u:=fun g hg e=>h g e hg
theorem Apt.ne{u v:Value}(h:Apt u v):u.ownBlock=none∨u.ownBlock≠v.ownBlock:=by
 rcases hub:u.ownBlock with _ | g
 · exact .inl rfl
 · exact .inr fun e=>h g hub e.symm
end
section
open Go.RowKit
theorem names_succ{l:List Dc}{k:Nat}(hk:k<l.length):(namesD l).take (k+1)=(namesD l).take k++[(l[k]?.getD default).nm]:=by
 rw [namesD,List.take_add_one,List.getElem?_map,List.getElem?_eq_getElem hk]
 simp
theorem names_len(l:List Dc):(namesD l).length=l.length:=by simp [namesD]
end
section
open Go.RowKit Go.Shelf
attribute [local go_sem] Oper.semAt_some
def isNm(name:ByteArray) (p:Pl):Bool:=p.2.2.toList==name.toList
def findE(es:List En) (name:ByteArray):Option Pl:=(flatE es).find? (isNm name)
def ctorV(o:Option Pl):Value:=.tuple #[.int .i64 (((o.map (·.1)).getD 0:Nat):Int),.int .i64 (((o.map (·.2.1)).getD 0:Nat):Int),.bool o.isSome]
theorem findE_none{es:List En}{name:ByteArray}(h:∀ p∈flatE es,isNm name p=false):findE es name=none:=by
 unfold findE;rw [List.find?_eq_none];intro p hp;rw [h p hp]
 simp
theorem findE_some{es:List En}{name:ByteArray}{ini:List Pl}{last:Pl}(hp:ini++[last] <+: flatE es) (h:∀ p∈ini,isNm name p=false) (hl:isNm name last=true):findE es name=some last:=by
 obtain⟨r,hr⟩:=hp;unfold findE;rw [← hr,List.append_assoc,List.find?_append,List.find?_eq_none.2 (fun p hp=>by rw [h p hp];simp)]
 simp [hl]
theorem three_set{W:World}{s:Nat}{t1 t2 t3:TypeId}{v1 v2 v3:Value}(u1 u2 u3:Value) (c1:Boxed W (s+1) t1 v1) (c2:Boxed W (s+1+1) t2 v2) (c3:Boxed W (s+1+1+1) t3 v3):
 ∃ W',(((W.setCell ⟨s+1,0,none⟩ u1).setCell ⟨s+1+1,0,none⟩ u2).setCell ⟨s+1+1+1,0,none⟩ u3)=W'∧Boxed W' (s+1) t1 u1∧Boxed W' (s+1+1) t2 u2∧Boxed W' (s+1+1+1) t3 u3∧KeepsOthers W W'∧Below s W W' :=
 ⟨_,rfl,((c1.set u1).other (by omega) _).other (by omega) _,((c2.other (by omega) u1).set u2).other (by omega) _,((c3.other (by omega) u1).other (by omega) u2).set u3,
  ((KeepsOthers.setCell _ _ _).trans (KeepsOthers.setCell _ _ _)).trans (KeepsOthers.setCell _ _ _),
  (((Below.refl s W).setCell (p:=⟨s+1,0,none⟩) (by show s≤s+1;omega) _).setCell (p:=⟨s+1+1,0,none⟩) (by show s≤s+1+1;omega) _).setCell (p:=⟨s+1+1+1,0,none⟩) (by show s≤s+1+1+1;omega) _⟩
theorem tyCtor_in(n:Nat) (hn:6≤n) (A:Option Addr) (len cap:Nat) (es:List En) (name:ByteArray) (w:World) (hE:RdE w A len es):
 CallsIn Fence.wide n Tryz.prog 92 #[.slice A len cap,.string name] w fun e w'=>e=.returned (ctorV (findE es name))∧Below w.heap.size w w':=by
 have h1:1≤n:=by omega
 refine callsIn_of_wp_marks Tryz.func92 rfl trivial ?_ rfl;simp only [Tryz.ntmps92,List.size_toArray,List.length_cons,List.length_nil,Nat.reduceAdd,Nat.reduceSub,Array.replicate_succ,Array.replicate_zero,List.push_toArray,List.append_toArray,List.nil_append,List.cons_append]
 gi_wp2_with (refine⟨trivial,?_⟩;gi_at_call 130;refine(callsIn_wide.2 (tyCtors _ _ _ _)).mono ?_;rintro e w' ⟨rfl,rfl⟩)
 have bN:=((((Boxed.new w 9 (.string name)).alloc (.cells #[.int .i64 0] 3)).alloc (.cells #[.int .i64 0] 3)).alloc (.cells #[.bool false] 4)).alloc (.cells #[.slice A len cap] 22);have b1:=(((Boxed.new (w.alloc (.cells #[.string name] 9)) 3 (.int .i64 0)).alloc (.cells #[.int .i64 0] 3)).alloc (.cells #[.bool false] 4)).alloc (.cells #[.slice A len cap] 22);have b2:=((Boxed.new ((w.alloc (.cells #[.string name] 9)).alloc (.cells #[.int .i64 0] 3)) 3 (.int .i64 0)).alloc (.cells #[.bool false] 4)).alloc (.cells #[.slice A len cap] 22);have b3:=(Boxed.new (((w.alloc (.cells #[.string name] 9)).alloc (.cells #[.int .i64 0] 3)).alloc (.cells #[.int .i64 0] 3)) 4 (.bool false)).alloc (.cells #[.slice A len cap] 22);have b4:=Boxed.new ((((w.alloc (.cells #[.string name] 9)).alloc (.cells #[.int .i64 0] 3)).alloc (.cells #[.int .i64 0] 3)).alloc (.cells #[.bool false] 4)) 22 (.slice A len cap);simp only [World.size_alloc] at b1 b2 b3 b4
 have hB0:Below w.heap.size w (((((w.alloc (.cells #[.string name] 9)).alloc (.cells #[.int .i64 0] 3)).alloc (.cells #[.int .i64 0] 3)).alloc (.cells #[.bool false] 4)).alloc (.cells #[.slice A len cap] 22)):=
  (((((Below.refl _ w).alloc (Nat.le_refl _) _).alloc (by simp) _).alloc (by simp;omega) _).alloc (by simp;omega) _).alloc (by simp;omega) _
 have hsz:(((((w.alloc (.cells #[.string name] 9)).alloc (.cells #[.int .i64 0] 3)).alloc (.cells #[.int .i64 0] 3)).alloc (.cells #[.bool false] 4)).alloc (.cells #[.slice A len cap] 22)).heap.size=w.heap.size+5:=by simp
 obtain⟨W0,hW0⟩:∃ W0,(((((w.alloc (.cells #[.string name] 9)).alloc (.cells #[.int .i64 0] 3)).alloc (.cells #[.int .i64 0] 3)).alloc (.cells #[.bool false] 4)).alloc (.cells #[.slice A len cap] 22))=W0:=⟨_,rfl⟩;rw [hW0] at bN b1 b2 b3 b4 hB0 hsz ⊢;clear hW0
 refine wpIn_rangeFunc_ownH rfl h1 (gf:=164) (lb:=#[.pointer (some ⟨w.heap.size+1+1+1+1,0,none⟩)]) rfl trivial (enters_of Tryz.func164 (by kernel_rfl) rfl)
  (tyIter_stops (n-1) (by omega) (w.heap.size+1+1+1+1) w A len cap es hE W0 hB0 (by omega) b4.cell) belowK_t (belowK_b (by omega)) (Below.refl _ _) (fun _=>rfl)
  (fun pre W=>((Boxed W w.heap.size 9 (.string name)∧Boxed W (w.heap.size+1) 3 (.int .i64 0)∧Boxed W (w.heap.size+1+1) 3 (.int .i64 0)∧Boxed W (w.heap.size+1+1+1) 4 (.bool false))∧∀ p∈pre,isNm name p=false)∧Below w.heap.size w W)
  (fun c pre W=>((c=.ret∧∃ ini last,pre=ini++[last]∧(∀ p∈ini,isNm name p=false)∧isNm name last=true∧Boxed W (w.heap.size+1) 3 (.int .i64 (last.1:Int))∧Boxed W (w.heap.size+1+1) 3 (.int .i64 (last.2.1:Int))∧Boxed W (w.heap.size+1+1+1) 4 (.bool true)))∧Below w.heap.size w W)
  (OwnFrom.and (OwnFrom.and (OwnFrom.and (Own.from (boxed_own _ _ (fun _=>_)) _) (OwnFrom.and (Own.from (boxed_own _ _ (fun _=>_)) _) (OwnFrom.and (Own.from (boxed_own _ _ (fun _=>_)) _) (Own.from (boxed_own _ _ (fun _=>_)) _)))) (ownFrom_pure _ _)) (ownFrom_below (Nat.le_refl _) (by omega)))
  (fun c=>OwnFrom.and (Own.from (fun s X Y row hs hg hr=>by
   obtain⟨hc,ini,last,e1,e2,e3,e4,e5,e6⟩:=hs;exact⟨hc,ini,last,e1,e2,e3,boxed_own _ _ (fun _=>_) s X Y row e4 hg hr,boxed_own _ _ (fun _=>_) s X Y row e5 hg hr,boxed_own _ _ (fun _=>_) s X Y row e6 hg hr⟩) _) (ownFrom_below (Nat.le_refl _) (by omega)))
  ⟨⟨⟨bN,b1,b2,b3⟩,by simp⟩,hB0⟩
  (fun x a' W=>∃ Bx,w.heap.size+4≤Bx∧Box2 W Bx 161 (.int .i64 (x.1:Int)) (.int .i64 (x.2.1:Int))∧a'={ tmps:=#[.slice A len cap,.string name,undef,.pointer (some ⟨w.heap.size,0,none⟩),.pointer (some ⟨w.heap.size+1,0,none⟩),.pointer (some ⟨w.heap.size+1+1,0,none⟩),.pointer (some ⟨w.heap.size+1+1+1,0,none⟩),.pointer (some ⟨Bx,0,none⟩),.string x.2.2,.slice A len cap,.func (.func 164) #[] #[.pointer (some ⟨w.heap.size+1+1+1+1,0,none⟩)],.agg #[.int .i64 (x.1:Int),.int .i64 (x.2.1:Int)],.string x.2.2,undef,undef,undef,undef,undef,undef,undef],defers:=[] })
  (fun x a'=>fun s X Y row hs hg hr=>by
   obtain⟨Bx,h1,h2,h3⟩:=hs;exact⟨Bx,h1,box2_own _ _ _ _ s X Y row h2 hg (fun r e=>(hr r e).2),h3⟩)
  ?assign ?body ?done ?stop
 case assign=>
  rintro l pre x W K ⟨⟨⟨cN,c1,c2,c3⟩,hp⟩,hB⟩ hK;have e1:=c1.cell;have e2:=c2.cell;have e3:=c3.cell;have f1:=c1.frozen;have f2:=c2.frozen;have f3:=c3.frozen;simp only [encPl]
  gi_wp2
  exact hK _ _ ((KeepsOthers.alloc _ _).from _) ((Below.refl _ W).alloc hB.size _) ⟨⟨⟨cN.alloc _,c1.alloc _,c2.alloc _,c3.alloc _⟩,hp⟩,hB.alloc hB.size _⟩ ⟨W.heap.size,by have:=c3.lt;omega,Box2.new W _ _ _,rfl⟩
 case body=>
  rintro l pre x a' W hl hr ⟨⟨⟨cN,c1,c2,c3⟩,hp⟩,hB⟩ ⟨Bx,hBx,bX,rfl⟩ hlt;have dN:=cN.cell;have d0:=bX.c0;have d1:=bX.c1;have e1:=c1.cell;have e2:=c2.cell;have e3:=c3.cell;have f1:=c1.frozen;have f2:=c2.frozen;have f3:=c3.frozen
  by_cases hx:(x.2.2.toList==name.toList)=true
  · have hmx:Tryz.prog.follows .mixedOrders=true:=by kernel_rfl
    gi_wp2
    gi_region_o
    all_goals gi_wp2
    all_goals
     obtain⟨W',hW',g1,g2,g3,gk,gb⟩:=three_set (.int .i64 (x.1:Int)) (.int .i64 (x.2.1:Int)) (.bool true) c1 c2 c3;rw [hW'];exact⟨(gk.trans (KeepsOthers.drew _)).from _,⟨rfl,pre,x,rfl,hp,hx,g1,g2,g3⟩,(hB.trans gb).drew⟩
  · have hx:(x.2.2.toList==name.toList)=false:=by simpa using hx
    gi_wp2
    exact⟨KeepsFrom.refl _ _,Below.refl _ _,⟨⟨cN,c1,c2,c3⟩,fun p hp'=>(List.mem_append.1 hp').elim (hp p) (fun e=>by simp at e;subst e;exact hx)⟩,hB⟩
 case done=>
  rintro D ys W hD rfl ⟨⟨⟨cN,c1,c2,c3⟩,hp⟩,hB⟩ hK;have e1:=c1.cell;have e2:=c2.cell;have e3:=c3.cell;have f1:=c1.frozen;have f2:=c2.frozen;have f3:=c3.frozen
  gi_wp2
  obtain⟨W',hW',g1,g2,g3,gk,gb⟩:=three_set (.int .i64 0) (.int .i64 0) (.bool false) c1 c2 c3;rw [hW'];have hK':=gk.same D _ hK rfl;have k1:=(g1.kept (grownBy_putObj' _ D (.deferred none)) (fun e=>by cases e;omega)).cell;have k2:=(g2.kept (grownBy_putObj' _ D (.deferred none)) (fun e=>by cases e;omega)).cell;have k3:=(g3.kept (grownBy_putObj' _ D (.deferred none)) (fun e=>by cases e;omega)).cell;refine⟨by simp,.inl ⟨_,_,rfl,run_takeDeferred hK',?_⟩⟩;refine⟨ctorV none,?_,by rw [findE_none hp],(hB.trans gb).trans (belowK_b (w:=w) (Nat.le_refl _) _ D _ _ (by omega) hK' rfl rfl)⟩
  simp [results,Tryz.f92,go_sem,k1,k2,k3,ctorV]
 case stop=>
  rintro D c pre W hD hpre ⟨⟨rfl,ini,last,rfl,hi,hl,c1,c2,c3⟩,hB⟩ hK;have e1:=c1.cell;have e2:=c2.cell;have e3:=c3.cell;have f1:=c1.frozen;have f2:=c2.frozen;have f3:=c3.frozen
  gi_wp2
  have k1:=(c1.kept (grownBy_putObj' _ D (.deferred none)) (fun e=>by cases e;omega)).cell;have k2:=(c2.kept (grownBy_putObj' _ D (.deferred none)) (fun e=>by cases e;omega)).cell;have k3:=(c3.kept (grownBy_putObj' _ D (.deferred none)) (fun e=>by cases e;omega)).cell;refine⟨by simp,.inl ⟨_,_,rfl,run_takeDeferred hK,?_⟩⟩;refine⟨ctorV (some last),?_,by rw [findE_some hpre hi hl],hB.trans (belowK_b (w:=w) (Nat.le_refl _) _ D _ _ (by omega) hK rfl rfl)⟩
  simp [results,Tryz.f92,go_sem,k1,k2,k3,ctorV]
theorem tyCtor(A:Option Addr) (len cap:Nat) (es:List En) (name:ByteArray) (w:World) (hE:RdE w A len es):
 Calls Tryz.prog 92 #[.slice A len cap,.string name] w fun e w'=>e=.returned (ctorV (findE es name))∧Below w.heap.size w w' :=
 callsIn_wide.1 (tyCtor_in 6 (Nat.le_refl _) A len cap es name w hE)
end
section
open Go.RowKit
end
end Go.Proofs.YtkbpdoomhfkngaaGreat
