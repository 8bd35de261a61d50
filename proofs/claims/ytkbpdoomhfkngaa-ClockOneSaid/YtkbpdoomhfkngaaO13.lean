/- Parts of the proof: PhD, SlR, PhC, PgZ. Conditions: each theorem's own. -/
import Derived.Shelf.SlicesQ.Reverse
import Derived.Ground.SlgnProg
import Derived.Test.YtkbpdoomhfkngaaO08
namespace Go.Proofs.Ytkbpdoomhfkngaa
set_option linter.unusedVariables false
set_option linter.unusedSimpArgs false
set_option maxRecDepth 100000
set_option maxHeartbeats 40000000
section
open Go.RowKit Go.Sort
def listK(x:Nd) (k:Nat):List Dc:=match k with | 0=>x.ins | 1=>x.outs | _=>x.vars
def restO(x:Nd) (s:ByteArray) (k:Nat):Option Dc:=match k with
 | 0=>declO x s
 | 1=>(x.outs++x.vars).find? fun d=>d.nm.data.toList==s.data.toList
 | 2=>x.vars.find? fun d=>d.nm.data.toList==s.data.toList
 | _=>none
theorem restO_hit{x:Nd}{s:ByteArray}{k:Nat}{d:Dc}(hk:k<3) (h:(listK x k).find? (fun d=>d.nm.data.toList==s.data.toList)=some d):restO x s k=some d:=by
 match k,hk with
 | 0,_=>
  have h:x.ins.find? (fun d=>d.nm.data.toList==s.data.toList)=some d:=h
  show(x.ins++x.outs++x.vars).find? _=_
  rw [List.append_assoc,List.find?_append,h];rfl
 | 1,_=>
  have h:x.outs.find? (fun d=>d.nm.data.toList==s.data.toList)=some d:=h
  show(x.outs++x.vars).find? _=_
  rw [List.find?_append,h];rfl
 | 2,_=>exact h
theorem restO_next{x:Nd}{s:ByteArray}{k:Nat}(hk:k<3) (h:(listK x k).find? (fun d=>d.nm.data.toList==s.data.toList)=none):restO x s k=restO x s (k+1):=by
 match k,hk with
 | 0,_=>
  have h:x.ins.find? (fun d=>d.nm.data.toList==s.data.toList)=none:=h
  show(x.ins++x.outs++x.vars).find? _=(x.outs++x.vars).find? _
  rw [List.append_assoc,List.find?_append,h];rfl
 | 1,_=>
  have h:x.outs.find? (fun d=>d.nm.data.toList==s.data.toList)=none:=h
  show(x.outs++x.vars).find? _=x.vars.find? _
  rw [List.find?_append,h];rfl
 | 2,_=>exact h
def lists3(x:Nd) (A1:Option Addr) (c1:Nat) (A2:Option Addr) (c2:Nat) (A3:Option Addr) (c3:Nat):Array Value:=#[.slice A1 x.ins.length c1,.slice A2 x.outs.length c2,.slice A3 x.vars.length c3]
theorem lists_at{x:Nd}{A1:Option Addr}{c1:Nat}{A2:Option Addr}{c2:Nat}{A3:Option Addr}{c3:Nat}{A4:Option Addr}{w:World}(h:rdN w x A1 A2 A3 A4){k:Nat}(hk:k<3):
 ∃ A c,(lists3 x A1 c1 A2 c2 A3 c3)[k]?=some (.slice A (listK x k).length c)∧RdD w A (listK x k).length (listK x k):=by
 match k,hk with
 | 0,_=>exact⟨A1,c1,rfl,h.1⟩
 | 1,_=>exact⟨A2,c2,rfl,h.2.1⟩
 | 2,_=>exact⟨A3,c3,rfl,h.2.2.1⟩
theorem pgDecl(x:Nd) (A1:Option Addr) (c1:Nat) (A2:Option Addr) (c2:Nat) (A3:Option Addr) (c3:Nat) (A4:Option Addr) (c4:Nat) (s:ByteArray) (w:World) (h:rdN w x A1 A2 A3 A4):
 Calls Try.prog 56 #[.agg (ndA x A1 c1 A2 c2 A3 c3 A4 c4),.string s] w (DeclPost w (declO x s)):=by
 have HF:=Hd fun w1 hw=>nd_facts w x A1 c1 A2 c2 A3 c3 A4 c4 w1 hw h;have HDC:=Hd dc_facts;have H0:=Hd (show restO x s 0=declO x s from rfl);have HEND:=Hd (show restO x s 3=none from rfl);have HHITK:=Hd fun(k:Nat) hk d h=>restO_hit (x:=x) (s:=s) (k:=k) (d:=d) hk h;have HNEXT:=Hd fun(k:Nat) hk h=>restO_next (x:=x) (s:=s) (k:=k) hk h;have HLS:=Hd fun(w:World) (h:rdN w x A1 A2 A3 A4) (k:Nat) hk=>lists_at (c1:=c1) (c2:=c2) (c3:=c3) h (k:=k) hk;unfold ndA;unfold lists3 at HLS;generalize declO x s=out at *;generalize restO x s=rest at *;unfold dcA at HDC
 go_enter Try.func56,Try.ntmps56
 go_upto_region 1 with(fail)
 generalize hw1:w.alloc _=w1;obtain⟨hb1,hg,hR1,hcell⟩:=HF.out w1 hw1;have HB1:=Hd hb1;have HCE:=Hd hcell;have HR1:=Hd hR1
 have HN2:=Hd fun w2 (hw:w1.alloc (.cells (dcA default) 58)=w2)=>(show RowD w2 (w.heap.size+1) default∧Below w1.heap.size w1 w2∧w2.heap.size=w.heap.size+2 by
  subst hw;exact⟨by rw [← hg];exact heap_alloc_new _ _,(Below.refl _ _).alloc (Nat.le_refl _) _,by simp [hg]⟩)
 clear hw1 hcell hb1 HF h hR1;generalize hw2:w1.alloc _=w2;obtain⟨hr2,hb2,hg2⟩:=HN2.out w2 hw2;have HROW:=Hd hr2;simp only [ndA] at HCE;obtain⟨-,q1,q2,q3,-,-⟩:=Sx (HCE.out w2 hb2);simp only [Ya,Yb,Yc] at q1 q2 q3;have HW2:=Hd (HB1.out.trans (hb2.mono HB1.out.size));have HR2:=Hd (HR1.out.below hb2)
 have HN3:=Hd fun w3 (hw:w2.alloc (.cells #[.slice A1 x.ins.length c1,.slice A2 x.outs.length c2,.slice A3 x.vars.length c3] 45)=w3)=>(show Below w2.heap.size w2 w3∧w3.heap.size=w.heap.size+3∧∀ w',Below w3.heap.size w3 w'→∀ j,w'.cell? ⟨w.heap.size+2,j,none⟩=(#[.slice A1 x.ins.length c1,.slice A2 x.outs.length c2,.slice A3 x.vars.length c3]:Array Value)[j]? by
  subst hw;refine⟨(Below.refl _ _).alloc (Nat.le_refl _) _,by simp [hg2],fun w' hb j=>?_⟩;rw [← hg2,hb.cell (p:=⟨w2.heap.size,j,none⟩) (by simp),World.cell?_alloc_new])
 clear hw2 hr2 hb2 HN2 HCE HR1
 go_upto_region 2 with(fail)
 generalize hw3:w2.alloc _=w3;obtain⟨hb3,hg3,hcell3⟩:=HN3.out w3 hw3;have HC3:=Hd hcell3;have HROW3:=Hd (HROW.out.below hb3);have HW3:=Hd (HW2.out.trans (hb3.mono HW2.out.size));have HR3:=Hd (HR2.out.below hb3);clear hw3 HN3 hb3 hcell3 q1 q2 q3 HROW HW2 HR2
 go_loopw [18] (fun i wr=>∃ k:Nat,k≤3∧i=.int .i64 k∧rest k=out∧Below w3.heap.size w3 wr) (fun i _=>3-(intOf i).toNat)
 case atStart=>exact⟨0,by omega,rfl,H0.out,Below.refl _ _⟩
 case round=>
  obtain⟨k,hk,rfl,hto,hnx⟩:=hrel;have HT:=Hd hto;have HNX:=Hd hnx;clear hto
  by_cases hlt:k<3
  · obtain⟨A,c,hAk,hrd⟩:=HLS.out wr (HR3.out.below hnx) k hlt;have e0:=HC3.out wr hnx k;rw [hAk] at e0;have HRD:=Hd hrd;have hln:=RdS.len hrd;have hmx:=RdS.max hrd;have HHIT:=Hd (fun(j:Nat) hj hn hy=>HHITK.out k hlt _ (find_hit (l:=listK x k) (f:=fun d:Dc=>d.nm.data.toList==s.data.toList) (k:=j) hj hn hy));have HNO:=Hd (fun hn=>HNEXT.out k hlt (find_none (l:=listK x k) (f:=fun d:Dc=>d.nm.data.toList==s.data.toList) hn));clear hAk hrd hnx;generalize listK x k=l at *;generalize l.length=n at *
    go_upto_region 5 with(fail)
    generalize wr=wo at *
    go_loopw [24] (fun i wr=>∃ j:Nat,j≤n∧i=.int .i64 j∧(∀ m,m<j→((l[m]?.getD default).nm.data.toList==s.data.toList)=false)∧Below wo.heap.size wo wr) (fun i _=>n-(intOf i).toNat)
    case atStart=>exact⟨0,by omega,rfl,fun j hj=>absurd hj (by omega),Below.refl _ _⟩
    case round=>
     obtain⟨j,hj,rfl,hto,hny⟩:=hrel;have HT2:=Hd hto;have HNY:=Hd hny;have HNZ:=Hd (HNX.out.trans (hny.mono HNX.out.size));clear hto
     by_cases hjt:j<n
     · obtain⟨b,off,rfl,hb,hc⟩:=RdS.at_ (RdD.below HRD.out hny) (by omega);obtain⟨d0,d1,d2,d3,d4,d5⟩:=(hc j hjt).six;clear hc;have HH:=Hd (HHIT.out j (by omega) HT2.out);have HS:=Hd fun(hf:((l[j]?.getD default).nm.data.toList==s.data.toList)=false)=>to_next (P:=fun m=>((l[m]?.getD default).nm.data.toList==s.data.toList)=false) HT2.out hf;generalize l[j]?.getD default=d at d0 d1 d2 d3 d4 d5 HH HS;have HD4:=Hd fun w4 hw=>HDC.out wr d w4 hw;clear hny
       go_upto_region 7 with(fail)
       generalize hw4:World.alloc _ _=w4;obtain⟨hb4,hg4,hcell4⟩:=HD4.out _ hw4;obtain⟨r0,r1,r2,r3,r4,r5⟩:=Sx (hcell4 w4 (Below.refl _ _));simp only [Ya,Yb,Yc] at r0 r1 r2 r3 r4 r5;have HROW4:=Hd (HROW3.out.below (HNZ.out.trans (hb4.mono HNZ.out.size)));have HW4:=Hd (HW3.out.trans ((HNZ.out.trans (hb4.mono HNZ.out.size)).mono HW3.out.size));have HNY4:=Hd (HNY.out.trans (hb4.mono HNY.out.size));clear d0 d1 d2 d3 d4 d5 hb4 hcell4 hw4 HD4
       cases h1:(d.nm.toList==s.toList) with
       | true=>
        have HH2:=Hd (HH.out (by rw [← Lib.toList_data,← Lib.toList_data];exact h1));have HSET:=Hd (HROW4.out.set d);have HBS:=Hd (below_setRow HW4.out (g:=w.heap.size+1) (by omega) (dcA d));unfold dcA at HSET HBS;have HO:=Hd (show some d=out from HH2.out.symm.trans HT.out)
        go_wp2_with (refine wpList_store_row rfl _ _ _ rfl (w.heap.size+1) _ rfl rfl _ _ HROW4.out dcinfo rfl (by simp [Value.oneCell']) ?_)
        exact bodyPost_ret (res_dc2 (p:=4) (u:=5) rfl _ _ (w.heap.size+1) rfl HSET.out) rfl ⟨by rw [← HO.out];rfl,HBS.out⟩
       | false=>
        have HS2:=Hd (HS.out (by rw [← Lib.toList_data,← Lib.toList_data];exact h1))
        go_wp2_with fail
        go_roundw
        case rel=>exact⟨j+1,by omega,by go_num,HS2.out,HNY4.out⟩
        case measure=>simp [intOf];omega
     · have hjn:j=n:=by omega
       have HN:=Hd (show rest (k+1)=out from(HNO.out fun m hm=>HT2.out m (by omega)).symm.trans HT.out)
       go_wp2_with fail
       go_roundw
       case rel=>exact⟨k+1,by omega,by go_num,HN.out,HNZ.out⟩
       case measure=>simp [intOf];omega
  · have hk3:k=3:=by omega
    subst hk3;have HO:=Hd (show none=out from HEND.out.symm.trans HT.out);have HROW4:=Hd (HROW3.out.below hnx);have HW4:=Hd (HW3.out.trans (hnx.mono HW3.out.size));have HSET:=Hd (HROW4.out.set default);have HBS:=Hd (below_setRow HW4.out (g:=w.heap.size+1) (by omega) (dcA default))
    go_wp2_with (refine wpList_store_row rfl _ _ _ rfl (w.heap.size+1) _ rfl rfl _ _ HROW4.out dcinfo rfl (by simp [Value.oneCell']) ?_)
    exact bodyPost_ret (res_dc2 (d:=default) (p:=4) (u:=5) rfl _ _ (w.heap.size+1) rfl HSET.out) rfl ⟨by rw [← HO.out];rfl,HBS.out⟩
end
section
open Go.Shelf Go.RowKit Go.Lib Go.Sort
def revD_ren:Go.Shelf.Ren:=⟨fun | 35=>57 | n=>n,fun | 22=>45 | 23=>58 | 3=>3 | 4=>4 | 0=>0 | n=>n,fun | n=>n⟩
theorem revD:Go.Proofs.SlLaysE0.n35 Try.prog revD_ren:={
 mixed:=by kernel_rfl
 f35:=⟨Try.f57.name,by decide,Try.func57.trans (congrArg some (by kernel_rfl))⟩
 t0:=Try.underlying0
 a0:=Try.isAgg0
 z0:=Try.sizeOf0
 v0:=Try.zeroValue0
 t3:=Try.underlying3
 a3:=Try.isAgg3
 z3:=Try.sizeOf3
 v3:=Try.zeroValue3
 t4:=Try.underlying4
 a4:=Try.isAgg4
 z4:=Try.sizeOf4
 v4:=Try.zeroValue4
 t22:=Try.underlying45
 a22:=Try.isAgg45
 z22:=Try.sizeOf45
 v22:=Try.zeroValue45 }
theorem dcL_len(d:Dc):(dcL d).length=6:=rfl
theorem dcL_ones(d:Dc):∀ v∈dcL d,v.oneCell'=true:=by
 intro v hv;simp only [dcL,List.mem_cons,List.not_mem_nil,or_false] at hv;rcases hv with rfl | rfl | rfl | rfl | rfl | rfl <;> rfl
theorem holds_own{w:World}{g cap n:Nat}{cur:Array Value}{l:List Dc}(hh:w.heap[g]?=some (.cells cur 58 (0,0))) (hln:l.length=n) (hnc:n≤cap) (hcs:cur.size=cap*6) (ht:cur.toList.take (n*6)=flD l):
 HoldsK dcL 6 w g 0 l.toArray:=by
 intro j hj;rw [size_flatK] at hj;have hj':j<n*6:=by rw [← hln];simpa using hj
 refine⟨?_,?_⟩
 · rw [get_flatK _ _ _ _ hj];unfold World.cell?;simp only [Nat.zero_add];rw [hh];have h1:cur.toList[j]?=(flD l)[j]?:=by rw [← ht,List.getElem?_take_of_lt hj']
   have h2:=flD_at l (j / 6) (j % 6) (by omega) (Nat.mod_lt _ (by omega));rw [show j / 6*6+j % 6=j by omega] at h2;have h3:j / 6<l.length:=by omega
   show cur[j]?=_
   rw [← Array.getElem?_toList,h1,h2,List.getElem?_eq_getElem h3];rw [getElem!_pos l.toArray (j / 6) (by simpa using h3)];simp only [Option.getD_some,List.getElem_toArray];rw [List.getElem?_eq_getElem (by rw [dcL_len];omega)]
   show some _=some (id _)
   rw [getElem!_pos (dcL l[j / 6]) (j % 6) (by rw [dcL_len];omega)];rfl
 · unfold World.frozen?;simp only [Nat.zero_add];rw [hh]
   simp
theorem slRevD(base n:Nat) (v:Value) (l:List Dc) (w:World) (h:w.ownsRow base 58 6 v n (flD l)) (hn:n≤9223372036854775807):
 Calls Try.prog 57 #[v] w fun e w'=>e=.returned (.tuple #[])∧Below base w w'∧∃ A c,v=.slice A n c∧RdD w' A n l.reverse:=by
 have hln:l.length=n:=by
  have:=h.1;rw [flD_len] at this;omega
 rcases h.2 with⟨rfl,rfl⟩|⟨g,cap,cur,rfl,hg,hh,hnc,hcm,hcs,ht⟩
 · refine(AnyQ.slices_Reverse_empty revD none 0 w).mono ?_;rintro e w' ⟨rfl,rfl⟩;obtain rfl:l=[]:=List.eq_nil_of_length_eq_zero hln;exact⟨rfl,Below.refl _ _,none,0,rfl,RdS.nil_ _ _ _⟩
 · have hH:=holds_own hh hln hnc hcs ht;have hsz:l.toArray.size=n:=by simpa using hln
   have hC:=AnyQ.slices_Reverse revD 6 Try.isAgg58 Try.sizeOf58 dcL dcL_len dcL_ones g 0 cap l.toArray w hH (by rw [hsz];exact hn);rw [hsz] at hC;refine hC.mono ?_;rintro e w' ⟨rfl,m,rfl⟩;have hH2:=holdsK_putRowK dcL 6 (Sort.ahead w m) g 0 l.toArray l.toArray.reverse (holdsK_ahead dcL 6 w m g 0 l.toArray hH) (by simp);have hgs:g<w.heap.size:=(Array.getElem?_eq_some_iff.1 hh).1;refine⟨rfl,⟨rfl,rfl,rfl,by simp [putRowK],fun k hk=>?_⟩,some ⟨g,0,none⟩,cap,rfl,by simpa using hln,hn,fun hp=>⟨g,0,rfl,by simpa [putRowK] using hgs,fun i hi=>?_⟩⟩
   · show(putRow id (Sort.ahead w m) g 0 _).heap[k]?=_
     unfold putRow mapBlock
     show(w.heap.modify g _)[k]?=_
     rw [Array.getElem?_modify,if_neg (by omega)]
   · intro j u hu
     have hr:l.reverse[i]?.getD default=l.toArray.reverse[i]!:=by
      rw [getElem!_pos l.toArray.reverse i (by simp;omega),List.getElem?_eq_getElem (by simp;omega)]
      simp
     rw [hr] at hu;have:=HoldsK.cells hH2 dcL_len (i:=i) (by simp;omega) j u hu
     simpa [Addr.add_lit] using this
end
section
open Go.RowKit Go.Sort
def lenV:Value→Nat
 | .slice _ n _=>n
 | _=>0
theorem own_below{w w':World}{base:Nat}{e:TypeId}{size n:Nat}{v:Value}{xs:List Value}(h:w.ownsRow base e size v n xs) (hb:Below w.heap.size w w'):w'.ownsRow base e size v n xs:=by
 refine⟨h.1,?_⟩;rcases h.2 with h2 | ⟨g,cap,cur,hv,hg,hh,hr⟩
 · exact .inl h2
 · exact .inr ⟨g,cap,cur,hv,hg,(hb.block g (Array.getElem?_eq_some_iff.1 hh).1).trans hh,hr⟩
theorem dc_lit(w:World) (d:Dc):RdD (w.alloc (.cells (dcA d) 58)) (some ⟨w.heap.size,0,none⟩) 1 [d]:=by
 refine⟨rfl,by omega,fun _=>⟨w.heap.size,0,rfl,by simp,fun i hi=>?_⟩⟩;obtain rfl:i=0:=by omega
 intro j v hv;rw [show 0+0*6+j=j by omega,World.cell?_alloc_new];have:(dcL d)[j]?=some v:=by simpa using hv
 rw [← this]
 show(dcL d).toArray[j]?=_
 simp
theorem pgClock(x:Nd) (A1:Option Addr) (c1:Nat) (A2:Option Addr) (c2:Nat) (A3:Option Addr) (c3:Nat) (A4:Option Addr) (c4:Nat) (s:ByteArray) (w:World) (h:rdN w x A1 A2 A3 A4):
 Calls Try.prog 41 #[.agg (ndA x A1 c1 A2 c2 A3 c3 A4 c4),.string s] w (ClockPost w (clockO x s)):=by
 have HF:=Hd fun w1 hw=>nd_facts w x A1 c1 A2 c2 A3 c3 A4 c4 w1 hw h;have HDC:=Hd fun t w1 (hw:rdN w1 x A1 A2 A3 A4)=>pgDecl x A1 c1 A2 c2 A3 c3 A4 c4 t w1 hw;obtain⟨i0,z0,hi,hz1,hz0,hz2,hz3⟩:=info_three infoDecl;have HOUT:=Hd (show clockR x 13 s []=clockO x s from rfl);unfold ndA at HDC ⊢;generalize clockO x s=out at *
 go_enter Try.func41,Try.ntmps41
 go_upto_region 1 with(fail)
 generalize hw1:w.alloc _=w1;obtain⟨hb1,hg,hR1,hcell⟩:=HF.out w1 hw1;have HB1:=Hd hb1;have HC:=Hd hcell;have HR1:=Hd hR1;have HOWN:=Hd (show w1.ownsRow w1.heap.size 58 6 (.slice none 0 0) 0 (flD []) from⟨rfl,.inl ⟨rfl,rfl⟩⟩);simp only [ndA] at HC;clear hw1 hcell hb1 HF h hR1
 go_wp2_with fail
 go_loopw [1,6] (fun nm v wr=>∃ (k:Nat) (t:ByteArray) (row:List Dc),k≤12∧nm=.string t∧row.length=k∧wr.ownsRow w1.heap.size 58 6 v k (flD row)∧clockR x (13-k) t row.reverse=out∧Below w1.heap.size w1 wr) (fun _ v _=>13-lenV v)
 case atStart=>exact⟨0,s,[],by omega,rfl,rfl,HOWN.out,HOUT.out,Below.refl _ _⟩
 case round=>
  obtain⟨k,t,row,hk,rfl,hrl,hown,hcl,hnx⟩:=hrel;obtain⟨A0,c0,rfl,-⟩:=RdD.of_own hown (by omega);have HNX:=Hd hnx;have HCL:=Hd hcl;have HRL:=Hd hrl;have HOW:=Hd hown;have hz:=hnx.size;rw [hg] at hz;obtain⟨q0,q1,q2,q3,q4,-⟩:=Sx (HC.out wr hnx);simp only [Ya,Yb,Yc] at q0 q1 q2 q3 q4;have HD:=Hd (HDC.out t wr (HR1.out.below hnx));rw [show 13-k=(12-k)+1 by omega,clockR_succ] at HCL;clear hcl hnx hrl hown
  cases hd:declO x t with
  | none=>
   rw [hd] at HD HCL;have HO:=Hd (show none=out from HCL.out)
   go_wp2_with fail
   refine HD.out.mono ?_;rintro e w2 ⟨rfl,hb2⟩;have HN3:=Hd (show RowD (w2.alloc (.cells (dcA default) 58)) w2.heap.size default from heap_alloc_new _ _);have HB2:=Hd (HNX.out.trans (hb2.mono HNX.out.size));have HB3:=Hd (below_setRow ((HB2.out).alloc HB2.out.size (.cells (dcA default) 58)) (g:=w2.heap.size) HB2.out.size (dcA default));unfold declV dcA;unfold dcA at HN3 HB3;simp only [Option.getD_none,Option.isSome_none];clear q0 q1 q2 q3 q4
   go_upto_region 3 with(refine wpList_store_row rfl _ _ _ rfl w2.heap.size _ rfl rfl _ _ HN3.out dcinfo rfl (by simp [Value.oneCell']) ?_)
   go_wp2_with fail
   refine bodyPost_ret (results_tmp2 rfl _ _ _) rfl ?_;refine⟨HB1.out.trans (HB3.out.mono (by omega)),?_⟩;rw [← HO.out];rfl
  | some d=>
   rw [hd] at HD HCL;have HCL:=Hd (show(if noB d.on then some row.reverse else clockR x (12-k) d.on (d::row.reverse))=out from HCL.out)
   go_wp2_with fail
   refine HD.out.mono ?_;rintro e w2 ⟨rfl,hb2⟩;have HN3:=Hd (show RowD (w2.alloc (.cells (dcA default) 58)) w2.heap.size default from heap_alloc_new _ _);have HB2:=Hd (HNX.out.trans (hb2.mono HNX.out.size));have hB3:=below_setRow ((HB2.out).alloc HB2.out.size (.cells (dcA default) 58)) (g:=w2.heap.size) HB2.out.size (dcA d);have hN4:=HN3.out.set d;have hW4:=below_setRow ((Below.refl w2.heap.size w2).alloc (Nat.le_refl _) (.cells (dcA default) 58)) (g:=w2.heap.size) (Nat.le_refl _) (dcA d);have HZ2:=Hd hb2.size;have hWo:=hb2.trans (hW4.mono hb2.size);have HRS:=Hd fun w4 (hw:(w2.alloc (.cells (dcA default) 58)).setRow w2.heap.size (dcA d)=w4)=>(show RowD w4 w2.heap.size d∧Below w1.heap.size w1 w4∧Below wr.heap.size wr w4 by subst hw;exact⟨hN4,hB3,hWo⟩);unfold declV dcA;unfold dcA at HN3;simp only [Option.getD_some,Option.isSome_some];clear q0 q1 q2 q3 q4 hB3 hN4 hW4 hWo hb2
   go_upto_region 3 with(refine wpList_store_row rfl _ _ _ rfl w2.heap.size _ rfl rfl _ _ HN3.out dcinfo rfl (by simp [Value.oneCell']) ?_)
   generalize hw4:World.setRow _ _ _=w4;obtain⟨hN4,hB4,hWR4⟩:=HRS.out w4 hw4;have HN4:=Hd hN4;have HB4:=Hd hB4;have HOW4:=Hd (own_below HOW.out hWR4);have HGB:=Hd (show wr.heap.size≤w2.heap.size∧w2.heap.size<w4.heap.size from⟨HZ2.out,(Array.getElem?_eq_some_iff.1 hN4).1⟩);generalize w2.heap.size=gb at *;obtain⟨r0,r1,r2,r3,r4,r5⟩:=Sx hN4.cells;simp only [dcA,List.getElem?_toArray,List.getElem?_cons_zero,List.getElem?_cons_succ] at r0 r1 r2 r3 r4 r5;clear hw4 HRS hN4 hB4 hWR4 HN3
   cases h1:(d.on.toList==[]) with
   | true=>
    have HO:=Hd (show some row.reverse=out by have h:=HCL.out;rwa [show noB d.on=true by rw [Lib.toList_data] at h1;exact h1,if_pos rfl] at h);have HRV:=Hd (slRevD w1.heap.size k _ row w4 HOW4.out (by omega))
    go_wp2_with fail
    refine HRV.out.mono ?_;rintro e w5 ⟨rfl,hb5,A,c,he,hrd⟩;injection he with hA _ hc;subst hA;subst hc;have HRD:=Hd hrd;have HB5:=Hd (HB4.out.trans hb5);clear hrd hb5
    go_wp2_with fail
    refine bodyPost_ret (results_tmp2 rfl _ _ _) rfl ?_;refine⟨HB1.out.trans (HB5.out.mono (by omega)),?_⟩;rw [← HO.out];exact⟨A0,c0,by rw [List.length_reverse,HRL.out];rfl,by rw [List.length_reverse,HRL.out];exact HRD.out⟩
   | false=>
    have HO:=Hd (show clockR x (12-k) d.on (d::row.reverse)=out by have h:=HCL.out;rwa [show noB d.on=false by rw [Lib.toList_data] at h1;exact h1,if_neg (by simp)] at h)
    by_cases h12:k=12
    · have HO:=Hd (show none=out by have h:=HO.out;rwa [show 12-k=0 by omega] at h);have k12:((k:Int)==12)=true:=by rw [beq_iff_eq];omega
      clear h12
      go_wp2_with fail
      refine bodyPost_ret (results_tmp2 rfl _ _ _) rfl ?_;refine⟨HB1.out.trans (HB4.out.mono (by omega)),?_⟩;rw [← HO.out];rfl
    · have HK:=Hd (show k<12 by omega);have k12:((k:Int)==12)=false:=by rw [beq_eq_false_iff_ne];omega
      have HO:=Hd (show clockR x (13-(k+1)) d.on (row++[d]).reverse=out by have h:=HO.out;rwa [List.reverse_append,show 13-(k+1)=12-k by omega]);have HLIT:=Hd (dc_lit w4 d);have HAL:=Hd ((Below.refl w4.heap.size w4).alloc (Nat.le_refl _) (.cells (dcA d) 58));have HOW5:=Hd (own_below HOW4.out HAL.out);have HB5:=Hd (HB4.out.trans (HAL.out.mono HB4.out.size));have H4:=Hd ((HAL.out.cell (p:=⟨gb,4,none⟩) HGB.out.2).trans r4);have HLT5:=Hd (show gb<(w4.alloc (.cells (dcA d) 58)).heap.size by rw [World.size_alloc];exact Nat.lt_succ_of_lt HGB.out.2)
      have HNE:=Hd (show(some gb:Option Nat)≠(Value.slice A0 k c0).ownBlock from fun e=>by
       have h1:=(HOW.out.lt gb e.symm).2;have h2:=HGB.out.1;omega)
      unfold dcA at HLIT HAL HOW5 HB5 H4 HLT5;clear h12
      go_wp2_with (at_builtin;refine wpList_append_dc rfl _ _ 45 rfl w1.heap.size 58 i0 z0 72 Try.underlying45 hi hz1 hz0 hz2 hz3 _ k row rfl HOW5.out _ 1 1 [d] rfl HLIT.out (by unfold maxLen;omega) (by omega) HB5.out.size ?_;intro v' w5 hown' hgrow;have hB6:=HB5.out.grown hgrow HB5.out.size (fun j hj=>(HOW5.out.lt j hj).1);have HO6:=Hd hown';have HB6:=Hd hB6;have s4:=(World.cell?_of_block (a:=⟨gb,4,none⟩) (hgrow.block gb (HLT5.out) (HNE.out))).trans H4.out;clear hown' hgrow hB6)
      have hO6:=HO6.out;obtain⟨A9,c9,e9,-⟩:=RdD.of_own hO6 (by omega);subst e9;have HO6:=Hd hO6;clear hO6
      go_wp2_with fail
      go_roundw
      case rel=>exact⟨k+1,d.on,row++[d],(by have:=HK.out;omega),rfl,by rw [List.length_append,HRL.out];rfl,HO6.out,HO.out,HB6.out⟩
      case measure=>have:=HK.out;simp only [lenV];omega
end
section
set_option maxRecDepth 100000
open Go.RowKit Go.ChangeShapes Go.WideShapes Go.Deep
theorem cells_ds:Try.prog.cellsOf 45=1:=by kernel_rfl
theorem cells_qs:Try.prog.cellsOf 46=1:=by kernel_rfl
theorem cells_ns:Try.prog.cellsOf 23=1:=by kernel_rfl
theorem cells_es:Try.prog.cellsOf 22=1:=by kernel_rfl
theorem cells_pg:Try.prog.cellsOf 25=2:=by kernel_rfl
theorem cells_exZ:Try.prog.cellsOf 29=6:=by kernel_rfl
section
variable {H:Type}{enc:TypeId × Value→H}{w:World}{base:Nat}{spare:Nat→Bool}{held:Bool}
theorem rdS_open{α:Type} [Inhabited α] {k:Nat}{T ST:TypeId}{At:World→Nat→Nat→α→Prop}(hu:Try.prog.underlying ST=some (.slice T)) (hck:Try.prog.cellsOf T=k) (hk:0<k)
 (h1:∀ {w:World}{b o:Nat}{x:α},At w b o x→∃ v,w.cell? ⟨b,o,none⟩=some v)
 (hone:∀ {fuel:Nat}{cs:List Value}{x:DataW H × List MemPlace},DataW.trod enc Try.prog w base spare held fuel T cs=some x→cs.length=k→∃ e:α,∀ b o,(∀ j v,cs[j]?=some v→w.cell? ⟨b,o+j,none⟩=some v)→At w b o e)
 {fuel:Nat}{A:Option Addr}{n c:Nat}{x:DataW H × List MemPlace}(h:DataW.trod enc Try.prog w base spare held fuel ST [.slice A n c]=some x):∃ l,RdS k At w A n l:=by
 rcases open_slice hu h with⟨hcs,_⟩|⟨a,len,cap,m,nn,D,Pl,hcs,_,hl,hm,hmm,_,hi⟩
 · simp at hcs
   obtain⟨rfl,rfl,rfl⟩:=hcs;exact⟨[],RdS.nil_ _ _ _⟩
 · simp at hcs
   obtain⟨rfl,rfl,rfl⟩:=hcs;have hnm:n≤m:=by rw [hmm];split <;> omega
   have hsp:0<n→a.spot=none:=fun hn=>by
    obtain⟨cs',hc,ht⟩:=hi 0 (by omega);rw [hck] at hc;obtain⟨_,hcl,hat⟩:=World.cells?_some hc;have h0:=hat (i:=0) hk;rw [List.getElem?_eq_getElem (by omega)] at h0
    simpa [Addr.add] using World.cell?_spot h0
   have hf:∀ i,i<n→∃ e:α,∀ b off,a=⟨b,off,none⟩→At w b (off+i*k) e:=by
    intro i him;obtain⟨cs',hc,ht⟩:=hi i (by omega);rw [hck] at hc;obtain⟨_,hcl,hat⟩:=World.cells?_some hc;obtain⟨e,he⟩:=hone ht hcl;refine⟨e,fun b off ea=>he b (off+i*k) fun j v hv=>?_⟩
    have hj:j<k:=by
     rcases Nat.lt_or_ge j k with h | h
     · exact h
     · rw [List.getElem?_eq_none (by omega)] at hv;cases hv
    have h2:=hat (i:=j) hj;rw [hv] at h2;have hadd:∀ i,(⟨b,off,none⟩:Addr).add i=⟨b,off+i,none⟩:=fun i=>by unfold Addr.add;split <;> simp_all
    rw [Go.Deep.add_add,ea,hadd,← Nat.add_assoc] at h2;exact h2
   obtain⟨f,hf⟩:=choose_lt (α:=α) hf;have hget:∀ i,i<n→((List.range n).map f)[i]?.getD default=f i:=fun i hi=>by simp [List.getElem?_map,List.getElem?_range hi]
   refine⟨(List.range n).map f,by simp,by unfold maxLen at hm;omega,fun hn=>?_⟩;obtain⟨b,off,spot⟩:=a;have hspot:=hsp hn;simp only at hspot;subst hspot;have h0:=hf 0 hn b off rfl;obtain⟨v0,hv0⟩:=h1 h0;exact⟨b,off,rfl,World.block_lt_of_cell? _ _ hv0,fun i hi=>by rw [hget i hi];exact hf i hi b off rfl⟩
theorem dc_open{fuel:Nat}{cs:List Value}{x:DataW H × List MemPlace}(h:DataW.trod enc Try.prog w base spare held fuel 58 cs=some x) (hl:cs.length=6):∃ d:Dc,cs=dcL d:=by
 obtain⟨ys,m,_,_,_,hy,hf⟩:=DataW.trod_struct Try.underlying58 h
 match cs,hl with
 | [v0,v1,v2,v3,v4,v5],_=>
  match ys,hy with
  | [y0,y1,y2,y3],_=>
   have t0:=hf 0 _ rfl;have t1:=hf 1 _ rfl;have t2:=hf 2 _ rfl;have t3:=hf 3 _ rfl
   simp [cells_s,cells_ty] at t0 t1 t2 t3
   obtain⟨s0,e0,_,_⟩:=DataW.trod_string Try.underlying9 t0;obtain⟨tk,te,tl,e1⟩:=ty_cells t1 rfl;obtain⟨s2,e2,_,_⟩:=DataW.trod_string Try.underlying9 t2;obtain⟨s3,e3,_,_⟩:=DataW.trod_string Try.underlying9 t3;injection e0 with e0;injection e1 with e1 e1';injection e1' with e1' e1'';injection e1'' with e1'';injection e2 with e2;injection e3 with e3;subst e0 e1 e1' e1'' e2 e3;exact⟨⟨s0,tk,te,tl,s2,s3⟩,rfl⟩
theorem decls_open{fuel:Nat}{v:Value}{x:DataW H × List MemPlace}(h:DataW.trod enc Try.prog w base spare held fuel 45 [v]=some x):∃ A n c l,v=.slice A n c∧RdD w A n l:=by
 obtain⟨A,n,c,rfl⟩:∃ A n c,v=.slice A n c:=by
  rcases open_slice Try.underlying45 h with⟨hcs,_⟩|⟨a,len,cap,m,nn,D,Pl,hcs,_⟩
  · simp at hcs;exact⟨_,_,_,hcs⟩
  · simp at hcs;exact⟨_,_,_,hcs⟩
 obtain⟨l,hl⟩:=rdS_open (α:=Dc) (k:=6) (At:=DcAt) Try.underlying45 cells_dc (by decide) (fun h=>⟨_,h 0 _ rfl⟩) (fun ht hl=>by
  obtain⟨d,rfl⟩:=dc_open ht hl;exact⟨d,fun b o hc j v hv=>hc j v hv⟩) h
 exact⟨A,n,c,l,rfl,hl⟩
theorem qn_open{fuel:Nat}{cs:List Value}{x:DataW H × List MemPlace}(h:DataW.trod enc Try.prog w base spare held fuel 51 cs=some x) (hl:cs.length=7):
 ∃ (q:Qn) (A:Option Addr) (c:Nat) (A':Option Addr) (ca:Nat) (B':Option Addr) (cb:Nat),cs=.slice A q.ns.length c::exL q.x A' ca B' cb∧RdT w A q.ns.length q.ns∧rdX w q.x A' B':=by
 obtain⟨ys,m,_,_,_,hy,hf⟩:=DataW.trod_struct Try.underlying51 h
 match cs,hl with
 | [v0,v1,v2,v3,v4,v5,v6],_=>
  match ys,hy with
  | [y0,y1],_=>
   have t0:=hf 0 _ rfl;have t1:=hf 1 _ rfl
   simp [cells_ss,cells_exZ] at t0 t1
   obtain⟨A,n,c,ss,rfl,hr,_⟩:=strs_openZ t0;obtain⟨X,A',ca,B',cb,e1,hx,_⟩:=ex_cells _ t1 rfl;have hn:=hr.len;subst hn;exact⟨⟨ss,X⟩,A,c,A',ca,B',cb,by rw [e1],hr,hx⟩
theorem eqs_open{fuel:Nat}{v:Value}{x:DataW H × List MemPlace}(h:DataW.trod enc Try.prog w base spare held fuel 46 [v]=some x):∃ A n c l,v=.slice A n c∧RdQ w A n l:=by
 obtain⟨A,n,c,rfl⟩:∃ A n c,v=.slice A n c:=by
  rcases open_slice Try.underlying46 h with⟨hcs,_⟩|⟨a,len,cap,m,nn,D,Pl,hcs,_⟩
  · simp at hcs;exact⟨_,_,_,hcs⟩
  · simp at hcs;exact⟨_,_,_,hcs⟩
 obtain⟨l,hl⟩:=rdS_open (α:=Qn) (k:=7) (At:=QnAt) Try.underlying46 cells_qn (by decide) (fun h=>by obtain⟨A,c,A',ca,B',cb,h1,_⟩:=h;exact⟨_,h1⟩) (fun ht hl=>by
  obtain⟨q,A,c,A',ca,B',cb,rfl,h1,h2⟩:=qn_open ht hl;refine⟨q,fun b o hc=>⟨A,c,A',ca,B',cb,hc 0 _ rfl,h1,fun j v hv=>?_,h2⟩⟩;have:=hc (j+1) v hv;rwa [show o+(j+1)=o+1+j by omega] at this) h
 exact⟨A,n,c,l,rfl,hl⟩
theorem nd_open{fuel:Nat}{cs:List Value}{x:DataW H × List MemPlace}(h:DataW.trod enc Try.prog w base spare held fuel 48 cs=some x) (hl:cs.length=5):
 ∃ (n:Nd) (A1:Option Addr) (c1:Nat) (A2:Option Addr) (c2:Nat) (A3:Option Addr) (c3:Nat) (A4:Option Addr) (c4:Nat),cs=ndL n A1 c1 A2 c2 A3 c3 A4 c4∧rdN w n A1 A2 A3 A4:=by
 obtain⟨ys,m,_,_,_,hy,hf⟩:=DataW.trod_struct Try.underlying48 h
 match cs,hl with
 | [v0,v1,v2,v3,v4],_=>
  match ys,hy with
  | [y0,y1,y2,y3,y4],_=>
   have t0:=hf 0 _ rfl;have t1:=hf 1 _ rfl;have t2:=hf 2 _ rfl;have t3:=hf 3 _ rfl;have t4:=hf 4 _ rfl
   simp [cells_s,cells_ds,cells_qs] at t0 t1 t2 t3 t4
   obtain⟨s0,e0,_,_⟩:=DataW.trod_string Try.underlying9 t0;injection e0 with e0;subst e0;obtain⟨A1,n1,c1,l1,rfl,r1⟩:=decls_open t1;obtain⟨A2,n2,c2,l2,rfl,r2⟩:=decls_open t2;obtain⟨A3,n3,c3,l3,rfl,r3⟩:=decls_open t3;obtain⟨A4,n4,c4,l4,rfl,r4⟩:=eqs_open t4;have h1:=RdS.len r1;have h2:=RdS.len r2;have h3:=RdS.len r3;have h4:=RdS.len r4;subst h1 h2 h3 h4;exact⟨⟨s0,l1,l2,l3,l4⟩,A1,c1,A2,c2,A3,c3,A4,c4,rfl,r1,r2,r3,r4⟩
theorem nodes_open{fuel:Nat}{v:Value}{x:DataW H × List MemPlace}(h:DataW.trod enc Try.prog w base spare held fuel 23 [v]=some x):∃ A n c l,v=.slice A n c∧RdNs w A n l:=by
 obtain⟨A,n,c,rfl⟩:∃ A n c,v=.slice A n c:=by
  rcases open_slice Try.underlying23 h with⟨hcs,_⟩|⟨a,len,cap,m,nn,D,Pl,hcs,_⟩
  · simp at hcs;exact⟨_,_,_,hcs⟩
  · simp at hcs;exact⟨_,_,_,hcs⟩
 obtain⟨l,hl⟩:=rdS_open (α:=Nd) (k:=5) (At:=NdAt) Try.underlying23 cells_nd (by decide) (fun h=>by obtain⟨A1,c1,A2,c2,A3,c3,A4,c4,h1,_⟩:=h;exact⟨_,h1 0 _ rfl⟩) (fun ht hl=>by
  obtain⟨x,A1,c1,A2,c2,A3,c3,A4,c4,rfl,h1⟩:=nd_open ht hl;exact⟨x,fun b o hc=>⟨A1,c1,A2,c2,A3,c3,A4,c4,fun j v hv=>hc j v hv,h1⟩⟩) h
 exact⟨A,n,c,l,rfl,hl⟩
theorem pg_open{v:Value}{d:DataW H}{ps:List MemPlace}{r:Reach}{b0:Nat}(hv:Value.okWide Try.prog w r b0 25 v) (h:DataW.Trod enc Try.prog w base spare held 25 v d ps):
 ∃ (p:Pg) (E:Option Addr) (ec:Nat) (N:Option Addr) (nc:Nat),v=.agg (pgA p E ec N nc)∧rdP w p E N:=by
 obtain⟨cs,rfl,hs⟩:=okWide_struct Try.underlying25 hv;obtain⟨fuel,hf⟩:=h;rw [cells_pg] at hs;have hl:(Value.agg cs).cells.toList.length=2:=by simpa [Value.cells] using hs
 obtain⟨ys,m,_,_,_,hy,hff⟩:=DataW.trod_struct Try.underlying25 hf
 obtain⟨v0,v1,hcs⟩:∃ v0 v1,(Value.agg cs).cells.toList=[v0,v1]:=by
  match (Value.agg cs).cells.toList,hl with
  | [v0,v1],_=>exact⟨v0,v1,rfl⟩
 rw [hcs] at hff
 match ys,hy with
 | [y0,y1],_=>
  have t0:=hff 0 _ rfl;have t1:=hff 1 _ rfl
  simp [cells_es,cells_ns] at t0 t1
  obtain⟨N,nn,nc,ns,rfl,hN⟩:=nodes_open t1
  obtain⟨E,en,ec,rfl⟩:∃ A n c,v0=.slice A n c:=by
   rcases open_slice Try.underlying22 t0 with⟨h2,_⟩|⟨a,len,cap,m,nn,D,Pl,h2,_⟩
   · simp at h2;exact⟨_,_,_,h2⟩
   · simp at h2;exact⟨_,_,_,h2⟩
  obtain⟨es,hE⟩:=enums_open t0;have h1:=hE.len;have h2:=RdS.len hN;subst h1 h2;refine⟨⟨es,ns⟩,E,ec,N,nc,?_,hE,hN⟩
  congr 1
  apply Array.toList_inj.1
  simpa [Value.cells,pgA] using hcs
end
end
end Go.Proofs.Ytkbpdoomhfkngaa
