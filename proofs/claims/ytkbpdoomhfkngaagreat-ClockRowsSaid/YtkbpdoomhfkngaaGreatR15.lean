/- Parts of the proof: PhD, PhC, PiA, PiB, PiC. Conditions: each theorem's own. -/
import Derived.Test.YtkbpdoomhfkngaaGreatR08
namespace Go.Proofs.YtkbpdoomhfkngaaGreat
set_option linter.unusedVariables false
set_option linter.unusedSimpArgs false
set_option maxRecDepth 100000
set_option maxHeartbeats 40000000
section
open Go.RowKit Go.Sort
def listK(x:Nd) (k:Nat):List Dc:=match k with | 0=>x.ins | 1=>x.outs | _=>x.vars
def restO(x:Nd) (s:ByteArray) (k:Nat):Option Dc:=match k with
 | 0=>declO x s
 | 1=>(x.outs++x.vars).find? fun d=>d.nm.data.toList==s.data.toList
 | 2=>x.vars.find? fun d=>d.nm.data.toList==s.data.toList
 | _=>none
theorem restO_hit{x:Nd}{s:ByteArray}{k:Nat}{d:Dc}(hk:k<3) (h:(listK x k).find? (fun d=>d.nm.data.toList==s.data.toList)=some d):restO x s k=some d:=by
 match k,hk with
 | 0,_=>
  have h:x.ins.find? (fun d=>d.nm.data.toList==s.data.toList)=some d:=h
  show(x.ins++x.outs++x.vars).find? _=_
  rw [List.append_assoc,List.find?_append,h];rfl
 | 1,_=>
  have h:x.outs.find? (fun d=>d.nm.data.toList==s.data.toList)=some d:=h
  show(x.outs++x.vars).find? _=_
  rw [List.find?_append,h];rfl
 | 2,_=>exact h
theorem restO_next{x:Nd}{s:ByteArray}{k:Nat}(hk:k<3) (h:(listK x k).find? (fun d=>d.nm.data.toList==s.data.toList)=none):restO x s k=restO x s (k+1):=by
 match k,hk with
 | 0,_=>
  have h:x.ins.find? (fun d=>d.nm.data.toList==s.data.toList)=none:=h
  show(x.ins++x.outs++x.vars).find? _=(x.outs++x.vars).find? _
  rw [List.append_assoc,List.find?_append,h];rfl
 | 1,_=>
  have h:x.outs.find? (fun d=>d.nm.data.toList==s.data.toList)=none:=h
  show(x.outs++x.vars).find? _=x.vars.find? _
  rw [List.find?_append,h];rfl
 | 2,_=>exact h
def lists3(x:Nd) (A1:Option Addr) (c1:Nat) (A2:Option Addr) (c2:Nat) (A3:Option Addr) (c3:Nat):Array Value:=#[.slice A1 x.ins.length c1,.slice A2 x.outs.length c2,.slice A3 x.vars.length c3]
theorem lists_at{x:Nd}{A1:Option Addr}{c1:Nat}{A2:Option Addr}{c2:Nat}{A3:Option Addr}{c3:Nat}{A4:Option Addr}{w:World}(h:rdN w x A1 A2 A3 A4){k:Nat}(hk:k<3):
 ∃ A c,(lists3 x A1 c1 A2 c2 A3 c3)[k]?=some (.slice A (listK x k).length c)∧RdD w A (listK x k).length (listK x k):=by
 match k,hk with
 | 0,_=>exact⟨A1,c1,rfl,h.1⟩
 | 1,_=>exact⟨A2,c2,rfl,h.2.1⟩
 | 2,_=>exact⟨A3,c3,rfl,h.2.2.1⟩
theorem pgDecl(x:Nd) (A1:Option Addr) (c1:Nat) (A2:Option Addr) (c2:Nat) (A3:Option Addr) (c3:Nat) (A4:Option Addr) (c4:Nat) (s:ByteArray) (w:World) (h:rdN w x A1 A2 A3 A4):
 Calls Tryz.prog 61 #[.agg (ndA x A1 c1 A2 c2 A3 c3 A4 c4),.string s] w (DeclPost w (declO x s)):=by
 have HF:=Hd fun w1 hw=>nd_facts w x A1 c1 A2 c2 A3 c3 A4 c4 w1 hw h;have HDC:=Hd dc_facts;have H0:=Hd (show restO x s 0=declO x s from rfl);have HEND:=Hd (show restO x s 3=none from rfl);have HHITK:=Hd fun(k:Nat) hk d h=>restO_hit (x:=x) (s:=s) (k:=k) (d:=d) hk h;have HNEXT:=Hd fun(k:Nat) hk h=>restO_next (x:=x) (s:=s) (k:=k) hk h;have HLS:=Hd fun(w:World) (h:rdN w x A1 A2 A3 A4) (k:Nat) hk=>lists_at (c1:=c1) (c2:=c2) (c3:=c3) h (k:=k) hk;unfold ndA;unfold lists3 at HLS;generalize declO x s=out at *;generalize restO x s=rest at *;unfold dcA at HDC
 go_enter Tryz.func61,Tryz.ntmps61
 go_upto_region 1 with(fail)
 generalize hw1:w.alloc _=w1;obtain⟨hb1,hg,hR1,hcell⟩:=HF.out w1 hw1;have HB1:=Hd hb1;have HCE:=Hd hcell;have HR1:=Hd hR1
 have HN2:=Hd fun w2 (hw:w1.alloc (.cells (dcA default) 43)=w2)=>(show RowD w2 (w.heap.size+1) default∧Below w1.heap.size w1 w2∧w2.heap.size=w.heap.size+2 by
  subst hw;exact⟨by rw [← hg];exact heap_alloc_new _ _,(Below.refl _ _).alloc (Nat.le_refl _) _,by simp [hg]⟩)
 clear hw1 hcell hb1 HF h hR1;generalize hw2:w1.alloc _=w2;obtain⟨hr2,hb2,hg2⟩:=HN2.out w2 hw2;have HROW:=Hd hr2;simp only [ndA] at HCE;obtain⟨-,q1,q2,q3,-,-⟩:=Sx (HCE.out w2 hb2);simp only [Ya,Yb,Yc] at q1 q2 q3;have HW2:=Hd (HB1.out.trans (hb2.mono HB1.out.size));have HR2:=Hd (HR1.out.below hb2)
 have HN3:=Hd fun w3 (hw:w2.alloc (.cells #[.slice A1 x.ins.length c1,.slice A2 x.outs.length c2,.slice A3 x.vars.length c3] 32)=w3)=>(show Below w2.heap.size w2 w3∧w3.heap.size=w.heap.size+3∧∀ w',Below w3.heap.size w3 w'→∀ j,w'.cell? ⟨w.heap.size+2,j,none⟩=(#[.slice A1 x.ins.length c1,.slice A2 x.outs.length c2,.slice A3 x.vars.length c3]:Array Value)[j]? by
  subst hw;refine⟨(Below.refl _ _).alloc (Nat.le_refl _) _,by simp [hg2],fun w' hb j=>?_⟩;rw [← hg2,hb.cell (p:=⟨w2.heap.size,j,none⟩) (by simp),World.cell?_alloc_new])
 clear hw2 hr2 hb2 HN2 HCE HR1
 go_upto_region 2 with(fail)
 generalize hw3:w2.alloc _=w3;obtain⟨hb3,hg3,hcell3⟩:=HN3.out w3 hw3;have HC3:=Hd hcell3;have HROW3:=Hd (HROW.out.below hb3);have HW3:=Hd (HW2.out.trans (hb3.mono HW2.out.size));have HR3:=Hd (HR2.out.below hb3);clear hw3 HN3 hb3 hcell3 q1 q2 q3 HROW HW2 HR2
 go_loopw [18] (fun i wr=>∃ k:Nat,k≤3∧i=.int .i64 k∧rest k=out∧Below w3.heap.size w3 wr) (fun i _=>3-(intOf i).toNat)
 case atStart=>exact⟨0,by omega,rfl,H0.out,Below.refl _ _⟩
 case round=>
  obtain⟨k,hk,rfl,hto,hnx⟩:=hrel;have HT:=Hd hto;have HNX:=Hd hnx;clear hto
  by_cases hlt:k<3
  · obtain⟨A,c,hAk,hrd⟩:=HLS.out wr (HR3.out.below hnx) k hlt;have e0:=HC3.out wr hnx k;rw [hAk] at e0;have HRD:=Hd hrd;have hln:=RdS.len hrd;have hmx:=RdS.max hrd;have HHIT:=Hd (fun(j:Nat) hj hn hy=>HHITK.out k hlt _ (find_hit (l:=listK x k) (f:=fun d:Dc=>d.nm.data.toList==s.data.toList) (k:=j) hj hn hy));have HNO:=Hd (fun hn=>HNEXT.out k hlt (find_none (l:=listK x k) (f:=fun d:Dc=>d.nm.data.toList==s.data.toList) hn));clear hAk hrd hnx;generalize listK x k=l at *;generalize l.length=n at *
    go_upto_region 5 with(fail)
    generalize wr=wo at *
    go_loopw [24] (fun i wr=>∃ j:Nat,j≤n∧i=.int .i64 j∧(∀ m,m<j→((l[m]?.getD default).nm.data.toList==s.data.toList)=false)∧Below wo.heap.size wo wr) (fun i _=>n-(intOf i).toNat)
    case atStart=>exact⟨0,by omega,rfl,fun j hj=>absurd hj (by omega),Below.refl _ _⟩
    case round=>
     obtain⟨j,hj,rfl,hto,hny⟩:=hrel;have HT2:=Hd hto;have HNY:=Hd hny;have HNZ:=Hd (HNX.out.trans (hny.mono HNX.out.size));clear hto
     by_cases hjt:j<n
     · obtain⟨b,off,rfl,hb,hc⟩:=RdS.at_ (RdD.below HRD.out hny) (by omega);obtain⟨d0,d1,d2,d3,d4,d5⟩:=(hc j hjt).six;clear hc;have HH:=Hd (HHIT.out j (by omega) HT2.out);have HS:=Hd fun(hf:((l[j]?.getD default).nm.data.toList==s.data.toList)=false)=>to_next (P:=fun m=>((l[m]?.getD default).nm.data.toList==s.data.toList)=false) HT2.out hf;generalize l[j]?.getD default=d at d0 d1 d2 d3 d4 d5 HH HS;have HD4:=Hd fun w4 hw=>HDC.out wr d w4 hw;clear hny
       go_upto_region 7 with(fail)
       generalize hw4:World.alloc _ _=w4;obtain⟨hb4,hg4,hcell4⟩:=HD4.out _ hw4;obtain⟨r0,r1,r2,r3,r4,r5⟩:=Sx (hcell4 w4 (Below.refl _ _));simp only [Ya,Yb,Yc] at r0 r1 r2 r3 r4 r5;have HROW4:=Hd (HROW3.out.below (HNZ.out.trans (hb4.mono HNZ.out.size)));have HW4:=Hd (HW3.out.trans ((HNZ.out.trans (hb4.mono HNZ.out.size)).mono HW3.out.size));have HNY4:=Hd (HNY.out.trans (hb4.mono HNY.out.size));clear d0 d1 d2 d3 d4 d5 hb4 hcell4 hw4 HD4
       cases h1:(d.nm.toList==s.toList) with
       | true=>
        have HH2:=Hd (HH.out (by rw [← Lib.toList_data,← Lib.toList_data];exact h1));have HSET:=Hd (HROW4.out.set d);have HBS:=Hd (below_setRow HW4.out (g:=w.heap.size+1) (by omega) (dcA d));unfold dcA at HSET HBS;have HO:=Hd (show some d=out from HH2.out.symm.trans HT.out)
        go_wp2_with (refine wpList_store_row rfl _ _ _ rfl (w.heap.size+1) _ rfl rfl _ _ HROW4.out dcinfo rfl (by simp [Value.oneCell']) ?_)
        exact bodyPost_ret (res_dc2 (p:=4) (u:=5) rfl _ _ (w.heap.size+1) rfl HSET.out) rfl ⟨by rw [← HO.out];rfl,HBS.out⟩
       | false=>
        have HS2:=Hd (HS.out (by rw [← Lib.toList_data,← Lib.toList_data];exact h1))
        go_wp2_with fail
        go_roundw
        case rel=>exact⟨j+1,by omega,by go_num,HS2.out,HNY4.out⟩
        case measure=>simp [intOf];omega
     · have hjn:j=n:=by omega
       have HN:=Hd (show rest (k+1)=out from(HNO.out fun m hm=>HT2.out m (by omega)).symm.trans HT.out)
       go_wp2_with fail
       go_roundw
       case rel=>exact⟨k+1,by omega,by go_num,HN.out,HNZ.out⟩
       case measure=>simp [intOf];omega
  · have hk3:k=3:=by omega
    subst hk3;have HO:=Hd (show none=out from HEND.out.symm.trans HT.out);have HROW4:=Hd (HROW3.out.below hnx);have HW4:=Hd (HW3.out.trans (hnx.mono HW3.out.size));have HSET:=Hd (HROW4.out.set default);have HBS:=Hd (below_setRow HW4.out (g:=w.heap.size+1) (by omega) (dcA default))
    go_wp2_with (refine wpList_store_row rfl _ _ _ rfl (w.heap.size+1) _ rfl rfl _ _ HROW4.out dcinfo rfl (by simp [Value.oneCell']) ?_)
    exact bodyPost_ret (res_dc2 (d:=default) (p:=4) (u:=5) rfl _ _ (w.heap.size+1) rfl HSET.out) rfl ⟨by rw [← HO.out];rfl,HBS.out⟩
end
section
open Go.RowKit Go.Sort
def lenV:Value→Nat
 | .slice _ n _=>n
 | _=>0
theorem own_below{w w':World}{base:Nat}{e:TypeId}{size n:Nat}{v:Value}{xs:List Value}(h:w.ownsRow base e size v n xs) (hb:Below w.heap.size w w'):w'.ownsRow base e size v n xs:=by
 refine⟨h.1,?_⟩;rcases h.2 with h2 | ⟨g,cap,cur,hv,hg,hh,hr⟩
 · exact .inl h2
 · exact .inr ⟨g,cap,cur,hv,hg,(hb.block g (Array.getElem?_eq_some_iff.1 hh).1).trans hh,hr⟩
theorem dc_lit(w:World) (d:Dc):RdD (w.alloc (.cells (dcA d) 43)) (some ⟨w.heap.size,0,none⟩) 1 [d]:=by
 refine⟨rfl,by omega,fun _=>⟨w.heap.size,0,rfl,by simp,fun i hi=>?_⟩⟩;obtain rfl:i=0:=by omega
 intro j v hv;rw [show 0+0*6+j=j by omega,World.cell?_alloc_new];have:(dcL d)[j]?=some v:=by simpa using hv
 rw [← this]
 show(dcL d).toArray[j]?=_
 simp
theorem pgClock(x:Nd) (A1:Option Addr) (c1:Nat) (A2:Option Addr) (c2:Nat) (A3:Option Addr) (c3:Nat) (A4:Option Addr) (c4:Nat) (s:ByteArray) (w:World) (h:rdN w x A1 A2 A3 A4):
 Calls Tryz.prog 39 #[.agg (ndA x A1 c1 A2 c2 A3 c3 A4 c4),.string s] w (ClockPost w (clockO x s)):=by
 have HF:=Hd fun w1 hw=>nd_facts w x A1 c1 A2 c2 A3 c3 A4 c4 w1 hw h;have HDC:=Hd fun t w1 (hw:rdN w1 x A1 A2 A3 A4)=>pgDecl x A1 c1 A2 c2 A3 c3 A4 c4 t w1 hw;obtain⟨i0,z0,hi,hz1,hz0,hz2,hz3⟩:=info_three infoDecl;have HOUT:=Hd (show clockR x 13 s []=clockO x s from rfl);unfold ndA at HDC ⊢;generalize clockO x s=out at *
 go_enter Tryz.func39,Tryz.ntmps39
 go_upto_region 1 with(fail)
 generalize hw1:w.alloc _=w1;obtain⟨hb1,hg,hR1,hcell⟩:=HF.out w1 hw1;have HB1:=Hd hb1;have HC:=Hd hcell;have HR1:=Hd hR1;have HOWN:=Hd (show w1.ownsRow w1.heap.size 43 6 (.slice none 0 0) 0 (flD []) from⟨rfl,.inl ⟨rfl,rfl⟩⟩);simp only [ndA] at HC;clear hw1 hcell hb1 HF h hR1
 go_wp2_with fail
 go_loopw [1,6] (fun nm v wr=>∃ (k:Nat) (t:ByteArray) (row:List Dc),k≤12∧nm=.string t∧row.length=k∧wr.ownsRow w1.heap.size 43 6 v k (flD row)∧clockR x (13-k) t row.reverse=out∧Below w1.heap.size w1 wr) (fun _ v _=>13-lenV v)
 case atStart=>exact⟨0,s,[],by omega,rfl,rfl,HOWN.out,HOUT.out,Below.refl _ _⟩
 case round=>
  obtain⟨k,t,row,hk,rfl,hrl,hown,hcl,hnx⟩:=hrel;obtain⟨A0,c0,rfl,-⟩:=RdD.of_own hown (by omega);have HNX:=Hd hnx;have HCL:=Hd hcl;have HRL:=Hd hrl;have HOW:=Hd hown;have hz:=hnx.size;rw [hg] at hz;obtain⟨q0,q1,q2,q3,q4,-⟩:=Sx (HC.out wr hnx);simp only [Ya,Yb,Yc] at q0 q1 q2 q3 q4;have HD:=Hd (HDC.out t wr (HR1.out.below hnx));rw [show 13-k=(12-k)+1 by omega,clockR_succ] at HCL;clear hcl hnx hrl hown
  cases hd:declO x t with
  | none=>
   rw [hd] at HD HCL;have HO:=Hd (show none=out from HCL.out)
   go_wp2_with fail
   refine HD.out.mono ?_;rintro e w2 ⟨rfl,hb2⟩;have HN3:=Hd (show RowD (w2.alloc (.cells (dcA default) 43)) w2.heap.size default from heap_alloc_new _ _);have HB2:=Hd (HNX.out.trans (hb2.mono HNX.out.size));have HB3:=Hd (below_setRow ((HB2.out).alloc HB2.out.size (.cells (dcA default) 43)) (g:=w2.heap.size) HB2.out.size (dcA default));unfold declV dcA;unfold dcA at HN3 HB3;simp only [Option.getD_none,Option.isSome_none];clear q0 q1 q2 q3 q4
   go_upto_region 3 with(refine wpList_store_row rfl _ _ _ rfl w2.heap.size _ rfl rfl _ _ HN3.out dcinfo rfl (by simp [Value.oneCell']) ?_)
   go_wp2_with fail
   refine bodyPost_ret (results_tmp2 rfl _ _ _) rfl ?_;refine⟨HB1.out.trans (HB3.out.mono (by omega)),?_⟩;rw [← HO.out];rfl
  | some d=>
   rw [hd] at HD HCL;have HCL:=Hd (show(if noB d.on then some row.reverse else clockR x (12-k) d.on (d::row.reverse))=out from HCL.out)
   go_wp2_with fail
   refine HD.out.mono ?_;rintro e w2 ⟨rfl,hb2⟩;have HN3:=Hd (show RowD (w2.alloc (.cells (dcA default) 43)) w2.heap.size default from heap_alloc_new _ _);have HB2:=Hd (HNX.out.trans (hb2.mono HNX.out.size));have hB3:=below_setRow ((HB2.out).alloc HB2.out.size (.cells (dcA default) 43)) (g:=w2.heap.size) HB2.out.size (dcA d);have hN4:=HN3.out.set d;have hW4:=below_setRow ((Below.refl w2.heap.size w2).alloc (Nat.le_refl _) (.cells (dcA default) 43)) (g:=w2.heap.size) (Nat.le_refl _) (dcA d);have HZ2:=Hd hb2.size;have hWo:=hb2.trans (hW4.mono hb2.size);have HRS:=Hd fun w4 (hw:(w2.alloc (.cells (dcA default) 43)).setRow w2.heap.size (dcA d)=w4)=>(show RowD w4 w2.heap.size d∧Below w1.heap.size w1 w4∧Below wr.heap.size wr w4 by subst hw;exact⟨hN4,hB3,hWo⟩);unfold declV dcA;unfold dcA at HN3;simp only [Option.getD_some,Option.isSome_some];clear q0 q1 q2 q3 q4 hB3 hN4 hW4 hWo hb2
   go_upto_region 3 with(refine wpList_store_row rfl _ _ _ rfl w2.heap.size _ rfl rfl _ _ HN3.out dcinfo rfl (by simp [Value.oneCell']) ?_)
   generalize hw4:World.setRow _ _ _=w4;obtain⟨hN4,hB4,hWR4⟩:=HRS.out w4 hw4;have HN4:=Hd hN4;have HB4:=Hd hB4;have HOW4:=Hd (own_below HOW.out hWR4);have HGB:=Hd (show wr.heap.size≤w2.heap.size∧w2.heap.size<w4.heap.size from⟨HZ2.out,(Array.getElem?_eq_some_iff.1 hN4).1⟩);generalize w2.heap.size=gb at *;obtain⟨r0,r1,r2,r3,r4,r5⟩:=Sx hN4.cells;simp only [dcA,List.getElem?_toArray,List.getElem?_cons_zero,List.getElem?_cons_succ] at r0 r1 r2 r3 r4 r5;clear hw4 HRS hN4 hB4 hWR4 HN3
   cases h1:(d.on.toList==[]) with
   | true=>
    have HO:=Hd (show some row.reverse=out by have h:=HCL.out;rwa [show noB d.on=true by rw [Lib.toList_data] at h1;exact h1,if_pos rfl] at h);have HRV:=Hd (slRevD w1.heap.size k _ row w4 HOW4.out (by omega))
    go_wp2_with fail
    refine HRV.out.mono ?_;rintro e w5 ⟨rfl,hb5,A,c,he,hrd⟩;injection he with hA _ hc;subst hA;subst hc;have HRD:=Hd hrd;have HB5:=Hd (HB4.out.trans hb5);clear hrd hb5
    go_wp2_with fail
    refine bodyPost_ret (results_tmp2 rfl _ _ _) rfl ?_;refine⟨HB1.out.trans (HB5.out.mono (by omega)),?_⟩;rw [← HO.out];exact⟨A0,c0,by rw [List.length_reverse,HRL.out];rfl,by rw [List.length_reverse,HRL.out];exact HRD.out⟩
   | false=>
    have HO:=Hd (show clockR x (12-k) d.on (d::row.reverse)=out by have h:=HCL.out;rwa [show noB d.on=false by rw [Lib.toList_data] at h1;exact h1,if_neg (by simp)] at h)
    by_cases h12:k=12
    · have HO:=Hd (show none=out by have h:=HO.out;rwa [show 12-k=0 by omega] at h);have k12:((k:Int)==12)=true:=by rw [beq_iff_eq];omega
      clear h12
      go_wp2_with fail
      refine bodyPost_ret (results_tmp2 rfl _ _ _) rfl ?_;refine⟨HB1.out.trans (HB4.out.mono (by omega)),?_⟩;rw [← HO.out];rfl
    · have HK:=Hd (show k<12 by omega);have k12:((k:Int)==12)=false:=by rw [beq_eq_false_iff_ne];omega
      have HO:=Hd (show clockR x (13-(k+1)) d.on (row++[d]).reverse=out by have h:=HO.out;rwa [List.reverse_append,show 13-(k+1)=12-k by omega]);have HLIT:=Hd (dc_lit w4 d);have HAL:=Hd ((Below.refl w4.heap.size w4).alloc (Nat.le_refl _) (.cells (dcA d) 43));have HOW5:=Hd (own_below HOW4.out HAL.out);have HB5:=Hd (HB4.out.trans (HAL.out.mono HB4.out.size));have H4:=Hd ((HAL.out.cell (p:=⟨gb,4,none⟩) HGB.out.2).trans r4);have HLT5:=Hd (show gb<(w4.alloc (.cells (dcA d) 43)).heap.size by rw [World.size_alloc];exact Nat.lt_succ_of_lt HGB.out.2)
      have HNE:=Hd (show(some gb:Option Nat)≠(Value.slice A0 k c0).ownBlock from fun e=>by
       have h1:=(HOW.out.lt gb e.symm).2;have h2:=HGB.out.1;omega)
      unfold dcA at HLIT HAL HOW5 HB5 H4 HLT5;clear h12
      go_wp2_with (at_builtin;refine wpList_append_dc rfl _ _ 32 rfl w1.heap.size 43 i0 z0 72 Tryz.underlying32 hi hz1 hz0 hz2 hz3 _ k row rfl HOW5.out _ 1 1 [d] rfl HLIT.out (by unfold maxLen;omega) (by omega) HB5.out.size ?_;intro v' w5 hown' hgrow;have hB6:=HB5.out.grown hgrow HB5.out.size (fun j hj=>(HOW5.out.lt j hj).1);have HO6:=Hd hown';have HB6:=Hd hB6;have s4:=(World.cell?_of_block (a:=⟨gb,4,none⟩) (hgrow.block gb (HLT5.out) (HNE.out))).trans H4.out;clear hown' hgrow hB6)
      have hO6:=HO6.out;obtain⟨A9,c9,e9,-⟩:=RdD.of_own hO6 (by omega);subst e9;have HO6:=Hd hO6;clear hO6
      go_wp2_with fail
      go_roundw
      case rel=>exact⟨k+1,d.on,row++[d],(by have:=HK.out;omega),rfl,by rw [List.length_append,HRL.out];rfl,HO6.out,HO.out,HB6.out⟩
      case measure=>have:=HK.out;simp only [lenV];omega
end
section
open Go.RowKit Go.Sort
theorem findI_any{α:Type}(f:α→Bool):∀ (l:List α),decide ((0:Int)≤findI f l 0)=l.any f:=by
 have key:∀ (l:List α) (i:Nat),decide ((0:Int)≤findI f l i)=l.any f:=by
  intro l
  induction l with
  | nil=>intro i;simp [findI]
  | cons a l ih=>
   intro i;rw [findI]
   cases ha:f a with
   | true=>simp [ha]
   | false=>simp only [List.any_cons,ha,Bool.false_or];rw [if_neg (by simp)];exact ih (i+1)
 exact fun l=>key l 0
theorem findI_hitS{f:ByteArray→Bool}:∀ {l:List ByteArray}{k i:Nat},k<l.length→(∀ j,j<k→f (l[j]?.getD ByteArray.empty)=false)→f (l[k]?.getD ByteArray.empty)=true→findI f l i=((i+k:Nat):Int)
 | [],k,i,h,_,_=>by simp at h
 | a::l,0,i,_,_,h=>by
  have h:f a=true:=by simpa using h
  simp [findI,h]
 | a::l,k+1,i,hk,hn,h=>by
  have h0:f a=false:=by simpa using hn 0 (by omega)
  rw [findI,h0,if_neg (by simp),findI_hitS (k:=k) (by simpa using hk) (fun j hj=>by simpa using hn (j+1) (by omega)) (by simpa using h)]
  congr 1
  omega
theorem findI_noneS{f:ByteArray→Bool}:∀ {l:List ByteArray}{i:Nat},(∀ j,j<l.length→f (l[j]?.getD ByteArray.empty)=false)→findI f l i=-1
 | [],i,_=>rfl
 | a::l,i,hn=>by
  have h0:f a=false:=by simpa using hn 0 (by simp)
  rw [findI,h0,if_neg (by simp)];exact findI_noneS fun j hj=>by simpa using hn (j+1) (by simpa using hj)
theorem nd_at{w:World}{A:Option Addr}{n i:Nat}{l:List Nd}(h:RdNs w A n l) (hi:i<n):
 ∃ b off A1 c1 A2 c2 A3 c3 A4 c4,A=some ⟨b,off,none⟩∧b<w.heap.size∧rdN w (l[i]?.getD default) A1 A2 A3 A4 ∧
 w.cell? ⟨b,off+i*5,none⟩=some (.string (l[i]?.getD default).nm)∧w.cell? ⟨b,off+i*5+1,none⟩=some (.slice A1 (l[i]?.getD default).ins.length c1)∧w.cell? ⟨b,off+i*5+2,none⟩=some (.slice A2 (l[i]?.getD default).outs.length c2)∧w.cell? ⟨b,off+i*5+3,none⟩=some (.slice A3 (l[i]?.getD default).vars.length c3)∧w.cell? ⟨b,off+i*5+4,none⟩=some (.slice A4 (l[i]?.getD default).eqs.length c4):=by
 obtain⟨b,off,e,hb,hc⟩:=RdS.at_ h (by omega);obtain⟨A1,c1,A2,c2,A3,c3,A4,c4,h1,h2⟩:=hc i hi;obtain⟨d0,d1,d2,d3,d4⟩:=ndL_five h1;exact⟨b,off,A1,c1,A2,c2,A3,c3,A4,c4,e,hb,h2,d0,d1,d2,d3,d4⟩
theorem qn_at{w:World}{A:Option Addr}{n i:Nat}{l:List Qn}(h:RdQ w A n l) (hi:i<n):
 ∃ b off,∃ B c A' ca B' cb,A=some ⟨b,off,none⟩∧b<w.heap.size∧(RdT w B (l[i]?.getD default).ns.length (l[i]?.getD default).ns∧rdX w (l[i]?.getD default).x A' B') ∧
  w.cell? ⟨b,off+i*7,none⟩=some (.slice B (l[i]?.getD default).ns.length c)∧w.cell? ⟨b,off+i*7+1,none⟩=some (.int .i64 (l[i]?.getD default).x.k)∧w.cell? ⟨b,off+i*7+2,none⟩=some (.int .i64 (l[i]?.getD default).x.n) ∧
  w.cell? ⟨b,off+i*7+3,none⟩=some (.string (l[i]?.getD default).x.s)∧w.cell? ⟨b,off+i*7+4,none⟩=some (.int .i64 (l[i]?.getD default).x.op)∧w.cell? ⟨b,off+i*7+5,none⟩=some (.slice A' (l[i]?.getD default).x.arms.length ca)∧w.cell? ⟨b,off+i*7+6,none⟩=some (.slice B' (l[i]?.getD default).x.subs.length cb):=by
 obtain⟨b,off,e,hb,hc⟩:=RdS.at_ h (by omega);obtain⟨B,c,A',ca,B',cb,h0,h1,h2,h3⟩:=hc i hi;obtain⟨c0,c1,c2,c3,c4,c5⟩:=rangeAt_six h2;exact⟨b,off,B,c,A',ca,B',cb,e,hb,⟨h1,h3⟩,h0,c0,c1,c2,c3,c4,c5⟩
theorem dc_at{w:World}{A:Option Addr}{n i:Nat}{l:List Dc}(h:RdD w A n l) (hi:i<n):
 ∃ b off,A=some ⟨b,off,none⟩∧b<w.heap.size∧w.cell? ⟨b,off+i*6,none⟩=some (.string (l[i]?.getD default).nm)∧w.cell? ⟨b,off+i*6+1,none⟩=some (.int .i64 (l[i]?.getD default).k)∧w.cell? ⟨b,off+i*6+2,none⟩=some (.int .i64 (l[i]?.getD default).e) ∧
  w.cell? ⟨b,off+i*6+3,none⟩=some (.int .i64 (l[i]?.getD default).l)∧w.cell? ⟨b,off+i*6+4,none⟩=some (.string (l[i]?.getD default).on)∧w.cell? ⟨b,off+i*6+5,none⟩=some (.string (l[i]?.getD default).ct):=by
 obtain⟨b,off,e,hb,hc⟩:=RdS.at_ h (by omega);exact⟨b,off,e,hb,(hc i hi).six⟩
def PredNd(g:Nat) (lb:Array Value) (f:Nd→Bool) (l:List Nd) (w:World):Prop:=
 ∀ x,x∈l→∀ (A1:Option Addr) (c1:Nat) (A2:Option Addr) (c2:Nat) (A3:Option Addr) (c3:Nat) (A4:Option Addr) (c4:Nat) (W:World),Below w.heap.size w W→rdN W x A1 A2 A3 A4 →
  Calls Tryz.prog g (#[.agg (ndA x A1 c1 A2 c2 A3 c3 A4 c4)]++lb) W fun e w'=>e=.returned (.bool (f x))∧Below W.heap.size W w'
theorem slIndexNd(g:Nat) (lb:Array Value) (eg:∀ args w,(callFunc g args).run Tryz.prog w=.ok (.enter g args) w) (f:Nd→Bool) (A:Option Addr) (n c:Nat) (l:List Nd) (w:World) (h:RdNs w A n l) (hf:PredNd g lb f l w):
 Calls Tryz.prog 93 #[.slice A n c,.func (.func g) #[] lb] w fun e w'=>e=.returned (.int .i64 (findI f l 0))∧Below w.heap.size w w':=by
 have HR:=Hd h;have HP:=Hd hf;have hln:=RdS.len h;have hmx:=RdS.max h;have HHIT:=Hd (fun(k:Nat) hk hn hy=>show findI f l 0=(k:Int) by have:=findI_hit (l:=l) (f:=f) (k:=k) (i:=0) hk hn hy;rwa [Nat.zero_add] at this);have HNO:=Hd (fun hn=>show findI f l 0=-1 from findI_none (l:=l) (f:=f) (i:=0) hn);generalize findI f l 0=out at *;have HLN:=Hd hln;clear h hf hln;unfold PredNd at HP
 go_enter Tryz.func93,Tryz.ntmps93
 go_wp2_with fail
 go_loopw [5,8] (fun _ i wr=>∃ k:Nat,k≤n∧i=.int .i64 k∧(∀ j,j<k→f (l[j]?.getD default)=false)∧Below w.heap.size w wr) (fun _ i _=>n-(intOf i).toNat)
 case atStart=>exact⟨0,Nat.zero_le _,rfl,fun j hj=>absurd hj (by omega),Below.refl _ _⟩
 case round=>
  obtain⟨k,hk,rfl,hto,hnx⟩:=hrel;have HT:=Hd hto;have HNX:=Hd hnx;clear hto
  by_cases hlt:k<n
  · obtain⟨b,off,A1,c1,A2,c2,A3,c3,A4,c4,rfl,hb,hrd,d0,d1,d2,d3,d4⟩:=nd_at (HR.out.below hnx) hlt;have HCL:=Hd (HP.out _ (getD_memA (by rw [HLN.out];exact hlt)) A1 c1 A2 c2 A3 c3 A4 c4 wr hnx hrd);have HH:=Hd (HHIT.out k (by rw [HLN.out];exact hlt) HT.out);have HS:=Hd fun(hf:f (l[k]?.getD default)=false)=>to_next (P:=fun j=>f (l[j]?.getD default)=false) HT.out hf;clear hnx  hrd;unfold ndA at HCL;generalize l[k]?.getD default=x at d0 d1 d2 d3 d4 HCL HH HS
    cases hq:f x with
    | true=>
     have HO:=Hd (HH.out hq);rw [hq] at HCL
     go_wp2_with (go_at_fn g;refine HCL.out.mono ?_;rintro e w3 ⟨rfl,hb3⟩)
     go_ret
     exact⟨ret_int HO.out.symm,HNX.out.trans (hb3.mono HNX.out.size)⟩
    | false=>
     have HO:=Hd (HS.out hq);rw [hq] at HCL
     go_wp2_with (go_at_fn g;refine HCL.out.mono ?_;rintro e w3 ⟨rfl,hb3⟩;have HB3:=Hd (HNX.out.trans (hb3.mono HNX.out.size));clear hb3)
     go_roundw
     case rel=>exact⟨k+1,by omega,by go_num,HO.out,HB3.out⟩
     case measure=>simp [intOf];omega
  · have hkn:k=n:=by omega
    have HN:=Hd (HNO.out fun j hj=>HT.out j (by rw [HLN.out] at hj;omega))
    go_wp2_with fail
    go_ret
    exact⟨ret_int HN.out.symm,HNX.out⟩
theorem slHasNd(g:Nat) (lb:Array Value) (eg:∀ args w,(callFunc g args).run Tryz.prog w=.ok (.enter g args) w) (f:Nd→Bool) (A:Option Addr) (n c:Nat) (l:List Nd) (w:World) (h:RdNs w A n l) (hf:PredNd g lb f l w):
 Calls Tryz.prog 65 #[.slice A n c,.func (.func g) #[] lb] w fun e w'=>e=.returned (.bool (l.any f))∧Below w.heap.size w w':=by
 have HI:=Hd (slIndexNd g lb eg f A n c l w h hf);have HA:=Hd (findI_any f l);clear h hf
 go_enter Tryz.func65,Tryz.ntmps65
 go_wp2_with fail
 refine HI.out.mono ?_;rintro e w2 ⟨rfl,hb2⟩;have HB2:=Hd hb2;clear hb2
 cases ha:l.any f with
 | true=>
  rw [ha] at HA;have d0:decide ((0:Int)≤findI f l 0)=true:=HA.out
  go_wp2_with fail
  go_ret
  exact⟨ret_bool ha.symm,HB2.out⟩
 | false=>
  rw [ha] at HA;have d0:decide ((0:Int)≤findI f l 0)=false:=HA.out
  go_wp2_with fail
  go_ret
  exact⟨ret_bool ha.symm,HB2.out⟩
def PredDc(g:Nat) (lb:Array Value) (f:Dc→Bool) (l:List Dc) (w:World):Prop:=
 ∀ x,x∈l→∀ (W:World),Below w.heap.size w W →
  Calls Tryz.prog g (#[.agg (dcA x)]++lb) W fun e w'=>e=.returned (.bool (f x))∧Below W.heap.size W w'
theorem slIndexDc(g:Nat) (lb:Array Value) (eg:∀ args w,(callFunc g args).run Tryz.prog w=.ok (.enter g args) w) (f:Dc→Bool) (A:Option Addr) (n c:Nat) (l:List Dc) (w:World) (h:RdD w A n l) (hf:PredDc g lb f l w):
 Calls Tryz.prog 30 #[.slice A n c,.func (.func g) #[] lb] w fun e w'=>e=.returned (.int .i64 (findI f l 0))∧Below w.heap.size w w':=by
 have HR:=Hd h;have HP:=Hd hf;have hln:=RdS.len h;have hmx:=RdS.max h;have HHIT:=Hd (fun(k:Nat) hk hn hy=>show findI f l 0=(k:Int) by have:=findI_hit (l:=l) (f:=f) (k:=k) (i:=0) hk hn hy;rwa [Nat.zero_add] at this);have HNO:=Hd (fun hn=>show findI f l 0=-1 from findI_none (l:=l) (f:=f) (i:=0) hn);generalize findI f l 0=out at *;have HLN:=Hd hln;clear h hf hln;unfold PredDc at HP
 go_enter Tryz.func30,Tryz.ntmps30
 go_wp2_with fail
 go_loopw [5,8] (fun _ i wr=>∃ k:Nat,k≤n∧i=.int .i64 k∧(∀ j,j<k→f (l[j]?.getD default)=false)∧Below w.heap.size w wr) (fun _ i _=>n-(intOf i).toNat)
 case atStart=>exact⟨0,Nat.zero_le _,rfl,fun j hj=>absurd hj (by omega),Below.refl _ _⟩
 case round=>
  obtain⟨k,hk,rfl,hto,hnx⟩:=hrel;have HT:=Hd hto;have HNX:=Hd hnx;clear hto
  by_cases hlt:k<n
  · obtain⟨b,off,rfl,hb,d0,d1,d2,d3,d4,d5⟩:=dc_at (HR.out.below hnx) hlt;have HCL:=Hd (HP.out _ (getD_memA (by rw [HLN.out];exact hlt))  wr hnx);have HH:=Hd (HHIT.out k (by rw [HLN.out];exact hlt) HT.out);have HS:=Hd fun(hf:f (l[k]?.getD default)=false)=>to_next (P:=fun j=>f (l[j]?.getD default)=false) HT.out hf;clear hnx;unfold dcA at HCL;generalize l[k]?.getD default=x at d0 d1 d2 d3 d4 d5 HCL HH HS
    cases hq:f x with
    | true=>
     have HO:=Hd (HH.out hq);rw [hq] at HCL
     go_wp2_with (go_at_fn g;refine HCL.out.mono ?_;rintro e w3 ⟨rfl,hb3⟩)
     go_ret
     exact⟨ret_int HO.out.symm,HNX.out.trans (hb3.mono HNX.out.size)⟩
    | false=>
     have HO:=Hd (HS.out hq);rw [hq] at HCL
     go_wp2_with (go_at_fn g;refine HCL.out.mono ?_;rintro e w3 ⟨rfl,hb3⟩;have HB3:=Hd (HNX.out.trans (hb3.mono HNX.out.size));clear hb3)
     go_roundw
     case rel=>exact⟨k+1,by omega,by go_num,HO.out,HB3.out⟩
     case measure=>simp [intOf];omega
  · have hkn:k=n:=by omega
    have HN:=Hd (HNO.out fun j hj=>HT.out j (by rw [HLN.out] at hj;omega))
    go_wp2_with fail
    go_ret
    exact⟨ret_int HN.out.symm,HNX.out⟩
theorem slHasDc(g:Nat) (lb:Array Value) (eg:∀ args w,(callFunc g args).run Tryz.prog w=.ok (.enter g args) w) (f:Dc→Bool) (A:Option Addr) (n c:Nat) (l:List Dc) (w:World) (h:RdD w A n l) (hf:PredDc g lb f l w):
 Calls Tryz.prog 16 #[.slice A n c,.func (.func g) #[] lb] w fun e w'=>e=.returned (.bool (l.any f))∧Below w.heap.size w w':=by
 have HI:=Hd (slIndexDc g lb eg f A n c l w h hf);have HA:=Hd (findI_any f l);clear h hf
 go_enter Tryz.func16,Tryz.ntmps16
 go_wp2_with fail
 refine HI.out.mono ?_;rintro e w2 ⟨rfl,hb2⟩;have HB2:=Hd hb2;clear hb2
 cases ha:l.any f with
 | true=>
  rw [ha] at HA;have d0:decide ((0:Int)≤findI f l 0)=true:=HA.out
  go_wp2_with fail
  go_ret
  exact⟨ret_bool ha.symm,HB2.out⟩
 | false=>
  rw [ha] at HA;have d0:decide ((0:Int)≤findI f l 0)=false:=HA.out
  go_wp2_with fail
  go_ret
  exact⟨ret_bool ha.symm,HB2.out⟩
def PredQn(g:Nat) (lb:Array Value) (f:Qn→Bool) (l:List Qn) (w:World):Prop:=
 ∀ x,x∈l→∀ (B:Option Addr) (c:Nat) (A:Option Addr) (ca:Nat) (D:Option Addr) (cb:Nat) (W:World),Below w.heap.size w W→RdT W B x.ns.length x.ns∧rdX W x.x A D →
  Calls Tryz.prog g (#[.agg (qnA x B c A ca D cb)]++lb) W fun e w'=>e=.returned (.bool (f x))∧Below W.heap.size W w'
theorem slIndexQn(g:Nat) (lb:Array Value) (eg:∀ args w,(callFunc g args).run Tryz.prog w=.ok (.enter g args) w) (f:Qn→Bool) (A:Option Addr) (n c:Nat) (l:List Qn) (w:World) (h:RdQ w A n l) (hf:PredQn g lb f l w):
 Calls Tryz.prog 18 #[.slice A n c,.func (.func g) #[] lb] w fun e w'=>e=.returned (.int .i64 (findI f l 0))∧Below w.heap.size w w':=by
 have HR:=Hd h;have HP:=Hd hf;have hln:=RdS.len h;have hmx:=RdS.max h;have HHIT:=Hd (fun(k:Nat) hk hn hy=>show findI f l 0=(k:Int) by have:=findI_hit (l:=l) (f:=f) (k:=k) (i:=0) hk hn hy;rwa [Nat.zero_add] at this);have HNO:=Hd (fun hn=>show findI f l 0=-1 from findI_none (l:=l) (f:=f) (i:=0) hn);generalize findI f l 0=out at *;have HLN:=Hd hln;clear h hf hln;unfold PredQn at HP
 go_enter Tryz.func18,Tryz.ntmps18
 go_wp2_with fail
 go_loopw [5,8] (fun _ i wr=>∃ k:Nat,k≤n∧i=.int .i64 k∧(∀ j,j<k→f (l[j]?.getD default)=false)∧Below w.heap.size w wr) (fun _ i _=>n-(intOf i).toNat)
 case atStart=>exact⟨0,Nat.zero_le _,rfl,fun j hj=>absurd hj (by omega),Below.refl _ _⟩
 case round=>
  obtain⟨k,hk,rfl,hto,hnx⟩:=hrel;have HT:=Hd hto;have HNX:=Hd hnx;clear hto
  by_cases hlt:k<n
  · obtain⟨b,off,B,cB,A1,ca,D,cb,rfl,hb,hrd,d0,d1,d2,d3,d4,d5,d6⟩:=qn_at (HR.out.below hnx) hlt;have HCL:=Hd (HP.out _ (getD_memA (by rw [HLN.out];exact hlt)) B cB A1 ca D cb wr hnx hrd);have HH:=Hd (HHIT.out k (by rw [HLN.out];exact hlt) HT.out);have HS:=Hd fun(hf:f (l[k]?.getD default)=false)=>to_next (P:=fun j=>f (l[j]?.getD default)=false) HT.out hf;clear hnx  hrd;unfold qnA at HCL;generalize l[k]?.getD default=x at d0 d1 d2 d3 d4 d5 d6 HCL HH HS
    cases hq:f x with
    | true=>
     have HO:=Hd (HH.out hq);rw [hq] at HCL
     go_wp2_with (go_at_fn g;refine HCL.out.mono ?_;rintro e w3 ⟨rfl,hb3⟩)
     go_ret
     exact⟨ret_int HO.out.symm,HNX.out.trans (hb3.mono HNX.out.size)⟩
    | false=>
     have HO:=Hd (HS.out hq);rw [hq] at HCL
     go_wp2_with (go_at_fn g;refine HCL.out.mono ?_;rintro e w3 ⟨rfl,hb3⟩;have HB3:=Hd (HNX.out.trans (hb3.mono HNX.out.size));clear hb3)
     go_roundw
     case rel=>exact⟨k+1,by omega,by go_num,HO.out,HB3.out⟩
     case measure=>simp [intOf];omega
  · have hkn:k=n:=by omega
    have HN:=Hd (HNO.out fun j hj=>HT.out j (by rw [HLN.out] at hj;omega))
    go_wp2_with fail
    go_ret
    exact⟨ret_int HN.out.symm,HNX.out⟩
theorem slHasQn(g:Nat) (lb:Array Value) (eg:∀ args w,(callFunc g args).run Tryz.prog w=.ok (.enter g args) w) (f:Qn→Bool) (A:Option Addr) (n c:Nat) (l:List Qn) (w:World) (h:RdQ w A n l) (hf:PredQn g lb f l w):
 Calls Tryz.prog 103 #[.slice A n c,.func (.func g) #[] lb] w fun e w'=>e=.returned (.bool (l.any f))∧Below w.heap.size w w':=by
 have HI:=Hd (slIndexQn g lb eg f A n c l w h hf);have HA:=Hd (findI_any f l);clear h hf
 go_enter Tryz.func103,Tryz.ntmps103
 go_wp2_with fail
 refine HI.out.mono ?_;rintro e w2 ⟨rfl,hb2⟩;have HB2:=Hd hb2;clear hb2
 cases ha:l.any f with
 | true=>
  rw [ha] at HA;have d0:decide ((0:Int)≤findI f l 0)=true:=HA.out
  go_wp2_with fail
  go_ret
  exact⟨ret_bool ha.symm,HB2.out⟩
 | false=>
  rw [ha] at HA;have d0:decide ((0:Int)≤findI f l 0)=false:=HA.out
  go_wp2_with fail
  go_ret
  exact⟨ret_bool ha.symm,HB2.out⟩
def PredT(g:Nat) (lb:Array Value) (f:ByteArray→Bool) (l:List ByteArray) (w:World):Prop:=
 ∀ x,x∈l→∀ (W:World),Below w.heap.size w W →
  Calls Tryz.prog g (#[.string x]++lb) W fun e w'=>e=.returned (.bool (f x))∧Below W.heap.size W w'
theorem slIndexT(g:Nat) (lb:Array Value) (eg:∀ args w,(callFunc g args).run Tryz.prog w=.ok (.enter g args) w) (f:ByteArray→Bool) (A:Option Addr) (n c:Nat) (l:List ByteArray) (w:World) (h:RdT w A n l) (hf:PredT g lb f l w):
 Calls Tryz.prog 167 #[.slice A n c,.func (.func g) #[] lb] w fun e w'=>e=.returned (.int .i64 (findI f l 0))∧Below w.heap.size w w':=by
 have HR:=Hd h;have HP:=Hd hf;have hln:=RdT.len h;have hmx:=RdT.max h;have HHIT:=Hd (fun(k:Nat) hk hn hy=>show findI f l 0=(k:Int) by have:=findI_hitS (l:=l) (f:=f) (k:=k) (i:=0) hk hn hy;rwa [Nat.zero_add] at this);have HNO:=Hd (fun hn=>show findI f l 0=-1 from findI_noneS (l:=l) (f:=f) (i:=0) hn);generalize findI f l 0=out at *;have HLN:=Hd hln;clear h hf hln;unfold PredT at HP
 go_enter Tryz.func167,Tryz.ntmps167
 go_wp2_with fail
 go_loopw [5,8] (fun _ i wr=>∃ k:Nat,k≤n∧i=.int .i64 k∧(∀ j,j<k→f (l[j]?.getD ByteArray.empty)=false)∧Below w.heap.size w wr) (fun _ i _=>n-(intOf i).toNat)
 case atStart=>exact⟨0,Nat.zero_le _,rfl,fun j hj=>absurd hj (by omega),Below.refl _ _⟩
 case round=>
  obtain⟨k,hk,rfl,hto,hnx⟩:=hrel;have HT:=Hd hto;have HNX:=Hd hnx;clear hto
  by_cases hlt:k<n
  · obtain⟨b,off,rfl,hb,hc⟩:=(HR.out.below hnx).at_ hlt;have d0:=hc k hlt;have HCL:=Hd (HP.out _ (getD_mem (by rw [HLN.out];exact hlt))  wr hnx);have HH:=Hd (HHIT.out k (by rw [HLN.out];exact hlt) HT.out);have HS:=Hd fun(hf:f (l[k]?.getD ByteArray.empty)=false)=>to_next (P:=fun j=>f (l[j]?.getD ByteArray.empty)=false) HT.out hf;clear hnx hc
    skip
    generalize l[k]?.getD ByteArray.empty=x at d0 HCL HH HS
    cases hq:f x with
    | true=>
     have HO:=Hd (HH.out hq);rw [hq] at HCL
     go_wp2_with (go_at_fn g;refine HCL.out.mono ?_;rintro e w3 ⟨rfl,hb3⟩)
     go_ret
     exact⟨ret_int HO.out.symm,HNX.out.trans (hb3.mono HNX.out.size)⟩
    | false=>
     have HO:=Hd (HS.out hq);rw [hq] at HCL
     go_wp2_with (go_at_fn g;refine HCL.out.mono ?_;rintro e w3 ⟨rfl,hb3⟩;have HB3:=Hd (HNX.out.trans (hb3.mono HNX.out.size));clear hb3)
     go_roundw
     case rel=>exact⟨k+1,by omega,by go_num,HO.out,HB3.out⟩
     case measure=>simp [intOf];omega
  · have hkn:k=n:=by omega
    have HN:=Hd (HNO.out fun j hj=>HT.out j (by rw [HLN.out] at hj;omega))
    go_wp2_with fail
    go_ret
    exact⟨ret_int HN.out.symm,HNX.out⟩
theorem slHasT(g:Nat) (lb:Array Value) (eg:∀ args w,(callFunc g args).run Tryz.prog w=.ok (.enter g args) w) (f:ByteArray→Bool) (A:Option Addr) (n c:Nat) (l:List ByteArray) (w:World) (h:RdT w A n l) (hf:PredT g lb f l w):
 Calls Tryz.prog 137 #[.slice A n c,.func (.func g) #[] lb] w fun e w'=>e=.returned (.bool (l.any f))∧Below w.heap.size w w':=by
 have HI:=Hd (slIndexT g lb eg f A n c l w h hf);have HA:=Hd (findI_any f l);clear h hf
 go_enter Tryz.func137,Tryz.ntmps137
 go_wp2_with fail
 refine HI.out.mono ?_;rintro e w2 ⟨rfl,hb2⟩;have HB2:=Hd hb2;clear hb2
 cases ha:l.any f with
 | true=>
  rw [ha] at HA;have d0:decide ((0:Int)≤findI f l 0)=true:=HA.out
  go_wp2_with fail
  go_ret
  exact⟨ret_bool ha.symm,HB2.out⟩
 | false=>
  rw [ha] at HA;have d0:decide ((0:Int)≤findI f l 0)=false:=HA.out
  go_wp2_with fail
  go_ret
  exact⟨ret_bool ha.symm,HB2.out⟩
end
section
open Go.RowKit Go.Sort
theorem tyRight(A:Option Addr) (n c:Nat) (k e l:Int) (w:World) (hn:n≤9223372036854775807):
 Calls Tryz.prog 99 #[.slice A n c,tyV k e l] w fun r w'=>r=.returned (.bool (rightB n k e l))∧Below w.heap.size w w':=by
 unfold tyV;have HB:=Hd ((Below.refl w.heap.size w).alloc (Nat.le_refl _) (.cells #[.int .i64 k,.int .i64 e,.int .i64 l] 41))
 by_cases h1:l<0
 · go_enter Tryz.func99,Tryz.ntmps99
   go_wp2_with fail
   go_ret
   exact⟨ret_bool (right_len (.inl h1)).symm,HB.out⟩
 · by_cases h2:8<l
   · go_enter Tryz.func99,Tryz.ntmps99
     go_wp2_with fail
     go_ret
     exact⟨ret_bool (right_len (.inr h2)).symm,HB.out⟩
   · have hl:0≤l∧l≤8:=by omega
     have HL:=Hd hl;clear hl
     by_cases k1:k=1
     · have HE:=Hd (right_base (n:=n) (e:=e) HL.out (.inl k1));subst k1
       go_enter Tryz.func99,Tryz.ntmps99
       go_wp2_with fail
       go_ret
       exact⟨ret_bool (by rw [HE.out,Bool.eq_iff_iff];simp),HB.out⟩
     · by_cases k2:k=2
       · have HE:=Hd (right_base (n:=n) (e:=e) HL.out (.inr k2));subst k2
         go_enter Tryz.func99,Tryz.ntmps99
         go_wp2_with fail
         go_ret
         exact⟨ret_bool (by rw [HE.out,Bool.eq_iff_iff];simp),HB.out⟩
       · by_cases k3:k=3
         · have HE:=Hd (right_enum (n:=n) (e:=e) HL.out k3);subst k3
           by_cases e0:0≤e
           all_goals
            go_enter Tryz.func99,Tryz.ntmps99
            go_wp2_with fail
            go_ret
            exact⟨ret_bool (by rw [HE.out,Bool.eq_iff_iff];simp;omega),HB.out⟩
         · have HE:=Hd (right_kind (n:=n) (e:=e) (l:=l) (by omega) k3);have b1:(k==1)=false:=by simpa using k1
           have b2:(k==2)=false:=by simpa using k2
           have b3:(k==3)=false:=by simpa using k3
           go_enter Tryz.func99,Tryz.ntmps99
           go_wp2_with fail
           go_ret
           exact⟨ret_bool HE.out.symm,HB.out⟩
theorem low_empty{s:ByteArray}(h:noB s=true):lowB s.data.toList=false:=by
 have h:s.data.toList=[]:=by simpa [noB] using h
 rw [h];rfl
def timedB(d:Dc):Bool:=if noB d.on then noB d.ct else lowB d.on.data.toList && armT d.ct
theorem decl_timed(n:Nat) (d:Dc):declB n rightB d=(lowB d.nm.data.toList && rightB n d.k d.e d.l && timedB d):=by
 unfold declB timedB
 cases h:noB d.on with
 | true=>rw [low_empty h];simp
 | false=>simp
theorem pgArm(s:ByteArray) (w:World) (hs:s.size≤9223372036854775807):
 Calls Tryz.prog 135 #[.string s] w fun e w'=>e=.returned (.bool (armT s))∧Below w.heap.size w w':=by
 have HH:=Hd (idHigh s w hs);have HE:=Hd (show armT s=(highB s.data.toList || (s.toList==[116,114,117,101]) || (s.toList==[102,97,108,115,101])) by rw [Lib.toList_data];rfl);generalize armT s=out at *;generalize highB s.data.toList=b at *
 cases b with
 | true=>
  go_enter Tryz.func135,Tryz.ntmps135
  go_wp2_with fail
  refine HH.out.mono ?_;rintro e w2 ⟨rfl,hb2⟩;have HB2:=Hd hb2;clear hb2
  go_wp2_with fail
  go_ret
  exact⟨ret_bool (by rw [HE.out];rfl),HB2.out⟩
 | false=>
  cases h1:(s.toList==[116,114,117,101]) with
  | true=>
   rw [h1] at HE
   go_enter Tryz.func135,Tryz.ntmps135
   go_wp2_with fail
   refine HH.out.mono ?_;rintro e w2 ⟨rfl,hb2⟩;have HB2:=Hd hb2;clear hb2
   go_wp2_with fail
   go_ret
   exact⟨ret_bool (by rw [HE.out];rfl),HB2.out⟩
  | false=>
   rw [h1] at HE
   cases h2:(s.toList==[102,97,108,115,101]) with
   | true=>
    rw [h2] at HE
    go_enter Tryz.func135,Tryz.ntmps135
    go_wp2_with fail
    refine HH.out.mono ?_;rintro e w2 ⟨rfl,hb2⟩;have HB2:=Hd hb2;clear hb2
    go_wp2_with fail
    go_ret
    exact⟨ret_bool (by rw [HE.out];rfl),HB2.out⟩
   | false=>
    rw [h2] at HE
    go_enter Tryz.func135,Tryz.ntmps135
    go_wp2_with fail
    refine HH.out.mono ?_;rintro e w2 ⟨rfl,hb2⟩;have HB2:=Hd hb2;clear hb2
    go_wp2_with fail
    go_ret
    exact⟨ret_bool (by rw [HE.out];rfl),HB2.out⟩
theorem pgTimed(d:Dc) (w:World) (ho:OkD d):
 Calls Tryz.prog 100 #[.agg (dcA d)] w fun e w'=>e=.returned (.bool (timedB d))∧Below w.heap.size w w':=by
 have HF:=Hd fun w1 hw=>dc_facts w d w1 hw;have HL:=Hd fun w1=>idLow d.on w1 (by have:=ho.2.1;unfold maxLen at this;omega);have HA:=Hd fun w1=>pgArm d.ct w1 (by have:=ho.2.2;unfold maxLen at this;omega);have HE:=Hd (show timedB d=if(d.on.toList==[]) then(d.ct.toList==[]) else lowB d.on.data.toList && armT d.ct by rw [Lib.toList_data,Lib.toList_data];rfl);clear ho;unfold dcA at HF ⊢;generalize timedB d=out at *;generalize lowB d.on.data.toList=lb at *;generalize armT d.ct=ab at *
 go_enter Tryz.func100,Tryz.ntmps100
 go_upto_region 1 with(fail)
 generalize hw1:w.alloc _=w1;obtain⟨hb1,hg,hcell⟩:=HF.out w1 hw1;have HB1:=Hd hb1;have HC:=Hd hcell;have q2:=hcell w1 (Below.refl _ _) 4;have q3:=hcell w1 (Below.refl _ _) 5;simp only [Ya,Yb,Yc] at q2 q3;clear hw1 hcell hb1 HF
 cases h1:(d.on.toList==[]) with
 | true=>
  rw [h1,if_pos rfl] at HE;generalize hc:(d.ct.toList==[])=cb at *
  go_wp2_with fail
  go_ret
  exact⟨ret_bool HE.out.symm,HB1.out⟩
 | false=>
  rw [h1,if_neg (by simp)] at HE
  cases lb with
  | false=>
   go_wp2_with fail
   refine(HL.out w1).mono ?_;rintro e w2 ⟨rfl,hb2⟩;have HB2:=Hd (HB1.out.trans (hb2.mono HB1.out.size));clear hb2 q2 q3
   go_wp2_with fail
   go_ret
   exact⟨ret_bool HE.out.symm,HB2.out⟩
  | true=>
   go_wp2_with fail
   refine(HL.out w1).mono ?_;rintro e w2 ⟨rfl,hb2⟩;have HB2:=Hd (HB1.out.trans (hb2.mono HB1.out.size));have p3:=HC.out w2 hb2 5;simp only [Ya,Yb,Yc] at p3;clear hb2 q2 q3
   go_wp2_with fail
   refine(HA.out w2).mono ?_;rintro e w3 ⟨rfl,hb3⟩;have HB3:=Hd (HB2.out.trans (hb3.mono HB2.out.size));clear hb3 p3
   go_wp2_with fail
   go_ret
   exact⟨ret_bool HE.out.symm,HB3.out⟩
end
section
open Go.RowKit Go.Sort
theorem pgVar(d:Dc) (be:Nat) (E:Option Addr) (ne ec:Nat) (w:World) (ho:OkD d) (hn:ne≤9223372036854775807) (he:w.cell? ⟨be,0,none⟩=some (.slice E ne ec)):
 Calls Tryz.prog 97 #[.agg (dcA d),.pointer (some ⟨be,0,none⟩)] w fun e w'=>e=.returned (.bool (!declB ne rightB d))∧Below w.heap.size w w':=by
 have HF:=Hd fun w1 hw=>dc_facts w d w1 hw;have HL:=Hd fun w1=>idLow d.nm w1 (by have:=ho.1;unfold maxLen at this;omega);have HR:=Hd fun w1=>tyRight E ne ec d.k d.e d.l w1 hn;have HT:=Hd fun w1=>pgTimed d w1 ho;have HE:=Hd (decl_timed ne d);have HBE:=Hd (World.block_lt_of_cell? _ _ he);have HCE:=Hd he;clear ho he;unfold dcA at HF HT ⊢;unfold tyV at HR;generalize declB ne rightB d=out at *;generalize lowB d.nm.data.toList=lb at *;generalize rightB ne d.k d.e d.l=rb at *;generalize timedB d=tb at *
 go_enter Tryz.func97,Tryz.ntmps97
 go_upto_region 1 with(fail)
 generalize hw1:w.alloc _=w1;obtain⟨hb1,hg,hcell⟩:=HF.out w1 hw1;have HB1:=Hd hb1;have HC:=Hd hcell;have q0:=hcell w1 (Below.refl _ _) 0;simp only [Ya,Yb,Yc] at q0;clear hw1 hcell hb1 HF
 cases lb with
 | false=>
  go_wp2_with fail
  refine(HL.out w1).mono ?_;rintro e w2 ⟨rfl,hb2⟩;have HB2:=Hd (HB1.out.trans (hb2.mono HB1.out.size));clear hb2 q0
  go_wp2_with fail
  go_ret
  exact⟨ret_bool (by rw [HE.out];rfl),HB2.out⟩
 | true=>
  go_wp2_with fail
  refine(HL.out w1).mono ?_;rintro e w2 ⟨rfl,hb2⟩;have HB2:=Hd (HB1.out.trans (hb2.mono HB1.out.size));obtain⟨-,p1,p2,p3,-,-⟩:=Sx (HC.out w2 hb2);simp only [Ya,Yb,Yc] at p1 p2 p3;have pe:=(HB2.out.cell (p:=⟨be,0,none⟩) HBE.out).trans HCE.out;have HW2:=Hd hb2;clear hb2 q0
  cases rb with
  | false=>
   go_wp2_with fail
   refine(HR.out w2).mono ?_;rintro e w3 ⟨rfl,hb3⟩;have HB3:=Hd (HB2.out.trans (hb3.mono HB2.out.size));clear hb3 p1 p2 p3 pe
   go_wp2_with fail
   go_ret
   exact⟨ret_bool (by rw [HE.out];rfl),HB3.out⟩
  | true=>
   go_wp2_with fail
   refine(HR.out w2).mono ?_;rintro e w3 ⟨rfl,hb3⟩;have HB3:=Hd (HB2.out.trans (hb3.mono HB2.out.size));have hw3:=HW2.out.trans (hb3.mono HW2.out.size);obtain⟨s0,s1,s2,s3,s4,s5⟩:=Sx (HC.out w3 hw3);simp only [Ya,Yb,Yc] at s0 s1 s2 s3 s4 s5;clear hb3 p1 p2 p3 pe hw3
   go_wp2_with fail
   refine(HT.out w3).mono ?_;rintro e w4 ⟨rfl,hb4⟩;have HB4:=Hd (HB3.out.trans (hb4.mono HB3.out.size));clear hb4 s0 s1 s2 s3 s4 s5;generalize hnt:(!tb)=nt at *
   cases nt with
   | true=>
    go_wp2_with fail
    go_ret
    exact⟨ret_bool (by rw [HE.out];simpa using hnt.symm),HB4.out⟩
   | false=>
    go_wp2_with fail
    go_ret
    exact⟨ret_bool (by rw [HE.out];simpa using hnt.symm),HB4.out⟩
theorem pgPort(d:Dc) (bv be:Nat) (E:Option Addr) (ne ec:Nat) (w:World) (ho:OkD d) (hn:ne≤9223372036854775807) (he:w.cell? ⟨be,0,none⟩=some (.slice E ne ec))
 (hv:w.cell? ⟨bv,0,none⟩=some (.func (.func 97) #[] #[.pointer (some ⟨be,0,none⟩)])):
 Calls Tryz.prog 101 #[.agg (dcA d),.pointer (some ⟨bv,0,none⟩)] w fun e w'=>e=.returned (.bool (!(declB ne rightB d && noB d.on)))∧Below w.heap.size w w':=by
 have HF:=Hd fun w1 hw=>dc_facts w d w1 hw;have HV:=Hd fun w1 (hb:Below w.heap.size w w1)=>pgVar d be E ne ec w1 ho hn ((hb.cell (p:=⟨be,0,none⟩) (World.block_lt_of_cell? _ _ he)).trans he);have HE:=Hd (show noB d.on=(d.on.toList==[]) by rw [Lib.toList_data];rfl);have HBV:=Hd (World.block_lt_of_cell? _ _ hv);have HCV:=Hd hv;clear ho he hv;unfold dcA at HF HV ⊢;rw [HE.out];clear HE;generalize declB ne rightB d=db at *
 go_enter Tryz.func101,Tryz.ntmps101
 go_upto_region 1 with(fail)
 generalize hw1:w.alloc _=w1;obtain⟨hb1,hg,hcell⟩:=HF.out w1 hw1;have HB1:=Hd hb1;have HC:=Hd hcell;have HV1:=Hd (HV.out w1 hb1);have qv:=(hb1.cell (p:=⟨bv,0,none⟩) HBV.out).trans HCV.out;obtain⟨q0,q1,q2,q3,q4,q5⟩:=Sx (hcell w1 (Below.refl _ _));simp only [Ya,Yb,Yc] at q0 q1 q2 q3 q4 q5;clear hw1 hcell hb1 HF HV
 cases db with
 | false=>
  go_wp2_with fail
  refine HV1.out.mono ?_;rintro e w2 ⟨rfl,hb2⟩;have HB2:=Hd (HB1.out.trans (hb2.mono HB1.out.size));clear hb2 q0 q1 q2 q3 q4 q5 qv
  go_wp2_with fail
  go_ret
  exact⟨rfl,HB2.out⟩
 | true=>
  go_wp2_with fail
  refine HV1.out.mono ?_;rintro e w2 ⟨rfl,hb2⟩;have HB2:=Hd (HB1.out.trans (hb2.mono HB1.out.size));have p4:=HC.out w2 hb2 4;simp only [Ya,Yb,Yc] at p4;clear hb2 q0 q1 q2 q3 q4 q5 qv;have hne:(d.on.toList != [])=!(d.on.toList==[]):=rfl
  cases h1:(d.on.toList==[]) with
  | true=>
   rw [h1] at hne
   go_wp2_with fail
   go_ret
   exact⟨ret_bool (by rw [h1];rfl),HB2.out⟩
  | false=>
   rw [h1] at hne
   go_wp2_with fail
   go_ret
   exact⟨ret_bool (by rw [h1];rfl),HB2.out⟩
end
end Go.Proofs.YtkbpdoomhfkngaaGreat
