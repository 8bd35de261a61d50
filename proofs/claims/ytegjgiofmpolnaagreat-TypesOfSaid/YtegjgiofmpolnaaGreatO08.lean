/- Parts of the proof: TyN, TyP, TyQ, TyS, TyL, ArT, ArU, TrO, TyZ. Conditions: each theorem's own. -/
import Derived.RangeFuncBox
import Derived.Sort.Grow
import Derived.Laws.ResultCell
import Derived.Laws.Rows
import Derived.Test.YtegjgiofmpolnaaGreatO03
import Derived.Test.YtegjgiofmpolnaaGreatO06
namespace Go.Proofs.YtegjgiofmpolnaaGreat
set_option linter.unusedVariables false
set_option linter.unusedSimpArgs false
set_option maxRecDepth 100000
set_option maxHeartbeats 40000000
section
open Go.RowKit Go.Shelf
attribute [local go_sem] Oper.semAt_some
def enB(e:En):Bool:=lowB e.1.data.toList && !e.2.isEmpty
def hiB(s:ByteArray):Bool:=highB s.data.toList
def namedB(es:List En):Bool:=es.all enB && (allE es).all hiB
def namedTo(es:List En) (k:Nat):Prop:=∀ j,j<k→lowB (nmE es j).data.toList=true∧0<(csE es j).length
section
variable {es:List En}{k:Nat}
theorem en_at(h:k<es.length):es[k]'h=(nmE es k,csE es k):=by
 simp [nmE,csE,List.getElem?_eq_getElem h]
theorem enB_at(h:k<es.length):enB (es[k]'h)=(lowB (nmE es k).data.toList && decide (0<(csE es k).length)):=by
 rw [en_at h];unfold enB
 cases csE es k <;> simp
theorem named_bad(h:k<es.length) (hb:lowB (nmE es k).data.toList=false∨(csE es k).length=0):namedB es=false:=by
 have:es.all enB=false:=by
  rw [List.all_eq_false];refine⟨es[k]'h,List.getElem_mem h,?_⟩;rw [enB_at h];rcases hb with h | h <;> simp [h]
 unfold namedB;rw [this,Bool.false_and]
theorem namedTo_all(H:namedTo es k) (h:es.length≤k):es.all enB=true:=by
 rw [List.all_eq_true];intro e he;obtain⟨j,hj,rfl⟩:=List.getElem_of_mem he;have:=H j (by omega);rw [enB_at hj,this.1,decide_eq_true this.2];rfl
theorem namedTo_succ(H:namedTo es k) (h1:lowB (nmE es k).data.toList=true) (h2:0<(csE es k).length):namedTo es (k+1):=fun j hj=>by
 rcases Nat.lt_or_ge j k with h | h
 · exact H j h
 · obtain rfl:j=k:=by omega
   exact⟨h1,h2⟩
theorem EsOk.flat(h:EsOk es):∀ p∈flatE es,p.2.2.size≤maxLen:=by
 intro p hp;have h1:p.2.2∈namesTo es es.length:=List.mem_map.2 ⟨p,hp,rfl⟩;obtain⟨j,hj,hm⟩:=namesTo_mem h1;exact(h j hj).2 _ hm
end
end
section
open Go.RowKit Go.Shelf
attribute [local go_sem] Oper.semAt_some
def nmsE(es:List En):List ByteArray:=es.map (·.1)
def apartB(es:List En):Bool:=onceS (nmsE es) && onceS (allE es)
def EsFew(es:List En):Prop:=es.length≤8∧∀ j,j<es.length→(csE es j).length≤12
section
variable {es:List En}
theorem EsFew.flat(h:EsFew es):(flatE es).length≤96:=by
 have h1:=namesTo_len (es:=es) (i:=es.length) h.2;have h2:(namesTo es es.length).length=(flatE es).length:=by simp [namesTo,flatE]
 have:=h.1;omega
theorem EsOk.all(h:EsOk es):∀ s∈allE es,s.size≤maxLen:=by
 intro s hs;obtain⟨p,hp,rfl⟩:=List.mem_map.1 hs;exact h.flat p hp
theorem nmsE_len:(nmsE es).length=es.length:=by simp [nmsE]
theorem nmsE_succ{k:Nat}(h:k<es.length):(nmsE es).take (k+1)=(nmsE es).take k++[nmE es k]:=by
 rw [take_snocT (by rw [nmsE_len];exact h)];unfold nmsE;rw [nm_map]
end
end
section
open Go.RowKit
def manyB(es:List En):Bool:=decide (4<es.length) || es.any fun e=>decide (6<e.2.length)
def fewTo(es:List En) (k:Nat):Prop:=∀ j,j<k→(csE es j).length≤6
def enumsN(es:List En):Int:=if manyB es then 4 else if namedB es then(if apartB es then 0 else 6) else 1
section
variable {es:List En}{k:Nat}
theorem many_at(h:k<es.length) (hb:6<(csE es k).length):manyB es=true:=by
 unfold manyB;rw [Bool.or_eq_true,List.any_eq_true];refine .inr ⟨es[k]'h,List.getElem_mem h,?_⟩;rw [en_at h];exact decide_eq_true hb
theorem many_no(h4:es.length≤4) (H:fewTo es k) (h:es.length≤k):manyB es=false:=by
 unfold manyB;rw [Bool.or_eq_false_iff,List.any_eq_false];refine⟨decide_eq_false (by omega),fun e he=>?_⟩;obtain⟨j,hj,rfl⟩:=List.getElem_of_mem he;have:=H j (by omega);rw [en_at hj];simp only [decide_eq_true_eq];omega
theorem fewTo_succ(H:fewTo es k) (h:(csE es k).length≤6):fewTo es (k+1):=fun j hj=>by
 rcases Nat.lt_or_ge j k with h1 | h1
 · exact H j h1
 · obtain rfl:j=k:=by omega
   exact h
end
end
section
open Go.RowKit
theorem RdT.news{w:World}{a:Addr}{n:Nat}{l:List ByteArray}(h:RdT w (some a) n l) (j:Nat) (u:Value) (hu:(l.map Value.string)[j]?=some u):w.cell? (a.add j)=some u:=by
 have hj:j<l.length:=by
  rcases Nat.lt_or_ge j l.length with h | h
  · exact h
  · rw [List.getElem?_eq_none (by simpa using h)] at hu;cases hu
 obtain⟨b,off,e,_,hc⟩:=h.at_ (i:=j) (by rw [← h.len];exact hj);injection e with e;subst e;have:=hc j (by rw [← h.len];exact hj);have e2:(⟨b,off,none⟩:Addr).add j=⟨b,off+j,none⟩:=by unfold Addr.add;split <;> simp_all
 rw [e2,this,← hu]
 simp [List.getElem?_eq_getElem hj]
section
variable {P:Program}{w:World}
theorem wpList_append_rdT{ops:Array Oper}{rest:List Oper}{o:Oper}{a:Act}{Q:Exit→Act→World→Prop}(hgd:o.guard=none) (s x:Operand) (t:TypeId)
 (ho:o.op=.call { callee:=.builtin .append,args:=#[s,x],argTypes:=#[t,t] })
 (base:Nat) (e:TypeId) (i:TypeInfo) (z:Value) (bytes:Nat) (ht:P.underlying t=some (.slice e)) (hi:P.info? e=some i) (hz:i.zero=some z)
 (hsize:i.size=1) (hby:i.bytes=bytes) (hzs:z.cells.size=1)
 (v:Value) (n:Nat) (xs:List ByteArray) (hs:a.eval s=v) (hown:w.ownsRow base e 1 v n (xs.map Value.string))
 (A:Option Addr) (m c:Nat) (l:List ByteArray) (hx:a.eval x=.slice A m c) (hr:RdT w A m l)
 (h63:n+m≤maxLen) (hbytes:(n+m)*bytes≤140737488355328) (hbase:base≤w.heap.size)
 (h:∀ v' w',w'.ownsRow base e 1 v' (n+m) ((xs++l).map Value.string)→w.grownBy w' v.ownBlock→(v'.ownBlock=v.ownBlock∨v'.ownBlock=some w.heap.size)→wpList P ops Q rest (a.put o.dst v') w'):wpList P ops Q (o::rest) a w:=by
 rcases A with _ | ad
 · obtain rfl:m=0:=by
    rcases Nat.eq_zero_or_pos m with h0 | h0
    · exact h0
    · obtain⟨b,off,e,_⟩:=hr.at_ h0;cases e
   obtain rfl:l=[]:=List.eq_nil_of_length_eq_zero hr.len;refine wpList_plain hgd fun K hK=>?_;have hrun:=run_append_nil (P:=P) (w:=w) base t o.type e i 1 ht hi v n _ hown c;unfold Oper.wp
   simp [execOp,ho,resolve,invoke,builtin,hs,hx,hrun,Result.andThen]
   exact hK _ _ (h v w (by simpa using hown) (World.grownBy.refl w _) (.inl rfl))
 · exact wpList_append_own_at w hgd s x t ho base e i z 1 bytes ht hi hz hsize hby hzs (by decide) v n _ hs hown ad m c (l.map Value.string) hx (by simp [hr.len]) hr.news (string_cells _) h63 hbytes hbase fun v' w' h1 h2 _ h4=>h v' w' (by rw [List.map_append];exact h1) h2 h4
end
def Apt(u v:Value):Prop:=∀ g,u.ownBlock=some g→v.ownBlock≠some g
theorem Apt.kept1{u v v':Value}{n:Nat}(h:Apt u v) (hl:v'.ownBlock=v.ownBlock∨v'.ownBlock=some n) (hu:∀ g,u.ownBlock=some g→g<n):Apt u v':=fun g hg e=>by
 rcases hl with h1 | h1
 · exact h g hg (h1 ▸ e)
 · have:=hu g hg;rw [h1] at e
   cases e
   omega
theorem Apt.symm{u v:Value}(h:Apt u v):Apt v u:=fun g hg e=>h g e hg
theorem Apt.ne{u v:Value}(h:Apt u v):u.ownBlock=none∨u.ownBlock≠v.ownBlock:=by
 rcases hub:u.ownBlock with _ | g
 · exact .inl rfl
 · exact .inr fun e=>h g hub e.symm
theorem refEnums(A:Option Addr) (len cap:Nat) (es:List En) (w:World) (hE:RdE w A len es) (hok:EsOk es) (hfew:EsFew es):
 Calls Tryz.prog 16 #[.slice A len cap] w fun e w'=>e=.returned (.int .i64 (enumsN es))∧Below w.heap.size w w':=by
 have hlen:=hE.len;have hmx:=hE.max
 by_cases h4:4<len
 · have hN:=Hd (show(4:Int)=enumsN es by simp [enumsN,manyB,hlen,h4])
   go_enter Tryz.func16,Tryz.ntmps16
   go_wp2_with fail
   go_ret
   exact⟨ret_int hN.out,((Below.refl _ _).alloc (Nat.le_refl _) _).alloc (by simp) _⟩
 · have hd4:decide ((4:Int)<(len:Int))=false:=decide_eq_false (by omega);obtain⟨i0,hi,hz0,hz1,hz2⟩:=info_parts infoString;have hr3:=Hd ((World.ownsRow_lit (base:=w.heap.size) (e:=9) (size:=1) w #[] 0 (Nat.le_refl _) (by decide) rfl).alloc (.cells #[] 9));have hr4:=Hd (World.ownsRow_lit (base:=w.heap.size) (e:=9) (size:=1) (w.alloc (.cells #[] 9)) #[] 0 (by simp) (by decide) rfl);have HB0:=Hd (((Below.refl w.heap.size w).alloc (Nat.le_refl _) (.cells #[] 9)).alloc (by simp) (.cells #[] 9))
   go_enter Tryz.func16,Tryz.ntmps16
   go_wp2_with fail
   go_loopw [3,4,5] (fun v u i wr=>∃ k:Nat,k≤len∧i=.int .i64 k∧fewTo es k∧wr.ownsRow w.heap.size 9 1 v k (((nmsE es).take k).map Value.string)∧wr.ownsRow w.heap.size 9 1 u (namesTo es k).length ((namesTo es k).map Value.string)∧Apt v u∧Below w.heap.size w wr) (fun _ _ i _=>len-(intOf i).toNat)
   case atStart=>
    refine⟨0,Nat.zero_le _,rfl,fun j hj=>absurd hj (by omega),hr3.out,?_,?_,HB0.out⟩
    · have:=hr4.out
      simpa [namesTo,flatTo] using this
    · intro g hg e
      simp [Value.ownBlock] at hg e
      omega
   case round=>
    obtain⟨k,hk,rfl,hto,hrw3,hrw4,hapt,hnx⟩:=hrel;have HT:=Hd hto;clear hto
    by_cases hlt:k<len
    · obtain⟨b,off,rfl,hb,hc⟩:=hE.at_ hlt;obtain⟨hn0,A',n',c',hs0,hR0⟩:=hc k hlt;have hn1:wr.cell? ⟨b,off+k*2,none⟩=some (.string (nmE es k)):=(hnx.cell (p:=⟨b,off+k*2,none⟩) hb).trans hn0;have hs1:wr.cell? ⟨b,off+k*2+1,none⟩=some (.slice A' n' c'):=(hnx.cell (p:=⟨b,off+k*2+1,none⟩) hb).trans hs0;have hkl:k<es.length:=by omega
      have hcl:=hR0.len;have hcm:=hR0.max
      by_cases h6:6<n'
      · have HE:=Hd (show(4:Int)=enumsN es by simp [enumsN,many_at hkl (show 6<(csE es k).length by omega)])
        go_wp2_with fail
        go_ret
        exact⟨ret_int HE.out,hnx⟩
      · have HN:=Hd (fewTo_succ HT.out (show(csE es k).length≤6 by omega));have hd6:decide ((6:Int)<(n':Int))=false:=decide_eq_false (by omega);have hNM:=Hd (nmsE_succ hkl);have hCT:=Hd (namesTo_succ es k);have hns:=namesTo_len (es:=es) (i:=k) fun j hj=>hfew.2 j (by omega);generalize hxn:nmE es k=x at hn1 hNM;have HRD:=Hd hR0;have HSL:=Hd hs0;have HNX:=Hd hnx;have H3:=Hd hrw3;have H4:=Hd hrw4;have HA:=Hd hapt;have hwz:=hnx.size;clear hrw3 hrw4 hapt hR0 hr3 hr4 HB0
        go_wp2_with (first
         | (at_builtin;refine wpList_append_own_at _ rfl _ _ 32 rfl w.heap.size 9 i0 (.string ByteArray.empty) 1 16 Tryz.underlying32 hi hz0 hz1 hz2 rfl (by decide) _ _ _ rfl (H3.out.alloc _) ⟨wr.heap.size,0,none⟩ 1 1 [.string x] rfl rfl (cell_one_new _ _ _) (string_cells [x]) (by unfold maxLen;omega) (by omega) (by simp;omega) ?_;intro v' w1 hown' hgrow hnil hloc;have hB1:=(HNX.out.alloc hwz (.cells #[.string x] 9)).grown hgrow (by simp;omega) (fun j hj=>(H3.out.lt j hj).1);have hs1:w1.cell? ⟨b,off+k*2+1,none⟩=some (.slice A' n' c'):=(hB1.cell (p:=⟨b,off+k*2+1,none⟩) hb).trans HSL.out;have HG:=Hd hgrow;have HO:=Hd hown';have HL:=Hd hloc;have HB1:=Hd hB1;have hw1:=hB1.size;have hg1:=hgrow.size;simp at hg1;clear hgrow hown' hnil hloc hB1;have HR1:=Hd (HRD.out.keep HB1.out.size fun p hp=>HB1.out.cell hp);have H41:=Hd ((H4.out.alloc (.cells #[.string x] 9)).kept HG.out HA.out.symm.ne))
         | (at_builtin;refine wpList_append_rdT rfl _ _ 32 rfl w.heap.size 9 i0 (.string ByteArray.empty) 16 Tryz.underlying32 hi hz0 hz1 hz2 rfl _ _ (namesTo es k) rfl H41.out A' n' c' (csE es k) rfl HR1.out (by unfold maxLen;omega) (by omega) (by omega) ?_;intro v2 w2 hown2 hgrow2 hloc2;have HG2:=Hd hgrow2;have HO2:=Hd hown2;have HL2:=Hd hloc2;clear hgrow2 hown2 hloc2))
        have HAP:=Hd (Apt.kept1 (Apt.kept1 HA.out.symm HL.out (fun g hg=>by have:=(H4.out.lt g hg).2;simp;omega)).symm HL2.out (fun g hg=>(HO.out.lt g hg).2))
        go_roundw
        case rel=>
         refine⟨k+1,by omega,by go_num,HN.out,?_,?_,HAP.out,?_⟩
         · rw [hNM.out,List.map_append];exact HO.out.kept HG2.out (Apt.ne (Apt.kept1 HA.out.symm HL.out (fun g hg=>by have:=(H4.out.lt g hg).2;simp;omega)).symm)
         · rw [hCT.out,List.length_append,hcl];exact HO2.out
         · exact HB1.out.grown HG2.out (by omega) (fun j hj=>(H41.out.lt j hj).1)
        case measure=>simp [intOf];omega
    · obtain rfl:k=len:=by omega
      have hmany:=many_no (by omega) HT.out (by omega);have hnm:(nmsE es).take k=nmsE es:=List.take_of_length_le (by rw [nmsE_len];omega);have hct:namesTo es k=allE es:=by rw [← hlen];exact namesTo_end es
      have hcl:(allE es).length≤96:=by have:=hfew.flat;simpa [allE] using this
      rw [hnm] at hrw3;rw [hct] at hrw4;obtain⟨A1,c1,rfl,hR1,_⟩:=RdT.of_own hrw3 (by omega);obtain⟨A2,c2,rfl,hR2,_⟩:=RdT.of_own hrw4 (by omega);have hEr:=hE.below hnx;have HEB:=Hd hEr;have HR1:=Hd hR1;have HR2:=Hd hR2;have HNX:=Hd hnx;have HMANY:=Hd hmany;clear hrw3 hrw4 hR1 hR2 hapt hr3 hr4 HB0 hnm hct hmany hnx hE hEr
      go_wp2_with fail
      go_loopw [6] (fun i wq=>∃ j:Nat,j≤k∧i=.int .i64 j∧namedTo es j∧Below wr.heap.size wr wq) (fun i _=>k-(intOf i).toNat)
      case atStart=>exact⟨0,Nat.zero_le _,rfl,fun j hj=>absurd hj (by omega),Below.refl _ _⟩
      case round=>
       obtain⟨j,hj,rfl,hto,hbq⟩:=hrel;have HTO:=Hd hto;have HBQ:=Hd hbq;clear hto
       by_cases hjk:j<k
       · obtain⟨b,off,rfl,hb,hc⟩:=(HEB.out.below hbq).at_ hjk;obtain⟨hn0,A',n',c',hs0,hR0⟩:=hc j hjk;have hkl:j<es.length:=by omega
         have hcl:=hR0.len;have hcm:=hR0.max;have HBAD:=Hd fun h=>named_bad hkl h;have HNXT:=Hd fun h1 h2=>namedTo_succ HTO.out h1 h2;have hzl:=(hok j hkl).1;unfold maxLen at hzl;clear hc hbq;generalize hxn:nmE es j=x at hn0 hzl HBAD HNXT
         by_cases hlow:lowB x.data.toList=true
         · rcases Nat.eq_zero_or_pos n' with hz | hz
           · have HE:=Hd (show(1:Int)=enumsN es by simp [enumsN,HMANY.out,HBAD.out (.inr (by omega))]);subst hz
             go_wp2_with fail
             refine(refLow x _ (by omega)).mono ?_;rw [hlow];rintro e w3 ⟨rfl,hb3⟩;have hs3:=(hb3.cell (p:=⟨b,off+j*2+1,none⟩) hb).trans hs0;have HB3:=Hd (below_trans2 (HNX.out.trans (HBQ.out.mono HNX.out.size)) (hb3.mono (Nat.le_refl _)));clear hb3
             go_wp2_with fail
             go_ret
             exact⟨ret_int HE.out,HB3.out⟩
           · have HN:=Hd (HNXT.out hlow (by omega));have hnz:((n':Int)==0)=false:=by rw [beq_eq_false_iff_ne];omega
             go_wp2_with fail
             refine(refLow x _ (by omega)).mono ?_;rw [hlow];rintro e w3 ⟨rfl,hb3⟩;have hs3:=(hb3.cell (p:=⟨b,off+j*2+1,none⟩) hb).trans hs0;have HB3:=Hd (HBQ.out.trans (hb3.mono HBQ.out.size));clear hb3
             go_wp2_with fail
             go_roundw
             case rel=>exact⟨j+1,by omega,by go_num,HN.out,HB3.out⟩
             case measure=>simp [intOf];omega
         · have hlow:lowB x.data.toList=false:=by simpa using hlow
           have HE:=Hd (show(1:Int)=enumsN es by simp [enumsN,HMANY.out,HBAD.out (.inl hlow)])
           go_wp2_with fail
           refine(refLow x _ (by omega)).mono ?_;rw [hlow];rintro e w3 ⟨rfl,hb3⟩;have HB3:=Hd (HNX.out.trans ((HBQ.out.trans (hb3.mono HBQ.out.size)).mono HNX.out.size));clear hb3
           go_wp2_with fail
           go_ret
           exact⟨ret_int HE.out,HB3.out⟩
       · obtain rfl:j=k:=by omega
         have HALL:=Hd (namedTo_all HTO.out (by omega));have HR1:=Hd (HR1.out.below HBQ.out);have HR2:=Hd (HR2.out.below HBQ.out);have HNX:=Hd (HNX.out.trans (HBQ.out.mono HNX.out.size));clear hbq HBQ HEB HTO
         go_wp2_with fail
         go_loopw [7] (fun i wq2=>∃ m:Nat,m≤(allE es).length∧i=.int .i64 m∧(∀ q,q<m→hiB ((allE es)[q]?.getD ByteArray.empty)=true)∧wq2=wr) (fun i _=>(allE es).length-(intOf i).toNat)
         case atStart=>exact⟨0,Nat.zero_le _,rfl,fun q hq=>absurd hq (by omega),rfl⟩
         case round=>
          obtain⟨m,hm,rfl,hhi,rfl⟩:=hrel;have HHI:=Hd hhi;clear hhi
          by_cases hmlt:m<(allE es).length
          · obtain⟨b,off,rfl,hb,hc⟩:=HR2.out.at_ hmlt;have hcm:=hc m hmlt;have hsz:=hok.all _ (show(allE es)[m]?.getD ByteArray.empty∈allE es by rw [List.getElem?_eq_getElem hmlt];exact List.getElem_mem _);unfold maxLen at hsz
            have HM:=Hd (show hiB ((allE es)[m]?.getD ByteArray.empty)=false→(allE es).all hiB=false from fun h=>by
             rw [List.all_eq_false];refine⟨_,List.getElem_mem hmlt,?_⟩;rw [List.getElem?_eq_getElem hmlt] at h
             simpa using h)
            have HS:=Hd (show hiB ((allE es)[m]?.getD ByteArray.empty)=true→∀ q,q<m+1→hiB ((allE es)[q]?.getD ByteArray.empty)=true from fun h q hq=>by
             rcases Nat.lt_or_ge q m with h1 | h1
             · exact HHI.out q h1
             · obtain rfl:q=m:=by omega
               exact h)
            clear hc;generalize (allE es)[m]?.getD ByteArray.empty=x at hcm hsz HM HS
            by_cases hhx:highB x.data.toList=true
            · have HS:=Hd (HS.out hhx)
              go_wp2_with fail
              refine(refHigh x _ (by omega)).mono ?_;rw [hhx];rintro e w3 ⟨rfl,rfl⟩
              go_wp2_with fail
              go_roundw
              case rel=>exact⟨m+1,by omega,by go_num,HS.out,(by first | trivial | rfl)⟩
              case measure=>simp [intOf];omega
            · have hhx:highB x.data.toList=false:=by simpa using hhx
              have HE:=Hd (show(1:Int)=enumsN es by simp [enumsN,HMANY.out,namedB,HM.out hhx])
              go_wp2_with fail
              refine(refHigh x _ (by omega)).mono ?_;rw [hhx];rintro e w3 ⟨rfl,rfl⟩
              go_wp2_with fail
              go_ret
              exact⟨ret_int HE.out,HNX.out⟩
          · have hnamed:namedB es=true:=by
             have h2:(allE es).all hiB=true:=by
              rw [List.all_eq_true];intro s hs;obtain⟨q,hq,rfl⟩:=List.getElem_of_mem hs;have:=HHI.out q (by omega);rwa [List.getElem?_eq_getElem hq] at this
             unfold namedB;rw [HALL.out,h2];rfl
            by_cases ho:onceS (nmsE es)=true
            · by_cases ho2:onceS (allE es)=true
              · have HE:=Hd (show(0:Int)=enumsN es by simp [enumsN,HMANY.out,hnamed,apartB,ho,ho2])
                go_wp2_with fail
                refine(refOnce A1 j c1 (nmsE es) _ HR1.out (by omega)).mono ?_;rw [ho];rintro e w3 ⟨rfl,p,rfl⟩
                go_wp2_with fail
                refine(refOnce A2 _ c2 (allE es) _ (HR2.out.drewN p) (by omega)).mono ?_;rw [ho2];rintro e w3 ⟨rfl,p2,rfl⟩
                go_wp2_with fail
                go_ret
                exact⟨ret_int HE.out,below_drewN HNX.out (p+p2)⟩
              · have ho2:onceS (allE es)=false:=by simpa using ho2
                have HE:=Hd (show(6:Int)=enumsN es by simp [enumsN,HMANY.out,hnamed,apartB,ho,ho2])
                go_wp2_with fail
                refine(refOnce A1 j c1 (nmsE es) _ HR1.out (by omega)).mono ?_;rw [ho];rintro e w3 ⟨rfl,p,rfl⟩
                go_wp2_with fail
                refine(refOnce A2 _ c2 (allE es) _ (HR2.out.drewN p) (by omega)).mono ?_;rw [ho2];rintro e w3 ⟨rfl,p2,rfl⟩
                go_wp2_with fail
                go_ret
                exact⟨ret_int HE.out,below_drewN HNX.out (p+p2)⟩
            · have ho:onceS (nmsE es)=false:=by simpa using ho
              have HE:=Hd (show(6:Int)=enumsN es by simp [enumsN,HMANY.out,hnamed,apartB,ho])
              go_wp2_with fail
              refine(refOnce A1 j c1 (nmsE es) _ HR1.out (by omega)).mono ?_;rw [ho];rintro e w3 ⟨rfl,p,rfl⟩
              go_wp2_with fail
              go_ret
              exact⟨ret_int HE.out,below_drewN HNX.out p⟩
end
section
open Go.RowKit
def tinyTo(es:List En) (k:Nat):Prop:=∀ j,j<k→(csE es j).length≤12∧(nmE es j).size≤100∧∀ q,q<(csE es j).length→(ctAt es j q).size≤100
def EsTiny(es:List En):Prop:=es.length≤8∧tinyTo es es.length
theorem EsTiny.few{es:List En}(h:EsTiny es):EsFew es:=⟨h.1,fun j hj=>(h.2 j hj).1⟩
theorem EsTiny.ok{es:List En}(h:EsTiny es):EsOk es:=fun j hj=>by
 have h1:=h.2 j hj;unfold maxLen;refine⟨by omega,fun s hs=>?_⟩;obtain⟨q,hq,rfl⟩:=List.getElem_of_mem hs;have:=h1.2.2 q hq;unfold ctAt at this;rw [List.getElem?_eq_getElem hq,Option.getD_some] at this;omega
theorem tinyTo_succ{es:List En}{k:Nat}(H:tinyTo es k) (h1:(csE es k).length≤12) (h2:(nmE es k).size≤100) (h3:∀ q,q<(csE es k).length→(ctAt es k q).size≤100):tinyTo es (k+1):=fun j hj=>by
 rcases Nat.lt_or_ge j k with h | h
 · exact H j h
 · obtain rfl:j=k:=by omega
   exact⟨h1,h2,h3⟩
def SmallPost(es:List En) (w:World) (e:Ending) (w':World):Prop:=∃ b,e=.returned (.bool b)∧(b=true→EsTiny es)∧w=w'
theorem small_no(es:List En) (w:World):SmallPost es w (.returned (.bool false)) w:=⟨false,rfl,fun h=>(by cases h),rfl⟩
theorem small_yes{es:List En}(h:EsTiny es) (w:World):SmallPost es w (.returned (.bool true)) w:=⟨true,rfl,fun _=>h,rfl⟩
theorem refEnSmall(A:Option Addr) (len cap:Nat) (es:List En) (w:World) (hE:RdE w A len es):
 Calls Tryz.prog 15 #[.slice A len cap] w (SmallPost es w):=by
 have hlen:=hE.len;have hmx:=hE.max
 by_cases h8:8<len
 · go_enter Tryz.func15,Tryz.ntmps15
   go_wp2_with fail
   go_ret
   exact small_no es w
 · have hd8:decide ((8:Int)<(len:Int))=false:=decide_eq_false (by omega)
   go_enter Tryz.func15,Tryz.ntmps15
   go_wp2_with fail
   go_loop [3] (fun i=>∃ k:Nat,k≤len∧i=.int .i64 k∧tinyTo es k) (fun i=>len-(intOf i).toNat)
   case atStart=>exact⟨0,Nat.zero_le _,rfl,fun j hj=>absurd hj (by omega)⟩
   case round=>
    obtain⟨k,hk,rfl,hto⟩:=hrel;have HT:=Hd hto;clear hto
    by_cases hlt:k<len
    · obtain⟨b,off,rfl,hb,hc⟩:=hE.at_ hlt;obtain⟨hn0,A',n',c',hs0,hR0⟩:=hc k hlt;have hkl:k<es.length:=by omega
      have hcl:=hR0.len;have hcm:=hR0.max;clear hc
      by_cases h12:12<n'
      · go_wp2_with fail
        go_ret
        exact small_no es w
      · have HS:=Hd fun h2 h3=>tinyTo_succ HT.out (show(csE es k).length≤12 by omega) h2 h3;have hd12:decide ((12:Int)<(n':Int))=false:=decide_eq_false (by omega);generalize nmE es k=x at hn0 HS
        by_cases h100:100<x.size
        · go_wp2_with fail
          go_ret
          exact small_no es w
        · have HS:=Hd fun h3=>HS.out (by omega) h3;have hd100:decide ((100:Int)<(x.size:Int))=false:=decide_eq_false (by omega)
          go_wp2_with fail
          go_loop [4] (fun i=>∃ m:Nat,m≤n'∧i=.int .i64 m∧∀ q,q<m→(ctAt es k q).size≤100) (fun i=>n' - (intOf i).toNat)
          case atStart=>exact⟨0,Nat.zero_le _,rfl,fun j hj=>absurd hj (by omega)⟩
          case round=>
           obtain⟨m,hm,rfl,hto⟩:=hrel;have HT2:=Hd hto;clear hto
           by_cases hltm:m<n'
           · obtain⟨b2,off2,rfl,hb2,hc2⟩:=hR0.at_ hltm;have hcm2:=hc2 m hltm;clear hc2;rw [show(csE es k)[m]?.getD ByteArray.empty=ctAt es k m from rfl] at hcm2
             have HN:=Hd (show(ctAt es k m).size≤100→∀ q,q<m+1→(ctAt es k q).size≤100 from fun h q hq=>by
              rcases Nat.lt_or_ge q m with h1 | h1
              · exact HT2.out q h1
              · obtain rfl:q=m:=by omega
                exact h)
             generalize ctAt es k m=y at hcm2 HN
             by_cases hy:100<y.size
             · go_wp2_with fail
               go_ret
               exact small_no es w
             · have HN:=Hd (HN.out (by omega))
               go_wp2_with fail
               go_round
               case rel=>exact⟨m+1,by omega,by go_num,HN.out⟩
               case measure=>simp [intOf];omega
           · have HS:=Hd (HS.out fun q hq=>HT2.out q (by omega))
             go_wp2_with fail
             go_round
             case rel=>exact⟨k+1,by omega,by go_num,HS.out⟩
             case measure=>simp [intOf];omega
    · have hkl:k=es.length:=by omega
      have hno:=HT.out;rw [hkl] at hno;have HY:=Hd (show EsTiny es from⟨by omega,hno⟩)
      go_wp2_with fail
      go_ret
      exact small_yes HY.out w
end
section
open Go.RowKit Go.Sort
theorem cell3(w:World) (T:TypeId) (a b c:Value):(w.alloc (.cells #[a,b,c] T)).cell? ⟨w.heap.size,0,none⟩=some a∧(w.alloc (.cells #[a,b,c] T)).cell? ⟨w.heap.size,1,none⟩=some b∧(w.alloc (.cells #[a,b,c] T)).cell? ⟨w.heap.size,2,none⟩=some c:=by
 refine⟨?_,?_,?_⟩ <;> simp [go_sem]
abbrev tyO (k e l:Int):Obj:=.cells #[.int .i64 k,.int .i64 e,.int .i64 l] 38
theorem ty_info:(Tryz.prog.info? 38).map (·.size)=some 3:=by kernel_rfl
theorem res_ty{fn:Func}{p:Tmp}(h:fn.results=#[.cell p 38]) (tmps:Array Value) (w:World) (g:Nat) (k e l:Int)
 (hp:tmps.getD p undef=.pointer (some ⟨g,0,none⟩)) (hg:w.heap[g]?=some (tyO k e l)):(results fn tmps).run Tryz.prog w=.ok (tyV k e l) w:=
 results_cell_row h tmps w g _ _ _ _ hp hg Tryz.underlying38 rfl ty_info
theorem res_ty2{fn:Func}{p u:Tmp}(h:fn.results=#[.cell p 38,.tmp u]) (tmps:Array Value) (w:World) (g:Nat) (k e l:Int)
 (hp:tmps.getD p undef=.pointer (some ⟨g,0,none⟩)) (hg:w.heap[g]?=some (tyO k e l)):(results fn tmps).run Tryz.prog w=.ok (.tuple #[tyV k e l,tmps.getD u undef]) w:=by
 rw [results_cell_tmp h,hp];have hl:=run_loadVar_row (P:=Tryz.prog) w g 38 38 _ _ _ hg Tryz.underlying38 rfl ty_info
 simp [asAddr,Result.andThen,hl]
 rfl
theorem arOne(k:Int) (w:World):
 Calls Tryz.prog 164 #[.int .i64 k] w fun r w'=>r=.returned (tyV k 0 0)∧w'=w.alloc (tyO k 0 0):=by
 unfold tyV tyO
 go_enter Tryz.func164,Tryz.ntmps164
 go_wp2_with fail
 exact bodyPost_ret (res_ty rfl _ _ w.heap.size k 0 0 rfl (heap_alloc_new _ _)) rfl ⟨rfl,rfl⟩
theorem refPlain(k:Int) (w:World):
 Calls Tryz.prog 165 #[.int .i64 k] w fun r w'=>r=.returned (tyV k 0 0)∧w'=w.alloc (tyO k 0 0):=by
 unfold tyV tyO
 go_enter Tryz.func165,Tryz.ntmps165
 go_wp2_with fail
 exact bodyPost_ret (res_ty rfl _ _ w.heap.size k 0 0 rfl (heap_alloc_new _ _)) rfl ⟨rfl,rfl⟩
theorem arOnly_yes(k e l:Int) (w:World):
 Calls Tryz.prog 163 #[tyV k e l,.bool true] w fun r w'=>r=.returned (.tuple #[tyV k e l,.bool true])∧w'=(w.alloc (tyO k e l)).alloc (tyO k e l):=by
 unfold tyV tyO
 go_enter Tryz.func163,Tryz.ntmps163
 go_wp2_with fail
 exact bodyPost_ret (res_ty2 rfl _ _ (w.heap.size+1) k e l rfl (heap_alloc2_new _ _ _)) rfl ⟨rfl,rfl⟩
theorem arOnly_no(k e l:Int) (w:World):
 Calls Tryz.prog 163 #[tyV k e l,.bool false] w fun r w'=>r=.returned (.tuple #[tyV 0 0 0,.bool false])∧w'=(w.alloc (tyO k e l)).alloc (tyO 0 0 0):=by
 unfold tyV tyO
 go_enter Tryz.func163,Tryz.ntmps163
 go_wp2_with fail
 exact bodyPost_ret (res_ty2 rfl _ _ (w.heap.size+1) 0 0 0 rfl (heap_alloc2_new _ _ _)) rfl ⟨rfl,rfl⟩
theorem heap_up{w:World}{i:Nat}{o:Obj}(B:Obj) (h:w.heap[i]?=some o):(w.alloc B).heap[i]?=some o:=by
 have hi:=(Array.getElem?_eq_some_iff.1 h).1
 show(w.heap.push B)[i]?=some o
 rw [Array.getElem?_push,if_neg (Nat.ne_of_lt hi)];exact h
theorem heap_drew{w:World}{i:Nat}{o:Obj}(h:w.heap[i]?=some o):w.drew.heap[i]?=some o:=h
def tyR(o:Option Int):Value:=match o with
 | some k=>tyV k 0 0
 | none=>tyV 0 0 0
def unTyI(op k e l:Int):Option Int:=
 if op=1∧k=1∧e=0∧l=0 then some 1 else if op=2∧k=2∧e=0∧l=0 then some 2 else none
end
section
open Go.RowKit Go.Sort
theorem arUnTy1_0(w:World):
 Calls Tryz.prog 116 #[.int .i64 1,tyV 1 0 0] w fun r w'=>r=.returned (.tuple #[tyV 1 0 0,.bool true])∧Below w.heap.size w w':=by
 unfold tyV
 go_enter Tryz.func116,Tryz.ntmps116
 go_wp2_with fail
 go_region_held3 (fun W=>W.cell? ⟨w.heap.size,0,none⟩=some (.int .i64 1)∧W.cell? ⟨w.heap.size,1,none⟩=some (.int .i64 0)∧W.cell? ⟨w.heap.size,2,none⟩=some (.int .i64 0)) (first | (refine⟨?_,?_,?_⟩ <;> simp [go_sem]) | exact trivial) (first | (go_at_call 164;refine(arOne _ _).mono ?_;unfold tyV tyO;rintro r w1 ⟨rfl,rfl⟩) | (go_at_call 163;refine(arOnly_yes _ _ _ _).mono ?_;unfold tyV tyO;rintro r w1 ⟨rfl,rfl⟩))
 go_wp2_with fail
 refine bodyPost_ret (res_ty2 rfl _ _ (w.heap.size+1) 1 0 0 rfl ?_) rfl ⟨rfl,?_⟩
 · (repeat' (first | exact heap_alloc2_new _ _ _ | exact heap_alloc_new _ _ | refine heap_drew ?_ | refine heap_up _ ?_))
 · (repeat' (first | exact Below.refl _ _ | refine Below.drew ?_ | refine Below.alloc ?_ (by simp <;> omega) _))
theorem arUnTy1_1(k e l:Int) (hk:(k==1)=false) (w:World):
 Calls Tryz.prog 116 #[.int .i64 1,tyV k e l] w fun r w'=>r=.returned (.tuple #[tyV 0 0 0,.bool false])∧Below w.heap.size w w':=by
 unfold tyV
 go_enter Tryz.func116,Tryz.ntmps116
 go_wp2_with fail
 go_region_held3 (fun W=>W.cell? ⟨w.heap.size,0,none⟩=some (.int .i64 k)∧W.cell? ⟨w.heap.size,1,none⟩=some (.int .i64 e)∧W.cell? ⟨w.heap.size,2,none⟩=some (.int .i64 l)) (first | (refine⟨?_,?_,?_⟩ <;> simp [go_sem]) | exact trivial) (first | (go_at_call 164;refine(arOne _ _).mono ?_;unfold tyV tyO;rintro r w1 ⟨rfl,rfl⟩) | (go_at_call 163;refine(arOnly_no _ _ _ _).mono ?_;unfold tyV tyO;rintro r w1 ⟨rfl,rfl⟩))
 go_wp2_with fail
 refine bodyPost_ret (res_ty2 rfl _ _ (w.heap.size+1) 0 0 0 rfl ?_) rfl ⟨rfl,?_⟩
 · (repeat' (first | exact heap_alloc2_new _ _ _ | exact heap_alloc_new _ _ | refine heap_drew ?_ | refine heap_up _ ?_))
 · (repeat' (first | exact Below.refl _ _ | refine Below.drew ?_ | refine Below.alloc ?_ (by simp <;> omega) _))
theorem arUnTy1_2(e l:Int) (hk:(e==0)=false) (w:World):
 Calls Tryz.prog 116 #[.int .i64 1,tyV 1 e l] w fun r w'=>r=.returned (.tuple #[tyV 0 0 0,.bool false])∧Below w.heap.size w w':=by
 unfold tyV
 go_enter Tryz.func116,Tryz.ntmps116
 go_wp2_with fail
 go_region_held3 (fun W=>W.cell? ⟨w.heap.size,0,none⟩=some (.int .i64 1)∧W.cell? ⟨w.heap.size,1,none⟩=some (.int .i64 e)∧W.cell? ⟨w.heap.size,2,none⟩=some (.int .i64 l)) (first | (refine⟨?_,?_,?_⟩ <;> simp [go_sem]) | exact trivial) (first | (go_at_call 164;refine(arOne _ _).mono ?_;unfold tyV tyO;rintro r w1 ⟨rfl,rfl⟩) | (go_at_call 163;refine(arOnly_no _ _ _ _).mono ?_;unfold tyV tyO;rintro r w1 ⟨rfl,rfl⟩))
 go_wp2_with fail
 refine bodyPost_ret (res_ty2 rfl _ _ (w.heap.size+1) 0 0 0 rfl ?_) rfl ⟨rfl,?_⟩
 · (repeat' (first | exact heap_alloc2_new _ _ _ | exact heap_alloc_new _ _ | refine heap_drew ?_ | refine heap_up _ ?_))
 · (repeat' (first | exact Below.refl _ _ | refine Below.drew ?_ | refine Below.alloc ?_ (by simp <;> omega) _))
theorem arUnTy1_3(l:Int) (hk:(l==0)=false) (w:World):
 Calls Tryz.prog 116 #[.int .i64 1,tyV 1 0 l] w fun r w'=>r=.returned (.tuple #[tyV 0 0 0,.bool false])∧Below w.heap.size w w':=by
 unfold tyV
 go_enter Tryz.func116,Tryz.ntmps116
 go_wp2_with fail
 go_region_held3 (fun W=>W.cell? ⟨w.heap.size,0,none⟩=some (.int .i64 1)∧W.cell? ⟨w.heap.size,1,none⟩=some (.int .i64 0)∧W.cell? ⟨w.heap.size,2,none⟩=some (.int .i64 l)) (first | (refine⟨?_,?_,?_⟩ <;> simp [go_sem]) | exact trivial) (first | (go_at_call 164;refine(arOne _ _).mono ?_;unfold tyV tyO;rintro r w1 ⟨rfl,rfl⟩) | (go_at_call 163;refine(arOnly_no _ _ _ _).mono ?_;unfold tyV tyO;rintro r w1 ⟨rfl,rfl⟩))
 go_wp2_with fail
 refine bodyPost_ret (res_ty2 rfl _ _ (w.heap.size+1) 0 0 0 rfl ?_) rfl ⟨rfl,?_⟩
 · (repeat' (first | exact heap_alloc2_new _ _ _ | exact heap_alloc_new _ _ | refine heap_drew ?_ | refine heap_up _ ?_))
 · (repeat' (first | exact Below.refl _ _ | refine Below.drew ?_ | refine Below.alloc ?_ (by simp <;> omega) _))
theorem arUnTy2_0(w:World):
 Calls Tryz.prog 116 #[.int .i64 2,tyV 2 0 0] w fun r w'=>r=.returned (.tuple #[tyV 2 0 0,.bool true])∧Below w.heap.size w w':=by
 unfold tyV
 go_enter Tryz.func116,Tryz.ntmps116
 go_wp2_with fail
 go_region_held3 (fun W=>W.cell? ⟨w.heap.size,0,none⟩=some (.int .i64 2)∧W.cell? ⟨w.heap.size,1,none⟩=some (.int .i64 0)∧W.cell? ⟨w.heap.size,2,none⟩=some (.int .i64 0)) (first | (refine⟨?_,?_,?_⟩ <;> simp [go_sem]) | exact trivial) (first | (go_at_call 164;refine(arOne _ _).mono ?_;unfold tyV tyO;rintro r w1 ⟨rfl,rfl⟩) | (go_at_call 163;refine(arOnly_yes _ _ _ _).mono ?_;unfold tyV tyO;rintro r w1 ⟨rfl,rfl⟩))
 go_wp2_with fail
 refine bodyPost_ret (res_ty2 rfl _ _ (w.heap.size+1) 2 0 0 rfl ?_) rfl ⟨rfl,?_⟩
 · (repeat' (first | exact heap_alloc2_new _ _ _ | exact heap_alloc_new _ _ | refine heap_drew ?_ | refine heap_up _ ?_))
 · (repeat' (first | exact Below.refl _ _ | refine Below.drew ?_ | refine Below.alloc ?_ (by simp <;> omega) _))
theorem arUnTy2_1(k e l:Int) (hk:(k==2)=false) (w:World):
 Calls Tryz.prog 116 #[.int .i64 2,tyV k e l] w fun r w'=>r=.returned (.tuple #[tyV 0 0 0,.bool false])∧Below w.heap.size w w':=by
 unfold tyV
 go_enter Tryz.func116,Tryz.ntmps116
 go_wp2_with fail
 go_region_held3 (fun W=>W.cell? ⟨w.heap.size,0,none⟩=some (.int .i64 k)∧W.cell? ⟨w.heap.size,1,none⟩=some (.int .i64 e)∧W.cell? ⟨w.heap.size,2,none⟩=some (.int .i64 l)) (first | (refine⟨?_,?_,?_⟩ <;> simp [go_sem]) | exact trivial) (first | (go_at_call 164;refine(arOne _ _).mono ?_;unfold tyV tyO;rintro r w1 ⟨rfl,rfl⟩) | (go_at_call 163;refine(arOnly_no _ _ _ _).mono ?_;unfold tyV tyO;rintro r w1 ⟨rfl,rfl⟩))
 go_wp2_with fail
 refine bodyPost_ret (res_ty2 rfl _ _ (w.heap.size+1) 0 0 0 rfl ?_) rfl ⟨rfl,?_⟩
 · (repeat' (first | exact heap_alloc2_new _ _ _ | exact heap_alloc_new _ _ | refine heap_drew ?_ | refine heap_up _ ?_))
 · (repeat' (first | exact Below.refl _ _ | refine Below.drew ?_ | refine Below.alloc ?_ (by simp <;> omega) _))
theorem arUnTy2_2(e l:Int) (hk:(e==0)=false) (w:World):
 Calls Tryz.prog 116 #[.int .i64 2,tyV 2 e l] w fun r w'=>r=.returned (.tuple #[tyV 0 0 0,.bool false])∧Below w.heap.size w w':=by
 unfold tyV
 go_enter Tryz.func116,Tryz.ntmps116
 go_wp2_with fail
 go_region_held3 (fun W=>W.cell? ⟨w.heap.size,0,none⟩=some (.int .i64 2)∧W.cell? ⟨w.heap.size,1,none⟩=some (.int .i64 e)∧W.cell? ⟨w.heap.size,2,none⟩=some (.int .i64 l)) (first | (refine⟨?_,?_,?_⟩ <;> simp [go_sem]) | exact trivial) (first | (go_at_call 164;refine(arOne _ _).mono ?_;unfold tyV tyO;rintro r w1 ⟨rfl,rfl⟩) | (go_at_call 163;refine(arOnly_no _ _ _ _).mono ?_;unfold tyV tyO;rintro r w1 ⟨rfl,rfl⟩))
 go_wp2_with fail
 refine bodyPost_ret (res_ty2 rfl _ _ (w.heap.size+1) 0 0 0 rfl ?_) rfl ⟨rfl,?_⟩
 · (repeat' (first | exact heap_alloc2_new _ _ _ | exact heap_alloc_new _ _ | refine heap_drew ?_ | refine heap_up _ ?_))
 · (repeat' (first | exact Below.refl _ _ | refine Below.drew ?_ | refine Below.alloc ?_ (by simp <;> omega) _))
theorem arUnTy2_3(l:Int) (hk:(l==0)=false) (w:World):
 Calls Tryz.prog 116 #[.int .i64 2,tyV 2 0 l] w fun r w'=>r=.returned (.tuple #[tyV 0 0 0,.bool false])∧Below w.heap.size w w':=by
 unfold tyV
 go_enter Tryz.func116,Tryz.ntmps116
 go_wp2_with fail
 go_region_held3 (fun W=>W.cell? ⟨w.heap.size,0,none⟩=some (.int .i64 2)∧W.cell? ⟨w.heap.size,1,none⟩=some (.int .i64 0)∧W.cell? ⟨w.heap.size,2,none⟩=some (.int .i64 l)) (first | (refine⟨?_,?_,?_⟩ <;> simp [go_sem]) | exact trivial) (first | (go_at_call 164;refine(arOne _ _).mono ?_;unfold tyV tyO;rintro r w1 ⟨rfl,rfl⟩) | (go_at_call 163;refine(arOnly_no _ _ _ _).mono ?_;unfold tyV tyO;rintro r w1 ⟨rfl,rfl⟩))
 go_wp2_with fail
 refine bodyPost_ret (res_ty2 rfl _ _ (w.heap.size+1) 0 0 0 rfl ?_) rfl ⟨rfl,?_⟩
 · (repeat' (first | exact heap_alloc2_new _ _ _ | exact heap_alloc_new _ _ | refine heap_drew ?_ | refine heap_up _ ?_))
 · (repeat' (first | exact Below.refl _ _ | refine Below.drew ?_ | refine Below.alloc ?_ (by simp <;> omega) _))
theorem arUnTy_no(op k e l:Int) (h1:(op==1)=false) (h2:(op==2)=false) (w:World):
 Calls Tryz.prog 116 #[.int .i64 op,tyV k e l] w fun r w'=>r=.returned (.tuple #[tyV 0 0 0,.bool false])∧Below w.heap.size w w':=by
 unfold tyV
 go_enter Tryz.func116,Tryz.ntmps116
 go_wp2_with fail
 refine bodyPost_ret (res_ty2 rfl _ _ (w.heap.size+1) 0 0 0 rfl ?_) rfl ⟨rfl,?_⟩
 · (repeat' (first | exact heap_alloc2_new _ _ _ | exact heap_alloc_new _ _ | refine heap_drew ?_ | refine heap_up _ ?_))
 · (repeat' (first | exact Below.refl _ _ | refine Below.drew ?_ | refine Below.alloc ?_ (by simp <;> omega) _))
theorem arUnTy(op k e l:Int) (w:World):
 Calls Tryz.prog 116 #[.int .i64 op,tyV k e l] w fun r w'=>r=.returned (.tuple #[tyR (unTyI op k e l),.bool (unTyI op k e l).isSome])∧Below w.heap.size w w':=by
 by_cases o1:op=1
 · subst o1
   by_cases hk:k=1
   · subst hk
     by_cases he:e=0
     · subst he
       by_cases hl:l=0
       · subst hl;exact arUnTy1_0 w
       · have e:unTyI 1 1 0 l=none:=by simp [unTyI,hl]
         rw [e];exact arUnTy1_3 l (by simpa using hl) w
     · have e:unTyI 1 1 e l=none:=by simp [unTyI,he]
       rw [e];exact arUnTy1_2 _ l (by simpa using he) w
   · have e:unTyI 1 k e l=none:=by simp [unTyI,hk]
     rw [e];exact arUnTy1_1 k _ l (by simpa using hk) w
 · by_cases o2:op=2
   · subst o2
     by_cases hk:k=2
     · subst hk
       by_cases he:e=0
       · subst he
         by_cases hl:l=0
         · subst hl;exact arUnTy2_0 w
         · have e:unTyI 2 2 0 l=none:=by simp [unTyI,hl]
           rw [e];exact arUnTy2_3 l (by simpa using hl) w
       · have e:unTyI 2 2 e l=none:=by simp [unTyI,he]
         rw [e];exact arUnTy2_2 _ l (by simpa using he) w
     · have e:unTyI 2 k e l=none:=by simp [unTyI,hk]
       rw [e];exact arUnTy2_1 k _ l (by simpa using hk) w
   · have e:unTyI op k e l=none:=by simp [unTyI,o1,o2]
     rw [e];exact arUnTy_no op k _ l (by simpa using o1) (by simpa using o2) w
end
section
open Go.RowKit Go.Sort
theorem tyOne(k e l:Int) (w:World):
 Calls Tryz.prog 122 #[tyV k e l] w fun r w'=>r=.returned (tyV k e 0)∧Below w.heap.size w w':=by
 unfold tyV;have HB:=Hd (((Below.refl w.heap.size w).alloc (Nat.le_refl _) (.cells #[.int .i64 k,.int .i64 e,.int .i64 0] 38)).alloc (by simp) (.cells #[.int .i64 k,.int .i64 e,.int .i64 0] 38))
 go_enter Tryz.func122,Tryz.ntmps122
 go_wp2_with fail
 refine bodyPost_ret (v:=.agg #[.int .i64 k,.int .i64 e,.int .i64 0]) ?_ rfl ⟨rfl,HB.out⟩
 simp [results,Tryz.f122,go_sem]
end
section
set_option maxRecDepth 100000
open Go.RowKit Go.ChangeShapes Go.WideShapes Go.Deep
theorem cells_en:Tryz.prog.cellsOf 79=2:=by kernel_rfl
theorem cells_ty:Tryz.prog.cellsOf 38=3:=by kernel_rfl
theorem cells_iT:Tryz.prog.cellsOf 3=1:=by kernel_rfl
theorem cells_sT:Tryz.prog.cellsOf 9=1:=by kernel_rfl
theorem cells_ssT:Tryz.prog.cellsOf 32=1:=by kernel_rfl
section
variable {H:Type}{enc:TypeId × Value→H}{w:World}{base:Nat}{spare:Nat→Bool}{held:Bool}
theorem strs_open{fuel:Nat}{v:Value}{x:DataW H × List MemPlace}(h:DataW.trod enc Tryz.prog w base spare held fuel 32 [v]=some x):∃ A n c ss,v=.slice A n c∧RdT w A n ss:=by
 rcases Go.ChangeShapes.open_strings Tryz.underlying32 Tryz.underlying9 (by kernel_rfl) h with⟨hcs,_⟩|⟨x,l,c,ss,hcs,_,hl,hm,hss,_,hcell,hz⟩
 · simp at hcs
   subst hcs;exact⟨none,0,0,[],rfl,RdT.nil_ _⟩
 · simp at hcs
   subst hcs;have hle:l≤ss.length:=by rw [hss];split <;> omega
   exact⟨some x,l,c,ss.take l,rfl,rdT_arg hle (by unfold maxLen at hm;omega) hcell⟩
theorem en_open{fuel:Nat}{cs:List Value}{x:DataW H × List MemPlace}(h:DataW.trod enc Tryz.prog w base spare held fuel 79 cs=some x) (hl:cs.length=2):
 ∃ e:En,∃ A n c,cs=[.string e.1,.slice A n c]∧RdT w A n e.2:=by
 obtain⟨ys,m,_,_,_,hy,hf⟩:=DataW.trod_struct Tryz.underlying79 h
 match cs,hl with
 | [v0,v1],_=>
  match ys,hy with
  | [y0,y1],_=>
   have t0:=hf 0 _ rfl;have t1:=hf 1 _ rfl
   simp [cells_sT,cells_ssT] at t0 t1
   obtain⟨s,e0,_,_⟩:=DataW.trod_string Tryz.underlying9 t0;obtain⟨A,n,c,ss,rfl,hr⟩:=strs_open t1;injection e0 with e0;subst e0;exact⟨(s,ss),A,n,c,rfl,hr⟩
theorem enums_open{fuel:Nat}{A:Option Addr}{n c:Nat}{x:DataW H × List MemPlace}(h:DataW.trod enc Tryz.prog w base spare held fuel 22 [.slice A n c]=some x):∃ es,RdE w A n es:=by
 rcases open_slice Tryz.underlying22 h with⟨hcs,_⟩|⟨a,len,cap,m,nn,D,Pl,hcs,_,hl,hm,hmm,_,hi⟩
 · simp at hcs
   obtain⟨rfl,rfl,rfl⟩:=hcs;exact⟨[],RdE.nil_ _⟩
 · simp at hcs
   obtain⟨rfl,rfl,rfl⟩:=hcs;have hnm:n≤m:=by rw [hmm];split <;> omega
   have hone:∀ i,i<n→∃ e:En,w.cell? (a.add (i*2))=some (.string e.1)∧∃ A' n' c',w.cell? (a.add (i*2+1))=some (.slice A' n' c')∧RdT w A' n' e.2:=by
    intro i him;obtain⟨cs',hc,ht⟩:=hi i (by omega);rw [cells_en] at hc;obtain⟨_,hcl,hat⟩:=World.cells?_some hc;obtain⟨e,A',n',c',e1,hp⟩:=en_open ht hcl;have h0:=hat (i:=0) (by omega);have h1:=hat (i:=1) (by omega);rw [e1] at h0 h1;rw [Go.Deep.add_add] at h0 h1;exact⟨e,by simpa using h0,A',n',c',by simpa using h1,hp⟩
   obtain⟨f,hf⟩:=choose_lt (α:=En) hone;have hget:∀ i,i<n→((List.range n).map f)[i]?.getD (ByteArray.empty,[])=f i:=fun i hi=>by simp [List.getElem?_map,List.getElem?_range hi]
   refine⟨(List.range n).map f,by simp,by unfold maxLen at hm;omega,fun hn=>?_⟩;obtain⟨b,off,spot⟩:=a;have h0:=(hf 0 hn).1;have hspot:spot=none:=by simpa [Addr.add] using World.cell?_spot h0
   subst hspot;have hadd:∀ i,(⟨b,off,none⟩:Addr).add i=⟨b,off+i,none⟩:=fun i=>by unfold Addr.add;split <;> simp_all
   refine⟨b,off,rfl,World.block_lt_of_cell? w _ ((hadd 0) ▸ h0),fun i hi=>?_⟩;obtain⟨hc,A',n',c',h2,h3⟩:=hf i hi;rw [hadd] at hc h2;unfold nmE csE;rw [hget i hi];exact⟨hc,A',n',c',h2,h3⟩
theorem ty_cells{fuel:Nat}{cs:List Value}{x:DataW H × List MemPlace}(h:DataW.trod enc Tryz.prog w base spare held fuel 38 cs=some x) (hl:cs.length=3):
 ∃ k e l:Int,cs=[.int .i64 k,.int .i64 e,.int .i64 l]:=by
 obtain⟨ys,m,_,_,_,hy,hf⟩:=DataW.trod_struct Tryz.underlying38 h
 match cs,hl with
 | [v0,v1,v2],_=>
  match ys,hy with
  | [y0,y1,y2],_=>
   have t0:=hf 0 _ rfl;have t1:=hf 1 _ rfl;have t2:=hf 2 _ rfl
   simp [cells_iT] at t0 t1 t2
   obtain⟨k,e0,_,_⟩:=DataW.trod_int Tryz.underlying3 t0;obtain⟨e,e1,_,_⟩:=DataW.trod_int Tryz.underlying3 t1;obtain⟨l,e2,_,_⟩:=DataW.trod_int Tryz.underlying3 t2;injection e0 with e0;injection e1 with e1;injection e2 with e2;subst e0 e1 e2;exact⟨k,e,l,rfl⟩
end
end
end Go.Proofs.YtegjgiofmpolnaaGreat
