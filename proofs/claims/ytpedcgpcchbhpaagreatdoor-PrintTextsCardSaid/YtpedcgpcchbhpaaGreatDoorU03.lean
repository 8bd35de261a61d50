/- Parts of the proof: ExF, IdI, IdJ, ExK. Conditions: each theorem's own. -/
import Derived.Test.YtpedcgpcchbhpaaGreatDoorU02
namespace Go.Proofs.YtpedcgpcchbhpaaGreatDoor
set_option linter.unusedVariables false
set_option linter.unusedSimpArgs false
set_option maxRecDepth 100000
set_option maxHeartbeats 40000000
section
open Go.RowKit Go.Sort
theorem all_false{α:Type} [Inhabited α] {l:List α}{f:α→Bool}{i:Nat}(hi:i<l.length) (h:f (l[i]?.getD default)=false):l.all f=false:=by
 rw [List.all_eq_false];refine⟨l[i]?.getD default,?_,by simp [h]⟩;rw [List.getElem?_eq_getElem hi];exact List.getElem_mem _
theorem all_take_succ{α:Type} [Inhabited α] {l:List α}{f:α→Bool}{k:Nat}(hk:k<l.length) (h:(l.take k).all f=true) (hx:f (l[k]?.getD default)=true):(l.take (k+1)).all f=true:=by
 rw [List.take_succ_eq_append_getElem hk,List.all_append,h,Bool.true_and];rw [List.getElem?_eq_getElem hk] at hx
 simpa using hx
theorem all_take_end{α:Type}{l:List α}{f:α→Bool}{k:Nat}(h:(l.take k).all f=true) (hk:l.length≤k):l.all f=true:=by rwa [List.take_of_length_le hk] at h
instance :Inhabited ByteArray:=⟨ByteArray.empty⟩
def fewA(t:ByteArray):Bool:=!decide (100<t.size)
def fewP(p:Ex):Bool:=!decide (200<p.s.size) && !decide (20<p.arms.length) && p.arms.all fewA
def tinyX(x:Ex):Bool:=decide (sizeX x<200) && (partsX x).all fewP
theorem refFew(x:Ex) (A:Option Addr) (ca:Nat) (B:Option Addr) (cb:Nat) (w:World) (hr:rdX w x A B) (hs:sizeX x≤1000000):
 Calls Tryz.prog 38 #[.agg (exA x A ca B cb)] w fun e w'=>e=.returned (.bool ((partsX x).all fewP))∧Below w.heap.size w w':=by
 have HF:=Hd fun w1 h=>box_facts w x A ca B cb w1 h hr;have HP:=Hd fun w1 (h:Below w.heap.size w w1)=>refParts x A ca B cb w w1 hr h hs;have HLN:=Hd (partsX_len x);have hsp:=size_pos x;clear hr;unfold exA at HF HP ⊢
 go_enter Tryz.func38,Tryz.ntmps38
 go_upto_region 1 with(fail)
 generalize hw1:w.alloc _=w1;obtain⟨hb1,hg,hr1,hcell⟩:=HF.out w1 hw1;have HB1:=Hd hb1;have HP1:=Hd (HP.out w1 hb1);obtain⟨q0,q1,q2,q3,q4,q5⟩:=Sx (hcell w1 (Below.refl _ _));clear hcell hb1 hr1 hw1 HF HP
 go_wp2_with fail
 refine HP1.out.mono ?_;rintro r w2 ⟨A2,c2,cs2,rfl,hcel,hfl2,hb2,_⟩;have HB2:=Hd (HB1.out.trans (hb2.mono HB1.out.size));have HRX:=Hd (hcel.rd hfl2 HB2.out);clear hcel hfl2 hb2 q0 q1 q2 q3 q4 q5 HP1;generalize hl:partsX x=l at *;have HLL:=Hd hl;generalize hn:sizeX x=n at *
 go_wp2_with fail
 go_loopw [4] (fun i wr=>∃ k:Nat,k≤n∧i=.int .i64 k∧w2=wr∧(l.take k).all fewP=true) (fun i _=>n-(intOf i).toNat)
 case atStart=>exact⟨0,Nat.zero_le _,rfl,rfl,by simp⟩
 case round=>
  obtain⟨k,hk,rfl,rfl,hall⟩:=hrel;have HA:=Hd hall;clear hall
  by_cases hlt:k<n
  · obtain⟨b,off,rfl,hb,hat⟩:=HRX.out.at_ hlt;obtain⟨A',ca',B',cb',hrg,hrd⟩:=hat k hlt;obtain⟨c0,c1,c2,c3,c4,c5⟩:=rangeAt_six hrg;have HAR:=Hd hrd.arms;have HK:=Hd (show k<l.length by rw [HLN.out];exact hlt);clear hat hrg hrd;generalize hp:l[k]?.getD default=p at *;have HPP:=Hd hp
    by_cases h1:200<p.s.size
    · have HN:=Hd (all_false (f:=fewP) HK.out (by rw [HPP.out];simp [fewP,h1]))
      go_wp2_with fail
      go_ret
      exact⟨ret_bool (by first | exact HN.out.symm | (rw [HLL.out];exact HN.out.symm)),HB2.out⟩
    · by_cases h2:20<p.arms.length
      · have HN:=Hd (all_false (f:=fewP) HK.out (by rw [HPP.out];simp [fewP,h2]))
        go_wp2_with fail
        go_ret
        exact⟨ret_bool (by first | exact HN.out.symm | (rw [HLL.out];exact HN.out.symm)),HB2.out⟩
      · generalize hm:p.arms.length=m at *;have HM:=Hd hm
        go_wp2_with fail
        go_loopw [5] (fun j wr=>∃ i:Nat,i≤m∧j=.int .i64 i∧w2=wr∧(p.arms.take i).all fewA=true) (fun j _=>m-(intOf j).toNat)
        case atStart=>exact⟨0,Nat.zero_le _,rfl,rfl,by simp⟩
        case round=>
         obtain⟨i,hi,rfl,rfl,hall⟩:=hrel;have HJ:=Hd hall;clear hall
         by_cases him:i<m
         · obtain⟨b3,off3,rfl,hb3,hc3⟩:=HAR.out.at_ him;have hci:=hc3 i him;have HI:=Hd (show i<p.arms.length by rw [HM.out];exact him);clear hc3;generalize ht:p.arms[i]?.getD ByteArray.empty=t at *;have HT:=Hd ht
           by_cases h3:100<t.size
           · have HN:=Hd (all_false (f:=fewA) HI.out (by show fewA (p.arms[i]?.getD ByteArray.empty)=false;rw [HT.out];simp [fewA,h3]));have HN2:=Hd (all_false (f:=fewP) HK.out (by rw [HPP.out];unfold fewP;rw [HN.out];simp))
             go_wp2_with fail
             go_ret
             exact⟨ret_bool (by first | exact HN2.out.symm | (rw [HLL.out];exact HN2.out.symm)),HB2.out⟩
           · have HN:=Hd (all_take_succ (f:=fewA) HI.out HJ.out (by show fewA (p.arms[i]?.getD ByteArray.empty)=true;rw [HT.out];simp [fewA,h3]))
             go_wp2_with fail
             go_roundw
             case rel=>exact⟨i+1,by omega,by go_num,(by first | trivial | rfl),HN.out⟩
             case measure=>simp [intOf];omega
         · have HN:=Hd (all_take_end HJ.out (by rw [HM.out];omega));have HN2:=Hd (all_take_succ (f:=fewP) HK.out HA.out (by rw [HPP.out];unfold fewP;rw [HN.out,HM.out];simp [h1,h2]))
           go_wp2_with fail
           go_roundw
           case rel=>exact⟨k+1,by omega,by go_num,(by first | trivial | rfl),HN2.out⟩
           case measure=>simp [intOf];omega
  · have HN:=Hd (all_take_end HA.out (by rw [HLN.out];omega))
    go_wp2_with fail
    go_ret
    exact⟨ret_bool (by first | exact HN.out.symm | (rw [HLL.out];exact HN.out.symm)),HB2.out⟩
theorem refSmall(x:Ex) (A:Option Addr) (ca:Nat) (B:Option Addr) (cb:Nat) (w:World) (hr:rdX w x A B):
 Calls Tryz.prog 19 #[.agg (exA x A ca B cb)] w fun e w'=>e=.returned (.bool (tinyX x))∧Below w.heap.size w w':=by
 have HF:=Hd fun w1 h=>box_facts w x A ca B cb w1 h hr;have HCT:=Hd fun w1 (h:rdX w1 x A B)=>refCount x A ca B cb w1 h 200 (by omega);have HFW:=Hd fun w1 (h:rdX w1 x A B) (h2:sizeX x≤1000000)=>refFew x A ca B cb w1 h h2;have HT:=Hd (show tinyX x=(decide (sizeX x<200) && (partsX x).all fewP) from rfl);clear hr;unfold exA at HF HCT HFW ⊢
 by_cases hs:sizeX x<200
 · obtain⟨q,hq⟩:∃ q,200-sizeX x=q+1:=⟨199-sizeX x,by omega⟩;rw [hq] at HCT;have HT1:=Hd (show tinyX x=(partsX x).all fewP by rw [HT.out];simp [hs]);clear hq HT
   go_enter Tryz.func19,Tryz.ntmps19
   go_upto_region 1 with(fail)
   generalize hw1:w.alloc _=w1;obtain⟨hb1,hg,hr1,hcell⟩:=HF.out w1 hw1;have HB1:=Hd hb1;have HC1:=Hd (HCT.out w1 hr1);have HR1:=Hd hr1;obtain⟨q0,q1,q2,q3,q4,q5⟩:=Sx (hcell w1 (Below.refl _ _));have HCC:=Hd hcell;clear hcell hb1 hr1 hw1 HF HCT
   go_wp2_with fail
   refine HC1.out.mono ?_;rintro r w2 ⟨rfl,hb2⟩;have HB2:=Hd (HB1.out.trans (hb2.mono HB1.out.size));have HF2:=Hd (HFW.out w2 (HR1.out.below hb2) (by omega));clear q0 q1 q2 q3 q4 q5;obtain⟨q0,q1,q2,q3,q4,q5⟩:=Sx (HCC.out w2 hb2);clear hb2 HCC HFW
   go_wp2_with fail
   refine HF2.out.mono ?_;rintro r w3 ⟨rfl,hb3⟩;have HB3:=Hd (HB2.out.trans (hb3.mono HB2.out.size));clear hb3;generalize hb:(partsX x).all fewP=bb at *
   go_wp2_with fail
   go_ret
   exact⟨ret_bool (by rw [HT1.out]),HB3.out⟩
 · have hq:200-sizeX x=0:=by omega
   rw [hq] at HCT;have HT1:=Hd (show tinyX x=false by rw [HT.out];simp [hs]);clear hq HT HFW
   go_enter Tryz.func19,Tryz.ntmps19
   go_upto_region 1 with(fail)
   generalize hw1:w.alloc _=w1;obtain⟨hb1,hg,hr1,hcell⟩:=HF.out w1 hw1;have HB1:=Hd hb1;have HC1:=Hd (HCT.out w1 hr1);obtain⟨q0,q1,q2,q3,q4,q5⟩:=Sx (hcell w1 (Below.refl _ _));clear hcell hb1 hr1 hw1 HF HCT
   go_wp2_with fail
   refine HC1.out.mono ?_;rintro r w2 ⟨rfl,hb2⟩;have HB2:=Hd (HB1.out.trans (hb2.mono HB1.out.size));clear hb2
   go_wp2_with fail
   go_ret
   exact⟨ret_bool HT1.out.symm,HB2.out⟩
end
section
open Go.RowKit
def partsOf(ss:List ByteArray):List (List UInt8):=ss.map fun s=>s.data.toList
def CutTo(c:UInt8) (s:ByteArray) (ss:List ByteArray) (f i:Nat):Prop:=
 ss.length≤i∧((i≤s.size∧f≤i∧cutL c s.data.toList=partsOf ss++cutL c (s.data.toList.drop f)∧c∉(s.data.toList.drop f).take (i-f)) ∨
 (i=s.size+1∧f=i∧cutL c s.data.toList=partsOf ss))
section
variable {c:UInt8}{s:ByteArray}{ss:List ByteArray}{f i:Nat}
theorem cutTo_zero:CutTo c s [] 0 0:=⟨by simp,.inl ⟨by omega,by omega,by simp [partsOf],by simp⟩⟩
theorem cutTo_bd(H:CutTo c s ss f i) (hi:i≤s.size):f≤i:=by
 obtain⟨_,h | h⟩:=H <;> omega
theorem extract_at(hi:i≤s.size):(s.extract f i).data.toList=(s.data.toList.drop f).take (i-f):=Lib.extract_data s f i
theorem cutTo_last(H:CutTo c s ss f i) (hi:i=s.size):CutTo c s (ss++[s.extract f i]) (i+1) (i+1):=by
 subst hi;obtain⟨hl,h | h⟩:=H
 · obtain⟨_,hf,he,hn⟩:=h;refine⟨by simp;omega,.inr ⟨rfl,rfl,?_⟩⟩;have h1:(s.data.toList.drop f).take (s.size-f)=s.data.toList.drop f:=List.take_of_length_le (by rw [Lib.size_eq];simp);rw [h1] at hn;rw [he,cutL_none hn];simp only [partsOf,List.map_append,List.map_cons,List.map_nil];rw [extract_at (Nat.le_refl _),h1]
 · omega
theorem cutTo_cut(H:CutTo c s ss f i) (hi:i<s.size) (hc:s[i]'hi=c):CutTo c s (ss++[s.extract f i]) (i+1) (i+1):=by
 obtain⟨hl,h | h⟩:=H
 · obtain⟨_,hf,he,hn⟩:=h;have hlen:i<s.data.toList.length:=by rw [← Lib.size_eq];exact hi
   refine⟨by simp;omega,.inl ⟨by omega,by omega,?_,by simp⟩⟩
   have e1:s.data.toList.drop f=(s.data.toList.drop f).take (i-f)++c::s.data.toList.drop (i+1):=by
    have h1:=(List.take_append_drop (i-f) (s.data.toList.drop f)).symm
    have h2:(s.data.toList.drop f).drop (i-f)=c::s.data.toList.drop (i+1):=by
     rw [List.drop_drop,show f+(i-f)=i by omega,List.drop_eq_getElem_cons hlen,at_list s i hi,hc]
    rw [h2] at h1;exact h1
   rw [he,e1,cutL_at hn];simp only [partsOf,List.map_append,List.map_cons,List.map_nil,List.append_assoc,List.singleton_append];rw [extract_at (by omega)]
 · omega
theorem cutTo_on(H:CutTo c s ss f i) (hi:i<s.size) (hc:¬ s[i]'hi=c):CutTo c s ss f (i+1):=by
 obtain⟨hl,h | h⟩:=H
 · obtain⟨_,hf,he,hn⟩:=h;have hlen:i<s.data.toList.length:=by rw [← Lib.size_eq];exact hi
   refine⟨by omega,.inl ⟨by omega,by omega,he,?_⟩⟩;have e1:i+1-f=(i-f)+1:=by omega
   have hd:i-f<(s.data.toList.drop f).length:=by rw [List.length_drop];omega
   rw [e1,List.take_succ_eq_append_getElem hd,List.mem_append];rintro (h | h)
   · exact hn h
   · simp only [List.mem_singleton,List.getElem_drop] at h
     apply hc
     rw [← at_list s i hi,h]
     congr 1
     omega
 · omega
theorem cutTo_end(H:CutTo c s ss f i) (hi:¬ i≤s.size):cutL c s.data.toList=partsOf ss:=by
 obtain⟨_,h | h⟩:=H
 · omega
 · exact h.2.2
end
def CutsTo(c:UInt8) (s:ByteArray) (w:World) (e:Ending) (w':World):Prop:=
 ∃ (A:Option Addr) (n k:Nat) (ss:List ByteArray),e=.returned (.slice A n k)∧RdT w' A n ss∧cutL c s.data.toList=partsOf ss∧n≤s.size+1∧Below w.heap.size w w'
theorem cutsTo_mk{c:UInt8}{s:ByteArray}{w w':World}{base:Nat}{T:TypeId}{v:Value}{ss:List ByteArray}{f i n:Nat}
 (H:CutTo c s ss f i) (hi:¬ i≤s.size) (hi2:i≤s.size+1) (hs:s.size≤1000) (hn:n=ss.length) (hrow:w'.ownsRow base T 1 v n (ss.map Value.string)) (hb:Below w.heap.size w w'):
 CutsTo c s w (.returned v) w':=by
 have h1:=cutTo_end H hi;have h2:=H.1;obtain⟨A,k,rfl,hrd,_⟩:=RdT.of_own hrow (by omega);exact⟨A,n,k,ss,rfl,hrd,h1,by omega,hb⟩
theorem infoString:(Tryz.prog.info? 9).map (fun i=>(i.zero,i.size,i.bytes))=some (some (.string ByteArray.empty),1,16):=by kernel_rfl
theorem string_cells(l:List ByteArray):∀ u∈l.map Value.string,u.oneCell'=true:=by
 intro u hu;simp only [List.mem_map] at hu;obtain⟨z,_,rfl⟩:=hu;rfl
theorem refCut(s:ByteArray) (x:Int) (c:UInt8) (hx:x=(c.toNat:Int)) (w:World) (hs:s.size≤1000):
 Calls Tryz.prog 164 #[.string s,.int .u8 x] w (CutsTo c s w):=by
 have HX:=Hd hx;clear hx;obtain⟨i0,hi,hz0,hz1,hz2⟩:=info_parts infoString;have hr0:=Hd (World.ownsRow_lit (base:=w.heap.size) (e:=9) (size:=1) w #[] 0 (Nat.le_refl _) (by decide) rfl);have HB0:=Hd ((Below.refl w.heap.size w).alloc (Nat.le_refl _) (.cells #[] 9))
 go_enter Tryz.func164,Tryz.ntmps164
 go_wp2_with fail
 go_loopw [5,6,7] (fun v fr i wr=>∃ (ss:List ByteArray) (f k:Nat),i=.int .i64 k∧fr=.int .i64 f∧k≤s.size+1∧CutTo c s ss f k∧wr.ownsRow w.heap.size 9 1 v ss.length (ss.map Value.string)∧Below w.heap.size w wr)
  (fun _ _ i _=>s.size+1-(intOf i).toNat)
 case atStart=>exact⟨[],0,0,rfl,rfl,by omega,cutTo_zero,hr0.out,HB0.out⟩
 case round=>
  obtain⟨ss,f,k,rfl,rfl,hk,hcut,hrow,hbel⟩:=hrel;have HC:=Hd hcut;have hsl:=hcut.1;have HR:=Hd hrow;have HB:=Hd hbel;have hws:=hbel.size
  by_cases hle:k≤s.size
  · have hfk:=cutTo_bd hcut hle;clear hcut hrow hbel hr0 HB0
    by_cases hend:k=s.size
    · have hb1:((k:Int)==(s.size:Int))=true:=by rw [hend];simp
      have HE:=Hd hend;clear hend
      go_wp2_with (first | (at_builtin;refine wpList_append_own_at _ rfl _ _ 44 rfl w.heap.size 9 i0 (.string ByteArray.empty) 1 16 Tryz.underlying44 hi hz0 hz1 hz2 rfl (by decide) _ _ _ rfl (HR.out.alloc _) ⟨wr.heap.size,0,none⟩ 1 1 [.string (s.extract f k)] rfl rfl (cell_one_new _ _ _) (string_cells [s.extract f k]) (by unfold maxLen;omega) (by omega) (by simp;omega) ?_;intro v' w1 hown' hgrow hnil hloc))
      have HO:=Hd hown';have HG:=Hd hgrow;have hs1:=hgrow.size
      simp at hs1
      clear hown' hgrow hnil hloc
      go_roundw
      case rel=>
       refine⟨ss++[s.extract f k],k+1,k+1,by go_num,by go_num,by omega,cutTo_last HC.out HE.out,?_,?_⟩
       · rw [List.length_append,List.map_append];exact HO.out
       · exact(HB.out.alloc (by have:=HB.out.size;omega) _).grown HG.out (by have:=HB.out.size;simp;omega) (fun j hj=>(HR.out.lt j hj).1)
      case measure=>simp [intOf];omega
    · have hlt:k<s.size:=by omega
      have hb1:((k:Int)==(s.size:Int))=false:=by rw [beq_eq_false_iff_ne];omega
      clear hend
      by_cases hce:s[k]'hlt=c
      · have hb2:(((s[k]'hlt).toNat:Int)==x)=true:=by rw [HX.out,hce];simp
        have HE:=Hd hce;clear hce
        go_wp2_with (first | (at_builtin;refine wpList_append_own_at _ rfl _ _ 44 rfl w.heap.size 9 i0 (.string ByteArray.empty) 1 16 Tryz.underlying44 hi hz0 hz1 hz2 rfl (by decide) _ _ _ rfl (HR.out.alloc _) ⟨wr.heap.size,0,none⟩ 1 1 [.string (s.extract f k)] rfl rfl (cell_one_new _ _ _) (string_cells [s.extract f k]) (by unfold maxLen;omega) (by omega) (by simp;omega) ?_;intro v' w1 hown' hgrow hnil hloc))
        have HO:=Hd hown';have HG:=Hd hgrow;have hs1:=hgrow.size
        simp at hs1
        clear hown' hgrow hnil hloc
        go_roundw
        case rel=>
         refine⟨ss++[s.extract f k],k+1,k+1,by go_num,by go_num,by omega,cutTo_cut HC.out hlt HE.out,?_,?_⟩
         · rw [List.length_append,List.map_append];exact HO.out
         · exact(HB.out.alloc (by have:=HB.out.size;omega) _).grown HG.out (by have:=HB.out.size;simp;omega) (fun j hj=>(HR.out.lt j hj).1)
        case measure=>simp [intOf];omega
      · have hb2:(((s[k]'hlt).toNat:Int)==x)=false:=by
         rw [HX.out,beq_eq_false_iff_ne];intro e;exact hce (UInt8.toNat_inj.1 (by omega))
        have HE:=Hd hce;clear hce
        go_wp2_with fail
        go_roundw
        case rel=>exact⟨ss,f,k+1,by go_num,rfl,by omega,cutTo_on HC.out hlt HE.out,HR.out,HB.out⟩
        case measure=>simp [intOf];omega
  · have HEND:=Hd (cutsTo_mk hcut hle hk hs rfl hrow hbel);clear hcut hrow hbel hr0 HB0
    go_wp2_with fail
    go_ret
    exact HEND.out
end
section
open Go.RowKit
theorem cutL_len{c:UInt8}:∀ {l p:List UInt8},p∈cutL c l→p.length≤l.length
 | [],p,h=>by simp [cutL] at h;simp [h]
 | b::l,p,h=>by
  unfold cutL at h
  split at h
  · rcases List.mem_cons.1 h with h | h
    · simp [h]
    · have:=cutL_len h;simp;omega
  · cases hc:cutL c l with
    | nil=>rw [hc] at h;simp at h;simp [h]
    | cons q qs=>
     rw [hc] at h;rcases List.mem_cons.1 h with h | h
     · have:=cutL_len (l:=l) (c:=c) (p:=q) (by rw [hc];simp);rw [h]
       simp
       omega
     · have:=cutL_len (l:=l) (c:=c) (p:=p) (by rw [hc];simp [h])
       simp
       omega
theorem parts_len{c:UInt8}{s:ByteArray}{ss:List ByteArray}{k:Nat}(h:cutL c s.data.toList=partsOf ss) (hk:k<ss.length):(ss[k]?.getD ByteArray.empty).size≤s.size:=by
 rw [List.getElem?_eq_getElem hk,Option.getD_some,Lib.size_eq,Lib.size_eq]
 apply cutL_len (c:=c)
 rw [h];exact List.mem_map.2 ⟨_,List.getElem_mem hk,rfl⟩
def partsTo(ss:List ByteArray) (k:Nat):Prop:=∀ j,j<k→partB (ss[j]?.getD ByteArray.empty).data.toList=true
section
variable {s:ByteArray}{ss:List ByteArray}{k:Nat}
theorem partsTo_succ(H:partsTo ss k) (h:partB (ss[k]?.getD ByteArray.empty).data.toList=true):partsTo ss (k+1):=fun j hj=>by
 rcases Nat.lt_or_ge j k with h1 | h1
 · exact H j h1
 · obtain rfl:j=k:=by omega
   exact h
theorem path_end(hc:cutL 47 s.data.toList=partsOf ss) (H:partsTo ss k) (h:ss.length≤k):pathB s.data.toList=true:=by
 unfold pathB;rw [hc,List.all_eq_true];intro p hp;obtain⟨x,hx,rfl⟩:=List.mem_map.1 hp;obtain⟨j,hj,rfl⟩:=List.getElem_of_mem hx;have:=H j (by omega);rwa [List.getElem?_eq_getElem hj] at this
theorem path_bad(hc:cutL 47 s.data.toList=partsOf ss) (hk:k<ss.length) (h:partB (ss[k]?.getD ByteArray.empty).data.toList=false):pathB s.data.toList=false:=by
 unfold pathB;rw [hc]
 cases ha:(partsOf ss).all partB with
 | false=>rfl
 | true=>
  rw [List.all_eq_true] at ha;have:=ha _ (List.mem_map.2 ⟨ss[k],List.getElem_mem hk,rfl⟩);rw [List.getElem?_eq_getElem hk,Option.getD_some,this] at h
  cases h
end
section
variable {x:ByteArray}{ps:List ByteArray}{m:Nat}
theorem part_many(hc:cutL 46 x.data.toList=partsOf ps) (h:2<ps.length):partB x.data.toList=false:=by
 unfold partB;rw [hc]
 match ps,h with
 | a::b::c::r,_=>rfl
theorem part_low(hc:cutL 46 x.data.toList=partsOf ps) (h:lowB (ps[0]?.getD ByteArray.empty).data.toList=false) (h0:0<ps.length):partB x.data.toList=false:=by
 unfold partB;rw [hc]
 match ps,h0 with
 | [a],_=>exact h
 | [a,b],_=>show(lowB a.data.toList && _)=false;rw [show lowB a.data.toList=false from h];rfl
 | a::b::c::r,_=>rfl
theorem part_one(hc:cutL 46 x.data.toList=partsOf ps) (h:lowB (ps[0]?.getD ByteArray.empty).data.toList=true) (h1:ps.length=1):partB x.data.toList=true:=by
 unfold partB;rw [hc]
 match ps,h1 with
 | [a],_=>exact h
theorem part_two(hc:cutL 46 x.data.toList=partsOf ps) (h:lowB (ps[0]?.getD ByteArray.empty).data.toList=true) (h2:ps.length=2):partB x.data.toList=numB (ps[1]?.getD ByteArray.empty).data.toList:=by
 unfold partB;rw [hc]
 match ps,h2 with
 | [a,b],_=>show(lowB a.data.toList && numB b.data.toList)=_;rw [show lowB a.data.toList=true from h];rfl
theorem parts_pos{c:UInt8}(hc:cutL c x.data.toList=partsOf ps):0<ps.length:=by
 cases ps with
 | nil=>exact absurd hc (cutL_ne _ _)
 | cons a r=>simp
end
theorem refPath(s:ByteArray) (w:World) (hs:s.size≤1000):
 Calls Tryz.prog 149 #[.string s] w fun e w'=>e=.returned (.bool (pathB s.data.toList))∧Below w.heap.size w w':=by
 have hx47:(47:Int)=((47:UInt8).toNat:Int):=by decide
 have hx46:(46:Int)=((46:UInt8).toNat:Int):=by decide
 have HCUT:=Hd fun(w:World)=>refCut s 47 47 hx47 w hs;have HCUT2:=Hd fun(x:ByteArray) (w:World) (hs:x.size≤1000)=>refCut x 46 46 hx46 w hs;clear hx47 hx46
 go_enter Tryz.func149,Tryz.ntmps149
 go_wp2_with fail
 refine(HCUT.out _).mono ?_;rintro e w1 ⟨A,n,c,ss,rfl,hrd,hcut,hn1,hb⟩;have HB1:=Hd hb;have HCS:=Hd hcut;have HL:=Hd hrd.len;clear hb hcut HCUT
 go_wp2_with fail
 go_loopw [4] (fun i wr=>∃ k:Nat,k≤n∧i=.int .i64 k∧partsTo ss k∧Below w1.heap.size w1 wr) (fun i _=>n-(intOf i).toNat)
 case atStart=>exact⟨0,Nat.zero_le _,rfl,fun j hj=>absurd hj (by omega),Below.refl _ _⟩
 case round=>
  obtain⟨k,hk,rfl,hpt,hbw⟩:=hrel;have HP:=Hd hpt;have HB:=Hd hbw;clear hpt
  by_cases hlt:k<n
  · obtain⟨b,off,rfl,hbb,hc⟩:=hrd.at_ hlt;have hck:=(hbw.cell (p:=⟨b,off+k,none⟩) hbb).trans (hc k hlt);have hkk:k<ss.length:=by rw [HL.out];exact hlt
    have hxs:=parts_len HCS.out hkk;have HBAD:=Hd fun h=>path_bad HCS.out hkk h;have HNEXT:=Hd fun h=>partsTo_succ HP.out h;generalize hx:ss[k]?.getD ByteArray.empty=x at hck hxs HBAD HNEXT;clear hc hbw hx hkk
    go_wp2_with fail
    refine(HCUT2.out x _ (by omega)).mono ?_;rintro e w2 ⟨A2,n2,c2,ps,rfl,hrd2,hcut2,hn2,hb2⟩;have HB2:=Hd (HB.out.trans (hb2.mono HB.out.size));have h0:=parts_pos hcut2;have hl2:=hrd2.len;obtain⟨b2,off2,rfl,hbb2,hc2⟩:=hrd2.at_ (i:=0) (by omega);have hc0:=hc2 0 (by omega);rw [Nat.add_zero] at hc0;have ha:=parts_len hcut2 h0;have h0n:0<n2:=by omega
    by_cases h3:2<n2
    · have HE:=Hd (HBAD.out (part_many hcut2 (by omega)));clear hcut2 hb2 hrd2 hc2 hc0 hl2
      go_wp2_with fail
      go_ret
      exact⟨ret_bool HE.out.symm,HB1.out.trans (HB2.out.mono HB1.out.size)⟩
    · by_cases hlow:lowB (ps[0]?.getD ByteArray.empty).data.toList=true
      · by_cases h1:n2<2
        · have HE:=Hd (HNEXT.out (part_one hcut2 hlow (by omega)));clear hcut2 hb2 hrd2 hc2 hl2;generalize ps[0]?.getD ByteArray.empty=a at hc0 ha hlow
          go_wp2_with fail
          refine(refLow a _ (by omega)).mono ?_;rw [hlow];rintro e w3 ⟨rfl,hb3⟩;have HB3:=Hd (HB2.out.trans (hb3.mono HB2.out.size));clear hb3 hlow
          go_wp2_with fail
          go_roundw
          case rel=>exact⟨k+1,by omega,by go_num,HE.out,HB3.out⟩
          case measure=>simp [intOf];omega
        · have hE:=part_two hcut2 hlow (by omega);have hc1:=hc2 1 (by omega);have hy:=parts_len hcut2 (k:=1) (by omega);clear hcut2 hb2 hrd2 hc2 hl2;generalize ps[0]?.getD ByteArray.empty=a at hc0 ha hlow;generalize ps[1]?.getD ByteArray.empty=y at hc1 hy hE;have HE:=Hd hE;clear hE
          go_wp2_with fail
          refine(refLow a _ (by omega)).mono ?_;rw [hlow];rintro e w3 ⟨rfl,hb3⟩;have HB3:=Hd (HB2.out.trans (hb3.mono HB2.out.size));have hc1:=(hb3.cell (p:=⟨b2,off2+1,none⟩) hbb2).trans hc1;clear hb3 hlow;have hdt:decide ((n2:Int)<2)=false:=decide_eq_false (by omega);have h1n:1<n2:=by omega
          by_cases g1:y.size<1
          · have HF:=Hd (HBAD.out (HE.out.trans (num_len (.inl g1))))
            go_wp2_with fail
            go_ret
            exact⟨ret_bool HF.out.symm,HB1.out.trans (HB3.out.mono HB1.out.size)⟩
          · by_cases g2:3<y.size
            · have HF:=Hd (HBAD.out (HE.out.trans (num_len (.inr g2))))
              go_wp2_with fail
              go_ret
              exact⟨ret_bool HF.out.symm,HB1.out.trans (HB3.out.mono HB1.out.size)⟩
            · have hd1:decide ((y.size:Int)<1)=false:=decide_eq_false (by omega);have hd2:decide ((3:Int)<(y.size:Int))=false:=decide_eq_false (by omega);have hd3:decide ((2:Int)<(n2:Int))=false:=decide_eq_false (by omega);have y0:0<y.size:=by omega
              have y3:y.size≤3:=by omega
              clear g1 g2
              by_cases hf:((y[0]'y0).toNat:Int)=48
              · have HF:=Hd (HBAD.out (HE.out.trans (num_first y0 hf)));have hfb:(((y[0]'y0).toNat:Int)==48)=true:=by simpa using hf
                clear hf
                go_wp2_with fail
                go_ret
                exact⟨ret_bool HF.out.symm,HB1.out.trans (HB3.out.mono HB1.out.size)⟩
              · have HF:=Hd hf;have hfb:(((y[0]'y0).toNat:Int)==48)=false:=by simpa using hf
                clear hf
                go_wp2_with fail
                go_loopw [7] (fun i wr=>∃ j:Nat,j≤y.size∧i=.int .i64 j∧wr=w3∧Digits y j) (fun i _=>y.size-(intOf i).toNat)
                case atStart=>exact⟨0,Nat.zero_le _,rfl,rfl,digits_zero⟩
                case round=>
                 obtain⟨j,hj,rfl,rfl,hdg⟩:=hrel;have HD:=Hd hdg;clear hdg
                 by_cases hjy:j<y.size
                 · by_cases hdj:digitB ((y[j]'hjy).toNat:Int)=true
                   · go_wp2_with (go_at_call 131;refine(refInD _ _).mono ?_;rintro e w' ⟨rfl,rfl⟩)
                     go_roundw
                     case rel=>exact⟨j+1,by omega,by go_num,(by first | trivial | rfl),digits_snoc HD.out hjy hdj⟩
                     case measure=>simp [intOf];omega
                   · have hdj:digitB ((y[j]'hjy).toNat:Int)=false:=by simpa using hdj
                     have HG:=Hd (HBAD.out (HE.out.trans (num_at hjy hdj)))
                     go_wp2_with (go_at_call 131;refine(refInD _ _).mono ?_;rintro e w' ⟨rfl,rfl⟩)
                     go_ret
                     exact⟨ret_bool HG.out.symm,HB1.out.trans (HB3.out.mono HB1.out.size)⟩
                 · have HG:=Hd (HNEXT.out (HE.out.trans (num_yes y0 y3 HF.out fun i h=>HD.out i h (by omega))))
                   go_wp2_with fail
                   go_roundw
                   case rel=>exact⟨k+1,by omega,by go_num,HG.out,HB3.out⟩
                   case measure=>simp [intOf];omega
      · have hlow:lowB (ps[0]?.getD ByteArray.empty).data.toList=false:=by simpa using hlow
        have HE:=Hd (HBAD.out (part_low hcut2 hlow h0));clear hcut2 hb2 hrd2 hc2 hl2;generalize ps[0]?.getD ByteArray.empty=a at hc0 ha hlow
        go_wp2_with fail
        refine(refLow a _ (by omega)).mono ?_;rw [hlow];rintro e w3 ⟨rfl,hb3⟩;have HB3:=Hd (HB2.out.trans (hb3.mono HB2.out.size));clear hb3 hlow
        go_wp2_with fail
        go_ret
        exact⟨ret_bool HE.out.symm,HB1.out.trans (HB3.out.mono HB1.out.size)⟩
  · go_wp2_with fail
    go_ret
    exact⟨ret_bool (path_end HCS.out HP.out (by rw [HL.out];omega)).symm,HB1.out.trans (HB.out.mono HB1.out.size)⟩
end
section
open Go.RowKit Go.Sort
def literalX(x:Ex):Bool:=if x.k==5 then(x.op==1) && (x.subs.length==1) && ((subX x 0).k==1) else(x.k==1) || (x.k==2) || (x.k==4)
def constX(x:Ex):Bool:=if x.k==14 then x.subs.all literalX else literalX x
theorem int_len(n:Nat):((n:Int)==1)=(n==1):=by rw [Bool.eq_iff_iff];simp;omega
theorem refLiteral(x:Ex) (A:Option Addr) (ca:Nat) (B:Option Addr) (cb:Nat) (w:World) (hr:rdX w x A B):
 Calls Tryz.prog 151 #[.agg (exA x A ca B cb)] w fun e w'=>e=.returned (.bool (literalX x))∧Below w.heap.size w w':=by
 have HF:=Hd fun w1 h=>box_facts w x A ca B cb w1 h hr;have HS:=Hd (show literalX x=if x.k==5 then(x.op==1) && (x.subs.length==1) && ((subX x 0).k==1) else(x.k==1) || (x.k==2) || (x.k==4) from rfl);have hmx:=hr.subs.max;clear hr;unfold exA at HF ⊢;generalize literalX x=res at *;generalize x.k=k at *;generalize x.op=o at *;generalize hlen:x.subs.length=n at *;have hln:=int_len n
 cases h5:(k==5) with
 | true=>
  obtain rfl:k=5:=by simpa using h5
  cases ho:(o==1) with
  | false=>
   have HN:=Hd (show res=false by rw [HS.out,ho];rfl)
   go_enter Tryz.func151,Tryz.ntmps151
   go_upto_region 1 with(fail)
   generalize hw1:w.alloc _=w1;obtain⟨hb1,hg,hr1,hcell⟩:=HF.out w1 hw1;have HB1:=Hd hb1;obtain⟨q0,-,-,q3,-,q5⟩:=Sx (hcell w1 (Below.refl _ _));clear hcell hb1 hr1 hw1 HF
   go_wp2_with fail
   go_ret
   exact⟨ret_bool HN.out.symm,HB1.out⟩
  | true=>
   cases hl:(n==1) with
   | false=>
    have HN:=Hd (show res=false by rw [HS.out,ho,hl];rfl);rw [hl] at hln
    go_enter Tryz.func151,Tryz.ntmps151
    go_upto_region 1 with(fail)
    generalize hw1:w.alloc _=w1;obtain⟨hb1,hg,hr1,hcell⟩:=HF.out w1 hw1;have HB1:=Hd hb1;obtain⟨q0,-,-,q3,-,q5⟩:=Sx (hcell w1 (Below.refl _ _));clear hcell hb1 hr1 hw1 HF
    go_wp2_with fail
    go_ret
    exact⟨ret_bool HN.out.symm,HB1.out⟩
   | true=>
    have HN:=Hd (show res=((subX x 0).k==1) by rw [HS.out,ho,hl];rfl);rw [hl] at hln;obtain rfl:n=1:=by simpa using hl
    go_enter Tryz.func151,Tryz.ntmps151
    go_upto_region 1 with(fail)
    generalize hw1:w.alloc _=w1;obtain⟨hb1,hg,hr1,hcell⟩:=HF.out w1 hw1;obtain⟨b,off,rfl,hb,hat⟩:=hr1.sub (i:=0) (by omega);obtain⟨A',ca',B',cb',hrg,hrd⟩:=hat 0 (by omega);rw [Nat.zero_mul,Nat.add_zero] at hrg;obtain⟨c0,c1,c2,c3,c4,c5⟩:=rangeAt_six hrg;have HB1:=Hd hb1;obtain⟨q0,-,-,q3,-,q5⟩:=Sx (hcell w1 (Below.refl _ _));clear hcell hb1 hr1 hw1 HF hat hrg hrd c1 c2 c3 c4 c5;generalize (subX x 0).k=z at *
    go_wp2_with fail
    go_ret
    exact⟨ret_bool HN.out.symm,HB1.out⟩
 | false=>
  have HN:=Hd (show res=((k==1) || (k==2) || (k==4)) by rw [HS.out,h5];rfl)
  cases h1:(k==1) <;> cases h2:(k==2) <;> cases h4:(k==4)
  all_goals (
   rw [h1,h2,h4] at HN
   go_enter Tryz.func151,Tryz.ntmps151
   go_upto_region 1 with(fail)
   generalize hw1:w.alloc _=w1;obtain⟨hb1,hg,hr1,hcell⟩:=HF.out w1 hw1;have HB1:=Hd hb1;have q0:=hcell w1 (Below.refl _ _) 0;clear hcell hb1 hr1 hw1 HF
   go_wp2_with fail
   go_ret
   exact⟨ret_bool HN.out.symm,HB1.out⟩)
theorem refConst(x:Ex) (A:Option Addr) (ca:Nat) (B:Option Addr) (cb:Nat) (w:World) (hr:rdX w x A B):
 Calls Tryz.prog 129 #[.agg (exA x A ca B cb)] w fun e w'=>e=.returned (.bool (constX x))∧Below w.heap.size w w':=by
 have HF:=Hd fun w1 h=>box_facts w x A ca B cb w1 h hr;have HS:=Hd (show constX x=if x.k==14 then x.subs.all literalX else literalX x from rfl);have hmx:=hr.subs.max;have HLT:=Hd fun(x:Ex) (A:Option Addr) (ca:Nat) (B:Option Addr) (cb:Nat) (w:World) (hr:rdX w x A B)=>refLiteral x A ca B cb w hr;have HAL:=Hd fun i (hi:i<x.subs.length) (h:literalX (subX x i)=false)=>all_false (f:=literalX) hi h;have HAS:=Hd fun k (hk:k<x.subs.length) h (hx:literalX (subX x k)=true)=>all_take_succ (f:=literalX) hk h hx;have HAE:=Hd fun k h (hk:x.subs.length≤k)=>all_take_end (l:=x.subs) (f:=literalX) (k:=k) h hk;have HLX:=Hd fun w1 (h:rdX w1 x A B)=>refLiteral x A ca B cb w1 h;clear hr;unfold exA at HF HLT HLX ⊢;generalize constX x=res at *;generalize literalX x=lx at *;generalize x.k=k at *;generalize hlen:x.subs.length=n at *
 cases h14:(k==14) with
 | false=>
  have n14:(k != 14)=true:=by rw [bne,h14];rfl
  have HN:=Hd (show res=lx by rw [HS.out,h14];rfl)
  go_enter Tryz.func129,Tryz.ntmps129
  go_upto_region 1 with(fail)
  generalize hw1:w.alloc _=w1;obtain⟨hb1,hg,hr1,hcell⟩:=HF.out w1 hw1;have HB1:=Hd hb1;obtain⟨q0,q1,q2,q3,q4,q5⟩:=Sx (hcell w1 (Below.refl _ _));have HL1:=Hd (HLX.out w1 hr1);clear hcell hb1 hr1 hw1 HF
  go_wp2_with fail
  refine HL1.out.mono ?_;rintro r w2 ⟨rfl,hb2⟩;have HB2:=Hd (HB1.out.trans (hb2.mono HB1.out.size));clear hb2
  go_wp2_with fail
  go_ret
  exact⟨ret_bool HN.out.symm,HB2.out⟩
 | true=>
  obtain rfl:k=14:=by simpa using h14
  have HN:=Hd (show res=x.subs.all literalX by rw [HS.out];rfl)
  go_enter Tryz.func129,Tryz.ntmps129
  go_upto_region 1 with(fail)
  generalize hw1:w.alloc _=w1;obtain⟨hb1,hg,hr1,hcell⟩:=HF.out w1 hw1;have HB1:=Hd hb1;have q0:=hcell w1 (Below.refl _ _) 0;have q5:=hcell w1 (Below.refl _ _) 5;have HC:=Hd hcell;have HR1:=Hd hr1;clear hcell hb1 hr1 hw1 HF
  go_wp2_with fail
  go_loopw [3] (fun i wr=>∃ k:Nat,k≤n∧i=.int .i64 k∧(x.subs.take k).all literalX=true∧Below w1.heap.size w1 wr) (fun i _=>n-(intOf i).toNat)
  case atStart=>exact⟨0,Nat.zero_le _,rfl,by simp,Below.refl _ _⟩
  case round=>
   obtain⟨k,hk,rfl,hall,hbw⟩:=hrel;have HA:=Hd hall;have HBW:=Hd hbw;have hc5:=HC.out wr hbw 5;clear hall
   by_cases hlt:k<n
   · obtain⟨b,off,rfl,hb,hat⟩:=(HR1.out.below hbw).sub (i:=k) (by omega);obtain⟨A',ca',B',cb',hrg,hrd⟩:=hat k (by omega);obtain⟨c0,c1,c2,c3,c4,c5⟩:=rangeAt_six hrg;have HRD:=Hd hrd;have HCL:=Hd (HLT.out (subX x k) A' ca' B' cb' wr hrd);have HAL':=Hd (HAL.out k (by omega));have HAS':=Hd (HAS.out k (by omega) HA.out);clear hat hbw hrg hrd
     cases hl:literalX (subX x k) with
     | false=>
      rw [hl] at HCL;have HF':=Hd (HAL'.out hl)
      go_wp2_with fail
      refine HCL.out.mono ?_;rintro r w2 ⟨rfl,hb2⟩;have HB2:=Hd (HBW.out.trans (hb2.mono HBW.out.size));clear hb2
      go_wp2_with fail
      go_ret
      exact⟨ret_bool (by rw [HN.out,HF'.out]),HB1.out.trans (HB2.out.mono HB1.out.size)⟩
     | true=>
      rw [hl] at HCL;have HF':=Hd (HAS'.out hl)
      go_wp2_with fail
      refine HCL.out.mono ?_;rintro r w2 ⟨rfl,hb2⟩;have HB2:=Hd (HBW.out.trans (hb2.mono HBW.out.size));clear hb2
      go_wp2_with fail
      go_roundw
      case rel=>exact⟨k+1,by omega,by go_num,HF'.out,HB2.out⟩
      case measure=>simp [intOf];omega
   · have HE:=Hd (HAE.out k HA.out (by omega))
     go_wp2_with fail
     go_ret
     exact⟨ret_bool (by rw [HN.out,HE.out]),HB1.out.trans (HBW.out.mono HB1.out.size)⟩
def numbersX(x:Ex):Bool:=
 if x.op<(if x.k==6 then 3 else if x.k==5 then 1 else 0)∨(if x.k==6 then 16 else if x.k==5 then 2 else 0)<x.op then false
 else if x.k==1 then decide (0≤x.n) else if(x.k==2 || x.k==13) then(x.n==0 || x.n==1) else x.n==0
theorem refNumbers(x:Ex) (A:Option Addr) (ca:Nat) (B:Option Addr) (cb:Nat) (w:World) (hr:rdX w x A B):
 Calls Tryz.prog 125 #[.agg (exA x A ca B cb)] w fun e w'=>e=.returned (.bool (numbersX x))∧Below w.heap.size w w':=by
 have HF:=Hd fun w1 h=>box_facts w x A ca B cb w1 h hr
 have HS:=Hd (show numbersX x=if x.op<(if x.k==6 then 3 else if x.k==5 then 1 else 0)∨(if x.k==6 then 16 else if x.k==5 then 2 else 0)<x.op then false
  else if x.k==1 then decide (0≤x.n) else if(x.k==2 || x.k==13) then(x.n==0 || x.n==1) else x.n==0 from rfl)
 clear hr;unfold exA at HF ⊢;generalize numbersX x=res at *;generalize x.k=k at *;generalize x.op=o at *;generalize x.n=n at *
 by_cases h1:k=1
 · subst h1
   by_cases hlo:o<0
   · have HN:=Hd (show res=false by rw [HS.out];simp [hlo])
     go_enter Tryz.func125,Tryz.ntmps125
     go_upto_region 1 with(fail)
     generalize hw1:w.alloc _=w1;obtain⟨hb1,hg,hr1,hcell⟩:=HF.out w1 hw1;have HB1:=Hd hb1;obtain⟨q0,q1,-,q3,-,-⟩:=Sx (hcell w1 (Below.refl _ _));clear hcell hb1 hr1 hw1 HF
     go_wp2_with fail
     go_ret
     exact⟨ret_bool HN.out.symm,HB1.out⟩
   · by_cases hhi:0<o
     · have HN:=Hd (show res=false by rw [HS.out];simp [hlo,hhi])
       go_enter Tryz.func125,Tryz.ntmps125
       go_upto_region 1 with(fail)
       generalize hw1:w.alloc _=w1;obtain⟨hb1,hg,hr1,hcell⟩:=HF.out w1 hw1;have HB1:=Hd hb1;obtain⟨q0,q1,-,q3,-,-⟩:=Sx (hcell w1 (Below.refl _ _));clear hcell hb1 hr1 hw1 HF
       go_wp2_with fail
       go_ret
       exact⟨ret_bool HN.out.symm,HB1.out⟩
     · have HN:=Hd (show res=decide (0≤n) by rw [HS.out];simp [hlo,hhi])
       cases hd:decide (0≤n) <;> rw [hd] at HN
       all_goals (
        go_enter Tryz.func125,Tryz.ntmps125
        go_upto_region 1 with(fail)
        generalize hw1:w.alloc _=w1;obtain⟨hb1,hg,hr1,hcell⟩:=HF.out w1 hw1;have HB1:=Hd hb1;obtain⟨q0,q1,-,q3,-,-⟩:=Sx (hcell w1 (Below.refl _ _));clear hcell hb1 hr1 hw1 HF
        go_wp2_with fail
        go_ret
        exact⟨ret_bool HN.out.symm,HB1.out⟩)
 · have e1:(k==1)=false:=by simpa using h1
   by_cases h2:k=2
   · subst h2
     by_cases hlo:o<0
     · have HN:=Hd (show res=false by rw [HS.out];simp [hlo])
       go_enter Tryz.func125,Tryz.ntmps125
       go_upto_region 1 with(fail)
       generalize hw1:w.alloc _=w1;obtain⟨hb1,hg,hr1,hcell⟩:=HF.out w1 hw1;have HB1:=Hd hb1;obtain⟨q0,q1,-,q3,-,-⟩:=Sx (hcell w1 (Below.refl _ _));clear hcell hb1 hr1 hw1 HF
       go_wp2_with fail
       go_ret
       exact⟨ret_bool HN.out.symm,HB1.out⟩
     · by_cases hhi:0<o
       · have HN:=Hd (show res=false by rw [HS.out];simp [hlo,hhi])
         go_enter Tryz.func125,Tryz.ntmps125
         go_upto_region 1 with(fail)
         generalize hw1:w.alloc _=w1;obtain⟨hb1,hg,hr1,hcell⟩:=HF.out w1 hw1;have HB1:=Hd hb1;obtain⟨q0,q1,-,q3,-,-⟩:=Sx (hcell w1 (Below.refl _ _));clear hcell hb1 hr1 hw1 HF
         go_wp2_with fail
         go_ret
         exact⟨ret_bool HN.out.symm,HB1.out⟩
       · have HN:=Hd (show res=(n==0 || n==1) by rw [HS.out];simp [hlo,hhi])
         cases hd:(n==0) <;> cases hd1:(n==1) <;> rw [hd,hd1] at HN
         all_goals (
          go_enter Tryz.func125,Tryz.ntmps125
          go_upto_region 1 with(fail)
          generalize hw1:w.alloc _=w1;obtain⟨hb1,hg,hr1,hcell⟩:=HF.out w1 hw1;have HB1:=Hd hb1;obtain⟨q0,q1,-,q3,-,-⟩:=Sx (hcell w1 (Below.refl _ _));clear hcell hb1 hr1 hw1 HF
          go_wp2_with fail
          go_ret
          exact⟨ret_bool HN.out.symm,HB1.out⟩)
   · have e2:(k==2)=false:=by simpa using h2
     by_cases h5:k=5
     · subst h5
       by_cases hlo:o<1
       · have HN:=Hd (show res=false by rw [HS.out];simp [hlo])
         go_enter Tryz.func125,Tryz.ntmps125
         go_upto_region 1 with(fail)
         generalize hw1:w.alloc _=w1;obtain⟨hb1,hg,hr1,hcell⟩:=HF.out w1 hw1;have HB1:=Hd hb1;obtain⟨q0,q1,-,q3,-,-⟩:=Sx (hcell w1 (Below.refl _ _));clear hcell hb1 hr1 hw1 HF
         go_wp2_with fail
         go_ret
         exact⟨ret_bool HN.out.symm,HB1.out⟩
       · by_cases hhi:2<o
         · have HN:=Hd (show res=false by rw [HS.out];simp [hlo,hhi])
           go_enter Tryz.func125,Tryz.ntmps125
           go_upto_region 1 with(fail)
           generalize hw1:w.alloc _=w1;obtain⟨hb1,hg,hr1,hcell⟩:=HF.out w1 hw1;have HB1:=Hd hb1;obtain⟨q0,q1,-,q3,-,-⟩:=Sx (hcell w1 (Below.refl _ _));clear hcell hb1 hr1 hw1 HF
           go_wp2_with fail
           go_ret
           exact⟨ret_bool HN.out.symm,HB1.out⟩
         · have HN:=Hd (show res=(n==0) by rw [HS.out];simp [hlo,hhi])
           cases hd:(n==0) <;> rw [hd] at HN
           all_goals (
            go_enter Tryz.func125,Tryz.ntmps125
            go_upto_region 1 with(fail)
            generalize hw1:w.alloc _=w1;obtain⟨hb1,hg,hr1,hcell⟩:=HF.out w1 hw1;have HB1:=Hd hb1;obtain⟨q0,q1,-,q3,-,-⟩:=Sx (hcell w1 (Below.refl _ _));clear hcell hb1 hr1 hw1 HF
            go_wp2_with fail
            go_ret
            exact⟨ret_bool HN.out.symm,HB1.out⟩)
     · have e5:(k==5)=false:=by simpa using h5
       by_cases h6:k=6
       · subst h6
         by_cases hlo:o<3
         · have HN:=Hd (show res=false by rw [HS.out];simp [hlo])
           go_enter Tryz.func125,Tryz.ntmps125
           go_upto_region 1 with(fail)
           generalize hw1:w.alloc _=w1;obtain⟨hb1,hg,hr1,hcell⟩:=HF.out w1 hw1;have HB1:=Hd hb1;obtain⟨q0,q1,-,q3,-,-⟩:=Sx (hcell w1 (Below.refl _ _));clear hcell hb1 hr1 hw1 HF
           go_wp2_with fail
           go_ret
           exact⟨ret_bool HN.out.symm,HB1.out⟩
         · by_cases hhi:16<o
           · have HN:=Hd (show res=false by rw [HS.out];simp [hlo,hhi])
             go_enter Tryz.func125,Tryz.ntmps125
             go_upto_region 1 with(fail)
             generalize hw1:w.alloc _=w1;obtain⟨hb1,hg,hr1,hcell⟩:=HF.out w1 hw1;have HB1:=Hd hb1;obtain⟨q0,q1,-,q3,-,-⟩:=Sx (hcell w1 (Below.refl _ _));clear hcell hb1 hr1 hw1 HF
             go_wp2_with fail
             go_ret
             exact⟨ret_bool HN.out.symm,HB1.out⟩
           · have HN:=Hd (show res=(n==0) by rw [HS.out];simp [hlo,hhi])
             cases hd:(n==0) <;> rw [hd] at HN
             all_goals (
              go_enter Tryz.func125,Tryz.ntmps125
              go_upto_region 1 with(fail)
              generalize hw1:w.alloc _=w1;obtain⟨hb1,hg,hr1,hcell⟩:=HF.out w1 hw1;have HB1:=Hd hb1;obtain⟨q0,q1,-,q3,-,-⟩:=Sx (hcell w1 (Below.refl _ _));clear hcell hb1 hr1 hw1 HF
              go_wp2_with fail
              go_ret
              exact⟨ret_bool HN.out.symm,HB1.out⟩)
       · have e6:(k==6)=false:=by simpa using h6
         by_cases h13:k=13
         · subst h13
           by_cases hlo:o<0
           · have HN:=Hd (show res=false by rw [HS.out];simp [hlo])
             go_enter Tryz.func125,Tryz.ntmps125
             go_upto_region 1 with(fail)
             generalize hw1:w.alloc _=w1;obtain⟨hb1,hg,hr1,hcell⟩:=HF.out w1 hw1;have HB1:=Hd hb1;obtain⟨q0,q1,-,q3,-,-⟩:=Sx (hcell w1 (Below.refl _ _));clear hcell hb1 hr1 hw1 HF
             go_wp2_with fail
             go_ret
             exact⟨ret_bool HN.out.symm,HB1.out⟩
           · by_cases hhi:0<o
             · have HN:=Hd (show res=false by rw [HS.out];simp [hlo,hhi])
               go_enter Tryz.func125,Tryz.ntmps125
               go_upto_region 1 with(fail)
               generalize hw1:w.alloc _=w1;obtain⟨hb1,hg,hr1,hcell⟩:=HF.out w1 hw1;have HB1:=Hd hb1;obtain⟨q0,q1,-,q3,-,-⟩:=Sx (hcell w1 (Below.refl _ _));clear hcell hb1 hr1 hw1 HF
               go_wp2_with fail
               go_ret
               exact⟨ret_bool HN.out.symm,HB1.out⟩
             · have HN:=Hd (show res=(n==0 || n==1) by rw [HS.out];simp [hlo,hhi])
               cases hd:(n==0) <;> cases hd1:(n==1) <;> rw [hd,hd1] at HN
               all_goals (
                go_enter Tryz.func125,Tryz.ntmps125
                go_upto_region 1 with(fail)
                generalize hw1:w.alloc _=w1;obtain⟨hb1,hg,hr1,hcell⟩:=HF.out w1 hw1;have HB1:=Hd hb1;obtain⟨q0,q1,-,q3,-,-⟩:=Sx (hcell w1 (Below.refl _ _));clear hcell hb1 hr1 hw1 HF
                go_wp2_with fail
                go_ret
                exact⟨ret_bool HN.out.symm,HB1.out⟩)
         · have e13:(k==13)=false:=by simpa using h13
           by_cases hlo:o<0
           · have HN:=Hd (show res=false by rw [HS.out,e1,e2,e5,e6,e13];simp [hlo])
             go_enter Tryz.func125,Tryz.ntmps125
             go_upto_region 1 with(fail)
             generalize hw1:w.alloc _=w1;obtain⟨hb1,hg,hr1,hcell⟩:=HF.out w1 hw1;have HB1:=Hd hb1;obtain⟨q0,q1,-,q3,-,-⟩:=Sx (hcell w1 (Below.refl _ _));clear hcell hb1 hr1 hw1 HF
             go_wp2_with fail
             go_ret
             exact⟨ret_bool HN.out.symm,HB1.out⟩
           · by_cases hhi:0<o
             · have HN:=Hd (show res=false by rw [HS.out,e1,e2,e5,e6,e13];simp [hlo,hhi])
               go_enter Tryz.func125,Tryz.ntmps125
               go_upto_region 1 with(fail)
               generalize hw1:w.alloc _=w1;obtain⟨hb1,hg,hr1,hcell⟩:=HF.out w1 hw1;have HB1:=Hd hb1;obtain⟨q0,q1,-,q3,-,-⟩:=Sx (hcell w1 (Below.refl _ _));clear hcell hb1 hr1 hw1 HF
               go_wp2_with fail
               go_ret
               exact⟨ret_bool HN.out.symm,HB1.out⟩
             · have HN:=Hd (show res=(n==0) by rw [HS.out,e1,e2,e5,e6,e13];simp [hlo,hhi])
               cases hd:(n==0) <;> rw [hd] at HN
               all_goals (
                go_enter Tryz.func125,Tryz.ntmps125
                go_upto_region 1 with(fail)
                generalize hw1:w.alloc _=w1;obtain⟨hb1,hg,hr1,hcell⟩:=HF.out w1 hw1;have HB1:=Hd hb1;obtain⟨q0,q1,-,q3,-,-⟩:=Sx (hcell w1 (Below.refl _ _));clear hcell hb1 hr1 hw1 HF
                go_wp2_with fail
                go_ret
                exact⟨ret_bool HN.out.symm,HB1.out⟩)
end
end Go.Proofs.YtpedcgpcchbhpaaGreatDoor
