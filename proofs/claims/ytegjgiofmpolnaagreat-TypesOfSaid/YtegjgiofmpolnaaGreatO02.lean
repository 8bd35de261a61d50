/- Parts of the proof: ExF, IdA, IdB, IdC, IdD, IdE, ExS. Conditions: each theorem's own. -/
import Derived.Laws.RangeAny
import Derived.Test.YtegjgiofmpolnaaGreatO01
namespace Go.Proofs.YtegjgiofmpolnaaGreat
set_option linter.unusedVariables false
set_option linter.unusedSimpArgs false
set_option maxRecDepth 100000
set_option maxHeartbeats 40000000
section
open Go.RowKit Go.Sort
theorem all_false{α:Type} [Inhabited α] {l:List α}{f:α→Bool}{i:Nat}(hi:i<l.length) (h:f (l[i]?.getD default)=false):l.all f=false:=by
 rw [List.all_eq_false];refine⟨l[i]?.getD default,?_,by simp [h]⟩;rw [List.getElem?_eq_getElem hi];exact List.getElem_mem _
theorem all_take_succ{α:Type} [Inhabited α] {l:List α}{f:α→Bool}{k:Nat}(hk:k<l.length) (h:(l.take k).all f=true) (hx:f (l[k]?.getD default)=true):(l.take (k+1)).all f=true:=by
 rw [List.take_succ_eq_append_getElem hk,List.all_append,h,Bool.true_and];rw [List.getElem?_eq_getElem hk] at hx
 simpa using hx
theorem all_take_end{α:Type}{l:List α}{f:α→Bool}{k:Nat}(h:(l.take k).all f=true) (hk:l.length≤k):l.all f=true:=by rwa [List.take_of_length_le hk] at h
instance :Inhabited ByteArray:=⟨ByteArray.empty⟩
def fewA(t:ByteArray):Bool:=!decide (100<t.size)
def fewP(p:Ex):Bool:=!decide (200<p.s.size) && !decide (20<p.arms.length) && p.arms.all fewA
def tinyX(x:Ex):Bool:=decide (sizeX x<200) && (partsX x).all fewP
theorem refFew(x:Ex) (A:Option Addr) (ca:Nat) (B:Option Addr) (cb:Nat) (w:World) (hr:rdX w x A B) (hs:sizeX x≤1000000):
 Calls Tryz.prog 33 #[.agg (exA x A ca B cb)] w fun e w'=>e=.returned (.bool ((partsX x).all fewP))∧Below w.heap.size w w':=by
 have HF:=Hd fun w1 h=>box_facts w x A ca B cb w1 h hr;have HP:=Hd fun w1 (h:Below w.heap.size w w1)=>refParts x A ca B cb w w1 hr h hs;have HLN:=Hd (partsX_len x);have hsp:=size_pos x;clear hr;unfold exA at HF HP ⊢
 go_enter Tryz.func33,Tryz.ntmps33
 go_upto_region 1 with(fail)
 generalize hw1:w.alloc _=w1;obtain⟨hb1,hg,hr1,hcell⟩:=HF.out w1 hw1;have HB1:=Hd hb1;have HP1:=Hd (HP.out w1 hb1);obtain⟨q0,q1,q2,q3,q4,q5⟩:=Sx (hcell w1 (Below.refl _ _));clear hcell hb1 hr1 hw1 HF HP
 go_wp2_with fail
 refine HP1.out.mono ?_;rintro r w2 ⟨A2,c2,cs2,rfl,hcel,hfl2,hb2,_⟩;have HB2:=Hd (HB1.out.trans (hb2.mono HB1.out.size));have HRX:=Hd (hcel.rd hfl2 HB2.out);clear hcel hfl2 hb2 q0 q1 q2 q3 q4 q5 HP1;generalize hl:partsX x=l at *;have HLL:=Hd hl;generalize hn:sizeX x=n at *
 go_wp2_with fail
 go_loopw [4] (fun i wr=>∃ k:Nat,k≤n∧i=.int .i64 k∧w2=wr∧(l.take k).all fewP=true) (fun i _=>n-(intOf i).toNat)
 case atStart=>exact⟨0,Nat.zero_le _,rfl,rfl,by simp⟩
 case round=>
  obtain⟨k,hk,rfl,rfl,hall⟩:=hrel;have HA:=Hd hall;clear hall
  by_cases hlt:k<n
  · obtain⟨b,off,rfl,hb,hat⟩:=HRX.out.at_ hlt;obtain⟨A',ca',B',cb',hrg,hrd⟩:=hat k hlt;obtain⟨c0,c1,c2,c3,c4,c5⟩:=rangeAt_six hrg;have HAR:=Hd hrd.arms;have HK:=Hd (show k<l.length by rw [HLN.out];exact hlt);clear hat hrg hrd;generalize hp:l[k]?.getD default=p at *;have HPP:=Hd hp
    by_cases h1:200<p.s.size
    · have HN:=Hd (all_false (f:=fewP) HK.out (by rw [HPP.out];simp [fewP,h1]))
      go_wp2_with fail
      go_ret
      exact⟨ret_bool (by first | exact HN.out.symm | (rw [HLL.out];exact HN.out.symm)),HB2.out⟩
    · by_cases h2:20<p.arms.length
      · have HN:=Hd (all_false (f:=fewP) HK.out (by rw [HPP.out];simp [fewP,h2]))
        go_wp2_with fail
        go_ret
        exact⟨ret_bool (by first | exact HN.out.symm | (rw [HLL.out];exact HN.out.symm)),HB2.out⟩
      · generalize hm:p.arms.length=m at *;have HM:=Hd hm
        go_wp2_with fail
        go_loopw [5] (fun j wr=>∃ i:Nat,i≤m∧j=.int .i64 i∧w2=wr∧(p.arms.take i).all fewA=true) (fun j _=>m-(intOf j).toNat)
        case atStart=>exact⟨0,Nat.zero_le _,rfl,rfl,by simp⟩
        case round=>
         obtain⟨i,hi,rfl,rfl,hall⟩:=hrel;have HJ:=Hd hall;clear hall
         by_cases him:i<m
         · obtain⟨b3,off3,rfl,hb3,hc3⟩:=HAR.out.at_ him;have hci:=hc3 i him;have HI:=Hd (show i<p.arms.length by rw [HM.out];exact him);clear hc3;generalize ht:p.arms[i]?.getD ByteArray.empty=t at *;have HT:=Hd ht
           by_cases h3:100<t.size
           · have HN:=Hd (all_false (f:=fewA) HI.out (by show fewA (p.arms[i]?.getD ByteArray.empty)=false;rw [HT.out];simp [fewA,h3]));have HN2:=Hd (all_false (f:=fewP) HK.out (by rw [HPP.out];unfold fewP;rw [HN.out];simp))
             go_wp2_with fail
             go_ret
             exact⟨ret_bool (by first | exact HN2.out.symm | (rw [HLL.out];exact HN2.out.symm)),HB2.out⟩
           · have HN:=Hd (all_take_succ (f:=fewA) HI.out HJ.out (by show fewA (p.arms[i]?.getD ByteArray.empty)=true;rw [HT.out];simp [fewA,h3]))
             go_wp2_with fail
             go_roundw
             case rel=>exact⟨i+1,by omega,by go_num,(by first | trivial | rfl),HN.out⟩
             case measure=>simp [intOf];omega
         · have HN:=Hd (all_take_end HJ.out (by rw [HM.out];omega));have HN2:=Hd (all_take_succ (f:=fewP) HK.out HA.out (by rw [HPP.out];unfold fewP;rw [HN.out,HM.out];simp [h1,h2]))
           go_wp2_with fail
           go_roundw
           case rel=>exact⟨k+1,by omega,by go_num,(by first | trivial | rfl),HN2.out⟩
           case measure=>simp [intOf];omega
  · have HN:=Hd (all_take_end HA.out (by rw [HLN.out];omega))
    go_wp2_with fail
    go_ret
    exact⟨ret_bool (by first | exact HN.out.symm | (rw [HLL.out];exact HN.out.symm)),HB2.out⟩
theorem refSmall(x:Ex) (A:Option Addr) (ca:Nat) (B:Option Addr) (cb:Nat) (w:World) (hr:rdX w x A B):
 Calls Tryz.prog 10 #[.agg (exA x A ca B cb)] w fun e w'=>e=.returned (.bool (tinyX x))∧Below w.heap.size w w':=by
 have HF:=Hd fun w1 h=>box_facts w x A ca B cb w1 h hr;have HCT:=Hd fun w1 (h:rdX w1 x A B)=>refCount x A ca B cb w1 h 200 (by omega);have HFW:=Hd fun w1 (h:rdX w1 x A B) (h2:sizeX x≤1000000)=>refFew x A ca B cb w1 h h2;have HT:=Hd (show tinyX x=(decide (sizeX x<200) && (partsX x).all fewP) from rfl);clear hr;unfold exA at HF HCT HFW ⊢
 by_cases hs:sizeX x<200
 · obtain⟨q,hq⟩:∃ q,200-sizeX x=q+1:=⟨199-sizeX x,by omega⟩;rw [hq] at HCT;have HT1:=Hd (show tinyX x=(partsX x).all fewP by rw [HT.out];simp [hs]);clear hq HT
   go_enter Tryz.func10,Tryz.ntmps10
   go_upto_region 1 with(fail)
   generalize hw1:w.alloc _=w1;obtain⟨hb1,hg,hr1,hcell⟩:=HF.out w1 hw1;have HB1:=Hd hb1;have HC1:=Hd (HCT.out w1 hr1);have HR1:=Hd hr1;obtain⟨q0,q1,q2,q3,q4,q5⟩:=Sx (hcell w1 (Below.refl _ _));have HCC:=Hd hcell;clear hcell hb1 hr1 hw1 HF HCT
   go_wp2_with fail
   refine HC1.out.mono ?_;rintro r w2 ⟨rfl,hb2⟩;have HB2:=Hd (HB1.out.trans (hb2.mono HB1.out.size));have HF2:=Hd (HFW.out w2 (HR1.out.below hb2) (by omega));clear q0 q1 q2 q3 q4 q5;obtain⟨q0,q1,q2,q3,q4,q5⟩:=Sx (HCC.out w2 hb2);clear hb2 HCC HFW
   go_wp2_with fail
   refine HF2.out.mono ?_;rintro r w3 ⟨rfl,hb3⟩;have HB3:=Hd (HB2.out.trans (hb3.mono HB2.out.size));clear hb3;generalize hb:(partsX x).all fewP=bb at *
   go_wp2_with fail
   go_ret
   exact⟨ret_bool (by rw [HT1.out]),HB3.out⟩
 · have hq:200-sizeX x=0:=by omega
   rw [hq] at HCT;have HT1:=Hd (show tinyX x=false by rw [HT.out];simp [hs]);clear hq HT HFW
   go_enter Tryz.func10,Tryz.ntmps10
   go_upto_region 1 with(fail)
   generalize hw1:w.alloc _=w1;obtain⟨hb1,hg,hr1,hcell⟩:=HF.out w1 hw1;have HB1:=Hd hb1;have HC1:=Hd (HCT.out w1 hr1);obtain⟨q0,q1,q2,q3,q4,q5⟩:=Sx (hcell w1 (Below.refl _ _));clear hcell hb1 hr1 hw1 HF HCT
   go_wp2_with fail
   refine HC1.out.mono ?_;rintro r w2 ⟨rfl,hb2⟩;have HB2:=Hd (HB1.out.trans (hb2.mono HB1.out.size));clear hb2
   go_wp2_with fail
   go_ret
   exact⟨ret_bool HT1.out.symm,HB2.out⟩
end
section
open Go.RowKit
theorem idSmall(x:Int) (w:World):Calls Tryz.prog 168 #[.int .i32 x] w fun e w'=>e=.returned (.bool (smallB x))∧w=w':=by
 by_cases h1:97≤x
 all_goals
  go_enter Tryz.func168,Tryz.ntmps168
  go_wp2
  go_ret
  exact⟨ret_bool (by rw [Bool.eq_iff_iff];simp [smallB,h1] <;> omega),rfl⟩
theorem idGreat(x:Int) (w:World):Calls Tryz.prog 174 #[.int .i32 x] w fun e w'=>e=.returned (.bool (greatB x))∧w=w':=by
 by_cases h1:65≤x
 all_goals
  go_enter Tryz.func174,Tryz.ntmps174
  go_wp2
  go_ret
  exact⟨ret_bool (by rw [Bool.eq_iff_iff];simp [greatB,h1] <;> omega),rfl⟩
theorem idDigit(x:Int) (w:World):Calls Tryz.prog 183 #[.int .i32 x] w fun e w'=>e=.returned (.bool (digitB x))∧w=w':=by
 by_cases h1:48≤x
 all_goals
  go_enter Tryz.func183,Tryz.ntmps183
  go_wp2
  go_ret
  exact⟨ret_bool (by rw [Bool.eq_iff_iff];simp [digitB,h1] <;> omega),rfl⟩
theorem idInName(x:Int) (w:World):Calls Tryz.prog 179 #[.int .i32 x] w fun e w'=>e=.returned (.bool (nameC x))∧w=w':=by
 by_cases h1:smallB x=true
 · go_enter Tryz.func179,Tryz.ntmps179
   go_wp2_with fail
   refine(idSmall x _).mono ?_;rintro e w' ⟨rfl,rfl⟩
   go_wp2_with fail
   go_ret
   exact⟨ret_bool (by simp [nameC,h1]),rfl⟩
 · have h1:smallB x=false:=by simpa using h1
   by_cases h2:greatB x=true
   · go_enter Tryz.func179,Tryz.ntmps179
     go_wp2_with fail
     refine(idSmall x _).mono ?_;rintro e w' ⟨rfl,rfl⟩
     go_wp2_with fail
     refine(idGreat x _).mono ?_;rintro e w' ⟨rfl,rfl⟩
     go_wp2_with fail
     go_ret
     exact⟨ret_bool (by simp [nameC,h2]),rfl⟩
   · have h2:greatB x=false:=by simpa using h2
     by_cases h3:digitB x=true
     all_goals
      go_enter Tryz.func179,Tryz.ntmps179
      go_wp2_with fail
      refine(idSmall x _).mono ?_;rintro e w' ⟨rfl,rfl⟩
      go_wp2_with fail
      refine(idGreat x _).mono ?_;rintro e w' ⟨rfl,rfl⟩
      go_wp2_with fail
      refine(idDigit x _).mono ?_;rintro e w' ⟨rfl,rfl⟩
      go_wp2_with fail
      go_ret
      exact⟨ret_bool (by rw [Bool.eq_iff_iff];simp [nameC,h1,h2,h3]),rfl⟩
theorem liteIndexByte(s:ByteArray) (c:Int) (w:World):
 Calls Tryz.prog 185 #[.string s,.int .u8 c] w fun e w'=>e=.returned (.int .i64 (Lib.indexByte s.data.toList c.toNat.toUInt8))∧w=w':=by
 go_enter Tryz.func185,Tryz.ntmps185
 go_wp2
 rw [run_callFunc_extern Tryz.func189 (by kernel_rfl) (by kernel_rfl) (by kernel_rfl) (e:=Extern.BytealgIndexByte.indexByte) (by kernel_rfl),Lib.run_indexByteString];simp only [Result.andThen];rw [Oper.upon_value]
 go_wp2
 go_ret
 exact⟨rfl,rfl⟩
theorem liteIndex(s:ByteArray) (c:UInt8) (w:World):
 Calls Tryz.prog 184 #[.string s,.string ⟨#[c]⟩] w fun e w'=>e=.returned (.int .i64 (Lib.indexByte s.data.toList c))∧w=w':=by
 go_enter Tryz.func184,Tryz.ntmps184
 go_wp2_with (go_at_call 185;refine(liteIndexByte _ _ _).mono ?_;rintro e w' ⟨rfl,rfl⟩)
 · have h:([c]==s.toList)=true:=by assumption
   go_ret
   refine⟨?_,rfl⟩;have e:s.data.toList=[c]:=by rw [← Lib.toList_data];exact(beq_iff_eq.1 h).symm
   rw [e]
   simp [Lib.indexByte]
 · go_ret
   refine⟨ret_int ?_,rfl⟩
   congr 1
def Cuts(c:UInt8) (s:ByteArray) (w:World) (e:Ending) (w':World):Prop:=
 ∃ (a b:ByteArray) (f:Bool),e=.returned (.tuple #[.string a,.string b,.bool f])∧Below w.heap.size w w'∧c∉a.data.toList ∧
  (f=false→s.data.toList=a.data.toList)∧(f=true→s.data.toList=a.data.toList++c::b.data.toList)
theorem cuts_no{c:UInt8}{s:ByteArray}{w:World}(h:Lib.indexByte s.data.toList c<0):
 Cuts c s w (.returned (.tuple #[.string s,.string ⟨#[]⟩,.bool false])) w:=
 ⟨s,_,false,rfl,Below.refl _ _,index_none h,fun _=>rfl,fun h=>by cases h⟩
theorem cuts_yes{c:UInt8}{s:ByteArray}{w:World}{k m:Nat}{n:Nat}(hn:n=s.size) (h2:k<s.data.toList.length) (h3:c∉s.data.toList.take k) (h4:s.data.toList=s.data.toList.take k++c::s.data.toList.drop (k+1)):
 Cuts c s w (.returned (.tuple #[.string (s.extract 0 k),.string (s.extract (k+1) n),.bool true])) (w.drewN m):=by
 subst hn;have e1:(s.extract 0 k).data.toList=s.data.toList.take k:=by rw [Lib.extract_data];simp
 have e2:(s.extract (k+1) s.size).data.toList=s.data.toList.drop (k+1):=by
  rw [Lib.extract_data,List.take_of_length_le (by rw [Lib.size_eq];simp)]
 refine⟨_,_,true,rfl,below_drewN (Below.refl _ _) m,?_,fun h=>by(cases h),fun _=>?_⟩
 · rw [e1];exact h3
 · rw [e1,e2];exact h4
theorem liteCut(s:ByteArray) (c:UInt8) (w:World) (hs:s.size≤9223372036854775806):
 Calls Tryz.prog 181 #[.string s,.string ⟨#[c]⟩] w (Cuts c s w):=by
 rcases(show Lib.indexByte s.data.toList c<0∨0≤Lib.indexByte s.data.toList c by omega) with h | h
 · have HC:=Hd (cuts_no (w:=w) h);have hge:=Lib.indexByte_ge s.data.toList c;generalize hi:Lib.indexByte s.data.toList c=i at h hge;have HI:=Hd hi;clear hi
   go_enter Tryz.func181,Tryz.ntmps181
   go_wp2_with fail
   refine(liteIndex s c _).mono ?_;rintro e w' ⟨rfl,rfl⟩;rw [HI.out]
   go_wp2_with fail
   exact bodyPost_ret (v:=.tuple #[.string s,.string ⟨#[]⟩,.bool false]) (by simp [results,Tryz.results181,go_sem]) rfl HC.out
 · obtain⟨k,hi,h2,h3,h4⟩:=index_some h;have HC:=fun m=>Hd (cuts_yes (w:=w) (m:=m) (n:=s.size) rfl h2 h3 h4);have hk:k<s.size:=by rw [Lib.size_eq];exact h2
   have HI:=Hd hi;clear hi h h2 h3 h4;have h5:IntKind.i64.wrap ((k:Int)+1)=(k:Int)+1:=IntWalk.i64_in _ (by omega);have h6:((k:Int)+1).toNat=k+1:=by omega
   have h7:(0:Int)≤(k:Int)+1:=by omega
   go_enter Tryz.func181,Tryz.ntmps181
   go_wp2_with fail
   refine(liteIndex s c _).mono ?_;rintro e w' ⟨rfl,rfl⟩;rw [HI.out]
   go_wp2_with fail
   go_quiet (fail)
   go_wp2_with fail
   exact bodyPost_ret (v:=.tuple #[.string (s.extract 0 k),.string (s.extract (k+1) s.size),.bool true]) (by simp [results,Tryz.results181,go_sem]) rfl (HC _).out
theorem strCut(s:ByteArray) (c:UInt8) (w:World) (hs:s.size≤9223372036854775806):
 Calls Tryz.prog 175 #[.string s,.string ⟨#[c]⟩] w (Cuts c s w):=by
 go_enter Tryz.func175,Tryz.ntmps175
 go_wp2_with fail
 refine(liteCut s c _ hs).mono ?_;rintro e w' ⟨a,b,f,rfl,hb,hc,hf,ht⟩;have H:Hid (Cuts c s w (.returned (.tuple #[.string a,.string b,.bool f])) w'):=Hd ⟨a,b,f,rfl,hb,hc,hf,ht⟩;clear hb hc hf ht
 go_wp2_with fail
 exact bodyPost_ret (v:=.tuple #[.string a,.string b,.bool f]) (by simp [results,Tryz.results175,go_sem]) rfl H.out
end
section
open Go.RowKit
theorem word_yes{s:ByteArray}{l:List UInt8}(h:(s.toList==l)=true) (hl:l∈wordsL):wordB s.data.toList=true:=by
 rw [Lib.toList_data] at h;rw [beq_iff_eq.1 h]
 simp [wordB,hl]
theorem both_ways{s:ByteArray}{l:List UInt8}(h:(s.toList==l)=true) (h2:(s.toList==l)=false):False:=by
 rw [h] at h2
 cases h2
theorem word_no{s:ByteArray}(h:∀ l∈wordsL,(s.toList==l)=false):wordB s.data.toList=false:=by
 simp only [wordB,decide_eq_false_iff_not];intro hm;have:=h _ hm;rw [Lib.toList_data] at this
 simp at this
theorem idWord(s:ByteArray) (w:World):Calls Tryz.prog 169 #[.string s] w fun e w'=>e=.returned (.bool (wordB s.data.toList))∧w=w':=by
 go_enter Tryz.func169,Tryz.ntmps169
 go_wp2
 all_goals
  go_ret
  first
   | exact⟨ret_bool (word_yes (by assumption) (by decide)).symm,rfl⟩
   | (exfalso;exact both_ways (by assumption) (by assumption))
   | exact⟨ret_bool (word_no (fun l hl=>by simp only [wordsL,List.mem_cons,List.not_mem_nil,or_false] at hl;rcases hl with h | h | h | h | h | h | h | h | h | h | h | h | h | h | h | h | h | h | h | h | h | h | h | h <;> subst h <;> assumption)).symm,rfl⟩
end
section
open Go.RowKit
def wordsS:List ByteArray:=wordsL.map fun l=>⟨l.toArray⟩
theorem wordsS_at(k:Nat) (h:k<24):∃ (l:List UInt8) (x:ByteArray),wordsS[k]?=some x∧x.toList=l∧l∈wordsL:=by
 have hl:k<wordsL.length:=h;refine⟨wordsL[k],⟨wordsL[k].toArray⟩,?_,?_,List.getElem_mem hl⟩
 · simp [wordsS,List.getElem?_eq_getElem hl]
 · rw [Lib.toList_data]
theorem wordsS_all{s:ByteArray}(h:∀ j,j<24→((wordsS[j]?.getD ByteArray.empty).toList==s.toList)=false):wordB s.data.toList=false:=by
 apply word_no
 intro l hl;obtain⟨k,hk,e⟩:=List.getElem_of_mem hl;have h1:=h k hk
 have h2:wordsS[k]?=some ⟨l.toArray⟩:=by
  simp [wordsS,List.getElem?_eq_getElem hk,e]
 rw [h2] at h1;simp only [Option.getD_some,Lib.toList_data] at h1;rw [Lib.toList_data];rw [beq_eq_false_iff_ne] at h1 ⊢;exact fun e=>h1 e.symm
theorem refWords(w:World):Calls Tryz.prog 131 #[] w fun e w'=>∃ A,e=.returned (.slice A 24 24)∧RdT w' A 24 wordsS∧Below w.heap.size w w':=by
 have HL:=Hd fun(cs:Array Value) (T:TypeId)=>RdT.lit w T wordsS 24 rfl (by omega) cs
 go_enter Tryz.func131,Tryz.ntmps131
 go_wp2
 go_ret
 exact⟨_,rfl,HL.out _ _ (by rfl),(Below.refl _ _).alloc (Nat.le_refl _) _⟩
theorem refWord(s:ByteArray) (w:World):Calls Tryz.prog 84 #[.string s] w fun e w'=>e=.returned (.bool (wordB s.data.toList))∧Below w.heap.size w w':=by
 go_enter Tryz.func84,Tryz.ntmps84
 go_wp2_with fail
 refine(refWords _).mono ?_;rintro e w' ⟨A,rfl,hrd,hbel⟩;have HB:=Hd hbel;obtain⟨b,off,rfl,hb,hc⟩:=hrd.at_ (i:=0) (by omega);have HC:=Hd hc;clear hbel hrd hc
 go_wp2_with fail
 go_loop [4] (fun i=>∃ k:Nat,k≤24∧i=.int .i64 k∧∀ j,j<k→((wordsS[j]?.getD ByteArray.empty).toList==s.toList)=false) (fun i=>24-(intOf i).toNat)
 case atStart=>exact⟨0,Nat.zero_le _,rfl,fun j hj=>absurd hj (by omega)⟩
 case round=>
  obtain⟨k,hk,rfl,hall⟩:=hrel;have HA:=Hd hall;clear hall
  by_cases hlt:k<24
  · obtain⟨l,x,hx,hxl,hm⟩:=wordsS_at k hlt;have hck:=HC.out k hlt;rw [hx] at hck;simp only [Option.getD_some] at hck;have HX:=Hd hx;have HXL:=Hd hxl;clear hx hxl
    by_cases heq:(x.toList==s.toList)=true
    · go_wp2
      go_ret
      refine⟨ret_bool ?_,HB.out⟩;exact(word_yes (l:=l) (by rw [beq_iff_eq] at heq ⊢;rw [← heq,HXL.out]) hm).symm
    · have heq:(x.toList==s.toList)=false:=by simpa using heq
      have HE:=Hd heq
      go_wp2
      go_round
      case rel=>
       refine⟨k+1,by omega,by go_num,fun j hj=>?_⟩;rcases Nat.lt_or_ge j k with h | h
       · exact HA.out j h
       · obtain rfl:j=k:=by omega
         rw [HX.out];exact HE.out
      case measure=>simp [intOf];omega
  · go_wp2
    go_ret
    exact⟨ret_bool (wordsS_all fun j hj=>HA.out j (by omega)).symm,HB.out⟩
end
section
open Go.RowKit
section
variable {P:Int→Bool}{s:ByteArray}
theorem at_list(s:ByteArray) (k:Nat) (h:k<s.size):s.data.toList[k]'(by rw [← Lib.size_eq];exact h)=s[k]'h:=rfl
theorem name_len(h:s.size<1∨12<s.size):nameB P s.data.toList=false:=by
 have:¬ (1≤s.data.toList.length∧s.data.toList.length≤12):=by rw [← Lib.size_eq];omega
 simp only [nameB,decide_eq_false this,Bool.false_and]
theorem at_opt(s:ByteArray) (k:Nat) (h:k<s.size):s.data.toList[k]?=some (s[k]'h):=by
 rw [← at_list s k h,List.getElem?_eq_getElem]
theorem head_at(h:0<s.size):∃ F,s.data.toList=s[0]'h::F:=by
 have hl:=at_opt s 0 h;generalize s[0]'h=c at hl ⊢
 cases e:s.data.toList with
 | nil=>rw [e] at hl;simp at hl
 | cons d F=>rw [e] at hl;simp at hl;exact⟨F,by rw [hl]⟩
theorem name_first(h:0<s.size) (hp:P ((s[0]'h).toNat:Int)=false):nameB P s.data.toList=false:=by
 obtain⟨F,e⟩:=head_at h;rw [e];simp only [nameB,hp,Bool.and_false,Bool.false_and]
theorem name_at{k:Nat}(h:k<s.size) (hp:nameC ((s[k]'h).toNat:Int)=false):nameB P s.data.toList=false:=by
 have hm:s[k]'h∈s.data.toList:=by rw [← at_list s k h];exact List.getElem_mem _
 cases hn:nameB P s.data.toList with
 | false=>rfl
 | true=>rw [nameB_all hn _ hm] at hp;cases hp
theorem name_yes(h1:0<s.size) (h2:s.size≤12) (hp:P ((s[0]'h1).toNat:Int)=true) (ha:∀ k (h:k<s.size),nameC ((s[k]'h).toNat:Int)=true):nameB P s.data.toList=true:=by
 have hz:=Lib.size_eq s
 have hall:s.data.toList.all (fun c=>nameC (c.toNat:Int))=true:=by
  rw [List.all_eq_true];intro c hc;obtain⟨k,hk,e⟩:=List.getElem_of_mem hc;rw [← e,at_list s k (by omega)];exact ha k (by omega)
 have hlen:decide (1≤s.data.toList.length∧s.data.toList.length≤12)=true:=decide_eq_true (by omega);obtain⟨F,e⟩:=head_at h1;unfold nameB;rw [hall,hlen,e];simp only [hp,Bool.and_true]
end
theorem nameC_high{x:Int}(h:128≤x):nameC x=false:=by
 cases hn:nameC x with
 | false=>rfl
 | true=>have:=nameC_bd hn;omega
theorem next_at{P:Program}(w:World) (s:ByteArray) (pos:Nat) (h:pos<s.size):
 ∃ (x:Int) (q:Nat),(∀ ty,(Instr.next (.pointer (some ⟨w.heap.size,0,none⟩)) true ty).run P (w.iter s pos)=.ok (.tuple #[.bool true,.int .i64 pos,.int .i32 x]) (w.iter s q)) ∧
  ((x=((s[pos]'h).toNat:Int)∧q=pos+1)∨(128≤x∧128≤(s[pos]'h).toNat∧pos<q)):=by
 by_cases ha:(s[pos]'h).toNat<128
 · exact⟨_,_,fun ty=>run_next_ascii (P:=P) w s pos ty h ha,.inl ⟨rfl,rfl⟩⟩
 · have:=decode_high s pos h (by omega);exact⟨_,_,fun ty=>run_next_any (P:=P) w s pos ty h,.inr ⟨by omega,by omega,by omega⟩⟩
theorem below_iter(w:World) (s:ByteArray) (q:Nat):Below w.heap.size w (w.iter s q):=(Below.refl _ _).alloc (Nat.le_refl _) _
def NameTo(P:Int→Bool) (s:ByteArray) (pos:Nat):Prop:=
 (∀ k (h:k<s.size),k<pos→nameC ((s[k]'h).toNat:Int)=true)∧(0<pos→∀ h:0<s.size,P ((s[0]'h).toNat:Int)=true)
section
variable {P:Int→Bool}{s:ByteArray}{pos q:Nat}{x:Int}
theorem nameTo_zero:NameTo P s 0:=⟨fun k h hk=>absurd hk (by omega),fun h=>absurd h (by omega)⟩
theorem nameTo_lt(hp:pos<s.size) (hx:(x=((s[pos]'hp).toNat:Int)∧q=pos+1)∨(128≤x∧128≤(s[pos]'hp).toNat∧pos<q)):pos<q:=by
 rcases hx with⟨_,h⟩|⟨_,_,h⟩ <;> omega
theorem nameTo_step(H:NameTo P s pos) (hp:pos<s.size) (hx:(x=((s[pos]'hp).toNat:Int)∧q=pos+1)∨(128≤x∧128≤(s[pos]'hp).toNat∧pos<q))
 (h1:pos=0→P x=true) (h2:nameC x=true):q≤s.size∧NameTo P s q:=by
 rcases hx with⟨rfl,rfl⟩|⟨h,_,_⟩
 · refine⟨by omega,fun k hk hlt=>?_,fun _ h0=>?_⟩
   · rcases Nat.lt_or_ge k pos with h | h
     · exact H.1 k hk h
     · obtain rfl:k=pos:=by omega
       exact h2
   · rcases Nat.eq_zero_or_pos pos with h | h
     · subst h;exact h1 rfl
     · exact H.2 h h0
 · rw [nameC_high h] at h2
   cases h2
theorem nameTo_bad(hp:pos<s.size) (hx:(x=((s[pos]'hp).toNat:Int)∧q=pos+1)∨(128≤x∧128≤(s[pos]'hp).toNat∧pos<q)) (h2:nameC x=false):nameB P s.data.toList=false:=by
 rcases hx with⟨rfl,rfl⟩|⟨_,h,_⟩
 · exact name_at hp h2
 · exact name_at hp (nameC_high (by omega))
theorem nameTo_first(hz:pos=0) (hp:pos<s.size) (hx:(x=((s[pos]'hp).toNat:Int)∧q=pos+1)∨(128≤x∧128≤(s[pos]'hp).toNat∧pos<q)) (h2:P x=false):nameB P s.data.toList=false:=by
 subst hz;rcases hx with⟨rfl,rfl⟩|⟨_,h,_⟩
 · exact name_first hp h2
 · exact name_at hp (nameC_high (by omega))
theorem nameTo_end(H:NameTo P s pos) (h0:0<s.size) (h12:s.size≤12) (he:s.size≤pos):nameB P s.data.toList=true:=
 name_yes h0 h12 (H.2 (by omega) h0) fun k h=>H.1 k h (by omega)
end
theorem idName(K:FuncId) (P:Int→Bool) (hK:(K=168∧P=smallB)∨(K=174∧P=greatB)) (s:ByteArray) (w:World) (hs:s.size≤9223372036854775807):
 Calls Tryz.prog 167 #[.string s,.func (.func K) #[] #[]] w fun e w'=>e=.returned (.bool (nameB P s.data.toList))∧Below w.heap.size w w':=by
 by_cases h1:s.size<1
 · go_enter Tryz.func167,Tryz.ntmps167
   go_wp2
   go_ret
   exact⟨ret_bool (name_len (.inl h1)).symm,Below.refl _ _⟩
 · by_cases h2:12<s.size
   · go_enter Tryz.func167,Tryz.ntmps167
     go_wp2
     go_ret
     exact⟨ret_bool (name_len (.inr h2)).symm,Below.refl _ _⟩
   · have hd1:decide ((s.size:Int)<1)=false:=decide_eq_false (by omega);have hd2:decide ((12:Int)<(s.size:Int))=false:=decide_eq_false (by omega);have h0:0<s.size:=by omega
     have h12:s.size≤12:=by omega
     clear h1 h2;rcases hK with⟨rfl,rfl⟩|⟨rfl,rfl⟩
     · go_enter Tryz.func167,Tryz.ntmps167
       go_wp2_with fail
       clear hd1 hd2
       go_loopw [5] (fun _ wr=>∃ pos:Nat,pos≤s.size∧wr=w.iter s pos∧NameTo smallB s pos) (fun _ wr=>s.size-wr.iterPos w.heap.size)
       case atStart=>exact⟨0,by omega,rfl,nameTo_zero⟩
       case round=>
        obtain⟨pos,hle,rfl,hrel⟩:=hrel;have HR:=Hd hrel;clear hrel
        by_cases hp:pos<s.size
        · obtain⟨x,q,hnx,hx⟩:=next_at (P:=Tryz.prog) w s pos hp;have HX:=Hd hx;clear hx;have hpi:((pos:Int)==0)=decide (pos=0):=by rw [Bool.eq_iff_iff];simp
          generalize (pos:Int)=pi at hnx hpi
          by_cases hz:pos=0
          · have hpi:(pi==0)=true:=by rw [hpi];exact decide_eq_true hz
            have HZ:=Hd hz;clear hz
            by_cases hx1:smallB x=true
            · by_cases hx2:nameC x=true
              · go_wp2_with (first | (go_at_call 168;refine(idSmall x _).mono ?_;rintro e w' ⟨rfl,rfl⟩) | (go_at_call 179;refine(idInName x _).mono ?_;rintro e w' ⟨rfl,rfl⟩))
                go_roundw
                case rel=>exact⟨q,(nameTo_step HR.out hp HX.out (fun _=>hx1) hx2).1,rfl,(nameTo_step HR.out hp HX.out (fun _=>hx1) hx2).2⟩
                case measure=>simp;have:=nameTo_lt hp HX.out;omega
              · have hx2:nameC x=false:=by simpa using hx2
                go_wp2_with (first | (go_at_call 168;refine(idSmall x _).mono ?_;rintro e w' ⟨rfl,rfl⟩) | (go_at_call 179;refine(idInName x _).mono ?_;rintro e w' ⟨rfl,rfl⟩))
                go_ret
                exact⟨ret_bool (nameTo_bad hp HX.out hx2).symm,below_iter _ _ _⟩
            · have hx1:smallB x=false:=by simpa using hx1
              go_wp2_with (first | (go_at_call 168;refine(idSmall x _).mono ?_;rintro e w' ⟨rfl,rfl⟩) | (go_at_call 179;refine(idInName x _).mono ?_;rintro e w' ⟨rfl,rfl⟩))
              go_ret
              exact⟨ret_bool (nameTo_first HZ.out hp HX.out hx1).symm,below_iter _ _ _⟩
          · have hpi:(pi==0)=false:=by rw [hpi];exact decide_eq_false hz
            have HZ:=Hd hz;clear hz
            by_cases hx2:nameC x=true
            · go_wp2_with (first | (go_at_call 168;refine(idSmall x _).mono ?_;rintro e w' ⟨rfl,rfl⟩) | (go_at_call 179;refine(idInName x _).mono ?_;rintro e w' ⟨rfl,rfl⟩))
              go_roundw
              case rel=>exact⟨q,(nameTo_step HR.out hp HX.out (fun h=>absurd h HZ.out) hx2).1,rfl,(nameTo_step HR.out hp HX.out (fun h=>absurd h HZ.out) hx2).2⟩
              case measure=>simp;have:=nameTo_lt hp HX.out;omega
            · have hx2:nameC x=false:=by simpa using hx2
              go_wp2_with (first | (go_at_call 168;refine(idSmall x _).mono ?_;rintro e w' ⟨rfl,rfl⟩) | (go_at_call 179;refine(idInName x _).mono ?_;rintro e w' ⟨rfl,rfl⟩))
              go_ret
              exact⟨ret_bool (nameTo_bad hp HX.out hx2).symm,below_iter _ _ _⟩
        · have hnx:∀ ty,(Instr.next (.pointer (some ⟨w.heap.size,0,none⟩)) true ty).run Tryz.prog (w.iter s pos)=_:=fun ty=>run_next_end w s pos ty hp
          go_wp2_with fail
          go_ret
          exact⟨ret_bool (nameTo_end HR.out h0 h12 (by omega)).symm,below_iter _ _ _⟩
     · go_enter Tryz.func167,Tryz.ntmps167
       go_wp2_with fail
       clear hd1 hd2
       go_loopw [5] (fun _ wr=>∃ pos:Nat,pos≤s.size∧wr=w.iter s pos∧NameTo greatB s pos) (fun _ wr=>s.size-wr.iterPos w.heap.size)
       case atStart=>exact⟨0,by omega,rfl,nameTo_zero⟩
       case round=>
        obtain⟨pos,hle,rfl,hrel⟩:=hrel;have HR:=Hd hrel;clear hrel
        by_cases hp:pos<s.size
        · obtain⟨x,q,hnx,hx⟩:=next_at (P:=Tryz.prog) w s pos hp;have HX:=Hd hx;clear hx;have hpi:((pos:Int)==0)=decide (pos=0):=by rw [Bool.eq_iff_iff];simp
          generalize (pos:Int)=pi at hnx hpi
          by_cases hz:pos=0
          · have hpi:(pi==0)=true:=by rw [hpi];exact decide_eq_true hz
            have HZ:=Hd hz;clear hz
            by_cases hx1:greatB x=true
            · by_cases hx2:nameC x=true
              · go_wp2_with (first | (go_at_call 174;refine(idGreat x _).mono ?_;rintro e w' ⟨rfl,rfl⟩) | (go_at_call 179;refine(idInName x _).mono ?_;rintro e w' ⟨rfl,rfl⟩))
                go_roundw
                case rel=>exact⟨q,(nameTo_step HR.out hp HX.out (fun _=>hx1) hx2).1,rfl,(nameTo_step HR.out hp HX.out (fun _=>hx1) hx2).2⟩
                case measure=>simp;have:=nameTo_lt hp HX.out;omega
              · have hx2:nameC x=false:=by simpa using hx2
                go_wp2_with (first | (go_at_call 174;refine(idGreat x _).mono ?_;rintro e w' ⟨rfl,rfl⟩) | (go_at_call 179;refine(idInName x _).mono ?_;rintro e w' ⟨rfl,rfl⟩))
                go_ret
                exact⟨ret_bool (nameTo_bad hp HX.out hx2).symm,below_iter _ _ _⟩
            · have hx1:greatB x=false:=by simpa using hx1
              go_wp2_with (first | (go_at_call 174;refine(idGreat x _).mono ?_;rintro e w' ⟨rfl,rfl⟩) | (go_at_call 179;refine(idInName x _).mono ?_;rintro e w' ⟨rfl,rfl⟩))
              go_ret
              exact⟨ret_bool (nameTo_first HZ.out hp HX.out hx1).symm,below_iter _ _ _⟩
          · have hpi:(pi==0)=false:=by rw [hpi];exact decide_eq_false hz
            have HZ:=Hd hz;clear hz
            by_cases hx2:nameC x=true
            · go_wp2_with (first | (go_at_call 174;refine(idGreat x _).mono ?_;rintro e w' ⟨rfl,rfl⟩) | (go_at_call 179;refine(idInName x _).mono ?_;rintro e w' ⟨rfl,rfl⟩))
              go_roundw
              case rel=>exact⟨q,(nameTo_step HR.out hp HX.out (fun h=>absurd h HZ.out) hx2).1,rfl,(nameTo_step HR.out hp HX.out (fun h=>absurd h HZ.out) hx2).2⟩
              case measure=>simp;have:=nameTo_lt hp HX.out;omega
            · have hx2:nameC x=false:=by simpa using hx2
              go_wp2_with (first | (go_at_call 174;refine(idGreat x _).mono ?_;rintro e w' ⟨rfl,rfl⟩) | (go_at_call 179;refine(idInName x _).mono ?_;rintro e w' ⟨rfl,rfl⟩))
              go_ret
              exact⟨ret_bool (nameTo_bad hp HX.out hx2).symm,below_iter _ _ _⟩
        · have hnx:∀ ty,(Instr.next (.pointer (some ⟨w.heap.size,0,none⟩)) true ty).run Tryz.prog (w.iter s pos)=_:=fun ty=>run_next_end w s pos ty hp
          go_wp2_with fail
          go_ret
          exact⟨ret_bool (nameTo_end HR.out h0 h12 (by omega)).symm,below_iter _ _ _⟩
end
section
open Go.RowKit
theorem idLow(s:ByteArray) (w:World) (hs:s.size≤9223372036854775807):
 Calls Tryz.prog 137 #[.string s] w fun e w'=>e=.returned (.bool (lowB s.data.toList))∧Below w.heap.size w w':=by
 by_cases h1:nameB smallB s.data.toList=true
 · have HE:=Hd (show(!wordB s.data.toList)=lowB s.data.toList by simp [lowB,h1])
   go_enter Tryz.func137,Tryz.ntmps137
   go_wp2_with fail
   refine(idName _ smallB (.inl ⟨rfl,rfl⟩) s _ hs).mono ?_;rintro e w' ⟨rfl,hb⟩;have HB:=Hd hb;clear hb
   go_wp2_with fail
   refine(idWord s _).mono ?_;rintro e w' ⟨rfl,rfl⟩
   go_wp2_with fail
   go_ret
   exact⟨ret_bool HE.out,HB.out⟩
 · have h1:nameB smallB s.data.toList=false:=by simpa using h1
   have HE:=Hd (show false=lowB s.data.toList by simp [lowB,h1])
   go_enter Tryz.func137,Tryz.ntmps137
   go_wp2_with fail
   refine(idName _ smallB (.inl ⟨rfl,rfl⟩) s _ hs).mono ?_;rintro e w' ⟨rfl,hb⟩;have HB:=Hd hb;clear hb
   go_wp2_with fail
   go_ret
   exact⟨ret_bool HE.out,HB.out⟩
theorem idHigh(s:ByteArray) (w:World) (hs:s.size≤9223372036854775807):
 Calls Tryz.prog 159 #[.string s] w fun e w'=>e=.returned (.bool (highB s.data.toList))∧Below w.heap.size w w':=by
 have HE:=Hd (show nameB greatB s.data.toList=highB s.data.toList from rfl)
 go_enter Tryz.func159,Tryz.ntmps159
 go_wp2_with fail
 refine(idName _ greatB (.inr ⟨rfl,rfl⟩) s _ hs).mono ?_;rintro e w' ⟨rfl,hb⟩;have HB:=Hd hb;clear hb
 go_wp2_with fail
 go_ret
 exact⟨ret_bool HE.out,HB.out⟩
def inR(a b x:Int):Bool:=decide (a≤x∧x≤b)
theorem refIn(x a b:Int) (w:World):Calls Tryz.prog 130 #[.int .u8 x,.int .u8 a,.int .u8 b] w fun e w'=>e=.returned (.bool (inR a b x))∧w=w':=by
 by_cases h1:a≤x
 all_goals
  go_enter Tryz.func130,Tryz.ntmps130
  go_wp2
  go_ret
  exact⟨ret_bool (by rw [Bool.eq_iff_iff];simp [inR,h1] <;> omega),rfl⟩
theorem refInS(x:Int) (w:World):Calls Tryz.prog 130 #[.int .u8 x,.int .u8 97,.int .u8 122] w fun e w'=>e=.returned (.bool (smallB x))∧w=w':=refIn x 97 122 w
theorem refInG(x:Int) (w:World):Calls Tryz.prog 130 #[.int .u8 x,.int .u8 65,.int .u8 90] w fun e w'=>e=.returned (.bool (greatB x))∧w=w':=refIn x 65 90 w
theorem refInD(x:Int) (w:World):Calls Tryz.prog 130 #[.int .u8 x,.int .u8 48,.int .u8 57] w fun e w'=>e=.returned (.bool (digitB x))∧w=w':=refIn x 48 57 w
theorem nameC_snoc{s:ByteArray}{k:Nat}(H:∀ j (h:j<s.size),j<k→nameC ((s[j]'h).toNat:Int)=true) (hlt:k<s.size) (hx:nameC ((s[k]'hlt).toNat:Int)=true):
 ∀ j (h:j<s.size),j<k+1→nameC ((s[j]'h).toNat:Int)=true:=fun j h hj=>by
 rcases Nat.lt_or_ge j k with h1 | h1
 · exact H j h h1
 · obtain rfl:j=k:=by omega
   exact hx
theorem refName(a b:Int) (s:ByteArray) (w:World) (hs:s.size≤9223372036854775807):
 Calls Tryz.prog 83 #[.string s,.int .u8 a,.int .u8 b] w fun e w'=>e=.returned (.bool (nameB (inR a b) s.data.toList))∧w=w':=by
 by_cases h1:s.size<1
 · go_enter Tryz.func83,Tryz.ntmps83
   go_wp2_with fail
   go_ret
   exact⟨ret_bool (name_len (.inl h1)).symm,rfl⟩
 · by_cases h2:12<s.size
   · go_enter Tryz.func83,Tryz.ntmps83
     go_wp2_with fail
     go_ret
     exact⟨ret_bool (name_len (.inr h2)).symm,rfl⟩
   · have hd1:decide ((s.size:Int)<1)=false:=decide_eq_false (by omega);have hd2:decide ((12:Int)<(s.size:Int))=false:=decide_eq_false (by omega);have h0:0<s.size:=by omega
     have h12:s.size≤12:=by omega
     clear h1 h2
     by_cases hf:inR a b ((s[0]'h0).toNat:Int)=true
     · have HF:=Hd hf
       go_enter Tryz.func83,Tryz.ntmps83
       go_wp2_with fail
       refine(refIn _ a b _).mono ?_;rintro e w' ⟨rfl,rfl⟩
       go_wp2_with fail
       clear hd1 hd2 hf
       go_loop [7] (fun i=>∃ k:Nat,k≤s.size∧i=.int .i64 k∧∀ j (h:j<s.size),j<k→nameC ((s[j]'h).toNat:Int)=true) (fun i=>s.size-(intOf i).toNat)
       case atStart=>exact⟨0,by omega,rfl,fun j _ hj=>absurd hj (by omega)⟩
       case round=>
        obtain⟨k,hk,rfl,hrel⟩:=hrel;have HR:=Hd hrel;clear hrel
        by_cases hlt:k<s.size
        · by_cases hx1:smallB ((s[k]'hlt).toNat:Int)=true
          · go_wp2_with (go_at_call 130;refine(refInS _ _).mono ?_;rintro e w' ⟨rfl,rfl⟩)
            go_round
            case rel=>exact⟨k+1,by omega,by go_num,nameC_snoc HR.out hlt (by simp [nameC,hx1])⟩
            case measure=>simp [intOf];omega
          · have hx1:smallB ((s[k]'hlt).toNat:Int)=false:=by simpa using hx1
            by_cases hx2:greatB ((s[k]'hlt).toNat:Int)=true
            · go_wp2_with (first | (go_at_call 130;(with_reducible refine(refInS _ _).mono ?_);rintro e w' ⟨rfl,rfl⟩) | (go_at_call 130;(with_reducible refine(refInG _ _).mono ?_);rintro e w' ⟨rfl,rfl⟩))
              go_round
              case rel=>exact⟨k+1,by omega,by go_num,nameC_snoc HR.out hlt (by simp [nameC,hx2])⟩
              case measure=>simp [intOf];omega
            · have hx2:greatB ((s[k]'hlt).toNat:Int)=false:=by simpa using hx2
              by_cases hx3:digitB ((s[k]'hlt).toNat:Int)=true
              · go_wp2_with (first | (go_at_call 130;(with_reducible refine(refInS _ _).mono ?_);rintro e w' ⟨rfl,rfl⟩) | (go_at_call 130;(with_reducible refine(refInG _ _).mono ?_);rintro e w' ⟨rfl,rfl⟩) | (go_at_call 130;(with_reducible refine(refInD _ _).mono ?_);rintro e w' ⟨rfl,rfl⟩))
                go_round
                case rel=>exact⟨k+1,by omega,by go_num,nameC_snoc HR.out hlt (by simp [nameC,hx3])⟩
                case measure=>simp [intOf];omega
              · have hx3:digitB ((s[k]'hlt).toNat:Int)=false:=by simpa using hx3
                have HN:=Hd (show nameC ((s[k]'hlt).toNat:Int)=decide (((s[k]'hlt).toNat:Int)=95) by simp [nameC,hx1,hx2,hx3])
                go_wp2_with (first | (go_at_call 130;(with_reducible refine(refInS _ _).mono ?_);rintro e w' ⟨rfl,rfl⟩) | (go_at_call 130;(with_reducible refine(refInG _ _).mono ?_);rintro e w' ⟨rfl,rfl⟩) | (go_at_call 130;(with_reducible refine(refInD _ _).mono ?_);rintro e w' ⟨rfl,rfl⟩))
                · have hne:(((s[k]'hlt).toNat:Int) != 95)=true:=by assumption
                  have hno:nameC ((s[k]'hlt).toNat:Int)=false:=by
                   rw [HN.out];exact decide_eq_false (by simpa using hne)
                  go_ret
                  exact⟨ret_bool (name_at hlt hno).symm,rfl⟩
                · have hne:(((s[k]'hlt).toNat:Int) != 95)=false:=by assumption
                  have hyes:nameC ((s[k]'hlt).toNat:Int)=true:=by
                   rw [HN.out];exact decide_eq_true (by simpa using hne)
                  go_round
                  case rel=>exact⟨k+1,by omega,by go_num,nameC_snoc HR.out hlt hyes⟩
                  case measure=>simp [intOf];omega
        · go_wp2_with fail
          go_ret
          exact⟨ret_bool (name_yes h0 h12 HF.out fun j h=>HR.out j h (by omega)).symm,rfl⟩
     · have hf:inR a b ((s[0]'h0).toNat:Int)=false:=by simpa using hf
       go_enter Tryz.func83,Tryz.ntmps83
       go_wp2_with fail
       refine(refIn _ a b _).mono ?_;rintro e w' ⟨rfl,rfl⟩
       go_wp2_with fail
       go_ret
       exact⟨ret_bool (name_first h0 hf).symm,rfl⟩
theorem refLow(s:ByteArray) (w:World) (hs:s.size≤9223372036854775807):
 Calls Tryz.prog 43 #[.string s] w fun e w'=>e=.returned (.bool (lowB s.data.toList))∧Below w.heap.size w w':=by
 have HS:=Hd (show nameB (inR 97 122) s.data.toList=nameB smallB s.data.toList from rfl)
 by_cases h1:nameB smallB s.data.toList=true
 · have HE:=Hd (show(!wordB s.data.toList)=lowB s.data.toList by simp [lowB,h1])
   go_enter Tryz.func43,Tryz.ntmps43
   go_wp2_with fail
   refine(refName 97 122 s _ hs).mono ?_;rw [HS.out];rintro e w' ⟨rfl,rfl⟩
   go_wp2_with fail
   refine(refWord s _).mono ?_;rintro e w' ⟨rfl,hb⟩;have HB:=Hd hb;clear hb
   go_wp2_with fail
   go_ret
   exact⟨ret_bool HE.out,HB.out⟩
 · have h1:nameB smallB s.data.toList=false:=by simpa using h1
   have HE:=Hd (show false=lowB s.data.toList by simp [lowB,h1])
   go_enter Tryz.func43,Tryz.ntmps43
   go_wp2_with fail
   refine(refName 97 122 s _ hs).mono ?_;rw [HS.out];rintro e w' ⟨rfl,rfl⟩
   go_wp2_with fail
   go_ret
   exact⟨ret_bool HE.out,Below.refl _ _⟩
theorem refHigh(s:ByteArray) (w:World) (hs:s.size≤9223372036854775807):
 Calls Tryz.prog 44 #[.string s] w fun e w'=>e=.returned (.bool (highB s.data.toList))∧w=w':=by
 have HS:=Hd (show nameB (inR 65 90) s.data.toList=highB s.data.toList from rfl)
 go_enter Tryz.func44,Tryz.ntmps44
 go_wp2_with fail
 refine(refName 65 90 s _ hs).mono ?_;rw [HS.out];rintro e w' ⟨rfl,rfl⟩
 go_wp2_with fail
 go_ret
 exact⟨rfl,rfl⟩
section
variable {s:ByteArray}
theorem num_len(h:s.size<1∨3<s.size):numB s.data.toList=false:=by
 have:¬ (1≤s.data.toList.length∧s.data.toList.length≤3):=by rw [← Lib.size_eq];omega
 simp only [numB,decide_eq_false this,Bool.false_and]
theorem num_first(h:0<s.size) (hp:((s[0]'h).toNat:Int)=48):numB s.data.toList=false:=by
 obtain⟨F,e⟩:=head_at h;have h48:s[0]'h=48:=UInt8.toNat_inj.1 (by simpa using (by omega:(s[0]'h).toNat=48));rw [e]
 simp [numB,h48]
theorem num_at{k:Nat}(h:k<s.size) (hp:digitB ((s[k]'h).toNat:Int)=false):numB s.data.toList=false:=by
 have hm:s[k]'h∈s.data.toList:=by rw [← at_list s k h];exact List.getElem_mem _
 cases hn:numB s.data.toList with
 | false=>rfl
 | true=>
  simp only [numB,Bool.and_eq_true,List.all_eq_true] at hn;rw [hn.2 _ hm] at hp
  cases hp
theorem num_yes(h1:0<s.size) (h2:s.size≤3) (hp:¬ ((s[0]'h1).toNat:Int)=48) (ha:∀ k (h:k<s.size),digitB ((s[k]'h).toNat:Int)=true):numB s.data.toList=true:=by
 have hz:=Lib.size_eq s
 have hall:s.data.toList.all (fun c=>digitB (c.toNat:Int))=true:=by
  rw [List.all_eq_true];intro c hc;obtain⟨k,hk,e⟩:=List.getElem_of_mem hc;rw [← e,at_list s k (by omega)];exact ha k (by omega)
 have hlen:decide (1≤s.data.toList.length∧s.data.toList.length≤3)=true:=decide_eq_true (by omega);obtain⟨F,e⟩:=head_at h1;have h48:¬ s[0]'h1=48:=fun e=>hp (by rw [e];rfl);unfold numB;rw [hall,hlen,e]
 simp [h48]
end
theorem digitB_high{x:Int}(h:128≤x):digitB x=false:=by
 simp [digitB];omega
def Digits(s:ByteArray) (pos:Nat):Prop:=∀ k (h:k<s.size),k<pos→digitB ((s[k]'h).toNat:Int)=true
theorem digits_zero{s:ByteArray}:Digits s 0:=fun k h hk=>absurd hk (by omega)
theorem digits_snoc{s:ByteArray}{k:Nat}(H:Digits s k) (hlt:k<s.size) (hx:digitB ((s[k]'hlt).toNat:Int)=true):Digits s (k+1):=fun j h hj=>by
 rcases Nat.lt_or_ge j k with h1 | h1
 · exact H j h h1
 · obtain rfl:j=k:=by omega
   exact hx
theorem digits_step{s:ByteArray}{pos q:Nat}{x:Int}(H:Digits s pos) (hp:pos<s.size) (hx:(x=((s[pos]'hp).toNat:Int)∧q=pos+1)∨(128≤x∧128≤(s[pos]'hp).toNat∧pos<q))
 (h2:digitB x=true):q≤s.size∧Digits s q:=by
 rcases hx with⟨rfl,rfl⟩|⟨h,_,_⟩
 · exact⟨by omega,digits_snoc H hp h2⟩
 · rw [digitB_high h] at h2
   cases h2
theorem digits_bad{s:ByteArray}{pos q:Nat}{x:Int}(hp:pos<s.size) (hx:(x=((s[pos]'hp).toNat:Int)∧q=pos+1)∨(128≤x∧128≤(s[pos]'hp).toNat∧pos<q)) (h2:digitB x=false):numB s.data.toList=false:=by
 rcases hx with⟨rfl,rfl⟩|⟨_,h,_⟩
 · exact num_at hp h2
 · exact num_at hp (digitB_high (by omega))
theorem idNumber(s:ByteArray) (w:World) (hs:s.size≤9223372036854775807):
 Calls Tryz.prog 182 #[.string s] w fun e w'=>e=.returned (.bool (numB s.data.toList))∧Below w.heap.size w w':=by
 by_cases h1:s.size<1
 · go_enter Tryz.func182,Tryz.ntmps182
   go_wp2_with fail
   go_ret
   exact⟨ret_bool (num_len (.inl h1)).symm,Below.refl _ _⟩
 · by_cases h2:3<s.size
   · go_enter Tryz.func182,Tryz.ntmps182
     go_wp2_with fail
     go_ret
     exact⟨ret_bool (num_len (.inr h2)).symm,Below.refl _ _⟩
   · have hd1:decide ((s.size:Int)<1)=false:=decide_eq_false (by omega);have hd2:decide ((3:Int)<(s.size:Int))=false:=decide_eq_false (by omega);have h0:0<s.size:=by omega
     have h3:s.size≤3:=by omega
     clear h1 h2
     by_cases hf:((s[0]'h0).toNat:Int)=48
     · have HF:=Hd hf;have hfb:(((s[0]'h0).toNat:Int)==48)=true:=by simpa using hf
       clear hf
       go_enter Tryz.func182,Tryz.ntmps182
       go_wp2_with fail
       go_ret
       exact⟨ret_bool (num_first h0 HF.out).symm,Below.refl _ _⟩
     · have HF:=Hd hf;have hfb:(((s[0]'h0).toNat:Int)==48)=false:=by simpa using hf
       clear hf
       go_enter Tryz.func182,Tryz.ntmps182
       go_wp2_with fail
       clear hd1 hd2 hfb
       go_loopw [4] (fun _ wr=>∃ pos:Nat,pos≤s.size∧wr=w.iter s pos∧Digits s pos) (fun _ wr=>s.size-wr.iterPos w.heap.size)
       case atStart=>exact⟨0,by omega,rfl,digits_zero⟩
       case round=>
        obtain⟨pos,hle,rfl,hrel⟩:=hrel;have HR:=Hd hrel;clear hrel
        by_cases hp:pos<s.size
        · obtain⟨x,q,hnx,hx⟩:=next_at (P:=Tryz.prog) w s pos hp;have HX:=Hd hx;clear hx
          by_cases hx2:digitB x=true
          · go_wp2_with (go_at_call 183;refine(idDigit x _).mono ?_;rintro e w' ⟨rfl,rfl⟩)
            go_roundw
            case rel=>exact⟨q,(digits_step HR.out hp HX.out hx2).1,rfl,(digits_step HR.out hp HX.out hx2).2⟩
            case measure=>simp;have:=nameTo_lt hp HX.out;omega
          · have hx2:digitB x=false:=by simpa using hx2
            go_wp2_with (go_at_call 183;refine(idDigit x _).mono ?_;rintro e w' ⟨rfl,rfl⟩)
            go_ret
            exact⟨ret_bool (digits_bad hp HX.out hx2).symm,below_iter _ _ _⟩
        · have hnx:∀ ty,(Instr.next (.pointer (some ⟨w.heap.size,0,none⟩)) true ty).run Tryz.prog (w.iter s pos)=_:=fun ty=>run_next_end w s pos ty hp
          go_wp2_with fail
          go_ret
          exact⟨ret_bool (num_yes h0 h3 HF.out fun k h=>HR.out k h (by omega)).symm,below_iter _ _ _⟩
end
section
open Go.RowKit Go.Sort
theorem box2_facts(w:World) (x y:Ex) (A A':Option Addr) (ca ca':Nat) (B B':Option Addr) (cb cb':Nat) (w1:World) (h:(w.alloc (.cells (exA x A ca B cb) 35)).alloc (.cells (exA y A' ca' B' cb') 35)=w1) (hr:rdX w x A B) (hr':rdX w y A' B'):
 Below w.heap.size w w1∧w.heap.size+1<w1.heap.size∧rdX w1 x A B∧rdX w1 y A' B'∧(∀ w',Below w1.heap.size w1 w'→∀ j,w'.cell? ⟨w.heap.size,j,none⟩=(exA x A ca B cb)[j]?)∧∀ w',Below w1.heap.size w1 w'→∀ j,w'.cell? ⟨w.heap.size+1,j,none⟩=(exA y A' ca' B' cb')[j]?:=by
 subst h;refine⟨((Below.refl _ _).alloc (Nat.le_refl _) _).alloc (by simp) _,by simp,(hr.alloc _).alloc _,(hr'.alloc _).alloc _,fun w' hb j=>?_,fun w' hb j=>?_⟩
 · rw [hb.cell (p:=⟨w.heap.size,j,none⟩) (by simp;omega),World.cell?_alloc_lt _ _ _ (by simp),World.cell?_alloc_new]
 · rw [hb.cell (p:=⟨w.heap.size+1,j,none⟩) (by simp)];have:=World.cell?_alloc_new (w.alloc (.cells (exA x A ca B cb) 35)) (exA y A' ca' B' cb') 35 j;rwa [World.size_alloc] at this
end
end Go.Proofs.YtegjgiofmpolnaaGreat
