/- Parts of the proof: IdC, IdD, IdE, IdF, IdG, IdH, IdI, IdJ, TyE, PgM. Conditions: each theorem's own. -/
import Derived.Laws.RangeAny
import Derived.Maps.OwnSet
import Derived.Maps.OwnOps
import Derived.Test.YtkbpdoomhfkngaaO01
namespace Go.Proofs.Ytkbpdoomhfkngaa
set_option linter.unusedVariables false
set_option linter.unusedSimpArgs false
set_option maxRecDepth 100000
set_option maxHeartbeats 40000000
section
open Go.RowKit
def wordsS:List ByteArray:=wordsL.map fun l=>⟨l.toArray⟩
theorem wordsS_at(k:Nat) (h:k<24):∃ (l:List UInt8) (x:ByteArray),wordsS[k]?=some x∧x.toList=l∧l∈wordsL:=by
 have hl:k<wordsL.length:=h;refine⟨wordsL[k],⟨wordsL[k].toArray⟩,?_,?_,List.getElem_mem hl⟩
 · simp [wordsS,List.getElem?_eq_getElem hl]
 · rw [Lib.toList_data]
theorem wordsS_all{s:ByteArray}(h:∀ j,j<24→((wordsS[j]?.getD ByteArray.empty).toList==s.toList)=false):wordB s.data.toList=false:=by
 apply word_no
 intro l hl;obtain⟨k,hk,e⟩:=List.getElem_of_mem hl;have h1:=h k hk
 have h2:wordsS[k]?=some ⟨l.toArray⟩:=by
  simp [wordsS,List.getElem?_eq_getElem hk,e]
 rw [h2] at h1;simp only [Option.getD_some,Lib.toList_data] at h1;rw [Lib.toList_data];rw [beq_eq_false_iff_ne] at h1 ⊢;exact fun e=>h1 e.symm
theorem refWords(w:World):Calls Try.prog 67 #[] w fun e w'=>∃ A,e=.returned (.slice A 24 24)∧RdT w' A 24 wordsS∧Below w.heap.size w w':=by
 have HL:=Hd fun(cs:Array Value) (T:TypeId)=>RdT.lit w T wordsS 24 rfl (by omega) cs
 go_enter Try.func67,Try.ntmps67
 go_wp2
 go_ret
 exact⟨_,rfl,HL.out _ _ (by rfl),(Below.refl _ _).alloc (Nat.le_refl _) _⟩
theorem refWord(s:ByteArray) (w:World):Calls Try.prog 61 #[.string s] w fun e w'=>e=.returned (.bool (wordB s.data.toList))∧Below w.heap.size w w':=by
 go_enter Try.func61,Try.ntmps61
 go_wp2_with fail
 refine(refWords _).mono ?_;rintro e w' ⟨A,rfl,hrd,hbel⟩;have HB:=Hd hbel;obtain⟨b,off,rfl,hb,hc⟩:=hrd.at_ (i:=0) (by omega);have HC:=Hd hc;clear hbel hrd hc
 go_wp2_with fail
 go_loop [4] (fun i=>∃ k:Nat,k≤24∧i=.int .i64 k∧∀ j,j<k→((wordsS[j]?.getD ByteArray.empty).toList==s.toList)=false) (fun i=>24-(intOf i).toNat)
 case atStart=>exact⟨0,Nat.zero_le _,rfl,fun j hj=>absurd hj (by omega)⟩
 case round=>
  obtain⟨k,hk,rfl,hall⟩:=hrel;have HA:=Hd hall;clear hall
  by_cases hlt:k<24
  · obtain⟨l,x,hx,hxl,hm⟩:=wordsS_at k hlt;have hck:=HC.out k hlt;rw [hx] at hck;simp only [Option.getD_some] at hck;have HX:=Hd hx;have HXL:=Hd hxl;clear hx hxl
    by_cases heq:(x.toList==s.toList)=true
    · go_wp2
      go_ret
      refine⟨ret_bool ?_,HB.out⟩;exact(word_yes (l:=l) (by rw [beq_iff_eq] at heq ⊢;rw [← heq,HXL.out]) hm).symm
    · have heq:(x.toList==s.toList)=false:=by simpa using heq
      have HE:=Hd heq
      go_wp2
      go_round
      case rel=>
       refine⟨k+1,by omega,by go_num,fun j hj=>?_⟩;rcases Nat.lt_or_ge j k with h | h
       · exact HA.out j h
       · obtain rfl:j=k:=by omega
         rw [HX.out];exact HE.out
      case measure=>simp [intOf];omega
  · go_wp2
    go_ret
    exact⟨ret_bool (wordsS_all fun j hj=>HA.out j (by omega)).symm,HB.out⟩
end
section
open Go.RowKit
section
variable {P:Int→Bool}{s:ByteArray}
theorem at_list(s:ByteArray) (k:Nat) (h:k<s.size):s.data.toList[k]'(by rw [← Lib.size_eq];exact h)=s[k]'h:=rfl
theorem name_len(h:s.size<1∨12<s.size):nameB P s.data.toList=false:=by
 have:¬ (1≤s.data.toList.length∧s.data.toList.length≤12):=by rw [← Lib.size_eq];omega
 simp only [nameB,decide_eq_false this,Bool.false_and]
theorem at_opt(s:ByteArray) (k:Nat) (h:k<s.size):s.data.toList[k]?=some (s[k]'h):=by
 rw [← at_list s k h,List.getElem?_eq_getElem]
theorem head_at(h:0<s.size):∃ F,s.data.toList=s[0]'h::F:=by
 have hl:=at_opt s 0 h;generalize s[0]'h=c at hl ⊢
 cases e:s.data.toList with
 | nil=>rw [e] at hl;simp at hl
 | cons d F=>rw [e] at hl;simp at hl;exact⟨F,by rw [hl]⟩
theorem name_first(h:0<s.size) (hp:P ((s[0]'h).toNat:Int)=false):nameB P s.data.toList=false:=by
 obtain⟨F,e⟩:=head_at h;rw [e];simp only [nameB,hp,Bool.and_false,Bool.false_and]
theorem name_at{k:Nat}(h:k<s.size) (hp:nameC ((s[k]'h).toNat:Int)=false):nameB P s.data.toList=false:=by
 have hm:s[k]'h∈s.data.toList:=by rw [← at_list s k h];exact List.getElem_mem _
 cases hn:nameB P s.data.toList with
 | false=>rfl
 | true=>rw [nameB_all hn _ hm] at hp;cases hp
theorem name_yes(h1:0<s.size) (h2:s.size≤12) (hp:P ((s[0]'h1).toNat:Int)=true) (ha:∀ k (h:k<s.size),nameC ((s[k]'h).toNat:Int)=true):nameB P s.data.toList=true:=by
 have hz:=Lib.size_eq s
 have hall:s.data.toList.all (fun c=>nameC (c.toNat:Int))=true:=by
  rw [List.all_eq_true];intro c hc;obtain⟨k,hk,e⟩:=List.getElem_of_mem hc;rw [← e,at_list s k (by omega)];exact ha k (by omega)
 have hlen:decide (1≤s.data.toList.length∧s.data.toList.length≤12)=true:=decide_eq_true (by omega);obtain⟨F,e⟩:=head_at h1;unfold nameB;rw [hall,hlen,e];simp only [hp,Bool.and_true]
end
section
variable {P:Int→Bool}{s:ByteArray}{pos q:Nat}{x:Int}
end
end
section
open Go.RowKit
def inR(a b x:Int):Bool:=decide (a≤x∧x≤b)
theorem refIn(x a b:Int) (w:World):Calls Try.prog 65 #[.int .u8 x,.int .u8 a,.int .u8 b] w fun e w'=>e=.returned (.bool (inR a b x))∧w=w':=by
 by_cases h1:a≤x
 all_goals
  go_enter Try.func65,Try.ntmps65
  go_wp2
  go_ret
  exact⟨ret_bool (by rw [Bool.eq_iff_iff];simp [inR,h1] <;> omega),rfl⟩
theorem refInS(x:Int) (w:World):Calls Try.prog 65 #[.int .u8 x,.int .u8 97,.int .u8 122] w fun e w'=>e=.returned (.bool (smallB x))∧w=w':=refIn x 97 122 w
theorem refInG(x:Int) (w:World):Calls Try.prog 65 #[.int .u8 x,.int .u8 65,.int .u8 90] w fun e w'=>e=.returned (.bool (greatB x))∧w=w':=refIn x 65 90 w
theorem refInD(x:Int) (w:World):Calls Try.prog 65 #[.int .u8 x,.int .u8 48,.int .u8 57] w fun e w'=>e=.returned (.bool (digitB x))∧w=w':=refIn x 48 57 w
theorem nameC_snoc{s:ByteArray}{k:Nat}(H:∀ j (h:j<s.size),j<k→nameC ((s[j]'h).toNat:Int)=true) (hlt:k<s.size) (hx:nameC ((s[k]'hlt).toNat:Int)=true):
 ∀ j (h:j<s.size),j<k+1→nameC ((s[j]'h).toNat:Int)=true:=fun j h hj=>by
 rcases Nat.lt_or_ge j k with h1 | h1
 · exact H j h h1
 · obtain rfl:j=k:=by omega
   exact hx
theorem refName(a b:Int) (s:ByteArray) (w:World) (hs:s.size≤9223372036854775807):
 Calls Try.prog 60 #[.string s,.int .u8 a,.int .u8 b] w fun e w'=>e=.returned (.bool (nameB (inR a b) s.data.toList))∧w=w':=by
 by_cases h1:s.size<1
 · go_enter Try.func60,Try.ntmps60
   go_wp2_with fail
   go_ret
   exact⟨ret_bool (name_len (.inl h1)).symm,rfl⟩
 · by_cases h2:12<s.size
   · go_enter Try.func60,Try.ntmps60
     go_wp2_with fail
     go_ret
     exact⟨ret_bool (name_len (.inr h2)).symm,rfl⟩
   · have hd1:decide ((s.size:Int)<1)=false:=decide_eq_false (by omega);have hd2:decide ((12:Int)<(s.size:Int))=false:=decide_eq_false (by omega);have h0:0<s.size:=by omega
     have h12:s.size≤12:=by omega
     clear h1 h2
     by_cases hf:inR a b ((s[0]'h0).toNat:Int)=true
     · have HF:=Hd hf
       go_enter Try.func60,Try.ntmps60
       go_wp2_with fail
       refine(refIn _ a b _).mono ?_;rintro e w' ⟨rfl,rfl⟩
       go_wp2_with fail
       clear hd1 hd2 hf
       go_loop [7] (fun i=>∃ k:Nat,k≤s.size∧i=.int .i64 k∧∀ j (h:j<s.size),j<k→nameC ((s[j]'h).toNat:Int)=true) (fun i=>s.size-(intOf i).toNat)
       case atStart=>exact⟨0,by omega,rfl,fun j _ hj=>absurd hj (by omega)⟩
       case round=>
        obtain⟨k,hk,rfl,hrel⟩:=hrel;have HR:=Hd hrel;clear hrel
        by_cases hlt:k<s.size
        · by_cases hx1:smallB ((s[k]'hlt).toNat:Int)=true
          · go_wp2_with (go_at_call 65;refine(refInS _ _).mono ?_;rintro e w' ⟨rfl,rfl⟩)
            go_round
            case rel=>exact⟨k+1,by omega,by go_num,nameC_snoc HR.out hlt (by simp [nameC,hx1])⟩
            case measure=>simp [intOf];omega
          · have hx1:smallB ((s[k]'hlt).toNat:Int)=false:=by simpa using hx1
            by_cases hx2:greatB ((s[k]'hlt).toNat:Int)=true
            · go_wp2_with (first | (go_at_call 65;(with_reducible refine(refInS _ _).mono ?_);rintro e w' ⟨rfl,rfl⟩) | (go_at_call 65;(with_reducible refine(refInG _ _).mono ?_);rintro e w' ⟨rfl,rfl⟩))
              go_round
              case rel=>exact⟨k+1,by omega,by go_num,nameC_snoc HR.out hlt (by simp [nameC,hx2])⟩
              case measure=>simp [intOf];omega
            · have hx2:greatB ((s[k]'hlt).toNat:Int)=false:=by simpa using hx2
              by_cases hx3:digitB ((s[k]'hlt).toNat:Int)=true
              · go_wp2_with (first | (go_at_call 65;(with_reducible refine(refInS _ _).mono ?_);rintro e w' ⟨rfl,rfl⟩) | (go_at_call 65;(with_reducible refine(refInG _ _).mono ?_);rintro e w' ⟨rfl,rfl⟩) | (go_at_call 65;(with_reducible refine(refInD _ _).mono ?_);rintro e w' ⟨rfl,rfl⟩))
                go_round
                case rel=>exact⟨k+1,by omega,by go_num,nameC_snoc HR.out hlt (by simp [nameC,hx3])⟩
                case measure=>simp [intOf];omega
              · have hx3:digitB ((s[k]'hlt).toNat:Int)=false:=by simpa using hx3
                have HN:=Hd (show nameC ((s[k]'hlt).toNat:Int)=decide (((s[k]'hlt).toNat:Int)=95) by simp [nameC,hx1,hx2,hx3])
                go_wp2_with (first | (go_at_call 65;(with_reducible refine(refInS _ _).mono ?_);rintro e w' ⟨rfl,rfl⟩) | (go_at_call 65;(with_reducible refine(refInG _ _).mono ?_);rintro e w' ⟨rfl,rfl⟩) | (go_at_call 65;(with_reducible refine(refInD _ _).mono ?_);rintro e w' ⟨rfl,rfl⟩))
                · have hne:(((s[k]'hlt).toNat:Int) != 95)=true:=by assumption
                  have hno:nameC ((s[k]'hlt).toNat:Int)=false:=by
                   rw [HN.out];exact decide_eq_false (by simpa using hne)
                  go_ret
                  exact⟨ret_bool (name_at hlt hno).symm,rfl⟩
                · have hne:(((s[k]'hlt).toNat:Int) != 95)=false:=by assumption
                  have hyes:nameC ((s[k]'hlt).toNat:Int)=true:=by
                   rw [HN.out];exact decide_eq_true (by simpa using hne)
                  go_round
                  case rel=>exact⟨k+1,by omega,by go_num,nameC_snoc HR.out hlt hyes⟩
                  case measure=>simp [intOf];omega
        · go_wp2_with fail
          go_ret
          exact⟨ret_bool (name_yes h0 h12 HF.out fun j h=>HR.out j h (by omega)).symm,rfl⟩
     · have hf:inR a b ((s[0]'h0).toNat:Int)=false:=by simpa using hf
       go_enter Try.func60,Try.ntmps60
       go_wp2_with fail
       refine(refIn _ a b _).mono ?_;rintro e w' ⟨rfl,rfl⟩
       go_wp2_with fail
       go_ret
       exact⟨ret_bool (name_first h0 hf).symm,rfl⟩
theorem refLow(s:ByteArray) (w:World) (hs:s.size≤9223372036854775807):
 Calls Try.prog 49 #[.string s] w fun e w'=>e=.returned (.bool (lowB s.data.toList))∧Below w.heap.size w w':=by
 have HS:=Hd (show nameB (inR 97 122) s.data.toList=nameB smallB s.data.toList from rfl)
 by_cases h1:nameB smallB s.data.toList=true
 · have HE:=Hd (show(!wordB s.data.toList)=lowB s.data.toList by simp [lowB,h1])
   go_enter Try.func49,Try.ntmps49
   go_wp2_with fail
   refine(refName 97 122 s _ hs).mono ?_;rw [HS.out];rintro e w' ⟨rfl,rfl⟩
   go_wp2_with fail
   refine(refWord s _).mono ?_;rintro e w' ⟨rfl,hb⟩;have HB:=Hd hb;clear hb
   go_wp2_with fail
   go_ret
   exact⟨ret_bool HE.out,HB.out⟩
 · have h1:nameB smallB s.data.toList=false:=by simpa using h1
   have HE:=Hd (show false=lowB s.data.toList by simp [lowB,h1])
   go_enter Try.func49,Try.ntmps49
   go_wp2_with fail
   refine(refName 97 122 s _ hs).mono ?_;rw [HS.out];rintro e w' ⟨rfl,rfl⟩
   go_wp2_with fail
   go_ret
   exact⟨ret_bool HE.out,Below.refl _ _⟩
theorem refHigh(s:ByteArray) (w:World) (hs:s.size≤9223372036854775807):
 Calls Try.prog 50 #[.string s] w fun e w'=>e=.returned (.bool (highB s.data.toList))∧w=w':=by
 have HS:=Hd (show nameB (inR 65 90) s.data.toList=highB s.data.toList from rfl)
 go_enter Try.func50,Try.ntmps50
 go_wp2_with fail
 refine(refName 65 90 s _ hs).mono ?_;rw [HS.out];rintro e w' ⟨rfl,rfl⟩
 go_wp2_with fail
 go_ret
 exact⟨rfl,rfl⟩
section
variable {s:ByteArray}
theorem num_len(h:s.size<1∨3<s.size):numB s.data.toList=false:=by
 have:¬ (1≤s.data.toList.length∧s.data.toList.length≤3):=by rw [← Lib.size_eq];omega
 simp only [numB,decide_eq_false this,Bool.false_and]
theorem num_first(h:0<s.size) (hp:((s[0]'h).toNat:Int)=48):numB s.data.toList=false:=by
 obtain⟨F,e⟩:=head_at h;have h48:s[0]'h=48:=UInt8.toNat_inj.1 (by simpa using (by omega:(s[0]'h).toNat=48));rw [e]
 simp [numB,h48]
theorem num_at{k:Nat}(h:k<s.size) (hp:digitB ((s[k]'h).toNat:Int)=false):numB s.data.toList=false:=by
 have hm:s[k]'h∈s.data.toList:=by rw [← at_list s k h];exact List.getElem_mem _
 cases hn:numB s.data.toList with
 | false=>rfl
 | true=>
  simp only [numB,Bool.and_eq_true,List.all_eq_true] at hn;rw [hn.2 _ hm] at hp
  cases hp
theorem num_yes(h1:0<s.size) (h2:s.size≤3) (hp:¬ ((s[0]'h1).toNat:Int)=48) (ha:∀ k (h:k<s.size),digitB ((s[k]'h).toNat:Int)=true):numB s.data.toList=true:=by
 have hz:=Lib.size_eq s
 have hall:s.data.toList.all (fun c=>digitB (c.toNat:Int))=true:=by
  rw [List.all_eq_true];intro c hc;obtain⟨k,hk,e⟩:=List.getElem_of_mem hc;rw [← e,at_list s k (by omega)];exact ha k (by omega)
 have hlen:decide (1≤s.data.toList.length∧s.data.toList.length≤3)=true:=decide_eq_true (by omega);obtain⟨F,e⟩:=head_at h1;have h48:¬ s[0]'h1=48:=fun e=>hp (by rw [e];rfl);unfold numB;rw [hall,hlen,e]
 simp [h48]
end
def Digits(s:ByteArray) (pos:Nat):Prop:=∀ k (h:k<s.size),k<pos→digitB ((s[k]'h).toNat:Int)=true
theorem digits_zero{s:ByteArray}:Digits s 0:=fun k h hk=>absurd hk (by omega)
theorem digits_snoc{s:ByteArray}{k:Nat}(H:Digits s k) (hlt:k<s.size) (hx:digitB ((s[k]'hlt).toNat:Int)=true):Digits s (k+1):=fun j h hj=>by
 rcases Nat.lt_or_ge j k with h1 | h1
 · exact H j h h1
 · obtain rfl:j=k:=by omega
   exact hx
end
section
open Go.RowKit
end
section
open Go.RowKit Go.Maps Go.WideMaps
def onceTo(ss:List ByteArray) (k:Nat):Prop:=((ss.take k).map fun s=>s.data.toList).Nodup
def seenAt(ss:List ByteArray) (k:Nat):Bool:=decide ((ss[k]?.getD ByteArray.empty).data.toList∈(ss.take k).map fun s=>s.data.toList)
def onceS(ss:List ByteArray):Bool:=onceB (ss.map fun s=>s.data.toList)
theorem take_snocT{ss:List ByteArray}{k:Nat}(h:k<ss.length):ss.take (k+1)=ss.take k++[ss[k]?.getD ByteArray.empty]:=by
 rw [List.take_succ_eq_append_getElem h,List.getElem?_eq_getElem h];rfl
theorem onceTo_zero(ss:List ByteArray):onceTo ss 0:=by simp [onceTo]
theorem onceTo_succ{ss:List ByteArray}{k:Nat}(H:onceTo ss k) (h:k<ss.length) (hn:seenAt ss k=false):onceTo ss (k+1):=by
 unfold onceTo at H ⊢;rw [take_snocT h,List.map_append,List.nodup_append];refine⟨H,by simp,fun a ha b hb=>?_⟩
 simp at hb
 subst hb;intro e;subst e;simp only [seenAt,decide_eq_false_iff_not] at hn;exact hn ha
theorem onceTo_end{ss:List ByteArray}{k:Nat}(H:onceTo ss k) (h:ss.length≤k):onceS ss=true:=by
 unfold onceTo at H;rw [List.take_of_length_le h] at H;exact decide_eq_true H
theorem seen_twice{ss:List ByteArray}{k:Nat}(h:k<ss.length) (hn:seenAt ss k=true):onceS ss=false:=by
 simp only [seenAt,decide_eq_true_eq] at hn;unfold onceS onceB;refine decide_eq_false fun hd=>?_;have e:ss=ss.take k++ss.drop k:=(List.take_append_drop k ss).symm;rw [e,List.map_append,List.nodup_append] at hd
 have hm:(ss[k]?.getD ByteArray.empty)∈ss.drop k:=by
  rw [List.getElem?_eq_getElem h,Option.getD_some,List.drop_eq_getElem_cons h];exact List.mem_cons_self
 exact hd.2.2 _ hn _ (List.mem_map.2 ⟨_,hm,rfl⟩) rfl
end
section
open Go.RowKit
def apartTo(ss:List ByteArray) (x:ByteArray) (j:Nat):Prop:=∀ i,i<j→((ss[i]?.getD ByteArray.empty).toList==x.toList)=false
theorem apart_seen{ss:List ByteArray}{k:Nat}(h:k<ss.length) (H:apartTo ss (ss[k]?.getD ByteArray.empty) k):seenAt ss k=false:=by
 refine decide_eq_false fun hm=>?_;obtain⟨y,hy,e⟩:=List.mem_map.1 hm;obtain⟨i,hi,ey⟩:=List.getElem_of_mem hy;rw [List.length_take] at hi;have h1:=H i (by omega);rw [List.getElem_take] at ey;rw [List.getElem?_eq_getElem (show i<ss.length by omega),Option.getD_some,ey,Lib.toList_data,Lib.toList_data,e] at h1
 simp at h1
theorem meets_seen{ss:List ByteArray}{i k:Nat}(h:k<ss.length) (hi:i<k) (he:((ss[i]?.getD ByteArray.empty).toList==(ss[k]?.getD ByteArray.empty).toList)=true):seenAt ss k=true:=by
 refine decide_eq_true (List.mem_map.2 ⟨ss[i]?.getD ByteArray.empty,?_,?_⟩)
 · rw [List.getElem?_eq_getElem (show i<ss.length by omega),Option.getD_some];exact List.mem_take_iff_getElem.2 ⟨i,by omega,rfl⟩
 · rw [Lib.toList_data,Lib.toList_data] at he;exact beq_iff_eq.1 he
theorem refOnce(A:Option Addr) (n c:Nat) (ss:List ByteArray) (w:World) (h:RdT w A n ss) (hn:n≤100):
 Calls Try.prog 33 #[.slice A n c] w fun e w'=>e=.returned (.bool (onceS ss))∧∃ m,w'=w.drewN m:=by
 have HL:=Hd h.len
 go_enter Try.func33,Try.ntmps33
 go_wp2_with fail
 go_loopw [3] (fun i wr=>∃ k:Nat,k≤n∧i=.int .i64 k∧(∃ m,wr=w.drewN m)∧onceTo ss k) (fun i _=>n-(intOf i).toNat)
 case atStart=>exact⟨0,Nat.zero_le _,rfl,⟨0,rfl⟩,onceTo_zero _⟩
 case round=>
  obtain⟨k,hk,rfl,⟨m,rfl⟩,honce⟩:=hrel;have HO:=Hd honce;clear honce
  by_cases hlt:k<n
  · obtain⟨b,off,rfl,hb,hc⟩:=h.at_ hlt;have hkk:k<ss.length:=by rw [HL.out];exact hlt
    have hck:=hc k hlt;generalize hx:ss[k]?.getD ByteArray.empty=x at hck;have HX:=Hd hx;have HKK:=Hd hkk;have HC:=Hd hc;clear hx hkk hc
    go_wp2_with fail
    go_loopw [4] (fun j wr=>∃ i:Nat,i≤k∧j=.int .i64 i∧(∃ m,wr=w.drewN m)∧apartTo ss x i) (fun j _=>k-(intOf j).toNat)
    case atStart=>exact⟨0,Nat.zero_le _,rfl,⟨_,rfl⟩,fun i hi=>absurd hi (by omega)⟩
    case round=>
     obtain⟨i,hi,rfl,⟨m2,rfl⟩,hap⟩:=hrel;have HAP:=Hd hap;clear hap
     by_cases hik:i<k
     · have hci:=HC.out i (by omega);generalize hy:ss[i]?.getD ByteArray.empty=y at hci;have HY:=Hd hy;clear hy
       by_cases he:(y.toList==x.toList)=true
       · have HE:=Hd he
         go_wp2_with fail
         go_quiet (fail)
         go_wp2_with fail
         go_ret
         refine⟨ret_bool ?_,_,World.drewN_drewN _ _ _⟩;exact(seen_twice HKK.out (meets_seen HKK.out hik (by rw [HX.out,HY.out];exact HE.out))).symm
       · have he:(y.toList==x.toList)=false:=by simpa using he
         have HE:=Hd he
         go_wp2_with fail
         go_quiet (fail)
         go_wp2_with fail
         go_roundw
         case rel=>
          refine⟨i+1,by omega,by go_num,⟨_,rfl⟩,fun j hj=>?_⟩;rcases Nat.lt_or_ge j i with h1 | h1
          · exact HAP.out j h1
          · obtain rfl:j=i:=by omega
            rw [HY.out];exact HE.out
         case measure=>simp [intOf];omega
     · go_wp2_with fail
       go_roundw
       case rel=>
        refine⟨k+1,by omega,by go_num,⟨_,rfl⟩,onceTo_succ HO.out HKK.out (apart_seen HKK.out ?_)⟩;rw [HX.out];exact fun j hj=>HAP.out j (by omega)
       case measure=>simp [intOf];omega
  · go_wp2_with fail
    go_ret
    exact⟨ret_bool (onceTo_end HO.out (by rw [HL.out];omega)).symm,_,rfl⟩
end
section
open Go.RowKit
def partsOf(ss:List ByteArray):List (List UInt8):=ss.map fun s=>s.data.toList
def CutTo(c:UInt8) (s:ByteArray) (ss:List ByteArray) (f i:Nat):Prop:=
 ss.length≤i∧((i≤s.size∧f≤i∧cutL c s.data.toList=partsOf ss++cutL c (s.data.toList.drop f)∧c∉(s.data.toList.drop f).take (i-f)) ∨
 (i=s.size+1∧f=i∧cutL c s.data.toList=partsOf ss))
section
variable {c:UInt8}{s:ByteArray}{ss:List ByteArray}{f i:Nat}
theorem cutTo_zero:CutTo c s [] 0 0:=⟨by simp,.inl ⟨by omega,by omega,by simp [partsOf],by simp⟩⟩
theorem cutTo_bd(H:CutTo c s ss f i) (hi:i≤s.size):f≤i:=by
 obtain⟨_,h | h⟩:=H <;> omega
theorem extract_at(hi:i≤s.size):(s.extract f i).data.toList=(s.data.toList.drop f).take (i-f):=Lib.extract_data s f i
theorem cutTo_last(H:CutTo c s ss f i) (hi:i=s.size):CutTo c s (ss++[s.extract f i]) (i+1) (i+1):=by
 subst hi;obtain⟨hl,h | h⟩:=H
 · obtain⟨_,hf,he,hn⟩:=h;refine⟨by simp;omega,.inr ⟨rfl,rfl,?_⟩⟩;have h1:(s.data.toList.drop f).take (s.size-f)=s.data.toList.drop f:=List.take_of_length_le (by rw [Lib.size_eq];simp);rw [h1] at hn;rw [he,cutL_none hn];simp only [partsOf,List.map_append,List.map_cons,List.map_nil];rw [extract_at (Nat.le_refl _),h1]
 · omega
theorem cutTo_cut(H:CutTo c s ss f i) (hi:i<s.size) (hc:s[i]'hi=c):CutTo c s (ss++[s.extract f i]) (i+1) (i+1):=by
 obtain⟨hl,h | h⟩:=H
 · obtain⟨_,hf,he,hn⟩:=h;have hlen:i<s.data.toList.length:=by rw [← Lib.size_eq];exact hi
   refine⟨by simp;omega,.inl ⟨by omega,by omega,?_,by simp⟩⟩
   have e1:s.data.toList.drop f=(s.data.toList.drop f).take (i-f)++c::s.data.toList.drop (i+1):=by
    have h1:=(List.take_append_drop (i-f) (s.data.toList.drop f)).symm
    have h2:(s.data.toList.drop f).drop (i-f)=c::s.data.toList.drop (i+1):=by
     rw [List.drop_drop,show f+(i-f)=i by omega,List.drop_eq_getElem_cons hlen,at_list s i hi,hc]
    rw [h2] at h1;exact h1
   rw [he,e1,cutL_at hn];simp only [partsOf,List.map_append,List.map_cons,List.map_nil,List.append_assoc,List.singleton_append];rw [extract_at (by omega)]
 · omega
theorem cutTo_on(H:CutTo c s ss f i) (hi:i<s.size) (hc:¬ s[i]'hi=c):CutTo c s ss f (i+1):=by
 obtain⟨hl,h | h⟩:=H
 · obtain⟨_,hf,he,hn⟩:=h;have hlen:i<s.data.toList.length:=by rw [← Lib.size_eq];exact hi
   refine⟨by omega,.inl ⟨by omega,by omega,he,?_⟩⟩;have e1:i+1-f=(i-f)+1:=by omega
   have hd:i-f<(s.data.toList.drop f).length:=by rw [List.length_drop];omega
   rw [e1,List.take_succ_eq_append_getElem hd,List.mem_append];rintro (h | h)
   · exact hn h
   · simp only [List.mem_singleton,List.getElem_drop] at h
     apply hc
     rw [← at_list s i hi,h]
     congr 1
     omega
 · omega
theorem cutTo_end(H:CutTo c s ss f i) (hi:¬ i≤s.size):cutL c s.data.toList=partsOf ss:=by
 obtain⟨_,h | h⟩:=H
 · omega
 · exact h.2.2
end
def CutsTo(c:UInt8) (s:ByteArray) (w:World) (e:Ending) (w':World):Prop:=
 ∃ (A:Option Addr) (n k:Nat) (ss:List ByteArray),e=.returned (.slice A n k)∧RdT w' A n ss∧cutL c s.data.toList=partsOf ss∧n≤s.size+1∧Below w.heap.size w w'
theorem cutsTo_mk{c:UInt8}{s:ByteArray}{w w':World}{base:Nat}{T:TypeId}{v:Value}{ss:List ByteArray}{f i n:Nat}
 (H:CutTo c s ss f i) (hi:¬ i≤s.size) (hi2:i≤s.size+1) (hs:s.size≤1000) (hn:n=ss.length) (hrow:w'.ownsRow base T 1 v n (ss.map Value.string)) (hb:Below w.heap.size w w'):
 CutsTo c s w (.returned v) w':=by
 have h1:=cutTo_end H hi;have h2:=H.1;obtain⟨A,k,rfl,hrd,_⟩:=RdT.of_own hrow (by omega);exact⟨A,n,k,ss,rfl,hrd,h1,by omega,hb⟩
theorem infoString:(Try.prog.info? 9).map (fun i=>(i.zero,i.size,i.bytes))=some (some (.string ByteArray.empty),1,16):=by kernel_rfl
theorem string_cells(l:List ByteArray):∀ u∈l.map Value.string,u.oneCell'=true:=by
 intro u hu;simp only [List.mem_map] at hu;obtain⟨z,_,rfl⟩:=hu;rfl
theorem refCut(s:ByteArray) (x:Int) (c:UInt8) (hx:x=(c.toNat:Int)) (w:World) (hs:s.size≤1000):
 Calls Try.prog 64 #[.string s,.int .u8 x] w (CutsTo c s w):=by
 have HX:=Hd hx;clear hx;obtain⟨i0,hi,hz0,hz1,hz2⟩:=info_parts infoString;have hr0:=Hd (World.ownsRow_lit (base:=w.heap.size) (e:=9) (size:=1) w #[] 0 (Nat.le_refl _) (by decide) rfl);have HB0:=Hd ((Below.refl w.heap.size w).alloc (Nat.le_refl _) (.cells #[] 9))
 go_enter Try.func64,Try.ntmps64
 go_wp2_with fail
 go_loopw [5,6,7] (fun v fr i wr=>∃ (ss:List ByteArray) (f k:Nat),i=.int .i64 k∧fr=.int .i64 f∧k≤s.size+1∧CutTo c s ss f k∧wr.ownsRow w.heap.size 9 1 v ss.length (ss.map Value.string)∧Below w.heap.size w wr)
  (fun _ _ i _=>s.size+1-(intOf i).toNat)
 case atStart=>exact⟨[],0,0,rfl,rfl,by omega,cutTo_zero,hr0.out,HB0.out⟩
 case round=>
  obtain⟨ss,f,k,rfl,rfl,hk,hcut,hrow,hbel⟩:=hrel;have HC:=Hd hcut;have hsl:=hcut.1;have HR:=Hd hrow;have HB:=Hd hbel;have hws:=hbel.size
  by_cases hle:k≤s.size
  · have hfk:=cutTo_bd hcut hle;clear hcut hrow hbel hr0 HB0
    by_cases hend:k=s.size
    · have hb1:((k:Int)==(s.size:Int))=true:=by rw [hend];simp
      have HE:=Hd hend;clear hend
      go_wp2_with (first | (at_builtin;refine wpList_append_own_at _ rfl _ _ 26 rfl w.heap.size 9 i0 (.string ByteArray.empty) 1 16 Try.underlying26 hi hz0 hz1 hz2 rfl (by decide) _ _ _ rfl (HR.out.alloc _) ⟨wr.heap.size,0,none⟩ 1 1 [.string (s.extract f k)] rfl rfl (cell_one_new _ _ _) (string_cells [s.extract f k]) (by unfold maxLen;omega) (by omega) (by simp;omega) ?_;intro v' w1 hown' hgrow hnil hloc))
      have HO:=Hd hown';have HG:=Hd hgrow;have hs1:=hgrow.size
      simp at hs1
      clear hown' hgrow hnil hloc
      go_roundw
      case rel=>
       refine⟨ss++[s.extract f k],k+1,k+1,by go_num,by go_num,by omega,cutTo_last HC.out HE.out,?_,?_⟩
       · rw [List.length_append,List.map_append];exact HO.out
       · exact(HB.out.alloc (by have:=HB.out.size;omega) _).grown HG.out (by have:=HB.out.size;simp;omega) (fun j hj=>(HR.out.lt j hj).1)
      case measure=>simp [intOf];omega
    · have hlt:k<s.size:=by omega
      have hb1:((k:Int)==(s.size:Int))=false:=by rw [beq_eq_false_iff_ne];omega
      clear hend
      by_cases hce:s[k]'hlt=c
      · have hb2:(((s[k]'hlt).toNat:Int)==x)=true:=by rw [HX.out,hce];simp
        have HE:=Hd hce;clear hce
        go_wp2_with (first | (at_builtin;refine wpList_append_own_at _ rfl _ _ 26 rfl w.heap.size 9 i0 (.string ByteArray.empty) 1 16 Try.underlying26 hi hz0 hz1 hz2 rfl (by decide) _ _ _ rfl (HR.out.alloc _) ⟨wr.heap.size,0,none⟩ 1 1 [.string (s.extract f k)] rfl rfl (cell_one_new _ _ _) (string_cells [s.extract f k]) (by unfold maxLen;omega) (by omega) (by simp;omega) ?_;intro v' w1 hown' hgrow hnil hloc))
        have HO:=Hd hown';have HG:=Hd hgrow;have hs1:=hgrow.size
        simp at hs1
        clear hown' hgrow hnil hloc
        go_roundw
        case rel=>
         refine⟨ss++[s.extract f k],k+1,k+1,by go_num,by go_num,by omega,cutTo_cut HC.out hlt HE.out,?_,?_⟩
         · rw [List.length_append,List.map_append];exact HO.out
         · exact(HB.out.alloc (by have:=HB.out.size;omega) _).grown HG.out (by have:=HB.out.size;simp;omega) (fun j hj=>(HR.out.lt j hj).1)
        case measure=>simp [intOf];omega
      · have hb2:(((s[k]'hlt).toNat:Int)==x)=false:=by
         rw [HX.out,beq_eq_false_iff_ne];intro e;exact hce (UInt8.toNat_inj.1 (by omega))
        have HE:=Hd hce;clear hce
        go_wp2_with fail
        go_roundw
        case rel=>exact⟨ss,f,k+1,by go_num,rfl,by omega,cutTo_on HC.out hlt HE.out,HR.out,HB.out⟩
        case measure=>simp [intOf];omega
  · have HEND:=Hd (cutsTo_mk hcut hle hk hs rfl hrow hbel);clear hcut hrow hbel hr0 HB0
    go_wp2_with fail
    go_ret
    exact HEND.out
end
section
open Go.RowKit
theorem cutL_len{c:UInt8}:∀ {l p:List UInt8},p∈cutL c l→p.length≤l.length
 | [],p,h=>by simp [cutL] at h;simp [h]
 | b::l,p,h=>by
  unfold cutL at h
  split at h
  · rcases List.mem_cons.1 h with h | h
    · simp [h]
    · have:=cutL_len h;simp;omega
  · cases hc:cutL c l with
    | nil=>rw [hc] at h;simp at h;simp [h]
    | cons q qs=>
     rw [hc] at h;rcases List.mem_cons.1 h with h | h
     · have:=cutL_len (l:=l) (c:=c) (p:=q) (by rw [hc];simp);rw [h]
       simp
       omega
     · have:=cutL_len (l:=l) (c:=c) (p:=p) (by rw [hc];simp [h])
       simp
       omega
theorem parts_len{c:UInt8}{s:ByteArray}{ss:List ByteArray}{k:Nat}(h:cutL c s.data.toList=partsOf ss) (hk:k<ss.length):(ss[k]?.getD ByteArray.empty).size≤s.size:=by
 rw [List.getElem?_eq_getElem hk,Option.getD_some,Lib.size_eq,Lib.size_eq]
 apply cutL_len (c:=c)
 rw [h];exact List.mem_map.2 ⟨_,List.getElem_mem hk,rfl⟩
def partsTo(ss:List ByteArray) (k:Nat):Prop:=∀ j,j<k→partB (ss[j]?.getD ByteArray.empty).data.toList=true
section
variable {s:ByteArray}{ss:List ByteArray}{k:Nat}
theorem partsTo_succ(H:partsTo ss k) (h:partB (ss[k]?.getD ByteArray.empty).data.toList=true):partsTo ss (k+1):=fun j hj=>by
 rcases Nat.lt_or_ge j k with h1 | h1
 · exact H j h1
 · obtain rfl:j=k:=by omega
   exact h
theorem path_end(hc:cutL 47 s.data.toList=partsOf ss) (H:partsTo ss k) (h:ss.length≤k):pathB s.data.toList=true:=by
 unfold pathB;rw [hc,List.all_eq_true];intro p hp;obtain⟨x,hx,rfl⟩:=List.mem_map.1 hp;obtain⟨j,hj,rfl⟩:=List.getElem_of_mem hx;have:=H j (by omega);rwa [List.getElem?_eq_getElem hj] at this
theorem path_bad(hc:cutL 47 s.data.toList=partsOf ss) (hk:k<ss.length) (h:partB (ss[k]?.getD ByteArray.empty).data.toList=false):pathB s.data.toList=false:=by
 unfold pathB;rw [hc]
 cases ha:(partsOf ss).all partB with
 | false=>rfl
 | true=>
  rw [List.all_eq_true] at ha;have:=ha _ (List.mem_map.2 ⟨ss[k],List.getElem_mem hk,rfl⟩);rw [List.getElem?_eq_getElem hk,Option.getD_some,this] at h
  cases h
end
section
variable {x:ByteArray}{ps:List ByteArray}{m:Nat}
theorem part_many(hc:cutL 46 x.data.toList=partsOf ps) (h:2<ps.length):partB x.data.toList=false:=by
 unfold partB;rw [hc]
 match ps,h with
 | a::b::c::r,_=>rfl
theorem part_low(hc:cutL 46 x.data.toList=partsOf ps) (h:lowB (ps[0]?.getD ByteArray.empty).data.toList=false) (h0:0<ps.length):partB x.data.toList=false:=by
 unfold partB;rw [hc]
 match ps,h0 with
 | [a],_=>exact h
 | [a,b],_=>show(lowB a.data.toList && _)=false;rw [show lowB a.data.toList=false from h];rfl
 | a::b::c::r,_=>rfl
theorem part_one(hc:cutL 46 x.data.toList=partsOf ps) (h:lowB (ps[0]?.getD ByteArray.empty).data.toList=true) (h1:ps.length=1):partB x.data.toList=true:=by
 unfold partB;rw [hc]
 match ps,h1 with
 | [a],_=>exact h
theorem part_two(hc:cutL 46 x.data.toList=partsOf ps) (h:lowB (ps[0]?.getD ByteArray.empty).data.toList=true) (h2:ps.length=2):partB x.data.toList=numB (ps[1]?.getD ByteArray.empty).data.toList:=by
 unfold partB;rw [hc]
 match ps,h2 with
 | [a,b],_=>show(lowB a.data.toList && numB b.data.toList)=_;rw [show lowB a.data.toList=true from h];rfl
theorem parts_pos{c:UInt8}(hc:cutL c x.data.toList=partsOf ps):0<ps.length:=by
 cases ps with
 | nil=>exact absurd hc (cutL_ne _ _)
 | cons a r=>simp
end
theorem refPath(s:ByteArray) (w:World) (hs:s.size≤1000):
 Calls Try.prog 53 #[.string s] w fun e w'=>e=.returned (.bool (pathB s.data.toList))∧Below w.heap.size w w':=by
 have hx47:(47:Int)=((47:UInt8).toNat:Int):=by decide
 have hx46:(46:Int)=((46:UInt8).toNat:Int):=by decide
 have HCUT:=Hd fun(w:World)=>refCut s 47 47 hx47 w hs;have HCUT2:=Hd fun(x:ByteArray) (w:World) (hs:x.size≤1000)=>refCut x 46 46 hx46 w hs;clear hx47 hx46
 go_enter Try.func53,Try.ntmps53
 go_wp2_with fail
 refine(HCUT.out _).mono ?_;rintro e w1 ⟨A,n,c,ss,rfl,hrd,hcut,hn1,hb⟩;have HB1:=Hd hb;have HCS:=Hd hcut;have HL:=Hd hrd.len;clear hb hcut HCUT
 go_wp2_with fail
 go_loopw [4] (fun i wr=>∃ k:Nat,k≤n∧i=.int .i64 k∧partsTo ss k∧Below w1.heap.size w1 wr) (fun i _=>n-(intOf i).toNat)
 case atStart=>exact⟨0,Nat.zero_le _,rfl,fun j hj=>absurd hj (by omega),Below.refl _ _⟩
 case round=>
  obtain⟨k,hk,rfl,hpt,hbw⟩:=hrel;have HP:=Hd hpt;have HB:=Hd hbw;clear hpt
  by_cases hlt:k<n
  · obtain⟨b,off,rfl,hbb,hc⟩:=hrd.at_ hlt;have hck:=(hbw.cell (p:=⟨b,off+k,none⟩) hbb).trans (hc k hlt);have hkk:k<ss.length:=by rw [HL.out];exact hlt
    have hxs:=parts_len HCS.out hkk;have HBAD:=Hd fun h=>path_bad HCS.out hkk h;have HNEXT:=Hd fun h=>partsTo_succ HP.out h;generalize hx:ss[k]?.getD ByteArray.empty=x at hck hxs HBAD HNEXT;clear hc hbw hx hkk
    go_wp2_with fail
    refine(HCUT2.out x _ (by omega)).mono ?_;rintro e w2 ⟨A2,n2,c2,ps,rfl,hrd2,hcut2,hn2,hb2⟩;have HB2:=Hd (HB.out.trans (hb2.mono HB.out.size));have h0:=parts_pos hcut2;have hl2:=hrd2.len;obtain⟨b2,off2,rfl,hbb2,hc2⟩:=hrd2.at_ (i:=0) (by omega);have hc0:=hc2 0 (by omega);rw [Nat.add_zero] at hc0;have ha:=parts_len hcut2 h0;have h0n:0<n2:=by omega
    by_cases h3:2<n2
    · have HE:=Hd (HBAD.out (part_many hcut2 (by omega)));clear hcut2 hb2 hrd2 hc2 hc0 hl2
      go_wp2_with fail
      go_ret
      exact⟨ret_bool HE.out.symm,HB1.out.trans (HB2.out.mono HB1.out.size)⟩
    · by_cases hlow:lowB (ps[0]?.getD ByteArray.empty).data.toList=true
      · by_cases h1:n2<2
        · have HE:=Hd (HNEXT.out (part_one hcut2 hlow (by omega)));clear hcut2 hb2 hrd2 hc2 hl2;generalize ps[0]?.getD ByteArray.empty=a at hc0 ha hlow
          go_wp2_with fail
          refine(refLow a _ (by omega)).mono ?_;rw [hlow];rintro e w3 ⟨rfl,hb3⟩;have HB3:=Hd (HB2.out.trans (hb3.mono HB2.out.size));clear hb3 hlow
          go_wp2_with fail
          go_roundw
          case rel=>exact⟨k+1,by omega,by go_num,HE.out,HB3.out⟩
          case measure=>simp [intOf];omega
        · have hE:=part_two hcut2 hlow (by omega);have hc1:=hc2 1 (by omega);have hy:=parts_len hcut2 (k:=1) (by omega);clear hcut2 hb2 hrd2 hc2 hl2;generalize ps[0]?.getD ByteArray.empty=a at hc0 ha hlow;generalize ps[1]?.getD ByteArray.empty=y at hc1 hy hE;have HE:=Hd hE;clear hE
          go_wp2_with fail
          refine(refLow a _ (by omega)).mono ?_;rw [hlow];rintro e w3 ⟨rfl,hb3⟩;have HB3:=Hd (HB2.out.trans (hb3.mono HB2.out.size));have hc1:=(hb3.cell (p:=⟨b2,off2+1,none⟩) hbb2).trans hc1;clear hb3 hlow;have hdt:decide ((n2:Int)<2)=false:=decide_eq_false (by omega);have h1n:1<n2:=by omega
          by_cases g1:y.size<1
          · have HF:=Hd (HBAD.out (HE.out.trans (num_len (.inl g1))))
            go_wp2_with fail
            go_ret
            exact⟨ret_bool HF.out.symm,HB1.out.trans (HB3.out.mono HB1.out.size)⟩
          · by_cases g2:3<y.size
            · have HF:=Hd (HBAD.out (HE.out.trans (num_len (.inr g2))))
              go_wp2_with fail
              go_ret
              exact⟨ret_bool HF.out.symm,HB1.out.trans (HB3.out.mono HB1.out.size)⟩
            · have hd1:decide ((y.size:Int)<1)=false:=decide_eq_false (by omega);have hd2:decide ((3:Int)<(y.size:Int))=false:=decide_eq_false (by omega);have hd3:decide ((2:Int)<(n2:Int))=false:=decide_eq_false (by omega);have y0:0<y.size:=by omega
              have y3:y.size≤3:=by omega
              clear g1 g2
              by_cases hf:((y[0]'y0).toNat:Int)=48
              · have HF:=Hd (HBAD.out (HE.out.trans (num_first y0 hf)));have hfb:(((y[0]'y0).toNat:Int)==48)=true:=by simpa using hf
                clear hf
                go_wp2_with fail
                go_ret
                exact⟨ret_bool HF.out.symm,HB1.out.trans (HB3.out.mono HB1.out.size)⟩
              · have HF:=Hd hf;have hfb:(((y[0]'y0).toNat:Int)==48)=false:=by simpa using hf
                clear hf
                go_wp2_with fail
                go_loopw [7] (fun i wr=>∃ j:Nat,j≤y.size∧i=.int .i64 j∧wr=w3∧Digits y j) (fun i _=>y.size-(intOf i).toNat)
                case atStart=>exact⟨0,Nat.zero_le _,rfl,rfl,digits_zero⟩
                case round=>
                 obtain⟨j,hj,rfl,rfl,hdg⟩:=hrel;have HD:=Hd hdg;clear hdg
                 by_cases hjy:j<y.size
                 · by_cases hdj:digitB ((y[j]'hjy).toNat:Int)=true
                   · go_wp2_with (go_at_call 65;refine(refInD _ _).mono ?_;rintro e w' ⟨rfl,rfl⟩)
                     go_roundw
                     case rel=>exact⟨j+1,by omega,by go_num,(by first | trivial | rfl),digits_snoc HD.out hjy hdj⟩
                     case measure=>simp [intOf];omega
                   · have hdj:digitB ((y[j]'hjy).toNat:Int)=false:=by simpa using hdj
                     have HG:=Hd (HBAD.out (HE.out.trans (num_at hjy hdj)))
                     go_wp2_with (go_at_call 65;refine(refInD _ _).mono ?_;rintro e w' ⟨rfl,rfl⟩)
                     go_ret
                     exact⟨ret_bool HG.out.symm,HB1.out.trans (HB3.out.mono HB1.out.size)⟩
                 · have HG:=Hd (HNEXT.out (HE.out.trans (num_yes y0 y3 HF.out fun i h=>HD.out i h (by omega))))
                   go_wp2_with fail
                   go_roundw
                   case rel=>exact⟨k+1,by omega,by go_num,HG.out,HB3.out⟩
                   case measure=>simp [intOf];omega
      · have hlow:lowB (ps[0]?.getD ByteArray.empty).data.toList=false:=by simpa using hlow
        have HE:=Hd (HBAD.out (part_low hcut2 hlow h0));clear hcut2 hb2 hrd2 hc2 hl2;generalize ps[0]?.getD ByteArray.empty=a at hc0 ha hlow
        go_wp2_with fail
        refine(refLow a _ (by omega)).mono ?_;rw [hlow];rintro e w3 ⟨rfl,hb3⟩;have HB3:=Hd (HB2.out.trans (hb3.mono HB2.out.size));clear hb3 hlow
        go_wp2_with fail
        go_ret
        exact⟨ret_bool HE.out.symm,HB1.out.trans (HB3.out.mono HB1.out.size)⟩
  · go_wp2_with fail
    go_ret
    exact⟨ret_bool (path_end HCS.out HP.out (by rw [HL.out];omega)).symm,HB1.out.trans (HB.out.mono HB1.out.size)⟩
end
section
open Go.RowKit
abbrev En:=ByteArray × List ByteArray
def nmE(es:List En) (i:Nat):ByteArray:=(es[i]?.getD (ByteArray.empty,[])).1
def csE(es:List En) (i:Nat):List ByteArray:=(es[i]?.getD (ByteArray.empty,[])).2
def RdE(w:World) (A:Option Addr) (n:Nat) (es:List En):Prop:=
 es.length=n∧n≤9223372036854775807 ∧
 (0<n→∃ b off,A=some ⟨b,off,none⟩∧b<w.heap.size∧∀ i,i<n→w.cell? ⟨b,off+i*2,none⟩=some (.string (nmE es i)) ∧
  ∃ A' n' c',w.cell? ⟨b,off+i*2+1,none⟩=some (.slice A' n' c')∧RdT w A' n' (csE es i))
def EsOk(es:List En):Prop:=∀ i,i<es.length→(nmE es i).size≤maxLen∧∀ s∈csE es i,s.size≤maxLen
section
variable {w w':World}{A:Option Addr}{n:Nat}{es:List En}
theorem RdE.nil_(w:World):RdE w none 0 []:=⟨rfl,by omega,by omega⟩
theorem RdE.len(h:RdE w A n es):es.length=n:=h.1
theorem RdE.max(h:RdE w A n es):n≤9223372036854775807:=h.2.1
theorem RdE.at_(h:RdE w A n es){i:Nat}(hi:i<n):
 ∃ b off,A=some ⟨b,off,none⟩∧b<w.heap.size∧∀ i,i<n→w.cell? ⟨b,off+i*2,none⟩=some (.string (nmE es i)) ∧
  ∃ A' n' c',w.cell? ⟨b,off+i*2+1,none⟩=some (.slice A' n' c')∧RdT w A' n' (csE es i):=
 h.2.2 (by omega)
theorem RdE.keep(h:RdE w A n es) (hs:w.heap.size≤w'.heap.size) (hk:∀ p:Addr,p.block<w.heap.size→w'.cell? p=w.cell? p):RdE w' A n es:=
 ⟨h.1,h.2.1,fun hn=>by
  obtain⟨b,off,e,hb,hc⟩:=h.2.2 hn;refine⟨b,off,e,by omega,fun i hi=>?_⟩;obtain⟨h1,A',n',c',h2,h3⟩:=hc i hi;exact⟨(hk _ hb).trans h1,A',n',c',(hk _ hb).trans h2,h3.keep hs hk⟩⟩
theorem RdE.below(h:RdE w A n es) (hb:Below w.heap.size w w'):RdE w' A n es:=h.keep hb.size fun _ hp=>hb.cell hp
theorem RdE.drewN(h:RdE w A n es) (m:Nat):RdE (w.drewN m) A n es:=h
theorem RdE.drew(h:RdE w A n es):RdE w.drew A n es:=h
theorem RdE.alloc(h:RdE w A n es) (o:Obj):RdE (w.alloc o) A n es:=h.below ((Below.refl _ _).alloc (Nat.le_refl _) o)
theorem RdT.drew{ss:List ByteArray}(h:RdT w A n ss):RdT w.drew A n ss:=h
end
theorem nm_map(es:List En) (i:Nat):(es.map (·.1))[i]?.getD ByteArray.empty=nmE es i:=by
 unfold nmE;rw [List.getElem?_map]
 cases es[i]? <;> rfl
abbrev Pl:=Nat × Nat × ByteArray
def ctAt(es:List En) (i k:Nat):ByteArray:=(csE es i)[k]?.getD ByteArray.empty
def rowTo(es:List En) (i k:Nat):List Pl:=(List.range k).map fun k=>(i,k,ctAt es i k)
def flatTo(es:List En):Nat→List Pl
 | 0=>[]
 | i+1=>flatTo es i++rowTo es i (csE es i).length
def flatE(es:List En):List Pl:=flatTo es es.length
def upTo(es:List En) (i k:Nat):List Pl:=flatTo es i++rowTo es i k
section
variable {es:List En}{i k:Nat}
theorem rowTo_succ(es:List En) (i k:Nat):rowTo es i (k+1)=rowTo es i k++[(i,k,ctAt es i k)]:=by simp [rowTo,List.range_succ]
theorem upTo_zero(es:List En):upTo es 0 0=[]:=by simp [upTo,flatTo,rowTo]
theorem upTo_succ(es:List En) (i k:Nat):upTo es i (k+1)=upTo es i k++[(i,k,ctAt es i k)]:=by simp [upTo,rowTo_succ]
theorem upTo_next(es:List En) (i:Nat):upTo es i (csE es i).length=upTo es (i+1) 0:=by simp [upTo,flatTo,rowTo]
theorem upTo_end(es:List En):upTo es es.length 0=flatE es:=by simp [upTo,flatE,rowTo]
theorem flatTo_pre(es:List En) (i j:Nat) (h:i≤j):flatTo es i <+: flatTo es j:=by
 induction j with
 | zero=>
  obtain rfl:i=0:=by omega
  exact List.prefix_refl _
 | succ j ih=>
  rcases Nat.lt_or_ge i (j+1) with h1 | h1
  · exact(ih (by omega)).trans (by show _ <+: flatTo es j++_;exact List.prefix_append _ _)
  · obtain rfl:i=j+1:=by omega
    exact List.prefix_refl _
theorem rowTo_pre(es:List En) (i k m:Nat) (h:k≤m):rowTo es i k <+: rowTo es i m:=by
 induction m with
 | zero=>
  obtain rfl:k=0:=by omega
  exact List.prefix_refl _
 | succ m ih=>
  rcases Nat.lt_or_ge k (m+1) with h1 | h1
  · exact(ih (by omega)).trans (by rw [rowTo_succ];exact List.prefix_append _ _)
  · obtain rfl:k=m+1:=by omega
    exact List.prefix_refl _
theorem upTo_pre(hi:i<es.length) (hk:k≤(csE es i).length):upTo es i k <+: flatE es:=by
 refine List.IsPrefix.trans ?_ (flatTo_pre es (i+1) es.length (by omega))
 show flatTo es i++rowTo es i k <+: flatTo es i++rowTo es i (csE es i).length
 exact List.prefix_append_right_inj _ |>.2 (rowTo_pre es i _ _ hk)
def allE(es:List En):List ByteArray:=(flatE es).map (·.2.2)
theorem rowTo_names(es:List En) (i k:Nat) (h:k≤(csE es i).length):(rowTo es i k).map (·.2.2)=(csE es i).take k:=by
 induction k with
 | zero=>simp [rowTo]
 | succ k ih=>
  rw [rowTo_succ,List.map_append,ih (by omega),List.take_succ_eq_append_getElem (by omega)]
  simp [ctAt,List.getElem?_eq_getElem (show k<(csE es i).length by omega)]
def namesTo(es:List En) (i:Nat):List ByteArray:=(flatTo es i).map (·.2.2)
theorem namesTo_succ(es:List En) (i:Nat):namesTo es (i+1)=namesTo es i++csE es i:=by
 show(flatTo es i++rowTo es i _).map _=_
 rw [List.map_append,rowTo_names es i _ (Nat.le_refl _),List.take_length];rfl
theorem namesTo_end(es:List En):namesTo es es.length=allE es:=rfl
theorem namesTo_len(h:∀ j,j<i→(csE es j).length≤12):(namesTo es i).length≤i*12:=by
 induction i with
 | zero=>simp [namesTo,flatTo]
 | succ i ih=>
  have h1:=ih fun j hj=>h j (by omega);have h2:=h i (by omega);rw [namesTo_succ,List.length_append];omega
theorem namesTo_mem{x:ByteArray}(h:x∈namesTo es i):∃ j,j<i∧x∈csE es j:=by
 induction i with
 | zero=>simp [namesTo,flatTo] at h
 | succ i ih=>
  rw [namesTo_succ,List.mem_append] at h;rcases h with h | h
  · obtain⟨j,hj,hx⟩:=ih h;exact⟨j,by omega,hx⟩
  · exact⟨i,by omega,h⟩
end
end
section
structure Dc where
 nm:ByteArray
 k:Int
 e:Int
 l:Int
 on:ByteArray
 ct:ByteArray
instance :Inhabited Dc:=⟨⟨⟨#[]⟩,0,0,0,⟨#[]⟩,⟨#[]⟩⟩⟩
structure Qn where
 ns:List ByteArray
 x:Ex
instance :Inhabited Qn:=⟨⟨[],default⟩⟩
structure Nd where
 nm:ByteArray
 ins:List Dc
 outs:List Dc
 vars:List Dc
 eqs:List Qn
instance :Inhabited Nd:=⟨⟨ByteArray.empty,[],[],[],[]⟩⟩
structure Pg where
 es:List En
 ns:List Nd
def Nd.all(n:Nd):List Dc:=n.ins++n.outs++n.vars
def namesD(l:List Dc):List ByteArray:=l.map Dc.nm
def trueS:List UInt8:=[116,114,117,101]
def falseS:List UInt8:=[102,97,108,115,101]
def armT(s:ByteArray):Bool:=highB s.data.toList || (s.data.toList==trueS) || (s.data.toList==falseS)
def noB(s:ByteArray):Bool:=s.data.toList==[]
def declB(n:Nat) (rt:Nat→Int→Int→Int→Bool) (d:Dc):Bool:=
 lowB d.nm.data.toList && rt n d.k d.e d.l && ((noB d.on && noB d.ct) || (lowB d.on.data.toList && armT d.ct))
def eqB(rx:Ex→Bool) (q:Qn):Bool:=
 q.ns.all (fun s=>lowB s.data.toList) && decide (0<q.ns.length) && rx q.x && (decide (q.ns.length=1) || q.x.k==13)
def portsB(n:Nd):Bool:=(n.ins++n.outs).all fun d=>noB d.on
def nodeB(es:Nat) (rt:Nat→Int→Int→Int→Bool) (rx:Ex→Bool) (n:Nd):Bool:=
 n.all.all (declB es rt) && portsB n && n.eqs.all (eqB rx) && lowB n.nm.data.toList && decide (0<n.outs.length)
def manyN(n:Nd):Bool:=decide (6<n.ins.length) || decide (6<n.outs.length) || decide (12<n.vars.length) || decide (18<n.eqs.length)
def sameL{α:Type}(f:α→α→Bool):List α→List α→Bool
 | [],[]=>true
 | a::l,b::m=>f a b && sameL f l m
 | _,_=>false
theorem sameL_len{α:Type}{f:α→α→Bool}:∀ {l m:List α},l.length≠m.length→sameL f l m=false
 | [],[],h=>absurd rfl h
 | [],b::m,_=>rfl
 | a::l,[],_=>rfl
 | a::l,b::m,h=>by
  simp only [sameL];rw [sameL_len (l:=l) (m:=m) (by simpa using h)]
  simp
theorem sameL_yes{α:Type} [Inhabited α] {f:α→α→Bool}:∀ {l m:List α},l.length=m.length→(∀ i,i<l.length→f (l[i]?.getD default) (m[i]?.getD default)=true)→sameL f l m=true
 | [],[],_,_=>rfl
 | [],b::m,h,_=>by simp at h
 | a::l,[],h,_=>by simp at h
 | a::l,b::m,h,hi=>by
  simp only [sameL,Bool.and_eq_true];refine⟨by simpa using hi 0 (by simp),sameL_yes (by simpa using h) fun i hl=>?_⟩
  simpa using hi (i+1) (by simpa using hl)
theorem sameL_no{α:Type} [Inhabited α] {f:α→α→Bool}:∀ {l m:List α}{i:Nat},i<l.length→l.length=m.length→f (l[i]?.getD default) (m[i]?.getD default)=false→sameL f l m=false
 | [],m,i,h,_,_=>by simp at h
 | a::l,[],i,_,h,_=>by simp at h
 | a::l,b::m,i,hi,hl,hf=>by
  simp only [sameL,Bool.and_eq_false_iff]
  cases i with
  | zero=>left;simpa using hf
  | succ i=>
   right
   exact sameL_no (i:=i) (by simpa using hi) (by simpa using hl) (by simpa using hf)
def declO(n:Nd) (s:ByteArray):Option Dc:=n.all.find? fun d=>d.nm.data.toList==s.data.toList
def clockR(n:Nd):Nat→ByteArray→List Dc→Option (List Dc)
 | 0,_,_=>none
 | k+1,s,acc=>match declO n s with
  | none=>none
  | some d=>if noB d.on then some acc else clockR n k d.on (d::acc)
def clockO(n:Nd) (s:ByteArray):Option (List Dc):=clockR n 13 s []
theorem all_len(n:Nd):n.all.length=n.ins.length+n.outs.length+n.vars.length:=by simp [Nd.all];omega
end
end Go.Proofs.Ytkbpdoomhfkngaa
