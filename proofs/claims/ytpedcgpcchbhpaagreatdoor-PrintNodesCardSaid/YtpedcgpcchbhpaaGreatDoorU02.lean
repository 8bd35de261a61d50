/- Parts of the proof: IdE, IdF, IdG, IdH, ExA, ExP. Conditions: each theorem's own. -/
import Derived.Maps.OwnSet
import Derived.Maps.OwnOps
import Derived.Maps.AppendAt
import Derived.Deep.DeepCutAuto
import Derived.Lib.QuietBelow
import Derived.Laws.OwnMore
import Derived.Test.YtpedcgpcchbhpaaGreatDoorU01
namespace Go.Proofs.YtpedcgpcchbhpaaGreatDoor
set_option linter.unusedVariables false
set_option linter.unusedSimpArgs false
set_option maxRecDepth 100000
set_option maxHeartbeats 40000000
section
open Go.RowKit
theorem idLow(s:ByteArray) (w:World) (hs:s.size≤9223372036854775807):
 Calls Tryz.prog 71 #[.string s] w fun e w'=>e=.returned (.bool (lowB s.data.toList))∧Below w.heap.size w w':=by
 by_cases h1:nameB smallB s.data.toList=true
 · have HE:=Hd (show(!wordB s.data.toList)=lowB s.data.toList by simp [lowB,h1])
   go_enter Tryz.func71,Tryz.ntmps71
   go_wp2_with fail
   refine(idName _ smallB (.inl ⟨rfl,rfl⟩) s _ hs).mono ?_;rintro e w' ⟨rfl,hb⟩;have HB:=Hd hb;clear hb
   go_wp2_with fail
   refine(idWord s _).mono ?_;rintro e w' ⟨rfl,rfl⟩
   go_wp2_with fail
   go_ret
   exact⟨ret_bool HE.out,HB.out⟩
 · have h1:nameB smallB s.data.toList=false:=by simpa using h1
   have HE:=Hd (show false=lowB s.data.toList by simp [lowB,h1])
   go_enter Tryz.func71,Tryz.ntmps71
   go_wp2_with fail
   refine(idName _ smallB (.inl ⟨rfl,rfl⟩) s _ hs).mono ?_;rintro e w' ⟨rfl,hb⟩;have HB:=Hd hb;clear hb
   go_wp2_with fail
   go_ret
   exact⟨ret_bool HE.out,HB.out⟩
theorem idHigh(s:ByteArray) (w:World) (hs:s.size≤9223372036854775807):
 Calls Tryz.prog 100 #[.string s] w fun e w'=>e=.returned (.bool (highB s.data.toList))∧Below w.heap.size w w':=by
 have HE:=Hd (show nameB greatB s.data.toList=highB s.data.toList from rfl)
 go_enter Tryz.func100,Tryz.ntmps100
 go_wp2_with fail
 refine(idName _ greatB (.inr ⟨rfl,rfl⟩) s _ hs).mono ?_;rintro e w' ⟨rfl,hb⟩;have HB:=Hd hb;clear hb
 go_wp2_with fail
 go_ret
 exact⟨ret_bool HE.out,HB.out⟩
def inR(a b x:Int):Bool:=decide (a≤x∧x≤b)
theorem refIn(x a b:Int) (w:World):Calls Tryz.prog 131 #[.int .u8 x,.int .u8 a,.int .u8 b] w fun e w'=>e=.returned (.bool (inR a b x))∧w=w':=by
 by_cases h1:a≤x
 all_goals
  go_enter Tryz.func131,Tryz.ntmps131
  go_wp2
  go_ret
  exact⟨ret_bool (by rw [Bool.eq_iff_iff];simp [inR,h1] <;> omega),rfl⟩
theorem refInS(x:Int) (w:World):Calls Tryz.prog 131 #[.int .u8 x,.int .u8 97,.int .u8 122] w fun e w'=>e=.returned (.bool (smallB x))∧w=w':=refIn x 97 122 w
theorem refInG(x:Int) (w:World):Calls Tryz.prog 131 #[.int .u8 x,.int .u8 65,.int .u8 90] w fun e w'=>e=.returned (.bool (greatB x))∧w=w':=refIn x 65 90 w
theorem refInD(x:Int) (w:World):Calls Tryz.prog 131 #[.int .u8 x,.int .u8 48,.int .u8 57] w fun e w'=>e=.returned (.bool (digitB x))∧w=w':=refIn x 48 57 w
theorem nameC_snoc{s:ByteArray}{k:Nat}(H:∀ j (h:j<s.size),j<k→nameC ((s[j]'h).toNat:Int)=true) (hlt:k<s.size) (hx:nameC ((s[k]'hlt).toNat:Int)=true):
 ∀ j (h:j<s.size),j<k+1→nameC ((s[j]'h).toNat:Int)=true:=fun j h hj=>by
 rcases Nat.lt_or_ge j k with h1 | h1
 · exact H j h h1
 · obtain rfl:j=k:=by omega
   exact hx
theorem refName(a b:Int) (s:ByteArray) (w:World) (hs:s.size≤9223372036854775807):
 Calls Tryz.prog 96 #[.string s,.int .u8 a,.int .u8 b] w fun e w'=>e=.returned (.bool (nameB (inR a b) s.data.toList))∧w=w':=by
 by_cases h1:s.size<1
 · go_enter Tryz.func96,Tryz.ntmps96
   go_wp2_with fail
   go_ret
   exact⟨ret_bool (name_len (.inl h1)).symm,rfl⟩
 · by_cases h2:12<s.size
   · go_enter Tryz.func96,Tryz.ntmps96
     go_wp2_with fail
     go_ret
     exact⟨ret_bool (name_len (.inr h2)).symm,rfl⟩
   · have hd1:decide ((s.size:Int)<1)=false:=decide_eq_false (by omega);have hd2:decide ((12:Int)<(s.size:Int))=false:=decide_eq_false (by omega);have h0:0<s.size:=by omega
     have h12:s.size≤12:=by omega
     clear h1 h2
     by_cases hf:inR a b ((s[0]'h0).toNat:Int)=true
     · have HF:=Hd hf
       go_enter Tryz.func96,Tryz.ntmps96
       go_wp2_with fail
       refine(refIn _ a b _).mono ?_;rintro e w' ⟨rfl,rfl⟩
       go_wp2_with fail
       clear hd1 hd2 hf
       go_loop [7] (fun i=>∃ k:Nat,k≤s.size∧i=.int .i64 k∧∀ j (h:j<s.size),j<k→nameC ((s[j]'h).toNat:Int)=true) (fun i=>s.size-(intOf i).toNat)
       case atStart=>exact⟨0,by omega,rfl,fun j _ hj=>absurd hj (by omega)⟩
       case round=>
        obtain⟨k,hk,rfl,hrel⟩:=hrel;have HR:=Hd hrel;clear hrel
        by_cases hlt:k<s.size
        · by_cases hx1:smallB ((s[k]'hlt).toNat:Int)=true
          · go_wp2_with (go_at_call 131;refine(refInS _ _).mono ?_;rintro e w' ⟨rfl,rfl⟩)
            go_round
            case rel=>exact⟨k+1,by omega,by go_num,nameC_snoc HR.out hlt (by simp [nameC,hx1])⟩
            case measure=>simp [intOf];omega
          · have hx1:smallB ((s[k]'hlt).toNat:Int)=false:=by simpa using hx1
            by_cases hx2:greatB ((s[k]'hlt).toNat:Int)=true
            · go_wp2_with (first | (go_at_call 131;(with_reducible refine(refInS _ _).mono ?_);rintro e w' ⟨rfl,rfl⟩) | (go_at_call 131;(with_reducible refine(refInG _ _).mono ?_);rintro e w' ⟨rfl,rfl⟩))
              go_round
              case rel=>exact⟨k+1,by omega,by go_num,nameC_snoc HR.out hlt (by simp [nameC,hx2])⟩
              case measure=>simp [intOf];omega
            · have hx2:greatB ((s[k]'hlt).toNat:Int)=false:=by simpa using hx2
              by_cases hx3:digitB ((s[k]'hlt).toNat:Int)=true
              · go_wp2_with (first | (go_at_call 131;(with_reducible refine(refInS _ _).mono ?_);rintro e w' ⟨rfl,rfl⟩) | (go_at_call 131;(with_reducible refine(refInG _ _).mono ?_);rintro e w' ⟨rfl,rfl⟩) | (go_at_call 131;(with_reducible refine(refInD _ _).mono ?_);rintro e w' ⟨rfl,rfl⟩))
                go_round
                case rel=>exact⟨k+1,by omega,by go_num,nameC_snoc HR.out hlt (by simp [nameC,hx3])⟩
                case measure=>simp [intOf];omega
              · have hx3:digitB ((s[k]'hlt).toNat:Int)=false:=by simpa using hx3
                have HN:=Hd (show nameC ((s[k]'hlt).toNat:Int)=decide (((s[k]'hlt).toNat:Int)=95) by simp [nameC,hx1,hx2,hx3])
                go_wp2_with (first | (go_at_call 131;(with_reducible refine(refInS _ _).mono ?_);rintro e w' ⟨rfl,rfl⟩) | (go_at_call 131;(with_reducible refine(refInG _ _).mono ?_);rintro e w' ⟨rfl,rfl⟩) | (go_at_call 131;(with_reducible refine(refInD _ _).mono ?_);rintro e w' ⟨rfl,rfl⟩))
                · have hne:(((s[k]'hlt).toNat:Int) != 95)=true:=by assumption
                  have hno:nameC ((s[k]'hlt).toNat:Int)=false:=by
                   rw [HN.out];exact decide_eq_false (by simpa using hne)
                  go_ret
                  exact⟨ret_bool (name_at hlt hno).symm,rfl⟩
                · have hne:(((s[k]'hlt).toNat:Int) != 95)=false:=by assumption
                  have hyes:nameC ((s[k]'hlt).toNat:Int)=true:=by
                   rw [HN.out];exact decide_eq_true (by simpa using hne)
                  go_round
                  case rel=>exact⟨k+1,by omega,by go_num,nameC_snoc HR.out hlt hyes⟩
                  case measure=>simp [intOf];omega
        · go_wp2_with fail
          go_ret
          exact⟨ret_bool (name_yes h0 h12 HF.out fun j h=>HR.out j h (by omega)).symm,rfl⟩
     · have hf:inR a b ((s[0]'h0).toNat:Int)=false:=by simpa using hf
       go_enter Tryz.func96,Tryz.ntmps96
       go_wp2_with fail
       refine(refIn _ a b _).mono ?_;rintro e w' ⟨rfl,rfl⟩
       go_wp2_with fail
       go_ret
       exact⟨ret_bool (name_first h0 hf).symm,rfl⟩
theorem refLow(s:ByteArray) (w:World) (hs:s.size≤9223372036854775807):
 Calls Tryz.prog 58 #[.string s] w fun e w'=>e=.returned (.bool (lowB s.data.toList))∧Below w.heap.size w w':=by
 have HS:=Hd (show nameB (inR 97 122) s.data.toList=nameB smallB s.data.toList from rfl)
 by_cases h1:nameB smallB s.data.toList=true
 · have HE:=Hd (show(!wordB s.data.toList)=lowB s.data.toList by simp [lowB,h1])
   go_enter Tryz.func58,Tryz.ntmps58
   go_wp2_with fail
   refine(refName 97 122 s _ hs).mono ?_;rw [HS.out];rintro e w' ⟨rfl,rfl⟩
   go_wp2_with fail
   refine(refWord s _).mono ?_;rintro e w' ⟨rfl,hb⟩;have HB:=Hd hb;clear hb
   go_wp2_with fail
   go_ret
   exact⟨ret_bool HE.out,HB.out⟩
 · have h1:nameB smallB s.data.toList=false:=by simpa using h1
   have HE:=Hd (show false=lowB s.data.toList by simp [lowB,h1])
   go_enter Tryz.func58,Tryz.ntmps58
   go_wp2_with fail
   refine(refName 97 122 s _ hs).mono ?_;rw [HS.out];rintro e w' ⟨rfl,rfl⟩
   go_wp2_with fail
   go_ret
   exact⟨ret_bool HE.out,Below.refl _ _⟩
theorem refHigh(s:ByteArray) (w:World) (hs:s.size≤9223372036854775807):
 Calls Tryz.prog 59 #[.string s] w fun e w'=>e=.returned (.bool (highB s.data.toList))∧w=w':=by
 have HS:=Hd (show nameB (inR 65 90) s.data.toList=highB s.data.toList from rfl)
 go_enter Tryz.func59,Tryz.ntmps59
 go_wp2_with fail
 refine(refName 65 90 s _ hs).mono ?_;rw [HS.out];rintro e w' ⟨rfl,rfl⟩
 go_wp2_with fail
 go_ret
 exact⟨rfl,rfl⟩
section
variable {s:ByteArray}
theorem num_len(h:s.size<1∨3<s.size):numB s.data.toList=false:=by
 have:¬ (1≤s.data.toList.length∧s.data.toList.length≤3):=by rw [← Lib.size_eq];omega
 simp only [numB,decide_eq_false this,Bool.false_and]
theorem num_first(h:0<s.size) (hp:((s[0]'h).toNat:Int)=48):numB s.data.toList=false:=by
 obtain⟨F,e⟩:=head_at h;have h48:s[0]'h=48:=UInt8.toNat_inj.1 (by simpa using (by omega:(s[0]'h).toNat=48));rw [e]
 simp [numB,h48]
theorem num_at{k:Nat}(h:k<s.size) (hp:digitB ((s[k]'h).toNat:Int)=false):numB s.data.toList=false:=by
 have hm:s[k]'h∈s.data.toList:=by rw [← at_list s k h];exact List.getElem_mem _
 cases hn:numB s.data.toList with
 | false=>rfl
 | true=>
  simp only [numB,Bool.and_eq_true,List.all_eq_true] at hn;rw [hn.2 _ hm] at hp
  cases hp
theorem num_yes(h1:0<s.size) (h2:s.size≤3) (hp:¬ ((s[0]'h1).toNat:Int)=48) (ha:∀ k (h:k<s.size),digitB ((s[k]'h).toNat:Int)=true):numB s.data.toList=true:=by
 have hz:=Lib.size_eq s
 have hall:s.data.toList.all (fun c=>digitB (c.toNat:Int))=true:=by
  rw [List.all_eq_true];intro c hc;obtain⟨k,hk,e⟩:=List.getElem_of_mem hc;rw [← e,at_list s k (by omega)];exact ha k (by omega)
 have hlen:decide (1≤s.data.toList.length∧s.data.toList.length≤3)=true:=decide_eq_true (by omega);obtain⟨F,e⟩:=head_at h1;have h48:¬ s[0]'h1=48:=fun e=>hp (by rw [e];rfl);unfold numB;rw [hall,hlen,e]
 simp [h48]
end
theorem digitB_high{x:Int}(h:128≤x):digitB x=false:=by
 simp [digitB];omega
def Digits(s:ByteArray) (pos:Nat):Prop:=∀ k (h:k<s.size),k<pos→digitB ((s[k]'h).toNat:Int)=true
theorem digits_zero{s:ByteArray}:Digits s 0:=fun k h hk=>absurd hk (by omega)
theorem digits_snoc{s:ByteArray}{k:Nat}(H:Digits s k) (hlt:k<s.size) (hx:digitB ((s[k]'hlt).toNat:Int)=true):Digits s (k+1):=fun j h hj=>by
 rcases Nat.lt_or_ge j k with h1 | h1
 · exact H j h h1
 · obtain rfl:j=k:=by omega
   exact hx
theorem digits_step{s:ByteArray}{pos q:Nat}{x:Int}(H:Digits s pos) (hp:pos<s.size) (hx:(x=((s[pos]'hp).toNat:Int)∧q=pos+1)∨(128≤x∧128≤(s[pos]'hp).toNat∧pos<q))
 (h2:digitB x=true):q≤s.size∧Digits s q:=by
 rcases hx with⟨rfl,rfl⟩|⟨h,_,_⟩
 · exact⟨by omega,digits_snoc H hp h2⟩
 · rw [digitB_high h] at h2
   cases h2
theorem digits_bad{s:ByteArray}{pos q:Nat}{x:Int}(hp:pos<s.size) (hx:(x=((s[pos]'hp).toNat:Int)∧q=pos+1)∨(128≤x∧128≤(s[pos]'hp).toNat∧pos<q)) (h2:digitB x=false):numB s.data.toList=false:=by
 rcases hx with⟨rfl,rfl⟩|⟨_,h,_⟩
 · exact num_at hp h2
 · exact num_at hp (digitB_high (by omega))
theorem idNumber(s:ByteArray) (w:World) (hs:s.size≤9223372036854775807):
 Calls Tryz.prog 168 #[.string s] w fun e w'=>e=.returned (.bool (numB s.data.toList))∧Below w.heap.size w w':=by
 by_cases h1:s.size<1
 · go_enter Tryz.func168,Tryz.ntmps168
   go_wp2_with fail
   go_ret
   exact⟨ret_bool (num_len (.inl h1)).symm,Below.refl _ _⟩
 · by_cases h2:3<s.size
   · go_enter Tryz.func168,Tryz.ntmps168
     go_wp2_with fail
     go_ret
     exact⟨ret_bool (num_len (.inr h2)).symm,Below.refl _ _⟩
   · have hd1:decide ((s.size:Int)<1)=false:=decide_eq_false (by omega);have hd2:decide ((3:Int)<(s.size:Int))=false:=decide_eq_false (by omega);have h0:0<s.size:=by omega
     have h3:s.size≤3:=by omega
     clear h1 h2
     by_cases hf:((s[0]'h0).toNat:Int)=48
     · have HF:=Hd hf;have hfb:(((s[0]'h0).toNat:Int)==48)=true:=by simpa using hf
       clear hf
       go_enter Tryz.func168,Tryz.ntmps168
       go_wp2_with fail
       go_ret
       exact⟨ret_bool (num_first h0 HF.out).symm,Below.refl _ _⟩
     · have HF:=Hd hf;have hfb:(((s[0]'h0).toNat:Int)==48)=false:=by simpa using hf
       clear hf
       go_enter Tryz.func168,Tryz.ntmps168
       go_wp2_with fail
       clear hd1 hd2 hfb
       go_loopw [4] (fun _ wr=>∃ pos:Nat,pos≤s.size∧wr=w.iter s pos∧Digits s pos) (fun _ wr=>s.size-wr.iterPos w.heap.size)
       case atStart=>exact⟨0,by omega,rfl,digits_zero⟩
       case round=>
        obtain⟨pos,hle,rfl,hrel⟩:=hrel;have HR:=Hd hrel;clear hrel
        by_cases hp:pos<s.size
        · obtain⟨x,q,hnx,hx⟩:=next_at (P:=Tryz.prog) w s pos hp;have HX:=Hd hx;clear hx
          by_cases hx2:digitB x=true
          · go_wp2_with (go_at_call 152;refine(idDigit x _).mono ?_;rintro e w' ⟨rfl,rfl⟩)
            go_roundw
            case rel=>exact⟨q,(digits_step HR.out hp HX.out hx2).1,rfl,(digits_step HR.out hp HX.out hx2).2⟩
            case measure=>simp;have:=nameTo_lt hp HX.out;omega
          · have hx2:digitB x=false:=by simpa using hx2
            go_wp2_with (go_at_call 152;refine(idDigit x _).mono ?_;rintro e w' ⟨rfl,rfl⟩)
            go_ret
            exact⟨ret_bool (digits_bad hp HX.out hx2).symm,below_iter _ _ _⟩
        · have hnx:∀ ty,(Instr.next (.pointer (some ⟨w.heap.size,0,none⟩)) true ty).run Tryz.prog (w.iter s pos)=_:=fun ty=>run_next_end w s pos ty hp
          go_wp2_with fail
          go_ret
          exact⟨ret_bool (num_yes h0 h3 HF.out fun k h=>HR.out k h (by omega)).symm,below_iter _ _ _⟩
end
section
open Go.RowKit
theorem cut_sizes{c:UInt8}{s a b:ByteArray}{f:Bool}(hf:f=false→s.data.toList=a.data.toList) (ht:f=true→s.data.toList=a.data.toList++c::b.data.toList):
 a.size≤s.size∧(f=true→b.size<s.size):=by
 have h1:=Lib.size_eq s;have h2:=Lib.size_eq a;have h3:=Lib.size_eq b
 cases f with
 | false=>have:=hf rfl;rw [← this] at h2;exact⟨by omega,fun h=>by cases h⟩
 | true=>
  have:=congrArg List.length (ht rfl);simp only [List.length_append,List.length_cons] at this;exact⟨by omega,fun _=>by omega⟩
theorem idPart(s:ByteArray) (w:World) (hs:s.size≤9223372036854775806):
 Calls Tryz.prog 158 #[.string s] w fun e w'=>e=.returned (.bool (partB s.data.toList))∧Below w.heap.size w w':=by
 go_enter Tryz.func158,Tryz.ntmps158
 go_wp2_with fail
 refine(strCut s 46 _ hs).mono ?_;rintro e w1 ⟨a,b,f,rfl,hb,hc,hf,ht⟩;have hsz:=cut_sizes hf ht;have HB:=Hd hb;clear hb
 by_cases hl:lowB a.data.toList=true
 · cases f with
   | false=>
    have HE:=Hd (show true=partB s.data.toList by rw [hf rfl,partB_none hc,hl]);clear hf ht hc;have ha:=hsz.1;clear hsz
    go_wp2_with fail
    refine(idLow a _ (by omega)).mono ?_;rintro e w2 ⟨rfl,hb⟩;have HB2:=Hd (below_trans2 HB.out hb);clear hb
    go_wp2_with fail
    go_ret
    exact⟨ret_bool HE.out,HB2.out⟩
   | true=>
    have HE:=Hd (show numB b.data.toList=partB s.data.toList by rw [ht rfl,partB_at hc,hl];rfl);clear hf ht hc;have ha:=hsz.1;have hbz:=hsz.2 rfl;clear hsz
    go_wp2_with fail
    refine(idLow a _ (by omega)).mono ?_;rintro e w2 ⟨rfl,hb⟩;have HB2:=Hd (below_trans2 HB.out hb);clear hb
    go_wp2_with fail
    refine(idNumber b _ (by omega)).mono ?_;rintro e w3 ⟨rfl,hb⟩;have HB3:=Hd (below_trans2 HB2.out hb);clear hb
    go_wp2_with fail
    go_ret
    exact⟨ret_bool HE.out,HB3.out⟩
 · have hl:lowB a.data.toList=false:=by simpa using hl
   have HE:Hid (false=partB s.data.toList):=by
    refine Hd ?_
    cases f with
    | false=>rw [hf rfl,partB_none hc,hl]
    | true=>rw [ht rfl,partB_at hc,hl];rfl
   clear hf ht hc;have ha:=hsz.1;clear hsz
   go_wp2_with fail
   refine(idLow a _ (by omega)).mono ?_;rintro e w2 ⟨rfl,hb⟩;have HB2:=Hd (below_trans2 HB.out hb);clear hb
   go_wp2_with fail
   go_ret
   exact⟨ret_bool HE.out,HB2.out⟩
def szOf:Value→Nat
 | .string s=>s.size
 | _=>0
theorem idPath(s:ByteArray) (w:World) (hs:s.size≤9223372036854775806):
 Calls Tryz.prog 144 #[.string s] w fun e w'=>e=.returned (.bool (pathB s.data.toList))∧Below w.heap.size w w':=by
 go_enter Tryz.func144,Tryz.ntmps144
 go_wp2_with fail
 go_loopw [0] (fun v wr=>∃ t:ByteArray,v=.string t∧t.size≤s.size∧pathB s.data.toList=pathB t.data.toList∧Below w.heap.size w wr) (fun v _=>szOf v)
 case atStart=>exact⟨s,rfl,Nat.le_refl _,rfl,Below.refl _ _⟩
 case round=>
  obtain⟨t,rfl,hts,hpt,hb0⟩:=hrel;have HP:=Hd hpt;have HB0:=Hd hb0;clear hpt hb0
  go_wp2_with fail
  refine(strCut t 47 _ (by omega)).mono ?_;rintro e w1 ⟨a,b,f,rfl,hb,hc,hf,ht⟩;have hsz:=cut_sizes hf ht;have HB:=Hd (HB0.out.trans (hb.mono HB0.out.size));clear hb;have ha:=hsz.1
  by_cases hl:partB a.data.toList=true
  · cases f with
    | false=>
     have HE:=Hd (show true=pathB s.data.toList by rw [HP.out,hf rfl,path_none hc,hl]);clear hf ht hc hsz
     go_wp2_with fail
     refine(idPart a _ (by omega)).mono ?_;rintro e w2 ⟨rfl,hb⟩;have HB2:=Hd (HB.out.trans (hb.mono HB.out.size));clear hb
     go_wp2_with fail
     go_ret
     exact⟨ret_bool HE.out,HB2.out⟩
    | true=>
     have HE:=Hd (show pathB s.data.toList=pathB b.data.toList by rw [HP.out,ht rfl,path_at hc,hl];rfl);have hbz:=hsz.2 rfl;clear hf ht hc hsz
     go_wp2_with fail
     refine(idPart a _ (by omega)).mono ?_;rintro e w2 ⟨rfl,hb⟩;have HB2:=Hd (HB.out.trans (hb.mono HB.out.size));clear hb
     go_wp2_with fail
     go_roundw
     case rel=>exact⟨b,rfl,by omega,HE.out,HB2.out⟩
     case measure=>simp [szOf];omega
  · have hl:partB a.data.toList=false:=by simpa using hl
    have HE:Hid (false=pathB s.data.toList):=by
     refine Hd ?_;rw [HP.out]
     cases f with
     | false=>rw [hf rfl,path_none hc,hl]
     | true=>rw [ht rfl,path_at hc,hl];rfl
    clear hf ht hc hsz
    go_wp2_with fail
    refine(idPart a _ (by omega)).mono ?_;rintro e w2 ⟨rfl,hb⟩;have HB2:=Hd (HB.out.trans (hb.mono HB.out.size));clear hb
    go_wp2_with fail
    go_ret
    exact⟨ret_bool HE.out,HB2.out⟩
end
section
open Go.RowKit Go.Maps Go.WideMaps
theorem keyLaw:Keyed Tryz.prog 9:=string_keyed Tryz.underlying9
theorem zeroUnit(w:World):(zeroValue 126).run Tryz.prog w=.ok (.agg #[]) w:=by kernel_rfl
def keysTo(ss:List ByteArray) (k:Nat):DataW Unit:=setOf (.agg []) ((ss.take k).map fun s=>Lit.string s.data.toList)
def onceTo(ss:List ByteArray) (k:Nat):Prop:=((ss.take k).map fun s=>s.data.toList).Nodup
def seenAt(ss:List ByteArray) (k:Nat):Bool:=decide ((ss[k]?.getD ByteArray.empty).data.toList∈(ss.take k).map fun s=>s.data.toList)
def onceS(ss:List ByteArray):Bool:=onceB (ss.map fun s=>s.data.toList)
theorem keysTo_zero(ss:List ByteArray):keysTo ss 0=.map []:=by simp [keysTo,setOf]
theorem take_snocT{ss:List ByteArray}{k:Nat}(h:k<ss.length):ss.take (k+1)=ss.take k++[ss[k]?.getD ByteArray.empty]:=by
 rw [List.take_succ_eq_append_getElem h,List.getElem?_eq_getElem h];rfl
theorem keysTo_succ(ss:List ByteArray) (k:Nat) (h:k<ss.length):keysTo ss (k+1)=(keysTo ss k).put (.string (ss[k]?.getD ByteArray.empty).data.toList) (.agg []):=by
 unfold keysTo;rw [take_snocT h,List.map_append];exact setOf_snoc _ _ _
theorem any_string(x:List UInt8):∀ l:List ByteArray,(l.map fun s=>Lit.string s.data.toList).any (fun y=>y.sameKey (.string x))=decide (x∈l.map fun s=>s.data.toList)
 | []=>rfl
 | a::r=>by
  have e:(Lit.string a.data.toList).sameKey (.string x)=(a.data.toList==x):=rfl;rw [List.map_cons,List.any_cons,any_string x r,List.map_cons,e,Bool.eq_iff_iff];simp only [Bool.or_eq_true,beq_iff_eq,decide_eq_true_eq,List.mem_cons];exact⟨fun h=>h.imp Eq.symm id,fun h=>h.imp Eq.symm id⟩
theorem has_keysTo(ss:List ByteArray) (k:Nat):Maps.has (keysTo ss k) (.string (ss[k]?.getD ByteArray.empty).data.toList)=seenAt ss k:=by
 unfold keysTo seenAt;rw [has_setOf _ _ _ (fun y hy=>by obtain⟨_,_,rfl⟩:=List.mem_map.1 hy;trivial),any_string]
theorem onceTo_zero(ss:List ByteArray):onceTo ss 0:=by simp [onceTo]
theorem onceTo_succ{ss:List ByteArray}{k:Nat}(H:onceTo ss k) (h:k<ss.length) (hn:seenAt ss k=false):onceTo ss (k+1):=by
 unfold onceTo at H ⊢;rw [take_snocT h,List.map_append,List.nodup_append];refine⟨H,by simp,fun a ha b hb=>?_⟩
 simp at hb
 subst hb;intro e;subst e;simp only [seenAt,decide_eq_false_iff_not] at hn;exact hn ha
theorem onceTo_end{ss:List ByteArray}{k:Nat}(H:onceTo ss k) (h:ss.length≤k):onceS ss=true:=by
 unfold onceTo at H;rw [List.take_of_length_le h] at H;exact decide_eq_true H
theorem seen_twice{ss:List ByteArray}{k:Nat}(h:k<ss.length) (hn:seenAt ss k=true):onceS ss=false:=by
 simp only [seenAt,decide_eq_true_eq] at hn;unfold onceS onceB;refine decide_eq_false fun hd=>?_;have e:ss=ss.take k++ss.drop k:=(List.take_append_drop k ss).symm;rw [e,List.map_append,List.nodup_append] at hd
 have hm:(ss[k]?.getD ByteArray.empty)∈ss.drop k:=by
  rw [List.getElem?_eq_getElem h,Option.getD_some,List.drop_eq_getElem_cons h];exact List.mem_cons_self
 exact hd.2.2 _ hn _ (List.mem_map.2 ⟨_,hm,rfl⟩) rfl
theorem idOnce(A:Option Addr) (n c:Nat) (ss:List ByteArray) (w:World) (h:RdT w A n ss) (hz:∀ s∈ss,s.size≤maxLen) (hn:n≤100):
 Calls Tryz.prog 78 #[.slice A n c] w fun e w'=>e=.returned (.bool (onceS ss))∧Below w.heap.size w w':=by
 have hmm:=@run_makeMap Tryz.prog;have HL:=Hd h.len
 go_enter Tryz.func78,Tryz.ntmps78
 go_wp2_with fail
 go_loopw [11] (fun i wr=>∃ k:Nat,k≤n∧i=.int .i64 k∧wr.ownsMap Tryz.prog 9 unitElem w.heap.size k (keysTo ss k)∧Below w.heap.size w wr∧w.heap.size+1≤wr.heap.size∧onceTo ss k)
  (fun i _=>n-(intOf i).toNat)
 case atStart=>exact⟨0,Nat.zero_le _,rfl,by rw [keysTo_zero];exact World.ownsMap_made _ _ _ _,(Below.refl _ _).alloc (Nat.le_refl _) _,by simp,onceTo_zero _⟩
 case round=>
  obtain⟨k,hk,rfl,hown,hnx,hws,honce⟩:=hrel;have HO:=Hd honce;clear honce
  by_cases hlt:k<n
  · obtain⟨b,off,rfl,hb,hc⟩:=h.at_ hlt;have hck:wr.cell? ⟨b,off+k,none⟩=some (.string (ss[k]?.getD ByteArray.empty)):=(hnx.cell hb).trans (hc k hlt);have hkk:k<ss.length:=by rw [HL.out];exact hlt
    have HS:=Hd (keysTo_succ ss k hkk);have hhas:=has_keysTo ss k;have hxm:(ss[k]?.getD ByteArray.empty).size≤maxLen:=hz _ (by rw [List.getElem?_eq_getElem hkk];exact List.getElem_mem _);clear hc hz;generalize hx:ss[k]?.getD ByteArray.empty=x at hck hxm hhas HS;have hkey:keyOf Tryz.prog 9 (.string x)=some (.string x.data.toList):=keyOf_string_mk Tryz.underlying9 hxm;have HX:=Hd hx;have HKK:=Hd hkk;clear hx hkk;have hkk:k<maxLen:=by unfold maxLen;omega
    by_cases hsn:seenAt ss k=true
    · have HSN:=Hd hsn;rw [hsn] at hhas;clear hsn
      go_wp2_with (at_lookup;refine wpList_lookup_own_unit _ rfl _ _ 125 rfl 9 126 keyLaw Tryz.underlying125 (zeroUnit _) w.heap.size k _ rfl hown _ _ rfl hkey ?_)
      go_ret
      exact⟨ret_bool (seen_twice HKK.out HSN.out).symm,hnx.alloc hnx.size _⟩
    · have hsn:seenAt ss k=false:=by simpa using hsn
      have HSN:=Hd hsn;rw [hsn] at hhas;clear hsn
      go_wp2_with (first
       | (at_lookup;refine wpList_lookup_own_unit _ rfl _ _ 125 rfl 9 126 keyLaw Tryz.underlying125 (zeroUnit _) w.heap.size k _ rfl hown _ _ rfl hkey ?_)
       | (at_mapUpdate;refine wpList_mapUpdate_own _ rfl _ _ _ 125 rfl 9 126 keyLaw Tryz.underlying125 (unitElem (H:=Unit)) w.heap.size k _ rfl (hown.alloc _) hkk _ _ _ rfl rfl hkey _ [] unitElem_mk ?_;intro w1 hown1 hgrow1))
      have HW:=Hd hown1;have HG:=Hd hgrow1;have s1:=hgrow1.size
      simp at s1
      clear hown1 hgrow1
      go_roundw
      case rel=>
       refine⟨k+1,by omega,by go_num,?_,?_,by omega,onceTo_succ HO.out HKK.out HSN.out⟩
       · rw [HS.out];exact HW.out
       · exact(hnx.alloc hnx.size _).grown HG.out (by simp;omega) (fun j hj=>by cases hj;exact Nat.le_refl _)
      case measure=>simp [intOf];omega
  · go_wp2_with fail
    go_ret
    exact⟨ret_bool (onceTo_end HO.out (by rw [HL.out];omega)).symm,hnx⟩
end
section
open Go.RowKit
def apartTo(ss:List ByteArray) (x:ByteArray) (j:Nat):Prop:=∀ i,i<j→((ss[i]?.getD ByteArray.empty).toList==x.toList)=false
theorem apart_seen{ss:List ByteArray}{k:Nat}(h:k<ss.length) (H:apartTo ss (ss[k]?.getD ByteArray.empty) k):seenAt ss k=false:=by
 refine decide_eq_false fun hm=>?_;obtain⟨y,hy,e⟩:=List.mem_map.1 hm;obtain⟨i,hi,ey⟩:=List.getElem_of_mem hy;rw [List.length_take] at hi;have h1:=H i (by omega);rw [List.getElem_take] at ey;rw [List.getElem?_eq_getElem (show i<ss.length by omega),Option.getD_some,ey,Lib.toList_data,Lib.toList_data,e] at h1
 simp at h1
theorem meets_seen{ss:List ByteArray}{i k:Nat}(h:k<ss.length) (hi:i<k) (he:((ss[i]?.getD ByteArray.empty).toList==(ss[k]?.getD ByteArray.empty).toList)=true):seenAt ss k=true:=by
 refine decide_eq_true (List.mem_map.2 ⟨ss[i]?.getD ByteArray.empty,?_,?_⟩)
 · rw [List.getElem?_eq_getElem (show i<ss.length by omega),Option.getD_some];exact List.mem_take_iff_getElem.2 ⟨i,by omega,rfl⟩
 · rw [Lib.toList_data,Lib.toList_data] at he;exact beq_iff_eq.1 he
theorem refOnce(A:Option Addr) (n c:Nat) (ss:List ByteArray) (w:World) (h:RdT w A n ss) (hn:n≤100):
 Calls Tryz.prog 33 #[.slice A n c] w fun e w'=>e=.returned (.bool (onceS ss))∧∃ m,w'=w.drewN m:=by
 have HL:=Hd h.len
 go_enter Tryz.func33,Tryz.ntmps33
 go_wp2_with fail
 go_loopw [3] (fun i wr=>∃ k:Nat,k≤n∧i=.int .i64 k∧(∃ m,wr=w.drewN m)∧onceTo ss k) (fun i _=>n-(intOf i).toNat)
 case atStart=>exact⟨0,Nat.zero_le _,rfl,⟨0,rfl⟩,onceTo_zero _⟩
 case round=>
  obtain⟨k,hk,rfl,⟨m,rfl⟩,honce⟩:=hrel;have HO:=Hd honce;clear honce
  by_cases hlt:k<n
  · obtain⟨b,off,rfl,hb,hc⟩:=h.at_ hlt;have hkk:k<ss.length:=by rw [HL.out];exact hlt
    have hck:=hc k hlt;generalize hx:ss[k]?.getD ByteArray.empty=x at hck;have HX:=Hd hx;have HKK:=Hd hkk;have HC:=Hd hc;clear hx hkk hc
    go_wp2_with fail
    go_loopw [4] (fun j wr=>∃ i:Nat,i≤k∧j=.int .i64 i∧(∃ m,wr=w.drewN m)∧apartTo ss x i) (fun j _=>k-(intOf j).toNat)
    case atStart=>exact⟨0,Nat.zero_le _,rfl,⟨_,rfl⟩,fun i hi=>absurd hi (by omega)⟩
    case round=>
     obtain⟨i,hi,rfl,⟨m2,rfl⟩,hap⟩:=hrel;have HAP:=Hd hap;clear hap
     by_cases hik:i<k
     · have hci:=HC.out i (by omega);generalize hy:ss[i]?.getD ByteArray.empty=y at hci;have HY:=Hd hy;clear hy
       by_cases he:(y.toList==x.toList)=true
       · have HE:=Hd he
         go_wp2_with fail
         go_quiet (fail)
         go_wp2_with fail
         go_ret
         refine⟨ret_bool ?_,_,World.drewN_drewN _ _ _⟩;exact(seen_twice HKK.out (meets_seen HKK.out hik (by rw [HX.out,HY.out];exact HE.out))).symm
       · have he:(y.toList==x.toList)=false:=by simpa using he
         have HE:=Hd he
         go_wp2_with fail
         go_quiet (fail)
         go_wp2_with fail
         go_roundw
         case rel=>
          refine⟨i+1,by omega,by go_num,⟨_,rfl⟩,fun j hj=>?_⟩;rcases Nat.lt_or_ge j i with h1 | h1
          · exact HAP.out j h1
          · obtain rfl:j=i:=by omega
            rw [HY.out];exact HE.out
         case measure=>simp [intOf];omega
     · go_wp2_with fail
       go_roundw
       case rel=>
        refine⟨k+1,by omega,by go_num,⟨_,rfl⟩,onceTo_succ HO.out HKK.out (apart_seen HKK.out ?_)⟩;rw [HX.out];exact fun j hj=>HAP.out j (by omega)
       case measure=>simp [intOf];omega
  · go_wp2_with fail
    go_ret
    exact⟨ret_bool (onceTo_end HO.out (by rw [HL.out];omega)).symm,_,rfl⟩
end
section
open Go.RowKit Go.Sort
theorem box_facts(w:World) (x:Ex) (A:Option Addr) (ca:Nat) (B:Option Addr) (cb:Nat) (w1:World) (h:w.alloc (.cells (exA x A ca B cb) 47)=w1) (hr:rdX w x A B):
 Below w.heap.size w w1∧w.heap.size<w1.heap.size∧rdX w1 x A B∧∀ w',Below w1.heap.size w1 w'→∀ j,w'.cell? ⟨w.heap.size,j,none⟩=(exA x A ca B cb)[j]?:=by
 subst h;refine⟨(Below.refl _ _).alloc (Nat.le_refl _) _,by simp,hr.alloc _,fun w' hb j=>?_⟩;rw [hb.cell (p:=⟨w.heap.size,j,none⟩) (by simp),World.cell?_alloc_new]
theorem refSize:∀ (x:Ex) (A:Option Addr) (ca:Nat) (B:Option Addr) (cb:Nat) (w:World),rdX w x A B→sizeX x≤1000000 →
 Calls Tryz.prog 89 #[.agg (exA x A ca B cb)] w fun e w'=>e=.returned (.int .i64 (sizeX x:Nat))∧Below w.heap.size w w':=by
 refine size_ind fun x ih A ca B cb w hr hs=>?_;have HIH:=Hd ih;have hsz:=sizeX_eq x;have HSZ:=Hd hsz;have hmx:=hr.subs.max;have HF:=Hd fun w1 h=>box_facts w x A ca B cb w1 h hr;have HSN:=Hd fun i (hi:i<x.subs.length)=>sizes_snoc hi;have HLE:=Hd fun i=>sizes_take x.subs i;have HSUB:=Hd fun i (hi:i<x.subs.length)=>size_sub (subX_mem hi);have HTL:=Hd (List.take_length (l:=x.subs));clear ih hr;unfold exA at HF HIH ⊢;generalize hlen:x.subs.length=len at *
 go_enter Tryz.func89,Tryz.ntmps89
 go_upto_region 1 with(fail)
 generalize hw1:w.alloc _=w1;obtain⟨hb1,hg,hr1,hcell⟩:=HF.out w1 hw1;have HC:=Hd hcell;have HB1:=Hd hb1;have HR1:=Hd hr1;clear hcell hb1 hr1 hw1 HF
 go_wp2_with fail
 go_loopw [3,4] (fun s i wr=>∃ k:Nat,k≤len∧i=.int .i64 k∧s=.int .i64 ((1+sizesX (x.subs.take k):Nat):Int)∧Below w1.heap.size w1 wr) (fun _ i _=>len-(intOf i).toNat)
 case atStart=>exact⟨0,Nat.zero_le _,rfl,by simp [sizesX],Below.refl _ _⟩
 case round=>
  obtain⟨k,hk,rfl,rfl,hbw⟩:=hrel;have HBW:=Hd hbw;have hc5:=HC.out wr hbw 5;have hle:=HLE.out k
  by_cases hlt:k<len
  · obtain⟨b,off,rfl,hb,hat⟩:=(HR1.out.below hbw).sub (i:=k) (by omega);obtain⟨A',ca',B',cb',hrg,hrd⟩:=hat k (by omega);obtain⟨c0,c1,c2,c3,c4,c5⟩:=rangeAt_six hrg;have HRD:=Hd hrd;have hsn:=HSN.out k (by omega);have hle2:=HLE.out (k+1);clear hat hbw hrg hrd;have hss:=HSUB.out k (by omega)
    go_wp2_with fail
    refine(HIH.out k (by omega) A' ca' B' cb' _ HRD.out (by omega)).mono ?_;rintro r w2 ⟨rfl,hb2⟩;have HB2:=Hd (HBW.out.trans (hb2.mono HBW.out.size))
    go_wp2_with fail
    go_roundw
    case rel=>refine⟨k+1,by omega,by go_num,?_,HB2.out⟩;rw [hsn];go_num
    case measure=>simp [intOf];omega
  · have hkl:k=len:=by omega
    subst hkl;have HE:=Hd (hlen ▸ HTL.out:x.subs.take k=x.subs)
    go_wp2_with fail
    go_ret
    refine⟨?_,HB1.out.trans (HBW.out.mono (Nat.le_of_lt hg))⟩;rw [HE.out,← HSZ.out];rfl
theorem refDepth:∀ (x:Ex) (A:Option Addr) (ca:Nat) (B:Option Addr) (cb:Nat) (w:World),rdX w x A B→sizeX x≤1000000 →
 Calls Tryz.prog 90 #[.agg (exA x A ca B cb)] w fun e w'=>e=.returned (.int .i64 (depthX x:Nat))∧Below w.heap.size w w':=by
 refine size_ind fun x ih A ca B cb w hr hs=>?_;have HIH:=Hd ih;have HSZ:=Hd (depthX_eq x);have hds:=depth_size x;have hsz:=depthX_eq x;have hmx:=hr.subs.max;have HF:=Hd fun w1 h=>box_facts w x A ca B cb w1 h hr;have HSN:=Hd fun i (hi:i<x.subs.length)=>depths_snoc hi;have HSUB:=Hd fun i (hi:i<x.subs.length)=>(size_sub (subX_mem hi));have HDS:=Hd fun i=>depth_size (subX x i);have HTL:=Hd (List.take_length (l:=x.subs));clear ih hr;unfold exA at HF HIH ⊢;generalize hlen:x.subs.length=len at *
 go_enter Tryz.func90,Tryz.ntmps90
 go_upto_region 1 with(fail)
 generalize hw1:w.alloc _=w1;obtain⟨hb1,hg,hr1,hcell⟩:=HF.out w1 hw1;have HC:=Hd hcell;have HB1:=Hd hb1;have HR1:=Hd hr1;clear hcell hb1 hr1 hw1 HF
 go_wp2_with fail
 go_loopw [3,4] (fun s i wr=>∃ k:Nat,k≤len∧i=.int .i64 k∧s=.int .i64 ((depthsX (x.subs.take k):Nat):Int)∧Below w1.heap.size w1 wr) (fun _ i _=>len-(intOf i).toNat)
 case atStart=>exact⟨0,Nat.zero_le _,rfl,by simp [depthsX],Below.refl _ _⟩
 case round=>
  obtain⟨k,hk,rfl,rfl,hbw⟩:=hrel;have HBW:=Hd hbw;have hc5:=HC.out wr hbw 5
  by_cases hlt:k<len
  · obtain⟨b,off,rfl,hb,hat⟩:=(HR1.out.below hbw).sub (i:=k) (by omega);obtain⟨A',ca',B',cb',hrg,hrd⟩:=hat k (by omega);obtain⟨c0,c1,c2,c3,c4,c5⟩:=rangeAt_six hrg;have HRD:=Hd hrd;have HSNK:=Hd (HSN.out k (by omega));clear hat hbw hrg hrd;have hss:=HSUB.out k (by omega)
    go_wp2_with fail
    refine(HIH.out k (by omega) A' ca' B' cb' _ HRD.out (by omega)).mono ?_;rintro r w2 ⟨rfl,hb2⟩;have HB2:=Hd (HBW.out.trans (hb2.mono HBW.out.size));clear hb2
    go_wp2_with fail
    go_roundw
    case rel=>
     refine⟨k+1,by omega,by go_num,?_,HB2.out⟩;rw [HSNK.out]
     first | rfl | (congr 1;omega) | (simp;done) | skip
    case measure=>simp [intOf];omega
  · have hkl:k=len:=by omega
    subst hkl;have HE:=Hd (hlen ▸ HTL.out:x.subs.take k=x.subs);rw [HE.out];generalize depthsX x.subs=d at *
    go_wp2_with fail
    go_ret
    refine⟨?_,HB1.out.trans (HBW.out.mono HB1.out.size)⟩;rw [HSZ.out];rfl
theorem refCount:∀ (x:Ex) (A:Option Addr) (ca:Nat) (B:Option Addr) (cb:Nat) (w:World) ,rdX w x A B→∀ left:Nat,left≤1000000 →
 Calls Tryz.prog 37 #[.agg (exA x A ca B cb),.int .i64 left] w fun e w'=>e=.returned (.int .i64 (left-sizeX x:Nat))∧Below w.heap.size w w':=by
 refine size_ind fun x ih A ca B cb w hr left hs=>?_;have HIH:=Hd fun i hi A ca B cb w h l hl=>ih i hi A ca B cb w h l hl;have hsz:=sizeX_eq x;have HSZ:=Hd hsz;have hmx:=hr.subs.max;have HF:=Hd fun w1 h=>box_facts w x A ca B cb w1 h hr;have HSN:=Hd fun i (hi:i<x.subs.length)=>sizes_snoc hi;have HLE:=Hd fun i=>sizes_take x.subs i;have HTL:=Hd (List.take_length (l:=x.subs));clear ih hr;unfold exA at HF HIH ⊢;generalize hlen:x.subs.length=len at *
 by_cases h0:left=0
 · subst h0
   go_enter Tryz.func37,Tryz.ntmps37
   go_upto_region 1 with(fail)
   generalize hw1:w.alloc _=w1;obtain⟨hb1,hg,hr1,hcell⟩:=HF.out w1 hw1;have HB1:=Hd hb1;clear hcell hb1 hr1 hw1 HF
   go_wp2_with fail
   go_ret
   refine⟨?_,HB1.out⟩;rw [Nat.zero_sub];rfl
 · obtain⟨l1,rfl⟩:∃ l1,left=l1+1:=⟨left-1,by omega⟩
   go_enter Tryz.func37,Tryz.ntmps37
   go_upto_region 1 with(fail)
   generalize hw1:w.alloc _=w1;obtain⟨hb1,hg,hr1,hcell⟩:=HF.out w1 hw1;have HC:=Hd hcell;have HB1:=Hd hb1;have HR1:=Hd hr1;clear hcell hb1 hr1 hw1 HF
   go_wp2_with fail
   go_loopw [1,5] (fun s i wr=>∃ k:Nat,k≤len∧i=.int .i64 k∧s=.int .i64 ((l1-sizesX (x.subs.take k):Nat):Int)∧Below w1.heap.size w1 wr) (fun _ i _=>len-(intOf i).toNat)
   case atStart=>exact⟨0,Nat.zero_le _,rfl,by simp [sizesX],Below.refl _ _⟩
   case round=>
    obtain⟨k,hk,rfl,rfl,hbw⟩:=hrel;have HBW:=Hd hbw;have hc5:=HC.out wr hbw 5;have hle:=HLE.out k
    by_cases hlt:k<len
    · by_cases hp:l1-sizesX (x.subs.take k)=0
      · rw [hp]
        go_wp2_with fail
        go_ret
        refine⟨?_,HB1.out.trans (HBW.out.mono HB1.out.size)⟩;rw [show l1+1-sizeX x=0 by omega];rfl
      · obtain⟨b,off,rfl,hb,hat⟩:=(HR1.out.below hbw).sub (i:=k) (by omega);obtain⟨A',ca',B',cb',hrg,hrd⟩:=hat k (by omega);obtain⟨c0,c1,c2,c3,c4,c5⟩:=rangeAt_six hrg;have HRD:=Hd hrd;have hsn:=HSN.out k (by omega);have HSNK:=Hd hsn;clear hat hbw hrg hrd;obtain⟨q,hq⟩:∃ q,l1-sizesX (x.subs.take k)=q:=⟨_,rfl⟩;rw [hq];have hq0:0<q:=by omega
        have hql:q≤1000000:=by omega
        have HQ:=Hd hq;clear hq hp hsn hle hsz
        go_wp2_with fail
        refine(HIH.out k (by omega) A' ca' B' cb' _ HRD.out q hql).mono ?_;rintro r w2 ⟨rfl,hb2⟩;have HB2:=Hd (HBW.out.trans (hb2.mono HBW.out.size));clear hb2
        go_wp2_with fail
        go_roundw
        case rel=>
         refine⟨_,_,_,_,_,_,_,_,_,_,_,_,_,_,_,_,_,_,_,_,?_,rfl⟩;refine⟨k+1,by omega,by go_num,?_,HB2.out⟩;have:=HQ.out;rw [HSNK.out,show l1-(sizesX (x.subs.take k)+sizeX (subX x k))=q-sizeX (subX x k) by omega]
        case measure=>simp [intOf];omega
    · have hkl:k=len:=by omega
      subst hkl;have HE:=Hd (hlen ▸ HTL.out:x.subs.take k=x.subs);rw [HE.out];have HA:l1+1-sizeX x=l1-sizesX x.subs:=by omega
      have HA':=Hd HA;generalize l1-sizesX x.subs=d at *;clear HA hle hsz
      go_wp2_with fail
      go_ret
      refine⟨?_,HB1.out.trans (HBW.out.mono HB1.out.size)⟩;rw [HA'.out];rfl
end
section
open Go.RowKit Go.Sort
def flX(w:World):List Ex→List Value→Prop
 | [],cs=>cs=[]
 | x::l,cs=>∃ A ca B cb cs',cs=exL x A ca B cb++cs'∧rdX w x A B∧flX w l cs'
theorem flX_one{w:World}{x:Ex}{A:Option Addr}{ca:Nat}{B:Option Addr}{cb:Nat}(h:rdX w x A B):flX w [x] (exL x A ca B cb):=⟨A,ca,B,cb,[],by simp,h,rfl⟩
theorem flX_app{w:World}:∀ {l l':List Ex}{cs cs':List Value},flX w l cs→flX w l' cs'→flX w (l++l') (cs++cs')
 | [],l',cs,cs',h,h'=>by
  obtain rfl:cs=[]:=h
  simpa using h'
 | x::l,l',cs,cs',h,h'=>by
  obtain⟨A,ca,B,cb,cs1,rfl,h1,h2⟩:=h;exact⟨A,ca,B,cb,cs1++cs',by simp,h1,flX_app h2 h'⟩
theorem flX_len{w:World}:∀ {l:List Ex}{cs:List Value},flX w l cs→cs.length=l.length*6
 | [],cs,h=>by
  obtain rfl:cs=[]:=h;rfl
 | x::l,cs,h=>by
  obtain⟨A,ca,B,cb,cs1,rfl,h1,h2⟩:=h;rw [List.length_append,flX_len h2,List.length_cons]
  show 6+l.length*6=_
  omega
theorem flX_cells{w:World}:∀ {l:List Ex}{cs:List Value},flX w l cs→∀ u∈cs,u.oneCell'=true
 | [],cs,h,u,hu=>by
  obtain rfl:cs=[]:=h
  cases hu
 | x::l,cs,h,u,hu=>by
  obtain⟨A,ca,B,cb,cs1,rfl,h1,h2⟩:=h;rcases List.mem_append.1 hu with hu | hu
  · simp only [exL,List.mem_cons,List.not_mem_nil,or_false] at hu;rcases hu with rfl | rfl | rfl | rfl | rfl | rfl <;> rfl
  · exact flX_cells h2 u hu
theorem flX_below{w w':World}(hb:Below w.heap.size w w'):∀ {l:List Ex}{cs:List Value},flX w l cs→flX w' l cs
 | [],cs,h=>h
 | x::l,cs,h=>by
  obtain⟨A,ca,B,cb,cs1,rfl,h1,h2⟩:=h;exact⟨A,ca,B,cb,cs1,rfl,h1.below hb,flX_below hb h2⟩
theorem flX_rd{w:World}{b:Nat}:∀ {l:List Ex}{cs:List Value}{off:Nat},flX w l cs→w.rangeAt b off cs→rdXs w l b off
 | [],cs,off,h,hr=>by simp only [rdXs]
 | x::l,cs,off,h,hr=>by
  obtain⟨A,ca,B,cb,cs1,rfl,h1,h2⟩:=h;simp only [rdXs];refine⟨⟨A,ca,B,cb,fun j v hj=>hr j v ?_,h1⟩,flX_rd h2 fun j v hj=>?_⟩
  · rw [List.getElem?_append_left (List.getElem?_eq_some_iff.1 hj).1];exact hj
  · rw [Nat.add_assoc];refine hr (6+j) v ?_;rw [List.getElem?_append_right (by show 6≤6+j;omega)]
    show cs1[6+j-6]?=some v
    rw [show 6+j-6=j by omega];exact hj
def Cel6(w:World) (A:Option Addr) (n:Nat) (cs:List Value):Prop:=
 cs.length=n*6∧n≤9223372036854775807∧(0<n→∃ b off,A=some ⟨b,off,none⟩∧b<w.heap.size∧w.rangeAt b off cs)
theorem Cel6.of_own{w:World}{base:Nat}{e:TypeId}{v:Value}{n:Nat}{cs:List Value}(h:w.ownsRow base e 6 v n cs) (hm:n≤9223372036854775807):∃ A c,v=.slice A n c∧Cel6 w A n cs∧(0<n→∃ g,A=some ⟨g,0,none⟩∧base≤g):=by
 rcases h.2 with⟨rfl,rfl⟩|⟨g,cap,cur,rfl,hg,hh,hnc,hcm,hcs,ht⟩
 · exact⟨none,0,rfl,⟨h.1,hm,by omega⟩,by omega⟩
 · refine⟨_,cap,rfl,⟨h.1,hm,fun hn=>⟨g,0,rfl,(Array.getElem?_eq_some_iff.1 hh).1,fun j v hj=>?_⟩⟩,fun _=>⟨g,rfl,hg⟩⟩;have:=h.cellAt j (by rw [← h.1];exact(List.getElem?_eq_some_iff.1 hj).1);rw [Nat.zero_add,this,hj]
theorem Cel6.rd{w w0:World}{A:Option Addr}{n:Nat}{cs:List Value}{l:List Ex}(h:Cel6 w A n cs) (hf:flX w0 l cs) (hb:Below w0.heap.size w0 w):RdX w A n l:=by
 have h1:=flX_len hf;have h2:=h.1;refine⟨by omega,h.2.1,fun hn=>?_⟩;obtain⟨b,off,e,hbl,hr⟩:=h.2.2 hn;exact⟨b,off,e,hbl,flX_rd (flX_below hb hf) hr⟩
theorem own_belowX{w w':World}{base:Nat}{e:TypeId}{size:Nat}{v:Value}{n:Nat}{xs:List Value}(h:w.ownsRow base e size v n xs) (hb:Below w.heap.size w w'):w'.ownsRow base e size v n xs:=by
 refine⟨h.1,?_⟩;rcases h.2 with h | ⟨g,cap,cur,e1,hg,hh,r⟩
 · exact .inl h
 · exact .inr ⟨g,cap,cur,e1,hg,(hb.block g (Array.getElem?_eq_some_iff.1 hh).1).trans hh,r⟩
def PartsAt(w0 w w':World) (e:Ending) (x:Ex):Prop:=∃ A c cs,e=.returned (.slice A (sizeX x) c)∧Cel6 w' A (sizeX x) cs∧flX w0 (partsX x) cs∧Below w.heap.size w w'∧∃ g,A=some ⟨g,0,none⟩∧w.heap.size≤g
theorem infoEx:∃ i:TypeInfo,Tryz.prog.info? 47=some i∧i.size=6∧i.zero=some (.agg #[.int .i64 0,.int .i64 0,.string ⟨#[]⟩,.int .i64 0,.slice none 0 0,.slice none 0 0])∧i.bytes=88:=by
 have h:(Tryz.prog.info? 47).map (fun i=>(i.size,i.zero,i.bytes))=some (6,some (.agg #[.int .i64 0,.int .i64 0,.string ⟨#[]⟩,.int .i64 0,.slice none 0 0,.slice none 0 0]),88):=by kernel_rfl
 cases hq:Tryz.prog.info? 47 with
 | none=>rw [hq] at h;cases h
 | some i=>
  rw [hq] at h;simp only [Option.map_some,Option.some.injEq,Prod.mk.injEq] at h;exact⟨i,rfl,h.1,h.2.1,h.2.2⟩
theorem refParts:∀ (x:Ex) (A:Option Addr) (ca:Nat) (B:Option Addr) (cb:Nat) (w0 w:World),rdX w0 x A B→Below w0.heap.size w0 w→sizeX x≤1000000 →
 Calls Tryz.prog 65 #[.agg (exA x A ca B cb)] w fun e w'=>PartsAt w0 w w' e x:=by
 refine size_ind fun x ih A ca B cb w0 w hr0 hb0 hs=>?_;obtain⟨i0,hi,hz0,hz1,hz2⟩:=infoEx;have HIH:=Hd ih;have HSZ:=Hd (sizeX_eq x);have hmx:=hr0.subs.max;have HR0:=Hd hr0;have HB0:=Hd hb0;have HF:=Hd fun w1 h=>box_facts w x A ca B cb w1 h (hr0.below hb0);have HSN:=Hd fun i (hi:i<x.subs.length)=>sizes_snoc hi;have HPN:=Hd fun i (hi:i<x.subs.length)=>partss_snoc hi;have HLE:=Hd fun i=>sizes_take x.subs i;have HSUB:=Hd fun i (hi:i<x.subs.length)=>size_sub (subX_mem hi);have HTL:=Hd (List.take_length (l:=x.subs));have HONE:=Hd (flX_one (ca:=ca) (cb:=cb) hr0);have hsx:=sizeX_eq x;clear ih hr0 hb0;unfold exA at HF HIH ⊢;unfold exL at HONE;generalize hlen:x.subs.length=len at *
 go_enter Tryz.func65,Tryz.ntmps65
 go_upto_region 1 with(fail)
 generalize hw1:w.alloc _=w1;obtain⟨hb1,hg,hr1,hcell⟩:=HF.out w1 hw1;have HC:=Hd hcell;have HB1:=Hd hb1;obtain⟨q0,q1,q2,q3,q4,q5⟩:=Sx (hcell w1 (Below.refl _ _));clear hcell hb1 hr1 hw1 HF;have HL:=Hd fun(cs:Array Value) (hs:cs.size=1*6)=>World.ownsRow_lit (base:=w1.heap.size) (e:=47) (size:=6) w1 cs 1 (Nat.le_refl _) (by decide) hs;have HBA:=Hd fun(o:Obj)=>(Below.refl w1.heap.size w1).alloc (Nat.le_refl _) o
 go_wp2_with fail
 go_loopw [3,4] (fun v i wr=>∃ k:Nat,k≤len∧i=.int .i64 k∧(∃ cs,flX w0 (x::partssX (x.subs.take k)) cs∧wr.ownsRow w1.heap.size 47 6 v (1+sizesX (x.subs.take k)) cs)∧Below w1.heap.size w1 wr) (fun _ i _=>len-(intOf i).toNat)
 case atStart=>
  refine⟨0,Nat.zero_le _,rfl,⟨_,?_,HL.out _ rfl⟩,HBA.out _⟩;exact HONE.out
 case round=>
  obtain⟨k,hk,rfl,⟨cs,hfl,hrow⟩,hbw⟩:=hrel;have HBW:=Hd hbw;have HFL:=Hd hfl;have HRW:=Hd hrow;have hc5:=HC.out wr hbw 5;have hle:=HLE.out k;have hbs:=hbw.size;have HB0R:=Hd (HB0.out.trans ((HB1.out.trans (hbw.mono (Nat.le_of_lt hg))).mono HB0.out.size))
  by_cases hlt:k<len
  · obtain⟨b,off,rfl,hb,hat⟩:=HR0.out.sub (i:=k) (by omega);obtain⟨A',ca',B',cb',hrg,hrd⟩:=hat k (by omega);obtain⟨c0,c1,c2,c3,c4,c5⟩:=rangeAt_six (rangeAt_keep hrg hb fun p hp=>HB0R.out.cell hp);have HRD:=Hd hrd;have HSNK:=Hd (HSN.out k (by omega));have HPNK:=Hd (HPN.out k (by omega));have hsn:=HSN.out k (by omega);have hle2:=HLE.out (k+1);have hss:=HSUB.out k (by omega);clear hat hbw hrg hrd hfl hrow
    go_wp2_with fail
    refine(HIH.out k (by omega) A' ca' B' cb' w0 _ HRD.out HB0R.out (by omega)).mono ?_;rintro r w2 ⟨A2,c2',cs2,rfl,hcel,hfl2,hb2,_⟩;obtain⟨b2,off2,rfl,hbl2,hrg2⟩:=hcel.2.2 (size_pos _);have HFA:=Hd (flX_app HFL.out hfl2);have HF2:=Hd (flX_cells hfl2);have hcl:=hcel.1;have hrow2:=own_belowX HRW.out hb2;have HBW2:=Hd (HBW.out.trans (hb2.mono HBW.out.size));have hbs2:=HBW2.out.size
    go_wp2_with (at_builtin;go_must (refine wpList_append_own_at _ rfl _ _ 45 rfl w1.heap.size 47 i0 _ 6 88 Tryz.underlying45 hi hz1 hz0 hz2 rfl (by decide) _ _ _ rfl hrow2 ⟨b2,off2,none⟩ (sizeX (subX x k)) c2' cs2 rfl hcl (fun j u hu=>by rw [Addr.add_mid];exact hrg2 j u hu) HF2.out (by unfold maxLen;omega) (by omega) hbs2 ?_;intro v' w3 hown' hgrow _ hloc))
    have HBE:=Hd (HBW2.out.grown hgrow hbs2 (fun j hj=>(hrow2.lt j hj).1));have HOW:=Hd hown';clear hown' hgrow hloc hrow2 hb2
    go_wp2_with fail
    go_roundw
    case rel=>
     refine⟨k+1,by omega,by go_num,⟨cs++cs2,?_,?_⟩,HBE.out⟩
     · rw [HPNK.out];exact HFA.out
     · rw [HSNK.out,← Nat.add_assoc];exact HOW.out
    case measure=>simp [intOf];omega
  · have hkl:k=len:=by omega
    subst hkl;have HE:=Hd (hlen ▸ HTL.out:x.subs.take k=x.subs);rw [HE.out] at HRW HFL;obtain⟨A3,c3,rfl,hcel,hgg⟩:=Cel6.of_own HRW.out (by omega);have HCL:=Hd hcel;obtain⟨g3,hA3,hg3⟩:=hgg (by omega);have HA3:=Hd hA3;clear hA3 hgg;clear hcel hfl hrow
    go_wp2_with fail
    go_ret
    rw [← HSZ.out] at HCL;refine⟨A3,c3,cs,?_,HCL.out,?_,HB1.out.trans (HBW.out.mono (Nat.le_of_lt hg)),g3,HA3.out,by omega⟩
    · rw [HSZ.out];rfl
    · rw [partsX_eq];exact HFL.out
end
end Go.Proofs.YtpedcgpcchbhpaaGreatDoor
