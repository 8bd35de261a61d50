/- Parts of the proof: IdE, IdF, IdG, IdH, IdI, IdJ, ExK, ExN, ExV, EyI, EyF, ExS, EyA, EyJ. Conditions: each theorem's own. -/
import Derived.Maps.OwnSet
import Derived.Maps.OwnOps
import Derived.RangeFuncNested
import Derived.RangeFuncBound
import Derived.RangeFuncCalls
import Derived.RangeFuncLeaves
import Derived.Shelf.Abstract
import Derived.Shelf.RegionOpen
import Derived.OwnWalkIn
import Derived.TacticsInMore
import Derived.LoopNIn
import Derived.LoopIn
import Derived.RangeFuncBox
import Derived.Test.YtpehkppcdlboeaaA01
namespace Go.Proofs.Ytpehkppcdlboeaa
set_option linter.unusedVariables false
set_option linter.unusedSimpArgs false
set_option maxRecDepth 100000
set_option maxHeartbeats 40000000
section
open Go.RowKit
theorem idLow(s:ByteArray) (w:World) (hs:s.size≤9223372036854775807):
 Calls Try.prog 46 #[.string s] w fun e w'=>e=.returned (.bool (lowB s.data.toList))∧Below w.heap.size w w':=by
 by_cases h1:nameB smallB s.data.toList=true
 · have HE:=Hd (show(!wordB s.data.toList)=lowB s.data.toList by simp [lowB,h1])
   go_enter Try.func46,Try.ntmps46
   go_wp2_with fail
   refine(idName _ smallB (.inl ⟨rfl,rfl⟩) s _ hs).mono ?_;rintro e w' ⟨rfl,hb⟩;have HB:=Hd hb;clear hb
   go_wp2_with fail
   refine(idWord s _).mono ?_;rintro e w' ⟨rfl,rfl⟩
   go_wp2_with fail
   go_ret
   exact⟨ret_bool HE.out,HB.out⟩
 · have h1:nameB smallB s.data.toList=false:=by simpa using h1
   have HE:=Hd (show false=lowB s.data.toList by simp [lowB,h1])
   go_enter Try.func46,Try.ntmps46
   go_wp2_with fail
   refine(idName _ smallB (.inl ⟨rfl,rfl⟩) s _ hs).mono ?_;rintro e w' ⟨rfl,hb⟩;have HB:=Hd hb;clear hb
   go_wp2_with fail
   go_ret
   exact⟨ret_bool HE.out,HB.out⟩
theorem idHigh(s:ByteArray) (w:World) (hs:s.size≤9223372036854775807):
 Calls Try.prog 63 #[.string s] w fun e w'=>e=.returned (.bool (highB s.data.toList))∧Below w.heap.size w w':=by
 have HE:=Hd (show nameB greatB s.data.toList=highB s.data.toList from rfl)
 go_enter Try.func63,Try.ntmps63
 go_wp2_with fail
 refine(idName _ greatB (.inr ⟨rfl,rfl⟩) s _ hs).mono ?_;rintro e w' ⟨rfl,hb⟩;have HB:=Hd hb;clear hb
 go_wp2_with fail
 go_ret
 exact⟨ret_bool HE.out,HB.out⟩
section
variable {s:ByteArray}
theorem num_len(h:s.size<1∨3<s.size):numB s.data.toList=false:=by
 have:¬ (1≤s.data.toList.length∧s.data.toList.length≤3):=by rw [← Lib.size_eq];omega
 simp only [numB,decide_eq_false this,Bool.false_and]
theorem num_first(h:0<s.size) (hp:((s[0]'h).toNat:Int)=48):numB s.data.toList=false:=by
 obtain⟨F,e⟩:=head_at h;have h48:s[0]'h=48:=UInt8.toNat_inj.1 (by simpa using (by omega:(s[0]'h).toNat=48));rw [e]
 simp [numB,h48]
theorem num_at{k:Nat}(h:k<s.size) (hp:digitB ((s[k]'h).toNat:Int)=false):numB s.data.toList=false:=by
 have hm:s[k]'h∈s.data.toList:=by rw [← at_list s k h];exact List.getElem_mem _
 cases hn:numB s.data.toList with
 | false=>rfl
 | true=>
  simp only [numB,Bool.and_eq_true,List.all_eq_true] at hn;rw [hn.2 _ hm] at hp
  cases hp
theorem num_yes(h1:0<s.size) (h2:s.size≤3) (hp:¬ ((s[0]'h1).toNat:Int)=48) (ha:∀ k (h:k<s.size),digitB ((s[k]'h).toNat:Int)=true):numB s.data.toList=true:=by
 have hz:=Lib.size_eq s
 have hall:s.data.toList.all (fun c=>digitB (c.toNat:Int))=true:=by
  rw [List.all_eq_true];intro c hc;obtain⟨k,hk,e⟩:=List.getElem_of_mem hc;rw [← e,at_list s k (by omega)];exact ha k (by omega)
 have hlen:decide (1≤s.data.toList.length∧s.data.toList.length≤3)=true:=decide_eq_true (by omega);obtain⟨F,e⟩:=head_at h1;have h48:¬ s[0]'h1=48:=fun e=>hp (by rw [e];rfl);unfold numB;rw [hall,hlen,e]
 simp [h48]
end
theorem digitB_high{x:Int}(h:128≤x):digitB x=false:=by
 simp [digitB];omega
def Digits(s:ByteArray) (pos:Nat):Prop:=∀ k (h:k<s.size),k<pos→digitB ((s[k]'h).toNat:Int)=true
theorem digits_zero{s:ByteArray}:Digits s 0:=fun k h hk=>absurd hk (by omega)
theorem digits_snoc{s:ByteArray}{k:Nat}(H:Digits s k) (hlt:k<s.size) (hx:digitB ((s[k]'hlt).toNat:Int)=true):Digits s (k+1):=fun j h hj=>by
 rcases Nat.lt_or_ge j k with h1 | h1
 · exact H j h h1
 · obtain rfl:j=k:=by omega
   exact hx
theorem digits_step{s:ByteArray}{pos q:Nat}{x:Int}(H:Digits s pos) (hp:pos<s.size) (hx:(x=((s[pos]'hp).toNat:Int)∧q=pos+1)∨(128≤x∧128≤(s[pos]'hp).toNat∧pos<q))
 (h2:digitB x=true):q≤s.size∧Digits s q:=by
 rcases hx with⟨rfl,rfl⟩|⟨h,_,_⟩
 · exact⟨by omega,digits_snoc H hp h2⟩
 · rw [digitB_high h] at h2
   cases h2
theorem digits_bad{s:ByteArray}{pos q:Nat}{x:Int}(hp:pos<s.size) (hx:(x=((s[pos]'hp).toNat:Int)∧q=pos+1)∨(128≤x∧128≤(s[pos]'hp).toNat∧pos<q)) (h2:digitB x=false):numB s.data.toList=false:=by
 rcases hx with⟨rfl,rfl⟩|⟨_,h,_⟩
 · exact num_at hp h2
 · exact num_at hp (digitB_high (by omega))
theorem idNumber(s:ByteArray) (w:World) (hs:s.size≤9223372036854775807):
 Calls Try.prog 92 #[.string s] w fun e w'=>e=.returned (.bool (numB s.data.toList))∧Below w.heap.size w w':=by
 by_cases h1:s.size<1
 · go_enter Try.func92,Try.ntmps92
   go_wp2_with fail
   go_ret
   exact⟨ret_bool (num_len (.inl h1)).symm,Below.refl _ _⟩
 · by_cases h2:3<s.size
   · go_enter Try.func92,Try.ntmps92
     go_wp2_with fail
     go_ret
     exact⟨ret_bool (num_len (.inr h2)).symm,Below.refl _ _⟩
   · have hd1:decide ((s.size:Int)<1)=false:=decide_eq_false (by omega);have hd2:decide ((3:Int)<(s.size:Int))=false:=decide_eq_false (by omega);have h0:0<s.size:=by omega
     have h3:s.size≤3:=by omega
     clear h1 h2
     by_cases hf:((s[0]'h0).toNat:Int)=48
     · have HF:=Hd hf;have hfb:(((s[0]'h0).toNat:Int)==48)=true:=by simpa using hf
       clear hf
       go_enter Try.func92,Try.ntmps92
       go_wp2_with fail
       go_ret
       exact⟨ret_bool (num_first h0 HF.out).symm,Below.refl _ _⟩
     · have HF:=Hd hf;have hfb:(((s[0]'h0).toNat:Int)==48)=false:=by simpa using hf
       clear hf
       go_enter Try.func92,Try.ntmps92
       go_wp2_with fail
       clear hd1 hd2 hfb
       go_loopw [4] (fun _ wr=>∃ pos:Nat,pos≤s.size∧wr=w.iter s pos∧Digits s pos) (fun _ wr=>s.size-wr.iterPos w.heap.size)
       case atStart=>exact⟨0,by omega,rfl,digits_zero⟩
       case round=>
        obtain⟨pos,hle,rfl,hrel⟩:=hrel;have HR:=Hd hrel;clear hrel
        by_cases hp:pos<s.size
        · obtain⟨x,q,hnx,hx⟩:=next_at (P:=Try.prog) w s pos hp;have HX:=Hd hx;clear hx
          by_cases hx2:digitB x=true
          · go_wp2_with (go_at_call 79;refine(idDigit x _).mono ?_;rintro e w' ⟨rfl,rfl⟩)
            go_roundw
            case rel=>exact⟨q,(digits_step HR.out hp HX.out hx2).1,rfl,(digits_step HR.out hp HX.out hx2).2⟩
            case measure=>simp;have:=nameTo_lt hp HX.out;omega
          · have hx2:digitB x=false:=by simpa using hx2
            go_wp2_with (go_at_call 79;refine(idDigit x _).mono ?_;rintro e w' ⟨rfl,rfl⟩)
            go_ret
            exact⟨ret_bool (digits_bad hp HX.out hx2).symm,below_iter _ _ _⟩
        · have hnx:∀ ty,(Instr.next (.pointer (some ⟨w.heap.size,0,none⟩)) true ty).run Try.prog (w.iter s pos)=_:=fun ty=>run_next_end w s pos ty hp
          go_wp2_with fail
          go_ret
          exact⟨ret_bool (num_yes h0 h3 HF.out fun k h=>HR.out k h (by omega)).symm,below_iter _ _ _⟩
end
section
open Go.RowKit
theorem cut_sizes{c:UInt8}{s a b:ByteArray}{f:Bool}(hf:f=false→s.data.toList=a.data.toList) (ht:f=true→s.data.toList=a.data.toList++c::b.data.toList):
 a.size≤s.size∧(f=true→b.size<s.size):=by
 have h1:=Lib.size_eq s;have h2:=Lib.size_eq a;have h3:=Lib.size_eq b
 cases f with
 | false=>have:=hf rfl;rw [← this] at h2;exact⟨by omega,fun h=>by cases h⟩
 | true=>
  have:=congrArg List.length (ht rfl);simp only [List.length_append,List.length_cons] at this;exact⟨by omega,fun _=>by omega⟩
theorem idPart(s:ByteArray) (w:World) (hs:s.size≤9223372036854775806):
 Calls Try.prog 88 #[.string s] w fun e w'=>e=.returned (.bool (partB s.data.toList))∧Below w.heap.size w w':=by
 go_enter Try.func88,Try.ntmps88
 go_wp2_with fail
 refine(strCut s 46 _ hs).mono ?_;rintro e w1 ⟨a,b,f,rfl,hb,hc,hf,ht⟩;have hsz:=cut_sizes hf ht;have HB:=Hd hb;clear hb
 by_cases hl:lowB a.data.toList=true
 · cases f with
   | false=>
    have HE:=Hd (show true=partB s.data.toList by rw [hf rfl,partB_none hc,hl]);clear hf ht hc;have ha:=hsz.1;clear hsz
    go_wp2_with fail
    refine(idLow a _ (by omega)).mono ?_;rintro e w2 ⟨rfl,hb⟩;have HB2:=Hd (below_trans2 HB.out hb);clear hb
    go_wp2_with fail
    go_ret
    exact⟨ret_bool HE.out,HB2.out⟩
   | true=>
    have HE:=Hd (show numB b.data.toList=partB s.data.toList by rw [ht rfl,partB_at hc,hl];rfl);clear hf ht hc;have ha:=hsz.1;have hbz:=hsz.2 rfl;clear hsz
    go_wp2_with fail
    refine(idLow a _ (by omega)).mono ?_;rintro e w2 ⟨rfl,hb⟩;have HB2:=Hd (below_trans2 HB.out hb);clear hb
    go_wp2_with fail
    refine(idNumber b _ (by omega)).mono ?_;rintro e w3 ⟨rfl,hb⟩;have HB3:=Hd (below_trans2 HB2.out hb);clear hb
    go_wp2_with fail
    go_ret
    exact⟨ret_bool HE.out,HB3.out⟩
 · have hl:lowB a.data.toList=false:=by simpa using hl
   have HE:Hid (false=partB s.data.toList):=by
    refine Hd ?_
    cases f with
    | false=>rw [hf rfl,partB_none hc,hl]
    | true=>rw [ht rfl,partB_at hc,hl];rfl
   clear hf ht hc;have ha:=hsz.1;clear hsz
   go_wp2_with fail
   refine(idLow a _ (by omega)).mono ?_;rintro e w2 ⟨rfl,hb⟩;have HB2:=Hd (below_trans2 HB.out hb);clear hb
   go_wp2_with fail
   go_ret
   exact⟨ret_bool HE.out,HB2.out⟩
def szOf:Value→Nat
 | .string s=>s.size
 | _=>0
theorem idPath(s:ByteArray) (w:World) (hs:s.size≤9223372036854775806):
 Calls Try.prog 83 #[.string s] w fun e w'=>e=.returned (.bool (pathB s.data.toList))∧Below w.heap.size w w':=by
 go_enter Try.func83,Try.ntmps83
 go_wp2_with fail
 go_loopw [0] (fun v wr=>∃ t:ByteArray,v=.string t∧t.size≤s.size∧pathB s.data.toList=pathB t.data.toList∧Below w.heap.size w wr) (fun v _=>szOf v)
 case atStart=>exact⟨s,rfl,Nat.le_refl _,rfl,Below.refl _ _⟩
 case round=>
  obtain⟨t,rfl,hts,hpt,hb0⟩:=hrel;have HP:=Hd hpt;have HB0:=Hd hb0;clear hpt hb0
  go_wp2_with fail
  refine(strCut t 47 _ (by omega)).mono ?_;rintro e w1 ⟨a,b,f,rfl,hb,hc,hf,ht⟩;have hsz:=cut_sizes hf ht;have HB:=Hd (HB0.out.trans (hb.mono HB0.out.size));clear hb;have ha:=hsz.1
  by_cases hl:partB a.data.toList=true
  · cases f with
    | false=>
     have HE:=Hd (show true=pathB s.data.toList by rw [HP.out,hf rfl,path_none hc,hl]);clear hf ht hc hsz
     go_wp2_with fail
     refine(idPart a _ (by omega)).mono ?_;rintro e w2 ⟨rfl,hb⟩;have HB2:=Hd (HB.out.trans (hb.mono HB.out.size));clear hb
     go_wp2_with fail
     go_ret
     exact⟨ret_bool HE.out,HB2.out⟩
    | true=>
     have HE:=Hd (show pathB s.data.toList=pathB b.data.toList by rw [HP.out,ht rfl,path_at hc,hl];rfl);have hbz:=hsz.2 rfl;clear hf ht hc hsz
     go_wp2_with fail
     refine(idPart a _ (by omega)).mono ?_;rintro e w2 ⟨rfl,hb⟩;have HB2:=Hd (HB.out.trans (hb.mono HB.out.size));clear hb
     go_wp2_with fail
     go_roundw
     case rel=>exact⟨b,rfl,by omega,HE.out,HB2.out⟩
     case measure=>simp [szOf];omega
  · have hl:partB a.data.toList=false:=by simpa using hl
    have HE:Hid (false=pathB s.data.toList):=by
     refine Hd ?_;rw [HP.out]
     cases f with
     | false=>rw [hf rfl,path_none hc,hl]
     | true=>rw [ht rfl,path_at hc,hl];rfl
    clear hf ht hc hsz
    go_wp2_with fail
    refine(idPart a _ (by omega)).mono ?_;rintro e w2 ⟨rfl,hb⟩;have HB2:=Hd (HB.out.trans (hb.mono HB.out.size));clear hb
    go_wp2_with fail
    go_ret
    exact⟨ret_bool HE.out,HB2.out⟩
end
section
open Go.RowKit Go.Maps Go.WideMaps
theorem keyLaw:Keyed Try.prog 9:=string_keyed Try.underlying9
theorem zeroUnit(w:World):(zeroValue 87).run Try.prog w=.ok (.agg #[]) w:=by kernel_rfl
def keysTo(ss:List ByteArray) (k:Nat):DataW Unit:=setOf (.agg []) ((ss.take k).map fun s=>Lit.string s.data.toList)
def onceTo(ss:List ByteArray) (k:Nat):Prop:=((ss.take k).map fun s=>s.data.toList).Nodup
def seenAt(ss:List ByteArray) (k:Nat):Bool:=decide ((ss[k]?.getD ByteArray.empty).data.toList∈(ss.take k).map fun s=>s.data.toList)
def onceS(ss:List ByteArray):Bool:=onceB (ss.map fun s=>s.data.toList)
theorem keysTo_zero(ss:List ByteArray):keysTo ss 0=.map []:=by simp [keysTo,setOf]
theorem take_snocT{ss:List ByteArray}{k:Nat}(h:k<ss.length):ss.take (k+1)=ss.take k++[ss[k]?.getD ByteArray.empty]:=by
 rw [List.take_succ_eq_append_getElem h,List.getElem?_eq_getElem h];rfl
theorem keysTo_succ(ss:List ByteArray) (k:Nat) (h:k<ss.length):keysTo ss (k+1)=(keysTo ss k).put (.string (ss[k]?.getD ByteArray.empty).data.toList) (.agg []):=by
 unfold keysTo;rw [take_snocT h,List.map_append];exact setOf_snoc _ _ _
theorem any_string(x:List UInt8):∀ l:List ByteArray,(l.map fun s=>Lit.string s.data.toList).any (fun y=>y.sameKey (.string x))=decide (x∈l.map fun s=>s.data.toList)
 | []=>rfl
 | a::r=>by
  have e:(Lit.string a.data.toList).sameKey (.string x)=(a.data.toList==x):=rfl;rw [List.map_cons,List.any_cons,any_string x r,List.map_cons,e,Bool.eq_iff_iff];simp only [Bool.or_eq_true,beq_iff_eq,decide_eq_true_eq,List.mem_cons];exact⟨fun h=>h.imp Eq.symm id,fun h=>h.imp Eq.symm id⟩
theorem has_keysTo(ss:List ByteArray) (k:Nat):Maps.has (keysTo ss k) (.string (ss[k]?.getD ByteArray.empty).data.toList)=seenAt ss k:=by
 unfold keysTo seenAt;rw [has_setOf _ _ _ (fun y hy=>by obtain⟨_,_,rfl⟩:=List.mem_map.1 hy;trivial),any_string]
theorem onceTo_zero(ss:List ByteArray):onceTo ss 0:=by simp [onceTo]
theorem onceTo_succ{ss:List ByteArray}{k:Nat}(H:onceTo ss k) (h:k<ss.length) (hn:seenAt ss k=false):onceTo ss (k+1):=by
 unfold onceTo at H ⊢;rw [take_snocT h,List.map_append,List.nodup_append];refine⟨H,by simp,fun a ha b hb=>?_⟩
 simp at hb
 subst hb;intro e;subst e;simp only [seenAt,decide_eq_false_iff_not] at hn;exact hn ha
theorem onceTo_end{ss:List ByteArray}{k:Nat}(H:onceTo ss k) (h:ss.length≤k):onceS ss=true:=by
 unfold onceTo at H;rw [List.take_of_length_le h] at H;exact decide_eq_true H
theorem seen_twice{ss:List ByteArray}{k:Nat}(h:k<ss.length) (hn:seenAt ss k=true):onceS ss=false:=by
 simp only [seenAt,decide_eq_true_eq] at hn;unfold onceS onceB;refine decide_eq_false fun hd=>?_;have e:ss=ss.take k++ss.drop k:=(List.take_append_drop k ss).symm;rw [e,List.map_append,List.nodup_append] at hd
 have hm:(ss[k]?.getD ByteArray.empty)∈ss.drop k:=by
  rw [List.getElem?_eq_getElem h,Option.getD_some,List.drop_eq_getElem_cons h];exact List.mem_cons_self
 exact hd.2.2 _ hn _ (List.mem_map.2 ⟨_,hm,rfl⟩) rfl
theorem idOnce(A:Option Addr) (n c:Nat) (ss:List ByteArray) (w:World) (h:RdT w A n ss) (hz:∀ s∈ss,s.size≤maxLen) (hn:n≤100):
 Calls Try.prog 53 #[.slice A n c] w fun e w'=>e=.returned (.bool (onceS ss))∧Below w.heap.size w w':=by
 have hmm:=@run_makeMap Try.prog;have HL:=Hd h.len
 go_enter Try.func53,Try.ntmps53
 go_wp2_with fail
 go_loopw [11] (fun i wr=>∃ k:Nat,k≤n∧i=.int .i64 k∧wr.ownsMap Try.prog 9 unitElem w.heap.size k (keysTo ss k)∧Below w.heap.size w wr∧w.heap.size+1≤wr.heap.size∧onceTo ss k)
  (fun i _=>n-(intOf i).toNat)
 case atStart=>exact⟨0,Nat.zero_le _,rfl,by rw [keysTo_zero];exact World.ownsMap_made _ _ _ _,(Below.refl _ _).alloc (Nat.le_refl _) _,by simp,onceTo_zero _⟩
 case round=>
  obtain⟨k,hk,rfl,hown,hnx,hws,honce⟩:=hrel;have HO:=Hd honce;clear honce
  by_cases hlt:k<n
  · obtain⟨b,off,rfl,hb,hc⟩:=h.at_ hlt;have hck:wr.cell? ⟨b,off+k,none⟩=some (.string (ss[k]?.getD ByteArray.empty)):=(hnx.cell hb).trans (hc k hlt);have hkk:k<ss.length:=by rw [HL.out];exact hlt
    have HS:=Hd (keysTo_succ ss k hkk);have hhas:=has_keysTo ss k;have hxm:(ss[k]?.getD ByteArray.empty).size≤maxLen:=hz _ (by rw [List.getElem?_eq_getElem hkk];exact List.getElem_mem _);clear hc hz;generalize hx:ss[k]?.getD ByteArray.empty=x at hck hxm hhas HS;have hkey:keyOf Try.prog 9 (.string x)=some (.string x.data.toList):=keyOf_string_mk Try.underlying9 hxm;have HX:=Hd hx;have HKK:=Hd hkk;clear hx hkk;have hkk:k<maxLen:=by unfold maxLen;omega
    by_cases hsn:seenAt ss k=true
    · have HSN:=Hd hsn;rw [hsn] at hhas;clear hsn
      go_wp2_with (at_lookup;refine wpList_lookup_own_unit _ rfl _ _ 62 rfl 9 87 keyLaw Try.underlying62 (zeroUnit _) w.heap.size k _ rfl hown _ _ rfl hkey ?_)
      go_ret
      exact⟨ret_bool (seen_twice HKK.out HSN.out).symm,hnx.alloc hnx.size _⟩
    · have hsn:seenAt ss k=false:=by simpa using hsn
      have HSN:=Hd hsn;rw [hsn] at hhas;clear hsn
      go_wp2_with (first
       | (at_lookup;refine wpList_lookup_own_unit _ rfl _ _ 62 rfl 9 87 keyLaw Try.underlying62 (zeroUnit _) w.heap.size k _ rfl hown _ _ rfl hkey ?_)
       | (at_mapUpdate;refine wpList_mapUpdate_own _ rfl _ _ _ 62 rfl 9 87 keyLaw Try.underlying62 (unitElem (H:=Unit)) w.heap.size k _ rfl (hown.alloc _) hkk _ _ _ rfl rfl hkey _ [] unitElem_mk ?_;intro w1 hown1 hgrow1))
      have HW:=Hd hown1;have HG:=Hd hgrow1;have s1:=hgrow1.size
      simp at s1
      clear hown1 hgrow1
      go_roundw
      case rel=>
       refine⟨k+1,by omega,by go_num,?_,?_,by omega,onceTo_succ HO.out HKK.out HSN.out⟩
       · rw [HS.out];exact HW.out
       · exact(hnx.alloc hnx.size _).grown HG.out (by simp;omega) (fun j hj=>by cases hj;exact Nat.le_refl _)
      case measure=>simp [intOf];omega
  · go_wp2_with fail
    go_ret
    exact⟨ret_bool (onceTo_end HO.out (by rw [HL.out];omega)).symm,hnx⟩
end
section
open Go.RowKit
end
section
open Go.RowKit
section
variable {c:UInt8}{s:ByteArray}{ss:List ByteArray}{f i:Nat}
end
theorem infoString:(Try.prog.info? 9).map (fun i=>(i.zero,i.size,i.bytes))=some (some (.string ByteArray.empty),1,16):=by kernel_rfl
theorem string_cells(l:List ByteArray):∀ u∈l.map Value.string,u.oneCell'=true:=by
 intro u hu;simp only [List.mem_map] at hu;obtain⟨z,_,rfl⟩:=hu;rfl
end
section
open Go.RowKit
section
variable {s:ByteArray}{ss:List ByteArray}{k:Nat}
end
section
variable {x:ByteArray}{ps:List ByteArray}{m:Nat}
end
end
section
open Go.RowKit Go.Sort
def literalX(x:Ex):Bool:=if x.k==5 then(x.op==1) && (x.subs.length==1) && ((subX x 0).k==1) else(x.k==1) || (x.k==2) || (x.k==4)
def constX(x:Ex):Bool:=if x.k==14 then x.subs.all literalX else literalX x
theorem int_len(n:Nat):((n:Int)==1)=(n==1):=by rw [Bool.eq_iff_iff];simp;omega
def numbersX(x:Ex):Bool:=
 if x.op<(if x.k==6 then 3 else if x.k==5 then 1 else 0)∨(if x.k==6 then 16 else if x.k==5 then 2 else 0)<x.op then false
 else if x.k==1 then decide (0≤x.n) else if(x.k==2 || x.k==13) then(x.n==0 || x.n==1) else x.n==0
end
section
open Go.RowKit Go.Sort
def armB(t:ByteArray):Bool:=highB t.data.toList || (t.toList==[116,114,117,101]) || (t.toList==[102,97,108,115,101])
def armsX(x:Ex):Bool:=x.arms.all armB && (if x.k==11 then x.arms.length==1 else if x.k==12 then decide (1≤x.arms.length) && decide (x.arms.length≤6) && onceS x.arms else x.arms.length==0)
def namedX(x:Ex):Bool:=if x.k==3 || x.k==11 || x.k==12 || x.k==13 then lowB x.s.data.toList else if x.k==4 then highB x.s.data.toList else if x.k==17 then pathB x.s.data.toList else x.s.toList==[]
def subsX(x:Ex):Int × Int:=
 if x.k==5 || x.k==10 || x.k==11 then(1,1) else if x.k==6 || x.k==8 || x.k==9 || x.k==15 then(2,2) else if x.k==7 || x.k==16 then(3,3)
 else if x.k==12 then(x.arms.length,x.arms.length) else if x.k==13 then(x.n,6+x.n) else if x.k==14 then(1,8) else(0,0)
end
section
open Go.RowKit Go.Sort
def ShortP(p:Ex):Prop:=p.s.size≤1000∧(∀ t∈p.arms,t.size≤9223372036854775807)∧p.arms.length≤100
theorem ShortP.of_few{p:Ex}(h:fewP p=true):ShortP p:=by
 simp only [fewP,Bool.and_eq_true,Bool.not_eq_true',decide_eq_false_iff_not,List.all_eq_true] at h;obtain⟨⟨h1,h2⟩,h3⟩:=h;refine⟨by omega,fun t ht=>?_,by omega⟩;have:=h3 t ht;simp only [fewA,Bool.not_eq_true',decide_eq_false_iff_not] at this;omega
def partX(x:Ex):Bool:=decide (1≤x.k) && decide (x.k≤17) && numbersX x && namedX x && armsX x && decide ((subsX x).1≤x.subs.length) && decide ((x.subs.length:Int)≤(subsX x).2) && ((x.k != 8) || constX (subX x 0))
def rightX(x:Ex):Bool:=!decide (60<sizeX x) && !decide (12<depthX x) && (partsX x).all partX
end
section
open Go.RowKit Go.Shelf
attribute [local go_sem] Oper.semAt_some
theorem roundAnyDepth{F:Fence}(hd:F.depth=none){m m':Nat}{P:Program}{l:Nat}{f:FuncId}{tmps:Array Value}{assign body:Code}{w:World}{R:Ending→World→Prop}
 (h:RoundIn F m P l f tmps assign body w R):RoundIn F m' P l f tmps assign body w R:=⟨h.1,fun c cs _=>h.2 c cs (fun d h=>by rw [hd] at h;cases h)⟩
theorem yieldAnyDepth{F:Fence}(hd:F.depth=none){m:Nat}(m':Nat){P:Program}{l:Nat}{args:Array Value}{W:World}{R:Ending→World→Prop}(h:YieldAt F m P l args W R):YieldAt F m' P l args W R:=by
 obtain⟨fn,tmps,assign,body,hy,hR⟩:=h;exact⟨fn,tmps,assign,body,hy,roundAnyDepth hd hR⟩
theorem grownBy_of_below'{W W':World}(h:Below W.heap.size W W'):W.grownBy W' none:=⟨h.os,h.tape,h.output,h.size,fun i hi _=>h.block i hi⟩
structure Pt where
 x:Ex
 A:Option Addr
 ca:Nat
 B:Option Addr
 cb:Nat
def encP(p:Pt):Array Value:=#[.agg (exA p.x p.A p.ca p.B p.cb)]
abbrev PtIn (w0:World) (e:Ex):={ p:Pt // rdX w0 p.x p.A p.B∧p.x∈partsX e }
def exs{w0:World}{e:Ex}(l:List (PtIn w0 e)):List Ex:=l.map fun p=>p.1.x
theorem exs_app{w0:World}{e:Ex}(a b:List (PtIn w0 e)):exs (a++b)=exs a++exs b:=by simp [exs]
theorem exs_len{w0:World}{e:Ex}(a:List (PtIn w0 e)):(exs a).length=a.length:=by simp [exs]
def KeepsE(W W':World):Prop:=∀ (k:Nat) (cs:Array Value) (h:Nat × Nat),W.heap[k]?=some (Obj.cells cs 50 h)→W'.heap[k]?=some (Obj.cells cs 50 h)
theorem KeepsE.refl(W:World):KeepsE W W:=fun _ _ _ h=>h
theorem KeepsE.trans{A B C:World}(h:KeepsE A B) (k:KeepsE B C):KeepsE A C:=fun i cs t e=>k i cs t (h i cs t e)
theorem memPartssI:∀ {l:List Ex}{i:Nat}{q:Ex},i<l.length→q∈partsX (l[i]?.getD default)→q∈partssX l
 | [],i,q,h,_=>absurd h (by simp)
 | x::l,0,q,_,hq=>by
  simp only [List.getElem?_cons_zero,Option.getD_some] at hq;simp only [partssX];exact List.mem_append_left _ hq
 | x::l,i+1,q,h,hq=>by
  simp only [List.getElem?_cons_succ] at hq;simp only [partssX];exact List.mem_append_right _ (memPartssI (by simpa using h) hq)
theorem KeepsE.of_below{W W':World}(h:Below W.heap.size W W'):KeepsE W W':=fun k cs t e=>(h.block k (Array.getElem?_eq_some_iff.1 e).1).trans e
theorem KeepsE.cell{W W':World}(h:KeepsE W W'){k:Nat}{cs:Array Value}(e:W.heap[k]?=some (Obj.cells cs 50)) (j:Nat):W'.cell? ⟨k,j,none⟩=W.cell? ⟨k,j,none⟩ :=
 World.cell?_of_block (a:=⟨k,j,none⟩) ((h k cs _ e).trans e.symm)
def KpE(n:Nat) (W W':World):Prop:=Below n W W'∧KeepsE W W'
theorem KpE.refl(n:Nat) (W:World):KpE n W W:=⟨Below.refl _ _,KeepsE.refl _⟩
theorem KpE.trans{n:Nat}{A B C:World}(h:KpE n A B) (k:KpE n B C):KpE n A C:=⟨h.1.trans k.1,h.2.trans k.2⟩
theorem KpE.of_below{n:Nat}{W W':World}(h:Below W.heap.size W W') (hn:n≤W.heap.size):KpE n W W':=⟨h.mono hn,KeepsE.of_below h⟩
theorem kpE_b{n₀:Nat}{w:World}(hn:n₀≤w.heap.size) (W:World) (l:Nat) (o o':Obj) (hl:w.heap.size≤l) (h:W.heap[l]?=some o) (hc:o.isCells=false) (hw:o.isWalk=false):KpE n₀ W (W.putObj l o'):=
 ⟨belowK_b hn W l o o' hl h hc hw,fun k cs t e=>by
  refine(World.putObj_heap_other (fun e'=>?_)).trans e;subst e';rw [h] at e;injection e with e;subst e
  cases hc⟩
theorem each_in(l N D:Nat) (e0:Ex) (w0:World) (J Jx:List (PtIn w0 e0)→World→Prop) (hJ:AbidesFrom D J)
 (hY:∀ m pre (x:PtIn w0 e0) W,J pre W→pre.length<N→YieldAt Fence.wide m Try.prog l (encP x.1) W fun e W' =>
  (e=.returned (.bool true)∧J (pre++[x]) W'∧KpE w0.heap.size W W')∨(e=.returned (.bool false)∧Jx (pre++[x]) W')):
 ∀ (x:Ex) (A:Option Addr) (ca:Nat) (B:Option Addr) (cb n:Nat) (pre:List (PtIn w0 e0)) (W:World),rdX w0 x A B→(∀ q∈partsX x,q∈partsX e0)→Below w0.heap.size w0 W→J pre W→pre.length+sizeX x≤N →
  CallsIn Fence.wide n Try.prog 73 #[.agg (exA x A ca B cb),.func (.yield l) #[] #[]] W fun e W' =>
   (e=.returned (.bool true)∧∃ ps:List (PtIn w0 e0),exs ps=partsX x∧J (pre++ps) W'∧KpE w0.heap.size W W')∨(e=.returned (.bool false)∧∃ ps:List (PtIn w0 e0),exs ps <+: partsX x∧Jx (pre++ps) W'):=by
 refine size_ind fun x ih A ca B cb n pre W hr hin hb0 hJ0 hN=>?_;have hJB:∀ pre W W',Below W.heap.size W W'→J pre W→J pre W':=fun pre W W' h hj=>hJ _ _ _ none hj (grownBy_of_below' h) (fun r e=>by cases e);have hsx:=sizeX_eq x;have hmx:=hr.subs.max;have hpx:=partsX_eq x;have HIH:=Hd ih;have HIN:=Hd hin;have HB0:=Hd hb0;have HR0:=Hd hr;have HJB:=Hd hJB;have HPX:=Hd hpx;have hmem:x∈partsX e0:=hin x (by rw [hpx];exact List.mem_cons_self);have HSUBS:=Hd fun k (hk:k<x.subs.length) (q:Ex) (hq:q∈partsX (subX x k))=>hin q (by rw [hpx];exact List.mem_cons_of_mem _ (memPartssI hk hq));have HSN:=Hd fun i (hi:i<x.subs.length)=>sizes_snoc hi;have HPN:=Hd fun i (hi:i<x.subs.length)=>partss_snoc hi;have HLE:=Hd fun i=>sizes_take x.subs i;have HTL:=Hd (List.take_length (l:=x.subs));have HTP:=Hd fun k=>(show partssX (x.subs.take k) <+: partssX x.subs from⟨partssX (x.subs.drop k),by rw [← partssX_app,List.take_append_drop]⟩);have hbA:Below W.heap.size W (W.alloc (.cells (exA x A ca B cb) 50)):=(Below.refl _ _).alloc (Nat.le_refl _) _;have hblk:(W.alloc (.cells (exA x A ca B cb) 50)).heap[W.heap.size]?=some (.cells (exA x A ca B cb) 50):=World.alloc_heap_new _ _;obtain⟨xp,hxp⟩:∃ xp:PtIn w0 e0,xp.1=⟨x,A,ca,B,cb⟩:=⟨⟨_,hr,hmem⟩,rfl⟩;have hxx:exs [xp]=[x]:=by simp [exs,hxp]
 have HXX:=Hd hxx;obtain⟨fn,tmps,assign,body,hy,hR⟩:=hY (n-1) pre xp _ (hJB _ _ _ hbA hJ0) (by have:=size_pos x;omega);obtain⟨_,_,_,hcell⟩:=box_facts W x A ca B cb _ rfl (hr.below hb0);obtain⟨q0,q1,q2,q3,q4,q5⟩:=Sx (hcell _ (Below.refl _ _));have HBK:=Hd hblk;have HBA:=Hd hbA;have HJ0:=Hd hJ0;clear hJ0 hr hin hb0 ih hpx hmem hcell hblk hbA hJB hY hxx;rw [hxp] at hy
 dsimp only [encP] at hy
 unfold exA at hy q0 q1 q2 q3 q4 q5 HBK HBA HIH;have HR:=Hd hR;clear hR;unfold exA at HR ⊢;clear hxp;generalize hlen:x.subs.length=len at *;refine callsIn_of_wp Try.func73 rfl trivial ?_ rfl;simp only [Try.ntmps73,List.size_toArray,List.length_cons,List.length_nil,Nat.reduceAdd,Nat.reduceSub,Array.replicate_succ,Array.replicate_zero,List.push_toArray,List.append_toArray,List.nil_append,List.cons_append]
 gi_wp2_with fail
 refine⟨fun h=>(by cases h),HR.out.mono ?_⟩;rintro e W3 (⟨rfl,hJ3,hk3⟩|⟨rfl,hJx3⟩)
 · have HJ3:=Hd hJ3;have HK3:=Hd (show KpE w0.heap.size W W3 from⟨(HBA.out.mono HB0.out.size).trans hk3.1,(KeepsE.of_below HBA.out).trans hk3.2⟩);have r5:=(hk3.2.cell HBK.out 5).trans q5;clear q0 q1 q2 q3 q4 q5 hJ3 hk3 hy
   gi_wp2_with fail
   gi_loopw [14] (fun i wr=>∃ (k:Nat) (ps:List (PtIn w0 e0)),k≤len∧i=.int .i64 k∧exs ps=x::partssX (x.subs.take k)∧J (pre++ps) wr∧KpE w0.heap.size W wr) (fun i _=>len-(intOf i).toNat)
   case atStart=>exact⟨0,[xp],Nat.zero_le _,rfl,by rw [HXX.out];simp [partssX],HJ3.out,HK3.out⟩
   case round=>
    obtain⟨k,ps,hk,rfl,hps,hJk,hkp⟩:=hrel;have HPS:=Hd hps;have HJK:=Hd hJk;have HKP:=Hd hkp;have HBW:=Hd (HB0.out.trans hkp.1);have hpl:ps.length=1+sizesX (x.subs.take k):=by rw [← exs_len,hps,List.length_cons,partssX_len];omega
    have hle:=HLE.out k;clear hps hJk hkp
    by_cases hlt:k<len
    · obtain⟨b,off,rfl,hb,hat⟩:=HR0.out.sub (i:=k) (by omega);obtain⟨A',ca',B',cb',hrg,hrd⟩:=hat k (by omega);obtain⟨c0,c1,c2,c3,c4,c5⟩:=rangeAt_six (rangeAt_keep hrg hb fun p hp=>HBW.out.cell hp);obtain⟨hbE,_,_,hcE⟩:=box_facts wr (subX x k) A' ca' B' cb' _ rfl (hrd.below HBW.out);have HBE:=Hd hbE;obtain⟨d0,d1,d2,d3,d4,d5⟩:=Sx (hcE _ (Below.refl _ _));have hsn:=HSN.out k (by omega);have hle2:=HLE.out (k+1);have HPNK:=Hd (HPN.out k (by omega));have hBWE:=HBW.out.trans (hbE.mono HBW.out.size);have HCL:=Hd (HIH.out k (by omega) A' ca' B' cb' (n-1) (pre++ps) _ hrd (HSUBS.out k (by omega)) hBWE (HJB.out _ _ _ hbE HJK.out) (by simp;omega));clear hat hrg hrd hbE hcE hBWE;unfold exA at HCL HBE d0 d1 d2 d3 d4 d5;generalize subX x k=y at *
      gi_wp2_with fail
      refine⟨trivial,fun h=>(by cases h),(HCL.out).mono ?_⟩;rintro e W4 (⟨rfl,qs,hqs,hJ4,hk4⟩|⟨rfl,qs,hqs,hJx4⟩)
      · have HQS:=Hd hqs;have HJ4:=Hd hJ4;have HK4:=Hd (show KpE w0.heap.size W W4 from HKP.out.trans (((KpE.of_below HBE.out HBW.out.size)).trans hk4));clear hqs hJ4 hk4
        gi_wp2_with fail
        go_roundw
        case rel=>exact⟨k+1,ps++qs,by omega,by go_num,by rw [exs_app,HPS.out,HQS.out,HPNK.out];rfl,by rw [← List.append_assoc];exact HJ4.out,HK4.out⟩
        case measure=>simp [intOf];omega
      · have HQS:=Hd hqs;have HJ4:=Hd hJx4;have HTK:=Hd (HTP.out (k+1));clear hqs hJx4
        gi_wp2_with fail
        go_ret
        refine .inr ⟨rfl,ps++qs,?_,by rw [← List.append_assoc];exact HJ4.out⟩;rw [exs_app,HPS.out,HPX.out,List.cons_append];refine(List.prefix_cons_inj _).2 (List.IsPrefix.trans ?_ HTK.out);rw [HPNK.out];exact(List.prefix_append_right_inj _).2 HQS.out
    · have hkl:k=len:=by omega
      subst hkl;have HE:=Hd (hlen ▸ HTL.out:x.subs.take k=x.subs)
      gi_wp2_with fail
      go_ret
      refine .inl ⟨rfl,ps,?_,HJK.out,HKP.out⟩;rw [HPS.out,HE.out,HPX.out]
 · have HJ3:=Hd hJx3;clear hJx3
   gi_wp2_with fail
   go_ret
   refine .inr ⟨rfl,[xp],?_,HJ3.out⟩;rw [HXX.out,HPX.out];exact⟨_,rfl⟩
theorem each_stops(n Bs:Nat) (x:Ex) (A:Option Addr) (ca:Nat) (B:Option Addr) (cb:Nat) (w0 w:World) (hr:rdX w0 x A B) (hb:Below w0.heap.size w0 w) (hbx:w.heap[Bs]?=some (Obj.cells (exA x A ca B cb) 50)):
 SeqStopsK Fence.wide n Try.prog 72 #[.pointer (some ⟨Bs,0,none⟩)] (fun p:PtIn w0 x=>encP p.1) (KpE w0.heap.size) (fun ys=>exs ys=partsX x) (fun pre=>exs pre <+: partsX x) (sizeX x) w:=fun l J Jx W hW hJ _ hY h0=>by
 have hbl:=(Array.getElem?_eq_some_iff.1 hbx).1;have hblk:=(hW.block Bs hbl).trans hbx;have HCL:=Hd (each_in l (sizeX x) W.heap.size x w0 J Jx hJ (fun m pre p W1 hj hl=>yieldAnyDepth rfl m (hY pre p W1 hj hl)) x A ca B cb (n-1) [] W hr (fun q hq=>hq) (hb.trans (hW.mono hb.size)) h0 (by simp));have hcell:∀ j,W.cell? ⟨Bs,j,none⟩=(exA x A ca B cb)[j]?:=fun j=>by simp [World.cell?,hblk]
 obtain⟨q0,q1,q2,q3,q4,q5⟩:=Sx hcell;clear hcell hbx hblk hY hr hW hJ h0;unfold exA at HCL q0 q1 q2 q3 q4 q5;refine callsIn_of_wp Try.func72 rfl trivial ?_ rfl;simp only [Try.ntmps72,List.size_toArray,List.length_cons,List.length_nil,Nat.reduceAdd,Nat.reduceSub,Array.replicate_succ,Array.replicate_zero,List.push_toArray,List.append_toArray,List.nil_append,List.cons_append]
 gi_wp2_with fail
 refine⟨trivial,fun h=>(by cases h),(HCL.out).mono ?_⟩;rintro e W4 (⟨rfl,qs,hqs,hJ4,hk4⟩|⟨rfl,qs,hqs,hJx4⟩)
 · have HQS:=Hd hqs;have HJ4:=Hd hJ4;clear hqs hJ4 hk4
   gi_wp2_with fail
   go_end0
   exact⟨⟨_,rfl⟩,.inl ⟨qs,HQS.out,HJ4.out⟩⟩
 · have HQS:=Hd hqs;have HJ4:=Hd hJx4;clear hqs hJx4
   gi_wp2_with fail
   go_end0
   exact⟨⟨_,rfl⟩,.inr ⟨qs,HQS.out,HJ4.out⟩⟩
end
section
open Go.RowKit Go.Shelf
attribute [local go_sem] Oper.semAt_some
theorem exEach(x:Ex) (A:Option Addr) (ca:Nat) (B:Option Addr) (cb:Nat) (w:World) (hr:rdX w x A B):
 Calls Try.prog 61 #[.agg (exA x A ca B cb)] w fun r w'=>r=.returned (.func (.func 72) #[] #[.pointer (some ⟨w.heap.size,0,none⟩)])∧w'=w.alloc (Obj.cells (exA x A ca B cb) 50):=by
 have hmk:∀ fn first cap w,(Instr.makeFunc fn first cap).run Try.prog w=.ok (.func fn first cap) w:=fun _ _ _ _=>rfl
 clear hr;unfold exA
 go_enter Try.func61,Try.ntmps61
 go_wp2_with fail
 go_ret
 exact⟨rfl,rfl⟩
theorem KeepsE.setCell{W:World}{B:Nat}{t:TypeId}{v:Value}(h:Boxed W B t v) (ht:t≠50) (u:Value):KeepsE W (W.setCell ⟨B,0,none⟩ u):=fun k cs hh e=>by
 have hne:some k≠some B:=by
  intro e';injection e' with e';subst e';rw [show W.heap[k]?=_ from h] at e;injection e with e;injection e with _ e;exact ht e
 have hk:=(Array.getElem?_eq_some_iff.1 e).1;exact((grownBy_setCell' W B u).block k hk hne).trans e
end
section
open Go.RowKit Go.Sort
theorem box2_facts(w:World) (x y:Ex) (A A':Option Addr) (ca ca':Nat) (B B':Option Addr) (cb cb':Nat) (w1:World) (h:(w.alloc (.cells (exA x A ca B cb) 50)).alloc (.cells (exA y A' ca' B' cb') 50)=w1) (hr:rdX w x A B) (hr':rdX w y A' B'):
 Below w.heap.size w w1∧w.heap.size+1<w1.heap.size∧rdX w1 x A B∧rdX w1 y A' B'∧(∀ w',Below w1.heap.size w1 w'→∀ j,w'.cell? ⟨w.heap.size,j,none⟩=(exA x A ca B cb)[j]?)∧∀ w',Below w1.heap.size w1 w'→∀ j,w'.cell? ⟨w.heap.size+1,j,none⟩=(exA y A' ca' B' cb')[j]?:=by
 subst h;refine⟨((Below.refl _ _).alloc (Nat.le_refl _) _).alloc (by simp) _,by simp,(hr.alloc _).alloc _,(hr'.alloc _).alloc _,fun w' hb j=>?_,fun w' hb j=>?_⟩
 · rw [hb.cell (p:=⟨w.heap.size,j,none⟩) (by simp;omega),World.cell?_alloc_lt _ _ _ (by simp),World.cell?_alloc_new]
 · rw [hb.cell (p:=⟨w.heap.size+1,j,none⟩) (by simp)];have:=World.cell?_alloc_new (w.alloc (.cells (exA x A ca B cb) 50)) (exA y A' ca' B' cb') 50 j;rwa [World.size_alloc] at this
end
section
open Go.RowKit Go.Sort
theorem exSingle(x:Ex) (A:Option Addr) (ca:Nat) (B:Option Addr) (cb:Nat) (w:World) (hr:rdX w x A B):
 Calls Try.prog 89 #[.agg (exA x A ca B cb)] w fun e w'=>e=.returned (.bool (literalX x))∧Below w.heap.size w w':=by
 have HF:=Hd fun w1 h=>box_facts w x A ca B cb w1 h hr;have HS:=Hd (show literalX x=if x.k==5 then(x.op==1) && (x.subs.length==1) && ((subX x 0).k==1) else(x.k==1) || (x.k==2) || (x.k==4) from rfl);have hmx:=hr.subs.max;clear hr;unfold exA at HF ⊢;generalize literalX x=res at *;generalize x.k=k at *;generalize x.op=o at *;generalize hlen:x.subs.length=n at *;have hln:=int_len n
 by_cases h1:k=1
 · subst h1;have HN:=Hd (show res=true by rw [HS.out];rfl)
   go_enter Try.func89,Try.ntmps89
   go_upto_region 1 with(fail)
   generalize hw1:w.alloc _=w1;obtain⟨hb1,hg,hr1,hcell⟩:=HF.out w1 hw1;have HB1:=Hd hb1;have q0:=hcell w1 (Below.refl _ _) 0;clear hcell hb1 hr1 hw1 HF
   go_wp2_with fail
   go_ret
   exact⟨ret_bool HN.out.symm,HB1.out⟩
 by_cases h2:k=2
 · subst h2;have HN:=Hd (show res=true by rw [HS.out];rfl)
   go_enter Try.func89,Try.ntmps89
   go_upto_region 1 with(fail)
   generalize hw1:w.alloc _=w1;obtain⟨hb1,hg,hr1,hcell⟩:=HF.out w1 hw1;have HB1:=Hd hb1;have q0:=hcell w1 (Below.refl _ _) 0;clear hcell hb1 hr1 hw1 HF
   go_wp2_with fail
   go_ret
   exact⟨ret_bool HN.out.symm,HB1.out⟩
 by_cases h4:k=4
 · subst h4;have HN:=Hd (show res=true by rw [HS.out];rfl)
   go_enter Try.func89,Try.ntmps89
   go_upto_region 1 with(fail)
   generalize hw1:w.alloc _=w1;obtain⟨hb1,hg,hr1,hcell⟩:=HF.out w1 hw1;have HB1:=Hd hb1;have q0:=hcell w1 (Below.refl _ _) 0;clear hcell hb1 hr1 hw1 HF
   go_wp2_with fail
   go_ret
   exact⟨ret_bool HN.out.symm,HB1.out⟩
 by_cases h5:k=5
 · subst h5
   cases ho:(o==1) with
   | false=>
    have HN:=Hd (show res=false by rw [HS.out,ho];rfl)
    go_enter Try.func89,Try.ntmps89
    go_upto_region 1 with(fail)
    generalize hw1:w.alloc _=w1;obtain⟨hb1,hg,hr1,hcell⟩:=HF.out w1 hw1;have HB1:=Hd hb1;obtain⟨q0,-,-,q3,-,q5⟩:=Sx (hcell w1 (Below.refl _ _));clear hcell hb1 hr1 hw1 HF
    go_wp2_with fail
    go_ret
    exact⟨ret_bool HN.out.symm,HB1.out⟩
   | true=>
    cases hl:(n==1) with
    | false=>
     have HN:=Hd (show res=false by rw [HS.out,ho,hl];rfl);rw [hl] at hln
     go_enter Try.func89,Try.ntmps89
     go_upto_region 1 with(fail)
     generalize hw1:w.alloc _=w1;obtain⟨hb1,hg,hr1,hcell⟩:=HF.out w1 hw1;have HB1:=Hd hb1;obtain⟨q0,-,-,q3,-,q5⟩:=Sx (hcell w1 (Below.refl _ _));clear hcell hb1 hr1 hw1 HF
     go_wp2_with fail
     go_ret
     exact⟨ret_bool HN.out.symm,HB1.out⟩
    | true=>
     have HN:=Hd (show res=((subX x 0).k==1) by rw [HS.out,ho,hl];rfl);rw [hl] at hln;obtain rfl:n=1:=by simpa using hl
     go_enter Try.func89,Try.ntmps89
     go_upto_region 1 with(fail)
     generalize hw1:w.alloc _=w1;obtain⟨hb1,hg,hr1,hcell⟩:=HF.out w1 hw1;have HB1:=Hd hb1;obtain⟨q0,-,-,q3,-,q5⟩:=Sx (hcell w1 (Below.refl _ _));obtain⟨b,off,rfl,hb,hat⟩:=hr1.sub (i:=0) (by omega);obtain⟨A',ca',B',cb',hrg,hrd⟩:=hat 0 (by omega);rw [Nat.zero_mul,Nat.add_zero] at hrg;obtain⟨c0,c1,c2,c3,c4,c5⟩:=rangeAt_six hrg;clear hat hrg hrd c1 c2 c3 c4 c5;clear hcell hb1 hr1 hw1 HF;generalize (subX x 0).k=z at *
     go_wp2_with fail
     go_ret
     exact⟨ret_bool HN.out.symm,HB1.out⟩
 have e1:(k==1)=false:=by simpa using h1
 have e2:(k==2)=false:=by simpa using h2
 have e4:(k==4)=false:=by simpa using h4
 have e5:(k==5)=false:=by simpa using h5
 have HN:=Hd (show res=false by rw [HS.out,e5,e1,e2,e4];rfl)
 go_enter Try.func89,Try.ntmps89
 go_upto_region 1 with(fail)
 generalize hw1:w.alloc _=w1;obtain⟨hb1,hg,hr1,hcell⟩:=HF.out w1 hw1;have HB1:=Hd hb1;have q0:=hcell w1 (Below.refl _ _) 0;clear hcell hb1 hr1 hw1 HF
 go_wp2_with fail
 go_ret
 exact⟨ret_bool HN.out.symm,HB1.out⟩
theorem exConst(x:Ex) (A:Option Addr) (ca:Nat) (B:Option Addr) (cb:Nat) (w:World) (hr:rdX w x A B):
 Calls Try.prog 84 #[.agg (exA x A ca B cb)] w fun e w'=>e=.returned (.bool (constX x))∧Below w.heap.size w w':=by
 have HF:=Hd fun w1 h=>box_facts w x A ca B cb w1 h hr;have HS:=Hd (show constX x=if x.k==14 then x.subs.all literalX else literalX x from rfl);have hmx:=hr.subs.max;have HLT:=Hd fun(x:Ex) (A:Option Addr) (ca:Nat) (B:Option Addr) (cb:Nat) (w:World) (hr:rdX w x A B)=>exSingle x A ca B cb w hr;have HBX:=Hd fun(x:Ex) (A:Option Addr) (ca:Nat) (B:Option Addr) (cb:Nat) (w w1:World) (h:_) (hr:rdX w x A B)=>box_facts w x A ca B cb w1 h hr;have HAL:=Hd fun i (hi:i<x.subs.length) (h:literalX (subX x i)=false)=>all_false (f:=literalX) hi h;have HAS:=Hd fun k (hk:k<x.subs.length) h (hx:literalX (subX x k)=true)=>all_take_succ (f:=literalX) hk h hx;have HAE:=Hd fun k h (hk:x.subs.length≤k)=>all_take_end (l:=x.subs) (f:=literalX) (k:=k) h hk;have HLX:=Hd fun w1 (h:rdX w1 x A B)=>exSingle x A ca B cb w1 h;clear hr;unfold exA at HF HLT HLX HBX ⊢;generalize constX x=res at *;generalize literalX x=lx at *;generalize x.k=k at *;generalize hlen:x.subs.length=n at *
 cases h14:(k==14) with
 | false=>
  have n14:(k != 14)=true:=by rw [bne,h14];rfl
  have HN:=Hd (show res=lx by rw [HS.out,h14];rfl)
  go_enter Try.func84,Try.ntmps84
  go_upto_region 1 with(fail)
  generalize hw1:w.alloc _=w1;obtain⟨hb1,hg,hr1,hcell⟩:=HF.out w1 hw1;have HB1:=Hd hb1;obtain⟨q0,q1,q2,q3,q4,q5⟩:=Sx (hcell w1 (Below.refl _ _));have HL1:=Hd (HLX.out w1 hr1);clear hcell hb1 hr1 hw1 HF
  go_wp2_with fail
  refine HL1.out.mono ?_;rintro r w2 ⟨rfl,hb2⟩;have HB2:=Hd (HB1.out.trans (hb2.mono HB1.out.size));clear hb2
  go_wp2_with fail
  go_ret
  exact⟨ret_bool HN.out.symm,HB2.out⟩
 | true=>
  obtain rfl:k=14:=by simpa using h14
  have HN:=Hd (show res=x.subs.all literalX by rw [HS.out];rfl)
  go_enter Try.func84,Try.ntmps84
  go_upto_region 1 with(fail)
  generalize hw1:w.alloc _=w1;obtain⟨hb1,hg,hr1,hcell⟩:=HF.out w1 hw1;have HB1:=Hd hb1;have q0:=hcell w1 (Below.refl _ _) 0;have q5:=hcell w1 (Below.refl _ _) 5;have HC:=Hd hcell;have HR1:=Hd hr1;clear hcell hb1 hr1 hw1 HF
  go_wp2_with fail
  go_loopw [13] (fun i wr=>∃ k:Nat,k≤n∧i=.int .i64 k∧(x.subs.take k).all literalX=true∧Below w1.heap.size w1 wr) (fun i _=>n-(intOf i).toNat)
  case atStart=>exact⟨0,Nat.zero_le _,rfl,by simp,Below.refl _ _⟩
  case round=>
   obtain⟨k,hk,rfl,hall,hbw⟩:=hrel;have HA:=Hd hall;have HBW:=Hd hbw;clear hall
   by_cases hlt:k<n
   · obtain⟨b,off,rfl,hb,hat⟩:=(HR1.out.below hbw).sub (i:=k) (by omega);obtain⟨A',ca',B',cb',hrg,hrd⟩:=hat k (by omega);obtain⟨c0,c1,c2,c3,c4,c5⟩:=rangeAt_six hrg;have HF3:=Hd fun w3 h=>HBX.out (subX x k) A' ca' B' cb' wr w3 h hrd;have HAL':=Hd (HAL.out k (by omega));have HAS':=Hd (HAS.out k (by omega) HA.out);clear hat hbw hrg hrd
     go_upto_region 6 with(fail)
     generalize hw3:wr.alloc _=w3;obtain⟨hb3,hg3,hr3,hcell3⟩:=HF3.out w3 hw3;obtain⟨d0,d1,d2,d3,d4,d5⟩:=Sx (hcell3 w3 (Below.refl _ _));have HCL:=Hd (HLT.out (subX x k) A' ca' B' cb' w3 hr3);have HB3:=Hd (HBW.out.trans (hb3.mono HBW.out.size));clear hcell3 hb3 hr3 hw3 HF3
     cases hl:literalX (subX x k) with
     | false=>
      rw [hl] at HCL;have HF':=Hd (HAL'.out hl)
      go_wp2_with fail
      refine HCL.out.mono ?_;rintro r w2 ⟨rfl,hb2⟩;have HB2:=Hd (HB3.out.trans (hb2.mono HB3.out.size));clear hb2
      go_wp2_with fail
      go_ret
      exact⟨ret_bool (by rw [HN.out,HF'.out]),HB1.out.trans (HB2.out.mono HB1.out.size)⟩
     | true=>
      rw [hl] at HCL;have HF':=Hd (HAS'.out hl)
      go_wp2_with fail
      refine HCL.out.mono ?_;rintro r w2 ⟨rfl,hb2⟩;have HB2:=Hd (HB3.out.trans (hb2.mono HB3.out.size));clear hb2
      go_wp2_with fail
      go_roundw
      case rel=>exact⟨k+1,by omega,by go_num,HF'.out,HB2.out⟩
      case measure=>simp [intOf];omega
   · have HE:=Hd (HAE.out k HA.out (by omega))
     go_wp2_with fail
     go_ret
     exact⟨ret_bool (by rw [HN.out,HE.out]),HB1.out.trans (HBW.out.mono HB1.out.size)⟩
theorem exDepth:∀ (x:Ex) (A:Option Addr) (ca:Nat) (B:Option Addr) (cb:Nat) (w:World),rdX w x A B→sizeX x≤1000000 →
 Calls Try.prog 78 #[.agg (exA x A ca B cb)] w fun e w'=>e=.returned (.int .i64 (depthX x:Nat))∧Below w.heap.size w w':=by
 refine size_ind fun x ih A ca B cb w hr hs=>?_;have HIH:=Hd ih;have HSZ:=Hd (depthX_eq x);have hds:=depth_size x;have hsz:=depthX_eq x;have hmx:=hr.subs.max;have HF:=Hd fun w1 h=>box_facts w x A ca B cb w1 h hr;have HBX:=Hd fun(x:Ex) (A:Option Addr) (ca:Nat) (B:Option Addr) (cb:Nat) (w w1:World) (h:_) (hr:rdX w x A B)=>box_facts w x A ca B cb w1 h hr;have HSN:=Hd fun i (hi:i<x.subs.length)=>depths_snoc hi;have HSUB:=Hd fun i (hi:i<x.subs.length)=>(size_sub (subX_mem hi));have HTL:=Hd (List.take_length (l:=x.subs));clear ih hr;unfold exA at HF HIH HBX ⊢;generalize hlen:x.subs.length=len at *
 go_enter Try.func78,Try.ntmps78
 go_upto_region 1 with(fail)
 generalize hw1:w.alloc _=w1;obtain⟨hb1,hg,hr1,hcell⟩:=HF.out w1 hw1;have HB1:=Hd hb1;have q5:=hcell w1 (Below.refl _ _) 5;have HR1:=Hd hr1;clear hcell hb1 hr1 hw1 HF
 go_wp2_with fail
 go_loopw [3,9] (fun s i wr=>∃ k:Nat,k≤len∧i=.int .i64 k∧s=.int .i64 ((depthsX (x.subs.take k):Nat):Int)∧Below w1.heap.size w1 wr) (fun _ i _=>len-(intOf i).toNat)
 case atStart=>exact⟨0,Nat.zero_le _,rfl,by simp [depthsX],Below.refl _ _⟩
 case round=>
  obtain⟨k,hk,rfl,rfl,hbw⟩:=hrel;have HBW:=Hd hbw
  by_cases hlt:k<len
  · obtain⟨b,off,rfl,hb,hat⟩:=(HR1.out.below hbw).sub (i:=k) (by omega);obtain⟨A',ca',B',cb',hrg,hrd⟩:=hat k (by omega);obtain⟨c0,c1,c2,c3,c4,c5⟩:=rangeAt_six hrg;have HF3:=Hd fun w3 h=>HBX.out (subX x k) A' ca' B' cb' wr w3 h hrd;have HSNK:=Hd (HSN.out k (by omega));clear hat hbw hrg hrd;have hss:=HSUB.out k (by omega)
    go_upto_region 5 with(fail)
    generalize hw3:wr.alloc _=w3;obtain⟨hb3,hg3,hr3,hcell3⟩:=HF3.out w3 hw3;obtain⟨d0,d1,d2,d3,d4,d5⟩:=Sx (hcell3 w3 (Below.refl _ _));have HCL:=Hd (HIH.out k (by omega) A' ca' B' cb' w3 hr3 (by omega));have HB3:=Hd (HBW.out.trans (hb3.mono HBW.out.size));clear hcell3 hb3 hr3 hw3 HF3
    go_wp2_with fail
    refine HCL.out.mono ?_;rintro r w2 ⟨rfl,hb2⟩;have HB2:=Hd (HB3.out.trans (hb2.mono HB3.out.size));clear hb2
    go_wp2_with fail
    go_roundw
    case rel=>
     refine⟨k+1,by omega,by go_num,?_,HB2.out⟩;rw [HSNK.out]
     first | rfl | (congr 1;omega) | (simp;done) | skip
    case measure=>simp [intOf];omega
  · have hkl:k=len:=by omega
    subst hkl;have HE:=Hd (hlen ▸ HTL.out:x.subs.take k=x.subs);rw [HE.out];generalize depthsX x.subs=d at *
    go_wp2_with fail
    go_ret
    refine⟨?_,HB1.out.trans (HBW.out.mono HB1.out.size)⟩;rw [HSZ.out,Nat.add_comm];rfl
end
section
open Go.RowKit Go.Shelf
attribute [local go_sem] Oper.semAt_some
theorem blkOwn{β:Type}(B:Nat) (cs:Array Value) (t:TypeId):Own (fun(_:β) W=>W.heap[B]?=some (Obj.cells cs t)):=fun s X Y row hs hg hrow=>
 (hg.block B (Array.getElem?_eq_some_iff.1 hs).1 (fun e'=>by obtain⟨o,ho,hc⟩:=hrow B e'.symm;rw [hs] at ho;cases ho;cases hc)).trans hs
theorem KeepsE.alloc(W:World) (o:Obj):KeepsE W (W.alloc o):=KeepsE.of_below ((Below.refl _ _).alloc (Nat.le_refl _) o)
end
end Go.Proofs.Ytpehkppcdlboeaa
