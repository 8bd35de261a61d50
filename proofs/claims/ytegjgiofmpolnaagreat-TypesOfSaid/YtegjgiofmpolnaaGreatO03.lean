/- Parts of the proof: IdF, IdG, IdH, IdI, IdJ, EyB, EyC. Conditions: each theorem's own. -/
import Derived.Maps.OwnSet
import Derived.Maps.OwnOps
import Derived.Test.YtegjgiofmpolnaaGreatO02
namespace Go.Proofs.YtegjgiofmpolnaaGreat
set_option linter.unusedVariables false
set_option linter.unusedSimpArgs false
set_option maxRecDepth 100000
set_option maxHeartbeats 40000000
section
open Go.RowKit
theorem cut_sizes{c:UInt8}{s a b:ByteArray}{f:Bool}(hf:f=false→s.data.toList=a.data.toList) (ht:f=true→s.data.toList=a.data.toList++c::b.data.toList):
 a.size≤s.size∧(f=true→b.size<s.size):=by
 have h1:=Lib.size_eq s;have h2:=Lib.size_eq a;have h3:=Lib.size_eq b
 cases f with
 | false=>have:=hf rfl;rw [← this] at h2;exact⟨by omega,fun h=>by cases h⟩
 | true=>
  have:=congrArg List.length (ht rfl);simp only [List.length_append,List.length_cons] at this;exact⟨by omega,fun _=>by omega⟩
theorem idPart(s:ByteArray) (w:World) (hs:s.size≤9223372036854775806):
 Calls Tryz.prog 176 #[.string s] w fun e w'=>e=.returned (.bool (partB s.data.toList))∧Below w.heap.size w w':=by
 go_enter Tryz.func176,Tryz.ntmps176
 go_wp2_with fail
 refine(strCut s 46 _ hs).mono ?_;rintro e w1 ⟨a,b,f,rfl,hb,hc,hf,ht⟩;have hsz:=cut_sizes hf ht;have HB:=Hd hb;clear hb
 by_cases hl:lowB a.data.toList=true
 · cases f with
   | false=>
    have HE:=Hd (show true=partB s.data.toList by rw [hf rfl,partB_none hc,hl]);clear hf ht hc;have ha:=hsz.1;clear hsz
    go_wp2_with fail
    refine(idLow a _ (by omega)).mono ?_;rintro e w2 ⟨rfl,hb⟩;have HB2:=Hd (below_trans2 HB.out hb);clear hb
    go_wp2_with fail
    go_ret
    exact⟨ret_bool HE.out,HB2.out⟩
   | true=>
    have HE:=Hd (show numB b.data.toList=partB s.data.toList by rw [ht rfl,partB_at hc,hl];rfl);clear hf ht hc;have ha:=hsz.1;have hbz:=hsz.2 rfl;clear hsz
    go_wp2_with fail
    refine(idLow a _ (by omega)).mono ?_;rintro e w2 ⟨rfl,hb⟩;have HB2:=Hd (below_trans2 HB.out hb);clear hb
    go_wp2_with fail
    refine(idNumber b _ (by omega)).mono ?_;rintro e w3 ⟨rfl,hb⟩;have HB3:=Hd (below_trans2 HB2.out hb);clear hb
    go_wp2_with fail
    go_ret
    exact⟨ret_bool HE.out,HB3.out⟩
 · have hl:lowB a.data.toList=false:=by simpa using hl
   have HE:Hid (false=partB s.data.toList):=by
    refine Hd ?_
    cases f with
    | false=>rw [hf rfl,partB_none hc,hl]
    | true=>rw [ht rfl,partB_at hc,hl];rfl
   clear hf ht hc;have ha:=hsz.1;clear hsz
   go_wp2_with fail
   refine(idLow a _ (by omega)).mono ?_;rintro e w2 ⟨rfl,hb⟩;have HB2:=Hd (below_trans2 HB.out hb);clear hb
   go_wp2_with fail
   go_ret
   exact⟨ret_bool HE.out,HB2.out⟩
def szOf:Value→Nat
 | .string s=>s.size
 | _=>0
theorem idPath(s:ByteArray) (w:World) (hs:s.size≤9223372036854775806):
 Calls Tryz.prog 160 #[.string s] w fun e w'=>e=.returned (.bool (pathB s.data.toList))∧Below w.heap.size w w':=by
 go_enter Tryz.func160,Tryz.ntmps160
 go_wp2_with fail
 go_loopw [0] (fun v wr=>∃ t:ByteArray,v=.string t∧t.size≤s.size∧pathB s.data.toList=pathB t.data.toList∧Below w.heap.size w wr) (fun v _=>szOf v)
 case atStart=>exact⟨s,rfl,Nat.le_refl _,rfl,Below.refl _ _⟩
 case round=>
  obtain⟨t,rfl,hts,hpt,hb0⟩:=hrel;have HP:=Hd hpt;have HB0:=Hd hb0;clear hpt hb0
  go_wp2_with fail
  refine(strCut t 47 _ (by omega)).mono ?_;rintro e w1 ⟨a,b,f,rfl,hb,hc,hf,ht⟩;have hsz:=cut_sizes hf ht;have HB:=Hd (HB0.out.trans (hb.mono HB0.out.size));clear hb;have ha:=hsz.1
  by_cases hl:partB a.data.toList=true
  · cases f with
    | false=>
     have HE:=Hd (show true=pathB s.data.toList by rw [HP.out,hf rfl,path_none hc,hl]);clear hf ht hc hsz
     go_wp2_with fail
     refine(idPart a _ (by omega)).mono ?_;rintro e w2 ⟨rfl,hb⟩;have HB2:=Hd (HB.out.trans (hb.mono HB.out.size));clear hb
     go_wp2_with fail
     go_ret
     exact⟨ret_bool HE.out,HB2.out⟩
    | true=>
     have HE:=Hd (show pathB s.data.toList=pathB b.data.toList by rw [HP.out,ht rfl,path_at hc,hl];rfl);have hbz:=hsz.2 rfl;clear hf ht hc hsz
     go_wp2_with fail
     refine(idPart a _ (by omega)).mono ?_;rintro e w2 ⟨rfl,hb⟩;have HB2:=Hd (HB.out.trans (hb.mono HB.out.size));clear hb
     go_wp2_with fail
     go_roundw
     case rel=>exact⟨b,rfl,by omega,HE.out,HB2.out⟩
     case measure=>simp [szOf];omega
  · have hl:partB a.data.toList=false:=by simpa using hl
    have HE:Hid (false=pathB s.data.toList):=by
     refine Hd ?_;rw [HP.out]
     cases f with
     | false=>rw [hf rfl,path_none hc,hl]
     | true=>rw [ht rfl,path_at hc,hl];rfl
    clear hf ht hc hsz
    go_wp2_with fail
    refine(idPart a _ (by omega)).mono ?_;rintro e w2 ⟨rfl,hb⟩;have HB2:=Hd (HB.out.trans (hb.mono HB.out.size));clear hb
    go_wp2_with fail
    go_ret
    exact⟨ret_bool HE.out,HB2.out⟩
end
section
open Go.RowKit Go.Maps Go.WideMaps
theorem keyLaw:Keyed Tryz.prog 9:=string_keyed Tryz.underlying9
theorem zeroUnit(w:World):(zeroValue 136).run Tryz.prog w=.ok (.agg #[]) w:=by kernel_rfl
def keysTo(ss:List ByteArray) (k:Nat):DataW Unit:=setOf (.agg []) ((ss.take k).map fun s=>Lit.string s.data.toList)
def onceTo(ss:List ByteArray) (k:Nat):Prop:=((ss.take k).map fun s=>s.data.toList).Nodup
def seenAt(ss:List ByteArray) (k:Nat):Bool:=decide ((ss[k]?.getD ByteArray.empty).data.toList∈(ss.take k).map fun s=>s.data.toList)
def onceS(ss:List ByteArray):Bool:=onceB (ss.map fun s=>s.data.toList)
theorem keysTo_zero(ss:List ByteArray):keysTo ss 0=.map []:=by simp [keysTo,setOf]
theorem take_snocT{ss:List ByteArray}{k:Nat}(h:k<ss.length):ss.take (k+1)=ss.take k++[ss[k]?.getD ByteArray.empty]:=by
 rw [List.take_succ_eq_append_getElem h,List.getElem?_eq_getElem h];rfl
theorem keysTo_succ(ss:List ByteArray) (k:Nat) (h:k<ss.length):keysTo ss (k+1)=(keysTo ss k).put (.string (ss[k]?.getD ByteArray.empty).data.toList) (.agg []):=by
 unfold keysTo;rw [take_snocT h,List.map_append];exact setOf_snoc _ _ _
theorem any_string(x:List UInt8):∀ l:List ByteArray,(l.map fun s=>Lit.string s.data.toList).any (fun y=>y.sameKey (.string x))=decide (x∈l.map fun s=>s.data.toList)
 | []=>rfl
 | a::r=>by
  have e:(Lit.string a.data.toList).sameKey (.string x)=(a.data.toList==x):=rfl;rw [List.map_cons,List.any_cons,any_string x r,List.map_cons,e,Bool.eq_iff_iff];simp only [Bool.or_eq_true,beq_iff_eq,decide_eq_true_eq,List.mem_cons];exact⟨fun h=>h.imp Eq.symm id,fun h=>h.imp Eq.symm id⟩
theorem has_keysTo(ss:List ByteArray) (k:Nat):Maps.has (keysTo ss k) (.string (ss[k]?.getD ByteArray.empty).data.toList)=seenAt ss k:=by
 unfold keysTo seenAt;rw [has_setOf _ _ _ (fun y hy=>by obtain⟨_,_,rfl⟩:=List.mem_map.1 hy;trivial),any_string]
theorem onceTo_zero(ss:List ByteArray):onceTo ss 0:=by simp [onceTo]
theorem onceTo_succ{ss:List ByteArray}{k:Nat}(H:onceTo ss k) (h:k<ss.length) (hn:seenAt ss k=false):onceTo ss (k+1):=by
 unfold onceTo at H ⊢;rw [take_snocT h,List.map_append,List.nodup_append];refine⟨H,by simp,fun a ha b hb=>?_⟩
 simp at hb
 subst hb;intro e;subst e;simp only [seenAt,decide_eq_false_iff_not] at hn;exact hn ha
theorem onceTo_end{ss:List ByteArray}{k:Nat}(H:onceTo ss k) (h:ss.length≤k):onceS ss=true:=by
 unfold onceTo at H;rw [List.take_of_length_le h] at H;exact decide_eq_true H
theorem seen_twice{ss:List ByteArray}{k:Nat}(h:k<ss.length) (hn:seenAt ss k=true):onceS ss=false:=by
 simp only [seenAt,decide_eq_true_eq] at hn;unfold onceS onceB;refine decide_eq_false fun hd=>?_;have e:ss=ss.take k++ss.drop k:=(List.take_append_drop k ss).symm;rw [e,List.map_append,List.nodup_append] at hd
 have hm:(ss[k]?.getD ByteArray.empty)∈ss.drop k:=by
  rw [List.getElem?_eq_getElem h,Option.getD_some,List.drop_eq_getElem_cons h];exact List.mem_cons_self
 exact hd.2.2 _ hn _ (List.mem_map.2 ⟨_,hm,rfl⟩) rfl
theorem idOnce(A:Option Addr) (n c:Nat) (ss:List ByteArray) (w:World) (h:RdT w A n ss) (hz:∀ s∈ss,s.size≤maxLen) (hn:n≤100):
 Calls Tryz.prog 144 #[.slice A n c] w fun e w'=>e=.returned (.bool (onceS ss))∧Below w.heap.size w w':=by
 have hmm:=@run_makeMap Tryz.prog;have HL:=Hd h.len
 go_enter Tryz.func144,Tryz.ntmps144
 go_wp2_with fail
 go_loopw [11] (fun i wr=>∃ k:Nat,k≤n∧i=.int .i64 k∧wr.ownsMap Tryz.prog 9 unitElem w.heap.size k (keysTo ss k)∧Below w.heap.size w wr∧w.heap.size+1≤wr.heap.size∧onceTo ss k)
  (fun i _=>n-(intOf i).toNat)
 case atStart=>exact⟨0,Nat.zero_le _,rfl,by rw [keysTo_zero];exact World.ownsMap_made _ _ _ _,(Below.refl _ _).alloc (Nat.le_refl _) _,by simp,onceTo_zero _⟩
 case round=>
  obtain⟨k,hk,rfl,hown,hnx,hws,honce⟩:=hrel;have HO:=Hd honce;clear honce
  by_cases hlt:k<n
  · obtain⟨b,off,rfl,hb,hc⟩:=h.at_ hlt;have hck:wr.cell? ⟨b,off+k,none⟩=some (.string (ss[k]?.getD ByteArray.empty)):=(hnx.cell hb).trans (hc k hlt);have hkk:k<ss.length:=by rw [HL.out];exact hlt
    have HS:=Hd (keysTo_succ ss k hkk);have hhas:=has_keysTo ss k;have hxm:(ss[k]?.getD ByteArray.empty).size≤maxLen:=hz _ (by rw [List.getElem?_eq_getElem hkk];exact List.getElem_mem _);clear hc hz;generalize hx:ss[k]?.getD ByteArray.empty=x at hck hxm hhas HS;have hkey:keyOf Tryz.prog 9 (.string x)=some (.string x.data.toList):=keyOf_string_mk Tryz.underlying9 hxm;have HX:=Hd hx;have HKK:=Hd hkk;clear hx hkk;have hkk:k<maxLen:=by unfold maxLen;omega
    by_cases hsn:seenAt ss k=true
    · have HSN:=Hd hsn;rw [hsn] at hhas;clear hsn
      go_wp2_with (at_lookup;refine wpList_lookup_own_unit _ rfl _ _ 89 rfl 9 136 keyLaw Tryz.underlying89 (zeroUnit _) w.heap.size k _ rfl hown _ _ rfl hkey ?_)
      go_ret
      exact⟨ret_bool (seen_twice HKK.out HSN.out).symm,hnx.alloc hnx.size _⟩
    · have hsn:seenAt ss k=false:=by simpa using hsn
      have HSN:=Hd hsn;rw [hsn] at hhas;clear hsn
      go_wp2_with (first
       | (at_lookup;refine wpList_lookup_own_unit _ rfl _ _ 89 rfl 9 136 keyLaw Tryz.underlying89 (zeroUnit _) w.heap.size k _ rfl hown _ _ rfl hkey ?_)
       | (at_mapUpdate;refine wpList_mapUpdate_own _ rfl _ _ _ 89 rfl 9 136 keyLaw Tryz.underlying89 (unitElem (H:=Unit)) w.heap.size k _ rfl (hown.alloc _) hkk _ _ _ rfl rfl hkey _ [] unitElem_mk ?_;intro w1 hown1 hgrow1))
      have HW:=Hd hown1;have HG:=Hd hgrow1;have s1:=hgrow1.size
      simp at s1
      clear hown1 hgrow1
      go_roundw
      case rel=>
       refine⟨k+1,by omega,by go_num,?_,?_,by omega,onceTo_succ HO.out HKK.out HSN.out⟩
       · rw [HS.out];exact HW.out
       · exact(hnx.alloc hnx.size _).grown HG.out (by simp;omega) (fun j hj=>by cases hj;exact Nat.le_refl _)
      case measure=>simp [intOf];omega
  · go_wp2_with fail
    go_ret
    exact⟨ret_bool (onceTo_end HO.out (by rw [HL.out];omega)).symm,hnx⟩
end
section
open Go.RowKit
def apartTo(ss:List ByteArray) (x:ByteArray) (j:Nat):Prop:=∀ i,i<j→((ss[i]?.getD ByteArray.empty).toList==x.toList)=false
theorem apart_seen{ss:List ByteArray}{k:Nat}(h:k<ss.length) (H:apartTo ss (ss[k]?.getD ByteArray.empty) k):seenAt ss k=false:=by
 refine decide_eq_false fun hm=>?_;obtain⟨y,hy,e⟩:=List.mem_map.1 hm;obtain⟨i,hi,ey⟩:=List.getElem_of_mem hy;rw [List.length_take] at hi;have h1:=H i (by omega);rw [List.getElem_take] at ey;rw [List.getElem?_eq_getElem (show i<ss.length by omega),Option.getD_some,ey,Lib.toList_data,Lib.toList_data,e] at h1
 simp at h1
theorem meets_seen{ss:List ByteArray}{i k:Nat}(h:k<ss.length) (hi:i<k) (he:((ss[i]?.getD ByteArray.empty).toList==(ss[k]?.getD ByteArray.empty).toList)=true):seenAt ss k=true:=by
 refine decide_eq_true (List.mem_map.2 ⟨ss[i]?.getD ByteArray.empty,?_,?_⟩)
 · rw [List.getElem?_eq_getElem (show i<ss.length by omega),Option.getD_some];exact List.mem_take_iff_getElem.2 ⟨i,by omega,rfl⟩
 · rw [Lib.toList_data,Lib.toList_data] at he;exact beq_iff_eq.1 he
theorem refOnce(A:Option Addr) (n c:Nat) (ss:List ByteArray) (w:World) (h:RdT w A n ss) (hn:n≤100):
 Calls Tryz.prog 45 #[.slice A n c] w fun e w'=>e=.returned (.bool (onceS ss))∧∃ m,w'=w.drewN m:=by
 have HL:=Hd h.len
 go_enter Tryz.func45,Tryz.ntmps45
 go_wp2_with fail
 go_loopw [3] (fun i wr=>∃ k:Nat,k≤n∧i=.int .i64 k∧(∃ m,wr=w.drewN m)∧onceTo ss k) (fun i _=>n-(intOf i).toNat)
 case atStart=>exact⟨0,Nat.zero_le _,rfl,⟨0,rfl⟩,onceTo_zero _⟩
 case round=>
  obtain⟨k,hk,rfl,⟨m,rfl⟩,honce⟩:=hrel;have HO:=Hd honce;clear honce
  by_cases hlt:k<n
  · obtain⟨b,off,rfl,hb,hc⟩:=h.at_ hlt;have hkk:k<ss.length:=by rw [HL.out];exact hlt
    have hck:=hc k hlt;generalize hx:ss[k]?.getD ByteArray.empty=x at hck;have HX:=Hd hx;have HKK:=Hd hkk;have HC:=Hd hc;clear hx hkk hc
    go_wp2_with fail
    go_loopw [4] (fun j wr=>∃ i:Nat,i≤k∧j=.int .i64 i∧(∃ m,wr=w.drewN m)∧apartTo ss x i) (fun j _=>k-(intOf j).toNat)
    case atStart=>exact⟨0,Nat.zero_le _,rfl,⟨_,rfl⟩,fun i hi=>absurd hi (by omega)⟩
    case round=>
     obtain⟨i,hi,rfl,⟨m2,rfl⟩,hap⟩:=hrel;have HAP:=Hd hap;clear hap
     by_cases hik:i<k
     · have hci:=HC.out i (by omega);generalize hy:ss[i]?.getD ByteArray.empty=y at hci;have HY:=Hd hy;clear hy
       by_cases he:(y.toList==x.toList)=true
       · have HE:=Hd he
         go_wp2_with fail
         go_quiet (fail)
         go_wp2_with fail
         go_ret
         refine⟨ret_bool ?_,_,World.drewN_drewN _ _ _⟩;exact(seen_twice HKK.out (meets_seen HKK.out hik (by rw [HX.out,HY.out];exact HE.out))).symm
       · have he:(y.toList==x.toList)=false:=by simpa using he
         have HE:=Hd he
         go_wp2_with fail
         go_quiet (fail)
         go_wp2_with fail
         go_roundw
         case rel=>
          refine⟨i+1,by omega,by go_num,⟨_,rfl⟩,fun j hj=>?_⟩;rcases Nat.lt_or_ge j i with h1 | h1
          · exact HAP.out j h1
          · obtain rfl:j=i:=by omega
            rw [HY.out];exact HE.out
         case measure=>simp [intOf];omega
     · go_wp2_with fail
       go_roundw
       case rel=>
        refine⟨k+1,by omega,by go_num,⟨_,rfl⟩,onceTo_succ HO.out HKK.out (apart_seen HKK.out ?_)⟩;rw [HX.out];exact fun j hj=>HAP.out j (by omega)
       case measure=>simp [intOf];omega
  · go_wp2_with fail
    go_ret
    exact⟨ret_bool (onceTo_end HO.out (by rw [HL.out];omega)).symm,_,rfl⟩
end
section
open Go.RowKit
def partsOf(ss:List ByteArray):List (List UInt8):=ss.map fun s=>s.data.toList
def CutTo(c:UInt8) (s:ByteArray) (ss:List ByteArray) (f i:Nat):Prop:=
 ss.length≤i∧((i≤s.size∧f≤i∧cutL c s.data.toList=partsOf ss++cutL c (s.data.toList.drop f)∧c∉(s.data.toList.drop f).take (i-f)) ∨
 (i=s.size+1∧f=i∧cutL c s.data.toList=partsOf ss))
section
variable {c:UInt8}{s:ByteArray}{ss:List ByteArray}{f i:Nat}
theorem cutTo_zero:CutTo c s [] 0 0:=⟨by simp,.inl ⟨by omega,by omega,by simp [partsOf],by simp⟩⟩
theorem cutTo_bd(H:CutTo c s ss f i) (hi:i≤s.size):f≤i:=by
 obtain⟨_,h | h⟩:=H <;> omega
theorem extract_at(hi:i≤s.size):(s.extract f i).data.toList=(s.data.toList.drop f).take (i-f):=Lib.extract_data s f i
theorem cutTo_last(H:CutTo c s ss f i) (hi:i=s.size):CutTo c s (ss++[s.extract f i]) (i+1) (i+1):=by
 subst hi;obtain⟨hl,h | h⟩:=H
 · obtain⟨_,hf,he,hn⟩:=h;refine⟨by simp;omega,.inr ⟨rfl,rfl,?_⟩⟩;have h1:(s.data.toList.drop f).take (s.size-f)=s.data.toList.drop f:=List.take_of_length_le (by rw [Lib.size_eq];simp);rw [h1] at hn;rw [he,cutL_none hn];simp only [partsOf,List.map_append,List.map_cons,List.map_nil];rw [extract_at (Nat.le_refl _),h1]
 · omega
theorem cutTo_cut(H:CutTo c s ss f i) (hi:i<s.size) (hc:s[i]'hi=c):CutTo c s (ss++[s.extract f i]) (i+1) (i+1):=by
 obtain⟨hl,h | h⟩:=H
 · obtain⟨_,hf,he,hn⟩:=h;have hlen:i<s.data.toList.length:=by rw [← Lib.size_eq];exact hi
   refine⟨by simp;omega,.inl ⟨by omega,by omega,?_,by simp⟩⟩
   have e1:s.data.toList.drop f=(s.data.toList.drop f).take (i-f)++c::s.data.toList.drop (i+1):=by
    have h1:=(List.take_append_drop (i-f) (s.data.toList.drop f)).symm
    have h2:(s.data.toList.drop f).drop (i-f)=c::s.data.toList.drop (i+1):=by
     rw [List.drop_drop,show f+(i-f)=i by omega,List.drop_eq_getElem_cons hlen,at_list s i hi,hc]
    rw [h2] at h1;exact h1
   rw [he,e1,cutL_at hn];simp only [partsOf,List.map_append,List.map_cons,List.map_nil,List.append_assoc,List.singleton_append];rw [extract_at (by omega)]
 · omega
theorem cutTo_on(H:CutTo c s ss f i) (hi:i<s.size) (hc:¬ s[i]'hi=c):CutTo c s ss f (i+1):=by
 obtain⟨hl,h | h⟩:=H
 · obtain⟨_,hf,he,hn⟩:=h;have hlen:i<s.data.toList.length:=by rw [← Lib.size_eq];exact hi
   refine⟨by omega,.inl ⟨by omega,by omega,he,?_⟩⟩;have e1:i+1-f=(i-f)+1:=by omega
   have hd:i-f<(s.data.toList.drop f).length:=by rw [List.length_drop];omega
   rw [e1,List.take_succ_eq_append_getElem hd,List.mem_append];rintro (h | h)
   · exact hn h
   · simp only [List.mem_singleton,List.getElem_drop] at h
     apply hc
     rw [← at_list s i hi,h]
     congr 1
     omega
 · omega
theorem cutTo_end(H:CutTo c s ss f i) (hi:¬ i≤s.size):cutL c s.data.toList=partsOf ss:=by
 obtain⟨_,h | h⟩:=H
 · omega
 · exact h.2.2
end
def CutsTo(c:UInt8) (s:ByteArray) (w:World) (e:Ending) (w':World):Prop:=
 ∃ (A:Option Addr) (n k:Nat) (ss:List ByteArray),e=.returned (.slice A n k)∧RdT w' A n ss∧cutL c s.data.toList=partsOf ss∧n≤s.size+1∧Below w.heap.size w w'
theorem cutsTo_mk{c:UInt8}{s:ByteArray}{w w':World}{base:Nat}{T:TypeId}{v:Value}{ss:List ByteArray}{f i n:Nat}
 (H:CutTo c s ss f i) (hi:¬ i≤s.size) (hi2:i≤s.size+1) (hs:s.size≤1000) (hn:n=ss.length) (hrow:w'.ownsRow base T 1 v n (ss.map Value.string)) (hb:Below w.heap.size w w'):
 CutsTo c s w (.returned v) w':=by
 have h1:=cutTo_end H hi;have h2:=H.1;obtain⟨A,k,rfl,hrd,_⟩:=RdT.of_own hrow (by omega);exact⟨A,n,k,ss,rfl,hrd,h1,by omega,hb⟩
theorem infoString:(Tryz.prog.info? 9).map (fun i=>(i.zero,i.size,i.bytes))=some (some (.string ByteArray.empty),1,16):=by kernel_rfl
theorem string_cells(l:List ByteArray):∀ u∈l.map Value.string,u.oneCell'=true:=by
 intro u hu;simp only [List.mem_map] at hu;obtain⟨z,_,rfl⟩:=hu;rfl
theorem refCut(s:ByteArray) (x:Int) (c:UInt8) (hx:x=(c.toNat:Int)) (w:World) (hs:s.size≤1000):
 Calls Tryz.prog 156 #[.string s,.int .u8 x] w (CutsTo c s w):=by
 have HX:=Hd hx;clear hx;obtain⟨i0,hi,hz0,hz1,hz2⟩:=info_parts infoString;have hr0:=Hd (World.ownsRow_lit (base:=w.heap.size) (e:=9) (size:=1) w #[] 0 (Nat.le_refl _) (by decide) rfl);have HB0:=Hd ((Below.refl w.heap.size w).alloc (Nat.le_refl _) (.cells #[] 9))
 go_enter Tryz.func156,Tryz.ntmps156
 go_wp2_with fail
 go_loopw [5,6,7] (fun v fr i wr=>∃ (ss:List ByteArray) (f k:Nat),i=.int .i64 k∧fr=.int .i64 f∧k≤s.size+1∧CutTo c s ss f k∧wr.ownsRow w.heap.size 9 1 v ss.length (ss.map Value.string)∧Below w.heap.size w wr)
  (fun _ _ i _=>s.size+1-(intOf i).toNat)
 case atStart=>exact⟨[],0,0,rfl,rfl,by omega,cutTo_zero,hr0.out,HB0.out⟩
 case round=>
  obtain⟨ss,f,k,rfl,rfl,hk,hcut,hrow,hbel⟩:=hrel;have HC:=Hd hcut;have hsl:=hcut.1;have HR:=Hd hrow;have HB:=Hd hbel;have hws:=hbel.size
  by_cases hle:k≤s.size
  · have hfk:=cutTo_bd hcut hle;clear hcut hrow hbel hr0 HB0
    by_cases hend:k=s.size
    · have hb1:((k:Int)==(s.size:Int))=true:=by rw [hend];simp
      have HE:=Hd hend;clear hend
      go_wp2_with (first | (at_builtin;refine wpList_append_own_at _ rfl _ _ 32 rfl w.heap.size 9 i0 (.string ByteArray.empty) 1 16 Tryz.underlying32 hi hz0 hz1 hz2 rfl (by decide) _ _ _ rfl (HR.out.alloc _) ⟨wr.heap.size,0,none⟩ 1 1 [.string (s.extract f k)] rfl rfl (cell_one_new _ _ _) (string_cells [s.extract f k]) (by unfold maxLen;omega) (by omega) (by simp;omega) ?_;intro v' w1 hown' hgrow hnil hloc))
      have HO:=Hd hown';have HG:=Hd hgrow;have hs1:=hgrow.size
      simp at hs1
      clear hown' hgrow hnil hloc
      go_roundw
      case rel=>
       refine⟨ss++[s.extract f k],k+1,k+1,by go_num,by go_num,by omega,cutTo_last HC.out HE.out,?_,?_⟩
       · rw [List.length_append,List.map_append];exact HO.out
       · exact(HB.out.alloc (by have:=HB.out.size;omega) _).grown HG.out (by have:=HB.out.size;simp;omega) (fun j hj=>(HR.out.lt j hj).1)
      case measure=>simp [intOf];omega
    · have hlt:k<s.size:=by omega
      have hb1:((k:Int)==(s.size:Int))=false:=by rw [beq_eq_false_iff_ne];omega
      clear hend
      by_cases hce:s[k]'hlt=c
      · have hb2:(((s[k]'hlt).toNat:Int)==x)=true:=by rw [HX.out,hce];simp
        have HE:=Hd hce;clear hce
        go_wp2_with (first | (at_builtin;refine wpList_append_own_at _ rfl _ _ 32 rfl w.heap.size 9 i0 (.string ByteArray.empty) 1 16 Tryz.underlying32 hi hz0 hz1 hz2 rfl (by decide) _ _ _ rfl (HR.out.alloc _) ⟨wr.heap.size,0,none⟩ 1 1 [.string (s.extract f k)] rfl rfl (cell_one_new _ _ _) (string_cells [s.extract f k]) (by unfold maxLen;omega) (by omega) (by simp;omega) ?_;intro v' w1 hown' hgrow hnil hloc))
        have HO:=Hd hown';have HG:=Hd hgrow;have hs1:=hgrow.size
        simp at hs1
        clear hown' hgrow hnil hloc
        go_roundw
        case rel=>
         refine⟨ss++[s.extract f k],k+1,k+1,by go_num,by go_num,by omega,cutTo_cut HC.out hlt HE.out,?_,?_⟩
         · rw [List.length_append,List.map_append];exact HO.out
         · exact(HB.out.alloc (by have:=HB.out.size;omega) _).grown HG.out (by have:=HB.out.size;simp;omega) (fun j hj=>(HR.out.lt j hj).1)
        case measure=>simp [intOf];omega
      · have hb2:(((s[k]'hlt).toNat:Int)==x)=false:=by
         rw [HX.out,beq_eq_false_iff_ne];intro e;exact hce (UInt8.toNat_inj.1 (by omega))
        have HE:=Hd hce;clear hce
        go_wp2_with fail
        go_roundw
        case rel=>exact⟨ss,f,k+1,by go_num,rfl,by omega,cutTo_on HC.out hlt HE.out,HR.out,HB.out⟩
        case measure=>simp [intOf];omega
  · have HEND:=Hd (cutsTo_mk hcut hle hk hs rfl hrow hbel);clear hcut hrow hbel hr0 HB0
    go_wp2_with fail
    go_ret
    exact HEND.out
end
section
open Go.RowKit
theorem cutL_len{c:UInt8}:∀ {l p:List UInt8},p∈cutL c l→p.length≤l.length
 | [],p,h=>by simp [cutL] at h;simp [h]
 | b::l,p,h=>by
  unfold cutL at h
  split at h
  · rcases List.mem_cons.1 h with h | h
    · simp [h]
    · have:=cutL_len h;simp;omega
  · cases hc:cutL c l with
    | nil=>rw [hc] at h;simp at h;simp [h]
    | cons q qs=>
     rw [hc] at h;rcases List.mem_cons.1 h with h | h
     · have:=cutL_len (l:=l) (c:=c) (p:=q) (by rw [hc];simp);rw [h]
       simp
       omega
     · have:=cutL_len (l:=l) (c:=c) (p:=p) (by rw [hc];simp [h])
       simp
       omega
theorem parts_len{c:UInt8}{s:ByteArray}{ss:List ByteArray}{k:Nat}(h:cutL c s.data.toList=partsOf ss) (hk:k<ss.length):(ss[k]?.getD ByteArray.empty).size≤s.size:=by
 rw [List.getElem?_eq_getElem hk,Option.getD_some,Lib.size_eq,Lib.size_eq]
 apply cutL_len (c:=c)
 rw [h];exact List.mem_map.2 ⟨_,List.getElem_mem hk,rfl⟩
def partsTo(ss:List ByteArray) (k:Nat):Prop:=∀ j,j<k→partB (ss[j]?.getD ByteArray.empty).data.toList=true
section
variable {s:ByteArray}{ss:List ByteArray}{k:Nat}
theorem partsTo_succ(H:partsTo ss k) (h:partB (ss[k]?.getD ByteArray.empty).data.toList=true):partsTo ss (k+1):=fun j hj=>by
 rcases Nat.lt_or_ge j k with h1 | h1
 · exact H j h1
 · obtain rfl:j=k:=by omega
   exact h
theorem path_end(hc:cutL 47 s.data.toList=partsOf ss) (H:partsTo ss k) (h:ss.length≤k):pathB s.data.toList=true:=by
 unfold pathB;rw [hc,List.all_eq_true];intro p hp;obtain⟨x,hx,rfl⟩:=List.mem_map.1 hp;obtain⟨j,hj,rfl⟩:=List.getElem_of_mem hx;have:=H j (by omega);rwa [List.getElem?_eq_getElem hj] at this
theorem path_bad(hc:cutL 47 s.data.toList=partsOf ss) (hk:k<ss.length) (h:partB (ss[k]?.getD ByteArray.empty).data.toList=false):pathB s.data.toList=false:=by
 unfold pathB;rw [hc]
 cases ha:(partsOf ss).all partB with
 | false=>rfl
 | true=>
  rw [List.all_eq_true] at ha;have:=ha _ (List.mem_map.2 ⟨ss[k],List.getElem_mem hk,rfl⟩);rw [List.getElem?_eq_getElem hk,Option.getD_some,this] at h
  cases h
end
section
variable {x:ByteArray}{ps:List ByteArray}{m:Nat}
theorem part_many(hc:cutL 46 x.data.toList=partsOf ps) (h:2<ps.length):partB x.data.toList=false:=by
 unfold partB;rw [hc]
 match ps,h with
 | a::b::c::r,_=>rfl
theorem part_low(hc:cutL 46 x.data.toList=partsOf ps) (h:lowB (ps[0]?.getD ByteArray.empty).data.toList=false) (h0:0<ps.length):partB x.data.toList=false:=by
 unfold partB;rw [hc]
 match ps,h0 with
 | [a],_=>exact h
 | [a,b],_=>show(lowB a.data.toList && _)=false;rw [show lowB a.data.toList=false from h];rfl
 | a::b::c::r,_=>rfl
theorem part_one(hc:cutL 46 x.data.toList=partsOf ps) (h:lowB (ps[0]?.getD ByteArray.empty).data.toList=true) (h1:ps.length=1):partB x.data.toList=true:=by
 unfold partB;rw [hc]
 match ps,h1 with
 | [a],_=>exact h
theorem part_two(hc:cutL 46 x.data.toList=partsOf ps) (h:lowB (ps[0]?.getD ByteArray.empty).data.toList=true) (h2:ps.length=2):partB x.data.toList=numB (ps[1]?.getD ByteArray.empty).data.toList:=by
 unfold partB;rw [hc]
 match ps,h2 with
 | [a,b],_=>show(lowB a.data.toList && numB b.data.toList)=_;rw [show lowB a.data.toList=true from h];rfl
theorem parts_pos{c:UInt8}(hc:cutL c x.data.toList=partsOf ps):0<ps.length:=by
 cases ps with
 | nil=>exact absurd hc (cutL_ne _ _)
 | cons a r=>simp
end
theorem refPath(s:ByteArray) (w:World) (hs:s.size≤1000):
 Calls Tryz.prog 105 #[.string s] w fun e w'=>e=.returned (.bool (pathB s.data.toList))∧Below w.heap.size w w':=by
 have hx47:(47:Int)=((47:UInt8).toNat:Int):=by decide
 have hx46:(46:Int)=((46:UInt8).toNat:Int):=by decide
 have HCUT:=Hd fun(w:World)=>refCut s 47 47 hx47 w hs;have HCUT2:=Hd fun(x:ByteArray) (w:World) (hs:x.size≤1000)=>refCut x 46 46 hx46 w hs;clear hx47 hx46
 go_enter Tryz.func105,Tryz.ntmps105
 go_wp2_with fail
 refine(HCUT.out _).mono ?_;rintro e w1 ⟨A,n,c,ss,rfl,hrd,hcut,hn1,hb⟩;have HB1:=Hd hb;have HCS:=Hd hcut;have HL:=Hd hrd.len;clear hb hcut HCUT
 go_wp2_with fail
 go_loopw [4] (fun i wr=>∃ k:Nat,k≤n∧i=.int .i64 k∧partsTo ss k∧Below w1.heap.size w1 wr) (fun i _=>n-(intOf i).toNat)
 case atStart=>exact⟨0,Nat.zero_le _,rfl,fun j hj=>absurd hj (by omega),Below.refl _ _⟩
 case round=>
  obtain⟨k,hk,rfl,hpt,hbw⟩:=hrel;have HP:=Hd hpt;have HB:=Hd hbw;clear hpt
  by_cases hlt:k<n
  · obtain⟨b,off,rfl,hbb,hc⟩:=hrd.at_ hlt;have hck:=(hbw.cell (p:=⟨b,off+k,none⟩) hbb).trans (hc k hlt);have hkk:k<ss.length:=by rw [HL.out];exact hlt
    have hxs:=parts_len HCS.out hkk;have HBAD:=Hd fun h=>path_bad HCS.out hkk h;have HNEXT:=Hd fun h=>partsTo_succ HP.out h;generalize hx:ss[k]?.getD ByteArray.empty=x at hck hxs HBAD HNEXT;clear hc hbw hx hkk
    go_wp2_with fail
    refine(HCUT2.out x _ (by omega)).mono ?_;rintro e w2 ⟨A2,n2,c2,ps,rfl,hrd2,hcut2,hn2,hb2⟩;have HB2:=Hd (HB.out.trans (hb2.mono HB.out.size));have h0:=parts_pos hcut2;have hl2:=hrd2.len;obtain⟨b2,off2,rfl,hbb2,hc2⟩:=hrd2.at_ (i:=0) (by omega);have hc0:=hc2 0 (by omega);rw [Nat.add_zero] at hc0;have ha:=parts_len hcut2 h0;have h0n:0<n2:=by omega
    by_cases h3:2<n2
    · have HE:=Hd (HBAD.out (part_many hcut2 (by omega)));clear hcut2 hb2 hrd2 hc2 hc0 hl2
      go_wp2_with fail
      go_ret
      exact⟨ret_bool HE.out.symm,HB1.out.trans (HB2.out.mono HB1.out.size)⟩
    · by_cases hlow:lowB (ps[0]?.getD ByteArray.empty).data.toList=true
      · by_cases h1:n2<2
        · have HE:=Hd (HNEXT.out (part_one hcut2 hlow (by omega)));clear hcut2 hb2 hrd2 hc2 hl2;generalize ps[0]?.getD ByteArray.empty=a at hc0 ha hlow
          go_wp2_with fail
          refine(refLow a _ (by omega)).mono ?_;rw [hlow];rintro e w3 ⟨rfl,hb3⟩;have HB3:=Hd (HB2.out.trans (hb3.mono HB2.out.size));clear hb3 hlow
          go_wp2_with fail
          go_roundw
          case rel=>exact⟨k+1,by omega,by go_num,HE.out,HB3.out⟩
          case measure=>simp [intOf];omega
        · have hE:=part_two hcut2 hlow (by omega);have hc1:=hc2 1 (by omega);have hy:=parts_len hcut2 (k:=1) (by omega);clear hcut2 hb2 hrd2 hc2 hl2;generalize ps[0]?.getD ByteArray.empty=a at hc0 ha hlow;generalize ps[1]?.getD ByteArray.empty=y at hc1 hy hE;have HE:=Hd hE;clear hE
          go_wp2_with fail
          refine(refLow a _ (by omega)).mono ?_;rw [hlow];rintro e w3 ⟨rfl,hb3⟩;have HB3:=Hd (HB2.out.trans (hb3.mono HB2.out.size));have hc1:=(hb3.cell (p:=⟨b2,off2+1,none⟩) hbb2).trans hc1;clear hb3 hlow;have hdt:decide ((n2:Int)<2)=false:=decide_eq_false (by omega);have h1n:1<n2:=by omega
          by_cases g1:y.size<1
          · have HF:=Hd (HBAD.out (HE.out.trans (num_len (.inl g1))))
            go_wp2_with fail
            go_ret
            exact⟨ret_bool HF.out.symm,HB1.out.trans (HB3.out.mono HB1.out.size)⟩
          · by_cases g2:3<y.size
            · have HF:=Hd (HBAD.out (HE.out.trans (num_len (.inr g2))))
              go_wp2_with fail
              go_ret
              exact⟨ret_bool HF.out.symm,HB1.out.trans (HB3.out.mono HB1.out.size)⟩
            · have hd1:decide ((y.size:Int)<1)=false:=decide_eq_false (by omega);have hd2:decide ((3:Int)<(y.size:Int))=false:=decide_eq_false (by omega);have hd3:decide ((2:Int)<(n2:Int))=false:=decide_eq_false (by omega);have y0:0<y.size:=by omega
              have y3:y.size≤3:=by omega
              clear g1 g2
              by_cases hf:((y[0]'y0).toNat:Int)=48
              · have HF:=Hd (HBAD.out (HE.out.trans (num_first y0 hf)));have hfb:(((y[0]'y0).toNat:Int)==48)=true:=by simpa using hf
                clear hf
                go_wp2_with fail
                go_ret
                exact⟨ret_bool HF.out.symm,HB1.out.trans (HB3.out.mono HB1.out.size)⟩
              · have HF:=Hd hf;have hfb:(((y[0]'y0).toNat:Int)==48)=false:=by simpa using hf
                clear hf
                go_wp2_with fail
                go_loopw [7] (fun i wr=>∃ j:Nat,j≤y.size∧i=.int .i64 j∧wr=w3∧Digits y j) (fun i _=>y.size-(intOf i).toNat)
                case atStart=>exact⟨0,Nat.zero_le _,rfl,rfl,digits_zero⟩
                case round=>
                 obtain⟨j,hj,rfl,rfl,hdg⟩:=hrel;have HD:=Hd hdg;clear hdg
                 by_cases hjy:j<y.size
                 · by_cases hdj:digitB ((y[j]'hjy).toNat:Int)=true
                   · go_wp2_with (go_at_call 130;refine(refInD _ _).mono ?_;rintro e w' ⟨rfl,rfl⟩)
                     go_roundw
                     case rel=>exact⟨j+1,by omega,by go_num,(by first | trivial | rfl),digits_snoc HD.out hjy hdj⟩
                     case measure=>simp [intOf];omega
                   · have hdj:digitB ((y[j]'hjy).toNat:Int)=false:=by simpa using hdj
                     have HG:=Hd (HBAD.out (HE.out.trans (num_at hjy hdj)))
                     go_wp2_with (go_at_call 130;refine(refInD _ _).mono ?_;rintro e w' ⟨rfl,rfl⟩)
                     go_ret
                     exact⟨ret_bool HG.out.symm,HB1.out.trans (HB3.out.mono HB1.out.size)⟩
                 · have HG:=Hd (HNEXT.out (HE.out.trans (num_yes y0 y3 HF.out fun i h=>HD.out i h (by omega))))
                   go_wp2_with fail
                   go_roundw
                   case rel=>exact⟨k+1,by omega,by go_num,HG.out,HB3.out⟩
                   case measure=>simp [intOf];omega
      · have hlow:lowB (ps[0]?.getD ByteArray.empty).data.toList=false:=by simpa using hlow
        have HE:=Hd (HBAD.out (part_low hcut2 hlow h0));clear hcut2 hb2 hrd2 hc2 hl2;generalize ps[0]?.getD ByteArray.empty=a at hc0 ha hlow
        go_wp2_with fail
        refine(refLow a _ (by omega)).mono ?_;rw [hlow];rintro e w3 ⟨rfl,hb3⟩;have HB3:=Hd (HB2.out.trans (hb3.mono HB2.out.size));clear hb3 hlow
        go_wp2_with fail
        go_ret
        exact⟨ret_bool HE.out.symm,HB1.out.trans (HB3.out.mono HB1.out.size)⟩
  · go_wp2_with fail
    go_ret
    exact⟨ret_bool (path_end HCS.out HP.out (by rw [HL.out];omega)).symm,HB1.out.trans (HB.out.mono HB1.out.size)⟩
end
section
open Go.RowKit Go.Sort
theorem slEqual(A B:Option Addr) (n m c d:Nat) (ss tt:List ByteArray) (w:World) (hs:RdT w A n ss) (ht:RdT w B m tt):
 Calls Tryz.prog 162 #[.slice A n c,.slice B m d] w fun r w'=>r=.returned (.bool (sameT ss tt))∧Below w.heap.size w w':=by
 have h1:=hs.len;have h2:=ht.len;have h3:=hs.max;have h4:=ht.max
 by_cases hnm:n=m
 · subst hnm
   go_enter Tryz.func162,Tryz.ntmps162
   go_wp2_with fail
   go_loopw [13] (fun i wr=>∃ k:Nat,k≤n∧i=.int .i64 k∧sameTo ss tt k∧∃ p,wr=w.drewN p) (fun i _=>n-(intOf i).toNat)
   case atStart=>exact⟨0,Nat.zero_le _,rfl,fun j hj=>absurd hj (by omega),0,rfl⟩
   case round=>
    obtain⟨k,hk,rfl,hto,p,rfl⟩:=hrel;have HT:=Hd hto;clear hto
    by_cases hlt:k<n
    · obtain⟨b,off,rfl,hb,hc⟩:=hs.at_ hlt;obtain⟨b',off',rfl,hb',hc'⟩:=ht.at_ hlt;have e1:=hc k hlt;have e2:=hc' k hlt;have HN:=Hd fun h=>sameTo_succ HT.out h;have HF:=Hd fun h=>sameT_at (a:=ss) (b:=tt) (k:=k) (by omega) (by omega) h;clear hc hc';generalize ss[k]?.getD ByteArray.empty=x at e1 HN HF;generalize tt[k]?.getD ByteArray.empty=y at e2 HN HF
      by_cases he:(x.toList==y.toList)=true
      · have HN:=Hd (HN.out he);have hne:(x.toList != y.toList)=false:=by simp only [bne,he];rfl
        go_wp2_with fail
        go_quiet (fail)
        go_wp2_with fail
        go_roundw
        case rel=>exact⟨k+1,by omega,by go_num,HN.out,_,rfl⟩
        case measure=>simp [intOf];omega
      · have he:(x.toList==y.toList)=false:=by simpa using he
        have HF:=Hd (HF.out he);have hne:(x.toList != y.toList)=true:=by simp only [bne,he];rfl
        go_wp2_with fail
        go_quiet (fail)
        go_wp2_with fail
        go_ret
        exact⟨ret_bool HF.out.symm,below_drewN (below_drewN (Below.refl _ _) _) _⟩
    · have HY:=Hd (sameT_yes (by omega) HT.out (by omega))
      go_wp2_with fail
      go_ret
      exact⟨ret_bool HY.out.symm,below_drewN (Below.refl _ _) _⟩
 · have hF:=Hd (sameT_len (a:=ss) (b:=tt) (by omega));have hne:((n:Int) != (m:Int))=true:=by rw [bne_iff_ne];omega
   go_enter Tryz.func162,Tryz.ntmps162
   go_wp2_with fail
   go_ret
   exact⟨ret_bool hF.out.symm,Below.refl _ _⟩
def fieldsB(x y:Ex):Bool:=(x.k==y.k) && (x.n==y.n) && (x.s.toList==y.s.toList) && (x.op==y.op) && sameT x.arms y.arms
theorem exFields(x:Ex) (A:Option Addr) (ca:Nat) (B:Option Addr) (cb:Nat) (y:Ex) (A':Option Addr) (ca':Nat) (B':Option Addr) (cb':Nat) (w:World) (hr:rdX w x A B) (hr':rdX w y A' B'):
 Calls Tryz.prog 114 #[.agg (exA x A ca B cb),.agg (exA y A' ca' B' cb')] w fun e w'=>e=.returned (.bool (fieldsB x y))∧Below w.heap.size w w':=by
 have HF:=Hd fun w1 h=>box2_facts w x y A A' ca ca' B B' cb cb' w1 h hr hr';have HNM:=Hd fun w1 (h:Below w.heap.size w w1)=>slEqual A A' x.arms.length y.arms.length ca ca' x.arms y.arms w1 (hr.below h).arms (hr'.below h).arms;have HS:=Hd (show fieldsB x y=((x.k==y.k) && (x.n==y.n) && (x.s.toList==y.s.toList) && (x.op==y.op) && sameT x.arms y.arms) from rfl);clear hr hr';unfold exA at HF ⊢;generalize fieldsB x y=res at *;generalize x.k=k1 at *;generalize y.k=k2 at *;generalize x.n=m1 at *;generalize y.n=m2 at *;generalize x.s=s1 at *;generalize y.s=s2 at *;generalize x.op=o1 at *;generalize y.op=o2 at *;generalize sameT x.arms y.arms=nb at *;generalize x.arms.length=a1 at *;generalize y.arms.length=a2 at *;generalize x.subs.length=n1 at *;generalize y.subs.length=n2 at *;generalize hk:(k1==k2)=bk at *;generalize hm:(m1==m2)=bm at *;generalize hs:(s1.toList==s2.toList)=bs at *;generalize ho:(o1==o2)=bo at *
 cases bk with
 | false=>
  have HN:=Hd (show res=false by rw [HS.out];simp)
  go_enter Tryz.func114,Tryz.ntmps114
  go_upto_region 1 with(fail)
  generalize hw1:(w.alloc _).alloc _=w1;obtain⟨hb1,hg,hr1,hr2,hcell,hcell2⟩:=HF.out w1 hw1;have HB1:=Hd hb1;have q0:=hcell w1 (Below.refl _ _) 0;have p0:=hcell2 w1 (Below.refl _ _) 0;have q1:=hcell w1 (Below.refl _ _) 1;have p1:=hcell2 w1 (Below.refl _ _) 1;have q2:=hcell w1 (Below.refl _ _) 2;have p2:=hcell2 w1 (Below.refl _ _) 2;have q3:=hcell w1 (Below.refl _ _) 3;have p3:=hcell2 w1 (Below.refl _ _) 3;have q4:=hcell w1 (Below.refl _ _) 4;have p4:=hcell2 w1 (Below.refl _ _) 4;have q5:=hcell w1 (Below.refl _ _) 5;have p5:=hcell2 w1 (Below.refl _ _) 5;clear hcell hcell2 hb1 hr1 hr2 hw1 HF
  go_wp2_with fail
  go_ret
  exact⟨ret_bool HN.out.symm,HB1.out⟩
 | true=>
  cases bm with
  | false=>
   have HN:=Hd (show res=false by rw [HS.out];simp)
   go_enter Tryz.func114,Tryz.ntmps114
   go_upto_region 1 with(fail)
   generalize hw1:(w.alloc _).alloc _=w1;obtain⟨hb1,hg,hr1,hr2,hcell,hcell2⟩:=HF.out w1 hw1;have HB1:=Hd hb1;have q0:=hcell w1 (Below.refl _ _) 0;have p0:=hcell2 w1 (Below.refl _ _) 0;have q1:=hcell w1 (Below.refl _ _) 1;have p1:=hcell2 w1 (Below.refl _ _) 1;have q2:=hcell w1 (Below.refl _ _) 2;have p2:=hcell2 w1 (Below.refl _ _) 2;have q3:=hcell w1 (Below.refl _ _) 3;have p3:=hcell2 w1 (Below.refl _ _) 3;have q4:=hcell w1 (Below.refl _ _) 4;have p4:=hcell2 w1 (Below.refl _ _) 4;have q5:=hcell w1 (Below.refl _ _) 5;have p5:=hcell2 w1 (Below.refl _ _) 5;clear hcell hcell2 hb1 hr1 hr2 hw1 HF
   go_wp2_with fail
   go_ret
   exact⟨ret_bool HN.out.symm,HB1.out⟩
  | true=>
   cases bs with
   | false=>
    have HN:=Hd (show res=false by rw [HS.out];simp)
    go_enter Tryz.func114,Tryz.ntmps114
    go_upto_region 1 with(fail)
    generalize hw1:(w.alloc _).alloc _=w1;obtain⟨hb1,hg,hr1,hr2,hcell,hcell2⟩:=HF.out w1 hw1;have HB1:=Hd hb1;have q0:=hcell w1 (Below.refl _ _) 0;have p0:=hcell2 w1 (Below.refl _ _) 0;have q1:=hcell w1 (Below.refl _ _) 1;have p1:=hcell2 w1 (Below.refl _ _) 1;have q2:=hcell w1 (Below.refl _ _) 2;have p2:=hcell2 w1 (Below.refl _ _) 2;have q3:=hcell w1 (Below.refl _ _) 3;have p3:=hcell2 w1 (Below.refl _ _) 3;have q4:=hcell w1 (Below.refl _ _) 4;have p4:=hcell2 w1 (Below.refl _ _) 4;have q5:=hcell w1 (Below.refl _ _) 5;have p5:=hcell2 w1 (Below.refl _ _) 5;clear hcell hcell2 hb1 hr1 hr2 hw1 HF
    go_wp2_with fail
    go_ret
    exact⟨ret_bool HN.out.symm,HB1.out⟩
   | true=>
    cases bo with
    | false=>
     have HN:=Hd (show res=false by rw [HS.out];simp)
     go_enter Tryz.func114,Tryz.ntmps114
     go_upto_region 1 with(fail)
     generalize hw1:(w.alloc _).alloc _=w1;obtain⟨hb1,hg,hr1,hr2,hcell,hcell2⟩:=HF.out w1 hw1;have HB1:=Hd hb1;have q0:=hcell w1 (Below.refl _ _) 0;have p0:=hcell2 w1 (Below.refl _ _) 0;have q1:=hcell w1 (Below.refl _ _) 1;have p1:=hcell2 w1 (Below.refl _ _) 1;have q2:=hcell w1 (Below.refl _ _) 2;have p2:=hcell2 w1 (Below.refl _ _) 2;have q3:=hcell w1 (Below.refl _ _) 3;have p3:=hcell2 w1 (Below.refl _ _) 3;have q4:=hcell w1 (Below.refl _ _) 4;have p4:=hcell2 w1 (Below.refl _ _) 4;have q5:=hcell w1 (Below.refl _ _) 5;have p5:=hcell2 w1 (Below.refl _ _) 5;clear hcell hcell2 hb1 hr1 hr2 hw1 HF
     go_wp2_with fail
     go_ret
     exact⟨ret_bool HN.out.symm,HB1.out⟩
    | true=>
     have HN:=Hd (show res=nb by rw [HS.out];simp)
     go_enter Tryz.func114,Tryz.ntmps114
     go_upto_region 1 with(fail)
     generalize hw1:(w.alloc _).alloc _=w1;obtain⟨hb1,hg,hr1,hr2,hcell,hcell2⟩:=HF.out w1 hw1;have HB1:=Hd hb1;have q0:=hcell w1 (Below.refl _ _) 0;have p0:=hcell2 w1 (Below.refl _ _) 0;have q1:=hcell w1 (Below.refl _ _) 1;have p1:=hcell2 w1 (Below.refl _ _) 1;have q2:=hcell w1 (Below.refl _ _) 2;have p2:=hcell2 w1 (Below.refl _ _) 2;have q3:=hcell w1 (Below.refl _ _) 3;have p3:=hcell2 w1 (Below.refl _ _) 3;have q4:=hcell w1 (Below.refl _ _) 4;have p4:=hcell2 w1 (Below.refl _ _) 4;have q5:=hcell w1 (Below.refl _ _) 5;have p5:=hcell2 w1 (Below.refl _ _) 5;have HN1:=Hd (HNM.out w1 hb1);clear hcell hcell2 hb1 hr1 hr2 hw1 HF
     go_wp2_with fail
     refine HN1.out.mono ?_;rintro r w2 ⟨rfl,hb2⟩;have HB2:=Hd (HB1.out.trans (hb2.mono HB1.out.size));clear hb2
     go_wp2_with fail
     go_ret
     exact⟨ret_bool HN.out.symm,HB2.out⟩
end
section
open Go.RowKit Go.Sort
end
end Go.Proofs.YtegjgiofmpolnaaGreat
