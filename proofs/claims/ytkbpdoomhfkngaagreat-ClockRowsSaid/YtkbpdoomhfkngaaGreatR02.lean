/- Parts of the proof: IdA, IdB, IdC, IdD, IdE, IdF, IdG, IdH, IdI, IdJ, ExK, ExN, ExV, TyE. Conditions: each theorem's own. -/
import Derived.Laws.RangeAny
import Derived.Maps.OwnSet
import Derived.Maps.OwnOps
import Derived.Test.YtkbpdoomhfkngaaGreatR01
namespace Go.Proofs.YtkbpdoomhfkngaaGreat
set_option linter.unusedVariables false
set_option linter.unusedSimpArgs false
set_option maxRecDepth 100000
set_option maxHeartbeats 40000000
section
open Go.RowKit
theorem idSmall(x:Int) (w:World):Calls Tryz.prog 133 #[.int .i32 x] w fun e w'=>e=.returned (.bool (smallB x))∧w=w':=by
 by_cases h1:97≤x
 all_goals
  go_enter Tryz.func133,Tryz.ntmps133
  go_wp2
  go_ret
  exact⟨ret_bool (by rw [Bool.eq_iff_iff];simp [smallB,h1] <;> omega),rfl⟩
theorem idGreat(x:Int) (w:World):Calls Tryz.prog 165 #[.int .i32 x] w fun e w'=>e=.returned (.bool (greatB x))∧w=w':=by
 by_cases h1:65≤x
 all_goals
  go_enter Tryz.func165,Tryz.ntmps165
  go_wp2
  go_ret
  exact⟨ret_bool (by rw [Bool.eq_iff_iff];simp [greatB,h1] <;> omega),rfl⟩
theorem idDigit(x:Int) (w:World):Calls Tryz.prog 182 #[.int .i32 x] w fun e w'=>e=.returned (.bool (digitB x))∧w=w':=by
 by_cases h1:48≤x
 all_goals
  go_enter Tryz.func182,Tryz.ntmps182
  go_wp2
  go_ret
  exact⟨ret_bool (by rw [Bool.eq_iff_iff];simp [digitB,h1] <;> omega),rfl⟩
theorem idInName(x:Int) (w:World):Calls Tryz.prog 166 #[.int .i32 x] w fun e w'=>e=.returned (.bool (nameC x))∧w=w':=by
 by_cases h1:smallB x=true
 · go_enter Tryz.func166,Tryz.ntmps166
   go_wp2_with fail
   refine(idSmall x _).mono ?_;rintro e w' ⟨rfl,rfl⟩
   go_wp2_with fail
   go_ret
   exact⟨ret_bool (by simp [nameC,h1]),rfl⟩
 · have h1:smallB x=false:=by simpa using h1
   by_cases h2:greatB x=true
   · go_enter Tryz.func166,Tryz.ntmps166
     go_wp2_with fail
     refine(idSmall x _).mono ?_;rintro e w' ⟨rfl,rfl⟩
     go_wp2_with fail
     refine(idGreat x _).mono ?_;rintro e w' ⟨rfl,rfl⟩
     go_wp2_with fail
     go_ret
     exact⟨ret_bool (by simp [nameC,h2]),rfl⟩
   · have h2:greatB x=false:=by simpa using h2
     by_cases h3:digitB x=true
     all_goals
      go_enter Tryz.func166,Tryz.ntmps166
      go_wp2_with fail
      refine(idSmall x _).mono ?_;rintro e w' ⟨rfl,rfl⟩
      go_wp2_with fail
      refine(idGreat x _).mono ?_;rintro e w' ⟨rfl,rfl⟩
      go_wp2_with fail
      refine(idDigit x _).mono ?_;rintro e w' ⟨rfl,rfl⟩
      go_wp2_with fail
      go_ret
      exact⟨ret_bool (by rw [Bool.eq_iff_iff];simp [nameC,h1,h2,h3]),rfl⟩
theorem liteIndexByte(s:ByteArray) (c:Int) (w:World):
 Calls Tryz.prog 201 #[.string s,.int .u8 c] w fun e w'=>e=.returned (.int .i64 (Lib.indexByte s.data.toList c.toNat.toUInt8))∧w=w':=by
 go_enter Tryz.func201,Tryz.ntmps201
 go_wp2
 rw [run_callFunc_extern Tryz.func205 (by kernel_rfl) (by kernel_rfl) (by kernel_rfl) (e:=Extern.BytealgIndexByte.indexByte) (by kernel_rfl),Lib.run_indexByteString];simp only [Result.andThen];rw [Oper.upon_value]
 go_wp2
 go_ret
 exact⟨rfl,rfl⟩
theorem liteIndex(s:ByteArray) (c:UInt8) (w:World):
 Calls Tryz.prog 200 #[.string s,.string ⟨#[c]⟩] w fun e w'=>e=.returned (.int .i64 (Lib.indexByte s.data.toList c))∧w=w':=by
 go_enter Tryz.func200,Tryz.ntmps200
 go_wp2_with (go_at_call 201;refine(liteIndexByte _ _ _).mono ?_;rintro e w' ⟨rfl,rfl⟩)
 · have h:([c]==s.toList)=true:=by assumption
   go_ret
   refine⟨?_,rfl⟩;have e:s.data.toList=[c]:=by rw [← Lib.toList_data];exact(beq_iff_eq.1 h).symm
   rw [e]
   simp [Lib.indexByte]
 · go_ret
   refine⟨ret_int ?_,rfl⟩
   congr 1
def Cuts(c:UInt8) (s:ByteArray) (w:World) (e:Ending) (w':World):Prop:=
 ∃ (a b:ByteArray) (f:Bool),e=.returned (.tuple #[.string a,.string b,.bool f])∧Below w.heap.size w w'∧c∉a.data.toList ∧
  (f=false→s.data.toList=a.data.toList)∧(f=true→s.data.toList=a.data.toList++c::b.data.toList)
theorem cuts_no{c:UInt8}{s:ByteArray}{w:World}(h:Lib.indexByte s.data.toList c<0):
 Cuts c s w (.returned (.tuple #[.string s,.string ⟨#[]⟩,.bool false])) w:=
 ⟨s,_,false,rfl,Below.refl _ _,index_none h,fun _=>rfl,fun h=>by cases h⟩
theorem cuts_yes{c:UInt8}{s:ByteArray}{w:World}{k m:Nat}{n:Nat}(hn:n=s.size) (h2:k<s.data.toList.length) (h3:c∉s.data.toList.take k) (h4:s.data.toList=s.data.toList.take k++c::s.data.toList.drop (k+1)):
 Cuts c s w (.returned (.tuple #[.string (s.extract 0 k),.string (s.extract (k+1) n),.bool true])) (w.drewN m):=by
 subst hn;have e1:(s.extract 0 k).data.toList=s.data.toList.take k:=by rw [Lib.extract_data];simp
 have e2:(s.extract (k+1) s.size).data.toList=s.data.toList.drop (k+1):=by
  rw [Lib.extract_data,List.take_of_length_le (by rw [Lib.size_eq];simp)]
 refine⟨_,_,true,rfl,below_drewN (Below.refl _ _) m,?_,fun h=>by(cases h),fun _=>?_⟩
 · rw [e1];exact h3
 · rw [e1,e2];exact h4
theorem liteCut(s:ByteArray) (c:UInt8) (w:World) (hs:s.size≤9223372036854775806):
 Calls Tryz.prog 198 #[.string s,.string ⟨#[c]⟩] w (Cuts c s w):=by
 rcases(show Lib.indexByte s.data.toList c<0∨0≤Lib.indexByte s.data.toList c by omega) with h | h
 · have HC:=Hd (cuts_no (w:=w) h);have hge:=Lib.indexByte_ge s.data.toList c;generalize hi:Lib.indexByte s.data.toList c=i at h hge;have HI:=Hd hi;clear hi
   go_enter Tryz.func198,Tryz.ntmps198
   go_wp2_with fail
   refine(liteIndex s c _).mono ?_;rintro e w' ⟨rfl,rfl⟩;rw [HI.out]
   go_wp2_with fail
   exact bodyPost_ret (v:=.tuple #[.string s,.string ⟨#[]⟩,.bool false]) (by simp [results,Tryz.results198,go_sem]) rfl HC.out
 · obtain⟨k,hi,h2,h3,h4⟩:=index_some h;have HC:=fun m=>Hd (cuts_yes (w:=w) (m:=m) (n:=s.size) rfl h2 h3 h4);have hk:k<s.size:=by rw [Lib.size_eq];exact h2
   have HI:=Hd hi;clear hi h h2 h3 h4;have h5:IntKind.i64.wrap ((k:Int)+1)=(k:Int)+1:=IntWalk.i64_in _ (by omega);have h6:((k:Int)+1).toNat=k+1:=by omega
   have h7:(0:Int)≤(k:Int)+1:=by omega
   go_enter Tryz.func198,Tryz.ntmps198
   go_wp2_with fail
   refine(liteIndex s c _).mono ?_;rintro e w' ⟨rfl,rfl⟩;rw [HI.out]
   go_wp2_with fail
   go_quiet (fail)
   go_wp2_with fail
   exact bodyPost_ret (v:=.tuple #[.string (s.extract 0 k),.string (s.extract (k+1) s.size),.bool true]) (by simp [results,Tryz.results198,go_sem]) rfl (HC _).out
theorem strCut(s:ByteArray) (c:UInt8) (w:World) (hs:s.size≤9223372036854775806):
 Calls Tryz.prog 194 #[.string s,.string ⟨#[c]⟩] w (Cuts c s w):=by
 go_enter Tryz.func194,Tryz.ntmps194
 go_wp2_with fail
 refine(liteCut s c _ hs).mono ?_;rintro e w' ⟨a,b,f,rfl,hb,hc,hf,ht⟩;have H:Hid (Cuts c s w (.returned (.tuple #[.string a,.string b,.bool f])) w'):=Hd ⟨a,b,f,rfl,hb,hc,hf,ht⟩;clear hb hc hf ht
 go_wp2_with fail
 exact bodyPost_ret (v:=.tuple #[.string a,.string b,.bool f]) (by simp [results,Tryz.results194,go_sem]) rfl H.out
end
section
open Go.RowKit
theorem word_yes{s:ByteArray}{l:List UInt8}(h:(s.toList==l)=true) (hl:l∈wordsL):wordB s.data.toList=true:=by
 rw [Lib.toList_data] at h;rw [beq_iff_eq.1 h]
 simp [wordB,hl]
theorem both_ways{s:ByteArray}{l:List UInt8}(h:(s.toList==l)=true) (h2:(s.toList==l)=false):False:=by
 rw [h] at h2
 cases h2
theorem word_no{s:ByteArray}(h:∀ l∈wordsL,(s.toList==l)=false):wordB s.data.toList=false:=by
 simp only [wordB,decide_eq_false_iff_not];intro hm;have:=h _ hm;rw [Lib.toList_data] at this
 simp at this
theorem idWord(s:ByteArray) (w:World):Calls Tryz.prog 134 #[.string s] w fun e w'=>e=.returned (.bool (wordB s.data.toList))∧w=w':=by
 go_enter Tryz.func134,Tryz.ntmps134
 go_wp2
 all_goals
  go_ret
  first
   | exact⟨ret_bool (word_yes (by assumption) (by decide)).symm,rfl⟩
   | (exfalso;exact both_ways (by assumption) (by assumption))
   | exact⟨ret_bool (word_no (fun l hl=>by simp only [wordsL,List.mem_cons,List.not_mem_nil,or_false] at hl;rcases hl with h | h | h | h | h | h | h | h | h | h | h | h | h | h | h | h | h | h | h | h | h | h | h | h <;> subst h <;> assumption)).symm,rfl⟩
end
section
open Go.RowKit
end
section
open Go.RowKit
section
variable {P:Int→Bool}{s:ByteArray}
theorem at_list(s:ByteArray) (k:Nat) (h:k<s.size):s.data.toList[k]'(by rw [← Lib.size_eq];exact h)=s[k]'h:=rfl
theorem name_len(h:s.size<1∨12<s.size):nameB P s.data.toList=false:=by
 have:¬ (1≤s.data.toList.length∧s.data.toList.length≤12):=by rw [← Lib.size_eq];omega
 simp only [nameB,decide_eq_false this,Bool.false_and]
theorem at_opt(s:ByteArray) (k:Nat) (h:k<s.size):s.data.toList[k]?=some (s[k]'h):=by
 rw [← at_list s k h,List.getElem?_eq_getElem]
theorem head_at(h:0<s.size):∃ F,s.data.toList=s[0]'h::F:=by
 have hl:=at_opt s 0 h;generalize s[0]'h=c at hl ⊢
 cases e:s.data.toList with
 | nil=>rw [e] at hl;simp at hl
 | cons d F=>rw [e] at hl;simp at hl;exact⟨F,by rw [hl]⟩
theorem name_first(h:0<s.size) (hp:P ((s[0]'h).toNat:Int)=false):nameB P s.data.toList=false:=by
 obtain⟨F,e⟩:=head_at h;rw [e];simp only [nameB,hp,Bool.and_false,Bool.false_and]
theorem name_at{k:Nat}(h:k<s.size) (hp:nameC ((s[k]'h).toNat:Int)=false):nameB P s.data.toList=false:=by
 have hm:s[k]'h∈s.data.toList:=by rw [← at_list s k h];exact List.getElem_mem _
 cases hn:nameB P s.data.toList with
 | false=>rfl
 | true=>rw [nameB_all hn _ hm] at hp;cases hp
theorem name_yes(h1:0<s.size) (h2:s.size≤12) (hp:P ((s[0]'h1).toNat:Int)=true) (ha:∀ k (h:k<s.size),nameC ((s[k]'h).toNat:Int)=true):nameB P s.data.toList=true:=by
 have hz:=Lib.size_eq s
 have hall:s.data.toList.all (fun c=>nameC (c.toNat:Int))=true:=by
  rw [List.all_eq_true];intro c hc;obtain⟨k,hk,e⟩:=List.getElem_of_mem hc;rw [← e,at_list s k (by omega)];exact ha k (by omega)
 have hlen:decide (1≤s.data.toList.length∧s.data.toList.length≤12)=true:=decide_eq_true (by omega);obtain⟨F,e⟩:=head_at h1;unfold nameB;rw [hall,hlen,e];simp only [hp,Bool.and_true]
end
theorem nameC_high{x:Int}(h:128≤x):nameC x=false:=by
 cases hn:nameC x with
 | false=>rfl
 | true=>have:=nameC_bd hn;omega
theorem next_at{P:Program}(w:World) (s:ByteArray) (pos:Nat) (h:pos<s.size):
 ∃ (x:Int) (q:Nat),(∀ ty,(Instr.next (.pointer (some ⟨w.heap.size,0,none⟩)) true ty).run P (w.iter s pos)=.ok (.tuple #[.bool true,.int .i64 pos,.int .i32 x]) (w.iter s q)) ∧
  ((x=((s[pos]'h).toNat:Int)∧q=pos+1)∨(128≤x∧128≤(s[pos]'h).toNat∧pos<q)):=by
 by_cases ha:(s[pos]'h).toNat<128
 · exact⟨_,_,fun ty=>run_next_ascii (P:=P) w s pos ty h ha,.inl ⟨rfl,rfl⟩⟩
 · have:=decode_high s pos h (by omega);exact⟨_,_,fun ty=>run_next_any (P:=P) w s pos ty h,.inr ⟨by omega,by omega,by omega⟩⟩
theorem below_iter(w:World) (s:ByteArray) (q:Nat):Below w.heap.size w (w.iter s q):=(Below.refl _ _).alloc (Nat.le_refl _) _
def NameTo(P:Int→Bool) (s:ByteArray) (pos:Nat):Prop:=
 (∀ k (h:k<s.size),k<pos→nameC ((s[k]'h).toNat:Int)=true)∧(0<pos→∀ h:0<s.size,P ((s[0]'h).toNat:Int)=true)
section
variable {P:Int→Bool}{s:ByteArray}{pos q:Nat}{x:Int}
theorem nameTo_zero:NameTo P s 0:=⟨fun k h hk=>absurd hk (by omega),fun h=>absurd h (by omega)⟩
theorem nameTo_lt(hp:pos<s.size) (hx:(x=((s[pos]'hp).toNat:Int)∧q=pos+1)∨(128≤x∧128≤(s[pos]'hp).toNat∧pos<q)):pos<q:=by
 rcases hx with⟨_,h⟩|⟨_,_,h⟩ <;> omega
theorem nameTo_step(H:NameTo P s pos) (hp:pos<s.size) (hx:(x=((s[pos]'hp).toNat:Int)∧q=pos+1)∨(128≤x∧128≤(s[pos]'hp).toNat∧pos<q))
 (h1:pos=0→P x=true) (h2:nameC x=true):q≤s.size∧NameTo P s q:=by
 rcases hx with⟨rfl,rfl⟩|⟨h,_,_⟩
 · refine⟨by omega,fun k hk hlt=>?_,fun _ h0=>?_⟩
   · rcases Nat.lt_or_ge k pos with h | h
     · exact H.1 k hk h
     · obtain rfl:k=pos:=by omega
       exact h2
   · rcases Nat.eq_zero_or_pos pos with h | h
     · subst h;exact h1 rfl
     · exact H.2 h h0
 · rw [nameC_high h] at h2
   cases h2
theorem nameTo_bad(hp:pos<s.size) (hx:(x=((s[pos]'hp).toNat:Int)∧q=pos+1)∨(128≤x∧128≤(s[pos]'hp).toNat∧pos<q)) (h2:nameC x=false):nameB P s.data.toList=false:=by
 rcases hx with⟨rfl,rfl⟩|⟨_,h,_⟩
 · exact name_at hp h2
 · exact name_at hp (nameC_high (by omega))
theorem nameTo_first(hz:pos=0) (hp:pos<s.size) (hx:(x=((s[pos]'hp).toNat:Int)∧q=pos+1)∨(128≤x∧128≤(s[pos]'hp).toNat∧pos<q)) (h2:P x=false):nameB P s.data.toList=false:=by
 subst hz;rcases hx with⟨rfl,rfl⟩|⟨_,h,_⟩
 · exact name_first hp h2
 · exact name_at hp (nameC_high (by omega))
theorem nameTo_end(H:NameTo P s pos) (h0:0<s.size) (h12:s.size≤12) (he:s.size≤pos):nameB P s.data.toList=true:=
 name_yes h0 h12 (H.2 (by omega) h0) fun k h=>H.1 k h (by omega)
end
theorem idName(K:FuncId) (P:Int→Bool) (hK:(K=133∧P=smallB)∨(K=165∧P=greatB)) (s:ByteArray) (w:World) (hs:s.size≤9223372036854775807):
 Calls Tryz.prog 132 #[.string s,.func (.func K) #[] #[]] w fun e w'=>e=.returned (.bool (nameB P s.data.toList))∧Below w.heap.size w w':=by
 by_cases h1:s.size<1
 · go_enter Tryz.func132,Tryz.ntmps132
   go_wp2
   go_ret
   exact⟨ret_bool (name_len (.inl h1)).symm,Below.refl _ _⟩
 · by_cases h2:12<s.size
   · go_enter Tryz.func132,Tryz.ntmps132
     go_wp2
     go_ret
     exact⟨ret_bool (name_len (.inr h2)).symm,Below.refl _ _⟩
   · have hd1:decide ((s.size:Int)<1)=false:=decide_eq_false (by omega);have hd2:decide ((12:Int)<(s.size:Int))=false:=decide_eq_false (by omega);have h0:0<s.size:=by omega
     have h12:s.size≤12:=by omega
     clear h1 h2;rcases hK with⟨rfl,rfl⟩|⟨rfl,rfl⟩
     · go_enter Tryz.func132,Tryz.ntmps132
       go_wp2_with fail
       clear hd1 hd2
       go_loopw [5] (fun _ wr=>∃ pos:Nat,pos≤s.size∧wr=w.iter s pos∧NameTo smallB s pos) (fun _ wr=>s.size-wr.iterPos w.heap.size)
       case atStart=>exact⟨0,by omega,rfl,nameTo_zero⟩
       case round=>
        obtain⟨pos,hle,rfl,hrel⟩:=hrel;have HR:=Hd hrel;clear hrel
        by_cases hp:pos<s.size
        · obtain⟨x,q,hnx,hx⟩:=next_at (P:=Tryz.prog) w s pos hp;have HX:=Hd hx;clear hx;have hpi:((pos:Int)==0)=decide (pos=0):=by rw [Bool.eq_iff_iff];simp
          generalize (pos:Int)=pi at hnx hpi
          by_cases hz:pos=0
          · have hpi:(pi==0)=true:=by rw [hpi];exact decide_eq_true hz
            have HZ:=Hd hz;clear hz
            by_cases hx1:smallB x=true
            · by_cases hx2:nameC x=true
              · go_wp2_with (first | (go_at_call 133;refine(idSmall x _).mono ?_;rintro e w' ⟨rfl,rfl⟩) | (go_at_call 166;refine(idInName x _).mono ?_;rintro e w' ⟨rfl,rfl⟩))
                go_roundw
                case rel=>exact⟨q,(nameTo_step HR.out hp HX.out (fun _=>hx1) hx2).1,rfl,(nameTo_step HR.out hp HX.out (fun _=>hx1) hx2).2⟩
                case measure=>simp;have:=nameTo_lt hp HX.out;omega
              · have hx2:nameC x=false:=by simpa using hx2
                go_wp2_with (first | (go_at_call 133;refine(idSmall x _).mono ?_;rintro e w' ⟨rfl,rfl⟩) | (go_at_call 166;refine(idInName x _).mono ?_;rintro e w' ⟨rfl,rfl⟩))
                go_ret
                exact⟨ret_bool (nameTo_bad hp HX.out hx2).symm,below_iter _ _ _⟩
            · have hx1:smallB x=false:=by simpa using hx1
              go_wp2_with (first | (go_at_call 133;refine(idSmall x _).mono ?_;rintro e w' ⟨rfl,rfl⟩) | (go_at_call 166;refine(idInName x _).mono ?_;rintro e w' ⟨rfl,rfl⟩))
              go_ret
              exact⟨ret_bool (nameTo_first HZ.out hp HX.out hx1).symm,below_iter _ _ _⟩
          · have hpi:(pi==0)=false:=by rw [hpi];exact decide_eq_false hz
            have HZ:=Hd hz;clear hz
            by_cases hx2:nameC x=true
            · go_wp2_with (first | (go_at_call 133;refine(idSmall x _).mono ?_;rintro e w' ⟨rfl,rfl⟩) | (go_at_call 166;refine(idInName x _).mono ?_;rintro e w' ⟨rfl,rfl⟩))
              go_roundw
              case rel=>exact⟨q,(nameTo_step HR.out hp HX.out (fun h=>absurd h HZ.out) hx2).1,rfl,(nameTo_step HR.out hp HX.out (fun h=>absurd h HZ.out) hx2).2⟩
              case measure=>simp;have:=nameTo_lt hp HX.out;omega
            · have hx2:nameC x=false:=by simpa using hx2
              go_wp2_with (first | (go_at_call 133;refine(idSmall x _).mono ?_;rintro e w' ⟨rfl,rfl⟩) | (go_at_call 166;refine(idInName x _).mono ?_;rintro e w' ⟨rfl,rfl⟩))
              go_ret
              exact⟨ret_bool (nameTo_bad hp HX.out hx2).symm,below_iter _ _ _⟩
        · have hnx:∀ ty,(Instr.next (.pointer (some ⟨w.heap.size,0,none⟩)) true ty).run Tryz.prog (w.iter s pos)=_:=fun ty=>run_next_end w s pos ty hp
          go_wp2_with fail
          go_ret
          exact⟨ret_bool (nameTo_end HR.out h0 h12 (by omega)).symm,below_iter _ _ _⟩
     · go_enter Tryz.func132,Tryz.ntmps132
       go_wp2_with fail
       clear hd1 hd2
       go_loopw [5] (fun _ wr=>∃ pos:Nat,pos≤s.size∧wr=w.iter s pos∧NameTo greatB s pos) (fun _ wr=>s.size-wr.iterPos w.heap.size)
       case atStart=>exact⟨0,by omega,rfl,nameTo_zero⟩
       case round=>
        obtain⟨pos,hle,rfl,hrel⟩:=hrel;have HR:=Hd hrel;clear hrel
        by_cases hp:pos<s.size
        · obtain⟨x,q,hnx,hx⟩:=next_at (P:=Tryz.prog) w s pos hp;have HX:=Hd hx;clear hx;have hpi:((pos:Int)==0)=decide (pos=0):=by rw [Bool.eq_iff_iff];simp
          generalize (pos:Int)=pi at hnx hpi
          by_cases hz:pos=0
          · have hpi:(pi==0)=true:=by rw [hpi];exact decide_eq_true hz
            have HZ:=Hd hz;clear hz
            by_cases hx1:greatB x=true
            · by_cases hx2:nameC x=true
              · go_wp2_with (first | (go_at_call 165;refine(idGreat x _).mono ?_;rintro e w' ⟨rfl,rfl⟩) | (go_at_call 166;refine(idInName x _).mono ?_;rintro e w' ⟨rfl,rfl⟩))
                go_roundw
                case rel=>exact⟨q,(nameTo_step HR.out hp HX.out (fun _=>hx1) hx2).1,rfl,(nameTo_step HR.out hp HX.out (fun _=>hx1) hx2).2⟩
                case measure=>simp;have:=nameTo_lt hp HX.out;omega
              · have hx2:nameC x=false:=by simpa using hx2
                go_wp2_with (first | (go_at_call 165;refine(idGreat x _).mono ?_;rintro e w' ⟨rfl,rfl⟩) | (go_at_call 166;refine(idInName x _).mono ?_;rintro e w' ⟨rfl,rfl⟩))
                go_ret
                exact⟨ret_bool (nameTo_bad hp HX.out hx2).symm,below_iter _ _ _⟩
            · have hx1:greatB x=false:=by simpa using hx1
              go_wp2_with (first | (go_at_call 165;refine(idGreat x _).mono ?_;rintro e w' ⟨rfl,rfl⟩) | (go_at_call 166;refine(idInName x _).mono ?_;rintro e w' ⟨rfl,rfl⟩))
              go_ret
              exact⟨ret_bool (nameTo_first HZ.out hp HX.out hx1).symm,below_iter _ _ _⟩
          · have hpi:(pi==0)=false:=by rw [hpi];exact decide_eq_false hz
            have HZ:=Hd hz;clear hz
            by_cases hx2:nameC x=true
            · go_wp2_with (first | (go_at_call 165;refine(idGreat x _).mono ?_;rintro e w' ⟨rfl,rfl⟩) | (go_at_call 166;refine(idInName x _).mono ?_;rintro e w' ⟨rfl,rfl⟩))
              go_roundw
              case rel=>exact⟨q,(nameTo_step HR.out hp HX.out (fun h=>absurd h HZ.out) hx2).1,rfl,(nameTo_step HR.out hp HX.out (fun h=>absurd h HZ.out) hx2).2⟩
              case measure=>simp;have:=nameTo_lt hp HX.out;omega
            · have hx2:nameC x=false:=by simpa using hx2
              go_wp2_with (first | (go_at_call 165;refine(idGreat x _).mono ?_;rintro e w' ⟨rfl,rfl⟩) | (go_at_call 166;refine(idInName x _).mono ?_;rintro e w' ⟨rfl,rfl⟩))
              go_ret
              exact⟨ret_bool (nameTo_bad hp HX.out hx2).symm,below_iter _ _ _⟩
        · have hnx:∀ ty,(Instr.next (.pointer (some ⟨w.heap.size,0,none⟩)) true ty).run Tryz.prog (w.iter s pos)=_:=fun ty=>run_next_end w s pos ty hp
          go_wp2_with fail
          go_ret
          exact⟨ret_bool (nameTo_end HR.out h0 h12 (by omega)).symm,below_iter _ _ _⟩
end
section
open Go.RowKit
theorem idLow(s:ByteArray) (w:World) (hs:s.size≤9223372036854775807):
 Calls Tryz.prog 98 #[.string s] w fun e w'=>e=.returned (.bool (lowB s.data.toList))∧Below w.heap.size w w':=by
 by_cases h1:nameB smallB s.data.toList=true
 · have HE:=Hd (show(!wordB s.data.toList)=lowB s.data.toList by simp [lowB,h1])
   go_enter Tryz.func98,Tryz.ntmps98
   go_wp2_with fail
   refine(idName _ smallB (.inl ⟨rfl,rfl⟩) s _ hs).mono ?_;rintro e w' ⟨rfl,hb⟩;have HB:=Hd hb;clear hb
   go_wp2_with fail
   refine(idWord s _).mono ?_;rintro e w' ⟨rfl,rfl⟩
   go_wp2_with fail
   go_ret
   exact⟨ret_bool HE.out,HB.out⟩
 · have h1:nameB smallB s.data.toList=false:=by simpa using h1
   have HE:=Hd (show false=lowB s.data.toList by simp [lowB,h1])
   go_enter Tryz.func98,Tryz.ntmps98
   go_wp2_with fail
   refine(idName _ smallB (.inl ⟨rfl,rfl⟩) s _ hs).mono ?_;rintro e w' ⟨rfl,hb⟩;have HB:=Hd hb;clear hb
   go_wp2_with fail
   go_ret
   exact⟨ret_bool HE.out,HB.out⟩
theorem idHigh(s:ByteArray) (w:World) (hs:s.size≤9223372036854775807):
 Calls Tryz.prog 131 #[.string s] w fun e w'=>e=.returned (.bool (highB s.data.toList))∧Below w.heap.size w w':=by
 have HE:=Hd (show nameB greatB s.data.toList=highB s.data.toList from rfl)
 go_enter Tryz.func131,Tryz.ntmps131
 go_wp2_with fail
 refine(idName _ greatB (.inr ⟨rfl,rfl⟩) s _ hs).mono ?_;rintro e w' ⟨rfl,hb⟩;have HB:=Hd hb;clear hb
 go_wp2_with fail
 go_ret
 exact⟨ret_bool HE.out,HB.out⟩
section
variable {s:ByteArray}
theorem num_len(h:s.size<1∨3<s.size):numB s.data.toList=false:=by
 have:¬ (1≤s.data.toList.length∧s.data.toList.length≤3):=by rw [← Lib.size_eq];omega
 simp only [numB,decide_eq_false this,Bool.false_and]
theorem num_first(h:0<s.size) (hp:((s[0]'h).toNat:Int)=48):numB s.data.toList=false:=by
 obtain⟨F,e⟩:=head_at h;have h48:s[0]'h=48:=UInt8.toNat_inj.1 (by simpa using (by omega:(s[0]'h).toNat=48));rw [e]
 simp [numB,h48]
theorem num_at{k:Nat}(h:k<s.size) (hp:digitB ((s[k]'h).toNat:Int)=false):numB s.data.toList=false:=by
 have hm:s[k]'h∈s.data.toList:=by rw [← at_list s k h];exact List.getElem_mem _
 cases hn:numB s.data.toList with
 | false=>rfl
 | true=>
  simp only [numB,Bool.and_eq_true,List.all_eq_true] at hn;rw [hn.2 _ hm] at hp
  cases hp
theorem num_yes(h1:0<s.size) (h2:s.size≤3) (hp:¬ ((s[0]'h1).toNat:Int)=48) (ha:∀ k (h:k<s.size),digitB ((s[k]'h).toNat:Int)=true):numB s.data.toList=true:=by
 have hz:=Lib.size_eq s
 have hall:s.data.toList.all (fun c=>digitB (c.toNat:Int))=true:=by
  rw [List.all_eq_true];intro c hc;obtain⟨k,hk,e⟩:=List.getElem_of_mem hc;rw [← e,at_list s k (by omega)];exact ha k (by omega)
 have hlen:decide (1≤s.data.toList.length∧s.data.toList.length≤3)=true:=decide_eq_true (by omega);obtain⟨F,e⟩:=head_at h1;have h48:¬ s[0]'h1=48:=fun e=>hp (by rw [e];rfl);unfold numB;rw [hall,hlen,e]
 simp [h48]
end
theorem digitB_high{x:Int}(h:128≤x):digitB x=false:=by
 simp [digitB];omega
def Digits(s:ByteArray) (pos:Nat):Prop:=∀ k (h:k<s.size),k<pos→digitB ((s[k]'h).toNat:Int)=true
theorem digits_zero{s:ByteArray}:Digits s 0:=fun k h hk=>absurd hk (by omega)
theorem digits_snoc{s:ByteArray}{k:Nat}(H:Digits s k) (hlt:k<s.size) (hx:digitB ((s[k]'hlt).toNat:Int)=true):Digits s (k+1):=fun j h hj=>by
 rcases Nat.lt_or_ge j k with h1 | h1
 · exact H j h h1
 · obtain rfl:j=k:=by omega
   exact hx
theorem digits_step{s:ByteArray}{pos q:Nat}{x:Int}(H:Digits s pos) (hp:pos<s.size) (hx:(x=((s[pos]'hp).toNat:Int)∧q=pos+1)∨(128≤x∧128≤(s[pos]'hp).toNat∧pos<q))
 (h2:digitB x=true):q≤s.size∧Digits s q:=by
 rcases hx with⟨rfl,rfl⟩|⟨h,_,_⟩
 · exact⟨by omega,digits_snoc H hp h2⟩
 · rw [digitB_high h] at h2
   cases h2
theorem digits_bad{s:ByteArray}{pos q:Nat}{x:Int}(hp:pos<s.size) (hx:(x=((s[pos]'hp).toNat:Int)∧q=pos+1)∨(128≤x∧128≤(s[pos]'hp).toNat∧pos<q)) (h2:digitB x=false):numB s.data.toList=false:=by
 rcases hx with⟨rfl,rfl⟩|⟨_,h,_⟩
 · exact num_at hp h2
 · exact num_at hp (digitB_high (by omega))
theorem idNumber(s:ByteArray) (w:World) (hs:s.size≤9223372036854775807):
 Calls Tryz.prog 199 #[.string s] w fun e w'=>e=.returned (.bool (numB s.data.toList))∧Below w.heap.size w w':=by
 by_cases h1:s.size<1
 · go_enter Tryz.func199,Tryz.ntmps199
   go_wp2_with fail
   go_ret
   exact⟨ret_bool (num_len (.inl h1)).symm,Below.refl _ _⟩
 · by_cases h2:3<s.size
   · go_enter Tryz.func199,Tryz.ntmps199
     go_wp2_with fail
     go_ret
     exact⟨ret_bool (num_len (.inr h2)).symm,Below.refl _ _⟩
   · have hd1:decide ((s.size:Int)<1)=false:=decide_eq_false (by omega);have hd2:decide ((3:Int)<(s.size:Int))=false:=decide_eq_false (by omega);have h0:0<s.size:=by omega
     have h3:s.size≤3:=by omega
     clear h1 h2
     by_cases hf:((s[0]'h0).toNat:Int)=48
     · have HF:=Hd hf;have hfb:(((s[0]'h0).toNat:Int)==48)=true:=by simpa using hf
       clear hf
       go_enter Tryz.func199,Tryz.ntmps199
       go_wp2_with fail
       go_ret
       exact⟨ret_bool (num_first h0 HF.out).symm,Below.refl _ _⟩
     · have HF:=Hd hf;have hfb:(((s[0]'h0).toNat:Int)==48)=false:=by simpa using hf
       clear hf
       go_enter Tryz.func199,Tryz.ntmps199
       go_wp2_with fail
       clear hd1 hd2 hfb
       go_loopw [4] (fun _ wr=>∃ pos:Nat,pos≤s.size∧wr=w.iter s pos∧Digits s pos) (fun _ wr=>s.size-wr.iterPos w.heap.size)
       case atStart=>exact⟨0,by omega,rfl,digits_zero⟩
       case round=>
        obtain⟨pos,hle,rfl,hrel⟩:=hrel;have HR:=Hd hrel;clear hrel
        by_cases hp:pos<s.size
        · obtain⟨x,q,hnx,hx⟩:=next_at (P:=Tryz.prog) w s pos hp;have HX:=Hd hx;clear hx
          by_cases hx2:digitB x=true
          · go_wp2_with (go_at_call 182;refine(idDigit x _).mono ?_;rintro e w' ⟨rfl,rfl⟩)
            go_roundw
            case rel=>exact⟨q,(digits_step HR.out hp HX.out hx2).1,rfl,(digits_step HR.out hp HX.out hx2).2⟩
            case measure=>simp;have:=nameTo_lt hp HX.out;omega
          · have hx2:digitB x=false:=by simpa using hx2
            go_wp2_with (go_at_call 182;refine(idDigit x _).mono ?_;rintro e w' ⟨rfl,rfl⟩)
            go_ret
            exact⟨ret_bool (digits_bad hp HX.out hx2).symm,below_iter _ _ _⟩
        · have hnx:∀ ty,(Instr.next (.pointer (some ⟨w.heap.size,0,none⟩)) true ty).run Tryz.prog (w.iter s pos)=_:=fun ty=>run_next_end w s pos ty hp
          go_wp2_with fail
          go_ret
          exact⟨ret_bool (num_yes h0 h3 HF.out fun k h=>HR.out k h (by omega)).symm,below_iter _ _ _⟩
end
section
open Go.RowKit
theorem cut_sizes{c:UInt8}{s a b:ByteArray}{f:Bool}(hf:f=false→s.data.toList=a.data.toList) (ht:f=true→s.data.toList=a.data.toList++c::b.data.toList):
 a.size≤s.size∧(f=true→b.size<s.size):=by
 have h1:=Lib.size_eq s;have h2:=Lib.size_eq a;have h3:=Lib.size_eq b
 cases f with
 | false=>have:=hf rfl;rw [← this] at h2;exact⟨by omega,fun h=>by cases h⟩
 | true=>
  have:=congrArg List.length (ht rfl);simp only [List.length_append,List.length_cons] at this;exact⟨by omega,fun _=>by omega⟩
theorem idPart(s:ByteArray) (w:World) (hs:s.size≤9223372036854775806):
 Calls Tryz.prog 195 #[.string s] w fun e w'=>e=.returned (.bool (partB s.data.toList))∧Below w.heap.size w w':=by
 go_enter Tryz.func195,Tryz.ntmps195
 go_wp2_with fail
 refine(strCut s 46 _ hs).mono ?_;rintro e w1 ⟨a,b,f,rfl,hb,hc,hf,ht⟩;have hsz:=cut_sizes hf ht;have HB:=Hd hb;clear hb
 by_cases hl:lowB a.data.toList=true
 · cases f with
   | false=>
    have HE:=Hd (show true=partB s.data.toList by rw [hf rfl,partB_none hc,hl]);clear hf ht hc;have ha:=hsz.1;clear hsz
    go_wp2_with fail
    refine(idLow a _ (by omega)).mono ?_;rintro e w2 ⟨rfl,hb⟩;have HB2:=Hd (below_trans2 HB.out hb);clear hb
    go_wp2_with fail
    go_ret
    exact⟨ret_bool HE.out,HB2.out⟩
   | true=>
    have HE:=Hd (show numB b.data.toList=partB s.data.toList by rw [ht rfl,partB_at hc,hl];rfl);clear hf ht hc;have ha:=hsz.1;have hbz:=hsz.2 rfl;clear hsz
    go_wp2_with fail
    refine(idLow a _ (by omega)).mono ?_;rintro e w2 ⟨rfl,hb⟩;have HB2:=Hd (below_trans2 HB.out hb);clear hb
    go_wp2_with fail
    refine(idNumber b _ (by omega)).mono ?_;rintro e w3 ⟨rfl,hb⟩;have HB3:=Hd (below_trans2 HB2.out hb);clear hb
    go_wp2_with fail
    go_ret
    exact⟨ret_bool HE.out,HB3.out⟩
 · have hl:lowB a.data.toList=false:=by simpa using hl
   have HE:Hid (false=partB s.data.toList):=by
    refine Hd ?_
    cases f with
    | false=>rw [hf rfl,partB_none hc,hl]
    | true=>rw [ht rfl,partB_at hc,hl];rfl
   clear hf ht hc;have ha:=hsz.1;clear hsz
   go_wp2_with fail
   refine(idLow a _ (by omega)).mono ?_;rintro e w2 ⟨rfl,hb⟩;have HB2:=Hd (below_trans2 HB.out hb);clear hb
   go_wp2_with fail
   go_ret
   exact⟨ret_bool HE.out,HB2.out⟩
def szOf:Value→Nat
 | .string s=>s.size
 | _=>0
theorem idPath(s:ByteArray) (w:World) (hs:s.size≤9223372036854775806):
 Calls Tryz.prog 190 #[.string s] w fun e w'=>e=.returned (.bool (pathB s.data.toList))∧Below w.heap.size w w':=by
 go_enter Tryz.func190,Tryz.ntmps190
 go_wp2_with fail
 go_loopw [0] (fun v wr=>∃ t:ByteArray,v=.string t∧t.size≤s.size∧pathB s.data.toList=pathB t.data.toList∧Below w.heap.size w wr) (fun v _=>szOf v)
 case atStart=>exact⟨s,rfl,Nat.le_refl _,rfl,Below.refl _ _⟩
 case round=>
  obtain⟨t,rfl,hts,hpt,hb0⟩:=hrel;have HP:=Hd hpt;have HB0:=Hd hb0;clear hpt hb0
  go_wp2_with fail
  refine(strCut t 47 _ (by omega)).mono ?_;rintro e w1 ⟨a,b,f,rfl,hb,hc,hf,ht⟩;have hsz:=cut_sizes hf ht;have HB:=Hd (HB0.out.trans (hb.mono HB0.out.size));clear hb;have ha:=hsz.1
  by_cases hl:partB a.data.toList=true
  · cases f with
    | false=>
     have HE:=Hd (show true=pathB s.data.toList by rw [HP.out,hf rfl,path_none hc,hl]);clear hf ht hc hsz
     go_wp2_with fail
     refine(idPart a _ (by omega)).mono ?_;rintro e w2 ⟨rfl,hb⟩;have HB2:=Hd (HB.out.trans (hb.mono HB.out.size));clear hb
     go_wp2_with fail
     go_ret
     exact⟨ret_bool HE.out,HB2.out⟩
    | true=>
     have HE:=Hd (show pathB s.data.toList=pathB b.data.toList by rw [HP.out,ht rfl,path_at hc,hl];rfl);have hbz:=hsz.2 rfl;clear hf ht hc hsz
     go_wp2_with fail
     refine(idPart a _ (by omega)).mono ?_;rintro e w2 ⟨rfl,hb⟩;have HB2:=Hd (HB.out.trans (hb.mono HB.out.size));clear hb
     go_wp2_with fail
     go_roundw
     case rel=>exact⟨b,rfl,by omega,HE.out,HB2.out⟩
     case measure=>simp [szOf];omega
  · have hl:partB a.data.toList=false:=by simpa using hl
    have HE:Hid (false=pathB s.data.toList):=by
     refine Hd ?_;rw [HP.out]
     cases f with
     | false=>rw [hf rfl,path_none hc,hl]
     | true=>rw [ht rfl,path_at hc,hl];rfl
    clear hf ht hc hsz
    go_wp2_with fail
    refine(idPart a _ (by omega)).mono ?_;rintro e w2 ⟨rfl,hb⟩;have HB2:=Hd (HB.out.trans (hb.mono HB.out.size));clear hb
    go_wp2_with fail
    go_ret
    exact⟨ret_bool HE.out,HB2.out⟩
end
section
open Go.RowKit Go.Maps Go.WideMaps
theorem keyLaw:Keyed Tryz.prog 9:=string_keyed Tryz.underlying9
theorem zeroUnit(w:World):(zeroValue 117).run Tryz.prog w=.ok (.agg #[]) w:=by kernel_rfl
def keysTo(ss:List ByteArray) (k:Nat):DataW Unit:=setOf (.agg []) ((ss.take k).map fun s=>Lit.string s.data.toList)
def onceTo(ss:List ByteArray) (k:Nat):Prop:=((ss.take k).map fun s=>s.data.toList).Nodup
def seenAt(ss:List ByteArray) (k:Nat):Bool:=decide ((ss[k]?.getD ByteArray.empty).data.toList∈(ss.take k).map fun s=>s.data.toList)
def onceS(ss:List ByteArray):Bool:=onceB (ss.map fun s=>s.data.toList)
theorem keysTo_zero(ss:List ByteArray):keysTo ss 0=.map []:=by simp [keysTo,setOf]
theorem take_snocT{ss:List ByteArray}{k:Nat}(h:k<ss.length):ss.take (k+1)=ss.take k++[ss[k]?.getD ByteArray.empty]:=by
 rw [List.take_succ_eq_append_getElem h,List.getElem?_eq_getElem h];rfl
theorem keysTo_succ(ss:List ByteArray) (k:Nat) (h:k<ss.length):keysTo ss (k+1)=(keysTo ss k).put (.string (ss[k]?.getD ByteArray.empty).data.toList) (.agg []):=by
 unfold keysTo;rw [take_snocT h,List.map_append];exact setOf_snoc _ _ _
theorem any_string(x:List UInt8):∀ l:List ByteArray,(l.map fun s=>Lit.string s.data.toList).any (fun y=>y.sameKey (.string x))=decide (x∈l.map fun s=>s.data.toList)
 | []=>rfl
 | a::r=>by
  have e:(Lit.string a.data.toList).sameKey (.string x)=(a.data.toList==x):=rfl;rw [List.map_cons,List.any_cons,any_string x r,List.map_cons,e,Bool.eq_iff_iff];simp only [Bool.or_eq_true,beq_iff_eq,decide_eq_true_eq,List.mem_cons];exact⟨fun h=>h.imp Eq.symm id,fun h=>h.imp Eq.symm id⟩
theorem has_keysTo(ss:List ByteArray) (k:Nat):Maps.has (keysTo ss k) (.string (ss[k]?.getD ByteArray.empty).data.toList)=seenAt ss k:=by
 unfold keysTo seenAt;rw [has_setOf _ _ _ (fun y hy=>by obtain⟨_,_,rfl⟩:=List.mem_map.1 hy;trivial),any_string]
theorem onceTo_zero(ss:List ByteArray):onceTo ss 0:=by simp [onceTo]
theorem onceTo_succ{ss:List ByteArray}{k:Nat}(H:onceTo ss k) (h:k<ss.length) (hn:seenAt ss k=false):onceTo ss (k+1):=by
 unfold onceTo at H ⊢;rw [take_snocT h,List.map_append,List.nodup_append];refine⟨H,by simp,fun a ha b hb=>?_⟩
 simp at hb
 subst hb;intro e;subst e;simp only [seenAt,decide_eq_false_iff_not] at hn;exact hn ha
theorem onceTo_end{ss:List ByteArray}{k:Nat}(H:onceTo ss k) (h:ss.length≤k):onceS ss=true:=by
 unfold onceTo at H;rw [List.take_of_length_le h] at H;exact decide_eq_true H
theorem seen_twice{ss:List ByteArray}{k:Nat}(h:k<ss.length) (hn:seenAt ss k=true):onceS ss=false:=by
 simp only [seenAt,decide_eq_true_eq] at hn;unfold onceS onceB;refine decide_eq_false fun hd=>?_;have e:ss=ss.take k++ss.drop k:=(List.take_append_drop k ss).symm;rw [e,List.map_append,List.nodup_append] at hd
 have hm:(ss[k]?.getD ByteArray.empty)∈ss.drop k:=by
  rw [List.getElem?_eq_getElem h,Option.getD_some,List.drop_eq_getElem_cons h];exact List.mem_cons_self
 exact hd.2.2 _ hn _ (List.mem_map.2 ⟨_,hm,rfl⟩) rfl
theorem idOnce(A:Option Addr) (n c:Nat) (ss:List ByteArray) (w:World) (h:RdT w A n ss) (hz:∀ s∈ss,s.size≤maxLen) (hn:n≤100):
 Calls Tryz.prog 105 #[.slice A n c] w fun e w'=>e=.returned (.bool (onceS ss))∧Below w.heap.size w w':=by
 have hmm:=@run_makeMap Tryz.prog;have HL:=Hd h.len
 go_enter Tryz.func105,Tryz.ntmps105
 go_wp2_with fail
 go_loopw [11] (fun i wr=>∃ k:Nat,k≤n∧i=.int .i64 k∧wr.ownsMap Tryz.prog 9 unitElem w.heap.size k (keysTo ss k)∧Below w.heap.size w wr∧w.heap.size+1≤wr.heap.size∧onceTo ss k)
  (fun i _=>n-(intOf i).toNat)
 case atStart=>exact⟨0,Nat.zero_le _,rfl,by rw [keysTo_zero];exact World.ownsMap_made _ _ _ _,(Below.refl _ _).alloc (Nat.le_refl _) _,by simp,onceTo_zero _⟩
 case round=>
  obtain⟨k,hk,rfl,hown,hnx,hws,honce⟩:=hrel;have HO:=Hd honce;clear honce
  by_cases hlt:k<n
  · obtain⟨b,off,rfl,hb,hc⟩:=h.at_ hlt;have hck:wr.cell? ⟨b,off+k,none⟩=some (.string (ss[k]?.getD ByteArray.empty)):=(hnx.cell hb).trans (hc k hlt);have hkk:k<ss.length:=by rw [HL.out];exact hlt
    have HS:=Hd (keysTo_succ ss k hkk);have hhas:=has_keysTo ss k;have hxm:(ss[k]?.getD ByteArray.empty).size≤maxLen:=hz _ (by rw [List.getElem?_eq_getElem hkk];exact List.getElem_mem _);clear hc hz;generalize hx:ss[k]?.getD ByteArray.empty=x at hck hxm hhas HS;have hkey:keyOf Tryz.prog 9 (.string x)=some (.string x.data.toList):=keyOf_string_mk Tryz.underlying9 hxm;have HX:=Hd hx;have HKK:=Hd hkk;clear hx hkk;have hkk:k<maxLen:=by unfold maxLen;omega
    by_cases hsn:seenAt ss k=true
    · have HSN:=Hd hsn;rw [hsn] at hhas;clear hsn
      go_wp2_with (at_lookup;refine wpList_lookup_own_unit _ rfl _ _ 84 rfl 9 117 keyLaw Tryz.underlying84 (zeroUnit _) w.heap.size k _ rfl hown _ _ rfl hkey ?_)
      go_ret
      exact⟨ret_bool (seen_twice HKK.out HSN.out).symm,hnx.alloc hnx.size _⟩
    · have hsn:seenAt ss k=false:=by simpa using hsn
      have HSN:=Hd hsn;rw [hsn] at hhas;clear hsn
      go_wp2_with (first
       | (at_lookup;refine wpList_lookup_own_unit _ rfl _ _ 84 rfl 9 117 keyLaw Tryz.underlying84 (zeroUnit _) w.heap.size k _ rfl hown _ _ rfl hkey ?_)
       | (at_mapUpdate;refine wpList_mapUpdate_own _ rfl _ _ _ 84 rfl 9 117 keyLaw Tryz.underlying84 (unitElem (H:=Unit)) w.heap.size k _ rfl (hown.alloc _) hkk _ _ _ rfl rfl hkey _ [] unitElem_mk ?_;intro w1 hown1 hgrow1))
      have HW:=Hd hown1;have HG:=Hd hgrow1;have s1:=hgrow1.size
      simp at s1
      clear hown1 hgrow1
      go_roundw
      case rel=>
       refine⟨k+1,by omega,by go_num,?_,?_,by omega,onceTo_succ HO.out HKK.out HSN.out⟩
       · rw [HS.out];exact HW.out
       · exact(hnx.alloc hnx.size _).grown HG.out (by simp;omega) (fun j hj=>by cases hj;exact Nat.le_refl _)
      case measure=>simp [intOf];omega
  · go_wp2_with fail
    go_ret
    exact⟨ret_bool (onceTo_end HO.out (by rw [HL.out];omega)).symm,hnx⟩
end
section
open Go.RowKit
end
section
open Go.RowKit
section
variable {c:UInt8}{s:ByteArray}{ss:List ByteArray}{f i:Nat}
end
theorem infoString:(Tryz.prog.info? 9).map (fun i=>(i.zero,i.size,i.bytes))=some (some (.string ByteArray.empty),1,16):=by kernel_rfl
theorem string_cells(l:List ByteArray):∀ u∈l.map Value.string,u.oneCell'=true:=by
 intro u hu;simp only [List.mem_map] at hu;obtain⟨z,_,rfl⟩:=hu;rfl
end
section
open Go.RowKit
section
variable {s:ByteArray}{ss:List ByteArray}{k:Nat}
end
section
variable {x:ByteArray}{ps:List ByteArray}{m:Nat}
end
end
section
open Go.RowKit Go.Sort
def literalX(x:Ex):Bool:=if x.k==5 then(x.op==1) && (x.subs.length==1) && ((subX x 0).k==1) else(x.k==1) || (x.k==2) || (x.k==4)
def constX(x:Ex):Bool:=if x.k==14 then x.subs.all literalX else literalX x
theorem int_len(n:Nat):((n:Int)==1)=(n==1):=by rw [Bool.eq_iff_iff];simp;omega
def numbersX(x:Ex):Bool:=
 if x.op<(if x.k==6 then 3 else if x.k==5 then 1 else 0)∨(if x.k==6 then 16 else if x.k==5 then 2 else 0)<x.op then false
 else if x.k==1 then decide (0≤x.n) else if(x.k==2 || x.k==13) then(x.n==0 || x.n==1) else x.n==0
end
section
open Go.RowKit Go.Sort
def armB(t:ByteArray):Bool:=highB t.data.toList || (t.toList==[116,114,117,101]) || (t.toList==[102,97,108,115,101])
def armsX(x:Ex):Bool:=x.arms.all armB && (if x.k==11 then x.arms.length==1 else if x.k==12 then decide (1≤x.arms.length) && decide (x.arms.length≤6) && onceS x.arms else x.arms.length==0)
def namedX(x:Ex):Bool:=if x.k==3 || x.k==11 || x.k==12 || x.k==13 then lowB x.s.data.toList else if x.k==4 then highB x.s.data.toList else if x.k==17 then pathB x.s.data.toList else x.s.toList==[]
def subsX(x:Ex):Int × Int:=
 if x.k==5 || x.k==10 || x.k==11 then(1,1) else if x.k==6 || x.k==8 || x.k==9 || x.k==15 then(2,2) else if x.k==7 || x.k==16 then(3,3)
 else if x.k==12 then(x.arms.length,x.arms.length) else if x.k==13 then(x.n,6+x.n) else if x.k==14 then(1,8) else(0,0)
end
section
open Go.RowKit Go.Sort
def ShortP(p:Ex):Prop:=p.s.size≤1000∧(∀ t∈p.arms,t.size≤9223372036854775807)∧p.arms.length≤100
theorem ShortP.of_few{p:Ex}(h:fewP p=true):ShortP p:=by
 simp only [fewP,Bool.and_eq_true,Bool.not_eq_true',decide_eq_false_iff_not,List.all_eq_true] at h;obtain⟨⟨h1,h2⟩,h3⟩:=h;refine⟨by omega,fun t ht=>?_,by omega⟩;have:=h3 t ht;simp only [fewA,Bool.not_eq_true',decide_eq_false_iff_not] at this;omega
def partX(x:Ex):Bool:=decide (1≤x.k) && decide (x.k≤17) && numbersX x && namedX x && armsX x && decide ((subsX x).1≤x.subs.length) && decide ((x.subs.length:Int)≤(subsX x).2) && ((x.k != 8) || constX (subX x 0))
def rightX(x:Ex):Bool:=!decide (60<sizeX x) && !decide (12<depthX x) && (partsX x).all partX
theorem numbers_13{x:Ex}(h:numbersX x=true) (hk:x.k=13):x.n=0∨x.n=1:=by
 unfold numbersX at h;rw [hk] at h
 simp at h
 exact h.2
theorem subs_8{x:Ex}(hk:x.k=8):subsX x=(2,2):=by
 unfold subsX;rw [hk];rfl
end
section
open Go.RowKit
abbrev En:=ByteArray × List ByteArray
def nmE(es:List En) (i:Nat):ByteArray:=(es[i]?.getD (ByteArray.empty,[])).1
def csE(es:List En) (i:Nat):List ByteArray:=(es[i]?.getD (ByteArray.empty,[])).2
def RdE(w:World) (A:Option Addr) (n:Nat) (es:List En):Prop:=
 es.length=n∧n≤9223372036854775807 ∧
 (0<n→∃ b off,A=some ⟨b,off,none⟩∧b<w.heap.size∧∀ i,i<n→w.cell? ⟨b,off+i*2,none⟩=some (.string (nmE es i)) ∧
  ∃ A' n' c',w.cell? ⟨b,off+i*2+1,none⟩=some (.slice A' n' c')∧RdT w A' n' (csE es i))
def EsOk(es:List En):Prop:=∀ i,i<es.length→(nmE es i).size≤maxLen∧∀ s∈csE es i,s.size≤maxLen
section
variable {w w':World}{A:Option Addr}{n:Nat}{es:List En}
theorem RdE.nil_(w:World):RdE w none 0 []:=⟨rfl,by omega,by omega⟩
theorem RdE.len(h:RdE w A n es):es.length=n:=h.1
theorem RdE.max(h:RdE w A n es):n≤9223372036854775807:=h.2.1
theorem RdE.at_(h:RdE w A n es){i:Nat}(hi:i<n):
 ∃ b off,A=some ⟨b,off,none⟩∧b<w.heap.size∧∀ i,i<n→w.cell? ⟨b,off+i*2,none⟩=some (.string (nmE es i)) ∧
  ∃ A' n' c',w.cell? ⟨b,off+i*2+1,none⟩=some (.slice A' n' c')∧RdT w A' n' (csE es i):=
 h.2.2 (by omega)
theorem RdE.keep(h:RdE w A n es) (hs:w.heap.size≤w'.heap.size) (hk:∀ p:Addr,p.block<w.heap.size→w'.cell? p=w.cell? p):RdE w' A n es:=
 ⟨h.1,h.2.1,fun hn=>by
  obtain⟨b,off,e,hb,hc⟩:=h.2.2 hn;refine⟨b,off,e,by omega,fun i hi=>?_⟩;obtain⟨h1,A',n',c',h2,h3⟩:=hc i hi;exact⟨(hk _ hb).trans h1,A',n',c',(hk _ hb).trans h2,h3.keep hs hk⟩⟩
theorem RdE.below(h:RdE w A n es) (hb:Below w.heap.size w w'):RdE w' A n es:=h.keep hb.size fun _ hp=>hb.cell hp
theorem RdE.drewN(h:RdE w A n es) (m:Nat):RdE (w.drewN m) A n es:=h
theorem RdE.drew(h:RdE w A n es):RdE w.drew A n es:=h
theorem RdE.alloc(h:RdE w A n es) (o:Obj):RdE (w.alloc o) A n es:=h.below ((Below.refl _ _).alloc (Nat.le_refl _) o)
theorem RdT.drew{ss:List ByteArray}(h:RdT w A n ss):RdT w.drew A n ss:=h
end
theorem nm_map(es:List En) (i:Nat):(es.map (·.1))[i]?.getD ByteArray.empty=nmE es i:=by
 unfold nmE;rw [List.getElem?_map]
 cases es[i]? <;> rfl
abbrev Pl:=Nat × Nat × ByteArray
def ctAt(es:List En) (i k:Nat):ByteArray:=(csE es i)[k]?.getD ByteArray.empty
def rowTo(es:List En) (i k:Nat):List Pl:=(List.range k).map fun k=>(i,k,ctAt es i k)
def flatTo(es:List En):Nat→List Pl
 | 0=>[]
 | i+1=>flatTo es i++rowTo es i (csE es i).length
def flatE(es:List En):List Pl:=flatTo es es.length
def upTo(es:List En) (i k:Nat):List Pl:=flatTo es i++rowTo es i k
section
variable {es:List En}{i k:Nat}
theorem rowTo_succ(es:List En) (i k:Nat):rowTo es i (k+1)=rowTo es i k++[(i,k,ctAt es i k)]:=by simp [rowTo,List.range_succ]
theorem upTo_zero(es:List En):upTo es 0 0=[]:=by simp [upTo,flatTo,rowTo]
theorem upTo_succ(es:List En) (i k:Nat):upTo es i (k+1)=upTo es i k++[(i,k,ctAt es i k)]:=by simp [upTo,rowTo_succ]
theorem upTo_next(es:List En) (i:Nat):upTo es i (csE es i).length=upTo es (i+1) 0:=by simp [upTo,flatTo,rowTo]
theorem upTo_end(es:List En):upTo es es.length 0=flatE es:=by simp [upTo,flatE,rowTo]
theorem flatTo_pre(es:List En) (i j:Nat) (h:i≤j):flatTo es i <+: flatTo es j:=by
 induction j with
 | zero=>
  obtain rfl:i=0:=by omega
  exact List.prefix_refl _
 | succ j ih=>
  rcases Nat.lt_or_ge i (j+1) with h1 | h1
  · exact(ih (by omega)).trans (by show _ <+: flatTo es j++_;exact List.prefix_append _ _)
  · obtain rfl:i=j+1:=by omega
    exact List.prefix_refl _
theorem rowTo_pre(es:List En) (i k m:Nat) (h:k≤m):rowTo es i k <+: rowTo es i m:=by
 induction m with
 | zero=>
  obtain rfl:k=0:=by omega
  exact List.prefix_refl _
 | succ m ih=>
  rcases Nat.lt_or_ge k (m+1) with h1 | h1
  · exact(ih (by omega)).trans (by rw [rowTo_succ];exact List.prefix_append _ _)
  · obtain rfl:k=m+1:=by omega
    exact List.prefix_refl _
theorem upTo_pre(hi:i<es.length) (hk:k≤(csE es i).length):upTo es i k <+: flatE es:=by
 refine List.IsPrefix.trans ?_ (flatTo_pre es (i+1) es.length (by omega))
 show flatTo es i++rowTo es i k <+: flatTo es i++rowTo es i (csE es i).length
 exact List.prefix_append_right_inj _ |>.2 (rowTo_pre es i _ _ hk)
theorem upTo_mem(hi:i<es.length) (hk:k<(csE es i).length):(i,k,ctAt es i k)∈flatE es:=
 (upTo_pre hi (k:=k+1) (by omega)).subset (by rw [upTo_succ];simp)
def allE(es:List En):List ByteArray:=(flatE es).map (·.2.2)
theorem rowTo_names(es:List En) (i k:Nat) (h:k≤(csE es i).length):(rowTo es i k).map (·.2.2)=(csE es i).take k:=by
 induction k with
 | zero=>simp [rowTo]
 | succ k ih=>
  rw [rowTo_succ,List.map_append,ih (by omega),List.take_succ_eq_append_getElem (by omega)]
  simp [ctAt,List.getElem?_eq_getElem (show k<(csE es i).length by omega)]
def namesTo(es:List En) (i:Nat):List ByteArray:=(flatTo es i).map (·.2.2)
theorem namesTo_succ(es:List En) (i:Nat):namesTo es (i+1)=namesTo es i++csE es i:=by
 show(flatTo es i++rowTo es i _).map _=_
 rw [List.map_append,rowTo_names es i _ (Nat.le_refl _),List.take_length];rfl
theorem namesTo_len(h:∀ j,j<i→(csE es j).length≤12):(namesTo es i).length≤i*12:=by
 induction i with
 | zero=>simp [namesTo,flatTo]
 | succ i ih=>
  have h1:=ih fun j hj=>h j (by omega);have h2:=h i (by omega);rw [namesTo_succ,List.length_append];omega
theorem namesTo_mem{x:ByteArray}(h:x∈namesTo es i):∃ j,j<i∧x∈csE es j:=by
 induction i with
 | zero=>simp [namesTo,flatTo] at h
 | succ i ih=>
  rw [namesTo_succ,List.mem_append] at h;rcases h with h | h
  · obtain⟨j,hj,hx⟩:=ih h;exact⟨j,by omega,hx⟩
  · exact⟨i,by omega,h⟩
end
end
end Go.Proofs.YtkbpdoomhfkngaaGreat
