/- Parts of the proof: LxA. Conditions: each theorem's own. -/
import Derived.Test.YtokiaaapgkdpmaaGreatDoorV02
import Derived.Test.YtokiaaapgkdpmaaGreatDoorV05
namespace Go.Proofs.YtokiaaapgkdpmaaGreatDoor
set_option linter.unusedVariables false
set_option linter.unusedSimpArgs false
set_option maxRecDepth 100000
set_option maxHeartbeats 40000000
section
open Go.RowKit
theorem lxLetter(x:Int) (w:World):Calls Tryz.prog 79 #[.int .u8 x] w fun e w'=>e=.returned (.bool (letB x))∧w=w':=by
 by_cases h1:97≤x
 all_goals by_cases h2:x≤122
 all_goals by_cases h3:65≤x
 all_goals
  go_enter Tryz.func79,Tryz.ntmps79
  go_wp2
  go_ret
  exact⟨ret_bool (by rw [Bool.eq_iff_iff];simp [letB,smallB,greatB,h1,h2,h3] <;> omega),rfl⟩
theorem lxDigit(x:Int) (w:World):Calls Tryz.prog 81 #[.int .u8 x] w fun e w'=>e=.returned (.bool (digitB x))∧w=w':=by
 by_cases h1:48≤x
 all_goals
  go_enter Tryz.func81,Tryz.ntmps81
  go_wp2
  go_ret
  exact⟨ret_bool (by rw [Bool.eq_iff_iff];simp [digitB,h1] <;> omega),rfl⟩
theorem lxInName(x:Int) (w:World):Calls Tryz.prog 108 #[.int .u8 x] w fun e w'=>e=.returned (.bool (nameC x))∧w=w':=by
 by_cases h1:letB x=true
 · go_enter Tryz.func108,Tryz.ntmps108
   go_wp2_with fail
   refine(lxLetter x _).mono ?_;rintro e w' ⟨rfl,rfl⟩
   go_wp2_with fail
   go_ret
   exact⟨ret_bool (by simp only [letB] at h1;simp [nameC,h1]),rfl⟩
 · have h1:letB x=false:=by simpa using h1
   by_cases h3:digitB x=true
   all_goals
    go_enter Tryz.func108,Tryz.ntmps108
    go_wp2_with fail
    refine(lxLetter x _).mono ?_;rintro e w' ⟨rfl,rfl⟩
    go_wp2_with fail
    refine(lxDigit x _).mono ?_;rintro e w' ⟨rfl,rfl⟩
    go_wp2_with fail
    go_ret
    exact⟨ret_bool (by simp only [letB] at h1;rw [Bool.eq_iff_iff];simp [nameC,h1,h3]),rfl⟩
section
variable {p:UInt8→Bool}{s:ByteArray}{k:Nat}
def AllTo(p:UInt8→Bool) (s:ByteArray) (k:Nat):Prop:=∀ j (h:j<s.size),j<k→p (s[j]'h)=true
theorem allTo_zero:AllTo p s 0:=fun j _ hj=>absurd hj (by omega)
theorem allTo_snoc(H:AllTo p s k) (hlt:k<s.size) (hx:p (s[k]'hlt)=true):AllTo p s (k+1):=fun j h hj=>by
 rcases Nat.lt_or_ge j k with h1 | h1
 · exact H j h h1
 · obtain rfl:j=k:=by omega
   exact hx
theorem allTo_mem(H:AllTo p s k):∀ c∈s.data.toList.take k,p c=true:=by
 intro c hc;obtain⟨j,hj,e⟩:=List.getElem_of_mem hc;have hj2:j<k∧j<s.data.toList.length:=by rw [List.length_take] at hj;omega
 have hs:j<s.size:=by rw [Lib.size_eq];exact hj2.2
 rw [← e,List.getElem_take,at_list s j hs];exact H j hs hj2.1
theorem allTo_stop(H:AllTo p s k) (hlt:k<s.size) (hx:p (s[k]'hlt)=false):s.data.toList.takeWhile p=s.data.toList.take k:=by
 refine tw_eq (allTo_mem H) (.inr ⟨s[k]'hlt,s.data.toList.drop (k+1),?_,hx⟩);have hl:k<s.data.toList.length:=by rw [← Lib.size_eq];exact hlt
 rw [← at_list s k hlt,← List.drop_eq_getElem_cons hl,List.take_append_drop]
theorem allTo_end(H:AllTo p s k) (hk:s.size≤k):s.data.toList.takeWhile p=s.data.toList:=by
 refine tw_eq (fun c hc=>?_) (.inl rfl);have e:s.data.toList.take k=s.data.toList:=List.take_of_length_le (by rw [← Lib.size_eq];exact hk);exact allTo_mem H c (by rw [e];exact hc)
end
theorem lxRunName(s:ByteArray) (w:World) (hs:s.size≤9223372036854775807):
 Calls Tryz.prog 107 #[.string s,.func (.func 108) #[] #[]] w fun e w'=>e=.returned (.int .i64 ((nameL s.data.toList).length:Nat))∧w=w':=by
 go_enter Tryz.func107,Tryz.ntmps107
 go_wp2_with fail
 go_loop [5] (fun i=>∃ k:Nat,k≤s.size∧i=.int .i64 k∧AllTo (fun c=>nameC (c.toNat:Int)) s k) (fun i=>s.size-(intOf i).toNat)
 case atStart=>exact⟨0,by omega,rfl,allTo_zero⟩
 case round=>
  obtain⟨k,hk,rfl,hrel⟩:=hrel;have HR:=Hd hrel;clear hrel
  by_cases hlt:k<s.size
  · by_cases hx:nameC ((s[k]'hlt).toNat:Int)=true
    · have HX:=Hd hx
      go_wp2_with (go_at_call 108;refine(lxInName _ _).mono ?_;rintro e w' ⟨rfl,rfl⟩)
      go_round
      case rel=>exact⟨k+1,by omega,by go_num,allTo_snoc HR.out hlt HX.out⟩
      case measure=>simp [intOf];omega
    · have hx:nameC ((s[k]'hlt).toNat:Int)=false:=by simpa using hx
      have HE:=Hd (show(k:Int)=((nameL s.data.toList).length:Nat) by rw [nameL,allTo_stop HR.out hlt hx,List.length_take,← Lib.size_eq];omega)
      go_wp2_with (go_at_call 108;refine(lxInName _ _).mono ?_;rintro e w' ⟨rfl,rfl⟩)
      go_ret
      exact⟨ret_int HE.out,rfl⟩
  · have HE:=Hd (show(k:Int)=((nameL s.data.toList).length:Nat) by rw [nameL,allTo_end HR.out (by omega),← Lib.size_eq];omega)
    go_wp2_with fail
    go_ret
    exact⟨ret_int HE.out,rfl⟩
theorem lxRunDig(s:ByteArray) (w:World) (hs:s.size≤9223372036854775807):
 Calls Tryz.prog 107 #[.string s,.func (.func 81) #[] #[]] w fun e w'=>e=.returned (.int .i64 ((digL s.data.toList).length:Nat))∧w=w':=by
 go_enter Tryz.func107,Tryz.ntmps107
 go_wp2_with fail
 go_loop [5] (fun i=>∃ k:Nat,k≤s.size∧i=.int .i64 k∧AllTo (fun c=>digitB (c.toNat:Int)) s k) (fun i=>s.size-(intOf i).toNat)
 case atStart=>exact⟨0,by omega,rfl,allTo_zero⟩
 case round=>
  obtain⟨k,hk,rfl,hrel⟩:=hrel;have HR:=Hd hrel;clear hrel
  by_cases hlt:k<s.size
  · by_cases hx:digitB ((s[k]'hlt).toNat:Int)=true
    · have HX:=Hd hx
      go_wp2_with (go_at_call 81;refine(lxDigit _ _).mono ?_;rintro e w' ⟨rfl,rfl⟩)
      go_round
      case rel=>exact⟨k+1,by omega,by go_num,allTo_snoc HR.out hlt HX.out⟩
      case measure=>simp [intOf];omega
    · have hx:digitB ((s[k]'hlt).toNat:Int)=false:=by simpa using hx
      have HE:=Hd (show(k:Int)=((digL s.data.toList).length:Nat) by rw [digL,allTo_stop HR.out hlt hx,List.length_take,← Lib.size_eq];omega)
      go_wp2_with (go_at_call 81;refine(lxDigit _ _).mono ?_;rintro e w' ⟨rfl,rfl⟩)
      go_ret
      exact⟨ret_int HE.out,rfl⟩
  · have HE:=Hd (show(k:Int)=((digL s.data.toList).length:Nat) by rw [digL,allTo_end HR.out (by omega),← Lib.size_eq];omega)
    go_wp2_with fail
    go_ret
    exact⟨ret_int HE.out,rfl⟩
end
end Go.Proofs.YtokiaaapgkdpmaaGreatDoor
