/- Parts of the proof: VaC. Conditions: each theorem's own. -/
import Derived.Lib.ItoaLen
import Derived.Test.YtokiaaapgkdpmaaGreatDoorV01
namespace Go.Proofs.YtokiaaapgkdpmaaGreatDoor
set_option linter.unusedVariables false
set_option linter.unusedSimpArgs false
set_option maxRecDepth 100000
set_option maxHeartbeats 40000000
section
open Go.RowKit
theorem ret_strV{a b:ByteArray}(h:a=b):Ending.returned (.string a)=.returned (.string b):=by rw [h]
def DigR(U u:Nat) (s:List UInt8):Prop:=(s=[]∧u=U)∨(s≠[]∧Lib.decDigits U=(if u=0 then [] else Lib.decDigits u)++s)
theorem DigR.start(U:Nat):DigR U U []:=.inl ⟨rfl,rfl⟩
theorem decDigits_step(u:Nat):Lib.decDigits u=(if u / 10=0 then [] else Lib.decDigits (u / 10))++[UInt8.ofNat (48+u % 10)]:=by
 by_cases h:u<10
 · rw [Lib.decDigits_one h,if_pos (by omega),List.nil_append,Nat.mod_eq_of_lt h]
 · rw [Lib.decDigits,dif_neg h,if_neg (by omega)]
theorem DigR.step{U u:Nat}{s:List UInt8}(h:DigR U u s) (hu:0<u∨s=[]):DigR U (u / 10) (UInt8.ofNat (48+u % 10)::s):=by
 refine .inr ⟨by simp,?_⟩;rcases h with⟨rfl,rfl⟩|⟨hs,he⟩
 · exact decDigits_step u
 · have hu':¬ u=0:=by
    rcases hu with h | h
    · omega
    · exact absurd h hs
   rw [he,if_neg hu',decDigits_step u,List.append_assoc];rfl
theorem DigR.end_{U u:Nat}{s:List UInt8}(h:DigR U u s) (hu:u=0) (hs:s≠[]):s=Lib.decDigits U:=by
 rcases h with⟨h,_⟩|⟨_,he⟩
 · exact absurd h hs
 · rw [he,if_pos hu,List.nil_append]
theorem DigR.len{U u:Nat}{s:List UInt8}(h:DigR U u s) (hU:U<18446744073709551616):s.length≤20:=by
 rcases h with⟨rfl,_⟩|⟨_,he⟩
 · simp
 · have h1:=congrArg List.length he;rw [Lib.decDigits_length,List.length_append] at h1;have:=Lib.nDigits_le20 U hU;omega
theorem DigR.le{U u:Nat}{s:List UInt8}(h:DigR U u s):True:=trivial
def emptyN(v:Value):Nat:=match v with
 | .string s=>1-s.size
 | _=>0
def digM(a b:Value):Nat:=2*(intOf a).toNat+emptyN b
theorem run_byte{w:World}{A:Option Addr}{c:Nat}{l:Int}(h:Rd .u8 w A 1 c [l]):
 (convert 120 9 (.slice A 1 c)).run Tryz.prog w=.ok (.string ⟨#[l.toNat.toUInt8]⟩) w:=by
 obtain⟨b,off,rfl,hb,hc⟩:=h.at_ (i:=0) (by omega);have:=run_convert_bytes_arg w _ _ Tryz.underlying120 Tryz.underlying5 b off 1 c [l] h.len (fun i hi=>by rw [hc i hi,List.getD_eq_getElem?_getD]) _ Tryz.underlying9;rw [this];rfl
theorem dig_data(u:Nat) (s:ByteArray):((⟨#[UInt8.ofNat (48+u % 10)]⟩:ByteArray)++s).data.toList=UInt8.ofNat (48+u % 10)::s.data.toList:=by simp
theorem dig_round{w:World}{U u:Nat}{s:ByteArray}(h:DigR U u s.data.toList) (hu:0<u∨s.data.toList=[]):DigR U (u / 10) ((⟨#[UInt8.ofNat (48+u % 10)]⟩:ByteArray)++s).data.toList:=by
 rw [dig_data];exact h.step hu
theorem ba_ext{a b:ByteArray}(h:a.data.toList=b.data.toList):a=b:=ByteArray.ext (Array.ext' h)
theorem dig_neg{z:Int}{U:Nat}{s:ByteArray}(hz:z<0) (hU:U=z.natAbs) (h:s.data.toList=Lib.decDigits U):(⟨#[45]⟩:ByteArray)++s=⟨(Lib.itoa z).toArray⟩:=by
 refine ba_ext ?_;subst hU;unfold Lib.itoa;rw [if_pos hz]
 simp [h]
theorem dig_pos{z:Int}{U:Nat}{s:ByteArray}(hz:0≤z) (hU:U=z.natAbs) (h:s.data.toList=Lib.decDigits U):s=⟨(Lib.itoa z).toArray⟩:=by
 refine ba_ext ?_;unfold Lib.itoa;rw [if_neg (by omega),show z.toNat=U by omega]
 simp [h]
theorem byte_conv(u:Nat) (wr:World):
 (convert 120 9 (.slice (some ⟨wr.heap.size,0,none⟩) 1 1)).run Tryz.prog (wr.alloc (.cells #[.int .u8 (48+(u:Int) % 10)] 5))=.ok (.string ⟨#[UInt8.ofNat (48+u % 10)]⟩) (wr.alloc (.cells #[.int .u8 (48+(u:Int) % 10)] 5)):=by
 have:=run_byte (Rd.lit .u8 wr 5 [48+(u:Int) % 10] 1 rfl (by omega) (by intro z hz;simp at hz;subst hz;simp [Lit.wf,IntKind.min,IntKind.max,IntKind.signed,IntKind.bits];omega) #[.int .u8 (48+(u:Int) % 10)] rfl);rw [this];have e:((48+(u:Int) % 10).toNat.toUInt8)=UInt8.ofNat (48+u % 10):=congrArg UInt8.ofNat (by omega);rw [e]
theorem refDigits(z:Int) (h0:-9223372036854775808≤z) (h1:z≤9223372036854775807) (w:World):
 Calls Tryz.prog 103 #[.int .i64 z] w fun r w'=>r=.returned (.string ⟨(Lib.itoa z).toArray⟩)∧Below w.heap.size w w':=by
 obtain⟨U,hU,hU2⟩:∃ U:Nat,U=z.natAbs∧U<18446744073709551616:=⟨z.natAbs,rfl,by omega⟩;have HU:=Hd hU
 by_cases hz:z<0
 · have hw1:IntKind.u64.wrap z=z+18446744073709551616:=by rw [IntKind.wrap_u64];omega
   have hw2:IntKind.u64.wrap (-(z+18446744073709551616))=(U:Int):=by rw [IntKind.wrap_u64];omega
   clear hU
   go_enter Tryz.func103,Tryz.ntmps103
   go_wp2_with fail
   go_loopw [3,4] (fun a b wr=>∃ (u:Nat) (s:ByteArray),a=.int .u64 u∧b=.string s∧u≤U∧DigR U u s.data.toList∧Below w.heap.size w wr) (fun a b _=>digM a b)
   case atStart=>exact⟨U,⟨#[]⟩,rfl,rfl,Nat.le_refl _,DigR.start U,Below.refl _ _⟩
   case round=>
    obtain⟨u,s,rfl,rfl,hu,hd,hnx⟩:=hrel;have HD:=Hd hd;have HNX:=Hd hnx;have hsz:s.size≤20:=by have:=DigR.len hd hU2;simpa using this
    clear hd hnx;have hcv:=byte_conv u wr;have z1:(9223372036854775807<1+s.size)=False:=by rw [eq_iff_iff,iff_false];omega
    have z2:(9223372036854775807<s.size+1)=False:=by rw [eq_iff_iff,iff_false];omega
    have z3:(9223372036854775807<s.size+1+1)=False:=by rw [eq_iff_iff,iff_false];omega
    by_cases hu0:0<u
    · have HN:=Hd (dig_round (w:=w) HD.out (.inl hu0));have hds:(⟨#[UInt8.ofNat (48+u % 10)]⟩:ByteArray).size=1:=rfl;generalize (⟨#[UInt8.ofNat (48+u % 10)]⟩:ByteArray)=x at hcv HN hds
      go_wp2_with fail
      go_roundw
      case rel=>exact⟨u / 10,x++s,by go_num,rfl,by omega,HN.out,HNX.out.alloc HNX.out.size _⟩
      case measure=>simp [digM,intOf,emptyN];omega
    · obtain rfl:u=0:=by omega
      by_cases hs0:s.data.toList=[]
      · obtain rfl:s=⟨#[]⟩:=by cases s;simp_all
        have HN:=Hd (dig_round (w:=w) HD.out (.inr rfl));have hcv:(convert 120 9 (.slice (some ⟨wr.heap.size,0,none⟩) 1 1)).run Tryz.prog (wr.alloc (.cells #[.int .u8 48] 5))=.ok (.string ⟨#[48]⟩) (wr.alloc (.cells #[.int .u8 48] 5)):=byte_conv 0 wr
        go_wp2_with fail
        go_roundw
        case rel=>exact⟨0,(⟨#[48]⟩:ByteArray)++⟨#[]⟩,rfl,rfl,by omega,HN.out,HNX.out.alloc HNX.out.size _⟩
        case measure=>decide
      · have HE:=Hd (HD.out.end_ rfl hs0);have hse:(s.toList==([]:List UInt8))=false:=by rw [Lib.toList_data];simpa using hs0
        have hse2:s.toList.isEmpty=false:=by rw [Lib.toList_data];simpa using hs0
        go_wp2_with fail
        go_ret
        exact⟨ret_strV (dig_neg hz HU.out HE.out),HNX.out⟩
 · have hw1:IntKind.u64.wrap z=(U:Int):=by rw [IntKind.wrap_u64];omega
   clear hU
   go_enter Tryz.func103,Tryz.ntmps103
   go_wp2_with fail
   go_loopw [3,4] (fun a b wr=>∃ (u:Nat) (s:ByteArray),a=.int .u64 u∧b=.string s∧u≤U∧DigR U u s.data.toList∧Below w.heap.size w wr) (fun a b _=>digM a b)
   case atStart=>exact⟨U,⟨#[]⟩,rfl,rfl,Nat.le_refl _,DigR.start U,Below.refl _ _⟩
   case round=>
    obtain⟨u,s,rfl,rfl,hu,hd,hnx⟩:=hrel;have HD:=Hd hd;have HNX:=Hd hnx;have hsz:s.size≤20:=by have:=DigR.len hd hU2;simpa using this
    clear hd hnx;have hcv:=byte_conv u wr;have z1:(9223372036854775807<1+s.size)=False:=by rw [eq_iff_iff,iff_false];omega
    have z2:(9223372036854775807<s.size+1)=False:=by rw [eq_iff_iff,iff_false];omega
    have z3:(9223372036854775807<s.size+1+1)=False:=by rw [eq_iff_iff,iff_false];omega
    by_cases hu0:0<u
    · have HN:=Hd (dig_round (w:=w) HD.out (.inl hu0));have hds:(⟨#[UInt8.ofNat (48+u % 10)]⟩:ByteArray).size=1:=rfl;generalize (⟨#[UInt8.ofNat (48+u % 10)]⟩:ByteArray)=x at hcv HN hds
      go_wp2_with fail
      go_roundw
      case rel=>exact⟨u / 10,x++s,by go_num,rfl,by omega,HN.out,HNX.out.alloc HNX.out.size _⟩
      case measure=>simp [digM,intOf,emptyN];omega
    · obtain rfl:u=0:=by omega
      by_cases hs0:s.data.toList=[]
      · obtain rfl:s=⟨#[]⟩:=by cases s;simp_all
        have HN:=Hd (dig_round (w:=w) HD.out (.inr rfl));have hcv:(convert 120 9 (.slice (some ⟨wr.heap.size,0,none⟩) 1 1)).run Tryz.prog (wr.alloc (.cells #[.int .u8 48] 5))=.ok (.string ⟨#[48]⟩) (wr.alloc (.cells #[.int .u8 48] 5)):=byte_conv 0 wr
        go_wp2_with fail
        go_roundw
        case rel=>exact⟨0,(⟨#[48]⟩:ByteArray)++⟨#[]⟩,rfl,rfl,by omega,HN.out,HNX.out.alloc HNX.out.size _⟩
        case measure=>decide
      · have HE:=Hd (HD.out.end_ rfl hs0);have hse:(s.toList==([]:List UInt8))=false:=by rw [Lib.toList_data];simpa using hs0
        have hse2:s.toList.isEmpty=false:=by rw [Lib.toList_data];simpa using hs0
        go_wp2_with fail
        go_ret
        exact⟨ret_strV (dig_pos (by omega) HU.out HE.out),HNX.out⟩
end
end Go.Proofs.YtokiaaapgkdpmaaGreatDoor
