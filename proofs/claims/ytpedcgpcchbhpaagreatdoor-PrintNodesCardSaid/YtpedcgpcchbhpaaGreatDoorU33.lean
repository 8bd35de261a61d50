/- Parts of the proof: SpQ. Conditions: each theorem's own. -/
import Derived.Test.YtpedcgpcchbhpaaGreatDoorU02
import Derived.Test.YtpedcgpcchbhpaaGreatDoorU16
namespace Go.Proofs.YtpedcgpcchbhpaaGreatDoor
set_option linter.unusedVariables false
set_option linter.unusedSimpArgs false
set_option maxRecDepth 100000
set_option maxHeartbeats 40000000
section
open Go.RowKit
def quoteS(s:ByteArray):ByteArray:=if pathB s.data.toList=true then(⟨#[39]⟩:ByteArray)++s++⟨#[39]⟩ else⟨#[]⟩
theorem lxQuote(s:ByteArray) (w:World) (hs:s.size≤9223372036854775800):
 Calls Tryz.prog 118 #[.string s] w fun e w'=>e=.returned (.string (quoteS s))∧Below w.heap.size w w':=by
 have HC:=Hd (idPath s);have HQ:Hid (quoteS s=if pathB s.data.toList=true then(⟨#[39]⟩:ByteArray)++s++⟨#[39]⟩ else⟨#[]⟩):=Hd rfl;have z1:(9223372036854775807<1+s.size)=False:=by rw [eq_iff_iff,iff_false];omega
 have z2:(9223372036854775807<s.size+1)=False:=by rw [eq_iff_iff,iff_false];omega
 have z3:(9223372036854775807<1+s.size+1)=False:=by rw [eq_iff_iff,iff_false];omega
 cases hb:pathB s.data.toList with
 | true=>
  rw [hb] at HC HQ;clear hb
  go_enter Tryz.func118,Tryz.ntmps118
  go_wp2_with fail
  refine(HC.out _ (by omega)).mono ?_;rintro e w2 ⟨rfl,hb2⟩;have HB2:=Hd hb2;clear hb2
  go_wp2_with fail
  go_ret
  exact⟨ret_strV (HQ.out.trans (if_pos trivial)).symm,HB2.out⟩
 | false=>
  rw [hb] at HC HQ;clear hb
  go_enter Tryz.func118,Tryz.ntmps118
  go_wp2_with fail
  refine(HC.out _ (by omega)).mono ?_;rintro e w2 ⟨rfl,hb2⟩;have HB2:=Hd hb2;clear hb2
  go_wp2_with fail
  go_ret
  exact⟨ret_strV (HQ.out.trans (if_neg (by simp))).symm,HB2.out⟩
end
end Go.Proofs.YtpedcgpcchbhpaaGreatDoor
