/- Parts of the proof: PtP. Conditions: each theorem's own. -/
import Derived.Test.YtpedcgpcchbhpaaGreatDoorU28
import Derived.Test.YtpedcgpcchbhpaaGreatDoorU29
namespace Go.Proofs.YtpedcgpcchbhpaaGreatDoor
set_option linter.unusedVariables false
set_option linter.unusedSimpArgs false
set_option maxRecDepth 100000
set_option maxHeartbeats 40000000
section
open Go.RowKit
theorem sameT_self_(l:List ByteArray):sameT l l=true:=by simp [sameT]
theorem eqE_refl(a:En):eqE a a=true:=by
 simp only [eqE,sameT_self_,Bool.and_true]
 simp
theorem sameX_self:∀ x:Ex,sameX x x=true:=by
 refine size_ind fun x ih=>?_;rw [sameX_eq,sameT_self_,sameXs_yes rfl fun i hi=>ih i hi]
 simp
theorem eqQ_refl(a:Qn):eqQ a a=true:=by rw [eqQ,sameT_self_,sameX_self];rfl
theorem eqN_refl(a:Nd):eqN a a=true:=by
 simp only [eqN,sameL_refl (fun x _=>eqD_refl x),sameL_refl (fun x _=>eqQ_refl x),Bool.and_true]
 simp
theorem eqP_refl(a:Pg):eqP a a=true:=by
 simp only [eqP,sameL_refl (fun x _=>eqE_refl x),sameL_refl (fun x _=>eqN_refl x),Bool.and_true]
def tyL(es:List En) (d:Dc):List UInt8:=(textE es d.k d.e d.l).data.toList
theorem sufL_free{l:Int}(h:0≤l∧l≤8):∀ c∈sufL l,c≠10∧c≠32∧c≠41∧c≠59:=by
 obtain⟨h0,h8⟩:=h;have hc:l=0∨l=1∨l=2∨l=3∨l=4∨l=5∨l=6∨l=7∨l=8:=by omega
 rcases hc with rfl | rfl | rfl | rfl | rfl | rfl | rfl | rfl | rfl <;> decide
theorem tyF{es:List En}(h:enumsN es=0):TyF (okT es.length) (tyL es):=by
 refine⟨fun d hd c hc=>?_,fun d d' hd hd' he=>?_⟩
 · unfold tyL at hc;rw [text_list hd,List.mem_append] at hc;rcases hc with hc | hc
   · refine⟨?_,?_,?_,?_⟩ <;> (rintro rfl;exact base_not h hd (by decide) hc)
   · exact sufL_free (right_cases hd).1 c hc
 · have hs:=text_same h hd hd'
   have he2:((textE es d.k d.e d.l).toList==(textE es d'.k d'.e d'.l).toList)=true:=by
    rw [Lib.toList_data,Lib.toList_data,beq_iff_eq];exact he
   rw [he2] at hs
   simpa using hs.symm
def textP(p:Pg):List UInt8:=if checkN p=0 then progL (tyL p.es) p else []
theorem textP_same{p q:Pg}(hp:checkN p=0) (hq:checkN q=0):decide (textP p=textP q)=eqP p q:=by
 unfold textP;rw [if_pos hp,if_pos hq,Bool.eq_iff_iff,decide_eq_true_eq]
 constructor
 · intro h;rw [prog_inj (ty:=tyL) (fun es he=>tyF he) hp hq h];exact eqP_refl q
 · intro h;rw [eqP_imp h]
theorem textP_some{p:Pg}(hp:checkN p=0):textP p≠[]:=by
 unfold textP;rw [if_pos hp];exact prog_some hp
end
end Go.Proofs.YtpedcgpcchbhpaaGreatDoor
