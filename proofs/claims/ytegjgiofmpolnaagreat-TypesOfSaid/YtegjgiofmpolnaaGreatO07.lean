/- Parts of the proof: PgA. Conditions: each theorem's own. -/
import Derived.Test.YtegjgiofmpolnaaGreatO02
import Derived.Test.YtegjgiofmpolnaaGreatO06
namespace Go.Proofs.YtegjgiofmpolnaaGreat
set_option linter.unusedVariables false
set_option linter.unusedSimpArgs false
set_option maxRecDepth 100000
set_option maxHeartbeats 40000000
section
open Go.RowKit
def dcFew(d:Dc):Bool:=!decide (100<d.nm.size) && !decide (100<d.on.size) && !decide (100<d.ct.size)
def fewD(l:List Dc):Bool:=l.all dcFew && decide (l.length≤20)
theorem all_take_step{α:Type} [Inhabited α] {f:α→Bool}{l:List α}{k:Nat}(h:(l.take k).all f=true) (hk:k<l.length) (hf:f (l[k]?.getD default)=true):(l.take (k+1)).all f=true:=by
 rw [List.take_add_one,List.getElem?_eq_getElem hk,List.all_append,h];rw [List.getElem?_eq_getElem hk] at hf
 simpa using hf
theorem all_at_no{α:Type} [Inhabited α] {f:α→Bool}{l:List α}{k:Nat}(hk:k<l.length) (hf:f (l[k]?.getD default)=false):l.all f=false:=by
 rw [List.getElem?_eq_getElem hk] at hf;rw [List.all_eq_false];exact⟨_,List.getElem_mem hk,by simpa using hf⟩
theorem refFewD(A:Option Addr) (n c:Nat) (l:List Dc) (w:World) (h:RdD w A n l):
 Calls Tryz.prog 21 #[.slice A n c] w fun e w'=>e=.returned (.bool (fewD l))∧w=w':=by
 have hlen:=h.len;have hmx:=h.max;have HL:=Hd hlen
 go_enter Tryz.func21,Tryz.ntmps21
 go_wp2_with fail
 go_loop [3] (fun i=>∃ k:Nat,k≤n∧i=.int .i64 k∧(l.take k).all dcFew=true) (fun i=>n-(intOf i).toNat)
 case atStart=>exact⟨0,Nat.zero_le _,rfl,by simp⟩
 case round=>
  obtain⟨k,hk,rfl,hto⟩:=hrel;have HT:=Hd hto;clear hto
  by_cases hlt:k<n
  · obtain⟨b,off,rfl,hb,hc⟩:=RdS.at_ h (by omega);obtain⟨c0,-,-,-,c4,c5⟩:=(hc k hlt).six;clear hc;have HS:=Hd fun hf=>all_take_step (l:=l) (f:=dcFew) HT.out (by rw [HL.out];exact hlt) hf;have HN:=Hd fun hf=>all_at_no (l:=l) (f:=dcFew) (k:=k) (by rw [HL.out];exact hlt) hf;generalize l[k]?.getD default=d at c0 c4 c5 HS HN;have HD:=Hd (show dcFew d=(!decide (100<d.nm.size) && !decide (100<d.on.size) && !decide (100<d.ct.size)) from rfl);generalize d.nm=x0 at *;generalize d.on=x1 at *;generalize d.ct=x2 at *
    cases d0:decide ((100:Int)<(x0.size:Int)) with
    | true=>
     have HN2:=Hd (HN.out (by rw [HD.out,show decide (100<x0.size)=true by have:=of_decide_eq_true d0;exact decide_eq_true (by omega)];simp))
     go_wp2_with fail
     go_ret
     exact⟨ret_bool (by rw [fewD,HN2.out];simp),rfl⟩
    | false=>
     cases d1:decide ((100:Int)<(x1.size:Int)) with
     | true=>
      have HN2:=Hd (HN.out (by rw [HD.out,show decide (100<x1.size)=true by have:=of_decide_eq_true d1;exact decide_eq_true (by omega)];simp))
      go_wp2_with fail
      go_ret
      exact⟨ret_bool (by rw [fewD,HN2.out];simp),rfl⟩
     | false=>
      cases d2:decide ((100:Int)<(x2.size:Int)) with
      | true=>
       have HN2:=Hd (HN.out (by rw [HD.out,show decide (100<x2.size)=true by have:=of_decide_eq_true d2;exact decide_eq_true (by omega)];simp))
       go_wp2_with fail
       go_ret
       exact⟨ret_bool (by rw [fewD,HN2.out];simp),rfl⟩
      | false=>
       have HY:=Hd (HS.out (by
        have h0:=of_decide_eq_false d0;have h1:=of_decide_eq_false d1;have h2:=of_decide_eq_false d2;rw [HD.out,decide_eq_false (show ¬ 100<x0.size by omega),decide_eq_false (show ¬ 100<x1.size by omega),decide_eq_false (show ¬ 100<x2.size by omega)];rfl))
       go_wp2_with fail
       go_round
       case rel=>exact⟨k+1,by omega,by go_num,HY.out⟩
       case measure=>simp [intOf];omega
  · have hkn:k=n:=by omega
    subst hkn;have HY:=Hd (show l.all dcFew=true by have:=HT.out;rwa [List.take_of_length_le (by rw [HL.out];exact Nat.le_refl _)] at this);have HE:=Hd (show fewD l=decide ((k:Int)≤20) by rw [fewD,HY.out,Bool.true_and,HL.out];simp;omega)
    go_wp2_with fail
    go_ret
    exact⟨ret_bool HE.out.symm,rfl⟩
end
end Go.Proofs.YtegjgiofmpolnaaGreat
