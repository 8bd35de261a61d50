/- Parts of the proof: ScI. Conditions: each theorem's own. -/
import Derived.Test.YtkbpdoomhfkngaaGreatR15
namespace Go.Proofs.YtkbpdoomhfkngaaGreat
set_option linter.unusedVariables false
set_option linter.unusedSimpArgs false
set_option maxRecDepth 100000
set_option maxHeartbeats 40000000
section
open Go.RowKit Go.Sort
def PredDcF(g:Nat) (x0:Value) (f:Dc→Bool) (l:List Dc) (w:World):Prop:=
 ∀ x,x∈l→∀ (W:World),Below w.heap.size w W →
  Calls Tryz.prog g #[x0,.agg (dcA x)] W fun e w'=>e=.returned (.bool (f x))∧Below W.heap.size W w'
theorem slIndexDcF(g:Nat) (x0:Value) (eg:∀ args w,(callFunc g args).run Tryz.prog w=.ok (.enter g args) w) (f:Dc→Bool) (A:Option Addr) (n c:Nat) (l:List Dc) (w:World) (h:RdD w A n l) (hf:PredDcF g x0 f l w):
 Calls Tryz.prog 30 #[.slice A n c,.func (.func g) #[x0] #[]] w fun e w'=>e=.returned (.int .i64 (findI f l 0))∧Below w.heap.size w w':=by
 have HR:=Hd h;have HP:=Hd hf;have hln:=RdS.len h;have hmx:=RdS.max h;have HHIT:=Hd (fun(k:Nat) hk hn hy=>show findI f l 0=(k:Int) by have:=findI_hit (l:=l) (f:=f) (k:=k) (i:=0) hk hn hy;rwa [Nat.zero_add] at this);have HNO:=Hd (fun hn=>show findI f l 0=-1 from findI_none (l:=l) (f:=f) (i:=0) hn);generalize findI f l 0=out at *;have HLN:=Hd hln;clear h hf hln;unfold PredDcF at HP
 go_enter Tryz.func30,Tryz.ntmps30
 go_wp2_with fail
 go_loopw [5,8] (fun _ i wr=>∃ k:Nat,k≤n∧i=.int .i64 k∧(∀ j,j<k→f (l[j]?.getD default)=false)∧Below w.heap.size w wr) (fun _ i _=>n-(intOf i).toNat)
 case atStart=>exact⟨0,Nat.zero_le _,rfl,fun j hj=>absurd hj (by omega),Below.refl _ _⟩
 case round=>
  obtain⟨k,hk,rfl,hto,hnx⟩:=hrel;have HT:=Hd hto;have HNX:=Hd hnx;clear hto
  by_cases hlt:k<n
  · obtain⟨b,off,rfl,hb,d0,d1,d2,d3,d4,d5⟩:=dc_at (HR.out.below hnx) hlt;have HCL:=Hd (HP.out _ (getD_memA (by rw [HLN.out];exact hlt))  wr hnx);have HH:=Hd (HHIT.out k (by rw [HLN.out];exact hlt) HT.out);have HS:=Hd fun(hf:f (l[k]?.getD default)=false)=>to_next (P:=fun j=>f (l[j]?.getD default)=false) HT.out hf;clear hnx;unfold dcA at HCL;generalize l[k]?.getD default=x at d0 d1 d2 d3 d4 d5 HCL HH HS
    cases hq:f x with
    | true=>
     have HO:=Hd (HH.out hq);rw [hq] at HCL
     go_wp2_with (go_at_fn g;refine HCL.out.mono ?_;rintro e w3 ⟨rfl,hb3⟩)
     go_ret
     exact⟨ret_int HO.out.symm,HNX.out.trans (hb3.mono HNX.out.size)⟩
    | false=>
     have HO:=Hd (HS.out hq);rw [hq] at HCL
     go_wp2_with (go_at_fn g;refine HCL.out.mono ?_;rintro e w3 ⟨rfl,hb3⟩;have HB3:=Hd (HNX.out.trans (hb3.mono HNX.out.size));clear hb3)
     go_roundw
     case rel=>exact⟨k+1,by omega,by go_num,HO.out,HB3.out⟩
     case measure=>simp [intOf];omega
  · have hkn:k=n:=by omega
    have HN:=Hd (HNO.out fun j hj=>HT.out j (by rw [HLN.out] at hj;omega))
    go_wp2_with fail
    go_ret
    exact⟨ret_int HN.out.symm,HNX.out⟩
theorem slHasDcF(g:Nat) (x0:Value) (eg:∀ args w,(callFunc g args).run Tryz.prog w=.ok (.enter g args) w) (f:Dc→Bool) (A:Option Addr) (n c:Nat) (l:List Dc) (w:World) (h:RdD w A n l) (hf:PredDcF g x0 f l w):
 Calls Tryz.prog 16 #[.slice A n c,.func (.func g) #[x0] #[]] w fun e w'=>e=.returned (.bool (l.any f))∧Below w.heap.size w w':=by
 have HI:=Hd (slIndexDcF g x0 eg f A n c l w h hf);have HA:=Hd (findI_any f l);clear h hf
 go_enter Tryz.func16,Tryz.ntmps16
 go_wp2_with fail
 refine HI.out.mono ?_;rintro e w2 ⟨rfl,hb2⟩;have HB2:=Hd hb2;clear hb2
 cases ha:l.any f with
 | true=>
  rw [ha] at HA;have d0:decide ((0:Int)≤findI f l 0)=true:=HA.out
  go_wp2_with fail
  go_ret
  exact⟨ret_bool ha.symm,HB2.out⟩
 | false=>
  rw [ha] at HA;have d0:decide ((0:Int)≤findI f l 0)=false:=HA.out
  go_wp2_with fail
  go_ret
  exact⟨ret_bool ha.symm,HB2.out⟩
def PredTF(g:Nat) (x0:Value) (f:ByteArray→Bool) (l:List ByteArray) (w:World):Prop:=
 ∀ x,x∈l→∀ (W:World),Below w.heap.size w W →
  Calls Tryz.prog g #[x0,.string x] W fun e w'=>e=.returned (.bool (f x))∧Below W.heap.size W w'
theorem slIndexTF(g:Nat) (x0:Value) (eg:∀ args w,(callFunc g args).run Tryz.prog w=.ok (.enter g args) w) (f:ByteArray→Bool) (A:Option Addr) (n c:Nat) (l:List ByteArray) (w:World) (h:RdT w A n l) (hf:PredTF g x0 f l w):
 Calls Tryz.prog 167 #[.slice A n c,.func (.func g) #[x0] #[]] w fun e w'=>e=.returned (.int .i64 (findI f l 0))∧Below w.heap.size w w':=by
 have HR:=Hd h;have HP:=Hd hf;have hln:=RdT.len h;have hmx:=RdT.max h;have HHIT:=Hd (fun(k:Nat) hk hn hy=>show findI f l 0=(k:Int) by have:=findI_hitS (l:=l) (f:=f) (k:=k) (i:=0) hk hn hy;rwa [Nat.zero_add] at this);have HNO:=Hd (fun hn=>show findI f l 0=-1 from findI_noneS (l:=l) (f:=f) (i:=0) hn);generalize findI f l 0=out at *;have HLN:=Hd hln;clear h hf hln;unfold PredTF at HP
 go_enter Tryz.func167,Tryz.ntmps167
 go_wp2_with fail
 go_loopw [5,8] (fun _ i wr=>∃ k:Nat,k≤n∧i=.int .i64 k∧(∀ j,j<k→f (l[j]?.getD ByteArray.empty)=false)∧Below w.heap.size w wr) (fun _ i _=>n-(intOf i).toNat)
 case atStart=>exact⟨0,Nat.zero_le _,rfl,fun j hj=>absurd hj (by omega),Below.refl _ _⟩
 case round=>
  obtain⟨k,hk,rfl,hto,hnx⟩:=hrel;have HT:=Hd hto;have HNX:=Hd hnx;clear hto
  by_cases hlt:k<n
  · obtain⟨b,off,rfl,hb,hc⟩:=(HR.out.below hnx).at_ hlt;have d0:=hc k hlt;have HCL:=Hd (HP.out _ (getD_mem (by rw [HLN.out];exact hlt))  wr hnx);have HH:=Hd (HHIT.out k (by rw [HLN.out];exact hlt) HT.out);have HS:=Hd fun(hf:f (l[k]?.getD ByteArray.empty)=false)=>to_next (P:=fun j=>f (l[j]?.getD ByteArray.empty)=false) HT.out hf;clear hnx hc
    skip
    generalize l[k]?.getD ByteArray.empty=x at d0 HCL HH HS
    cases hq:f x with
    | true=>
     have HO:=Hd (HH.out hq);rw [hq] at HCL
     go_wp2_with (go_at_fn g;refine HCL.out.mono ?_;rintro e w3 ⟨rfl,hb3⟩)
     go_ret
     exact⟨ret_int HO.out.symm,HNX.out.trans (hb3.mono HNX.out.size)⟩
    | false=>
     have HO:=Hd (HS.out hq);rw [hq] at HCL
     go_wp2_with (go_at_fn g;refine HCL.out.mono ?_;rintro e w3 ⟨rfl,hb3⟩;have HB3:=Hd (HNX.out.trans (hb3.mono HNX.out.size));clear hb3)
     go_roundw
     case rel=>exact⟨k+1,by omega,by go_num,HO.out,HB3.out⟩
     case measure=>simp [intOf];omega
  · have hkn:k=n:=by omega
    have HN:=Hd (HNO.out fun j hj=>HT.out j (by rw [HLN.out] at hj;omega))
    go_wp2_with fail
    go_ret
    exact⟨ret_int HN.out.symm,HNX.out⟩
theorem slHasTF(g:Nat) (x0:Value) (eg:∀ args w,(callFunc g args).run Tryz.prog w=.ok (.enter g args) w) (f:ByteArray→Bool) (A:Option Addr) (n c:Nat) (l:List ByteArray) (w:World) (h:RdT w A n l) (hf:PredTF g x0 f l w):
 Calls Tryz.prog 137 #[.slice A n c,.func (.func g) #[x0] #[]] w fun e w'=>e=.returned (.bool (l.any f))∧Below w.heap.size w w':=by
 have HI:=Hd (slIndexTF g x0 eg f A n c l w h hf);have HA:=Hd (findI_any f l);clear h hf
 go_enter Tryz.func137,Tryz.ntmps137
 go_wp2_with fail
 refine HI.out.mono ?_;rintro e w2 ⟨rfl,hb2⟩;have HB2:=Hd hb2;clear hb2
 cases ha:l.any f with
 | true=>
  rw [ha] at HA;have d0:decide ((0:Int)≤findI f l 0)=true:=HA.out
  go_wp2_with fail
  go_ret
  exact⟨ret_bool ha.symm,HB2.out⟩
 | false=>
  rw [ha] at HA;have d0:decide ((0:Int)≤findI f l 0)=false:=HA.out
  go_wp2_with fail
  go_ret
  exact⟨ret_bool ha.symm,HB2.out⟩
end
end Go.Proofs.YtkbpdoomhfkngaaGreat
