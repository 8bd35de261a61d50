/- Parts of the proof: PiA. Conditions: each theorem's own. -/
import Derived.Test.YtpedcgpcchbhpaaGreatDoorU09
namespace Go.Proofs.YtpedcgpcchbhpaaGreatDoor
set_option linter.unusedVariables false
set_option linter.unusedSimpArgs false
set_option maxRecDepth 100000
set_option maxHeartbeats 40000000
section
open Go.RowKit Go.Sort
theorem findI_any{α:Type}(f:α→Bool):∀ (l:List α),decide ((0:Int)≤findI f l 0)=l.any f:=by
 have key:∀ (l:List α) (i:Nat),decide ((0:Int)≤findI f l i)=l.any f:=by
  intro l
  induction l with
  | nil=>intro i;simp [findI]
  | cons a l ih=>
   intro i;rw [findI]
   cases ha:f a with
   | true=>simp [ha]
   | false=>simp only [List.any_cons,ha,Bool.false_or];rw [if_neg (by simp)];exact ih (i+1)
 exact fun l=>key l 0
theorem findI_hitS{f:ByteArray→Bool}:∀ {l:List ByteArray}{k i:Nat},k<l.length→(∀ j,j<k→f (l[j]?.getD ByteArray.empty)=false)→f (l[k]?.getD ByteArray.empty)=true→findI f l i=((i+k:Nat):Int)
 | [],k,i,h,_,_=>by simp at h
 | a::l,0,i,_,_,h=>by
  have h:f a=true:=by simpa using h
  simp [findI,h]
 | a::l,k+1,i,hk,hn,h=>by
  have h0:f a=false:=by simpa using hn 0 (by omega)
  rw [findI,h0,if_neg (by simp),findI_hitS (k:=k) (by simpa using hk) (fun j hj=>by simpa using hn (j+1) (by omega)) (by simpa using h)]
  congr 1
  omega
theorem findI_noneS{f:ByteArray→Bool}:∀ {l:List ByteArray}{i:Nat},(∀ j,j<l.length→f (l[j]?.getD ByteArray.empty)=false)→findI f l i=-1
 | [],i,_=>rfl
 | a::l,i,hn=>by
  have h0:f a=false:=by simpa using hn 0 (by simp)
  rw [findI,h0,if_neg (by simp)];exact findI_noneS fun j hj=>by simpa using hn (j+1) (by simpa using hj)
theorem nd_at{w:World}{A:Option Addr}{n i:Nat}{l:List Nd}(h:RdNs w A n l) (hi:i<n):
 ∃ b off A1 c1 A2 c2 A3 c3 A4 c4,A=some ⟨b,off,none⟩∧b<w.heap.size∧rdN w (l[i]?.getD default) A1 A2 A3 A4 ∧
 w.cell? ⟨b,off+i*5,none⟩=some (.string (l[i]?.getD default).nm)∧w.cell? ⟨b,off+i*5+1,none⟩=some (.slice A1 (l[i]?.getD default).ins.length c1)∧w.cell? ⟨b,off+i*5+2,none⟩=some (.slice A2 (l[i]?.getD default).outs.length c2)∧w.cell? ⟨b,off+i*5+3,none⟩=some (.slice A3 (l[i]?.getD default).vars.length c3)∧w.cell? ⟨b,off+i*5+4,none⟩=some (.slice A4 (l[i]?.getD default).eqs.length c4):=by
 obtain⟨b,off,e,hb,hc⟩:=RdS.at_ h (by omega);obtain⟨A1,c1,A2,c2,A3,c3,A4,c4,h1,h2⟩:=hc i hi;obtain⟨d0,d1,d2,d3,d4⟩:=ndL_five h1;exact⟨b,off,A1,c1,A2,c2,A3,c3,A4,c4,e,hb,h2,d0,d1,d2,d3,d4⟩
theorem qn_at{w:World}{A:Option Addr}{n i:Nat}{l:List Qn}(h:RdQ w A n l) (hi:i<n):
 ∃ b off,∃ B c A' ca B' cb,A=some ⟨b,off,none⟩∧b<w.heap.size∧(RdT w B (l[i]?.getD default).ns.length (l[i]?.getD default).ns∧rdX w (l[i]?.getD default).x A' B') ∧
  w.cell? ⟨b,off+i*7,none⟩=some (.slice B (l[i]?.getD default).ns.length c)∧w.cell? ⟨b,off+i*7+1,none⟩=some (.int .i64 (l[i]?.getD default).x.k)∧w.cell? ⟨b,off+i*7+2,none⟩=some (.int .i64 (l[i]?.getD default).x.n) ∧
  w.cell? ⟨b,off+i*7+3,none⟩=some (.string (l[i]?.getD default).x.s)∧w.cell? ⟨b,off+i*7+4,none⟩=some (.int .i64 (l[i]?.getD default).x.op)∧w.cell? ⟨b,off+i*7+5,none⟩=some (.slice A' (l[i]?.getD default).x.arms.length ca)∧w.cell? ⟨b,off+i*7+6,none⟩=some (.slice B' (l[i]?.getD default).x.subs.length cb):=by
 obtain⟨b,off,e,hb,hc⟩:=RdS.at_ h (by omega);obtain⟨B,c,A',ca,B',cb,h0,h1,h2,h3⟩:=hc i hi;obtain⟨c0,c1,c2,c3,c4,c5⟩:=rangeAt_six h2;exact⟨b,off,B,c,A',ca,B',cb,e,hb,⟨h1,h3⟩,h0,c0,c1,c2,c3,c4,c5⟩
theorem dc_at{w:World}{A:Option Addr}{n i:Nat}{l:List Dc}(h:RdD w A n l) (hi:i<n):
 ∃ b off,A=some ⟨b,off,none⟩∧b<w.heap.size∧w.cell? ⟨b,off+i*6,none⟩=some (.string (l[i]?.getD default).nm)∧w.cell? ⟨b,off+i*6+1,none⟩=some (.int .i64 (l[i]?.getD default).k)∧w.cell? ⟨b,off+i*6+2,none⟩=some (.int .i64 (l[i]?.getD default).e) ∧
  w.cell? ⟨b,off+i*6+3,none⟩=some (.int .i64 (l[i]?.getD default).l)∧w.cell? ⟨b,off+i*6+4,none⟩=some (.string (l[i]?.getD default).on)∧w.cell? ⟨b,off+i*6+5,none⟩=some (.string (l[i]?.getD default).ct):=by
 obtain⟨b,off,e,hb,hc⟩:=RdS.at_ h (by omega);exact⟨b,off,e,hb,(hc i hi).six⟩
def PredNd(g:Nat) (lb:Array Value) (f:Nd→Bool) (l:List Nd) (w:World):Prop:=
 ∀ x,x∈l→∀ (A1:Option Addr) (c1:Nat) (A2:Option Addr) (c2:Nat) (A3:Option Addr) (c3:Nat) (A4:Option Addr) (c4:Nat) (W:World),Below w.heap.size w W→rdN W x A1 A2 A3 A4 →
  Calls Tryz.prog g (#[.agg (ndA x A1 c1 A2 c2 A3 c3 A4 c4)]++lb) W fun e w'=>e=.returned (.bool (f x))∧Below W.heap.size W w'
theorem slIndexNd(g:Nat) (lb:Array Value) (eg:∀ args w,(callFunc g args).run Tryz.prog w=.ok (.enter g args) w) (f:Nd→Bool) (A:Option Addr) (n c:Nat) (l:List Nd) (w:World) (h:RdNs w A n l) (hf:PredNd g lb f l w):
 Calls Tryz.prog 66 #[.slice A n c,.func (.func g) #[] lb] w fun e w'=>e=.returned (.int .i64 (findI f l 0))∧Below w.heap.size w w':=by
 have HR:=Hd h;have HP:=Hd hf;have hln:=RdS.len h;have hmx:=RdS.max h;have HHIT:=Hd (fun(k:Nat) hk hn hy=>show findI f l 0=(k:Int) by have:=findI_hit (l:=l) (f:=f) (k:=k) (i:=0) hk hn hy;rwa [Nat.zero_add] at this);have HNO:=Hd (fun hn=>show findI f l 0=-1 from findI_none (l:=l) (f:=f) (i:=0) hn);generalize findI f l 0=out at *;have HLN:=Hd hln;clear h hf hln;unfold PredNd at HP
 go_enter Tryz.func66,Tryz.ntmps66
 go_wp2_with fail
 go_loopw [5,8] (fun _ i wr=>∃ k:Nat,k≤n∧i=.int .i64 k∧(∀ j,j<k→f (l[j]?.getD default)=false)∧Below w.heap.size w wr) (fun _ i _=>n-(intOf i).toNat)
 case atStart=>exact⟨0,Nat.zero_le _,rfl,fun j hj=>absurd hj (by omega),Below.refl _ _⟩
 case round=>
  obtain⟨k,hk,rfl,hto,hnx⟩:=hrel;have HT:=Hd hto;have HNX:=Hd hnx;clear hto
  by_cases hlt:k<n
  · obtain⟨b,off,A1,c1,A2,c2,A3,c3,A4,c4,rfl,hb,hrd,d0,d1,d2,d3,d4⟩:=nd_at (HR.out.below hnx) hlt;have HCL:=Hd (HP.out _ (getD_memA (by rw [HLN.out];exact hlt)) A1 c1 A2 c2 A3 c3 A4 c4 wr hnx hrd);have HH:=Hd (HHIT.out k (by rw [HLN.out];exact hlt) HT.out);have HS:=Hd fun(hf:f (l[k]?.getD default)=false)=>to_next (P:=fun j=>f (l[j]?.getD default)=false) HT.out hf;clear hnx  hrd;unfold ndA at HCL;generalize l[k]?.getD default=x at d0 d1 d2 d3 d4 HCL HH HS
    cases hq:f x with
    | true=>
     have HO:=Hd (HH.out hq);rw [hq] at HCL
     go_wp2_with (go_at_fn g;refine HCL.out.mono ?_;rintro e w3 ⟨rfl,hb3⟩)
     go_ret
     exact⟨ret_int HO.out.symm,HNX.out.trans (hb3.mono HNX.out.size)⟩
    | false=>
     have HO:=Hd (HS.out hq);rw [hq] at HCL
     go_wp2_with (go_at_fn g;refine HCL.out.mono ?_;rintro e w3 ⟨rfl,hb3⟩;have HB3:=Hd (HNX.out.trans (hb3.mono HNX.out.size));clear hb3)
     go_roundw
     case rel=>exact⟨k+1,by omega,by go_num,HO.out,HB3.out⟩
     case measure=>simp [intOf];omega
  · have hkn:k=n:=by omega
    have HN:=Hd (HNO.out fun j hj=>HT.out j (by rw [HLN.out] at hj;omega))
    go_wp2_with fail
    go_ret
    exact⟨ret_int HN.out.symm,HNX.out⟩
theorem slHasNd(g:Nat) (lb:Array Value) (eg:∀ args w,(callFunc g args).run Tryz.prog w=.ok (.enter g args) w) (f:Nd→Bool) (A:Option Addr) (n c:Nat) (l:List Nd) (w:World) (h:RdNs w A n l) (hf:PredNd g lb f l w):
 Calls Tryz.prog 40 #[.slice A n c,.func (.func g) #[] lb] w fun e w'=>e=.returned (.bool (l.any f))∧Below w.heap.size w w':=by
 have HI:=Hd (slIndexNd g lb eg f A n c l w h hf);have HA:=Hd (findI_any f l);clear h hf
 go_enter Tryz.func40,Tryz.ntmps40
 go_wp2_with fail
 refine HI.out.mono ?_;rintro e w2 ⟨rfl,hb2⟩;have HB2:=Hd hb2;clear hb2
 cases ha:l.any f with
 | true=>
  rw [ha] at HA;have d0:decide ((0:Int)≤findI f l 0)=true:=HA.out
  go_wp2_with fail
  go_ret
  exact⟨ret_bool ha.symm,HB2.out⟩
 | false=>
  rw [ha] at HA;have d0:decide ((0:Int)≤findI f l 0)=false:=HA.out
  go_wp2_with fail
  go_ret
  exact⟨ret_bool ha.symm,HB2.out⟩
def PredDc(g:Nat) (lb:Array Value) (f:Dc→Bool) (l:List Dc) (w:World):Prop:=
 ∀ x,x∈l→∀ (W:World),Below w.heap.size w W →
  Calls Tryz.prog g (#[.agg (dcA x)]++lb) W fun e w'=>e=.returned (.bool (f x))∧Below W.heap.size W w'
theorem slIndexDc(g:Nat) (lb:Array Value) (eg:∀ args w,(callFunc g args).run Tryz.prog w=.ok (.enter g args) w) (f:Dc→Bool) (A:Option Addr) (n c:Nat) (l:List Dc) (w:World) (h:RdD w A n l) (hf:PredDc g lb f l w):
 Calls Tryz.prog 105 #[.slice A n c,.func (.func g) #[] lb] w fun e w'=>e=.returned (.int .i64 (findI f l 0))∧Below w.heap.size w w':=by
 have HR:=Hd h;have HP:=Hd hf;have hln:=RdS.len h;have hmx:=RdS.max h;have HHIT:=Hd (fun(k:Nat) hk hn hy=>show findI f l 0=(k:Int) by have:=findI_hit (l:=l) (f:=f) (k:=k) (i:=0) hk hn hy;rwa [Nat.zero_add] at this);have HNO:=Hd (fun hn=>show findI f l 0=-1 from findI_none (l:=l) (f:=f) (i:=0) hn);generalize findI f l 0=out at *;have HLN:=Hd hln;clear h hf hln;unfold PredDc at HP
 go_enter Tryz.func105,Tryz.ntmps105
 go_wp2_with fail
 go_loopw [5,8] (fun _ i wr=>∃ k:Nat,k≤n∧i=.int .i64 k∧(∀ j,j<k→f (l[j]?.getD default)=false)∧Below w.heap.size w wr) (fun _ i _=>n-(intOf i).toNat)
 case atStart=>exact⟨0,Nat.zero_le _,rfl,fun j hj=>absurd hj (by omega),Below.refl _ _⟩
 case round=>
  obtain⟨k,hk,rfl,hto,hnx⟩:=hrel;have HT:=Hd hto;have HNX:=Hd hnx;clear hto
  by_cases hlt:k<n
  · obtain⟨b,off,rfl,hb,d0,d1,d2,d3,d4,d5⟩:=dc_at (HR.out.below hnx) hlt;have HCL:=Hd (HP.out _ (getD_memA (by rw [HLN.out];exact hlt))  wr hnx);have HH:=Hd (HHIT.out k (by rw [HLN.out];exact hlt) HT.out);have HS:=Hd fun(hf:f (l[k]?.getD default)=false)=>to_next (P:=fun j=>f (l[j]?.getD default)=false) HT.out hf;clear hnx;unfold dcA at HCL;generalize l[k]?.getD default=x at d0 d1 d2 d3 d4 d5 HCL HH HS
    cases hq:f x with
    | true=>
     have HO:=Hd (HH.out hq);rw [hq] at HCL
     go_wp2_with (go_at_fn g;refine HCL.out.mono ?_;rintro e w3 ⟨rfl,hb3⟩)
     go_ret
     exact⟨ret_int HO.out.symm,HNX.out.trans (hb3.mono HNX.out.size)⟩
    | false=>
     have HO:=Hd (HS.out hq);rw [hq] at HCL
     go_wp2_with (go_at_fn g;refine HCL.out.mono ?_;rintro e w3 ⟨rfl,hb3⟩;have HB3:=Hd (HNX.out.trans (hb3.mono HNX.out.size));clear hb3)
     go_roundw
     case rel=>exact⟨k+1,by omega,by go_num,HO.out,HB3.out⟩
     case measure=>simp [intOf];omega
  · have hkn:k=n:=by omega
    have HN:=Hd (HNO.out fun j hj=>HT.out j (by rw [HLN.out] at hj;omega))
    go_wp2_with fail
    go_ret
    exact⟨ret_int HN.out.symm,HNX.out⟩
theorem slHasDc(g:Nat) (lb:Array Value) (eg:∀ args w,(callFunc g args).run Tryz.prog w=.ok (.enter g args) w) (f:Dc→Bool) (A:Option Addr) (n c:Nat) (l:List Dc) (w:World) (h:RdD w A n l) (hf:PredDc g lb f l w):
 Calls Tryz.prog 75 #[.slice A n c,.func (.func g) #[] lb] w fun e w'=>e=.returned (.bool (l.any f))∧Below w.heap.size w w':=by
 have HI:=Hd (slIndexDc g lb eg f A n c l w h hf);have HA:=Hd (findI_any f l);clear h hf
 go_enter Tryz.func75,Tryz.ntmps75
 go_wp2_with fail
 refine HI.out.mono ?_;rintro e w2 ⟨rfl,hb2⟩;have HB2:=Hd hb2;clear hb2
 cases ha:l.any f with
 | true=>
  rw [ha] at HA;have d0:decide ((0:Int)≤findI f l 0)=true:=HA.out
  go_wp2_with fail
  go_ret
  exact⟨ret_bool ha.symm,HB2.out⟩
 | false=>
  rw [ha] at HA;have d0:decide ((0:Int)≤findI f l 0)=false:=HA.out
  go_wp2_with fail
  go_ret
  exact⟨ret_bool ha.symm,HB2.out⟩
def PredQn(g:Nat) (lb:Array Value) (f:Qn→Bool) (l:List Qn) (w:World):Prop:=
 ∀ x,x∈l→∀ (B:Option Addr) (c:Nat) (A:Option Addr) (ca:Nat) (D:Option Addr) (cb:Nat) (W:World),Below w.heap.size w W→RdT W B x.ns.length x.ns∧rdX W x.x A D →
  Calls Tryz.prog g (#[.agg (qnA x B c A ca D cb)]++lb) W fun e w'=>e=.returned (.bool (f x))∧Below W.heap.size W w'
theorem slIndexQn(g:Nat) (lb:Array Value) (eg:∀ args w,(callFunc g args).run Tryz.prog w=.ok (.enter g args) w) (f:Qn→Bool) (A:Option Addr) (n c:Nat) (l:List Qn) (w:World) (h:RdQ w A n l) (hf:PredQn g lb f l w):
 Calls Tryz.prog 106 #[.slice A n c,.func (.func g) #[] lb] w fun e w'=>e=.returned (.int .i64 (findI f l 0))∧Below w.heap.size w w':=by
 have HR:=Hd h;have HP:=Hd hf;have hln:=RdS.len h;have hmx:=RdS.max h;have HHIT:=Hd (fun(k:Nat) hk hn hy=>show findI f l 0=(k:Int) by have:=findI_hit (l:=l) (f:=f) (k:=k) (i:=0) hk hn hy;rwa [Nat.zero_add] at this);have HNO:=Hd (fun hn=>show findI f l 0=-1 from findI_none (l:=l) (f:=f) (i:=0) hn);generalize findI f l 0=out at *;have HLN:=Hd hln;clear h hf hln;unfold PredQn at HP
 go_enter Tryz.func106,Tryz.ntmps106
 go_wp2_with fail
 go_loopw [5,8] (fun _ i wr=>∃ k:Nat,k≤n∧i=.int .i64 k∧(∀ j,j<k→f (l[j]?.getD default)=false)∧Below w.heap.size w wr) (fun _ i _=>n-(intOf i).toNat)
 case atStart=>exact⟨0,Nat.zero_le _,rfl,fun j hj=>absurd hj (by omega),Below.refl _ _⟩
 case round=>
  obtain⟨k,hk,rfl,hto,hnx⟩:=hrel;have HT:=Hd hto;have HNX:=Hd hnx;clear hto
  by_cases hlt:k<n
  · obtain⟨b,off,B,cB,A1,ca,D,cb,rfl,hb,hrd,d0,d1,d2,d3,d4,d5,d6⟩:=qn_at (HR.out.below hnx) hlt;have HCL:=Hd (HP.out _ (getD_memA (by rw [HLN.out];exact hlt)) B cB A1 ca D cb wr hnx hrd);have HH:=Hd (HHIT.out k (by rw [HLN.out];exact hlt) HT.out);have HS:=Hd fun(hf:f (l[k]?.getD default)=false)=>to_next (P:=fun j=>f (l[j]?.getD default)=false) HT.out hf;clear hnx  hrd;unfold qnA at HCL;generalize l[k]?.getD default=x at d0 d1 d2 d3 d4 d5 d6 HCL HH HS
    cases hq:f x with
    | true=>
     have HO:=Hd (HH.out hq);rw [hq] at HCL
     go_wp2_with (go_at_fn g;refine HCL.out.mono ?_;rintro e w3 ⟨rfl,hb3⟩)
     go_ret
     exact⟨ret_int HO.out.symm,HNX.out.trans (hb3.mono HNX.out.size)⟩
    | false=>
     have HO:=Hd (HS.out hq);rw [hq] at HCL
     go_wp2_with (go_at_fn g;refine HCL.out.mono ?_;rintro e w3 ⟨rfl,hb3⟩;have HB3:=Hd (HNX.out.trans (hb3.mono HNX.out.size));clear hb3)
     go_roundw
     case rel=>exact⟨k+1,by omega,by go_num,HO.out,HB3.out⟩
     case measure=>simp [intOf];omega
  · have hkn:k=n:=by omega
    have HN:=Hd (HNO.out fun j hj=>HT.out j (by rw [HLN.out] at hj;omega))
    go_wp2_with fail
    go_ret
    exact⟨ret_int HN.out.symm,HNX.out⟩
theorem slHasQn(g:Nat) (lb:Array Value) (eg:∀ args w,(callFunc g args).run Tryz.prog w=.ok (.enter g args) w) (f:Qn→Bool) (A:Option Addr) (n c:Nat) (l:List Qn) (w:World) (h:RdQ w A n l) (hf:PredQn g lb f l w):
 Calls Tryz.prog 76 #[.slice A n c,.func (.func g) #[] lb] w fun e w'=>e=.returned (.bool (l.any f))∧Below w.heap.size w w':=by
 have HI:=Hd (slIndexQn g lb eg f A n c l w h hf);have HA:=Hd (findI_any f l);clear h hf
 go_enter Tryz.func76,Tryz.ntmps76
 go_wp2_with fail
 refine HI.out.mono ?_;rintro e w2 ⟨rfl,hb2⟩;have HB2:=Hd hb2;clear hb2
 cases ha:l.any f with
 | true=>
  rw [ha] at HA;have d0:decide ((0:Int)≤findI f l 0)=true:=HA.out
  go_wp2_with fail
  go_ret
  exact⟨ret_bool ha.symm,HB2.out⟩
 | false=>
  rw [ha] at HA;have d0:decide ((0:Int)≤findI f l 0)=false:=HA.out
  go_wp2_with fail
  go_ret
  exact⟨ret_bool ha.symm,HB2.out⟩
def PredT(g:Nat) (lb:Array Value) (f:ByteArray→Bool) (l:List ByteArray) (w:World):Prop:=
 ∀ x,x∈l→∀ (W:World),Below w.heap.size w W →
  Calls Tryz.prog g (#[.string x]++lb) W fun e w'=>e=.returned (.bool (f x))∧Below W.heap.size W w'
theorem slIndexT(g:Nat) (lb:Array Value) (eg:∀ args w,(callFunc g args).run Tryz.prog w=.ok (.enter g args) w) (f:ByteArray→Bool) (A:Option Addr) (n c:Nat) (l:List ByteArray) (w:World) (h:RdT w A n l) (hf:PredT g lb f l w):
 Calls Tryz.prog 136 #[.slice A n c,.func (.func g) #[] lb] w fun e w'=>e=.returned (.int .i64 (findI f l 0))∧Below w.heap.size w w':=by
 have HR:=Hd h;have HP:=Hd hf;have hln:=RdT.len h;have hmx:=RdT.max h;have HHIT:=Hd (fun(k:Nat) hk hn hy=>show findI f l 0=(k:Int) by have:=findI_hitS (l:=l) (f:=f) (k:=k) (i:=0) hk hn hy;rwa [Nat.zero_add] at this);have HNO:=Hd (fun hn=>show findI f l 0=-1 from findI_noneS (l:=l) (f:=f) (i:=0) hn);generalize findI f l 0=out at *;have HLN:=Hd hln;clear h hf hln;unfold PredT at HP
 go_enter Tryz.func136,Tryz.ntmps136
 go_wp2_with fail
 go_loopw [5,8] (fun _ i wr=>∃ k:Nat,k≤n∧i=.int .i64 k∧(∀ j,j<k→f (l[j]?.getD ByteArray.empty)=false)∧Below w.heap.size w wr) (fun _ i _=>n-(intOf i).toNat)
 case atStart=>exact⟨0,Nat.zero_le _,rfl,fun j hj=>absurd hj (by omega),Below.refl _ _⟩
 case round=>
  obtain⟨k,hk,rfl,hto,hnx⟩:=hrel;have HT:=Hd hto;have HNX:=Hd hnx;clear hto
  by_cases hlt:k<n
  · obtain⟨b,off,rfl,hb,hc⟩:=(HR.out.below hnx).at_ hlt;have d0:=hc k hlt;have HCL:=Hd (HP.out _ (getD_mem (by rw [HLN.out];exact hlt))  wr hnx);have HH:=Hd (HHIT.out k (by rw [HLN.out];exact hlt) HT.out);have HS:=Hd fun(hf:f (l[k]?.getD ByteArray.empty)=false)=>to_next (P:=fun j=>f (l[j]?.getD ByteArray.empty)=false) HT.out hf;clear hnx hc
    skip
    generalize l[k]?.getD ByteArray.empty=x at d0 HCL HH HS
    cases hq:f x with
    | true=>
     have HO:=Hd (HH.out hq);rw [hq] at HCL
     go_wp2_with (go_at_fn g;refine HCL.out.mono ?_;rintro e w3 ⟨rfl,hb3⟩)
     go_ret
     exact⟨ret_int HO.out.symm,HNX.out.trans (hb3.mono HNX.out.size)⟩
    | false=>
     have HO:=Hd (HS.out hq);rw [hq] at HCL
     go_wp2_with (go_at_fn g;refine HCL.out.mono ?_;rintro e w3 ⟨rfl,hb3⟩;have HB3:=Hd (HNX.out.trans (hb3.mono HNX.out.size));clear hb3)
     go_roundw
     case rel=>exact⟨k+1,by omega,by go_num,HO.out,HB3.out⟩
     case measure=>simp [intOf];omega
  · have hkn:k=n:=by omega
    have HN:=Hd (HNO.out fun j hj=>HT.out j (by rw [HLN.out] at hj;omega))
    go_wp2_with fail
    go_ret
    exact⟨ret_int HN.out.symm,HNX.out⟩
theorem slHasT(g:Nat) (lb:Array Value) (eg:∀ args w,(callFunc g args).run Tryz.prog w=.ok (.enter g args) w) (f:ByteArray→Bool) (A:Option Addr) (n c:Nat) (l:List ByteArray) (w:World) (h:RdT w A n l) (hf:PredT g lb f l w):
 Calls Tryz.prog 108 #[.slice A n c,.func (.func g) #[] lb] w fun e w'=>e=.returned (.bool (l.any f))∧Below w.heap.size w w':=by
 have HI:=Hd (slIndexT g lb eg f A n c l w h hf);have HA:=Hd (findI_any f l);clear h hf
 go_enter Tryz.func108,Tryz.ntmps108
 go_wp2_with fail
 refine HI.out.mono ?_;rintro e w2 ⟨rfl,hb2⟩;have HB2:=Hd hb2;clear hb2
 cases ha:l.any f with
 | true=>
  rw [ha] at HA;have d0:decide ((0:Int)≤findI f l 0)=true:=HA.out
  go_wp2_with fail
  go_ret
  exact⟨ret_bool ha.symm,HB2.out⟩
 | false=>
  rw [ha] at HA;have d0:decide ((0:Int)≤findI f l 0)=false:=HA.out
  go_wp2_with fail
  go_ret
  exact⟨ret_bool ha.symm,HB2.out⟩
end
end Go.Proofs.YtpedcgpcchbhpaaGreatDoor
