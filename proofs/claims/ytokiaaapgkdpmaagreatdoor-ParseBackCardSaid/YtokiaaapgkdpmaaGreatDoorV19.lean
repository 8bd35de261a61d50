/- Parts of the proof: EyA. Conditions: each theorem's own. -/
import Derived.Test.YtokiaaapgkdpmaaGreatDoorV03
import Derived.Test.YtokiaaapgkdpmaaGreatDoorV06
namespace Go.Proofs.YtokiaaapgkdpmaaGreatDoor
set_option linter.unusedVariables false
set_option linter.unusedSimpArgs false
set_option maxRecDepth 100000
set_option maxHeartbeats 40000000
section
open Go.RowKit Go.Sort
theorem exSingle(x:Ex) (A:Option Addr) (ca:Nat) (B:Option Addr) (cb:Nat) (w:World) (hr:rdX w x A B):
 Calls Tryz.prog 137 #[.agg (exA x A ca B cb)] w fun e w'=>e=.returned (.bool (literalX x))∧Below w.heap.size w w':=by
 have HF:=Hd fun w1 h=>box_facts w x A ca B cb w1 h hr;have HS:=Hd (show literalX x=if x.k==5 then(x.op==1) && (x.subs.length==1) && ((subX x 0).k==1) else(x.k==1) || (x.k==2) || (x.k==4) from rfl);have hmx:=hr.subs.max;clear hr;unfold exA at HF ⊢;generalize literalX x=res at *;generalize x.k=k at *;generalize x.op=o at *;generalize hlen:x.subs.length=n at *;have hln:=int_len n
 by_cases h1:k=1
 · subst h1;have HN:=Hd (show res=true by rw [HS.out];rfl)
   go_enter Tryz.func137,Tryz.ntmps137
   go_upto_region 1 with(fail)
   generalize hw1:w.alloc _=w1;obtain⟨hb1,hg,hr1,hcell⟩:=HF.out w1 hw1;have HB1:=Hd hb1;have q0:=hcell w1 (Below.refl _ _) 0;clear hcell hb1 hr1 hw1 HF
   go_wp2_with fail
   go_ret
   exact⟨ret_bool HN.out.symm,HB1.out⟩
 by_cases h2:k=2
 · subst h2;have HN:=Hd (show res=true by rw [HS.out];rfl)
   go_enter Tryz.func137,Tryz.ntmps137
   go_upto_region 1 with(fail)
   generalize hw1:w.alloc _=w1;obtain⟨hb1,hg,hr1,hcell⟩:=HF.out w1 hw1;have HB1:=Hd hb1;have q0:=hcell w1 (Below.refl _ _) 0;clear hcell hb1 hr1 hw1 HF
   go_wp2_with fail
   go_ret
   exact⟨ret_bool HN.out.symm,HB1.out⟩
 by_cases h4:k=4
 · subst h4;have HN:=Hd (show res=true by rw [HS.out];rfl)
   go_enter Tryz.func137,Tryz.ntmps137
   go_upto_region 1 with(fail)
   generalize hw1:w.alloc _=w1;obtain⟨hb1,hg,hr1,hcell⟩:=HF.out w1 hw1;have HB1:=Hd hb1;have q0:=hcell w1 (Below.refl _ _) 0;clear hcell hb1 hr1 hw1 HF
   go_wp2_with fail
   go_ret
   exact⟨ret_bool HN.out.symm,HB1.out⟩
 by_cases h5:k=5
 · subst h5
   cases ho:(o==1) with
   | false=>
    have HN:=Hd (show res=false by rw [HS.out,ho];rfl)
    go_enter Tryz.func137,Tryz.ntmps137
    go_upto_region 1 with(fail)
    generalize hw1:w.alloc _=w1;obtain⟨hb1,hg,hr1,hcell⟩:=HF.out w1 hw1;have HB1:=Hd hb1;obtain⟨q0,-,-,q3,-,q5⟩:=Sx (hcell w1 (Below.refl _ _));clear hcell hb1 hr1 hw1 HF
    go_wp2_with fail
    go_ret
    exact⟨ret_bool HN.out.symm,HB1.out⟩
   | true=>
    cases hl:(n==1) with
    | false=>
     have HN:=Hd (show res=false by rw [HS.out,ho,hl];rfl);rw [hl] at hln
     go_enter Tryz.func137,Tryz.ntmps137
     go_upto_region 1 with(fail)
     generalize hw1:w.alloc _=w1;obtain⟨hb1,hg,hr1,hcell⟩:=HF.out w1 hw1;have HB1:=Hd hb1;obtain⟨q0,-,-,q3,-,q5⟩:=Sx (hcell w1 (Below.refl _ _));clear hcell hb1 hr1 hw1 HF
     go_wp2_with fail
     go_ret
     exact⟨ret_bool HN.out.symm,HB1.out⟩
    | true=>
     have HN:=Hd (show res=((subX x 0).k==1) by rw [HS.out,ho,hl];rfl);rw [hl] at hln;obtain rfl:n=1:=by simpa using hl
     go_enter Tryz.func137,Tryz.ntmps137
     go_upto_region 1 with(fail)
     generalize hw1:w.alloc _=w1;obtain⟨hb1,hg,hr1,hcell⟩:=HF.out w1 hw1;have HB1:=Hd hb1;obtain⟨q0,-,-,q3,-,q5⟩:=Sx (hcell w1 (Below.refl _ _));obtain⟨b,off,rfl,hb,hat⟩:=hr1.sub (i:=0) (by omega);obtain⟨A',ca',B',cb',hrg,hrd⟩:=hat 0 (by omega);rw [Nat.zero_mul,Nat.add_zero] at hrg;obtain⟨c0,c1,c2,c3,c4,c5⟩:=rangeAt_six hrg;clear hat hrg hrd c1 c2 c3 c4 c5;clear hcell hb1 hr1 hw1 HF;generalize (subX x 0).k=z at *
     go_wp2_with fail
     go_ret
     exact⟨ret_bool HN.out.symm,HB1.out⟩
 have e1:(k==1)=false:=by simpa using h1
 have e2:(k==2)=false:=by simpa using h2
 have e4:(k==4)=false:=by simpa using h4
 have e5:(k==5)=false:=by simpa using h5
 have HN:=Hd (show res=false by rw [HS.out,e5,e1,e2,e4];rfl)
 go_enter Tryz.func137,Tryz.ntmps137
 go_upto_region 1 with(fail)
 generalize hw1:w.alloc _=w1;obtain⟨hb1,hg,hr1,hcell⟩:=HF.out w1 hw1;have HB1:=Hd hb1;have q0:=hcell w1 (Below.refl _ _) 0;clear hcell hb1 hr1 hw1 HF
 go_wp2_with fail
 go_ret
 exact⟨ret_bool HN.out.symm,HB1.out⟩
theorem exConst(x:Ex) (A:Option Addr) (ca:Nat) (B:Option Addr) (cb:Nat) (w:World) (hr:rdX w x A B):
 Calls Tryz.prog 120 #[.agg (exA x A ca B cb)] w fun e w'=>e=.returned (.bool (constX x))∧Below w.heap.size w w':=by
 have HF:=Hd fun w1 h=>box_facts w x A ca B cb w1 h hr;have HS:=Hd (show constX x=if x.k==14 then x.subs.all literalX else literalX x from rfl);have hmx:=hr.subs.max;have HLT:=Hd fun(x:Ex) (A:Option Addr) (ca:Nat) (B:Option Addr) (cb:Nat) (w:World) (hr:rdX w x A B)=>exSingle x A ca B cb w hr;have HBX:=Hd fun(x:Ex) (A:Option Addr) (ca:Nat) (B:Option Addr) (cb:Nat) (w w1:World) (h:_) (hr:rdX w x A B)=>box_facts w x A ca B cb w1 h hr;have HAL:=Hd fun i (hi:i<x.subs.length) (h:literalX (subX x i)=false)=>all_false (f:=literalX) hi h;have HAS:=Hd fun k (hk:k<x.subs.length) h (hx:literalX (subX x k)=true)=>all_take_succ (f:=literalX) hk h hx;have HAE:=Hd fun k h (hk:x.subs.length≤k)=>all_take_end (l:=x.subs) (f:=literalX) (k:=k) h hk;have HLX:=Hd fun w1 (h:rdX w1 x A B)=>exSingle x A ca B cb w1 h;clear hr;unfold exA at HF HLT HLX HBX ⊢;generalize constX x=res at *;generalize literalX x=lx at *;generalize x.k=k at *;generalize hlen:x.subs.length=n at *
 cases h14:(k==14) with
 | false=>
  have n14:(k != 14)=true:=by rw [bne,h14];rfl
  have HN:=Hd (show res=lx by rw [HS.out,h14];rfl)
  go_enter Tryz.func120,Tryz.ntmps120
  go_upto_region 1 with(fail)
  generalize hw1:w.alloc _=w1;obtain⟨hb1,hg,hr1,hcell⟩:=HF.out w1 hw1;have HB1:=Hd hb1;obtain⟨q0,q1,q2,q3,q4,q5⟩:=Sx (hcell w1 (Below.refl _ _));have HL1:=Hd (HLX.out w1 hr1);clear hcell hb1 hr1 hw1 HF
  go_wp2_with fail
  refine HL1.out.mono ?_;rintro r w2 ⟨rfl,hb2⟩;have HB2:=Hd (HB1.out.trans (hb2.mono HB1.out.size));clear hb2
  go_wp2_with fail
  go_ret
  exact⟨ret_bool HN.out.symm,HB2.out⟩
 | true=>
  obtain rfl:k=14:=by simpa using h14
  have HN:=Hd (show res=x.subs.all literalX by rw [HS.out];rfl)
  go_enter Tryz.func120,Tryz.ntmps120
  go_upto_region 1 with(fail)
  generalize hw1:w.alloc _=w1;obtain⟨hb1,hg,hr1,hcell⟩:=HF.out w1 hw1;have HB1:=Hd hb1;have q0:=hcell w1 (Below.refl _ _) 0;have q5:=hcell w1 (Below.refl _ _) 5;have HC:=Hd hcell;have HR1:=Hd hr1;clear hcell hb1 hr1 hw1 HF
  go_wp2_with fail
  go_loopw [13] (fun i wr=>∃ k:Nat,k≤n∧i=.int .i64 k∧(x.subs.take k).all literalX=true∧Below w1.heap.size w1 wr) (fun i _=>n-(intOf i).toNat)
  case atStart=>exact⟨0,Nat.zero_le _,rfl,by simp,Below.refl _ _⟩
  case round=>
   obtain⟨k,hk,rfl,hall,hbw⟩:=hrel;have HA:=Hd hall;have HBW:=Hd hbw;clear hall
   by_cases hlt:k<n
   · obtain⟨b,off,rfl,hb,hat⟩:=(HR1.out.below hbw).sub (i:=k) (by omega);obtain⟨A',ca',B',cb',hrg,hrd⟩:=hat k (by omega);obtain⟨c0,c1,c2,c3,c4,c5⟩:=rangeAt_six hrg;have HF3:=Hd fun w3 h=>HBX.out (subX x k) A' ca' B' cb' wr w3 h hrd;have HAL':=Hd (HAL.out k (by omega));have HAS':=Hd (HAS.out k (by omega) HA.out);clear hat hbw hrg hrd
     go_upto_region 6 with(fail)
     generalize hw3:wr.alloc _=w3;obtain⟨hb3,hg3,hr3,hcell3⟩:=HF3.out w3 hw3;obtain⟨d0,d1,d2,d3,d4,d5⟩:=Sx (hcell3 w3 (Below.refl _ _));have HCL:=Hd (HLT.out (subX x k) A' ca' B' cb' w3 hr3);have HB3:=Hd (HBW.out.trans (hb3.mono HBW.out.size));clear hcell3 hb3 hr3 hw3 HF3
     cases hl:literalX (subX x k) with
     | false=>
      rw [hl] at HCL;have HF':=Hd (HAL'.out hl)
      go_wp2_with fail
      refine HCL.out.mono ?_;rintro r w2 ⟨rfl,hb2⟩;have HB2:=Hd (HB3.out.trans (hb2.mono HB3.out.size));clear hb2
      go_wp2_with fail
      go_ret
      exact⟨ret_bool (by rw [HN.out,HF'.out]),HB1.out.trans (HB2.out.mono HB1.out.size)⟩
     | true=>
      rw [hl] at HCL;have HF':=Hd (HAS'.out hl)
      go_wp2_with fail
      refine HCL.out.mono ?_;rintro r w2 ⟨rfl,hb2⟩;have HB2:=Hd (HB3.out.trans (hb2.mono HB3.out.size));clear hb2
      go_wp2_with fail
      go_roundw
      case rel=>exact⟨k+1,by omega,by go_num,HF'.out,HB2.out⟩
      case measure=>simp [intOf];omega
   · have HE:=Hd (HAE.out k HA.out (by omega))
     go_wp2_with fail
     go_ret
     exact⟨ret_bool (by rw [HN.out,HE.out]),HB1.out.trans (HBW.out.mono HB1.out.size)⟩
theorem exDepth:∀ (x:Ex) (A:Option Addr) (ca:Nat) (B:Option Addr) (cb:Nat) (w:World),rdX w x A B→sizeX x≤1000000 →
 Calls Tryz.prog 26 #[.agg (exA x A ca B cb)] w fun e w'=>e=.returned (.int .i64 (depthX x:Nat))∧Below w.heap.size w w':=by
 refine size_ind fun x ih A ca B cb w hr hs=>?_;have HIH:=Hd ih;have HSZ:=Hd (depthX_eq x);have hds:=depth_size x;have hsz:=depthX_eq x;have hmx:=hr.subs.max;have HF:=Hd fun w1 h=>box_facts w x A ca B cb w1 h hr;have HBX:=Hd fun(x:Ex) (A:Option Addr) (ca:Nat) (B:Option Addr) (cb:Nat) (w w1:World) (h:_) (hr:rdX w x A B)=>box_facts w x A ca B cb w1 h hr;have HSN:=Hd fun i (hi:i<x.subs.length)=>depths_snoc hi;have HSUB:=Hd fun i (hi:i<x.subs.length)=>(size_sub (subX_mem hi));have HTL:=Hd (List.take_length (l:=x.subs));clear ih hr;unfold exA at HF HIH HBX ⊢;generalize hlen:x.subs.length=len at *
 go_enter Tryz.func26,Tryz.ntmps26
 go_upto_region 1 with(fail)
 generalize hw1:w.alloc _=w1;obtain⟨hb1,hg,hr1,hcell⟩:=HF.out w1 hw1;have HB1:=Hd hb1;have q5:=hcell w1 (Below.refl _ _) 5;have HR1:=Hd hr1;clear hcell hb1 hr1 hw1 HF
 go_wp2_with fail
 go_loopw [3,9] (fun s i wr=>∃ k:Nat,k≤len∧i=.int .i64 k∧s=.int .i64 ((depthsX (x.subs.take k):Nat):Int)∧Below w1.heap.size w1 wr) (fun _ i _=>len-(intOf i).toNat)
 case atStart=>exact⟨0,Nat.zero_le _,rfl,by simp [depthsX],Below.refl _ _⟩
 case round=>
  obtain⟨k,hk,rfl,rfl,hbw⟩:=hrel;have HBW:=Hd hbw
  by_cases hlt:k<len
  · obtain⟨b,off,rfl,hb,hat⟩:=(HR1.out.below hbw).sub (i:=k) (by omega);obtain⟨A',ca',B',cb',hrg,hrd⟩:=hat k (by omega);obtain⟨c0,c1,c2,c3,c4,c5⟩:=rangeAt_six hrg;have HF3:=Hd fun w3 h=>HBX.out (subX x k) A' ca' B' cb' wr w3 h hrd;have HSNK:=Hd (HSN.out k (by omega));clear hat hbw hrg hrd;have hss:=HSUB.out k (by omega)
    go_upto_region 5 with(fail)
    generalize hw3:wr.alloc _=w3;obtain⟨hb3,hg3,hr3,hcell3⟩:=HF3.out w3 hw3;obtain⟨d0,d1,d2,d3,d4,d5⟩:=Sx (hcell3 w3 (Below.refl _ _));have HCL:=Hd (HIH.out k (by omega) A' ca' B' cb' w3 hr3 (by omega));have HB3:=Hd (HBW.out.trans (hb3.mono HBW.out.size));clear hcell3 hb3 hr3 hw3 HF3
    go_wp2_with fail
    refine HCL.out.mono ?_;rintro r w2 ⟨rfl,hb2⟩;have HB2:=Hd (HB3.out.trans (hb2.mono HB3.out.size));clear hb2
    go_wp2_with fail
    go_roundw
    case rel=>
     refine⟨k+1,by omega,by go_num,?_,HB2.out⟩;rw [HSNK.out]
     first | rfl | (congr 1;omega) | (simp;done) | skip
    case measure=>simp [intOf];omega
  · have hkl:k=len:=by omega
    subst hkl;have HE:=Hd (hlen ▸ HTL.out:x.subs.take k=x.subs);rw [HE.out];generalize depthsX x.subs=d at *
    go_wp2_with fail
    go_ret
    refine⟨?_,HB1.out.trans (HBW.out.mono HB1.out.size)⟩;rw [HSZ.out,Nat.add_comm];rfl
end
end Go.Proofs.YtokiaaapgkdpmaaGreatDoor
