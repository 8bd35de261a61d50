/- Parts of the proof: EyA, EyD, EyP. Conditions: each theorem's own. -/
import Derived.Test.YtkbpdoomhfkngaaGreatR02
import Derived.Test.YtkbpdoomhfkngaaGreatR05
namespace Go.Proofs.YtkbpdoomhfkngaaGreat
set_option linter.unusedVariables false
set_option linter.unusedSimpArgs false
set_option maxRecDepth 100000
set_option maxHeartbeats 40000000
section
open Go.RowKit Go.Sort
theorem exSingle(x:Ex) (A:Option Addr) (ca:Nat) (B:Option Addr) (cb:Nat) (w:World) (hr:rdX w x A B):
 Calls Tryz.prog 170 #[.agg (exA x A ca B cb)] w fun e w'=>e=.returned (.bool (literalX x))∧Below w.heap.size w w':=by
 have HF:=Hd fun w1 h=>box_facts w x A ca B cb w1 h hr;have HS:=Hd (show literalX x=if x.k==5 then(x.op==1) && (x.subs.length==1) && ((subX x 0).k==1) else(x.k==1) || (x.k==2) || (x.k==4) from rfl);have hmx:=hr.subs.max;clear hr;unfold exA at HF ⊢;generalize literalX x=res at *;generalize x.k=k at *;generalize x.op=o at *;generalize hlen:x.subs.length=n at *;have hln:=int_len n
 by_cases h1:k=1
 · subst h1;have HN:=Hd (show res=true by rw [HS.out];rfl)
   go_enter Tryz.func170,Tryz.ntmps170
   go_upto_region 1 with(fail)
   generalize hw1:w.alloc _=w1;obtain⟨hb1,hg,hr1,hcell⟩:=HF.out w1 hw1;have HB1:=Hd hb1;have q0:=hcell w1 (Below.refl _ _) 0;clear hcell hb1 hr1 hw1 HF
   go_wp2_with fail
   go_ret
   exact⟨ret_bool HN.out.symm,HB1.out⟩
 by_cases h2:k=2
 · subst h2;have HN:=Hd (show res=true by rw [HS.out];rfl)
   go_enter Tryz.func170,Tryz.ntmps170
   go_upto_region 1 with(fail)
   generalize hw1:w.alloc _=w1;obtain⟨hb1,hg,hr1,hcell⟩:=HF.out w1 hw1;have HB1:=Hd hb1;have q0:=hcell w1 (Below.refl _ _) 0;clear hcell hb1 hr1 hw1 HF
   go_wp2_with fail
   go_ret
   exact⟨ret_bool HN.out.symm,HB1.out⟩
 by_cases h4:k=4
 · subst h4;have HN:=Hd (show res=true by rw [HS.out];rfl)
   go_enter Tryz.func170,Tryz.ntmps170
   go_upto_region 1 with(fail)
   generalize hw1:w.alloc _=w1;obtain⟨hb1,hg,hr1,hcell⟩:=HF.out w1 hw1;have HB1:=Hd hb1;have q0:=hcell w1 (Below.refl _ _) 0;clear hcell hb1 hr1 hw1 HF
   go_wp2_with fail
   go_ret
   exact⟨ret_bool HN.out.symm,HB1.out⟩
 by_cases h5:k=5
 · subst h5
   cases ho:(o==1) with
   | false=>
    have HN:=Hd (show res=false by rw [HS.out,ho];rfl)
    go_enter Tryz.func170,Tryz.ntmps170
    go_upto_region 1 with(fail)
    generalize hw1:w.alloc _=w1;obtain⟨hb1,hg,hr1,hcell⟩:=HF.out w1 hw1;have HB1:=Hd hb1;obtain⟨q0,-,-,q3,-,q5⟩:=Sx (hcell w1 (Below.refl _ _));clear hcell hb1 hr1 hw1 HF
    go_wp2_with fail
    go_ret
    exact⟨ret_bool HN.out.symm,HB1.out⟩
   | true=>
    cases hl:(n==1) with
    | false=>
     have HN:=Hd (show res=false by rw [HS.out,ho,hl];rfl);rw [hl] at hln
     go_enter Tryz.func170,Tryz.ntmps170
     go_upto_region 1 with(fail)
     generalize hw1:w.alloc _=w1;obtain⟨hb1,hg,hr1,hcell⟩:=HF.out w1 hw1;have HB1:=Hd hb1;obtain⟨q0,-,-,q3,-,q5⟩:=Sx (hcell w1 (Below.refl _ _));clear hcell hb1 hr1 hw1 HF
     go_wp2_with fail
     go_ret
     exact⟨ret_bool HN.out.symm,HB1.out⟩
    | true=>
     have HN:=Hd (show res=((subX x 0).k==1) by rw [HS.out,ho,hl];rfl);rw [hl] at hln;obtain rfl:n=1:=by simpa using hl
     go_enter Tryz.func170,Tryz.ntmps170
     go_upto_region 1 with(fail)
     generalize hw1:w.alloc _=w1;obtain⟨hb1,hg,hr1,hcell⟩:=HF.out w1 hw1;have HB1:=Hd hb1;obtain⟨q0,-,-,q3,-,q5⟩:=Sx (hcell w1 (Below.refl _ _));obtain⟨b,off,rfl,hb,hat⟩:=hr1.sub (i:=0) (by omega);obtain⟨A',ca',B',cb',hrg,hrd⟩:=hat 0 (by omega);rw [Nat.zero_mul,Nat.add_zero] at hrg;obtain⟨c0,c1,c2,c3,c4,c5⟩:=rangeAt_six hrg;clear hat hrg hrd c1 c2 c3 c4 c5;clear hcell hb1 hr1 hw1 HF;generalize (subX x 0).k=z at *
     go_wp2_with fail
     go_ret
     exact⟨ret_bool HN.out.symm,HB1.out⟩
 have e1:(k==1)=false:=by simpa using h1
 have e2:(k==2)=false:=by simpa using h2
 have e4:(k==4)=false:=by simpa using h4
 have e5:(k==5)=false:=by simpa using h5
 have HN:=Hd (show res=false by rw [HS.out,e5,e1,e2,e4];rfl)
 go_enter Tryz.func170,Tryz.ntmps170
 go_upto_region 1 with(fail)
 generalize hw1:w.alloc _=w1;obtain⟨hb1,hg,hr1,hcell⟩:=HF.out w1 hw1;have HB1:=Hd hb1;have q0:=hcell w1 (Below.refl _ _) 0;clear hcell hb1 hr1 hw1 HF
 go_wp2_with fail
 go_ret
 exact⟨ret_bool HN.out.symm,HB1.out⟩
theorem exConst(x:Ex) (A:Option Addr) (ca:Nat) (B:Option Addr) (cb:Nat) (w:World) (hr:rdX w x A B):
 Calls Tryz.prog 141 #[.agg (exA x A ca B cb)] w fun e w'=>e=.returned (.bool (constX x))∧Below w.heap.size w w':=by
 have HF:=Hd fun w1 h=>box_facts w x A ca B cb w1 h hr;have HS:=Hd (show constX x=if x.k==14 then x.subs.all literalX else literalX x from rfl);have hmx:=hr.subs.max;have HLT:=Hd fun(x:Ex) (A:Option Addr) (ca:Nat) (B:Option Addr) (cb:Nat) (w:World) (hr:rdX w x A B)=>exSingle x A ca B cb w hr;have HBX:=Hd fun(x:Ex) (A:Option Addr) (ca:Nat) (B:Option Addr) (cb:Nat) (w w1:World) (h:_) (hr:rdX w x A B)=>box_facts w x A ca B cb w1 h hr;have HAL:=Hd fun i (hi:i<x.subs.length) (h:literalX (subX x i)=false)=>all_false (f:=literalX) hi h;have HAS:=Hd fun k (hk:k<x.subs.length) h (hx:literalX (subX x k)=true)=>all_take_succ (f:=literalX) hk h hx;have HAE:=Hd fun k h (hk:x.subs.length≤k)=>all_take_end (l:=x.subs) (f:=literalX) (k:=k) h hk;have HLX:=Hd fun w1 (h:rdX w1 x A B)=>exSingle x A ca B cb w1 h;clear hr;unfold exA at HF HLT HLX HBX ⊢;generalize constX x=res at *;generalize literalX x=lx at *;generalize x.k=k at *;generalize hlen:x.subs.length=n at *
 cases h14:(k==14) with
 | false=>
  have n14:(k != 14)=true:=by rw [bne,h14];rfl
  have HN:=Hd (show res=lx by rw [HS.out,h14];rfl)
  go_enter Tryz.func141,Tryz.ntmps141
  go_upto_region 1 with(fail)
  generalize hw1:w.alloc _=w1;obtain⟨hb1,hg,hr1,hcell⟩:=HF.out w1 hw1;have HB1:=Hd hb1;obtain⟨q0,q1,q2,q3,q4,q5⟩:=Sx (hcell w1 (Below.refl _ _));have HL1:=Hd (HLX.out w1 hr1);clear hcell hb1 hr1 hw1 HF
  go_wp2_with fail
  refine HL1.out.mono ?_;rintro r w2 ⟨rfl,hb2⟩;have HB2:=Hd (HB1.out.trans (hb2.mono HB1.out.size));clear hb2
  go_wp2_with fail
  go_ret
  exact⟨ret_bool HN.out.symm,HB2.out⟩
 | true=>
  obtain rfl:k=14:=by simpa using h14
  have HN:=Hd (show res=x.subs.all literalX by rw [HS.out];rfl)
  go_enter Tryz.func141,Tryz.ntmps141
  go_upto_region 1 with(fail)
  generalize hw1:w.alloc _=w1;obtain⟨hb1,hg,hr1,hcell⟩:=HF.out w1 hw1;have HB1:=Hd hb1;have q0:=hcell w1 (Below.refl _ _) 0;have q5:=hcell w1 (Below.refl _ _) 5;have HC:=Hd hcell;have HR1:=Hd hr1;clear hcell hb1 hr1 hw1 HF
  go_wp2_with fail
  go_loopw [13] (fun i wr=>∃ k:Nat,k≤n∧i=.int .i64 k∧(x.subs.take k).all literalX=true∧Below w1.heap.size w1 wr) (fun i _=>n-(intOf i).toNat)
  case atStart=>exact⟨0,Nat.zero_le _,rfl,by simp,Below.refl _ _⟩
  case round=>
   obtain⟨k,hk,rfl,hall,hbw⟩:=hrel;have HA:=Hd hall;have HBW:=Hd hbw;clear hall
   by_cases hlt:k<n
   · obtain⟨b,off,rfl,hb,hat⟩:=(HR1.out.below hbw).sub (i:=k) (by omega);obtain⟨A',ca',B',cb',hrg,hrd⟩:=hat k (by omega);obtain⟨c0,c1,c2,c3,c4,c5⟩:=rangeAt_six hrg;have HF3:=Hd fun w3 h=>HBX.out (subX x k) A' ca' B' cb' wr w3 h hrd;have HAL':=Hd (HAL.out k (by omega));have HAS':=Hd (HAS.out k (by omega) HA.out);clear hat hbw hrg hrd
     go_upto_region 6 with(fail)
     generalize hw3:wr.alloc _=w3;obtain⟨hb3,hg3,hr3,hcell3⟩:=HF3.out w3 hw3;obtain⟨d0,d1,d2,d3,d4,d5⟩:=Sx (hcell3 w3 (Below.refl _ _));have HCL:=Hd (HLT.out (subX x k) A' ca' B' cb' w3 hr3);have HB3:=Hd (HBW.out.trans (hb3.mono HBW.out.size));clear hcell3 hb3 hr3 hw3 HF3
     cases hl:literalX (subX x k) with
     | false=>
      rw [hl] at HCL;have HF':=Hd (HAL'.out hl)
      go_wp2_with fail
      refine HCL.out.mono ?_;rintro r w2 ⟨rfl,hb2⟩;have HB2:=Hd (HB3.out.trans (hb2.mono HB3.out.size));clear hb2
      go_wp2_with fail
      go_ret
      exact⟨ret_bool (by rw [HN.out,HF'.out]),HB1.out.trans (HB2.out.mono HB1.out.size)⟩
     | true=>
      rw [hl] at HCL;have HF':=Hd (HAS'.out hl)
      go_wp2_with fail
      refine HCL.out.mono ?_;rintro r w2 ⟨rfl,hb2⟩;have HB2:=Hd (HB3.out.trans (hb2.mono HB3.out.size));clear hb2
      go_wp2_with fail
      go_roundw
      case rel=>exact⟨k+1,by omega,by go_num,HF'.out,HB2.out⟩
      case measure=>simp [intOf];omega
   · have HE:=Hd (HAE.out k HA.out (by omega))
     go_wp2_with fail
     go_ret
     exact⟨ret_bool (by rw [HN.out,HE.out]),HB1.out.trans (HBW.out.mono HB1.out.size)⟩
theorem exDepth:∀ (x:Ex) (A:Option Addr) (ca:Nat) (B:Option Addr) (cb:Nat) (w:World),rdX w x A B→sizeX x≤1000000 →
 Calls Tryz.prog 169 #[.agg (exA x A ca B cb)] w fun e w'=>e=.returned (.int .i64 (depthX x:Nat))∧Below w.heap.size w w':=by
 refine size_ind fun x ih A ca B cb w hr hs=>?_;have HIH:=Hd ih;have HSZ:=Hd (depthX_eq x);have hds:=depth_size x;have hsz:=depthX_eq x;have hmx:=hr.subs.max;have HF:=Hd fun w1 h=>box_facts w x A ca B cb w1 h hr;have HBX:=Hd fun(x:Ex) (A:Option Addr) (ca:Nat) (B:Option Addr) (cb:Nat) (w w1:World) (h:_) (hr:rdX w x A B)=>box_facts w x A ca B cb w1 h hr;have HSN:=Hd fun i (hi:i<x.subs.length)=>depths_snoc hi;have HSUB:=Hd fun i (hi:i<x.subs.length)=>(size_sub (subX_mem hi));have HTL:=Hd (List.take_length (l:=x.subs));clear ih hr;unfold exA at HF HIH HBX ⊢;generalize hlen:x.subs.length=len at *
 go_enter Tryz.func169,Tryz.ntmps169
 go_upto_region 1 with(fail)
 generalize hw1:w.alloc _=w1;obtain⟨hb1,hg,hr1,hcell⟩:=HF.out w1 hw1;have HB1:=Hd hb1;have q5:=hcell w1 (Below.refl _ _) 5;have HR1:=Hd hr1;clear hcell hb1 hr1 hw1 HF
 go_wp2_with fail
 go_loopw [3,9] (fun s i wr=>∃ k:Nat,k≤len∧i=.int .i64 k∧s=.int .i64 ((depthsX (x.subs.take k):Nat):Int)∧Below w1.heap.size w1 wr) (fun _ i _=>len-(intOf i).toNat)
 case atStart=>exact⟨0,Nat.zero_le _,rfl,by simp [depthsX],Below.refl _ _⟩
 case round=>
  obtain⟨k,hk,rfl,rfl,hbw⟩:=hrel;have HBW:=Hd hbw
  by_cases hlt:k<len
  · obtain⟨b,off,rfl,hb,hat⟩:=(HR1.out.below hbw).sub (i:=k) (by omega);obtain⟨A',ca',B',cb',hrg,hrd⟩:=hat k (by omega);obtain⟨c0,c1,c2,c3,c4,c5⟩:=rangeAt_six hrg;have HF3:=Hd fun w3 h=>HBX.out (subX x k) A' ca' B' cb' wr w3 h hrd;have HSNK:=Hd (HSN.out k (by omega));clear hat hbw hrg hrd;have hss:=HSUB.out k (by omega)
    go_upto_region 5 with(fail)
    generalize hw3:wr.alloc _=w3;obtain⟨hb3,hg3,hr3,hcell3⟩:=HF3.out w3 hw3;obtain⟨d0,d1,d2,d3,d4,d5⟩:=Sx (hcell3 w3 (Below.refl _ _));have HCL:=Hd (HIH.out k (by omega) A' ca' B' cb' w3 hr3 (by omega));have HB3:=Hd (HBW.out.trans (hb3.mono HBW.out.size));clear hcell3 hb3 hr3 hw3 HF3
    go_wp2_with fail
    refine HCL.out.mono ?_;rintro r w2 ⟨rfl,hb2⟩;have HB2:=Hd (HB3.out.trans (hb2.mono HB3.out.size));clear hb2
    go_wp2_with fail
    go_roundw
    case rel=>
     refine⟨k+1,by omega,by go_num,?_,HB2.out⟩;rw [HSNK.out]
     first | rfl | (congr 1;omega) | (simp;done) | skip
    case measure=>simp [intOf];omega
  · have hkl:k=len:=by omega
    subst hkl;have HE:=Hd (hlen ▸ HTL.out:x.subs.take k=x.subs);rw [HE.out];generalize depthsX x.subs=d at *
    go_wp2_with fail
    go_ret
    refine⟨?_,HB1.out.trans (HBW.out.mono HB1.out.size)⟩;rw [HSZ.out,Nat.add_comm];rfl
end
section
open Go.RowKit Go.Sort
def bitB(n:Int):Bool:=(n==0) || (n==1)
theorem exBit(n:Int) (w:World):Calls Tryz.prog 189 #[.int .i64 n] w fun e w'=>e=.returned (.bool (bitB n))∧w=w':=by
 have HS:=Hd (show bitB n=((n==0) || (n==1)) from rfl);generalize bitB n=res at *
 cases h0:(n==0) <;> cases h1:(n==1)
 all_goals (
  rw [h0,h1] at HS
  go_enter Tryz.func189,Tryz.ntmps189
  go_wp2_with fail
  go_ret
  exact⟨ret_bool HS.out.symm,rfl⟩)
theorem exArm(s:ByteArray) (w:World) (hs:s.size≤9223372036854775807):Calls Tryz.prog 196 #[.string s] w fun e w'=>e=.returned (.bool (armB s))∧Below w.heap.size w w':=by
 have HS:=Hd (show armB s=(highB s.data.toList || (s.toList==[116,114,117,101]) || (s.toList==[102,97,108,115,101])) from rfl);have HH:=Hd (idHigh s w hs);generalize armB s=res at *;generalize highB s.data.toList=bh at *
 cases bh <;> cases ht:(s.toList==[116,114,117,101]) <;> cases hf:(s.toList==[102,97,108,115,101])
 all_goals (
  rw [ht,hf] at HS
  go_enter Tryz.func196,Tryz.ntmps196
  go_wp2_with fail
  refine HH.out.mono ?_;rintro r w2 ⟨rfl,hb⟩
  go_wp2_with fail
  go_ret
  exact⟨ret_bool HS.out.symm,hb⟩)
def armsB(l:List ByteArray) (m:Int):Bool:=decide (1≤l.length) && decide ((l.length:Int)≤m) && l.all armB && onceS l
theorem exArms(A:Option Addr) (n c:Nat) (m:Int) (l:List ByteArray) (w:World) (hr:RdT w A n l) (hz:∀ t∈l,t.size≤9223372036854775807) (hm:n≤100):
 Calls Tryz.prog 191 #[.slice A n c,.int .i64 m] w fun e w'=>e=.returned (.bool (armsB l m))∧Below w.heap.size w w':=by
 have HS:=Hd (show armsB l m=(decide (1≤l.length) && decide ((l.length:Int)≤m) && l.all armB && onceS l) from rfl);have hlen:=hr.len;have HAR:=Hd hr;have HAL:=Hd fun i (hi:i<l.length) (h:armB (l[i]?.getD ByteArray.empty)=false)=>all_false (f:=armB) hi h;have HAS:=Hd fun k (hk:k<l.length) h (hx:armB (l[k]?.getD ByteArray.empty)=true)=>all_take_succ (f:=armB) hk h hx;have HAE:=Hd fun k h (hk:l.length≤k)=>all_take_end (l:=l) (f:=armB) (k:=k) h hk;have HZ:=Hd fun i (hi:i<l.length)=>hz (l[i]?.getD ByteArray.empty) (by rw [List.getElem?_eq_getElem hi];exact List.getElem_mem _);have HON:=Hd fun w1 (h:Below w.heap.size w w1)=>idOnce A n c l w1 (hr.below h) hz hm;clear hr hz;rw [hlen] at HS HAL HAS HAE HZ;clear hlen;generalize armsB l m=res at *
 by_cases h1:1≤n
 · by_cases h2:(n:Int)≤m
   · have d1:decide ((n:Int)<1)=false:=decide_eq_false (by omega);have d2:decide (m<(n:Int))=false:=decide_eq_false (by omega);have HSS:=Hd (show res=(l.all armB && onceS l) by rw [HS.out];simp [h1,h2])
     go_enter Tryz.func191,Tryz.ntmps191
     go_wp2_with fail
     go_loopw [18] (fun i wr=>∃ j:Nat,j≤n∧i=.int .i64 j∧(l.take j).all armB=true∧Below w.heap.size w wr) (fun i _=>n-(intOf i).toNat)
     case atStart=>exact⟨0,Nat.zero_le _,rfl,by simp,Below.refl _ _⟩
     case round=>
      obtain⟨j,hj,rfl,hall,hbw⟩:=hrel;have HA:=Hd hall;have HBW:=Hd hbw;clear hall
      by_cases hlt:j<n
      · obtain⟨b,off,rfl,hb,hat⟩:=(HAR.out.below hbw).at_ hlt;have c0:=hat j hlt;have HAL':=Hd (HAL.out j (by omega));have HAS':=Hd (HAS.out j (by omega) HA.out);have hzz:=HZ.out j (by omega);clear hat hbw;generalize l[j]?.getD ByteArray.empty=t at *;have HT:=Hd (exArm t wr hzz);clear hzz
        cases ht:armB t with
        | false=>
         rw [ht] at HT;have HF':=Hd (HAL'.out ht);have HN:=Hd (show res=false by rw [HSS.out,HF'.out];rfl)
         go_wp2_with fail
         refine HT.out.mono ?_;rintro r w2 ⟨rfl,hb2⟩;have HB2:=Hd (HBW.out.trans (hb2.mono HBW.out.size));clear hb2
         go_wp2_with fail
         go_ret
         exact⟨ret_bool HN.out.symm,HB2.out⟩
        | true=>
         rw [ht] at HT;have HF':=Hd (HAS'.out ht)
         go_wp2_with fail
         refine HT.out.mono ?_;rintro r w2 ⟨rfl,hb2⟩;have HB2:=Hd (HBW.out.trans (hb2.mono HBW.out.size));clear hb2
         go_wp2_with fail
         go_roundw
         case rel=>exact⟨j+1,by omega,by go_num,HF'.out,HB2.out⟩
         case measure=>simp [intOf];omega
      · have HE:=HAE.out j HA.out (by omega);have HN:=Hd (show res=onceS l by rw [HSS.out,HE];rfl);have HO1:=Hd (HON.out wr HBW.out);clear HE HAL HAS HAE HA hbw
        go_wp2_with fail
        refine HO1.out.mono ?_;rintro r w2 ⟨rfl,hb2⟩;have HB2:=Hd (HBW.out.trans (hb2.mono HBW.out.size));clear hb2
        go_wp2_with fail
        go_ret
        exact⟨ret_bool HN.out.symm,HB2.out⟩
   · have d1:decide ((n:Int)<1)=false:=decide_eq_false (by omega);have d2:decide (m<(n:Int))=true:=decide_eq_true (by omega);have HN:=Hd (show res=false by rw [HS.out];simp [h2])
     go_enter Tryz.func191,Tryz.ntmps191
     go_wp2_with fail
     go_ret
     exact⟨ret_bool HN.out.symm,Below.refl _ _⟩
 · have d1:decide ((n:Int)<1)=true:=decide_eq_true (by omega);have HN:=Hd (show res=false by rw [HS.out];simp [h1])
   go_enter Tryz.func191,Tryz.ntmps191
   go_wp2_with fail
   go_ret
   exact⟨ret_bool HN.out.symm,Below.refl _ _⟩
end
section
open Go.RowKit Go.Sort
def namX(k n:Int) (s:ByteArray) (op:Int) (arms:List ByteArray):Ex:=.mk k n s op arms []
def rowB(x:Ex) (n:Int) (s:ByteArray) (op:Int) (arms:List ByteArray) (h:Bool) (lo hi:Int):Bool:=
 h && fieldsB x (namX x.k n s op arms) && decide (lo≤(x.subs.length:Int)) && decide ((x.subs.length:Int)≤hi)
theorem sameT_nil(l:List ByteArray):sameT l []=(l.length==0):=by
 cases l <;> simp [sameT]
theorem sameT_self(l:List ByteArray):sameT l l=true:=by simp [sameT]
theorem toList_none:(ByteArray.empty).toList=[]:=by
 rw [Lib.toList_data];rfl
theorem onceS_one{l:List ByteArray}(h:l.length=1):onceS l=true:=by
 match l,h with
 | [a],_=>simp [onceS,onceB]
theorem rowB_eq(x:Ex) (n:Int) (s:ByteArray) (op:Int) (arms:List ByteArray) (h:Bool) (lo hi:Int):
 rowB x n s op arms h lo hi=(h && ((x.n==n) && (x.s.toList==s.toList) && (x.op==op) && sameT x.arms arms) && decide (lo≤(x.subs.length:Int)) && decide ((x.subs.length:Int)≤hi)):=by
 simp [rowB,fieldsB,namX,Ex.k,Ex.n,Ex.s,Ex.op,Ex.arms,Bool.and_assoc]
theorem all_none{l:List ByteArray}(h:l.length=0):l.all armB=true:=by
 cases l <;> simp at h ⊢
theorem row_1(x:Ex) (hk:x.k=1):rowB x x.n ByteArray.empty 0 [] (decide (0≤x.n)) 0 0=partX x:=by
 have h0:=@all_none x.arms;have h1:=@onceS_one x.arms;rw [rowB_eq];simp only [partX,numbersX,namedX,armsX,subsX,hk,sameT_nil,sameT_self,toList_none,bitB,armsB];generalize x.arms.all armB=ba at *;generalize (x.s.toList==([]:List UInt8))=be at *;generalize x.arms.length=la at *;generalize x.subs.length=ls at *;generalize x.n=n at *;generalize x.op=op at *
 cases ba <;> cases be
 all_goals (try simp at h0)
 all_goals (try simp at h1)
 all_goals (try rw [Bool.eq_iff_iff])
 all_goals (try simp)
 all_goals (try omega)
theorem row_2(x:Ex) (hk:x.k=2):rowB x x.n ByteArray.empty 0 [] (bitB x.n) 0 0=partX x:=by
 have h0:=@all_none x.arms;have h1:=@onceS_one x.arms;rw [rowB_eq];simp only [partX,numbersX,namedX,armsX,subsX,hk,sameT_nil,sameT_self,toList_none,bitB,armsB];generalize x.arms.all armB=ba at *;generalize (x.s.toList==([]:List UInt8))=be at *;generalize x.arms.length=la at *;generalize x.subs.length=ls at *;generalize x.n=n at *;generalize x.op=op at *
 cases ba <;> cases be
 all_goals (try simp at h0)
 all_goals (try simp at h1)
 all_goals (try rw [Bool.eq_iff_iff])
 all_goals (try simp)
 all_goals (try omega)
theorem row_3(x:Ex) (hk:x.k=3):rowB x 0 x.s 0 [] (lowB x.s.data.toList) 0 0=partX x:=by
 have h0:=@all_none x.arms;have h1:=@onceS_one x.arms;rw [rowB_eq];simp only [partX,numbersX,namedX,armsX,subsX,hk,sameT_nil,sameT_self,toList_none,bitB,armsB];generalize x.arms.all armB=ba at *;generalize lowB x.s.data.toList=b1 at *;generalize x.arms.length=la at *;generalize x.subs.length=ls at *;generalize x.n=n at *;generalize x.op=op at *
 cases ba <;> cases b1
 all_goals (try simp at h0)
 all_goals (try simp at h1)
 all_goals (try rw [Bool.eq_iff_iff])
 all_goals (try simp)
 all_goals (try omega)
theorem row_4(x:Ex) (hk:x.k=4):rowB x 0 x.s 0 [] (highB x.s.data.toList) 0 0=partX x:=by
 have h0:=@all_none x.arms;have h1:=@onceS_one x.arms;rw [rowB_eq];simp only [partX,numbersX,namedX,armsX,subsX,hk,sameT_nil,sameT_self,toList_none,bitB,armsB];generalize x.arms.all armB=ba at *;generalize highB x.s.data.toList=b2 at *;generalize x.arms.length=la at *;generalize x.subs.length=ls at *;generalize x.n=n at *;generalize x.op=op at *
 cases ba <;> cases b2
 all_goals (try simp at h0)
 all_goals (try simp at h1)
 all_goals (try rw [Bool.eq_iff_iff])
 all_goals (try simp)
 all_goals (try omega)
theorem row_17(x:Ex) (hk:x.k=17):rowB x 0 x.s 0 [] (pathB x.s.data.toList) 0 0=partX x:=by
 have h0:=@all_none x.arms;have h1:=@onceS_one x.arms;rw [rowB_eq];simp only [partX,numbersX,namedX,armsX,subsX,hk,sameT_nil,sameT_self,toList_none,bitB,armsB];generalize x.arms.all armB=ba at *;generalize pathB x.s.data.toList=b3 at *;generalize x.arms.length=la at *;generalize x.subs.length=ls at *;generalize x.n=n at *;generalize x.op=op at *
 cases ba <;> cases b3
 all_goals (try simp at h0)
 all_goals (try simp at h1)
 all_goals (try rw [Bool.eq_iff_iff])
 all_goals (try simp)
 all_goals (try omega)
theorem row_5(x:Ex) (hk:x.k=5):rowB x 0 ByteArray.empty x.op [] (decide (1≤x.op) && decide (x.op≤2)) 1 1=partX x:=by
 have h0:=@all_none x.arms;have h1:=@onceS_one x.arms;rw [rowB_eq];simp only [partX,numbersX,namedX,armsX,subsX,hk,sameT_nil,sameT_self,toList_none,bitB,armsB];generalize x.arms.all armB=ba at *;generalize (x.s.toList==([]:List UInt8))=be at *;generalize x.arms.length=la at *;generalize x.subs.length=ls at *;generalize x.n=n at *;generalize x.op=op at *
 cases ba <;> cases be
 all_goals (try simp at h0)
 all_goals (try simp at h1)
 all_goals (try rw [Bool.eq_iff_iff])
 all_goals (try simp)
 all_goals (try omega)
theorem row_6(x:Ex) (hk:x.k=6):rowB x 0 ByteArray.empty x.op [] (decide (3≤x.op) && decide (x.op≤16)) 2 2=partX x:=by
 have h0:=@all_none x.arms;have h1:=@onceS_one x.arms;rw [rowB_eq];simp only [partX,numbersX,namedX,armsX,subsX,hk,sameT_nil,sameT_self,toList_none,bitB,armsB];generalize x.arms.all armB=ba at *;generalize (x.s.toList==([]:List UInt8))=be at *;generalize x.arms.length=la at *;generalize x.subs.length=ls at *;generalize x.n=n at *;generalize x.op=op at *
 cases ba <;> cases be
 all_goals (try simp at h0)
 all_goals (try simp at h1)
 all_goals (try rw [Bool.eq_iff_iff])
 all_goals (try simp)
 all_goals (try omega)
theorem row_7(x:Ex) (hk:x.k=7):rowB x 0 ByteArray.empty 0 [] true 3 3=partX x:=by
 have h0:=@all_none x.arms;have h1:=@onceS_one x.arms;rw [rowB_eq];simp only [partX,numbersX,namedX,armsX,subsX,hk,sameT_nil,sameT_self,toList_none,bitB,armsB];generalize x.arms.all armB=ba at *;generalize (x.s.toList==([]:List UInt8))=be at *;generalize x.arms.length=la at *;generalize x.subs.length=ls at *;generalize x.n=n at *;generalize x.op=op at *
 cases ba <;> cases be
 all_goals (try simp at h0)
 all_goals (try simp at h1)
 all_goals (try rw [Bool.eq_iff_iff])
 all_goals (try simp)
 all_goals (try omega)
theorem row_16(x:Ex) (hk:x.k=16):rowB x 0 ByteArray.empty 0 [] true 3 3=partX x:=by
 have h0:=@all_none x.arms;have h1:=@onceS_one x.arms;rw [rowB_eq];simp only [partX,numbersX,namedX,armsX,subsX,hk,sameT_nil,sameT_self,toList_none,bitB,armsB];generalize x.arms.all armB=ba at *;generalize (x.s.toList==([]:List UInt8))=be at *;generalize x.arms.length=la at *;generalize x.subs.length=ls at *;generalize x.n=n at *;generalize x.op=op at *
 cases ba <;> cases be
 all_goals (try simp at h0)
 all_goals (try simp at h1)
 all_goals (try rw [Bool.eq_iff_iff])
 all_goals (try simp)
 all_goals (try omega)
theorem row_9(x:Ex) (hk:x.k=9):rowB x 0 ByteArray.empty 0 [] true 2 2=partX x:=by
 have h0:=@all_none x.arms;have h1:=@onceS_one x.arms;rw [rowB_eq];simp only [partX,numbersX,namedX,armsX,subsX,hk,sameT_nil,sameT_self,toList_none,bitB,armsB];generalize x.arms.all armB=ba at *;generalize (x.s.toList==([]:List UInt8))=be at *;generalize x.arms.length=la at *;generalize x.subs.length=ls at *;generalize x.n=n at *;generalize x.op=op at *
 cases ba <;> cases be
 all_goals (try simp at h0)
 all_goals (try simp at h1)
 all_goals (try rw [Bool.eq_iff_iff])
 all_goals (try simp)
 all_goals (try omega)
theorem row_15(x:Ex) (hk:x.k=15):rowB x 0 ByteArray.empty 0 [] true 2 2=partX x:=by
 have h0:=@all_none x.arms;have h1:=@onceS_one x.arms;rw [rowB_eq];simp only [partX,numbersX,namedX,armsX,subsX,hk,sameT_nil,sameT_self,toList_none,bitB,armsB];generalize x.arms.all armB=ba at *;generalize (x.s.toList==([]:List UInt8))=be at *;generalize x.arms.length=la at *;generalize x.subs.length=ls at *;generalize x.n=n at *;generalize x.op=op at *
 cases ba <;> cases be
 all_goals (try simp at h0)
 all_goals (try simp at h1)
 all_goals (try rw [Bool.eq_iff_iff])
 all_goals (try simp)
 all_goals (try omega)
theorem row_10(x:Ex) (hk:x.k=10):rowB x 0 ByteArray.empty 0 [] true 1 1=partX x:=by
 have h0:=@all_none x.arms;have h1:=@onceS_one x.arms;rw [rowB_eq];simp only [partX,numbersX,namedX,armsX,subsX,hk,sameT_nil,sameT_self,toList_none,bitB,armsB];generalize x.arms.all armB=ba at *;generalize (x.s.toList==([]:List UInt8))=be at *;generalize x.arms.length=la at *;generalize x.subs.length=ls at *;generalize x.n=n at *;generalize x.op=op at *
 cases ba <;> cases be
 all_goals (try simp at h0)
 all_goals (try simp at h1)
 all_goals (try rw [Bool.eq_iff_iff])
 all_goals (try simp)
 all_goals (try omega)
theorem row_14(x:Ex) (hk:x.k=14):rowB x 0 ByteArray.empty 0 [] true 1 8=partX x:=by
 have h0:=@all_none x.arms;have h1:=@onceS_one x.arms;rw [rowB_eq];simp only [partX,numbersX,namedX,armsX,subsX,hk,sameT_nil,sameT_self,toList_none,bitB,armsB];generalize x.arms.all armB=ba at *;generalize (x.s.toList==([]:List UInt8))=be at *;generalize x.arms.length=la at *;generalize x.subs.length=ls at *;generalize x.n=n at *;generalize x.op=op at *
 cases ba <;> cases be
 all_goals (try simp at h0)
 all_goals (try simp at h1)
 all_goals (try rw [Bool.eq_iff_iff])
 all_goals (try simp)
 all_goals (try omega)
theorem row_8(x:Ex) (hk:x.k=8):rowB x 0 ByteArray.empty 0 [] (decide (0<(x.subs.length:Int)) && constX (subX x 0)) 2 2=partX x:=by
 have h0:=@all_none x.arms;have h1:=@onceS_one x.arms;rw [rowB_eq];simp only [partX,numbersX,namedX,armsX,subsX,hk,sameT_nil,sameT_self,toList_none,bitB,armsB];generalize x.arms.all armB=ba at *;generalize (x.s.toList==([]:List UInt8))=be at *;generalize constX (subX x 0)=bc at *;generalize x.arms.length=la at *;generalize x.subs.length=ls at *;generalize x.n=n at *;generalize x.op=op at *
 cases ba <;> cases be <;> cases bc
 all_goals (try simp at h0)
 all_goals (try simp at h1)
 all_goals (try rw [Bool.eq_iff_iff])
 all_goals (try simp)
 all_goals (try omega)
theorem row_11(x:Ex) (hk:x.k=11):rowB x 0 x.s 0 x.arms (lowB x.s.data.toList && armsB x.arms 1) 1 1=partX x:=by
 have h0:=@all_none x.arms;have h1:=@onceS_one x.arms;rw [rowB_eq];simp only [partX,numbersX,namedX,armsX,subsX,hk,sameT_nil,sameT_self,toList_none,bitB,armsB];generalize x.arms.all armB=ba at *;generalize onceS x.arms=bo at *;generalize lowB x.s.data.toList=b1 at *;generalize x.arms.length=la at *;generalize x.subs.length=ls at *;generalize x.n=n at *;generalize x.op=op at *
 cases ba <;> cases bo <;> cases b1
 all_goals (try simp at h0)
 all_goals (try simp at h1)
 all_goals (try rw [Bool.eq_iff_iff])
 all_goals (try simp)
 all_goals (try omega)
theorem row_12(x:Ex) (hk:x.k=12):rowB x 0 x.s 0 x.arms (lowB x.s.data.toList && armsB x.arms 6) x.arms.length x.arms.length=partX x:=by
 have h0:=@all_none x.arms;have h1:=@onceS_one x.arms;rw [rowB_eq];simp only [partX,numbersX,namedX,armsX,subsX,hk,sameT_nil,sameT_self,toList_none,bitB,armsB];generalize x.arms.all armB=ba at *;generalize onceS x.arms=bo at *;generalize lowB x.s.data.toList=b1 at *;generalize x.arms.length=la at *;generalize x.subs.length=ls at *;generalize x.n=n at *;generalize x.op=op at *
 cases ba <;> cases bo <;> cases b1
 all_goals (try simp at h0)
 all_goals (try simp at h1)
 all_goals (try rw [Bool.eq_iff_iff])
 all_goals (try simp)
 all_goals (try omega)
theorem row_13(x:Ex) (hi:Int) (hk:x.k=13) (hh:bitB x.n=true→hi=6+x.n):rowB x x.n x.s 0 [] (lowB x.s.data.toList && bitB x.n) x.n hi=partX x:=by
 have h0:=@all_none x.arms;have h1:=@onceS_one x.arms;unfold bitB at hh;simp only [Bool.or_eq_true,beq_iff_eq] at hh;rw [rowB_eq];simp only [partX,numbersX,namedX,armsX,subsX,hk,sameT_nil,sameT_self,toList_none,bitB,armsB];generalize x.arms.all armB=ba at *;generalize lowB x.s.data.toList=b1 at *;generalize x.arms.length=la at *;generalize x.subs.length=ls at *;generalize x.n=n at *;generalize x.op=op at *
 cases ba <;> cases b1
 all_goals (try simp at h0)
 all_goals (try simp at h1)
 all_goals (try rw [Bool.eq_iff_iff])
 all_goals (try simp)
 all_goals (try omega)
theorem row_no(x:Ex) (n:Int) (s:ByteArray) (op:Int) (arms:List ByteArray) (lo hi:Int) (hk:x.k<1∨17<x.k):rowB x n s op arms false lo hi=partX x:=by
 rw [rowB_eq]
 have:(decide (1≤x.k) && decide (x.k≤17))=false:=by
  rcases hk with h | h
  · rw [decide_eq_false (by omega),Bool.false_and]
  · rw [decide_eq_false (p:=x.k≤17) (by omega),Bool.and_false]
 simp only [partX,this,Bool.false_and]
end
end Go.Proofs.YtkbpdoomhfkngaaGreat
