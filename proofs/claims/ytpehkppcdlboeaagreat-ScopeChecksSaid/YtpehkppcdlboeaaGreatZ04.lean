/- Parts of the proof: ExN, ExV. Conditions: each theorem's own. -/
import Derived.Test.YtpehkppcdlboeaaGreatZ03
namespace Go.Proofs.YtpehkppcdlboeaaGreat
set_option linter.unusedVariables false
set_option linter.unusedSimpArgs false
set_option maxRecDepth 100000
set_option maxHeartbeats 40000000
section
open Go.RowKit Go.Sort
def armB(t:ByteArray):Bool:=highB t.data.toList || (t.toList==[116,114,117,101]) || (t.toList==[102,97,108,115,101])
def armsX(x:Ex):Bool:=x.arms.all armB && (if x.k==11 then x.arms.length==1 else if x.k==12 then decide (1≤x.arms.length) && decide (x.arms.length≤6) && onceS x.arms else x.arms.length==0)
def namedX(x:Ex):Bool:=if x.k==3 || x.k==11 || x.k==12 || x.k==13 then lowB x.s.data.toList else if x.k==4 then highB x.s.data.toList else if x.k==17 then pathB x.s.data.toList else x.s.toList==[]
theorem refArm(s:ByteArray) (w:World) (hs:s.size≤9223372036854775807):Calls Tryz.prog 119 #[.string s] w fun e w'=>e=.returned (.bool (armB s))∧w=w':=by
 have HS:=Hd (show armB s=(highB s.data.toList || (s.toList==[116,114,117,101]) || (s.toList==[102,97,108,115,101])) from rfl);have HH:=Hd (refHigh s w hs);generalize armB s=res at *;generalize highB s.data.toList=bh at *
 cases bh <;> cases ht:(s.toList==[116,114,117,101]) <;> cases hf:(s.toList==[102,97,108,115,101])
 all_goals (
  rw [ht,hf] at HS
  go_enter Tryz.func119,Tryz.ntmps119
  go_wp2_with fail
  refine HH.out.mono ?_;rintro r w2 ⟨rfl,rfl⟩
  go_wp2_with fail
  go_ret
  exact⟨ret_bool HS.out.symm,rfl⟩)
theorem refNamed(x:Ex) (A:Option Addr) (ca:Nat) (B:Option Addr) (cb:Nat) (w:World) (hr:rdX w x A B) (hs:x.s.size≤1000):
 Calls Tryz.prog 109 #[.agg (exA x A ca B cb)] w fun e w'=>e=.returned (.bool (namedX x))∧Below w.heap.size w w':=by
 have HF:=Hd fun w1 h=>box_facts w x A ca B cb w1 h hr;have HS:=Hd (show namedX x=if x.k==3 || x.k==11 || x.k==12 || x.k==13 then lowB x.s.data.toList else if x.k==4 then highB x.s.data.toList else if x.k==17 then pathB x.s.data.toList else x.s.toList==[] from rfl);clear hr;unfold exA at HF ⊢;generalize namedX x=res at *;generalize x.k=k at *;generalize x.s=s at *
 by_cases h3:k=3
 · subst h3;have HN:=Hd (show res=lowB s.data.toList by rw [HS.out];rfl);have HH:=Hd fun w=>refLow s w (by omega);generalize lowB s.data.toList=bh at *
   go_enter Tryz.func109,Tryz.ntmps109
   go_upto_region 1 with(fail)
   generalize hw1:w.alloc _=w1;obtain⟨hb1,hg,hr1,hcell⟩:=HF.out w1 hw1;have HB1:=Hd hb1;have q0:=hcell w1 (Below.refl _ _) 0;have q2:=hcell w1 (Below.refl _ _) 2;clear hcell hb1 hr1 hw1 HF
   go_wp2_with fail
   refine(HH.out _).mono ?_;rintro r w2 ⟨rfl,hb2⟩;have HB2:=Hd (HB1.out.trans (hb2.mono HB1.out.size));clear hb2
   go_wp2_with fail
   go_ret
   exact⟨ret_bool HN.out.symm,HB2.out⟩
 · have e3:(k==3)=false:=by simpa using h3
   by_cases h11:k=11
   · subst h11;have HN:=Hd (show res=lowB s.data.toList by rw [HS.out];rfl);have HH:=Hd fun w=>refLow s w (by omega);generalize lowB s.data.toList=bh at *
     go_enter Tryz.func109,Tryz.ntmps109
     go_upto_region 1 with(fail)
     generalize hw1:w.alloc _=w1;obtain⟨hb1,hg,hr1,hcell⟩:=HF.out w1 hw1;have HB1:=Hd hb1;have q0:=hcell w1 (Below.refl _ _) 0;have q2:=hcell w1 (Below.refl _ _) 2;clear hcell hb1 hr1 hw1 HF
     go_wp2_with fail
     refine(HH.out _).mono ?_;rintro r w2 ⟨rfl,hb2⟩;have HB2:=Hd (HB1.out.trans (hb2.mono HB1.out.size));clear hb2
     go_wp2_with fail
     go_ret
     exact⟨ret_bool HN.out.symm,HB2.out⟩
   · have e11:(k==11)=false:=by simpa using h11
     by_cases h12:k=12
     · subst h12;have HN:=Hd (show res=lowB s.data.toList by rw [HS.out];rfl);have HH:=Hd fun w=>refLow s w (by omega);generalize lowB s.data.toList=bh at *
       go_enter Tryz.func109,Tryz.ntmps109
       go_upto_region 1 with(fail)
       generalize hw1:w.alloc _=w1;obtain⟨hb1,hg,hr1,hcell⟩:=HF.out w1 hw1;have HB1:=Hd hb1;have q0:=hcell w1 (Below.refl _ _) 0;have q2:=hcell w1 (Below.refl _ _) 2;clear hcell hb1 hr1 hw1 HF
       go_wp2_with fail
       refine(HH.out _).mono ?_;rintro r w2 ⟨rfl,hb2⟩;have HB2:=Hd (HB1.out.trans (hb2.mono HB1.out.size));clear hb2
       go_wp2_with fail
       go_ret
       exact⟨ret_bool HN.out.symm,HB2.out⟩
     · have e12:(k==12)=false:=by simpa using h12
       by_cases h13:k=13
       · subst h13;have HN:=Hd (show res=lowB s.data.toList by rw [HS.out];rfl);have HH:=Hd fun w=>refLow s w (by omega);generalize lowB s.data.toList=bh at *
         go_enter Tryz.func109,Tryz.ntmps109
         go_upto_region 1 with(fail)
         generalize hw1:w.alloc _=w1;obtain⟨hb1,hg,hr1,hcell⟩:=HF.out w1 hw1;have HB1:=Hd hb1;have q0:=hcell w1 (Below.refl _ _) 0;have q2:=hcell w1 (Below.refl _ _) 2;clear hcell hb1 hr1 hw1 HF
         go_wp2_with fail
         refine(HH.out _).mono ?_;rintro r w2 ⟨rfl,hb2⟩;have HB2:=Hd (HB1.out.trans (hb2.mono HB1.out.size));clear hb2
         go_wp2_with fail
         go_ret
         exact⟨ret_bool HN.out.symm,HB2.out⟩
       · have e13:(k==13)=false:=by simpa using h13
         by_cases h4:k=4
         · subst h4;have HN:=Hd (show res=highB s.data.toList by rw [HS.out];rfl);have HH:=Hd fun w=>refHigh s w (by omega);generalize highB s.data.toList=bh at *
           go_enter Tryz.func109,Tryz.ntmps109
           go_upto_region 1 with(fail)
           generalize hw1:w.alloc _=w1;obtain⟨hb1,hg,hr1,hcell⟩:=HF.out w1 hw1;have HB1:=Hd hb1;have q0:=hcell w1 (Below.refl _ _) 0;have q2:=hcell w1 (Below.refl _ _) 2;clear hcell hb1 hr1 hw1 HF
           go_wp2_with fail
           refine(HH.out _).mono ?_;rintro r w2 ⟨rfl,rfl⟩
           go_wp2_with fail
           go_ret
           exact⟨ret_bool HN.out.symm,HB1.out⟩
         · have e4:(k==4)=false:=by simpa using h4
           by_cases h17:k=17
           · subst h17;have HN:=Hd (show res=pathB s.data.toList by rw [HS.out];rfl);have HH:=Hd fun w=>refPath s w hs;generalize pathB s.data.toList=bh at *
             go_enter Tryz.func109,Tryz.ntmps109
             go_upto_region 1 with(fail)
             generalize hw1:w.alloc _=w1;obtain⟨hb1,hg,hr1,hcell⟩:=HF.out w1 hw1;have HB1:=Hd hb1;have q0:=hcell w1 (Below.refl _ _) 0;have q2:=hcell w1 (Below.refl _ _) 2;clear hcell hb1 hr1 hw1 HF
             go_wp2_with fail
             refine(HH.out _).mono ?_;rintro r w2 ⟨rfl,hb2⟩;have HB2:=Hd (HB1.out.trans (hb2.mono HB1.out.size));clear hb2
             go_wp2_with fail
             go_ret
             exact⟨ret_bool HN.out.symm,HB2.out⟩
           · have e17:(k==17)=false:=by simpa using h17
             have HN:=Hd (show res=(s.toList==[]) by rw [HS.out];simp only [e3,e11,e12,e13,e4,e17];rfl)
             cases he:(s.toList==[]) <;> rw [he] at HN
             all_goals (
              go_enter Tryz.func109,Tryz.ntmps109
              go_upto_region 1 with(fail)
              generalize hw1:w.alloc _=w1;obtain⟨hb1,hg,hr1,hcell⟩:=HF.out w1 hw1;have HB1:=Hd hb1;have q0:=hcell w1 (Below.refl _ _) 0;have q2:=hcell w1 (Below.refl _ _) 2;clear hcell hb1 hr1 hw1 HF
              go_wp2_with fail
              go_ret
              exact⟨ret_bool HN.out.symm,HB1.out⟩)
theorem refArms(x:Ex) (A:Option Addr) (ca:Nat) (B:Option Addr) (cb:Nat) (w:World) (hr:rdX w x A B) (hz:∀ t∈x.arms,t.size≤9223372036854775807) (hm:x.arms.length≤100):
 Calls Tryz.prog 110 #[.agg (exA x A ca B cb)] w fun e w'=>e=.returned (.bool (armsX x))∧Below w.heap.size w w':=by
 have HF:=Hd fun w1 h=>box_facts w x A ca B cb w1 h hr;have HS:=Hd (show armsX x=(x.arms.all armB && (if x.k==11 then x.arms.length==1 else if x.k==12 then decide (1≤x.arms.length) && decide (x.arms.length≤6) && onceS x.arms else x.arms.length==0)) from rfl);have HAR:=Hd hr.arms;have HAL:=Hd fun i (hi:i<x.arms.length) (h:armB (x.arms[i]?.getD ByteArray.empty)=false)=>all_false (f:=armB) hi h;have HAS:=Hd fun k (hk:k<x.arms.length) h (hx:armB (x.arms[k]?.getD ByteArray.empty)=true)=>all_take_succ (f:=armB) hk h hx;have HAE:=Hd fun k h (hk:x.arms.length≤k)=>all_take_end (l:=x.arms) (f:=armB) (k:=k) h hk;have HZ:=Hd fun i (hi:i<x.arms.length)=>hz (x.arms[i]?.getD ByteArray.empty) (by rw [List.getElem?_eq_getElem hi];exact List.getElem_mem _);have HON:=Hd fun w1 (h:Below w.heap.size w w1)=>refOnce A x.arms.length ca x.arms w1 (hr.below h).arms hm;clear hr hz;unfold exA at HF ⊢;generalize armsX x=res at *;generalize x.k=k at *;generalize hlen:x.arms.length=n at *;have hln:=int_len n
 go_enter Tryz.func110,Tryz.ntmps110
 go_upto_region 1 with(fail)
 generalize hw1:w.alloc _=w1;obtain⟨hb1,hg,hr1,hcell⟩:=HF.out w1 hw1;have HB1:=Hd hb1;have q0:=hcell w1 (Below.refl _ _) 0;have q4:=hcell w1 (Below.refl _ _) 4;have HC:=Hd hcell;have HR1:=Hd (HAR.out.below hb1);have HO1:=Hd (HON.out w1 hb1);clear hcell hb1 hr1 hw1 HF
 go_wp2_with fail
 go_loopw [3] (fun i wr=>∃ j:Nat,j≤n∧i=.int .i64 j∧(x.arms.take j).all armB=true∧w1=wr) (fun i _=>n-(intOf i).toNat)
 case atStart=>exact⟨0,Nat.zero_le _,rfl,by simp,rfl⟩
 case round=>
  obtain⟨j,hj,rfl,hall,rfl⟩:=hrel;have HA:=Hd hall;clear hall
  by_cases hlt:j<n
  · obtain⟨b,off,rfl,hb,hat⟩:=HR1.out.at_ hlt;have c0:=hat j hlt;have HAL':=Hd (HAL.out j (by omega));have HAS':=Hd (HAS.out j (by omega) HA.out);have hzz:=HZ.out j (by omega);clear hat;generalize x.arms[j]?.getD ByteArray.empty=t at *;have HT:=Hd (refArm t w1 hzz);clear hzz
    cases ht:armB t with
    | false=>
     rw [ht] at HT;have HF':=Hd (HAL'.out ht);have HN:=Hd (show res=false by rw [HS.out,HF'.out];rfl)
     go_wp2_with fail
     refine HT.out.mono ?_;rintro r w2 ⟨rfl,rfl⟩
     go_wp2_with fail
     go_ret
     exact⟨ret_bool HN.out.symm,HB1.out⟩
    | true=>
     rw [ht] at HT;have HF':=Hd (HAS'.out ht)
     go_wp2_with fail
     refine HT.out.mono ?_;rintro r w2 ⟨rfl,rfl⟩
     go_wp2_with fail
     go_roundw
     case rel=>exact⟨j+1,by omega,by go_num,HF'.out,(by first | trivial | rfl)⟩
     case measure=>simp [intOf];omega
  · have HE:=HAE.out j HA.out (by omega);rw [HE] at HS;clear HE HAL HAS HAE HA
    by_cases h11:k=11
    · subst h11;have HN:=Hd (show res=(n==1) by rw [HS.out];rfl)
      cases hn1:(n==1) <;> rw [hn1] at HN hln
      all_goals (
       go_wp2_with fail
       go_ret
       exact⟨ret_bool HN.out.symm,HB1.out⟩)
    · have e11:(k==11)=false:=by simpa using h11
      by_cases h12:k=12
      · subst h12
        by_cases h1:1≤n
        · by_cases h6:n≤6
          · have HN:=Hd (show res=onceS x.arms by rw [HS.out];simp [h1,h6]);generalize onceS x.arms=on at *
            go_wp2_with fail
            refine HO1.out.mono ?_;rintro r w2 ⟨rfl,m,rfl⟩
            go_wp2_with fail
            go_ret
            exact⟨ret_bool HN.out.symm,below_drewN HB1.out _⟩
          · have HN:=Hd (show res=false by rw [HS.out];simp [h6])
            go_wp2_with fail
            go_ret
            exact⟨ret_bool HN.out.symm,HB1.out⟩
        · have HN:=Hd (show res=false by rw [HS.out];simp [h1])
          go_wp2_with fail
          go_ret
          exact⟨ret_bool HN.out.symm,HB1.out⟩
      · have e12:(k==12)=false:=by simpa using h12
        have HN:=Hd (show res=(n==0) by rw [HS.out];simp only [e11,e12];rfl);have hl0:((n:Int)==0)=(n==0):=by rw [Bool.eq_iff_iff];simp
        cases hn1:(n==0) <;> rw [hn1] at HN hl0
        all_goals (
         go_wp2_with fail
         go_ret
         exact⟨ret_bool HN.out.symm,HB1.out⟩)
def subsX(x:Ex):Int × Int:=
 if x.k==5 || x.k==10 || x.k==11 then(1,1) else if x.k==6 || x.k==8 || x.k==9 || x.k==15 then(2,2) else if x.k==7 || x.k==16 then(3,3)
 else if x.k==12 then(x.arms.length,x.arms.length) else if x.k==13 then(x.n,6+x.n) else if x.k==14 then(1,8) else(0,0)
theorem refSubs(x:Ex) (A:Option Addr) (ca:Nat) (B:Option Addr) (cb:Nat) (w:World) (hr:rdX w x A B) (hn:x.k=13→x.n=0∨x.n=1):
 Calls Tryz.prog 111 #[.agg (exA x A ca B cb)] w fun e w'=>e=.returned (.tuple #[.int .i64 (subsX x).1,.int .i64 (subsX x).2])∧Below w.heap.size w w':=by
 have HF:=Hd fun w1 h=>box_facts w x A ca B cb w1 h hr
 have HS:=Hd (show subsX x=if x.k==5 || x.k==10 || x.k==11 then(1,1) else if x.k==6 || x.k==8 || x.k==9 || x.k==15 then(2,2) else if x.k==7 || x.k==16 then(3,3)
  else if x.k==12 then((x.arms.length:Int),(x.arms.length:Int)) else if x.k==13 then(x.n,6+x.n) else if x.k==14 then(1,8) else(0,0) from rfl)
 have hmx:=hr.arms.max;clear hr;unfold exA at HF ⊢;generalize subsX x=res at *;generalize x.k=k at *;generalize x.n=n at *;generalize x.arms.length=m at *
 by_cases h5:k=5
 · subst h5;have HN:=Hd (show res=(1,1) by rw [HS.out];rfl)
   go_enter Tryz.func111,Tryz.ntmps111
   go_upto_region 1 with(fail)
   generalize hw1:w.alloc _=w1;obtain⟨hb1,hg,hr1,hcell⟩:=HF.out w1 hw1;have HB1:=Hd hb1;obtain⟨q0,q1,-,-,q4,-⟩:=Sx (hcell w1 (Below.refl _ _));clear hcell hb1 hr1 hw1 HF
   go_wp2_with fail
   exact bodyPost_ret (v:=.tuple #[.int .i64 (1),.int .i64 (1)]) (by simp [results,Tryz.results111,go_sem]) rfl ⟨by rw [HN.out],HB1.out⟩
 · have e5:(k==5)=false:=by simpa using h5
   by_cases h10:k=10
   · subst h10;have HN:=Hd (show res=(1,1) by rw [HS.out];rfl)
     go_enter Tryz.func111,Tryz.ntmps111
     go_upto_region 1 with(fail)
     generalize hw1:w.alloc _=w1;obtain⟨hb1,hg,hr1,hcell⟩:=HF.out w1 hw1;have HB1:=Hd hb1;obtain⟨q0,q1,-,-,q4,-⟩:=Sx (hcell w1 (Below.refl _ _));clear hcell hb1 hr1 hw1 HF
     go_wp2_with fail
     exact bodyPost_ret (v:=.tuple #[.int .i64 (1),.int .i64 (1)]) (by simp [results,Tryz.results111,go_sem]) rfl ⟨by rw [HN.out],HB1.out⟩
   · have e10:(k==10)=false:=by simpa using h10
     by_cases h11:k=11
     · subst h11;have HN:=Hd (show res=(1,1) by rw [HS.out];rfl)
       go_enter Tryz.func111,Tryz.ntmps111
       go_upto_region 1 with(fail)
       generalize hw1:w.alloc _=w1;obtain⟨hb1,hg,hr1,hcell⟩:=HF.out w1 hw1;have HB1:=Hd hb1;obtain⟨q0,q1,-,-,q4,-⟩:=Sx (hcell w1 (Below.refl _ _));clear hcell hb1 hr1 hw1 HF
       go_wp2_with fail
       exact bodyPost_ret (v:=.tuple #[.int .i64 (1),.int .i64 (1)]) (by simp [results,Tryz.results111,go_sem]) rfl ⟨by rw [HN.out],HB1.out⟩
     · have e11:(k==11)=false:=by simpa using h11
       by_cases h6:k=6
       · subst h6;have HN:=Hd (show res=(2,2) by rw [HS.out];rfl)
         go_enter Tryz.func111,Tryz.ntmps111
         go_upto_region 1 with(fail)
         generalize hw1:w.alloc _=w1;obtain⟨hb1,hg,hr1,hcell⟩:=HF.out w1 hw1;have HB1:=Hd hb1;obtain⟨q0,q1,-,-,q4,-⟩:=Sx (hcell w1 (Below.refl _ _));clear hcell hb1 hr1 hw1 HF
         go_wp2_with fail
         exact bodyPost_ret (v:=.tuple #[.int .i64 (2),.int .i64 (2)]) (by simp [results,Tryz.results111,go_sem]) rfl ⟨by rw [HN.out],HB1.out⟩
       · have e6:(k==6)=false:=by simpa using h6
         by_cases h8:k=8
         · subst h8;have HN:=Hd (show res=(2,2) by rw [HS.out];rfl)
           go_enter Tryz.func111,Tryz.ntmps111
           go_upto_region 1 with(fail)
           generalize hw1:w.alloc _=w1;obtain⟨hb1,hg,hr1,hcell⟩:=HF.out w1 hw1;have HB1:=Hd hb1;obtain⟨q0,q1,-,-,q4,-⟩:=Sx (hcell w1 (Below.refl _ _));clear hcell hb1 hr1 hw1 HF
           go_wp2_with fail
           exact bodyPost_ret (v:=.tuple #[.int .i64 (2),.int .i64 (2)]) (by simp [results,Tryz.results111,go_sem]) rfl ⟨by rw [HN.out],HB1.out⟩
         · have e8:(k==8)=false:=by simpa using h8
           by_cases h9:k=9
           · subst h9;have HN:=Hd (show res=(2,2) by rw [HS.out];rfl)
             go_enter Tryz.func111,Tryz.ntmps111
             go_upto_region 1 with(fail)
             generalize hw1:w.alloc _=w1;obtain⟨hb1,hg,hr1,hcell⟩:=HF.out w1 hw1;have HB1:=Hd hb1;obtain⟨q0,q1,-,-,q4,-⟩:=Sx (hcell w1 (Below.refl _ _));clear hcell hb1 hr1 hw1 HF
             go_wp2_with fail
             exact bodyPost_ret (v:=.tuple #[.int .i64 (2),.int .i64 (2)]) (by simp [results,Tryz.results111,go_sem]) rfl ⟨by rw [HN.out],HB1.out⟩
           · have e9:(k==9)=false:=by simpa using h9
             by_cases h15:k=15
             · subst h15;have HN:=Hd (show res=(2,2) by rw [HS.out];rfl)
               go_enter Tryz.func111,Tryz.ntmps111
               go_upto_region 1 with(fail)
               generalize hw1:w.alloc _=w1;obtain⟨hb1,hg,hr1,hcell⟩:=HF.out w1 hw1;have HB1:=Hd hb1;obtain⟨q0,q1,-,-,q4,-⟩:=Sx (hcell w1 (Below.refl _ _));clear hcell hb1 hr1 hw1 HF
               go_wp2_with fail
               exact bodyPost_ret (v:=.tuple #[.int .i64 (2),.int .i64 (2)]) (by simp [results,Tryz.results111,go_sem]) rfl ⟨by rw [HN.out],HB1.out⟩
             · have e15:(k==15)=false:=by simpa using h15
               by_cases h7:k=7
               · subst h7;have HN:=Hd (show res=(3,3) by rw [HS.out];rfl)
                 go_enter Tryz.func111,Tryz.ntmps111
                 go_upto_region 1 with(fail)
                 generalize hw1:w.alloc _=w1;obtain⟨hb1,hg,hr1,hcell⟩:=HF.out w1 hw1;have HB1:=Hd hb1;obtain⟨q0,q1,-,-,q4,-⟩:=Sx (hcell w1 (Below.refl _ _));clear hcell hb1 hr1 hw1 HF
                 go_wp2_with fail
                 exact bodyPost_ret (v:=.tuple #[.int .i64 (3),.int .i64 (3)]) (by simp [results,Tryz.results111,go_sem]) rfl ⟨by rw [HN.out],HB1.out⟩
               · have e7:(k==7)=false:=by simpa using h7
                 by_cases h16:k=16
                 · subst h16;have HN:=Hd (show res=(3,3) by rw [HS.out];rfl)
                   go_enter Tryz.func111,Tryz.ntmps111
                   go_upto_region 1 with(fail)
                   generalize hw1:w.alloc _=w1;obtain⟨hb1,hg,hr1,hcell⟩:=HF.out w1 hw1;have HB1:=Hd hb1;obtain⟨q0,q1,-,-,q4,-⟩:=Sx (hcell w1 (Below.refl _ _));clear hcell hb1 hr1 hw1 HF
                   go_wp2_with fail
                   exact bodyPost_ret (v:=.tuple #[.int .i64 (3),.int .i64 (3)]) (by simp [results,Tryz.results111,go_sem]) rfl ⟨by rw [HN.out],HB1.out⟩
                 · have e16:(k==16)=false:=by simpa using h16
                   by_cases h12:k=12
                   · subst h12;have HN:=Hd (show res=((m:Int),(m:Int)) by rw [HS.out];rfl)
                     go_enter Tryz.func111,Tryz.ntmps111
                     go_upto_region 1 with(fail)
                     generalize hw1:w.alloc _=w1;obtain⟨hb1,hg,hr1,hcell⟩:=HF.out w1 hw1;have HB1:=Hd hb1;obtain⟨q0,q1,-,-,q4,-⟩:=Sx (hcell w1 (Below.refl _ _));clear hcell hb1 hr1 hw1 HF
                     go_wp2_with fail
                     go_quiet (fail)
                     go_wp2_with fail
                     exact bodyPost_ret (v:=.tuple #[.int .i64 (m),.int .i64 (m)]) (by simp [results,Tryz.results111,go_sem]) rfl ⟨by rw [HN.out],below_drewN HB1.out _⟩
                   · have e12:(k==12)=false:=by simpa using h12
                     by_cases h13:k=13
                     · subst h13;have hn':=hn rfl;have h6:IntKind.i64.wrap (6+n)=6+n:=by rcases hn' with rfl | rfl <;> rfl
                       have HN:=Hd (show res=(n,6+n) by rw [HS.out];rfl);clear hn
                       go_enter Tryz.func111,Tryz.ntmps111
                       go_upto_region 1 with(fail)
                       generalize hw1:w.alloc _=w1;obtain⟨hb1,hg,hr1,hcell⟩:=HF.out w1 hw1;have HB1:=Hd hb1;obtain⟨q0,q1,-,-,q4,-⟩:=Sx (hcell w1 (Below.refl _ _));clear hcell hb1 hr1 hw1 HF
                       go_wp2_with fail
                       go_quiet (fail)
                       go_wp2_with fail
                       exact bodyPost_ret (v:=.tuple #[.int .i64 (n),.int .i64 (6+n)]) (by simp [results,Tryz.results111,go_sem]) rfl ⟨by rw [HN.out],below_drewN HB1.out _⟩
                     · have e13:(k==13)=false:=by simpa using h13
                       by_cases h14:k=14
                       · subst h14;have HN:=Hd (show res=(1,8) by rw [HS.out];rfl)
                         go_enter Tryz.func111,Tryz.ntmps111
                         go_upto_region 1 with(fail)
                         generalize hw1:w.alloc _=w1;obtain⟨hb1,hg,hr1,hcell⟩:=HF.out w1 hw1;have HB1:=Hd hb1;obtain⟨q0,q1,-,-,q4,-⟩:=Sx (hcell w1 (Below.refl _ _));clear hcell hb1 hr1 hw1 HF
                         go_wp2_with fail
                         exact bodyPost_ret (v:=.tuple #[.int .i64 (1),.int .i64 (8)]) (by simp [results,Tryz.results111,go_sem]) rfl ⟨by rw [HN.out],HB1.out⟩
                       · have e14:(k==14)=false:=by simpa using h14
                         have HN:=Hd (show res=(0,0) by rw [HS.out];simp only [e5,e10,e11,e6,e8,e9,e15,e7,e16,e12,e13,e14];rfl)
                         go_enter Tryz.func111,Tryz.ntmps111
                         go_upto_region 1 with(fail)
                         generalize hw1:w.alloc _=w1;obtain⟨hb1,hg,hr1,hcell⟩:=HF.out w1 hw1;have HB1:=Hd hb1;obtain⟨q0,q1,-,-,q4,-⟩:=Sx (hcell w1 (Below.refl _ _));clear hcell hb1 hr1 hw1 HF
                         go_wp2_with fail
                         exact bodyPost_ret (v:=.tuple #[.int .i64 (0),.int .i64 (0)]) (by simp [results,Tryz.results111,go_sem]) rfl ⟨by rw [HN.out],HB1.out⟩
end
section
open Go.RowKit Go.Sort
def ShortP(p:Ex):Prop:=p.s.size≤1000∧(∀ t∈p.arms,t.size≤9223372036854775807)∧p.arms.length≤100
theorem ShortP.of_few{p:Ex}(h:fewP p=true):ShortP p:=by
 simp only [fewP,Bool.and_eq_true,Bool.not_eq_true',decide_eq_false_iff_not,List.all_eq_true] at h;obtain⟨⟨h1,h2⟩,h3⟩:=h;refine⟨by omega,fun t ht=>?_,by omega⟩;have:=h3 t ht;simp only [fewA,Bool.not_eq_true',decide_eq_false_iff_not] at this;omega
def partX(x:Ex):Bool:=decide (1≤x.k) && decide (x.k≤17) && numbersX x && namedX x && armsX x && decide ((subsX x).1≤x.subs.length) && decide ((x.subs.length:Int)≤(subsX x).2) && ((x.k != 8) || constX (subX x 0))
def rightX(x:Ex):Bool:=!decide (60<sizeX x) && !decide (12<depthX x) && (partsX x).all partX
theorem numbers_13{x:Ex}(h:numbersX x=true) (hk:x.k=13):x.n=0∨x.n=1:=by
 unfold numbersX at h;rw [hk] at h
 simp at h
 exact h.2
theorem subs_8{x:Ex}(hk:x.k=8):subsX x=(2,2):=by
 unfold subsX;rw [hk];rfl
theorem refPart(x:Ex) (A:Option Addr) (ca:Nat) (B:Option Addr) (cb:Nat) (w:World) (hr:rdX w x A B) (hsh:ShortP x):
 Calls Tryz.prog 104 #[.agg (exA x A ca B cb)] w fun e w'=>e=.returned (.bool (partX x))∧Below w.heap.size w w':=by
 have HF:=Hd fun w1 h=>box_facts w x A ca B cb w1 h hr;have HS:=Hd (show partX x=(decide (1≤x.k) && decide (x.k≤17) && numbersX x && namedX x && armsX x && decide ((subsX x).1≤x.subs.length) && decide ((x.subs.length:Int)≤(subsX x).2) && ((x.k != 8) || constX (subX x 0))) from rfl);have HNU:=Hd fun w1 (h:Below w.heap.size w w1)=>refNumbers x A ca B cb w1 (hr.below h);have HNA:=Hd fun w1 (h:Below w.heap.size w w1)=>refNamed x A ca B cb w1 (hr.below h) hsh.1;have HAR:=Hd fun w1 (h:Below w.heap.size w w1)=>refArms x A ca B cb w1 (hr.below h) hsh.2.1 hsh.2.2;have HSU:=Hd fun w1 (h:Below w.heap.size w w1) (hn:x.k=13→x.n=0∨x.n=1)=>refSubs x A ca B cb w1 (hr.below h) hn;have HN13:=Hd (numbers_13 (x:=x));have HS8:=Hd (subs_8 (x:=x));have hmx:=hr.subs.max;clear hr hsh;unfold exA at HF HNU HNA HAR HSU ⊢;generalize partX x=res at *;generalize numbersX x=bnu at *;generalize namedX x=bna at *;generalize armsX x=bar at *;generalize hsu:subsX x=su at *;obtain⟨lo,hi⟩:=su;clear hsu;simp only at HS HSU HS8;generalize x.k=k at *;generalize x.n=m at *;generalize hlen:x.subs.length=n at *
 by_cases h1:k<1
 · have HN:=Hd (show res=false by rw [HS.out,decide_eq_false (show ¬ 1≤k by omega)];rfl)
   go_enter Tryz.func104,Tryz.ntmps104
   go_upto_region 1 with(fail)
   generalize hw1:w.alloc _=w1;obtain⟨hb1,hg,hr1,hcell⟩:=HF.out w1 hw1;have HB1:=Hd hb1;have HC:=Hd hcell;have HR1:=Hd hr1;have HW1:=Hd (Below.refl w1.heap.size w1);obtain⟨q0,q1,q2,q3,q4,q5⟩:=Sx (hcell w1 (Below.refl _ _));clear hcell hb1 hr1 hw1 HF
   go_wp2_with fail
   go_ret
   exact⟨ret_bool HN.out.symm,HB1.out⟩
 by_cases h17:17<k
 · have HN:=Hd (show res=false by rw [HS.out,decide_eq_false (show ¬ k≤17 by omega)];simp)
   go_enter Tryz.func104,Tryz.ntmps104
   go_upto_region 1 with(fail)
   generalize hw1:w.alloc _=w1;obtain⟨hb1,hg,hr1,hcell⟩:=HF.out w1 hw1;have HB1:=Hd hb1;have HC:=Hd hcell;have HR1:=Hd hr1;have HW1:=Hd (Below.refl w1.heap.size w1);obtain⟨q0,q1,q2,q3,q4,q5⟩:=Sx (hcell w1 (Below.refl _ _));clear hcell hb1 hr1 hw1 HF
   go_wp2_with fail
   go_ret
   exact⟨ret_bool HN.out.symm,HB1.out⟩
 rw [decide_eq_true (show 1≤k by omega),decide_eq_true (show k≤17 by omega)] at HS
 cases bnu with
 | false=>
  have HN:=Hd (show res=false by rw [HS.out];simp)
  go_enter Tryz.func104,Tryz.ntmps104
  go_upto_region 1 with(fail)
  generalize hw1:w.alloc _=w1;obtain⟨hb1,hg,hr1,hcell⟩:=HF.out w1 hw1;have HB1:=Hd hb1;have HC:=Hd hcell;have HR1:=Hd hr1;have HW1:=Hd (Below.refl w1.heap.size w1);obtain⟨q0,q1,q2,q3,q4,q5⟩:=Sx (hcell w1 (Below.refl _ _));clear hcell hb1 hr1 hw1 HF
  go_wp2_with fail
  refine(HNU.out w1 HB1.out).mono ?_;rintro r w2 ⟨rfl,hb⟩;have HB2:=Hd (HB1.out.trans (hb.mono HB1.out.size));have HW2:=Hd (HW1.out.trans (hb.mono HW1.out.size));clear hb q0 q1 q2 q3 q4 q5;obtain⟨q0,q1,q2,q3,q4,q5⟩:=Sx (HC.out w2 HW2.out)
  go_wp2_with fail
  go_ret
  exact⟨ret_bool HN.out.symm,HB2.out⟩
 | true=>
  cases bna with
  | false=>
   have HN:=Hd (show res=false by rw [HS.out];simp)
   go_enter Tryz.func104,Tryz.ntmps104
   go_upto_region 1 with(fail)
   generalize hw1:w.alloc _=w1;obtain⟨hb1,hg,hr1,hcell⟩:=HF.out w1 hw1;have HB1:=Hd hb1;have HC:=Hd hcell;have HR1:=Hd hr1;have HW1:=Hd (Below.refl w1.heap.size w1);obtain⟨q0,q1,q2,q3,q4,q5⟩:=Sx (hcell w1 (Below.refl _ _));clear hcell hb1 hr1 hw1 HF
   go_wp2_with fail
   refine(HNU.out w1 HB1.out).mono ?_;rintro r w2 ⟨rfl,hb⟩;have HB2:=Hd (HB1.out.trans (hb.mono HB1.out.size));have HW2:=Hd (HW1.out.trans (hb.mono HW1.out.size));clear hb q0 q1 q2 q3 q4 q5;obtain⟨q0,q1,q2,q3,q4,q5⟩:=Sx (HC.out w2 HW2.out)
   go_wp2_with fail
   refine(HNA.out w2 HB2.out).mono ?_;rintro r w3 ⟨rfl,hb⟩;have HB3:=Hd (HB2.out.trans (hb.mono HB2.out.size));have HW3:=Hd (HW2.out.trans (hb.mono HW2.out.size));clear hb q0 q1 q2 q3 q4 q5;obtain⟨q0,q1,q2,q3,q4,q5⟩:=Sx (HC.out w3 HW3.out)
   go_wp2_with fail
   go_ret
   exact⟨ret_bool HN.out.symm,HB3.out⟩
  | true=>
   cases bar with
   | false=>
    have HN:=Hd (show res=false by rw [HS.out];simp)
    go_enter Tryz.func104,Tryz.ntmps104
    go_upto_region 1 with(fail)
    generalize hw1:w.alloc _=w1;obtain⟨hb1,hg,hr1,hcell⟩:=HF.out w1 hw1;have HB1:=Hd hb1;have HC:=Hd hcell;have HR1:=Hd hr1;have HW1:=Hd (Below.refl w1.heap.size w1);obtain⟨q0,q1,q2,q3,q4,q5⟩:=Sx (hcell w1 (Below.refl _ _));clear hcell hb1 hr1 hw1 HF
    go_wp2_with fail
    refine(HNU.out w1 HB1.out).mono ?_;rintro r w2 ⟨rfl,hb⟩;have HB2:=Hd (HB1.out.trans (hb.mono HB1.out.size));have HW2:=Hd (HW1.out.trans (hb.mono HW1.out.size));clear hb q0 q1 q2 q3 q4 q5;obtain⟨q0,q1,q2,q3,q4,q5⟩:=Sx (HC.out w2 HW2.out)
    go_wp2_with fail
    refine(HNA.out w2 HB2.out).mono ?_;rintro r w3 ⟨rfl,hb⟩;have HB3:=Hd (HB2.out.trans (hb.mono HB2.out.size));have HW3:=Hd (HW2.out.trans (hb.mono HW2.out.size));clear hb q0 q1 q2 q3 q4 q5;obtain⟨q0,q1,q2,q3,q4,q5⟩:=Sx (HC.out w3 HW3.out)
    go_wp2_with fail
    refine(HAR.out w3 HB3.out).mono ?_;rintro r w4 ⟨rfl,hb⟩;have HB4:=Hd (HB3.out.trans (hb.mono HB3.out.size));have HW4:=Hd (HW3.out.trans (hb.mono HW3.out.size));clear hb q0 q1 q2 q3 q4 q5;obtain⟨q0,q1,q2,q3,q4,q5⟩:=Sx (HC.out w4 HW4.out)
    go_wp2_with fail
    go_ret
    exact⟨ret_bool HN.out.symm,HB4.out⟩
   | true=>
    by_cases hlo:(n:Int)<lo
    · have HN:=Hd (show res=false by rw [HS.out,decide_eq_false (show ¬ lo≤(n:Int) by omega)];simp)
      go_enter Tryz.func104,Tryz.ntmps104
      go_upto_region 1 with(fail)
      generalize hw1:w.alloc _=w1;obtain⟨hb1,hg,hr1,hcell⟩:=HF.out w1 hw1;have HB1:=Hd hb1;have HC:=Hd hcell;have HR1:=Hd hr1;have HW1:=Hd (Below.refl w1.heap.size w1);obtain⟨q0,q1,q2,q3,q4,q5⟩:=Sx (hcell w1 (Below.refl _ _));clear hcell hb1 hr1 hw1 HF
      go_wp2_with fail
      refine(HNU.out w1 HB1.out).mono ?_;rintro r w2 ⟨rfl,hb⟩;have HB2:=Hd (HB1.out.trans (hb.mono HB1.out.size));have HW2:=Hd (HW1.out.trans (hb.mono HW1.out.size));clear hb q0 q1 q2 q3 q4 q5;obtain⟨q0,q1,q2,q3,q4,q5⟩:=Sx (HC.out w2 HW2.out)
      go_wp2_with fail
      refine(HNA.out w2 HB2.out).mono ?_;rintro r w3 ⟨rfl,hb⟩;have HB3:=Hd (HB2.out.trans (hb.mono HB2.out.size));have HW3:=Hd (HW2.out.trans (hb.mono HW2.out.size));clear hb q0 q1 q2 q3 q4 q5;obtain⟨q0,q1,q2,q3,q4,q5⟩:=Sx (HC.out w3 HW3.out)
      go_wp2_with fail
      refine(HAR.out w3 HB3.out).mono ?_;rintro r w4 ⟨rfl,hb⟩;have HB4:=Hd (HB3.out.trans (hb.mono HB3.out.size));have HW4:=Hd (HW3.out.trans (hb.mono HW3.out.size));clear hb q0 q1 q2 q3 q4 q5;obtain⟨q0,q1,q2,q3,q4,q5⟩:=Sx (HC.out w4 HW4.out)
      go_wp2_with fail
      refine(HSU.out w4 HB4.out (HN13.out (by first | trivial | rfl))).mono ?_;rintro r w5 ⟨rfl,hb⟩;have HB5:=Hd (HB4.out.trans (hb.mono HB4.out.size));have HW5:=Hd (HW4.out.trans (hb.mono HW4.out.size));clear hb q0 q1 q2 q3 q4 q5;obtain⟨q0,q1,q2,q3,q4,q5⟩:=Sx (HC.out w5 HW5.out)
      go_wp2_with fail
      go_ret
      exact⟨ret_bool HN.out.symm,HB5.out⟩
    by_cases hhi:hi<(n:Int)
    · have HN:=Hd (show res=false by rw [HS.out,decide_eq_false (show ¬ (n:Int)≤hi by omega)];simp)
      go_enter Tryz.func104,Tryz.ntmps104
      go_upto_region 1 with(fail)
      generalize hw1:w.alloc _=w1;obtain⟨hb1,hg,hr1,hcell⟩:=HF.out w1 hw1;have HB1:=Hd hb1;have HC:=Hd hcell;have HR1:=Hd hr1;have HW1:=Hd (Below.refl w1.heap.size w1);obtain⟨q0,q1,q2,q3,q4,q5⟩:=Sx (hcell w1 (Below.refl _ _));clear hcell hb1 hr1 hw1 HF
      go_wp2_with fail
      refine(HNU.out w1 HB1.out).mono ?_;rintro r w2 ⟨rfl,hb⟩;have HB2:=Hd (HB1.out.trans (hb.mono HB1.out.size));have HW2:=Hd (HW1.out.trans (hb.mono HW1.out.size));clear hb q0 q1 q2 q3 q4 q5;obtain⟨q0,q1,q2,q3,q4,q5⟩:=Sx (HC.out w2 HW2.out)
      go_wp2_with fail
      refine(HNA.out w2 HB2.out).mono ?_;rintro r w3 ⟨rfl,hb⟩;have HB3:=Hd (HB2.out.trans (hb.mono HB2.out.size));have HW3:=Hd (HW2.out.trans (hb.mono HW2.out.size));clear hb q0 q1 q2 q3 q4 q5;obtain⟨q0,q1,q2,q3,q4,q5⟩:=Sx (HC.out w3 HW3.out)
      go_wp2_with fail
      refine(HAR.out w3 HB3.out).mono ?_;rintro r w4 ⟨rfl,hb⟩;have HB4:=Hd (HB3.out.trans (hb.mono HB3.out.size));have HW4:=Hd (HW3.out.trans (hb.mono HW3.out.size));clear hb q0 q1 q2 q3 q4 q5;obtain⟨q0,q1,q2,q3,q4,q5⟩:=Sx (HC.out w4 HW4.out)
      go_wp2_with fail
      refine(HSU.out w4 HB4.out (HN13.out (by first | trivial | rfl))).mono ?_;rintro r w5 ⟨rfl,hb⟩;have HB5:=Hd (HB4.out.trans (hb.mono HB4.out.size));have HW5:=Hd (HW4.out.trans (hb.mono HW4.out.size));clear hb q0 q1 q2 q3 q4 q5;obtain⟨q0,q1,q2,q3,q4,q5⟩:=Sx (HC.out w5 HW5.out)
      go_wp2_with fail
      go_ret
      exact⟨ret_bool HN.out.symm,HB5.out⟩
    rw [decide_eq_true (show lo≤(n:Int) by omega),decide_eq_true (show(n:Int)≤hi by omega)] at HS
    by_cases h8:k=8
    · have h88:=HS8.out h8;injection h88 with hlo2 hhi2;subst hlo2 hhi2 h8;have HN:=Hd (show res=constX (subX x 0) by rw [HS.out];simp)
      go_enter Tryz.func104,Tryz.ntmps104
      go_upto_region 1 with(fail)
      generalize hw1:w.alloc _=w1;obtain⟨hb1,hg,hr1,hcell⟩:=HF.out w1 hw1;have HB1:=Hd hb1;have HC:=Hd hcell;have HR1:=Hd hr1;have HW1:=Hd (Below.refl w1.heap.size w1);obtain⟨q0,q1,q2,q3,q4,q5⟩:=Sx (hcell w1 (Below.refl _ _));clear hcell hb1 hr1 hw1 HF
      go_wp2_with fail
      refine(HNU.out w1 HB1.out).mono ?_;rintro r w2 ⟨rfl,hb⟩;have HB2:=Hd (HB1.out.trans (hb.mono HB1.out.size));have HW2:=Hd (HW1.out.trans (hb.mono HW1.out.size));clear hb q0 q1 q2 q3 q4 q5;obtain⟨q0,q1,q2,q3,q4,q5⟩:=Sx (HC.out w2 HW2.out)
      go_wp2_with fail
      refine(HNA.out w2 HB2.out).mono ?_;rintro r w3 ⟨rfl,hb⟩;have HB3:=Hd (HB2.out.trans (hb.mono HB2.out.size));have HW3:=Hd (HW2.out.trans (hb.mono HW2.out.size));clear hb q0 q1 q2 q3 q4 q5;obtain⟨q0,q1,q2,q3,q4,q5⟩:=Sx (HC.out w3 HW3.out)
      go_wp2_with fail
      refine(HAR.out w3 HB3.out).mono ?_;rintro r w4 ⟨rfl,hb⟩;have HB4:=Hd (HB3.out.trans (hb.mono HB3.out.size));have HW4:=Hd (HW3.out.trans (hb.mono HW3.out.size));clear hb q0 q1 q2 q3 q4 q5;obtain⟨q0,q1,q2,q3,q4,q5⟩:=Sx (HC.out w4 HW4.out)
      go_wp2_with fail
      refine(HSU.out w4 HB4.out (HN13.out (by first | trivial | rfl))).mono ?_;rintro r w5 ⟨rfl,hb⟩;have HB5:=Hd (HB4.out.trans (hb.mono HB4.out.size));have HW5:=Hd (HW4.out.trans (hb.mono HW4.out.size));clear hb q0 q1 q2 q3 q4 q5;obtain⟨q0,q1,q2,q3,q4,q5⟩:=Sx (HC.out w5 HW5.out);obtain⟨b,off,rfl,hb,hat⟩:=(HR1.out.below HW5.out).sub (i:=0) (by omega);obtain⟨A',ca',B',cb',hrg,hrd⟩:=hat 0 (by omega);rw [Nat.zero_mul,Nat.add_zero] at hrg;obtain⟨c0,c1,c2,c3,c4,c5⟩:=rangeAt_six hrg;have HCO:=Hd (refConst (subX x 0) A' ca' B' cb' w5 hrd);clear hat hrg hrd;generalize constX (subX x 0)=bco at *
      go_wp2_with fail
      refine HCO.out.mono ?_;rintro r w6 ⟨rfl,hb⟩;have HB6:=Hd (HB5.out.trans (hb.mono HB5.out.size));clear hb
      go_wp2_with fail
      go_ret
      exact⟨ret_bool HN.out.symm,HB6.out⟩
    have e8:(k==8)=false:=by simpa using h8
    have n8:(k != 8)=true:=by rw [bne,e8];rfl
    have HN:=Hd (show res=true by rw [HS.out,n8];rfl)
    go_enter Tryz.func104,Tryz.ntmps104
    go_upto_region 1 with(fail)
    generalize hw1:w.alloc _=w1;obtain⟨hb1,hg,hr1,hcell⟩:=HF.out w1 hw1;have HB1:=Hd hb1;have HC:=Hd hcell;have HR1:=Hd hr1;have HW1:=Hd (Below.refl w1.heap.size w1);obtain⟨q0,q1,q2,q3,q4,q5⟩:=Sx (hcell w1 (Below.refl _ _));clear hcell hb1 hr1 hw1 HF
    go_wp2_with fail
    refine(HNU.out w1 HB1.out).mono ?_;rintro r w2 ⟨rfl,hb⟩;have HB2:=Hd (HB1.out.trans (hb.mono HB1.out.size));have HW2:=Hd (HW1.out.trans (hb.mono HW1.out.size));clear hb q0 q1 q2 q3 q4 q5;obtain⟨q0,q1,q2,q3,q4,q5⟩:=Sx (HC.out w2 HW2.out)
    go_wp2_with fail
    refine(HNA.out w2 HB2.out).mono ?_;rintro r w3 ⟨rfl,hb⟩;have HB3:=Hd (HB2.out.trans (hb.mono HB2.out.size));have HW3:=Hd (HW2.out.trans (hb.mono HW2.out.size));clear hb q0 q1 q2 q3 q4 q5;obtain⟨q0,q1,q2,q3,q4,q5⟩:=Sx (HC.out w3 HW3.out)
    go_wp2_with fail
    refine(HAR.out w3 HB3.out).mono ?_;rintro r w4 ⟨rfl,hb⟩;have HB4:=Hd (HB3.out.trans (hb.mono HB3.out.size));have HW4:=Hd (HW3.out.trans (hb.mono HW3.out.size));clear hb q0 q1 q2 q3 q4 q5;obtain⟨q0,q1,q2,q3,q4,q5⟩:=Sx (HC.out w4 HW4.out)
    go_wp2_with fail
    refine(HSU.out w4 HB4.out (HN13.out (by first | trivial | rfl))).mono ?_;rintro r w5 ⟨rfl,hb⟩;have HB5:=Hd (HB4.out.trans (hb.mono HB4.out.size));have HW5:=Hd (HW4.out.trans (hb.mono HW4.out.size));clear hb q0 q1 q2 q3 q4 q5;obtain⟨q0,q1,q2,q3,q4,q5⟩:=Sx (HC.out w5 HW5.out)
    go_wp2_with fail
    go_ret
    exact⟨ret_bool HN.out.symm,HB5.out⟩
theorem refRight(x:Ex) (A:Option Addr) (ca:Nat) (B:Option Addr) (cb:Nat) (w:World) (hr:rdX w x A B) (hs:sizeX x≤1000000) (hsh:∀ p∈partsX x,ShortP p):
 Calls Tryz.prog 90 #[.agg (exA x A ca B cb)] w fun e w'=>e=.returned (.bool (rightX x))∧Below w.heap.size w w':=by
 have HF:=Hd fun w1 h=>box_facts w x A ca B cb w1 h hr;have HS:=Hd (show rightX x=(!decide (60<sizeX x) && !decide (12<depthX x) && (partsX x).all partX) from rfl);have HSZ:=Hd fun w1 (h:Below w.heap.size w w1)=>refSize x A ca B cb w1 (hr.below h) hs;have HDP:=Hd fun w1 (h:Below w.heap.size w w1)=>refDepth x A ca B cb w1 (hr.below h) hs;have HPT:=Hd fun w1 (h:Below w.heap.size w w1)=>refParts x A ca B cb w w1 hr h hs;have HLN:=Hd (partsX_len x);have HSH:=Hd fun i (hi:i<(partsX x).length)=>hsh ((partsX x)[i]?.getD default) (by rw [List.getElem?_eq_getElem hi];exact List.getElem_mem _);have hds:=depth_size x;have hsp:=size_pos x;clear hr hsh;unfold exA at HF HSZ HDP HPT ⊢;generalize rightX x=res at *;have HPE:Hid (∃ l,l=partsX x):=Hd ⟨_,rfl⟩
 by_cases h60:60<sizeX x
 · have HN:=Hd (show res=false by rw [HS.out];simp [h60]);generalize sizeX x=n at *
   go_enter Tryz.func90,Tryz.ntmps90
   go_upto_region 1 with(fail)
   generalize hw1:w.alloc _=w1;obtain⟨hb1,hg,hr1,hcell⟩:=HF.out w1 hw1;have HB1:=Hd hb1;have HC:=Hd hcell;have HR1:=Hd hr1;have HW1:=Hd (Below.refl w1.heap.size w1);obtain⟨q0,q1,q2,q3,q4,q5⟩:=Sx (hcell w1 (Below.refl _ _));clear hcell hb1 hr1 hw1 HF
   go_wp2_with fail
   refine(HSZ.out w1 HB1.out).mono ?_;rintro r w2 ⟨rfl,hb⟩;have HB2:=Hd (HB1.out.trans (hb.mono HB1.out.size));clear hb
   go_wp2_with fail
   go_ret
   exact⟨ret_bool HN.out.symm,HB2.out⟩
 by_cases h12:12<depthX x
 · have HN:=Hd (show res=false by rw [HS.out];simp [h12]);generalize sizeX x=n at *;generalize depthX x=d at *
   go_enter Tryz.func90,Tryz.ntmps90
   go_upto_region 1 with(fail)
   generalize hw1:w.alloc _=w1;obtain⟨hb1,hg,hr1,hcell⟩:=HF.out w1 hw1;have HB1:=Hd hb1;have HC:=Hd hcell;have HR1:=Hd hr1;have HW1:=Hd (Below.refl w1.heap.size w1);obtain⟨q0,q1,q2,q3,q4,q5⟩:=Sx (hcell w1 (Below.refl _ _));clear hcell hb1 hr1 hw1 HF
   go_wp2_with fail
   refine(HSZ.out w1 HB1.out).mono ?_;rintro r w2 ⟨rfl,hb⟩;have HB2:=Hd (HB1.out.trans (hb.mono HB1.out.size));have HW2:=Hd (HW1.out.trans (hb.mono HW1.out.size));clear hb q0 q1 q2 q3 q4 q5;obtain⟨q0,q1,q2,q3,q4,q5⟩:=Sx (HC.out w2 HW2.out)
   go_wp2_with fail
   refine(HDP.out w2 HB2.out).mono ?_;rintro r w3 ⟨rfl,hb⟩;have HB3:=Hd (HB2.out.trans (hb.mono HB2.out.size));have HW3:=Hd (HW2.out.trans (hb.mono HW2.out.size));clear hb q0 q1 q2 q3 q4 q5;obtain⟨q0,q1,q2,q3,q4,q5⟩:=Sx (HC.out w3 HW3.out)
   go_wp2_with fail
   go_ret
   exact⟨ret_bool HN.out.symm,HB3.out⟩
 have HS2:=Hd (show res=(partsX x).all partX by rw [HS.out];simp [h60,h12]);generalize depthX x=d at *
 go_enter Tryz.func90,Tryz.ntmps90
 go_upto_region 1 with(fail)
 generalize hw1:w.alloc _=w1;obtain⟨hb1,hg,hr1,hcell⟩:=HF.out w1 hw1;have HB1:=Hd hb1;have HC:=Hd hcell;have HR1:=Hd hr1;have HW1:=Hd (Below.refl w1.heap.size w1);obtain⟨q0,q1,q2,q3,q4,q5⟩:=Sx (hcell w1 (Below.refl _ _));clear hcell hb1 hr1 hw1 HF
 go_wp2_with fail
 refine(HSZ.out w1 HB1.out).mono ?_;rintro r w2 ⟨rfl,hb⟩;have HB2:=Hd (HB1.out.trans (hb.mono HB1.out.size));have HW2:=Hd (HW1.out.trans (hb.mono HW1.out.size));clear hb q0 q1 q2 q3 q4 q5;obtain⟨q0,q1,q2,q3,q4,q5⟩:=Sx (HC.out w2 HW2.out)
 go_wp2_with fail
 refine(HDP.out w2 HB2.out).mono ?_;rintro r w3 ⟨rfl,hb⟩;have HB3:=Hd (HB2.out.trans (hb.mono HB2.out.size));have HW3:=Hd (HW2.out.trans (hb.mono HW2.out.size));clear hb q0 q1 q2 q3 q4 q5;obtain⟨q0,q1,q2,q3,q4,q5⟩:=Sx (HC.out w3 HW3.out)
 go_wp2_with fail
 refine(HPT.out w3 HB3.out).mono ?_;rintro r w4 ⟨A2,c2,cs2,rfl,hcel,hfl2,hb,_⟩;have HB4:=Hd (HB3.out.trans (hb.mono HB3.out.size));have HRX:=Hd (hcel.rd hfl2 HB4.out);clear hcel hfl2 hb q0 q1 q2 q3 q4 q5 HPT HSZ HDP HS HPE;generalize partsX x=l at *;generalize sizeX x=n at *
 go_wp2_with fail
 go_loopw [4] (fun i wr=>∃ k:Nat,k≤n∧i=.int .i64 k∧(l.take k).all partX=true∧Below w4.heap.size w4 wr) (fun i _=>n-(intOf i).toNat)
 case atStart=>exact⟨0,Nat.zero_le _,rfl,by simp,Below.refl _ _⟩
 case round=>
  obtain⟨k,hk,rfl,hall,hbw⟩:=hrel;have HA:=Hd hall;have HBW:=Hd hbw;clear hall
  by_cases hlt:k<n
  · obtain⟨b,off,rfl,hb,hat⟩:=(HRX.out.below hbw).at_ hlt;obtain⟨A',ca',B',cb',hrg,hrd⟩:=hat k hlt;obtain⟨c0,c1,c2',c3,c4,c5⟩:=rangeAt_six hrg;have HK:=Hd (show k<l.length by rw [HLN.out];exact hlt);have HSK:=Hd (HSH.out k HK.out);have HFL:=Hd fun h=>all_false (l:=l) (f:=partX) (i:=k) HK.out h;have HTS:=Hd fun h=>all_take_succ (l:=l) (f:=partX) (k:=k) HK.out HA.out h;clear hat hrg hbw;generalize l[k]?.getD default=p at *;have HP:=Hd (refPart p A' ca' B' cb' wr hrd HSK.out);unfold exA at HP;clear hrd
    cases hp:partX p with
    | false=>
     rw [hp] at HP;have HN:=Hd (show res=false by rw [HS2.out];exact HFL.out hp)
     go_wp2_with fail
     refine HP.out.mono ?_;rintro r w5 ⟨rfl,hb5⟩;have HB5:=Hd (HBW.out.trans (hb5.mono HBW.out.size));clear hb5
     go_wp2_with fail
     go_ret
     exact⟨ret_bool HN.out.symm,HB4.out.trans (HB5.out.mono HB4.out.size)⟩
    | true=>
     rw [hp] at HP;have HN:=Hd (HTS.out hp)
     go_wp2_with fail
     refine HP.out.mono ?_;rintro r w5 ⟨rfl,hb5⟩;have HB5:=Hd (HBW.out.trans (hb5.mono HBW.out.size));clear hb5
     go_wp2_with fail
     go_roundw
     case rel=>exact⟨k+1,by omega,by go_num,HN.out,HB5.out⟩
     case measure=>simp [intOf];omega
  · have HN:=Hd (show res=true by rw [HS2.out];exact all_take_end HA.out (by rw [HLN.out];omega))
    go_wp2_with fail
    go_ret
    exact⟨ret_bool HN.out.symm,HB4.out.trans (HBW.out.mono HB4.out.size)⟩
end
end Go.Proofs.YtpehkppcdlboeaaGreat
