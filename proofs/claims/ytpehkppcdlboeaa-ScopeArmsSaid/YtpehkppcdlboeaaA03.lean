/- Parts of the proof: EyB, EyC, EyD, EyP. Conditions: each theorem's own. -/
import Derived.Test.YtpehkppcdlboeaaA02
namespace Go.Proofs.Ytpehkppcdlboeaa
set_option linter.unusedVariables false
set_option linter.unusedSimpArgs false
set_option maxRecDepth 100000
set_option maxHeartbeats 40000000
section
open Go.RowKit Go.Sort
theorem slEqual(A B:Option Addr) (n m c d:Nat) (ss tt:List ByteArray) (w:World) (hs:RdT w A n ss) (ht:RdT w B m tt):
 Calls Try.prog 86 #[.slice A n c,.slice B m d] w fun r w'=>r=.returned (.bool (sameT ss tt))∧Below w.heap.size w w':=by
 have h1:=hs.len;have h2:=ht.len;have h3:=hs.max;have h4:=ht.max
 by_cases hnm:n=m
 · subst hnm
   go_enter Try.func86,Try.ntmps86
   go_wp2_with fail
   go_loopw [13] (fun i wr=>∃ k:Nat,k≤n∧i=.int .i64 k∧sameTo ss tt k∧∃ p,wr=w.drewN p) (fun i _=>n-(intOf i).toNat)
   case atStart=>exact⟨0,Nat.zero_le _,rfl,fun j hj=>absurd hj (by omega),0,rfl⟩
   case round=>
    obtain⟨k,hk,rfl,hto,p,rfl⟩:=hrel;have HT:=Hd hto;clear hto
    by_cases hlt:k<n
    · obtain⟨b,off,rfl,hb,hc⟩:=hs.at_ hlt;obtain⟨b',off',rfl,hb',hc'⟩:=ht.at_ hlt;have e1:=hc k hlt;have e2:=hc' k hlt;have HN:=Hd fun h=>sameTo_succ HT.out h;have HF:=Hd fun h=>sameT_at (a:=ss) (b:=tt) (k:=k) (by omega) (by omega) h;clear hc hc';generalize ss[k]?.getD ByteArray.empty=x at e1 HN HF;generalize tt[k]?.getD ByteArray.empty=y at e2 HN HF
      by_cases he:(x.toList==y.toList)=true
      · have HN:=Hd (HN.out he);have hne:(x.toList != y.toList)=false:=by simp only [bne,he];rfl
        go_wp2_with fail
        go_quiet (fail)
        go_wp2_with fail
        go_roundw
        case rel=>exact⟨k+1,by omega,by go_num,HN.out,_,rfl⟩
        case measure=>simp [intOf];omega
      · have he:(x.toList==y.toList)=false:=by simpa using he
        have HF:=Hd (HF.out he);have hne:(x.toList != y.toList)=true:=by simp only [bne,he];rfl
        go_wp2_with fail
        go_quiet (fail)
        go_wp2_with fail
        go_ret
        exact⟨ret_bool HF.out.symm,below_drewN (below_drewN (Below.refl _ _) _) _⟩
    · have HY:=Hd (sameT_yes (by omega) HT.out (by omega))
      go_wp2_with fail
      go_ret
      exact⟨ret_bool HY.out.symm,below_drewN (Below.refl _ _) _⟩
 · have hF:=Hd (sameT_len (a:=ss) (b:=tt) (by omega));have hne:((n:Int) != (m:Int))=true:=by rw [bne_iff_ne];omega
   go_enter Try.func86,Try.ntmps86
   go_wp2_with fail
   go_ret
   exact⟨ret_bool hF.out.symm,Below.refl _ _⟩
def fieldsB(x y:Ex):Bool:=(x.k==y.k) && (x.n==y.n) && (x.s.toList==y.s.toList) && (x.op==y.op) && sameT x.arms y.arms
theorem exFields(x:Ex) (A:Option Addr) (ca:Nat) (B:Option Addr) (cb:Nat) (y:Ex) (A':Option Addr) (ca':Nat) (B':Option Addr) (cb':Nat) (w:World) (hr:rdX w x A B) (hr':rdX w y A' B'):
 Calls Try.prog 81 #[.agg (exA x A ca B cb),.agg (exA y A' ca' B' cb')] w fun e w'=>e=.returned (.bool (fieldsB x y))∧Below w.heap.size w w':=by
 have HF:=Hd fun w1 h=>box2_facts w x y A A' ca ca' B B' cb cb' w1 h hr hr';have HNM:=Hd fun w1 (h:Below w.heap.size w w1)=>slEqual A A' x.arms.length y.arms.length ca ca' x.arms y.arms w1 (hr.below h).arms (hr'.below h).arms;have HS:=Hd (show fieldsB x y=((x.k==y.k) && (x.n==y.n) && (x.s.toList==y.s.toList) && (x.op==y.op) && sameT x.arms y.arms) from rfl);clear hr hr';unfold exA at HF ⊢;generalize fieldsB x y=res at *;generalize x.k=k1 at *;generalize y.k=k2 at *;generalize x.n=m1 at *;generalize y.n=m2 at *;generalize x.s=s1 at *;generalize y.s=s2 at *;generalize x.op=o1 at *;generalize y.op=o2 at *;generalize sameT x.arms y.arms=nb at *;generalize x.arms.length=a1 at *;generalize y.arms.length=a2 at *;generalize x.subs.length=n1 at *;generalize y.subs.length=n2 at *;generalize hk:(k1==k2)=bk at *;generalize hm:(m1==m2)=bm at *;generalize hs:(s1.toList==s2.toList)=bs at *;generalize ho:(o1==o2)=bo at *
 cases bk with
 | false=>
  have HN:=Hd (show res=false by rw [HS.out];simp)
  go_enter Try.func81,Try.ntmps81
  go_upto_region 1 with(fail)
  generalize hw1:(w.alloc _).alloc _=w1;obtain⟨hb1,hg,hr1,hr2,hcell,hcell2⟩:=HF.out w1 hw1;have HB1:=Hd hb1;have q0:=hcell w1 (Below.refl _ _) 0;have p0:=hcell2 w1 (Below.refl _ _) 0;have q1:=hcell w1 (Below.refl _ _) 1;have p1:=hcell2 w1 (Below.refl _ _) 1;have q2:=hcell w1 (Below.refl _ _) 2;have p2:=hcell2 w1 (Below.refl _ _) 2;have q3:=hcell w1 (Below.refl _ _) 3;have p3:=hcell2 w1 (Below.refl _ _) 3;have q4:=hcell w1 (Below.refl _ _) 4;have p4:=hcell2 w1 (Below.refl _ _) 4;have q5:=hcell w1 (Below.refl _ _) 5;have p5:=hcell2 w1 (Below.refl _ _) 5;clear hcell hcell2 hb1 hr1 hr2 hw1 HF
  go_wp2_with fail
  go_ret
  exact⟨ret_bool HN.out.symm,HB1.out⟩
 | true=>
  cases bm with
  | false=>
   have HN:=Hd (show res=false by rw [HS.out];simp)
   go_enter Try.func81,Try.ntmps81
   go_upto_region 1 with(fail)
   generalize hw1:(w.alloc _).alloc _=w1;obtain⟨hb1,hg,hr1,hr2,hcell,hcell2⟩:=HF.out w1 hw1;have HB1:=Hd hb1;have q0:=hcell w1 (Below.refl _ _) 0;have p0:=hcell2 w1 (Below.refl _ _) 0;have q1:=hcell w1 (Below.refl _ _) 1;have p1:=hcell2 w1 (Below.refl _ _) 1;have q2:=hcell w1 (Below.refl _ _) 2;have p2:=hcell2 w1 (Below.refl _ _) 2;have q3:=hcell w1 (Below.refl _ _) 3;have p3:=hcell2 w1 (Below.refl _ _) 3;have q4:=hcell w1 (Below.refl _ _) 4;have p4:=hcell2 w1 (Below.refl _ _) 4;have q5:=hcell w1 (Below.refl _ _) 5;have p5:=hcell2 w1 (Below.refl _ _) 5;clear hcell hcell2 hb1 hr1 hr2 hw1 HF
   go_wp2_with fail
   go_ret
   exact⟨ret_bool HN.out.symm,HB1.out⟩
  | true=>
   cases bs with
   | false=>
    have HN:=Hd (show res=false by rw [HS.out];simp)
    go_enter Try.func81,Try.ntmps81
    go_upto_region 1 with(fail)
    generalize hw1:(w.alloc _).alloc _=w1;obtain⟨hb1,hg,hr1,hr2,hcell,hcell2⟩:=HF.out w1 hw1;have HB1:=Hd hb1;have q0:=hcell w1 (Below.refl _ _) 0;have p0:=hcell2 w1 (Below.refl _ _) 0;have q1:=hcell w1 (Below.refl _ _) 1;have p1:=hcell2 w1 (Below.refl _ _) 1;have q2:=hcell w1 (Below.refl _ _) 2;have p2:=hcell2 w1 (Below.refl _ _) 2;have q3:=hcell w1 (Below.refl _ _) 3;have p3:=hcell2 w1 (Below.refl _ _) 3;have q4:=hcell w1 (Below.refl _ _) 4;have p4:=hcell2 w1 (Below.refl _ _) 4;have q5:=hcell w1 (Below.refl _ _) 5;have p5:=hcell2 w1 (Below.refl _ _) 5;clear hcell hcell2 hb1 hr1 hr2 hw1 HF
    go_wp2_with fail
    go_ret
    exact⟨ret_bool HN.out.symm,HB1.out⟩
   | true=>
    cases bo with
    | false=>
     have HN:=Hd (show res=false by rw [HS.out];simp)
     go_enter Try.func81,Try.ntmps81
     go_upto_region 1 with(fail)
     generalize hw1:(w.alloc _).alloc _=w1;obtain⟨hb1,hg,hr1,hr2,hcell,hcell2⟩:=HF.out w1 hw1;have HB1:=Hd hb1;have q0:=hcell w1 (Below.refl _ _) 0;have p0:=hcell2 w1 (Below.refl _ _) 0;have q1:=hcell w1 (Below.refl _ _) 1;have p1:=hcell2 w1 (Below.refl _ _) 1;have q2:=hcell w1 (Below.refl _ _) 2;have p2:=hcell2 w1 (Below.refl _ _) 2;have q3:=hcell w1 (Below.refl _ _) 3;have p3:=hcell2 w1 (Below.refl _ _) 3;have q4:=hcell w1 (Below.refl _ _) 4;have p4:=hcell2 w1 (Below.refl _ _) 4;have q5:=hcell w1 (Below.refl _ _) 5;have p5:=hcell2 w1 (Below.refl _ _) 5;clear hcell hcell2 hb1 hr1 hr2 hw1 HF
     go_wp2_with fail
     go_ret
     exact⟨ret_bool HN.out.symm,HB1.out⟩
    | true=>
     have HN:=Hd (show res=nb by rw [HS.out];simp)
     go_enter Try.func81,Try.ntmps81
     go_upto_region 1 with(fail)
     generalize hw1:(w.alloc _).alloc _=w1;obtain⟨hb1,hg,hr1,hr2,hcell,hcell2⟩:=HF.out w1 hw1;have HB1:=Hd hb1;have q0:=hcell w1 (Below.refl _ _) 0;have p0:=hcell2 w1 (Below.refl _ _) 0;have q1:=hcell w1 (Below.refl _ _) 1;have p1:=hcell2 w1 (Below.refl _ _) 1;have q2:=hcell w1 (Below.refl _ _) 2;have p2:=hcell2 w1 (Below.refl _ _) 2;have q3:=hcell w1 (Below.refl _ _) 3;have p3:=hcell2 w1 (Below.refl _ _) 3;have q4:=hcell w1 (Below.refl _ _) 4;have p4:=hcell2 w1 (Below.refl _ _) 4;have q5:=hcell w1 (Below.refl _ _) 5;have p5:=hcell2 w1 (Below.refl _ _) 5;have HN1:=Hd (HNM.out w1 hb1);clear hcell hcell2 hb1 hr1 hr2 hw1 HF
     go_wp2_with fail
     refine HN1.out.mono ?_;rintro r w2 ⟨rfl,hb2⟩;have HB2:=Hd (HB1.out.trans (hb2.mono HB1.out.size));clear hb2
     go_wp2_with fail
     go_ret
     exact⟨ret_bool HN.out.symm,HB2.out⟩
end
section
open Go.RowKit Go.Sort
end
section
open Go.RowKit Go.Sort
def bitB(n:Int):Bool:=(n==0) || (n==1)
theorem exBit(n:Int) (w:World):Calls Try.prog 82 #[.int .i64 n] w fun e w'=>e=.returned (.bool (bitB n))∧w=w':=by
 have HS:=Hd (show bitB n=((n==0) || (n==1)) from rfl);generalize bitB n=res at *
 cases h0:(n==0) <;> cases h1:(n==1)
 all_goals (
  rw [h0,h1] at HS
  go_enter Try.func82,Try.ntmps82
  go_wp2_with fail
  go_ret
  exact⟨ret_bool HS.out.symm,rfl⟩)
theorem exArm(s:ByteArray) (w:World) (hs:s.size≤9223372036854775807):Calls Try.prog 90 #[.string s] w fun e w'=>e=.returned (.bool (armB s))∧Below w.heap.size w w':=by
 have HS:=Hd (show armB s=(highB s.data.toList || (s.toList==[116,114,117,101]) || (s.toList==[102,97,108,115,101])) from rfl);have HH:=Hd (idHigh s w hs);generalize armB s=res at *;generalize highB s.data.toList=bh at *
 cases bh <;> cases ht:(s.toList==[116,114,117,101]) <;> cases hf:(s.toList==[102,97,108,115,101])
 all_goals (
  rw [ht,hf] at HS
  go_enter Try.func90,Try.ntmps90
  go_wp2_with fail
  refine HH.out.mono ?_;rintro r w2 ⟨rfl,hb⟩
  go_wp2_with fail
  go_ret
  exact⟨ret_bool HS.out.symm,hb⟩)
def armsB(l:List ByteArray) (m:Int):Bool:=decide (1≤l.length) && decide ((l.length:Int)≤m) && l.all armB && onceS l
theorem exArms(A:Option Addr) (n c:Nat) (m:Int) (l:List ByteArray) (w:World) (hr:RdT w A n l) (hz:∀ t∈l,t.size≤9223372036854775807) (hm:n≤100):
 Calls Try.prog 85 #[.slice A n c,.int .i64 m] w fun e w'=>e=.returned (.bool (armsB l m))∧Below w.heap.size w w':=by
 have HS:=Hd (show armsB l m=(decide (1≤l.length) && decide ((l.length:Int)≤m) && l.all armB && onceS l) from rfl);have hlen:=hr.len;have HAR:=Hd hr;have HAL:=Hd fun i (hi:i<l.length) (h:armB (l[i]?.getD ByteArray.empty)=false)=>all_false (f:=armB) hi h;have HAS:=Hd fun k (hk:k<l.length) h (hx:armB (l[k]?.getD ByteArray.empty)=true)=>all_take_succ (f:=armB) hk h hx;have HAE:=Hd fun k h (hk:l.length≤k)=>all_take_end (l:=l) (f:=armB) (k:=k) h hk;have HZ:=Hd fun i (hi:i<l.length)=>hz (l[i]?.getD ByteArray.empty) (by rw [List.getElem?_eq_getElem hi];exact List.getElem_mem _);have HON:=Hd fun w1 (h:Below w.heap.size w w1)=>idOnce A n c l w1 (hr.below h) hz hm;clear hr hz;rw [hlen] at HS HAL HAS HAE HZ;clear hlen;generalize armsB l m=res at *
 by_cases h1:1≤n
 · by_cases h2:(n:Int)≤m
   · have d1:decide ((n:Int)<1)=false:=decide_eq_false (by omega);have d2:decide (m<(n:Int))=false:=decide_eq_false (by omega);have HSS:=Hd (show res=(l.all armB && onceS l) by rw [HS.out];simp [h1,h2])
     go_enter Try.func85,Try.ntmps85
     go_wp2_with fail
     go_loopw [18] (fun i wr=>∃ j:Nat,j≤n∧i=.int .i64 j∧(l.take j).all armB=true∧Below w.heap.size w wr) (fun i _=>n-(intOf i).toNat)
     case atStart=>exact⟨0,Nat.zero_le _,rfl,by simp,Below.refl _ _⟩
     case round=>
      obtain⟨j,hj,rfl,hall,hbw⟩:=hrel;have HA:=Hd hall;have HBW:=Hd hbw;clear hall
      by_cases hlt:j<n
      · obtain⟨b,off,rfl,hb,hat⟩:=(HAR.out.below hbw).at_ hlt;have c0:=hat j hlt;have HAL':=Hd (HAL.out j (by omega));have HAS':=Hd (HAS.out j (by omega) HA.out);have hzz:=HZ.out j (by omega);clear hat hbw;generalize l[j]?.getD ByteArray.empty=t at *;have HT:=Hd (exArm t wr hzz);clear hzz
        cases ht:armB t with
        | false=>
         rw [ht] at HT;have HF':=Hd (HAL'.out ht);have HN:=Hd (show res=false by rw [HSS.out,HF'.out];rfl)
         go_wp2_with fail
         refine HT.out.mono ?_;rintro r w2 ⟨rfl,hb2⟩;have HB2:=Hd (HBW.out.trans (hb2.mono HBW.out.size));clear hb2
         go_wp2_with fail
         go_ret
         exact⟨ret_bool HN.out.symm,HB2.out⟩
        | true=>
         rw [ht] at HT;have HF':=Hd (HAS'.out ht)
         go_wp2_with fail
         refine HT.out.mono ?_;rintro r w2 ⟨rfl,hb2⟩;have HB2:=Hd (HBW.out.trans (hb2.mono HBW.out.size));clear hb2
         go_wp2_with fail
         go_roundw
         case rel=>exact⟨j+1,by omega,by go_num,HF'.out,HB2.out⟩
         case measure=>simp [intOf];omega
      · have HE:=HAE.out j HA.out (by omega);have HN:=Hd (show res=onceS l by rw [HSS.out,HE];rfl);have HO1:=Hd (HON.out wr HBW.out);clear HE HAL HAS HAE HA hbw
        go_wp2_with fail
        refine HO1.out.mono ?_;rintro r w2 ⟨rfl,hb2⟩;have HB2:=Hd (HBW.out.trans (hb2.mono HBW.out.size));clear hb2
        go_wp2_with fail
        go_ret
        exact⟨ret_bool HN.out.symm,HB2.out⟩
   · have d1:decide ((n:Int)<1)=false:=decide_eq_false (by omega);have d2:decide (m<(n:Int))=true:=decide_eq_true (by omega);have HN:=Hd (show res=false by rw [HS.out];simp [h2])
     go_enter Try.func85,Try.ntmps85
     go_wp2_with fail
     go_ret
     exact⟨ret_bool HN.out.symm,Below.refl _ _⟩
 · have d1:decide ((n:Int)<1)=true:=decide_eq_true (by omega);have HN:=Hd (show res=false by rw [HS.out];simp [h1])
   go_enter Try.func85,Try.ntmps85
   go_wp2_with fail
   go_ret
   exact⟨ret_bool HN.out.symm,Below.refl _ _⟩
end
section
open Go.RowKit Go.Sort
def namX(k n:Int) (s:ByteArray) (op:Int) (arms:List ByteArray):Ex:=.mk k n s op arms []
def rowB(x:Ex) (n:Int) (s:ByteArray) (op:Int) (arms:List ByteArray) (h:Bool) (lo hi:Int):Bool:=
 h && fieldsB x (namX x.k n s op arms) && decide (lo≤(x.subs.length:Int)) && decide ((x.subs.length:Int)≤hi)
theorem sameT_nil(l:List ByteArray):sameT l []=(l.length==0):=by
 cases l <;> simp [sameT]
theorem sameT_self(l:List ByteArray):sameT l l=true:=by simp [sameT]
theorem toList_none:(ByteArray.empty).toList=[]:=by
 rw [Lib.toList_data];rfl
theorem onceS_one{l:List ByteArray}(h:l.length=1):onceS l=true:=by
 match l,h with
 | [a],_=>simp [onceS,onceB]
theorem rowB_eq(x:Ex) (n:Int) (s:ByteArray) (op:Int) (arms:List ByteArray) (h:Bool) (lo hi:Int):
 rowB x n s op arms h lo hi=(h && ((x.n==n) && (x.s.toList==s.toList) && (x.op==op) && sameT x.arms arms) && decide (lo≤(x.subs.length:Int)) && decide ((x.subs.length:Int)≤hi)):=by
 simp [rowB,fieldsB,namX,Ex.k,Ex.n,Ex.s,Ex.op,Ex.arms,Bool.and_assoc]
theorem all_none{l:List ByteArray}(h:l.length=0):l.all armB=true:=by
 cases l <;> simp at h ⊢
theorem row_1(x:Ex) (hk:x.k=1):rowB x x.n ByteArray.empty 0 [] (decide (0≤x.n)) 0 0=partX x:=by
 have h0:=@all_none x.arms;have h1:=@onceS_one x.arms;rw [rowB_eq];simp only [partX,numbersX,namedX,armsX,subsX,hk,sameT_nil,sameT_self,toList_none,bitB,armsB];generalize x.arms.all armB=ba at *;generalize (x.s.toList==([]:List UInt8))=be at *;generalize x.arms.length=la at *;generalize x.subs.length=ls at *;generalize x.n=n at *;generalize x.op=op at *
 cases ba <;> cases be
 all_goals (try simp at h0)
 all_goals (try simp at h1)
 all_goals (try rw [Bool.eq_iff_iff])
 all_goals (try simp)
 all_goals (try omega)
theorem row_2(x:Ex) (hk:x.k=2):rowB x x.n ByteArray.empty 0 [] (bitB x.n) 0 0=partX x:=by
 have h0:=@all_none x.arms;have h1:=@onceS_one x.arms;rw [rowB_eq];simp only [partX,numbersX,namedX,armsX,subsX,hk,sameT_nil,sameT_self,toList_none,bitB,armsB];generalize x.arms.all armB=ba at *;generalize (x.s.toList==([]:List UInt8))=be at *;generalize x.arms.length=la at *;generalize x.subs.length=ls at *;generalize x.n=n at *;generalize x.op=op at *
 cases ba <;> cases be
 all_goals (try simp at h0)
 all_goals (try simp at h1)
 all_goals (try rw [Bool.eq_iff_iff])
 all_goals (try simp)
 all_goals (try omega)
theorem row_3(x:Ex) (hk:x.k=3):rowB x 0 x.s 0 [] (lowB x.s.data.toList) 0 0=partX x:=by
 have h0:=@all_none x.arms;have h1:=@onceS_one x.arms;rw [rowB_eq];simp only [partX,numbersX,namedX,armsX,subsX,hk,sameT_nil,sameT_self,toList_none,bitB,armsB];generalize x.arms.all armB=ba at *;generalize lowB x.s.data.toList=b1 at *;generalize x.arms.length=la at *;generalize x.subs.length=ls at *;generalize x.n=n at *;generalize x.op=op at *
 cases ba <;> cases b1
 all_goals (try simp at h0)
 all_goals (try simp at h1)
 all_goals (try rw [Bool.eq_iff_iff])
 all_goals (try simp)
 all_goals (try omega)
theorem row_4(x:Ex) (hk:x.k=4):rowB x 0 x.s 0 [] (highB x.s.data.toList) 0 0=partX x:=by
 have h0:=@all_none x.arms;have h1:=@onceS_one x.arms;rw [rowB_eq];simp only [partX,numbersX,namedX,armsX,subsX,hk,sameT_nil,sameT_self,toList_none,bitB,armsB];generalize x.arms.all armB=ba at *;generalize highB x.s.data.toList=b2 at *;generalize x.arms.length=la at *;generalize x.subs.length=ls at *;generalize x.n=n at *;generalize x.op=op at *
 cases ba <;> cases b2
 all_goals (try simp at h0)
 all_goals (try simp at h1)
 all_goals (try rw [Bool.eq_iff_iff])
 all_goals (try simp)
 all_goals (try omega)
theorem row_17(x:Ex) (hk:x.k=17):rowB x 0 x.s 0 [] (pathB x.s.data.toList) 0 0=partX x:=by
 have h0:=@all_none x.arms;have h1:=@onceS_one x.arms;rw [rowB_eq];simp only [partX,numbersX,namedX,armsX,subsX,hk,sameT_nil,sameT_self,toList_none,bitB,armsB];generalize x.arms.all armB=ba at *;generalize pathB x.s.data.toList=b3 at *;generalize x.arms.length=la at *;generalize x.subs.length=ls at *;generalize x.n=n at *;generalize x.op=op at *
 cases ba <;> cases b3
 all_goals (try simp at h0)
 all_goals (try simp at h1)
 all_goals (try rw [Bool.eq_iff_iff])
 all_goals (try simp)
 all_goals (try omega)
theorem row_5(x:Ex) (hk:x.k=5):rowB x 0 ByteArray.empty x.op [] (decide (1≤x.op) && decide (x.op≤2)) 1 1=partX x:=by
 have h0:=@all_none x.arms;have h1:=@onceS_one x.arms;rw [rowB_eq];simp only [partX,numbersX,namedX,armsX,subsX,hk,sameT_nil,sameT_self,toList_none,bitB,armsB];generalize x.arms.all armB=ba at *;generalize (x.s.toList==([]:List UInt8))=be at *;generalize x.arms.length=la at *;generalize x.subs.length=ls at *;generalize x.n=n at *;generalize x.op=op at *
 cases ba <;> cases be
 all_goals (try simp at h0)
 all_goals (try simp at h1)
 all_goals (try rw [Bool.eq_iff_iff])
 all_goals (try simp)
 all_goals (try omega)
theorem row_6(x:Ex) (hk:x.k=6):rowB x 0 ByteArray.empty x.op [] (decide (3≤x.op) && decide (x.op≤16)) 2 2=partX x:=by
 have h0:=@all_none x.arms;have h1:=@onceS_one x.arms;rw [rowB_eq];simp only [partX,numbersX,namedX,armsX,subsX,hk,sameT_nil,sameT_self,toList_none,bitB,armsB];generalize x.arms.all armB=ba at *;generalize (x.s.toList==([]:List UInt8))=be at *;generalize x.arms.length=la at *;generalize x.subs.length=ls at *;generalize x.n=n at *;generalize x.op=op at *
 cases ba <;> cases be
 all_goals (try simp at h0)
 all_goals (try simp at h1)
 all_goals (try rw [Bool.eq_iff_iff])
 all_goals (try simp)
 all_goals (try omega)
theorem row_7(x:Ex) (hk:x.k=7):rowB x 0 ByteArray.empty 0 [] true 3 3=partX x:=by
 have h0:=@all_none x.arms;have h1:=@onceS_one x.arms;rw [rowB_eq];simp only [partX,numbersX,namedX,armsX,subsX,hk,sameT_nil,sameT_self,toList_none,bitB,armsB];generalize x.arms.all armB=ba at *;generalize (x.s.toList==([]:List UInt8))=be at *;generalize x.arms.length=la at *;generalize x.subs.length=ls at *;generalize x.n=n at *;generalize x.op=op at *
 cases ba <;> cases be
 all_goals (try simp at h0)
 all_goals (try simp at h1)
 all_goals (try rw [Bool.eq_iff_iff])
 all_goals (try simp)
 all_goals (try omega)
theorem row_16(x:Ex) (hk:x.k=16):rowB x 0 ByteArray.empty 0 [] true 3 3=partX x:=by
 have h0:=@all_none x.arms;have h1:=@onceS_one x.arms;rw [rowB_eq];simp only [partX,numbersX,namedX,armsX,subsX,hk,sameT_nil,sameT_self,toList_none,bitB,armsB];generalize x.arms.all armB=ba at *;generalize (x.s.toList==([]:List UInt8))=be at *;generalize x.arms.length=la at *;generalize x.subs.length=ls at *;generalize x.n=n at *;generalize x.op=op at *
 cases ba <;> cases be
 all_goals (try simp at h0)
 all_goals (try simp at h1)
 all_goals (try rw [Bool.eq_iff_iff])
 all_goals (try simp)
 all_goals (try omega)
theorem row_9(x:Ex) (hk:x.k=9):rowB x 0 ByteArray.empty 0 [] true 2 2=partX x:=by
 have h0:=@all_none x.arms;have h1:=@onceS_one x.arms;rw [rowB_eq];simp only [partX,numbersX,namedX,armsX,subsX,hk,sameT_nil,sameT_self,toList_none,bitB,armsB];generalize x.arms.all armB=ba at *;generalize (x.s.toList==([]:List UInt8))=be at *;generalize x.arms.length=la at *;generalize x.subs.length=ls at *;generalize x.n=n at *;generalize x.op=op at *
 cases ba <;> cases be
 all_goals (try simp at h0)
 all_goals (try simp at h1)
 all_goals (try rw [Bool.eq_iff_iff])
 all_goals (try simp)
 all_goals (try omega)
theorem row_15(x:Ex) (hk:x.k=15):rowB x 0 ByteArray.empty 0 [] true 2 2=partX x:=by
 have h0:=@all_none x.arms;have h1:=@onceS_one x.arms;rw [rowB_eq];simp only [partX,numbersX,namedX,armsX,subsX,hk,sameT_nil,sameT_self,toList_none,bitB,armsB];generalize x.arms.all armB=ba at *;generalize (x.s.toList==([]:List UInt8))=be at *;generalize x.arms.length=la at *;generalize x.subs.length=ls at *;generalize x.n=n at *;generalize x.op=op at *
 cases ba <;> cases be
 all_goals (try simp at h0)
 all_goals (try simp at h1)
 all_goals (try rw [Bool.eq_iff_iff])
 all_goals (try simp)
 all_goals (try omega)
theorem row_10(x:Ex) (hk:x.k=10):rowB x 0 ByteArray.empty 0 [] true 1 1=partX x:=by
 have h0:=@all_none x.arms;have h1:=@onceS_one x.arms;rw [rowB_eq];simp only [partX,numbersX,namedX,armsX,subsX,hk,sameT_nil,sameT_self,toList_none,bitB,armsB];generalize x.arms.all armB=ba at *;generalize (x.s.toList==([]:List UInt8))=be at *;generalize x.arms.length=la at *;generalize x.subs.length=ls at *;generalize x.n=n at *;generalize x.op=op at *
 cases ba <;> cases be
 all_goals (try simp at h0)
 all_goals (try simp at h1)
 all_goals (try rw [Bool.eq_iff_iff])
 all_goals (try simp)
 all_goals (try omega)
theorem row_14(x:Ex) (hk:x.k=14):rowB x 0 ByteArray.empty 0 [] true 1 8=partX x:=by
 have h0:=@all_none x.arms;have h1:=@onceS_one x.arms;rw [rowB_eq];simp only [partX,numbersX,namedX,armsX,subsX,hk,sameT_nil,sameT_self,toList_none,bitB,armsB];generalize x.arms.all armB=ba at *;generalize (x.s.toList==([]:List UInt8))=be at *;generalize x.arms.length=la at *;generalize x.subs.length=ls at *;generalize x.n=n at *;generalize x.op=op at *
 cases ba <;> cases be
 all_goals (try simp at h0)
 all_goals (try simp at h1)
 all_goals (try rw [Bool.eq_iff_iff])
 all_goals (try simp)
 all_goals (try omega)
theorem row_8(x:Ex) (hk:x.k=8):rowB x 0 ByteArray.empty 0 [] (decide (0<(x.subs.length:Int)) && constX (subX x 0)) 2 2=partX x:=by
 have h0:=@all_none x.arms;have h1:=@onceS_one x.arms;rw [rowB_eq];simp only [partX,numbersX,namedX,armsX,subsX,hk,sameT_nil,sameT_self,toList_none,bitB,armsB];generalize x.arms.all armB=ba at *;generalize (x.s.toList==([]:List UInt8))=be at *;generalize constX (subX x 0)=bc at *;generalize x.arms.length=la at *;generalize x.subs.length=ls at *;generalize x.n=n at *;generalize x.op=op at *
 cases ba <;> cases be <;> cases bc
 all_goals (try simp at h0)
 all_goals (try simp at h1)
 all_goals (try rw [Bool.eq_iff_iff])
 all_goals (try simp)
 all_goals (try omega)
theorem row_11(x:Ex) (hk:x.k=11):rowB x 0 x.s 0 x.arms (lowB x.s.data.toList && armsB x.arms 1) 1 1=partX x:=by
 have h0:=@all_none x.arms;have h1:=@onceS_one x.arms;rw [rowB_eq];simp only [partX,numbersX,namedX,armsX,subsX,hk,sameT_nil,sameT_self,toList_none,bitB,armsB];generalize x.arms.all armB=ba at *;generalize onceS x.arms=bo at *;generalize lowB x.s.data.toList=b1 at *;generalize x.arms.length=la at *;generalize x.subs.length=ls at *;generalize x.n=n at *;generalize x.op=op at *
 cases ba <;> cases bo <;> cases b1
 all_goals (try simp at h0)
 all_goals (try simp at h1)
 all_goals (try rw [Bool.eq_iff_iff])
 all_goals (try simp)
 all_goals (try omega)
theorem row_12(x:Ex) (hk:x.k=12):rowB x 0 x.s 0 x.arms (lowB x.s.data.toList && armsB x.arms 6) x.arms.length x.arms.length=partX x:=by
 have h0:=@all_none x.arms;have h1:=@onceS_one x.arms;rw [rowB_eq];simp only [partX,numbersX,namedX,armsX,subsX,hk,sameT_nil,sameT_self,toList_none,bitB,armsB];generalize x.arms.all armB=ba at *;generalize onceS x.arms=bo at *;generalize lowB x.s.data.toList=b1 at *;generalize x.arms.length=la at *;generalize x.subs.length=ls at *;generalize x.n=n at *;generalize x.op=op at *
 cases ba <;> cases bo <;> cases b1
 all_goals (try simp at h0)
 all_goals (try simp at h1)
 all_goals (try rw [Bool.eq_iff_iff])
 all_goals (try simp)
 all_goals (try omega)
theorem row_13(x:Ex) (hi:Int) (hk:x.k=13) (hh:bitB x.n=true→hi=6+x.n):rowB x x.n x.s 0 [] (lowB x.s.data.toList && bitB x.n) x.n hi=partX x:=by
 have h0:=@all_none x.arms;have h1:=@onceS_one x.arms;unfold bitB at hh;simp only [Bool.or_eq_true,beq_iff_eq] at hh;rw [rowB_eq];simp only [partX,numbersX,namedX,armsX,subsX,hk,sameT_nil,sameT_self,toList_none,bitB,armsB];generalize x.arms.all armB=ba at *;generalize lowB x.s.data.toList=b1 at *;generalize x.arms.length=la at *;generalize x.subs.length=ls at *;generalize x.n=n at *;generalize x.op=op at *
 cases ba <;> cases b1
 all_goals (try simp at h0)
 all_goals (try simp at h1)
 all_goals (try rw [Bool.eq_iff_iff])
 all_goals (try simp)
 all_goals (try omega)
theorem row_no(x:Ex) (n:Int) (s:ByteArray) (op:Int) (arms:List ByteArray) (lo hi:Int) (hk:x.k<1∨17<x.k):rowB x n s op arms false lo hi=partX x:=by
 rw [rowB_eq]
 have:(decide (1≤x.k) && decide (x.k≤17))=false:=by
  rcases hk with h | h
  · rw [decide_eq_false (by omega),Bool.false_and]
  · rw [decide_eq_false (p:=x.k≤17) (by omega),Bool.and_false]
 simp only [partX,this,Bool.false_and]
end
end Go.Proofs.Ytpehkppcdlboeaa
