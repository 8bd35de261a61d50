/- Parts of the proof: EyD, EyP. Conditions: each theorem's own. -/
import Derived.Test.YtegjgiofmpolnaaGreatO05
namespace Go.Proofs.YtegjgiofmpolnaaGreat
set_option linter.unusedVariables false
set_option linter.unusedSimpArgs false
set_option maxRecDepth 100000
set_option maxHeartbeats 40000000
section
open Go.RowKit Go.Sort
def bitB(n:Int):Bool:=(n==0) || (n==1)
theorem exBit(n:Int) (w:World):Calls Tryz.prog 158 #[.int .i64 n] w fun e w'=>e=.returned (.bool (bitB n))∧w=w':=by
 have HS:=Hd (show bitB n=((n==0) || (n==1)) from rfl);generalize bitB n=res at *
 cases h0:(n==0) <;> cases h1:(n==1)
 all_goals (
  rw [h0,h1] at HS
  go_enter Tryz.func158,Tryz.ntmps158
  go_wp2_with fail
  go_ret
  exact⟨ret_bool HS.out.symm,rfl⟩)
theorem exArm(s:ByteArray) (w:World) (hs:s.size≤9223372036854775807):Calls Tryz.prog 177 #[.string s] w fun e w'=>e=.returned (.bool (armB s))∧Below w.heap.size w w':=by
 have HS:=Hd (show armB s=(highB s.data.toList || (s.toList==[116,114,117,101]) || (s.toList==[102,97,108,115,101])) from rfl);have HH:=Hd (idHigh s w hs);generalize armB s=res at *;generalize highB s.data.toList=bh at *
 cases bh <;> cases ht:(s.toList==[116,114,117,101]) <;> cases hf:(s.toList==[102,97,108,115,101])
 all_goals (
  rw [ht,hf] at HS
  go_enter Tryz.func177,Tryz.ntmps177
  go_wp2_with fail
  refine HH.out.mono ?_;rintro r w2 ⟨rfl,hb⟩
  go_wp2_with fail
  go_ret
  exact⟨ret_bool HS.out.symm,hb⟩)
def armsB(l:List ByteArray) (m:Int):Bool:=decide (1≤l.length) && decide ((l.length:Int)≤m) && l.all armB && onceS l
theorem exArms(A:Option Addr) (n c:Nat) (m:Int) (l:List ByteArray) (w:World) (hr:RdT w A n l) (hz:∀ t∈l,t.size≤9223372036854775807) (hm:n≤100):
 Calls Tryz.prog 161 #[.slice A n c,.int .i64 m] w fun e w'=>e=.returned (.bool (armsB l m))∧Below w.heap.size w w':=by
 have HS:=Hd (show armsB l m=(decide (1≤l.length) && decide ((l.length:Int)≤m) && l.all armB && onceS l) from rfl);have hlen:=hr.len;have HAR:=Hd hr;have HAL:=Hd fun i (hi:i<l.length) (h:armB (l[i]?.getD ByteArray.empty)=false)=>all_false (f:=armB) hi h;have HAS:=Hd fun k (hk:k<l.length) h (hx:armB (l[k]?.getD ByteArray.empty)=true)=>all_take_succ (f:=armB) hk h hx;have HAE:=Hd fun k h (hk:l.length≤k)=>all_take_end (l:=l) (f:=armB) (k:=k) h hk;have HZ:=Hd fun i (hi:i<l.length)=>hz (l[i]?.getD ByteArray.empty) (by rw [List.getElem?_eq_getElem hi];exact List.getElem_mem _);have HON:=Hd fun w1 (h:Below w.heap.size w w1)=>idOnce A n c l w1 (hr.below h) hz hm;clear hr hz;rw [hlen] at HS HAL HAS HAE HZ;clear hlen;generalize armsB l m=res at *
 by_cases h1:1≤n
 · by_cases h2:(n:Int)≤m
   · have d1:decide ((n:Int)<1)=false:=decide_eq_false (by omega);have d2:decide (m<(n:Int))=false:=decide_eq_false (by omega);have HSS:=Hd (show res=(l.all armB && onceS l) by rw [HS.out];simp [h1,h2])
     go_enter Tryz.func161,Tryz.ntmps161
     go_wp2_with fail
     go_loopw [18] (fun i wr=>∃ j:Nat,j≤n∧i=.int .i64 j∧(l.take j).all armB=true∧Below w.heap.size w wr) (fun i _=>n-(intOf i).toNat)
     case atStart=>exact⟨0,Nat.zero_le _,rfl,by simp,Below.refl _ _⟩
     case round=>
      obtain⟨j,hj,rfl,hall,hbw⟩:=hrel;have HA:=Hd hall;have HBW:=Hd hbw;clear hall
      by_cases hlt:j<n
      · obtain⟨b,off,rfl,hb,hat⟩:=(HAR.out.below hbw).at_ hlt;have c0:=hat j hlt;have HAL':=Hd (HAL.out j (by omega));have HAS':=Hd (HAS.out j (by omega) HA.out);have hzz:=HZ.out j (by omega);clear hat hbw;generalize l[j]?.getD ByteArray.empty=t at *;have HT:=Hd (exArm t wr hzz);clear hzz
        cases ht:armB t with
        | false=>
         rw [ht] at HT;have HF':=Hd (HAL'.out ht);have HN:=Hd (show res=false by rw [HSS.out,HF'.out];rfl)
         go_wp2_with fail
         refine HT.out.mono ?_;rintro r w2 ⟨rfl,hb2⟩;have HB2:=Hd (HBW.out.trans (hb2.mono HBW.out.size));clear hb2
         go_wp2_with fail
         go_ret
         exact⟨ret_bool HN.out.symm,HB2.out⟩
        | true=>
         rw [ht] at HT;have HF':=Hd (HAS'.out ht)
         go_wp2_with fail
         refine HT.out.mono ?_;rintro r w2 ⟨rfl,hb2⟩;have HB2:=Hd (HBW.out.trans (hb2.mono HBW.out.size));clear hb2
         go_wp2_with fail
         go_roundw
         case rel=>exact⟨j+1,by omega,by go_num,HF'.out,HB2.out⟩
         case measure=>simp [intOf];omega
      · have HE:=HAE.out j HA.out (by omega);have HN:=Hd (show res=onceS l by rw [HSS.out,HE];rfl);have HO1:=Hd (HON.out wr HBW.out);clear HE HAL HAS HAE HA hbw
        go_wp2_with fail
        refine HO1.out.mono ?_;rintro r w2 ⟨rfl,hb2⟩;have HB2:=Hd (HBW.out.trans (hb2.mono HBW.out.size));clear hb2
        go_wp2_with fail
        go_ret
        exact⟨ret_bool HN.out.symm,HB2.out⟩
   · have d1:decide ((n:Int)<1)=false:=decide_eq_false (by omega);have d2:decide (m<(n:Int))=true:=decide_eq_true (by omega);have HN:=Hd (show res=false by rw [HS.out];simp [h2])
     go_enter Tryz.func161,Tryz.ntmps161
     go_wp2_with fail
     go_ret
     exact⟨ret_bool HN.out.symm,Below.refl _ _⟩
 · have d1:decide ((n:Int)<1)=true:=decide_eq_true (by omega);have HN:=Hd (show res=false by rw [HS.out];simp [h1])
   go_enter Tryz.func161,Tryz.ntmps161
   go_wp2_with fail
   go_ret
   exact⟨ret_bool HN.out.symm,Below.refl _ _⟩
end
section
open Go.RowKit Go.Sort
def namX(k n:Int) (s:ByteArray) (op:Int) (arms:List ByteArray):Ex:=.mk k n s op arms []
def rowB(x:Ex) (n:Int) (s:ByteArray) (op:Int) (arms:List ByteArray) (h:Bool) (lo hi:Int):Bool:=
 h && fieldsB x (namX x.k n s op arms) && decide (lo≤(x.subs.length:Int)) && decide ((x.subs.length:Int)≤hi)
theorem sameT_nil(l:List ByteArray):sameT l []=(l.length==0):=by
 cases l <;> simp [sameT]
theorem sameT_self(l:List ByteArray):sameT l l=true:=by simp [sameT]
theorem toList_none:(ByteArray.empty).toList=[]:=by
 rw [Lib.toList_data];rfl
theorem onceS_one{l:List ByteArray}(h:l.length=1):onceS l=true:=by
 match l,h with
 | [a],_=>simp [onceS,onceB]
theorem rowB_eq(x:Ex) (n:Int) (s:ByteArray) (op:Int) (arms:List ByteArray) (h:Bool) (lo hi:Int):
 rowB x n s op arms h lo hi=(h && ((x.n==n) && (x.s.toList==s.toList) && (x.op==op) && sameT x.arms arms) && decide (lo≤(x.subs.length:Int)) && decide ((x.subs.length:Int)≤hi)):=by
 simp [rowB,fieldsB,namX,Ex.k,Ex.n,Ex.s,Ex.op,Ex.arms,Bool.and_assoc]
theorem all_none{l:List ByteArray}(h:l.length=0):l.all armB=true:=by
 cases l <;> simp at h ⊢
theorem row_1(x:Ex) (hk:x.k=1):rowB x x.n ByteArray.empty 0 [] (decide (0≤x.n)) 0 0=partX x:=by
 have h0:=@all_none x.arms;have h1:=@onceS_one x.arms;rw [rowB_eq];simp only [partX,numbersX,namedX,armsX,subsX,hk,sameT_nil,sameT_self,toList_none,bitB,armsB];generalize x.arms.all armB=ba at *;generalize (x.s.toList==([]:List UInt8))=be at *;generalize x.arms.length=la at *;generalize x.subs.length=ls at *;generalize x.n=n at *;generalize x.op=op at *
 cases ba <;> cases be
 all_goals (try simp at h0)
 all_goals (try simp at h1)
 all_goals (try rw [Bool.eq_iff_iff])
 all_goals (try simp)
 all_goals (try omega)
theorem row_2(x:Ex) (hk:x.k=2):rowB x x.n ByteArray.empty 0 [] (bitB x.n) 0 0=partX x:=by
 have h0:=@all_none x.arms;have h1:=@onceS_one x.arms;rw [rowB_eq];simp only [partX,numbersX,namedX,armsX,subsX,hk,sameT_nil,sameT_self,toList_none,bitB,armsB];generalize x.arms.all armB=ba at *;generalize (x.s.toList==([]:List UInt8))=be at *;generalize x.arms.length=la at *;generalize x.subs.length=ls at *;generalize x.n=n at *;generalize x.op=op at *
 cases ba <;> cases be
 all_goals (try simp at h0)
 all_goals (try simp at h1)
 all_goals (try rw [Bool.eq_iff_iff])
 all_goals (try simp)
 all_goals (try omega)
theorem row_3(x:Ex) (hk:x.k=3):rowB x 0 x.s 0 [] (lowB x.s.data.toList) 0 0=partX x:=by
 have h0:=@all_none x.arms;have h1:=@onceS_one x.arms;rw [rowB_eq];simp only [partX,numbersX,namedX,armsX,subsX,hk,sameT_nil,sameT_self,toList_none,bitB,armsB];generalize x.arms.all armB=ba at *;generalize lowB x.s.data.toList=b1 at *;generalize x.arms.length=la at *;generalize x.subs.length=ls at *;generalize x.n=n at *;generalize x.op=op at *
 cases ba <;> cases b1
 all_goals (try simp at h0)
 all_goals (try simp at h1)
 all_goals (try rw [Bool.eq_iff_iff])
 all_goals (try simp)
 all_goals (try omega)
theorem row_4(x:Ex) (hk:x.k=4):rowB x 0 x.s 0 [] (highB x.s.data.toList) 0 0=partX x:=by
 have h0:=@all_none x.arms;have h1:=@onceS_one x.arms;rw [rowB_eq];simp only [partX,numbersX,namedX,armsX,subsX,hk,sameT_nil,sameT_self,toList_none,bitB,armsB];generalize x.arms.all armB=ba at *;generalize highB x.s.data.toList=b2 at *;generalize x.arms.length=la at *;generalize x.subs.length=ls at *;generalize x.n=n at *;generalize x.op=op at *
 cases ba <;> cases b2
 all_goals (try simp at h0)
 all_goals (try simp at h1)
 all_goals (try rw [Bool.eq_iff_iff])
 all_goals (try simp)
 all_goals (try omega)
theorem row_17(x:Ex) (hk:x.k=17):rowB x 0 x.s 0 [] (pathB x.s.data.toList) 0 0=partX x:=by
 have h0:=@all_none x.arms;have h1:=@onceS_one x.arms;rw [rowB_eq];simp only [partX,numbersX,namedX,armsX,subsX,hk,sameT_nil,sameT_self,toList_none,bitB,armsB];generalize x.arms.all armB=ba at *;generalize pathB x.s.data.toList=b3 at *;generalize x.arms.length=la at *;generalize x.subs.length=ls at *;generalize x.n=n at *;generalize x.op=op at *
 cases ba <;> cases b3
 all_goals (try simp at h0)
 all_goals (try simp at h1)
 all_goals (try rw [Bool.eq_iff_iff])
 all_goals (try simp)
 all_goals (try omega)
theorem row_5(x:Ex) (hk:x.k=5):rowB x 0 ByteArray.empty x.op [] (decide (1≤x.op) && decide (x.op≤2)) 1 1=partX x:=by
 have h0:=@all_none x.arms;have h1:=@onceS_one x.arms;rw [rowB_eq];simp only [partX,numbersX,namedX,armsX,subsX,hk,sameT_nil,sameT_self,toList_none,bitB,armsB];generalize x.arms.all armB=ba at *;generalize (x.s.toList==([]:List UInt8))=be at *;generalize x.arms.length=la at *;generalize x.subs.length=ls at *;generalize x.n=n at *;generalize x.op=op at *
 cases ba <;> cases be
 all_goals (try simp at h0)
 all_goals (try simp at h1)
 all_goals (try rw [Bool.eq_iff_iff])
 all_goals (try simp)
 all_goals (try omega)
theorem row_6(x:Ex) (hk:x.k=6):rowB x 0 ByteArray.empty x.op [] (decide (3≤x.op) && decide (x.op≤16)) 2 2=partX x:=by
 have h0:=@all_none x.arms;have h1:=@onceS_one x.arms;rw [rowB_eq];simp only [partX,numbersX,namedX,armsX,subsX,hk,sameT_nil,sameT_self,toList_none,bitB,armsB];generalize x.arms.all armB=ba at *;generalize (x.s.toList==([]:List UInt8))=be at *;generalize x.arms.length=la at *;generalize x.subs.length=ls at *;generalize x.n=n at *;generalize x.op=op at *
 cases ba <;> cases be
 all_goals (try simp at h0)
 all_goals (try simp at h1)
 all_goals (try rw [Bool.eq_iff_iff])
 all_goals (try simp)
 all_goals (try omega)
theorem row_7(x:Ex) (hk:x.k=7):rowB x 0 ByteArray.empty 0 [] true 3 3=partX x:=by
 have h0:=@all_none x.arms;have h1:=@onceS_one x.arms;rw [rowB_eq];simp only [partX,numbersX,namedX,armsX,subsX,hk,sameT_nil,sameT_self,toList_none,bitB,armsB];generalize x.arms.all armB=ba at *;generalize (x.s.toList==([]:List UInt8))=be at *;generalize x.arms.length=la at *;generalize x.subs.length=ls at *;generalize x.n=n at *;generalize x.op=op at *
 cases ba <;> cases be
 all_goals (try simp at h0)
 all_goals (try simp at h1)
 all_goals (try rw [Bool.eq_iff_iff])
 all_goals (try simp)
 all_goals (try omega)
theorem row_16(x:Ex) (hk:x.k=16):rowB x 0 ByteArray.empty 0 [] true 3 3=partX x:=by
 have h0:=@all_none x.arms;have h1:=@onceS_one x.arms;rw [rowB_eq];simp only [partX,numbersX,namedX,armsX,subsX,hk,sameT_nil,sameT_self,toList_none,bitB,armsB];generalize x.arms.all armB=ba at *;generalize (x.s.toList==([]:List UInt8))=be at *;generalize x.arms.length=la at *;generalize x.subs.length=ls at *;generalize x.n=n at *;generalize x.op=op at *
 cases ba <;> cases be
 all_goals (try simp at h0)
 all_goals (try simp at h1)
 all_goals (try rw [Bool.eq_iff_iff])
 all_goals (try simp)
 all_goals (try omega)
theorem row_9(x:Ex) (hk:x.k=9):rowB x 0 ByteArray.empty 0 [] true 2 2=partX x:=by
 have h0:=@all_none x.arms;have h1:=@onceS_one x.arms;rw [rowB_eq];simp only [partX,numbersX,namedX,armsX,subsX,hk,sameT_nil,sameT_self,toList_none,bitB,armsB];generalize x.arms.all armB=ba at *;generalize (x.s.toList==([]:List UInt8))=be at *;generalize x.arms.length=la at *;generalize x.subs.length=ls at *;generalize x.n=n at *;generalize x.op=op at *
 cases ba <;> cases be
 all_goals (try simp at h0)
 all_goals (try simp at h1)
 all_goals (try rw [Bool.eq_iff_iff])
 all_goals (try simp)
 all_goals (try omega)
theorem row_15(x:Ex) (hk:x.k=15):rowB x 0 ByteArray.empty 0 [] true 2 2=partX x:=by
 have h0:=@all_none x.arms;have h1:=@onceS_one x.arms;rw [rowB_eq];simp only [partX,numbersX,namedX,armsX,subsX,hk,sameT_nil,sameT_self,toList_none,bitB,armsB];generalize x.arms.all armB=ba at *;generalize (x.s.toList==([]:List UInt8))=be at *;generalize x.arms.length=la at *;generalize x.subs.length=ls at *;generalize x.n=n at *;generalize x.op=op at *
 cases ba <;> cases be
 all_goals (try simp at h0)
 all_goals (try simp at h1)
 all_goals (try rw [Bool.eq_iff_iff])
 all_goals (try simp)
 all_goals (try omega)
theorem row_10(x:Ex) (hk:x.k=10):rowB x 0 ByteArray.empty 0 [] true 1 1=partX x:=by
 have h0:=@all_none x.arms;have h1:=@onceS_one x.arms;rw [rowB_eq];simp only [partX,numbersX,namedX,armsX,subsX,hk,sameT_nil,sameT_self,toList_none,bitB,armsB];generalize x.arms.all armB=ba at *;generalize (x.s.toList==([]:List UInt8))=be at *;generalize x.arms.length=la at *;generalize x.subs.length=ls at *;generalize x.n=n at *;generalize x.op=op at *
 cases ba <;> cases be
 all_goals (try simp at h0)
 all_goals (try simp at h1)
 all_goals (try rw [Bool.eq_iff_iff])
 all_goals (try simp)
 all_goals (try omega)
theorem row_14(x:Ex) (hk:x.k=14):rowB x 0 ByteArray.empty 0 [] true 1 8=partX x:=by
 have h0:=@all_none x.arms;have h1:=@onceS_one x.arms;rw [rowB_eq];simp only [partX,numbersX,namedX,armsX,subsX,hk,sameT_nil,sameT_self,toList_none,bitB,armsB];generalize x.arms.all armB=ba at *;generalize (x.s.toList==([]:List UInt8))=be at *;generalize x.arms.length=la at *;generalize x.subs.length=ls at *;generalize x.n=n at *;generalize x.op=op at *
 cases ba <;> cases be
 all_goals (try simp at h0)
 all_goals (try simp at h1)
 all_goals (try rw [Bool.eq_iff_iff])
 all_goals (try simp)
 all_goals (try omega)
theorem row_8(x:Ex) (hk:x.k=8):rowB x 0 ByteArray.empty 0 [] (decide (0<(x.subs.length:Int)) && constX (subX x 0)) 2 2=partX x:=by
 have h0:=@all_none x.arms;have h1:=@onceS_one x.arms;rw [rowB_eq];simp only [partX,numbersX,namedX,armsX,subsX,hk,sameT_nil,sameT_self,toList_none,bitB,armsB];generalize x.arms.all armB=ba at *;generalize (x.s.toList==([]:List UInt8))=be at *;generalize constX (subX x 0)=bc at *;generalize x.arms.length=la at *;generalize x.subs.length=ls at *;generalize x.n=n at *;generalize x.op=op at *
 cases ba <;> cases be <;> cases bc
 all_goals (try simp at h0)
 all_goals (try simp at h1)
 all_goals (try rw [Bool.eq_iff_iff])
 all_goals (try simp)
 all_goals (try omega)
theorem row_11(x:Ex) (hk:x.k=11):rowB x 0 x.s 0 x.arms (lowB x.s.data.toList && armsB x.arms 1) 1 1=partX x:=by
 have h0:=@all_none x.arms;have h1:=@onceS_one x.arms;rw [rowB_eq];simp only [partX,numbersX,namedX,armsX,subsX,hk,sameT_nil,sameT_self,toList_none,bitB,armsB];generalize x.arms.all armB=ba at *;generalize onceS x.arms=bo at *;generalize lowB x.s.data.toList=b1 at *;generalize x.arms.length=la at *;generalize x.subs.length=ls at *;generalize x.n=n at *;generalize x.op=op at *
 cases ba <;> cases bo <;> cases b1
 all_goals (try simp at h0)
 all_goals (try simp at h1)
 all_goals (try rw [Bool.eq_iff_iff])
 all_goals (try simp)
 all_goals (try omega)
theorem row_12(x:Ex) (hk:x.k=12):rowB x 0 x.s 0 x.arms (lowB x.s.data.toList && armsB x.arms 6) x.arms.length x.arms.length=partX x:=by
 have h0:=@all_none x.arms;have h1:=@onceS_one x.arms;rw [rowB_eq];simp only [partX,numbersX,namedX,armsX,subsX,hk,sameT_nil,sameT_self,toList_none,bitB,armsB];generalize x.arms.all armB=ba at *;generalize onceS x.arms=bo at *;generalize lowB x.s.data.toList=b1 at *;generalize x.arms.length=la at *;generalize x.subs.length=ls at *;generalize x.n=n at *;generalize x.op=op at *
 cases ba <;> cases bo <;> cases b1
 all_goals (try simp at h0)
 all_goals (try simp at h1)
 all_goals (try rw [Bool.eq_iff_iff])
 all_goals (try simp)
 all_goals (try omega)
theorem row_13(x:Ex) (hi:Int) (hk:x.k=13) (hh:bitB x.n=true→hi=6+x.n):rowB x x.n x.s 0 [] (lowB x.s.data.toList && bitB x.n) x.n hi=partX x:=by
 have h0:=@all_none x.arms;have h1:=@onceS_one x.arms;unfold bitB at hh;simp only [Bool.or_eq_true,beq_iff_eq] at hh;rw [rowB_eq];simp only [partX,numbersX,namedX,armsX,subsX,hk,sameT_nil,sameT_self,toList_none,bitB,armsB];generalize x.arms.all armB=ba at *;generalize lowB x.s.data.toList=b1 at *;generalize x.arms.length=la at *;generalize x.subs.length=ls at *;generalize x.n=n at *;generalize x.op=op at *
 cases ba <;> cases b1
 all_goals (try simp at h0)
 all_goals (try simp at h1)
 all_goals (try rw [Bool.eq_iff_iff])
 all_goals (try simp)
 all_goals (try omega)
theorem row_no(x:Ex) (n:Int) (s:ByteArray) (op:Int) (arms:List ByteArray) (lo hi:Int) (hk:x.k<1∨17<x.k):rowB x n s op arms false lo hi=partX x:=by
 rw [rowB_eq]
 have:(decide (1≤x.k) && decide (x.k≤17))=false:=by
  rcases hk with h | h
  · rw [decide_eq_false (by omega),Bool.false_and]
  · rw [decide_eq_false (p:=x.k≤17) (by omega),Bool.and_false]
 simp only [partX,this,Bool.false_and]
end
end Go.Proofs.YtegjgiofmpolnaaGreat
