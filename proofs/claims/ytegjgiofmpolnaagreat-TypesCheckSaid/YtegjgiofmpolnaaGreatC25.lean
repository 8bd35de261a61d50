/- Parts of the proof: EyD, EyP, ArX, ArZ. Conditions: each theorem's own. -/
import Derived.Test.YtegjgiofmpolnaaGreatC05
import Derived.Test.YtegjgiofmpolnaaGreatC15
namespace Go.Proofs.YtegjgiofmpolnaaGreat
set_option linter.unusedVariables false
set_option linter.unusedSimpArgs false
set_option maxRecDepth 100000
set_option maxHeartbeats 40000000
section
open Go.RowKit Go.Sort
def eE(n:Int):Bool:=(n==0) || (n==1)
theorem aS3(n:Int) (w:World):Calls Tryz.prog 158 #[.int .i64 n] w fun e w'=>e=.returned (.bool (eE n))/\w=w':=by
 have HS:=Hd (show eE n=((n==0) || (n==1)) from rfl);generalize eE n=Aa at *
 cases h0:(n==0) <;> cases h1:(n==1)
 all_goals (
  rw [h0,h1] at HS
  go_enter Tryz.func158,Tryz.ntmps158
  go_wp2_with fail
  go_ret
  exact⟨aF HS.o.symm,rfl⟩)
theorem aS4(s:ByteArray) (w:World) (hs:s.size<=9223372036854775807):Calls Tryz.prog 177 #[.string s] w fun e w'=>e=.returned (.bool (cT s))/\Below w.heap.size w w':=by
 have HS:=Hd (show cT s=(dY s.data.toList || (s.toList==[116,114,117,101]) || (s.toList==[102,97,108,115,101])) from rfl);have HH:=Hd (sA s w hs);generalize cT s=Aa at *;generalize dY s.data.toList=bh at *
 cases bh <;> cases ht:(s.toList==[116,114,117,101]) <;> cases hf:(s.toList==[102,97,108,115,101])
 all_goals (
  rw [ht,hf] at HS
  go_enter Tryz.func177,Tryz.ntmps177
  go_wp2_with fail
  refine HH.o.mono ?_;rintro r w2 ⟨rfl,hb⟩
  go_wp2_with fail
  go_ret
  exact⟨aF HS.o.symm,hb⟩)
def fP(l:List ByteArray) (m:Int):Bool:=decide (1<=l.length) && decide ((l.length:Int)<=m) && l.all cT && bP l
theorem gY(A:Option Addr) (n c:Nat) (m:Int) (l:List ByteArray) (w:World) (hr:aN w A n l) (hz:∀ t∈l,t.size<=9223372036854775807) (hm:n<=100):
 Calls Tryz.prog 161 #[.slice A n c,.int .i64 m] w fun e w'=>e=.returned (.bool (fP l m))/\Below w.heap.size w w':=by
 have HS:=Hd (show fP l m=(decide (1<=l.length) && decide ((l.length:Int)<=m) && l.all cT && bP l) from rfl);have Ae:=hr.len;have As:=Hd hr;have Ak:=Hd fun i (hi:i<l.length) (h:cT (l[i]?.getD ByteArray.empty)=false)=>mR (f:=cT) hi h;have Am:=Hd fun k (hk:k<l.length) h (hx:cT (l[k]?.getD ByteArray.empty)=true)=>oS (f:=cT) hk h hx;have Ai:=Hd fun k h (hk:l.length<=k)=>oT (l:=l) (f:=cT) (k:=k) h hk;have HZ:=Hd fun i (hi:i<l.length)=>hz (l[i]?.getD ByteArray.empty) (by rw [Yk hi];exact Zg _);have Ar:=Hd fun w1 (h:Below w.heap.size w w1)=>qP A n c l w1 (hr.below h) hz hm;clear hr hz;rw [Ae] at HS Ak Am Ai HZ;clear Ae;generalize fP l m=Ad at *
 by_cases h1:1<=n
 . by_cases h2:(n:Int)<=m
   . have d1:decide ((n:Int)<1)=false:=Zy (by omega);have d2:decide (m<(n:Int))=false:=Zy (by omega);have An:=Hd (show Ad=(l.all cT && bP l) by rw [HS.o];simp [h1,h2])
     go_enter Tryz.func161,Tryz.ntmps161
     go_wp2_with fail
     go_loopw [18] (fun i wr=>∃ j:Nat,j<=n/\i=.int .i64 j/\(l.take j).all cT=true/\Below w.heap.size w wr) (fun i _=>n-(intOf i).toNat)
     case atStart=>exact⟨0,Yq _,rfl,by simp,Yg _ _⟩
     case round=>
      obtain⟨j,hj,rfl,Ac,Ag⟩:=hrel;have HA:=Hd Ac;have Ab:=Hd Ag;clear Ac
      by_cases Ap:j<n
      . obtain⟨b,Av,rfl,hb,Aq⟩:=(As.o.below Ag).at_ Ap;have c0:=Aq j Ap;have Ah:=Hd (Ak.o j (by omega));have Aj:=Hd (Am.o j (by omega) HA.o);have Ao:=HZ.o j (by omega);clear Aq Ag;generalize l[j]?.getD ByteArray.empty=t at *;have HT:=Hd (aS4 t wr Ao);clear Ao
        cases ht:cT t with
        | false=>
         rw [ht] at HT;have Al:=Hd (Ah.o ht);have HN:=Hd (show Ad=false by rw [An.o,Al.o];rfl)
         go_wp2_with fail
         refine HT.o.mono ?_;rintro r w2 ⟨rfl,Aa⟩;have Af:=Hd (Ab.o.trans (Aa.mono Ab.o.size));clear Aa
         go_wp2_with fail
         go_ret
         exact⟨aF HN.o.symm,Af.o⟩
        | true=>
         rw [ht] at HT;have Al:=Hd (Aj.o ht)
         go_wp2_with fail
         refine HT.o.mono ?_;rintro r w2 ⟨rfl,Aa⟩;have Af:=Hd (Ab.o.trans (Aa.mono Ab.o.size));clear Aa
         go_wp2_with fail
         go_roundw
         case rel=>exact⟨j+1,by omega,by go_num,Al.o,Af.o⟩
         case measure=>simp [intOf];omega
      . have HE:=Ai.o j HA.o (by omega);have HN:=Hd (show Ad=bP l by rw [An.o,HE];rfl);have Au:=Hd (Ar.o wr Ab.o);clear HE Ak Am Ai HA Ag
        go_wp2_with fail
        refine Au.o.mono ?_;rintro r w2 ⟨rfl,Aa⟩;have Af:=Hd (Ab.o.trans (Aa.mono Ab.o.size));clear Aa
        go_wp2_with fail
        go_ret
        exact⟨aF HN.o.symm,Af.o⟩
   . have d1:decide ((n:Int)<1)=false:=Zy (by omega);have d2:decide (m<(n:Int))=true:=Zx (by omega);have HN:=Hd (show Ad=false by rw [HS.o];simp [h2])
     go_enter Tryz.func161,Tryz.ntmps161
     go_wp2_with fail
     go_ret
     exact⟨aF HN.o.symm,Yg _ _⟩
 . have d1:decide ((n:Int)<1)=true:=Zx (by omega);have HN:=Hd (show Ad=false by rw [HS.o];simp [h1])
   go_enter Tryz.func161,Tryz.ntmps161
   go_wp2_with fail
   go_ret
   exact⟨aF HN.o.symm,Yg _ _⟩
end
section
open Go.RowKit Go.Sort
def kT(k n:Int) (s:ByteArray) (op:Int) (arms:List ByteArray):Ex:=.mk k n s op arms []
def gA(x:Ex) (n:Int) (s:ByteArray) (op:Int) (arms:List ByteArray) (h:Bool) (lo hi:Int):Bool:=
 h && pE x (kT x.k n s op arms) && decide (lo<=(x.subs.length:Int)) && decide ((x.subs.length:Int)<=hi)
theorem hZ(l:List ByteArray):dP l []=(l.length==0):=by
 cases l <;> simp [dP]
theorem hU(l:List ByteArray):dP l l=true:=by simp [dP]
theorem hP:(ByteArray.empty).toList=[]:=by
 rw [Zc];rfl
theorem iA{l:List ByteArray}(h:l.length=1):bP l=true:=by
 match l,h with
 | [a],_=>simp [bP,sF]
theorem gX(x:Ex) (n:Int) (s:ByteArray) (op:Int) (arms:List ByteArray) (h:Bool) (lo hi:Int):
 gA x n s op arms h lo hi=(h && ((x.n==n) && (x.s.toList==s.toList) && (x.op==op) && dP x.arms arms) && decide (lo<=(x.subs.length:Int)) && decide ((x.subs.length:Int)<=hi)):=by
 simp [gA,pE,kT,Ex.k,Ex.n,Ex.s,Ex.op,Ex.arms,Bool.and_assoc]
theorem iD{l:List ByteArray}(h:l.length=0):l.all cT=true:=by
 cases l <;> simp at h ⊢
theorem aS5(x:Ex) (hk:x.k=1):gA x x.n ByteArray.empty 0 [] (decide (0<=x.n)) 0 0=bA x:=by
 have h0:=@iD x.arms;have h1:=@iA x.arms;rw [gX];simp only [bA,eO,fC,dS,dA,hk,hZ,hU,hP,eE,fP];generalize x.arms.all cT=ba at *;generalize (x.s.toList==([]:List UInt8))=be at *;generalize x.arms.length=la at *;generalize x.subs.length=ls at *;generalize x.n=n at *;generalize x.op=op at *
 cases ba <;> cases be
 all_goals (try simp at h0)
 all_goals (try simp at h1)
 all_goals (try rw [Zm])
 all_goals (try simp)
 all_goals (try omega)
theorem aS6(x:Ex) (hk:x.k=2):gA x x.n ByteArray.empty 0 [] (eE x.n) 0 0=bA x:=by
 have h0:=@iD x.arms;have h1:=@iA x.arms;rw [gX];simp only [bA,eO,fC,dS,dA,hk,hZ,hU,hP,eE,fP];generalize x.arms.all cT=ba at *;generalize (x.s.toList==([]:List UInt8))=be at *;generalize x.arms.length=la at *;generalize x.subs.length=ls at *;generalize x.n=n at *;generalize x.op=op at *
 cases ba <;> cases be
 all_goals (try simp at h0)
 all_goals (try simp at h1)
 all_goals (try rw [Zm])
 all_goals (try simp)
 all_goals (try omega)
theorem aS7(x:Ex) (hk:x.k=3):gA x 0 x.s 0 [] (aX x.s.data.toList) 0 0=bA x:=by
 have h0:=@iD x.arms;have h1:=@iA x.arms;rw [gX];simp only [bA,eO,fC,dS,dA,hk,hZ,hU,hP,eE,fP];generalize x.arms.all cT=ba at *;generalize aX x.s.data.toList=b1 at *;generalize x.arms.length=la at *;generalize x.subs.length=ls at *;generalize x.n=n at *;generalize x.op=op at *
 cases ba <;> cases b1
 all_goals (try simp at h0)
 all_goals (try simp at h1)
 all_goals (try rw [Zm])
 all_goals (try simp)
 all_goals (try omega)
theorem aS8(x:Ex) (hk:x.k=4):gA x 0 x.s 0 [] (dY x.s.data.toList) 0 0=bA x:=by
 have h0:=@iD x.arms;have h1:=@iA x.arms;rw [gX];simp only [bA,eO,fC,dS,dA,hk,hZ,hU,hP,eE,fP];generalize x.arms.all cT=ba at *;generalize dY x.s.data.toList=b2 at *;generalize x.arms.length=la at *;generalize x.subs.length=ls at *;generalize x.n=n at *;generalize x.op=op at *
 cases ba <;> cases b2
 all_goals (try simp at h0)
 all_goals (try simp at h1)
 all_goals (try rw [Zm])
 all_goals (try simp)
 all_goals (try omega)
theorem aR6(x:Ex) (hk:x.k=17):gA x 0 x.s 0 [] (eI x.s.data.toList) 0 0=bA x:=by
 have h0:=@iD x.arms;have h1:=@iA x.arms;rw [gX];simp only [bA,eO,fC,dS,dA,hk,hZ,hU,hP,eE,fP];generalize x.arms.all cT=ba at *;generalize eI x.s.data.toList=b3 at *;generalize x.arms.length=la at *;generalize x.subs.length=ls at *;generalize x.n=n at *;generalize x.op=op at *
 cases ba <;> cases b3
 all_goals (try simp at h0)
 all_goals (try simp at h1)
 all_goals (try rw [Zm])
 all_goals (try simp)
 all_goals (try omega)
theorem aFy(x:Ex) (hk:x.k=5):gA x 0 ByteArray.empty x.op [] (decide (1<=x.op) && decide (x.op<=2)) 1 1=bA x:=by
 have h0:=@iD x.arms;have h1:=@iA x.arms;rw [gX];simp only [bA,eO,fC,dS,dA,hk,hZ,hU,hP,eE,fP];generalize x.arms.all cT=ba at *;generalize (x.s.toList==([]:List UInt8))=be at *;generalize x.arms.length=la at *;generalize x.subs.length=ls at *;generalize x.n=n at *;generalize x.op=op at *
 cases ba <;> cases be
 all_goals (try simp at h0)
 all_goals (try simp at h1)
 all_goals (try rw [Zm])
 all_goals (try simp)
 all_goals (try omega)
theorem aFz(x:Ex) (hk:x.k=6):gA x 0 ByteArray.empty x.op [] (decide (3<=x.op) && decide (x.op<=16)) 2 2=bA x:=by
 have h0:=@iD x.arms;have h1:=@iA x.arms;rw [gX];simp only [bA,eO,fC,dS,dA,hk,hZ,hU,hP,eE,fP];generalize x.arms.all cT=ba at *;generalize (x.s.toList==([]:List UInt8))=be at *;generalize x.arms.length=la at *;generalize x.subs.length=ls at *;generalize x.n=n at *;generalize x.op=op at *
 cases ba <;> cases be
 all_goals (try simp at h0)
 all_goals (try simp at h1)
 all_goals (try rw [Zm])
 all_goals (try simp)
 all_goals (try omega)
theorem aS9(x:Ex) (hk:x.k=7):gA x 0 ByteArray.empty 0 [] true 3 3=bA x:=by
 have h0:=@iD x.arms;have h1:=@iA x.arms;rw [gX];simp only [bA,eO,fC,dS,dA,hk,hZ,hU,hP,eE,fP];generalize x.arms.all cT=ba at *;generalize (x.s.toList==([]:List UInt8))=be at *;generalize x.arms.length=la at *;generalize x.subs.length=ls at *;generalize x.n=n at *;generalize x.op=op at *
 cases ba <;> cases be
 all_goals (try simp at h0)
 all_goals (try simp at h1)
 all_goals (try rw [Zm])
 all_goals (try simp)
 all_goals (try omega)
theorem aR7(x:Ex) (hk:x.k=16):gA x 0 ByteArray.empty 0 [] true 3 3=bA x:=by
 have h0:=@iD x.arms;have h1:=@iA x.arms;rw [gX];simp only [bA,eO,fC,dS,dA,hk,hZ,hU,hP,eE,fP];generalize x.arms.all cT=ba at *;generalize (x.s.toList==([]:List UInt8))=be at *;generalize x.arms.length=la at *;generalize x.subs.length=ls at *;generalize x.n=n at *;generalize x.op=op at *
 cases ba <;> cases be
 all_goals (try simp at h0)
 all_goals (try simp at h1)
 all_goals (try rw [Zm])
 all_goals (try simp)
 all_goals (try omega)
theorem aTa(x:Ex) (hk:x.k=9):gA x 0 ByteArray.empty 0 [] true 2 2=bA x:=by
 have h0:=@iD x.arms;have h1:=@iA x.arms;rw [gX];simp only [bA,eO,fC,dS,dA,hk,hZ,hU,hP,eE,fP];generalize x.arms.all cT=ba at *;generalize (x.s.toList==([]:List UInt8))=be at *;generalize x.arms.length=la at *;generalize x.subs.length=ls at *;generalize x.n=n at *;generalize x.op=op at *
 cases ba <;> cases be
 all_goals (try simp at h0)
 all_goals (try simp at h1)
 all_goals (try rw [Zm])
 all_goals (try simp)
 all_goals (try omega)
theorem aR8(x:Ex) (hk:x.k=15):gA x 0 ByteArray.empty 0 [] true 2 2=bA x:=by
 have h0:=@iD x.arms;have h1:=@iA x.arms;rw [gX];simp only [bA,eO,fC,dS,dA,hk,hZ,hU,hP,eE,fP];generalize x.arms.all cT=ba at *;generalize (x.s.toList==([]:List UInt8))=be at *;generalize x.arms.length=la at *;generalize x.subs.length=ls at *;generalize x.n=n at *;generalize x.op=op at *
 cases ba <;> cases be
 all_goals (try simp at h0)
 all_goals (try simp at h1)
 all_goals (try rw [Zm])
 all_goals (try simp)
 all_goals (try omega)
theorem aR9(x:Ex) (hk:x.k=10):gA x 0 ByteArray.empty 0 [] true 1 1=bA x:=by
 have h0:=@iD x.arms;have h1:=@iA x.arms;rw [gX];simp only [bA,eO,fC,dS,dA,hk,hZ,hU,hP,eE,fP];generalize x.arms.all cT=ba at *;generalize (x.s.toList==([]:List UInt8))=be at *;generalize x.arms.length=la at *;generalize x.subs.length=ls at *;generalize x.n=n at *;generalize x.op=op at *
 cases ba <;> cases be
 all_goals (try simp at h0)
 all_goals (try simp at h1)
 all_goals (try rw [Zm])
 all_goals (try simp)
 all_goals (try omega)
theorem aSa(x:Ex) (hk:x.k=14):gA x 0 ByteArray.empty 0 [] true 1 8=bA x:=by
 have h0:=@iD x.arms;have h1:=@iA x.arms;rw [gX];simp only [bA,eO,fC,dS,dA,hk,hZ,hU,hP,eE,fP];generalize x.arms.all cT=ba at *;generalize (x.s.toList==([]:List UInt8))=be at *;generalize x.arms.length=la at *;generalize x.subs.length=ls at *;generalize x.n=n at *;generalize x.op=op at *
 cases ba <;> cases be
 all_goals (try simp at h0)
 all_goals (try simp at h1)
 all_goals (try rw [Zm])
 all_goals (try simp)
 all_goals (try omega)
theorem aF0(x:Ex) (hk:x.k=8):gA x 0 ByteArray.empty 0 [] (decide (0<(x.subs.length:Int)) && dC (aU x 0)) 2 2=bA x:=by
 have h0:=@iD x.arms;have h1:=@iA x.arms;rw [gX];simp only [bA,eO,fC,dS,dA,hk,hZ,hU,hP,eE,fP];generalize x.arms.all cT=ba at *;generalize (x.s.toList==([]:List UInt8))=be at *;generalize dC (aU x 0)=bc at *;generalize x.arms.length=la at *;generalize x.subs.length=ls at *;generalize x.n=n at *;generalize x.op=op at *
 cases ba <;> cases be <;> cases bc
 all_goals (try simp at h0)
 all_goals (try simp at h1)
 all_goals (try rw [Zm])
 all_goals (try simp)
 all_goals (try omega)
theorem aFe(x:Ex) (hk:x.k=11):gA x 0 x.s 0 x.arms (aX x.s.data.toList && fP x.arms 1) 1 1=bA x:=by
 have h0:=@iD x.arms;have h1:=@iA x.arms;rw [gX];simp only [bA,eO,fC,dS,dA,hk,hZ,hU,hP,eE,fP];generalize x.arms.all cT=ba at *;generalize bP x.arms=bo at *;generalize aX x.s.data.toList=b1 at *;generalize x.arms.length=la at *;generalize x.subs.length=ls at *;generalize x.n=n at *;generalize x.op=op at *
 cases ba <;> cases bo <;> cases b1
 all_goals (try simp at h0)
 all_goals (try simp at h1)
 all_goals (try rw [Zm])
 all_goals (try simp)
 all_goals (try omega)
theorem aFf(x:Ex) (hk:x.k=12):gA x 0 x.s 0 x.arms (aX x.s.data.toList && fP x.arms 6) x.arms.length x.arms.length=bA x:=by
 have h0:=@iD x.arms;have h1:=@iA x.arms;rw [gX];simp only [bA,eO,fC,dS,dA,hk,hZ,hU,hP,eE,fP];generalize x.arms.all cT=ba at *;generalize bP x.arms=bo at *;generalize aX x.s.data.toList=b1 at *;generalize x.arms.length=la at *;generalize x.subs.length=ls at *;generalize x.n=n at *;generalize x.op=op at *
 cases ba <;> cases bo <;> cases b1
 all_goals (try simp at h0)
 all_goals (try simp at h1)
 all_goals (try rw [Zm])
 all_goals (try simp)
 all_goals (try omega)
theorem aFg(x:Ex) (hi:Int) (hk:x.k=13) (hh:eE x.n=true->hi=6+x.n):gA x x.n x.s 0 [] (aX x.s.data.toList && eE x.n) x.n hi=bA x:=by
 have h0:=@iD x.arms;have h1:=@iA x.arms;unfold eE at hh;simp only [Bool.or_eq_true,beq_iff_eq] at hh;rw [gX];simp only [bA,eO,fC,dS,dA,hk,hZ,hU,hP,eE,fP];generalize x.arms.all cT=ba at *;generalize aX x.s.data.toList=b1 at *;generalize x.arms.length=la at *;generalize x.subs.length=ls at *;generalize x.n=n at *;generalize x.op=op at *
 cases ba <;> cases b1
 all_goals (try simp at h0)
 all_goals (try simp at h1)
 all_goals (try rw [Zm])
 all_goals (try simp)
 all_goals (try omega)
theorem aSb(x:Ex) (n:Int) (s:ByteArray) (op:Int) (arms:List ByteArray) (lo hi:Int) (hk:x.k<1\/17<x.k):gA x n s op arms false lo hi=bA x:=by
 rw [gX]
 have:(decide (1<=x.k) && decide (x.k<=17))=false:=by
  rcases hk with h | h
  . rw [Zy (by omega),Bool.false_and]
  . rw [Zy (p:=x.k<=17) (by omega),Bool.and_false]
 simp only [bA,this,Bool.false_and]
end
section
open Go.RowKit Go.Sort
theorem jM{op:Int}(h:op<3\/16<op) (k:Int) (hk:3<=k/\k<=16):(op==k)=false:=by
 rw [Xa];omega
theorem aBm(w:World) (A B C:Obj):(((w.alloc A).alloc B).alloc C).heap[w.heap.size+1+1]?=some C:=by
 have:=Zw ((w.alloc A).alloc B) C
 simpa using this
theorem aGv(op k e l k' e' l':Int) (hS:fA k e l k' e' l'=false) (w:World):
 Calls Tryz.prog 117 #[.int .i64 op,aK k e l,aK k' e' l'] w fun r w' =>
  r=.returned (.tuple #[kV (iF op (aV 1 k e l && aV 1 k' e' l') (aV 2 k e l && aV 2 k' e' l') (fA k e l k' e' l')),.bool (iF op (aV 1 k e l && aV 1 k' e' l') (aV 2 k e l && aV 2 k' e' l') (fA k e l k' e' l')).isSome])/\Below w.heap.size w w':=by
 have HS:=Hd hS;have hc:=wA k e l k' e' l';rw [hS] at hc;clear hS;unfold aK;rcases hc with⟨_,_,_,_,h0⟩|⟨hk,_⟩|⟨rfl,hk,_⟩|⟨rfl,rfl,hk,_⟩|⟨rfl,rfl,rfl,hk,_⟩
 . cases h0
 all_goals
  go_enter Tryz.func117,Tryz.ntmps117
  go_wp2_with fail
  exact Zt (aL (p:=6) (u:=7) rfl _ _ (w.heap.size+1+1) 0 0 0 rfl (by(repeat' (first | exact aBm _ _ _ _ | refine iW ?_ | refine dX _ ?_)))) rfl ⟨gS (o:=none) (by first | exact aDj HS.o | simpa using aDj (op:=op) HS.o),by(repeat' (first | exact Yg _ _ | refine Below.drew ?_ | refine Below.alloc ?_ (by simp <;> omega) _))⟩
theorem aP5(w:World) (A B C D:Obj):((((w.alloc A).alloc B).alloc C).alloc D).heap[w.heap.size+1+1+1]?=some D:=by
 have:=Zw (((w.alloc A).alloc B).alloc C) D
 simpa using this
theorem aP6(w:World) (A B C D E:Obj):(((((w.alloc A).alloc B).alloc C).alloc D).alloc E).heap[w.heap.size+1+1+1+1]?=some E:=by
 have:=Zw ((((w.alloc A).alloc B).alloc C).alloc D) E
 simpa using this
theorem aP7(w:World) (A B C D E F:Obj):((((((w.alloc A).alloc B).alloc C).alloc D).alloc E).alloc F).heap[w.heap.size+1+1+1+1+1]?=some F:=by
 have:=Zw (((((w.alloc A).alloc B).alloc C).alloc D).alloc E) F
 simpa using this
theorem eD(w:World) (k e:Int) (X Y Z:Obj):bS ((((((w.alloc (aS k e 0)).alloc (aS k e 0)).alloc (aS 0 0 0)).alloc X).alloc Y).alloc Z).drew w.heap.size k e 0 /\
 bS ((((((w.alloc (aS k e 0)).alloc (aS k e 0)).alloc (aS 0 0 0)).alloc X).alloc Y).alloc Z).drew (w.heap.size+1+1) 0 0 0/\Below w.heap.size w ((((((w.alloc (aS k e 0)).alloc (aS k e 0)).alloc (aS 0 0 0)).alloc X).alloc Y).alloc Z).drew:=
 ⟨((((((bS.new w k e 0).alloc _).alloc _).alloc X).alloc Y).alloc Z).drew,iW (dX _ (dX _ (dX _ (aBm w _ _ _)))),by(repeat' (first | exact Yg _ _ | refine Below.drew ?_ | refine Below.alloc ?_ (by simp <;> omega) _))⟩
theorem zH(w:World) (A B C Y Z:Obj):bS ((((((w.alloc A).alloc B).alloc C).alloc (aS 2 0 0)).alloc Y).alloc Z).drew (w.heap.size+1+1+1) 2 0 0:=iW (dX _ (dX _ (aP5 w _ _ _ _)))
theorem zI(w:World) (A B C X Z:Obj):bS ((((((w.alloc A).alloc B).alloc C).alloc X).alloc (aS 2 0 0)).alloc Z).drew (w.heap.size+1+1+1+1) 2 0 0:=iW (dX _ (aP6 w _ _ _ _ _))
theorem zJ(w:World) (A B C X Y:Obj):bS ((((((w.alloc A).alloc B).alloc C).alloc X).alloc Y).alloc (aS 2 0 0)).drew (w.heap.size+1+1+1+1+1) 2 0 0:=iW (aP7 w _ _ _ _ _ _)
theorem aTb(k e l:Int) (b:Bool) (w:World):
 Calls Tryz.prog 163 #[aK k e l,.bool b] w fun r w'=>r=.returned (.tuple #[if b=true then aK k e l else aK 0 0 0,.bool b])/\Below w.heap.size w w':=by
 cases b
 . exact(mS k e l w).mono fun r w' ⟨h,h'⟩=>⟨h,by rw [h'];exact((Yg _ _).alloc (Yh _) _).alloc (by simp) _⟩
 . exact(rH k e l w).mono fun r w' ⟨h,h'⟩=>⟨h,by rw [h'];exact((Yg _ _).alloc (Yh _) _).alloc (by simp) _⟩
theorem aHb(op k e:Int) (w:World):
 Calls Tryz.prog 117 #[.int .i64 op,aK k e 0,aK k e 0] w fun r w' =>
  r=.returned (.tuple #[kV (iF op (aV 1 k e 0) (aV 2 k e 0) true),.bool (iF op (aV 1 k e 0) (aV 2 k e 0) true).isSome])/\Below w.heap.size w w':=by
 have HC:=Hd aTb;unfold aK at HC ⊢
 go_enter Tryz.func117,Tryz.ntmps117
 go_upto_region 3 with(fail)
 go_cut [8,9] (fun v8 v9 wx=>v8=.bool (aV 1 k e 0)/\∃ g,v9=.pointer (some ⟨g,0,none⟩)/\w.heap.size+1+1<g/\bS wx w.heap.size k e 0/\bS wx (w.heap.size+1+1) 0 0 0/\bS wx g 2 0 0/\Below w.heap.size w wx)
 case first=>
  rcases nT 1 k e 0 with⟨rfl,rfl,_,hp⟩|⟨hk,hp⟩|⟨rfl,hk,hp⟩|⟨_,_,h0,_⟩
  . go_region_held3 (fun W=>W.cell? ⟨w.heap.size,0,none⟩=some (.int .i64 1)/\W.cell? ⟨w.heap.size,1,none⟩=some (.int .i64 0)/\W.cell? ⟨w.heap.size,2,none⟩=some (.int .i64 0)) (first | (refine⟨?_,?_,?_⟩ <;> simp [go_sem]) | exact trivial) (first | (go_at_call 164;refine(lG _ _).mono ?_;unfold aK aS;rintro r w2 ⟨rfl,rfl⟩))
    all_goals
     go_wp2_with fail
     go_meet
     case rel=>first | (refine⟨congrArg Value.bool hp.symm,w.heap.size+1+1+1,rfl,?_,?_,?_,?_,?_⟩;omega;exact(eD w 1 0 _ _ _).1;exact(eD w 1 0 _ _ _).2.1;exact zH w _ _ _ _ _;exact(eD w 1 0 _ _ _).2.2) | (refine⟨congrArg Value.bool hp.symm,w.heap.size+1+1+1+1,rfl,?_,?_,?_,?_,?_⟩;omega;exact(eD w 1 0 _ _ _).1;exact(eD w 1 0 _ _ _).2.1;exact zI w _ _ _ _ _;exact(eD w 1 0 _ _ _).2.2) | (refine⟨congrArg Value.bool hp.symm,w.heap.size+1+1+1+1+1,rfl,?_,?_,?_,?_,?_⟩;omega;exact(eD w 1 0 _ _ _).1;exact(eD w 1 0 _ _ _).2.1;exact zJ w _ _ _ _ _;exact(eD w 1 0 _ _ _).2.2)
  . go_region_held3 (fun W=>W.cell? ⟨w.heap.size,0,none⟩=some (.int .i64 k)/\W.cell? ⟨w.heap.size,1,none⟩=some (.int .i64 e)/\W.cell? ⟨w.heap.size,2,none⟩=some (.int .i64 0)) (first | (refine⟨?_,?_,?_⟩ <;> simp [go_sem]) | exact trivial) (first | (go_at_call 164;refine(lG _ _).mono ?_;unfold aK aS;rintro r w2 ⟨rfl,rfl⟩))
    all_goals
     go_wp2_with fail
     go_meet
     case rel=>first | (refine⟨congrArg Value.bool hp.symm,w.heap.size+1+1+1,rfl,?_,?_,?_,?_,?_⟩;omega;exact(eD w k e _ _ _).1;exact(eD w k e _ _ _).2.1;exact zH w _ _ _ _ _;exact(eD w k e _ _ _).2.2) | (refine⟨congrArg Value.bool hp.symm,w.heap.size+1+1+1+1,rfl,?_,?_,?_,?_,?_⟩;omega;exact(eD w k e _ _ _).1;exact(eD w k e _ _ _).2.1;exact zI w _ _ _ _ _;exact(eD w k e _ _ _).2.2) | (refine⟨congrArg Value.bool hp.symm,w.heap.size+1+1+1+1+1,rfl,?_,?_,?_,?_,?_⟩;omega;exact(eD w k e _ _ _).1;exact(eD w k e _ _ _).2.1;exact zJ w _ _ _ _ _;exact(eD w k e _ _ _).2.2)
  . go_region_held3 (fun W=>W.cell? ⟨w.heap.size,0,none⟩=some (.int .i64 1)/\W.cell? ⟨w.heap.size,1,none⟩=some (.int .i64 e)/\W.cell? ⟨w.heap.size,2,none⟩=some (.int .i64 0)) (first | (refine⟨?_,?_,?_⟩ <;> simp [go_sem]) | exact trivial) (first | (go_at_call 164;refine(lG _ _).mono ?_;unfold aK aS;rintro r w2 ⟨rfl,rfl⟩))
    all_goals
     go_wp2_with fail
     go_meet
     case rel=>first | (refine⟨congrArg Value.bool hp.symm,w.heap.size+1+1+1,rfl,?_,?_,?_,?_,?_⟩;omega;exact(eD w 1 e _ _ _).1;exact(eD w 1 e _ _ _).2.1;exact zH w _ _ _ _ _;exact(eD w 1 e _ _ _).2.2) | (refine⟨congrArg Value.bool hp.symm,w.heap.size+1+1+1+1,rfl,?_,?_,?_,?_,?_⟩;omega;exact(eD w 1 e _ _ _).1;exact(eD w 1 e _ _ _).2.1;exact zI w _ _ _ _ _;exact(eD w 1 e _ _ _).2.2) | (refine⟨congrArg Value.bool hp.symm,w.heap.size+1+1+1+1+1,rfl,?_,?_,?_,?_,?_⟩;omega;exact(eD w 1 e _ _ _).1;exact(eD w 1 e _ _ _).2.1;exact zJ w _ _ _ _ _;exact(eD w 1 e _ _ _).2.2)
  . cases h0
 case rest=>
  obtain⟨rfl,g,rfl,hg,hX,hR,hT,hB⟩:=hcut;have Ag:w.heap.size+1+1≠g:=by omega
  have HX:=Hd hX;have HR:=Hd hR;have HT:=Hd hT;have HB:=Hd hB;clear hX hR hT hB;obtain Aa | Aa | Aa | Aa | Aa:(3<=op/\op<=7)\/(8<=op/\op<=10)\/(op=11\/op=12)\/(13<=op/\op<=16)\/(op<3\/16<op):=by omega
  . cases hI:aV 1 k e 0
    . have HI:=Hd hI;clear hI;obtain rfl | rfl | rfl | rfl | rfl:op=3\/op=4\/op=5\/op=6\/op=7:=by omega
      all_goals
       clear Aa
       go_upto_region 19 with(fail)
       go_wp2_with (first | (go_at_call 163;refine(mS _ _ _ _).mono ?_;unfold aK aS;rintro r w2 ⟨rfl,rfl⟩) | (refine wpList_load_row rfl _ _ rfl (w.heap.size) rfl _ _ _ _ (HX.o) Tryz.underlying38 rfl bO ?_) | (refine wpList_store_row rfl _ _ _ rfl (g) _ rfl rfl _ _ (HT.o) bO rfl (by simp [Value.oneCell']) ?_) | (refine wpList_load_row rfl _ _ rfl (g) rfl _ _ _ _ (HT.o.set _ _ _) Tryz.underlying38 rfl bO ?_) | (refine wpList_store_row rfl _ _ _ rfl (w.heap.size+1+1) _ rfl rfl _ _ (((HR.o.other Ag _).alloc _).alloc _) bO rfl (by simp [Value.oneCell']) ?_))
       exact Zt (aL (p:=6) (u:=7) rfl _ _ (w.heap.size+1+1) 0 0 0 rfl ((((HR.o.other Ag _).alloc _).alloc _).set _ _ _)) rfl ⟨gS (o:=none) (by rw [HI.o];rfl),by repeat' (first | exact HB.o | refine Xb ?_ (by omega) _ | refine Below.alloc ?_ (by have:=HB.o.size;simp <;> omega) _)⟩
    . obtain⟨rfl,rfl⟩:k=1/\e=0:=by simpa [aV] using hI
      clear hI;obtain rfl | rfl | rfl | rfl | rfl:op=3\/op=4\/op=5\/op=6\/op=7:=by omega
      all_goals
       clear Aa
       go_upto_region 19 with(fail)
       go_wp2_with (first | (go_at_call 163;refine(rH _ _ _ _).mono ?_;unfold aK aS;rintro r w2 ⟨rfl,rfl⟩) | (refine wpList_load_row rfl _ _ rfl (w.heap.size) rfl _ _ _ _ (HX.o) Tryz.underlying38 rfl bO ?_) | (refine wpList_store_row rfl _ _ _ rfl (g) _ rfl rfl _ _ (HT.o) bO rfl (by simp [Value.oneCell']) ?_) | (refine wpList_load_row rfl _ _ rfl (g) rfl _ _ _ _ (HT.o.set _ _ _) Tryz.underlying38 rfl bO ?_) | (refine wpList_store_row rfl _ _ _ rfl (w.heap.size+1+1) _ rfl rfl _ _ (((HR.o.other Ag _).alloc _).alloc _) bO rfl (by simp [Value.oneCell']) ?_))
       exact Zt (aL (p:=6) (u:=7) rfl _ _ (w.heap.size+1+1) 1 0 0 rfl ((((HR.o.other Ag _).alloc _).alloc _).set _ _ _)) rfl ⟨gS (o:=some 1) (rfl),by repeat' (first | exact HB.o | refine Xb ?_ (by omega) _ | refine Below.alloc ?_ (by have:=HB.o.size;simp <;> omega) _)⟩
  . rcases nT 2 k e 0 with⟨rfl,rfl,_,hp⟩|⟨hk,hp⟩|⟨rfl,hk,hp⟩|⟨_,_,h0,_⟩
    . have HP:=Hd hp;clear hp;obtain rfl | rfl | rfl:op=8\/op=9\/op=10:=by omega
      all_goals
       clear Aa
       go_upto_region 21 with(fail)
       have l0:=fun d os=>cell_regrown HX.o.cells.1 d os;have l1:=fun d os=>cell_regrown HX.o.cells.2.1 d os;have l2:=fun d os=>cell_regrown HX.o.cells.2.2 d os;have m0:=fun d os=>cell_regrown HT.o.cells.1 d os;have m1:=fun d os=>cell_regrown HT.o.cells.2.1 d os;have m2:=fun d os=>cell_regrown HT.o.cells.2.2 d os;have cA:=fun d os=>Calls.regrown_of (HC.o 2 0 0 true (grow (redrawn wc d) os));refine iV (l1:=[_,_,_,_,_,_,_]) (l2:=[_,_]) (by kernel_rfl) (by kernel_rfl) (by kernel_rfl) (by kernel_rfl) (by kernel_rfl) ?_
       repeat (quiet_step (exact cA _ _))
       refine wpQuiet_nil ?_;intro _ Ae;obtain⟨⟨dq,Ac⟩,Ab⟩:=Ae;subst Ab;have Ad:=Hd (HR.o.regrown dq Ac);have Af:=Hd (HB.o.trans ((Zs wc dq Ac).mono HB.o.size));clear cA l0 l1 l2 m0 m1 m2 HX HR HB HT;generalize grow (redrawn wc dq) Ac=wq at *
       go_wp2_with (first | (refine wpList_store_row rfl _ _ _ rfl (w.heap.size+1+1) _ rfl rfl _ _ (Ad.o) bO rfl (by simp [Value.oneCell']) ?_))
       exact Zt (aL (p:=6) (u:=7) rfl _ _ (w.heap.size+1+1) 2 0 0 rfl (Ad.o.set _ _ _)) rfl ⟨gS (o:=some 2) (rfl),Xb Af.o (by omega) _⟩
    . have HP:=Hd hp;clear hp;obtain rfl | rfl | rfl:op=8\/op=9\/op=10:=by omega
      all_goals
       clear Aa
       go_upto_region 21 with(fail)
       have l0:=fun d os=>cell_regrown HX.o.cells.1 d os;have l1:=fun d os=>cell_regrown HX.o.cells.2.1 d os;have l2:=fun d os=>cell_regrown HX.o.cells.2.2 d os;have m0:=fun d os=>cell_regrown HT.o.cells.1 d os;have m1:=fun d os=>cell_regrown HT.o.cells.2.1 d os;have m2:=fun d os=>cell_regrown HT.o.cells.2.2 d os;have cA:=fun d os=>Calls.regrown_of (HC.o 2 0 0 false (grow (redrawn wc d) os));refine iV (l1:=[_,_,_,_,_,_,_]) (l2:=[_,_]) (by kernel_rfl) (by kernel_rfl) (by kernel_rfl) (by kernel_rfl) (by kernel_rfl) ?_
       repeat (quiet_step (exact cA _ _))
       refine wpQuiet_nil ?_;intro _ Ae;obtain⟨⟨dq,Ac⟩,Ab⟩:=Ae;subst Ab;have Ad:=Hd (HR.o.regrown dq Ac);have Af:=Hd (HB.o.trans ((Zs wc dq Ac).mono HB.o.size));clear cA l0 l1 l2 m0 m1 m2 HX HR HB HT;generalize grow (redrawn wc dq) Ac=wq at *
       go_wp2_with (first | (refine wpList_store_row rfl _ _ _ rfl (w.heap.size+1+1) _ rfl rfl _ _ (Ad.o) bO rfl (by simp [Value.oneCell']) ?_))
       exact Zt (aL (p:=6) (u:=7) rfl _ _ (w.heap.size+1+1) 0 0 0 rfl (Ad.o.set _ _ _)) rfl ⟨gS (o:=none) (by rw [HP.o];rfl),Xb Af.o (by omega) _⟩
    . have HP:=Hd hp;clear hp;obtain rfl | rfl | rfl:op=8\/op=9\/op=10:=by omega
      all_goals
       clear Aa
       go_upto_region 21 with(fail)
       have l0:=fun d os=>cell_regrown HX.o.cells.1 d os;have l1:=fun d os=>cell_regrown HX.o.cells.2.1 d os;have l2:=fun d os=>cell_regrown HX.o.cells.2.2 d os;have m0:=fun d os=>cell_regrown HT.o.cells.1 d os;have m1:=fun d os=>cell_regrown HT.o.cells.2.1 d os;have m2:=fun d os=>cell_regrown HT.o.cells.2.2 d os;have cA:=fun d os=>Calls.regrown_of (HC.o 2 0 0 false (grow (redrawn wc d) os));refine iV (l1:=[_,_,_,_,_,_,_]) (l2:=[_,_]) (by kernel_rfl) (by kernel_rfl) (by kernel_rfl) (by kernel_rfl) (by kernel_rfl) ?_
       repeat (quiet_step (exact cA _ _))
       refine wpQuiet_nil ?_;intro _ Ae;obtain⟨⟨dq,Ac⟩,Ab⟩:=Ae;subst Ab;have Ad:=Hd (HR.o.regrown dq Ac);have Af:=Hd (HB.o.trans ((Zs wc dq Ac).mono HB.o.size));clear cA l0 l1 l2 m0 m1 m2 HX HR HB HT;generalize grow (redrawn wc dq) Ac=wq at *
       go_wp2_with (first | (refine wpList_store_row rfl _ _ _ rfl (w.heap.size+1+1) _ rfl rfl _ _ (Ad.o) bO rfl (by simp [Value.oneCell']) ?_))
       exact Zt (aL (p:=6) (u:=7) rfl _ _ (w.heap.size+1+1) 0 0 0 rfl (Ad.o.set _ _ _)) rfl ⟨gS (o:=none) (by rw [HP.o];rfl),Xb Af.o (by omega) _⟩
    . cases h0
  . rcases Aa with rfl | rfl
    all_goals
     go_upto_region 22 with(fail)
     go_wp2_with (first | (refine wpList_load_row rfl _ _ rfl (g) rfl _ _ _ _ (HT.o) Tryz.underlying38 rfl bO ?_) | (refine wpList_store_row rfl _ _ _ rfl (w.heap.size+1+1) _ rfl rfl _ _ (HR.o) bO rfl (by simp [Value.oneCell']) ?_))
     exact Zt (aL (p:=6) (u:=7) rfl _ _ (w.heap.size+1+1) 2 0 0 rfl ((HR.o).set _ _ _)) rfl ⟨gS (o:=some 2) (rfl),by repeat' (first | exact HB.o | refine Xb ?_ (by omega) _ | refine Below.alloc ?_ (by have:=HB.o.size;simp <;> omega) _)⟩
  . cases hI:aV 1 k e 0
    . have HI:=Hd hI;clear hI;obtain rfl | rfl | rfl | rfl:op=13\/op=14\/op=15\/op=16:=by omega
      all_goals
       clear Aa
       go_upto_region 20 with(fail)
       go_wp2_with (first | (go_at_call 163;refine(mS _ _ _ _).mono ?_;unfold aK aS;rintro r w2 ⟨rfl,rfl⟩) | (refine wpList_load_row rfl _ _ rfl (g) rfl _ _ _ _ (HT.o) Tryz.underlying38 rfl bO ?_) | (refine wpList_store_row rfl _ _ _ rfl (w.heap.size+1+1) _ rfl rfl _ _ ((HR.o.alloc _).alloc _) bO rfl (by simp [Value.oneCell']) ?_))
       exact Zt (aL (p:=6) (u:=7) rfl _ _ (w.heap.size+1+1) 0 0 0 rfl (((HR.o.alloc _).alloc _).set _ _ _)) rfl ⟨gS (o:=none) (by rw [HI.o];rfl),by repeat' (first | exact HB.o | refine Xb ?_ (by omega) _ | refine Below.alloc ?_ (by have:=HB.o.size;simp <;> omega) _)⟩
    . obtain⟨rfl,rfl⟩:k=1/\e=0:=by simpa [aV] using hI
      clear hI;obtain rfl | rfl | rfl | rfl:op=13\/op=14\/op=15\/op=16:=by omega
      all_goals
       clear Aa
       go_upto_region 20 with(fail)
       go_wp2_with (first | (go_at_call 163;refine(rH _ _ _ _).mono ?_;unfold aK aS;rintro r w2 ⟨rfl,rfl⟩) | (refine wpList_load_row rfl _ _ rfl (g) rfl _ _ _ _ (HT.o) Tryz.underlying38 rfl bO ?_) | (refine wpList_store_row rfl _ _ _ rfl (w.heap.size+1+1) _ rfl rfl _ _ ((HR.o.alloc _).alloc _) bO rfl (by simp [Value.oneCell']) ?_))
       exact Zt (aL (p:=6) (u:=7) rfl _ _ (w.heap.size+1+1) 2 0 0 rfl (((HR.o.alloc _).alloc _).set _ _ _)) rfl ⟨gS (o:=some 2) (rfl),by repeat' (first | exact HB.o | refine Xb ?_ (by omega) _ | refine Below.alloc ?_ (by have:=HB.o.size;simp <;> omega) _)⟩
  . have HN:=Hd (fun I B S=>aDi (I:=I) (B:=B) (S:=S) Aa);have b3:=jM Aa 3 (by omega);have b4:=jM Aa 4 (by omega);have b5:=jM Aa 5 (by omega);have b6:=jM Aa 6 (by omega);have b7:=jM Aa 7 (by omega);have b8:=jM Aa 8 (by omega);have b9:=jM Aa 9 (by omega);have Ak:=jM Aa 10 (by omega);have Am:=jM Aa 11 (by omega);have Ai:=jM Aa 12 (by omega);have Aj:=jM Aa 13 (by omega);have Ah:=jM Aa 14 (by omega);have An:=jM Aa 15 (by omega);have Al:=jM Aa 16 (by omega);clear Aa
    go_upto_region 23 with(fail)
    go_wp2_with (first | (refine wpList_store_row rfl _ _ _ rfl (w.heap.size+1+1) _ rfl rfl _ _ (HR.o) bO rfl (by simp [Value.oneCell']) ?_))
    exact Zt (aL (p:=6) (u:=7) rfl _ _ (w.heap.size+1+1) 0 0 0 rfl ((HR.o).set _ _ _)) rfl ⟨gS (o:=none) (HN.o _ _ _),by repeat' (first | exact HB.o | refine Xb ?_ (by omega) _ | refine Below.alloc ?_ (by have:=HB.o.size;simp <;> omega) _)⟩
end
section
open Go.RowKit Go.Sort
theorem aP8(op k e l k' e' l':Int) (w:World):
 Calls Tryz.prog 117 #[.int .i64 op,aK k e l,aK k' e' l'] w fun r w' =>
  r=.returned (.tuple #[kV (iF op (aV 1 k e l && aV 1 k' e' l') (aV 2 k e l && aV 2 k' e' l') (fA k e l k' e' l')),.bool (iF op (aV 1 k e l && aV 1 k' e' l') (aV 2 k e l && aV 2 k' e' l') (fA k e l k' e' l')).isSome])/\Below w.heap.size w w':=by
 cases hS:fA k e l k' e' l' with
 | false=>
  have:=aGv op k e l k' e' l' hS w;rwa [hS] at this
 | true=>
  rcases wA k e l k' e' l' with⟨rfl,rfl,rfl,rfl,_⟩|⟨_,h⟩|⟨_,_,h⟩|⟨_,_,_,h⟩|⟨_,_,_,_,h⟩
  . have:=aHb op k e w
    simpa using this
  all_goals (rw [hS] at h;cases h)
end
end Go.Proofs.YtegjgiofmpolnaaGreat
