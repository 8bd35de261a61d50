/- Parts of the proof: Base, IdM, ExM, Str, ExR, ExA, ExP, App, Stp, NmT, ArM. Conditions: each theorem's own. -/
import Derived.WalkKit
import Derived.ProofKit
import Derived.OpenShut
import Derived.Below
import Derived.Lib.Hide
import Derived.IntWalk
import Derived.Deep.QuietTactic
import Derived.BigQuiet
import Derived.Deep.Draws
import Derived.Laws.BitsAllLaws
import Derived.Laws.BitsLemmas
import Derived.Laws.Bits64
import Derived.Deep.OwnRows
import Derived.RegionTactic
import Derived.ChangeAlike
import Derived.OwnWalk
import Derived.Outline
import Derived.WalkSpells
import Derived.Lib.Bytealg
import Derived.Test.YtegjgiofmpolnaaGreatRows
import Derived.Deep.MidRow
import Derived.Deep.DeepCutAuto
import Derived.Lib.QuietBelow
import Derived.Maps.AppendAt
import Derived.Laws.OwnMore
import Derived.Laws.AppendOwnNone
import Derived.Lib.Strings
import Derived.Lib.Walk
import Derived.Deep.RegionHeld3
namespace Go.Proofs.YtegjgiofmpolnaaGreat
set_option linter.unusedVariables false
set_option linter.unusedSimpArgs false
set_option maxRecDepth 100000
set_option maxHeartbeats 40000000
theorem _root_.Go.RowKit.Hid.o{p:Prop}(h:Go.RowKit.Hid p):p:=h
section
open Go.RowKit Go.Sort
theorem Yg:type_of% @Below.refl:=@Below.refl
theorem Yh:type_of% @Nat.le_refl:=@Nat.le_refl
theorem Yi:type_of% @World.block_lt_of_cell?:=@World.block_lt_of_cell?
theorem Yk:type_of% @List.getElem?_eq_getElem:=@List.getElem?_eq_getElem
theorem Yl:type_of% @Array.getElem?_eq_some_iff:=@Array.getElem?_eq_some_iff
theorem Yn:type_of% @List.length_append:=@List.length_append
theorem Yo:type_of% @List.length_cons:=@List.length_cons
theorem Yq:type_of% @Nat.zero_le:=@Nat.zero_le
theorem Yt:type_of% @Option.getD_some:=@Option.getD_some
theorem Yu:type_of% @List.mem_cons:=@List.mem_cons
theorem Yv:type_of% @List.cons_append:=@List.cons_append
theorem Yy:type_of% @Bool.false_eq_true:=@Bool.false_eq_true
theorem Yz:type_of% @List.getElem?_cons_zero:=@List.getElem?_cons_zero
theorem Zb:type_of% @List.getElem?_cons_succ:=@List.getElem?_cons_succ
theorem Zg:type_of% @List.getElem_mem:=@List.getElem_mem
theorem Zn:type_of% @List.mem_append:=@List.mem_append
theorem Zo:type_of% @World.cell?_alloc_new:=@World.cell?_alloc_new
theorem Zq:type_of% @List.eq_nil_of_length_eq_zero:=@List.eq_nil_of_length_eq_zero
theorem Zx:type_of% @decide_eq_true:=@decide_eq_true
theorem Zy:type_of% @decide_eq_false:=@decide_eq_false
theorem Xg:type_of% @List.map_cons:=@List.map_cons
end
theorem Hd {p : Prop} (h : p) : Go.RowKit.Hid p := Lib.hid h
theorem Sx {P : Nat -> Prop} (h : ∀ j, P j) : P 0 /\ P 1 /\ P 2 /\ P 3 /\ P 4 /\ P 5 := ⟨h 0, h 1, h 2, h 3, h 4, h 5⟩
theorem Ya {α : Type} {l : List α} {i : Nat} : l.toArray[i]? = l[i]? := List.getElem?_toArray
theorem Yb {α : Type} {a : α} {l : List α} : (a :: l)[0]? = some a := Yz
theorem Yc {α : Type} {a : α} {l : List α} {i : Nat} : (a :: l)[i + 1]? = l[i]? := Zb
theorem Yd {α : Type} {l : List α} {i : Nat} {a : α} : l.toArray.setIfInBounds i a = (l.set i a).toArray := by simp
theorem Ye {α : Type} {a b : α} {l : List α} : (a :: l).set 0 b = b :: l := rfl
theorem Yf {α : Type} {a b : α} {l : List α} {i : Nat} : (a :: l).set (i + 1) b = a :: l.set i b := rfl
section
open Go.RowKit
section
variable {k:IntKind}{w w':World}{A:Option Addr}{n c:Nat}{l:List Int}
end
theorem aY{B:Nat}{a w:World}(h:Below B a w) (n:Nat):Below B a (w.drewN n):=⟨h.os,h.tape,h.output,h.size,h.block⟩
theorem cF{k:IntKind}{a b:Int}(h:a=b):Ending.returned (.int k a)=.returned (.int k b):=by rw [h]
theorem aF{a b:Bool}(h:a=b):Ending.returned (.bool a)=.returned (.bool b):=by rw [h]
end
section
def fU(n:Int):Bool:=decide (97<=n/\n<=122)
def iP(n:Int):Bool:=decide (65<=n/\n<=90)
def fM(n:Int):Bool:=decide (48<=n/\n<=57)
def dD(n:Int):Bool:=fU n || iP n || fM n || decide (n=95)
def eT(first:Int->Bool) (l:List UInt8):Bool:=
 decide (1<=l.length/\l.length<=12) && (match l with | []=>false | c::_=>first (c.toNat:Int)) && l.all fun c=>dD (c.toNat:Int)
def mY:List (List UInt8):=[[110,111,100,101],[114,101,116,117,114,110,115],[118,97,114],[108,101,116],[116,101,108],[101,110,117,109],[105,102],[116,104,101,110],[101,108,115,101],[102,98,121],[112,114,101],[119,104,101,110],[109,101,114,103,101],[101,118,101,114,121],[110,111,116],[97,110,100],[111,114],[120,111,114],[109,111,100],[116,114,117,101],[102,97,108,115,101],[105,110,116],[98,111,111,108],[119,105,116,104]]
def mF(l:List UInt8):Bool:=decide (l∈mY)
def aX(l:List UInt8):Bool:=eT fU l && !mF l
def dY(l:List UInt8):Bool:=eT iP l
def dB(c:UInt8):List UInt8->List (List UInt8)
 | []=>[[]]
 | b::l=>if b=c then []::dB c l else match dB c l with | []=>[[b]] | p::ps=>(b::p)::ps
def gP(l:List UInt8):Bool:=
 decide (1<=l.length/\l.length<=3) && (match l with | []=>false | c::_=>!decide (c=48)) && l.all fun c=>fM (c.toNat:Int)
def zA:List (List UInt8)->Bool
 | [a]=>aX a
 | [a,n]=>aX a && gP n
 | _=>false
def eU(l:List UInt8):Bool:=zA (dB 46 l)
def eI(l:List UInt8):Bool:=(dB 47 l).all eU
theorem uD(c:UInt8) (l:List UInt8):dB c l≠[]:=by
 cases l with
 | nil=>simp [dB]
 | cons b l=>
  unfold dB
  split
  . simp
  . split <;> simp
theorem pY{c:UInt8}:∀ {l:List UInt8},c∉l->dB c l=[l]
 | [],_=>rfl
 | b::l,h=>by
  have h1:b≠c:=fun e=>h (by simp [e]);have h2:=pY (l:=l) (fun m=>h (List.mem_cons_of_mem _ m))
  simp [dB,h1,h2]
theorem tN{c:UInt8}:∀ (p r:List UInt8),dB c (p++c::r)=dB c p++dB c r
 | [],r=>by simp [dB]
 | b::p,r=>by
  have ih:=tN (c:=c) p r
  by_cases hb:b=c
  . simp [dB,hb,ih]
  . have hn:=uD c p
    cases hp:dB c p with
    | nil=>exact absurd hp hn
    | cons q qs=>simp [dB,hb,ih,hp]
theorem aD3{c:UInt8}{p r:List UInt8}(h:c∉p):dB c (p++c::r)=p::dB c r:=by
 rw [tN,pY h];rfl
theorem aLs{n:Int}(h:dD n=true):48<=n/\n<=122:=by
 simp [dD,fU,iP,fM] at h
 omega
theorem aJa{first:Int->Bool}{l:List UInt8}(h:eT first l=true):∀ c∈l,dD (c.toNat:Int)=true:=by
 simp [eT] at h
 exact h.2
theorem aLt(s t:List UInt8):eI (s++47::t)=(eI s && eI t):=by
 unfold eI;rw [tN,List.all_append]
theorem aHf{l:List UInt8}(h:(46:UInt8)∈l):gP l=false:=by
 cases hn:gP l with
 | false=>rfl
 | true=>
  simp [gP] at hn
  have:=hn.2 46 h
  revert this
  decide
theorem aAq{l:List UInt8}(h:(46:UInt8)∉l):eU l=aX l:=by
 unfold eU;rw [pY h];rfl
theorem aCz{p r:List UInt8}(h:(46:UInt8)∉p):eU (p++46::r)=(aX p && gP r):=by
 unfold eU;rw [aD3 h]
 by_cases hr:(46:UInt8)∈r
 . rw [aHf hr];obtain⟨a,b,rfl⟩:=List.append_of_mem hr;rw [tN];have h1:=uD 46 a;have h2:=uD 46 b
   cases ha:dB 46 a with
   | nil=>exact absurd ha h1
   | cons x xs=>
    cases hb:dB 46 b with
    | nil=>exact absurd hb h2
    | cons y ys=>
     cases xs with
     | nil=>simp [zA]
     | cons z zs=>simp [zA]
 . rw [pY hr];rfl
theorem aHg{l:List UInt8}{c:UInt8}(h:Lib.indexByte l c<0):c∉l:=by
 induction l with
 | nil=>simp
 | cons b l ih=>
  unfold Lib.indexByte at h;have hg:=Lib.indexByte_ge l c
  split at h
  . omega
  . split at h
    . rename_i h1 h2
      have:=ih (by simp at h2;omega)
      simp at h1
      simp [this]
      exact fun e=>h1 e.symm
    . rename_i h1 h2
      simp at h2
      omega
theorem aHh{l:List UInt8}{c:UInt8}(h:0<=Lib.indexByte l c):
 ∃ k:Nat,Lib.indexByte l c=k/\k<l.length/\c∉l.take k/\l=l.take k++c::l.drop (k+1):=by
 induction l with
 | nil=>simp [Lib.indexByte] at h
 | cons b l ih=>
  unfold Lib.indexByte at h ⊢;have hg:=Lib.indexByte_ge l c
  by_cases hb:b=c
  . subst hb;exact⟨0,by simp,by simp,by simp,by simp⟩
  . have Ab:(b==c)=false:=by simpa using hb
    simp only [Ab,Yy,if_false] at h ⊢
    by_cases h1:Lib.indexByte l c=-1
    . simp [h1] at h
    . have Aa:(Lib.indexByte l c==-1)=false:=by simpa using h1
      simp only [Aa,Yy,if_false] at h ⊢;obtain⟨k,e1,e2,e3,e4⟩:=ih (by omega);refine⟨k+1,by omega,by simp;omega,?_,?_⟩
      . simp
        exact⟨fun e=>hb e.symm,e3⟩
      . simp
        exact e4
theorem wJ{l:List UInt8}(h:(47:UInt8)∉l):eI l=eU l:=by
 unfold eI;rw [pY h]
 simp
theorem aD4{p r:List UInt8}(h:(47:UInt8)∉p):eI (p++47::r)=(eU p && eI r):=by
 rw [aLt,wJ h]
def sF(ls:List (List UInt8)):Bool:=decide ls.Nodup
end
section
inductive Ex where
 | mk (k n:Int) (s:ByteArray) (op:Int) (arms:List ByteArray) (subs:List Ex)
def Ex.k:Ex->Int | .mk k _ _ _ _ _=>k
def Ex.n:Ex->Int | .mk _ n _ _ _ _=>n
def Ex.s:Ex->ByteArray | .mk _ _ s _ _ _=>s
def Ex.op:Ex->Int | .mk _ _ _ op _ _=>op
def Ex.arms:Ex->List ByteArray | .mk _ _ _ _ a _=>a
def Ex.subs:Ex->List Ex | .mk _ _ _ _ _ l=>l
instance :Inhabited Ex:=⟨.mk 0 0 ByteArray.empty 0 [] []⟩
mutual
def bG:Ex->Nat
 | .mk _ _ _ _ _ l=>1+dG l
def dG:List Ex->Nat
 | []=>0
 | x::l=>bG x+dG l
end
mutual
def gF:Ex->Nat
 | .mk _ _ _ _ _ l=>fT l+1
def fT:List Ex->Nat
 | []=>0
 | x::l=>max (gF x) (fT l)
end
mutual
def bI:Ex->List Ex
 | .mk k n s op a l=>.mk k n s op a l::dR l
def dR:List Ex->List Ex
 | []=>[]
 | x::l=>bI x++dR l
end
theorem kG(x:Ex):bG x=1+dG x.subs:=by cases x;simp only [bG,Ex.subs]
theorem rI(x:Ex):gF x=fT x.subs+1:=by cases x;simp only [gF,Ex.subs]
theorem pZ(x:Ex):bI x=x::dR x.subs:=by cases x;simp only [bI,Ex.subs]
theorem aAr(a b:List Ex):dG (a++b)=dG a+dG b:=by
 induction a with
 | nil=>simp [dG]
 | cons x a ih=>simp [dG,ih];omega
theorem zX(a b:List Ex):dR (a++b)=dR a++dR b:=by
 induction a with
 | nil=>simp [dR]
 | cons x a ih=>simp [dR,ih]
theorem aGx(a b:List Ex):fT (a++b)=max (fT a) (fT b):=by
 induction a with
 | nil=>simp [fT]
 | cons x a ih=>simp only [Yv,fT,ih];omega
theorem qC(x:Ex):0<bG x:=by rw [kG];omega
theorem aBu{l:List Ex}{x:Ex}(h:x∈l):bG x<=dG l:=by
 induction l with
 | nil=>cases h
 | cons y l ih=>
  simp only [dG];rcases Yu.1 h with rfl | h
  . omega
  . have:=ih h;omega
theorem qD{x y:Ex}(h:y∈x.subs):bG y<bG x:=by
 have:=aBu h;rw [kG x];omega
theorem sY(l:List Ex) (k:Nat):dG (l.take k)<=dG l:=by
 have:=aAr (l.take k) (l.drop k);rw [List.take_append_drop] at this;omega
theorem tG(l:List Ex):l.length<=dG l:=by
 induction l with
 | nil=>simp [dG]
 | cons x l ih=>have:=qC x;simp [dG];omega
mutual
theorem pV:∀ x:Ex,(bI x).length=bG x
 | .mk k n s op a l=>by simp only [bI,bG,Yo,vP l];omega
theorem vP:∀ l:List Ex,(dR l).length=dG l
 | []=>rfl
 | x::l=>by simp only [dR,dG,Yn,pV x,vP l]
end
mutual
theorem pW:∀ x:Ex,gF x<=bG x
 | .mk k n s op a l=>by simp only [gF,bG];have:=zY l;omega
theorem zY:∀ l:List Ex,fT l<=dG l
 | []=>Yh _
 | x::l=>by simp only [fT,dG];have:=pW x;have:=zY l;omega
end
def aU(x:Ex) (i:Nat):Ex:=x.subs[i]?.getD default
theorem qE{x:Ex}{i:Nat}(h:i<x.subs.length):aU x i∈x.subs:=by
 unfold aU;rw [Yk h];exact Zg _
theorem wK{x:Ex}{i:Nat}(h:i<x.subs.length):x.subs.take (i+1)=x.subs.take i++[aU x i]:=by
 unfold aU;rw [List.take_succ_eq_append_getElem h,Yk h];rfl
theorem sZ{x:Ex}{i:Nat}(h:i<x.subs.length):dG (x.subs.take (i+1))=dG (x.subs.take i)+bG (aU x i):=by
 rw [wK h,aAr]
 simp [dG]
theorem zZ{x:Ex}{i:Nat}(h:i<x.subs.length):fT (x.subs.take (i+1))=max (fT (x.subs.take i)) (gF (aU x i)):=by
 rw [wK h,aGx]
 simp [fT]
theorem aAa{x:Ex}{i:Nat}(h:i<x.subs.length):dR (x.subs.take (i+1))=dR (x.subs.take i)++bI (aU x i):=by
 rw [wK h,zX]
 simp [dR]
theorem nV{P:Ex->Prop}(h:∀ x,(∀ i,i<x.subs.length->P (aU x i))->P x):∀ x,P x:=by
 have:∀ n x,bG x<=n->P x:=by
  intro n
  induction n with
  | zero=>intro x hx;have:=qC x;omega
  | succ n ih=>
   intro x hx;refine h x fun i hi=>ih _ ?_;have:=qD (qE hi);omega
 exact fun x=>this _ x (Yh _)
end
section
open Go.RowKit
def aN(w:World) (A:Option Addr) (n:Nat) (ss:List ByteArray):Prop:=
 ss.length=n/\n<=9223372036854775807 /\
 (0<n->∃ b Aa,A=some ⟨b,Aa,none⟩/\b<w.heap.size/\∀ i,i<n->w.cell? ⟨b,Aa+i,none⟩=some (.string (ss[i]?.getD ByteArray.empty)))
section
variable {w w':World}{A:Option Addr}{n:Nat}{ss:List ByteArray}
theorem aN.nil_(w:World):aN w none 0 []:=⟨rfl,by omega,by omega⟩
theorem aN.len(h:aN w A n ss):ss.length=n:=h.1
theorem aN.max(h:aN w A n ss):n<=9223372036854775807:=h.2.1
theorem aN.at_(h:aN w A n ss){i:Nat}(hi:i<n):
 ∃ b Aa,A=some ⟨b,Aa,none⟩/\b<w.heap.size/\∀ i,i<n->w.cell? ⟨b,Aa+i,none⟩=some (.string (ss[i]?.getD ByteArray.empty)):=
 h.2.2 (by omega)
theorem aN.keep(h:aN w A n ss) (hs:w.heap.size<=w'.heap.size) (hk:∀ p:Addr,p.block<w.heap.size->w'.cell? p=w.cell? p):aN w' A n ss:=
 ⟨h.1,h.2.1,fun hn=>by
  obtain⟨b,Aa,e,hb,hc⟩:=h.2.2 hn;exact⟨b,Aa,e,by omega,fun i hi=>(hk _ hb).trans (hc i hi)⟩⟩
theorem aN.below(h:aN w A n ss) (hb:Below w.heap.size w w'):aN w' A n ss:=h.keep hb.size fun _ hp=>hb.cell hp
theorem aN.drewN(h:aN w A n ss) (m:Nat):aN (w.drewN m) A n ss:=h
theorem aN.of_own{base:Nat}{e:TypeId}{v:Value}(h:w.ownsRow base e 1 v n (ss.map Value.string)) (hm:n<=9223372036854775807):
 ∃ A c,v=.slice A n c/\aN w A n ss/\(A=none->n=0):=by
 have hl:ss.length=n:=by have:=h.1;simpa using this
 rcases h.2 with⟨rfl,rfl⟩|⟨g,cap,cur,rfl,hg,hh,hnc,hcm,hcs,ht⟩
 . obtain rfl:ss=[]:=Zq hl;exact⟨none,0,rfl,aN.nil_ _,fun _=>rfl⟩
 . refine⟨_,cap,rfl,⟨hl,hm,fun hn=>⟨g,0,rfl,?_,fun i hi=>?_⟩⟩,fun h=>by cases h⟩
   . exact(Yl.1 hh).1
   . have h1:=h.cellAt i (by omega);rw [Nat.zero_add,h1]
     simp [Yk (show i<ss.length by omega)]
theorem aN.lit(w:World) (T:TypeId) (ss:List ByteArray) (n:Nat) (hn:ss.length=n) (hm:n<=9223372036854775807) (cs:Array Value) (Aa:cs=(ss.map Value.string).toArray):
 aN (w.alloc (.cells cs T)) (some ⟨w.heap.size,0,none⟩) n ss:=by
 subst Aa hn;refine⟨rfl,hm,fun _=>⟨_,_,rfl,by simp,fun i hi=>?_⟩⟩;rw [Nat.zero_add,Zo]
 simp [Yk hi]
end
theorem aD5{w:World}{x:Addr}{n:Nat}{ss:List ByteArray}(Ae:n<=ss.length) (hm:n<=9223372036854775807) (hc:∀ i,i<ss.length->w.cell? (x.add i)=some (.string (ss.getD i ByteArray.empty))):
 aN w (some x) n (ss.take n):=by
 refine⟨by simp;omega,hm,fun hn=>?_⟩;obtain⟨b,Ac,Ab⟩:=x;have h0:=hc 0 (by omega);have Aa:Ab=none:=by simpa [Addr.add] using World.cell?_spot h0
 subst Aa;have Ad:∀ i,(⟨b,Ac,none⟩:Addr).add i=⟨b,Ac+i,none⟩:=fun i=>by unfold Addr.add;split <;> simp_all
 refine⟨b,Ac,rfl,Yi w _ h0,fun i hi=>?_⟩;rw [<- Ad,hc i (by omega),List.getElem?_take_of_lt hi,List.getD_eq_getElem?_getD]
theorem lP{a b c:World}(h1:Below a.heap.size a b) (h2:Below b.heap.size b c):Below a.heap.size a c:=h1.trans (h2.mono h1.size)
end
section
open Go.RowKit
def gQ(x:Ex) (A:Option Addr) (ca:Nat) (B:Option Addr) (cb:Nat):List Value:=
 [.int .i64 x.k,.int .i64 x.n,.string x.s,.int .i64 x.op,.slice A x.arms.length ca,.slice B x.subs.length cb]
def aE(x:Ex) (A:Option Addr) (ca:Nat) (B:Option Addr) (cb:Nat):Array Value:=
 #[.int .i64 x.k,.int .i64 x.n,.string x.s,.int .i64 x.op,.slice A x.arms.length ca,.slice B x.subs.length cb]
mutual
def aJ(w:World):Ex->Option Addr->Option Addr->Prop
 | .mk _ _ _ _ arms Aa,A,B=>aN w A arms.length arms/\Aa.length<=9223372036854775807 /\
  (0<Aa.length->∃ b Ab,B=some ⟨b,Ab,none⟩/\b<w.heap.size/\jF w Aa b Ab)
def jF(w:World):List Ex->Nat->Nat->Prop
 | [],_,_=>True
 | x::l,b,Aa=>(∃ A ca B cb,w.rangeAt b Aa (gQ x A ca B cb)/\aJ w x A B)/\jF w l b (Aa+6)
end
def eA(w:World) (A:Option Addr) (n:Nat) (l:List Ex):Prop:=
 l.length=n/\n<=9223372036854775807/\(0<n->∃ b Aa,A=some ⟨b,Aa,none⟩/\b<w.heap.size/\jF w l b Aa)
section
variable {w w':World}{A B:Option Addr}{n:Nat}{x:Ex}{l:List Ex}
theorem aSs(x:Ex) (A:Option Addr) (ca:Nat) (B:Option Addr) (cb:Nat):(gQ x A ca B cb).toArray=aE x A ca B cb:=rfl
theorem oE:aJ w x A B↔aN w A x.arms.length x.arms/\eA w B x.subs.length x.subs:=by
 cases x
 simp only [aJ,eA,Ex.arms,Ex.subs,true_and]
theorem aJ.arms(h:aJ w x A B):aN w A x.arms.length x.arms:=(oE.1 h).1
theorem aJ.subs(h:aJ w x A B):eA w B x.subs.length x.subs:=(oE.1 h).2
theorem aD6:∀ (l:List Ex){b Aa:Nat},jF w l b Aa->∀ i,i<l.length->∃ A ca B cb,w.rangeAt b (Aa+i*6) (gQ (l[i]?.getD default) A ca B cb)/\aJ w (l[i]?.getD default) A B
 | [],_,_,_,_,hi=>absurd hi (by simp)
 | x::l,b,Aa,h,i,hi=>by
  simp only [jF] at h
  cases i with
  | zero=>simpa using h.1
  | succ i=>
   have:=aD6 l h.2 i (by simpa using hi);rw [show Aa+6+i*6=Aa+(i+1)*6 by omega] at this
   simpa using this
theorem xP:∀ (l:List Ex){b Aa:Nat},(∀ i,i<l.length->∃ A ca B cb,w.rangeAt b (Aa+i*6) (gQ (l[i]?.getD default) A ca B cb)/\aJ w (l[i]?.getD default) A B)->jF w l b Aa
 | [],_,_,_=>by simp only [jF]
 | x::l,b,Aa,h=>by
  simp only [jF];refine⟨by simpa using h 0 (by simp),xP l fun i hi=>?_⟩;have:=h (i+1) (by simpa using hi);rw [show Aa+(i+1)*6=Aa+6+i*6 by omega] at this
  simpa using this
theorem eA.len(h:eA w A n l):l.length=n:=h.1
theorem eA.max(h:eA w A n l):n<=9223372036854775807:=h.2.1
theorem eA.at_(h:eA w A n l){i:Nat}(hi:i<n):
 ∃ b Aa,A=some ⟨b,Aa,none⟩/\b<w.heap.size/\∀ i,i<n->∃ A' ca B' cb,w.rangeAt b (Aa+i*6) (gQ (l[i]?.getD default) A' ca B' cb)/\aJ w (l[i]?.getD default) A' B':=by
 obtain⟨b,Aa,e,hb,hr⟩:=h.2.2 (by omega);exact⟨b,Aa,e,hb,fun i hi=>aD6 l hr i (by rw [h.1];exact hi)⟩
theorem eA.nil_(w:World):eA w none 0 []:=⟨rfl,by omega,by omega⟩
theorem jH{cs:List Value}{b o:Nat}(h:w.rangeAt b o cs) (hb:b<w.heap.size) (hk:∀ p:Addr,p.block<w.heap.size->w'.cell? p=w.cell? p):w'.rangeAt b o cs:=fun j v hv=>(hk _ hb).trans (h j v hv)
mutual
theorem aC0(hs:w.heap.size<=w'.heap.size) (hk:∀ p:Addr,p.block<w.heap.size->w'.cell? p=w.cell? p):∀ (x:Ex) (A B:Option Addr),aJ w x A B->aJ w' x A B
 | .mk _ _ _ _ arms Aa,A,B,h=>by
  simp only [aJ] at h ⊢;refine⟨h.1.keep hs hk,h.2.1,fun hn=>?_⟩;obtain⟨b,Ab,e,hb,hr⟩:=h.2.2 hn;exact⟨b,Ab,e,by omega,wL hs hk Aa b Ab hb hr⟩
theorem wL(hs:w.heap.size<=w'.heap.size) (hk:∀ p:Addr,p.block<w.heap.size->w'.cell? p=w.cell? p):∀ (l:List Ex) (b Aa:Nat),b<w.heap.size->jF w l b Aa->jF w' l b Aa
 | [],_,_,_,_=>by simp only [jF]
 | x::l,b,Aa,hb,h=>by
  simp only [jF] at h ⊢;obtain⟨⟨A,ca,B,cb,h1,h2⟩,h3⟩:=h;exact⟨⟨A,ca,B,cb,jH h1 hb hk,aC0 hs hk x A B h2⟩,wL hs hk l b (Aa+6) hb h3⟩
end
theorem aJ.keep(h:aJ w x A B) (hs:w.heap.size<=w'.heap.size) (hk:∀ p:Addr,p.block<w.heap.size->w'.cell? p=w.cell? p):aJ w' x A B:=aC0 hs hk x A B h
theorem aJ.below(h:aJ w x A B) (hb:Below w.heap.size w w'):aJ w' x A B:=h.keep hb.size fun _ hp=>hb.cell hp
theorem aJ.alloc(h:aJ w x A B) (o:Obj):aJ (w.alloc o) x A B:=h.below ((Yg _ _).alloc (Yh _) o)
theorem eA.keep(h:eA w A n l) (hs:w.heap.size<=w'.heap.size) (hk:∀ p:Addr,p.block<w.heap.size->w'.cell? p=w.cell? p):eA w' A n l:=
 ⟨h.1,h.2.1,fun hn=>by
  obtain⟨b,Aa,e,hb,hr⟩:=h.2.2 hn;exact⟨b,Aa,e,by omega,wL hs hk l b Aa hb hr⟩⟩
theorem eA.below(h:eA w A n l) (hb:Below w.heap.size w w'):eA w' A n l:=h.keep hb.size fun _ hp=>hb.cell hp
theorem aJ.sub(h:aJ w x A B){i:Nat}(hi:i<x.subs.length):
 ∃ b Aa,B=some ⟨b,Aa,none⟩/\b<w.heap.size/\∀ i,i<x.subs.length->∃ A' ca B' cb,w.rangeAt b (Aa+i*6) (gQ (aU x i) A' ca B' cb)/\aJ w (aU x i) A' B':=h.subs.at_ hi
end
theorem eG{w:World}{b o:Nat}{x:Ex}{A:Option Addr}{ca:Nat}{B:Option Addr}{cb:Nat}(h:w.rangeAt b o (gQ x A ca B cb)):
 w.cell? ⟨b,o,none⟩=some (.int .i64 x.k)/\w.cell? ⟨b,o+1,none⟩=some (.int .i64 x.n)/\w.cell? ⟨b,o+2,none⟩=some (.string x.s)/\w.cell? ⟨b,o+3,none⟩=some (.int .i64 x.op) /\
  w.cell? ⟨b,o+4,none⟩=some (.slice A x.arms.length ca)/\w.cell? ⟨b,o+5,none⟩=some (.slice B x.subs.length cb):=
 ⟨h 0 _ rfl,h 1 _ rfl,h 2 _ rfl,h 3 _ rfl,h 4 _ rfl,h 5 _ rfl⟩
theorem aLu:Tryz.prog.cellsOf 35=6:=by kernel_rfl
end
section
open Go.RowKit Go.Sort
theorem eC(w:World) (x:Ex) (A:Option Addr) (ca:Nat) (B:Option Addr) (cb:Nat) (w1:World) (h:w.alloc (.cells (aE x A ca B cb) 35)=w1) (hr:aJ w x A B):
 Below w.heap.size w w1/\w.heap.size<w1.heap.size/\aJ w1 x A B/\∀ w',Below w1.heap.size w1 w'->∀ j,w'.cell? ⟨w.heap.size,j,none⟩=(aE x A ca B cb)[j]?:=by
 subst h;refine⟨(Yg _ _).alloc (Yh _) _,by simp,hr.alloc _,fun w' hb j=>?_⟩;rw [hb.cell (p:=⟨w.heap.size,j,none⟩) (by simp),Zo]
theorem aOq:∀ (x:Ex) (A:Option Addr) (ca:Nat) (B:Option Addr) (cb:Nat) (w:World),aJ w x A B->bG x<=1000000 ->
 Calls Tryz.prog 34 #[.agg (aE x A ca B cb)] w fun e w'=>e=.returned (.int .i64 (bG x:Nat))/\Below w.heap.size w w':=by
 refine nV fun x ih A ca B cb w hr hs=>?_;have Ah:=Hd ih;have Aw:=kG x;have Bc:=Hd Aw;have Bh:=hr.subs.max;have HF:=Hd fun w1 h=>eC w x A ca B cb w1 h hr;have Au:=Hd fun i (hi:i<x.subs.length)=>sZ hi;have Ag:=Hd fun i=>sY x.subs i;have Ae:=Hd fun i (hi:i<x.subs.length)=>qD (qE hi);have Ba:=Hd (List.take_length (l:=x.subs));clear ih hr;unfold aE at HF Ah ⊢;generalize Af:x.subs.length=Ac at *
 go_enter Tryz.func34,Tryz.ntmps34
 go_upto_region 1 with(fail)
 generalize Aj:w.alloc _=w1;obtain⟨Ai,hg,Am,Aa⟩:=HF.o w1 Aj;have HC:=Hd Aa;have Bb:=Hd Ai;have Aq:=Hd Am;clear Aa Ai Am Aj HF
 go_wp2_with fail
 go_loopw [3,4] (fun s i wr=>∃ k:Nat,k<=Ac/\i=.int .i64 k/\s=.int .i64 ((1+dG (x.subs.take k):Nat):Int)/\Below w1.heap.size w1 wr) (fun _ i _=>Ac-(intOf i).toNat)
 case atStart=>exact⟨0,Yq _,rfl,by simp [dG],Yg _ _⟩
 case round=>
  obtain⟨k,hk,rfl,rfl,Ab⟩:=hrel;have Ad:=Hd Ab;have Be:=HC.o wr Ab 5;have Bf:=Ag.o k
  by_cases Bg:k<Ac
  . obtain⟨b,Bd,rfl,hb,An⟩:=(Aq.o.below Ab).sub (i:=k) (by omega);obtain⟨A',Az,B',Av,Ak,Al⟩:=An k (by omega);obtain⟨c0,c1,c2,c3,c4,c5⟩:=eG Ak;have Ay:=Hd Al;have As:=Au.o k (by omega);have Ar:=Ag.o (k+1);clear An Ab Ak Al;have Bi:=Ae.o k (by omega)
    go_wp2_with fail
    refine(Ah.o k (by omega) A' Az B' Av _ Ay.o (by omega)).mono ?_;rintro r w2 ⟨rfl,Ap⟩;have Ax:=Hd (Ad.o.trans (Ap.mono Ad.o.size))
    go_wp2_with fail
    go_roundw
    case rel=>refine⟨k+1,by omega,by go_num,?_,Ax.o⟩;rw [As];go_num
    case measure=>simp [intOf];omega
  . have Ao:k=Ac:=by omega
    subst Ao;have HE:=Hd (Af ▸ Ba.o:x.subs.take k=x.subs)
    go_wp2_with fail
    go_ret
    refine⟨?_,Bb.o.trans (Ad.o.mono (Nat.le_of_lt hg))⟩;rw [HE.o,<- Bc.o];rfl
theorem aLv:∀ (x:Ex) (A:Option Addr) (ca:Nat) (B:Option Addr) (cb:Nat) (w:World),aJ w x A B->bG x<=1000000 ->
 Calls Tryz.prog 35 #[.agg (aE x A ca B cb)] w fun e w'=>e=.returned (.int .i64 (gF x:Nat))/\Below w.heap.size w w':=by
 refine nV fun x ih A ca B cb w hr hs=>?_;have Ai:=Hd ih;have Az:=Hd (rI x);have Bb:=pW x;have Bf:=rI x;have Bg:=hr.subs.max;have HF:=Hd fun w1 h=>eC w x A ca B cb w1 h hr;have As:=Hd fun i (hi:i<x.subs.length)=>zZ hi;have Ae:=Hd fun i (hi:i<x.subs.length)=>(qD (qE hi));have Bd:=Hd fun i=>pW (aU x i);have Ay:=Hd (List.take_length (l:=x.subs));clear ih hr;unfold aE at HF Ai ⊢;generalize Af:x.subs.length=Ac at *
 go_enter Tryz.func35,Tryz.ntmps35
 go_upto_region 1 with(fail)
 generalize Ak:w.alloc _=w1;obtain⟨Aj,hg,An,Aa⟩:=HF.o w1 Ak;have HC:=Hd Aa;have Ap:=Hd Aj;have Ar:=Hd An;clear Aa Aj An Ak HF
 go_wp2_with fail
 go_loopw [3,4] (fun s i wr=>∃ k:Nat,k<=Ac/\i=.int .i64 k/\s=.int .i64 ((fT (x.subs.take k):Nat):Int)/\Below w1.heap.size w1 wr) (fun _ i _=>Ac-(intOf i).toNat)
 case atStart=>exact⟨0,Yq _,rfl,by simp [fT],Yg _ _⟩
 case round=>
  obtain⟨k,hk,rfl,rfl,Ab⟩:=hrel;have Ad:=Hd Ab;have Bc:=HC.o wr Ab 5
  by_cases Be:k<Ac
  . obtain⟨b,Ba,rfl,hb,Ao⟩:=(Ar.o.below Ab).sub (i:=k) (by omega);obtain⟨A',Ax,B',Au,Al,Am⟩:=Ao k (by omega);obtain⟨c0,c1,c2,c3,c4,c5⟩:=eG Al;have Aw:=Hd Am;have Ag:=Hd (As.o k (by omega));clear Ao Ab Al Am;have Bh:=Ae.o k (by omega)
    go_wp2_with fail
    refine(Ai.o k (by omega) A' Ax B' Au _ Aw.o (by omega)).mono ?_;rintro r w2 ⟨rfl,Ah⟩;have Av:=Hd (Ad.o.trans (Ah.mono Ad.o.size));clear Ah
    go_wp2_with fail
    go_roundw
    case rel=>
     refine⟨k+1,by omega,by go_num,?_,Av.o⟩;rw [Ag.o]
     first | rfl | (congr 1;omega) | (simp;done) | skip
    case measure=>simp [intOf];omega
  . have Aq:k=Ac:=by omega
    subst Aq;have HE:=Hd (Af ▸ Ay.o:x.subs.take k=x.subs);rw [HE.o];generalize fT x.subs=d at *
    go_wp2_with fail
    go_ret
    refine⟨?_,Ap.o.trans (Ad.o.mono Ap.o.size)⟩;rw [Az.o];rfl
theorem aLw:∀ (x:Ex) (A:Option Addr) (ca:Nat) (B:Option Addr) (cb:Nat) (w:World) ,aJ w x A B->∀ left:Nat,left<=1000000 ->
 Calls Tryz.prog 32 #[.agg (aE x A ca B cb),.int .i64 left] w fun e w'=>e=.returned (.int .i64 (left-bG x:Nat))/\Below w.heap.size w w':=by
 refine nV fun x ih A ca B cb w hr left hs=>?_;have Ar:=Hd fun i hi A ca B cb w h l hl=>ih i hi A ca B cb w h l hl;have Ai:=kG x;have Bg:=Hd Ai;have Bi:=hr.subs.max;have HF:=Hd fun w1 h=>eC w x A ca B cb w1 h hr;have Ay:=Hd fun i (hi:i<x.subs.length)=>sZ hi;have Au:=Hd fun i=>sY x.subs i;have Bd:=Hd (List.take_length (l:=x.subs));clear ih hr;unfold aE at HF Ar ⊢;generalize Ak:x.subs.length=Ag at *
 by_cases h0:left=0
 . subst h0
   go_enter Tryz.func32,Tryz.ntmps32
   go_upto_region 1 with(fail)
   generalize Ad:w.alloc _=w1;obtain⟨Ac,hg,Ah,Aa⟩:=HF.o w1 Ad;have Ab:=Hd Ac;clear Aa Ac Ah Ad HF
   go_wp2_with fail
   go_ret
   refine⟨?_,Ab.o⟩;rw [Nat.zero_sub];rfl
 . obtain⟨l1,rfl⟩:∃ l1,left=l1+1:=⟨left-1,by omega⟩
   go_enter Tryz.func32,Tryz.ntmps32
   go_upto_region 1 with(fail)
   generalize Ad:w.alloc _=w1;obtain⟨Ac,hg,Ah,Aa⟩:=HF.o w1 Ad;have HC:=Hd Aa;have Ab:=Hd Ac;have Bb:=Hd Ah;clear Aa Ac Ah Ad HF
   go_wp2_with fail
   go_loopw [1,5] (fun s i wr=>∃ k:Nat,k<=Ag/\i=.int .i64 k/\s=.int .i64 ((l1-dG (x.subs.take k):Nat):Int)/\Below w1.heap.size w1 wr) (fun _ i _=>Ag-(intOf i).toNat)
   case atStart=>exact⟨0,Yq _,rfl,by simp [dG],Yg _ _⟩
   case round=>
    obtain⟨k,hk,rfl,rfl,Ae⟩:=hrel;have Af:=Hd Ae;have Bj:=HC.o wr Ae 5;have An:=Au.o k
    by_cases Be:k<Ag
    . by_cases hp:l1-dG (x.subs.take k)=0
      . rw [hp]
        go_wp2_with fail
        go_ret
        refine⟨?_,Ab.o.trans (Af.o.mono Ab.o.size)⟩;rw [show l1+1-bG x=0 by omega];rfl
      . obtain⟨b,Bh,rfl,hb,Ao⟩:=(Bb.o.below Ae).sub (i:=k) (by omega);obtain⟨A',Az,B',Aw,Aq,Al⟩:=Ao k (by omega);obtain⟨c0,c1,c2,c3,c4,c5⟩:=eG Aq;have Ba:=Hd Al;have Ap:=Ay.o k (by omega);have Aj:=Hd Ap;clear Ao Ae Aq Al;obtain⟨q,hq⟩:∃ q,l1-dG (x.subs.take k)=q:=⟨_,rfl⟩;rw [hq];have Bf:0<q:=by omega
        have Ax:q<=1000000:=by omega
        have HQ:=Hd hq;clear hq hp Ap An Ai
        go_wp2_with fail
        refine(Ar.o k (by omega) A' Az B' Aw _ Ba.o q Ax).mono ?_;rintro r w2 ⟨rfl,Am⟩;have Bc:=Hd (Af.o.trans (Am.mono Af.o.size));clear Am
        go_wp2_with fail
        go_roundw
        case rel=>
         refine⟨_,_,_,_,_,_,_,_,_,_,_,_,_,_,_,_,_,_,_,_,?_,rfl⟩;refine⟨k+1,by omega,by go_num,?_,Bc.o⟩;have:=HQ.o;rw [Aj.o,show l1-(dG (x.subs.take k)+bG (aU x k))=q-bG (aU x k) by omega]
        case measure=>simp [intOf];omega
    . have As:k=Ag:=by omega
      subst As;have HE:=Hd (Ak ▸ Bd.o:x.subs.take k=x.subs);rw [HE.o];have HA:l1+1-bG x=l1-dG x.subs:=by omega
      have Av:=Hd HA;generalize l1-dG x.subs=d at *;clear HA An Ai
      go_wp2_with fail
      go_ret
      refine⟨?_,Ab.o.trans (Af.o.mono Ab.o.size)⟩;rw [Av.o];rfl
end
section
open Go.RowKit Go.Sort
def kB(w:World):List Ex->List Value->Prop
 | [],cs=>cs=[]
 | x::l,cs=>∃ A ca B cb Aa,cs=gQ x A ca B cb++Aa/\aJ w x A B/\kB w l Aa
theorem aOr{w:World}{x:Ex}{A:Option Addr}{ca:Nat}{B:Option Addr}{cb:Nat}(h:aJ w x A B):kB w [x] (gQ x A ca B cb):=⟨A,ca,B,cb,[],by simp,h,rfl⟩
theorem aD7{w:World}:∀ {l l':List Ex}{cs Aa:List Value},kB w l cs->kB w l' Aa->kB w (l++l') (cs++Aa)
 | [],l',cs,Aa,h,h'=>by
  obtain rfl:cs=[]:=h
  simpa using h'
 | x::l,l',cs,Aa,h,h'=>by
  obtain⟨A,ca,B,cb,Ab,rfl,h1,h2⟩:=h;exact⟨A,ca,B,cb,Ab++Aa,by simp,h1,aD7 h2 h'⟩
theorem aD8{w:World}:∀ {l:List Ex}{cs:List Value},kB w l cs->cs.length=l.length*6
 | [],cs,h=>by
  obtain rfl:cs=[]:=h;rfl
 | x::l,cs,h=>by
  obtain⟨A,ca,B,cb,Aa,rfl,h1,h2⟩:=h;rw [Yn,aD8 h2,Yo]
  show 6+l.length*6=_
  omega
theorem aBv{w:World}:∀ {l:List Ex}{cs:List Value},kB w l cs->∀ u∈cs,u.oneCell'=true
 | [],cs,h,u,hu=>by
  obtain rfl:cs=[]:=h
  cases hu
 | x::l,cs,h,u,hu=>by
  obtain⟨A,ca,B,cb,Aa,rfl,h1,h2⟩:=h;rcases Zn.1 hu with hu | hu
  . simp only [gQ,Yu,List.not_mem_nil,or_false] at hu;rcases hu with rfl | rfl | rfl | rfl | rfl | rfl <;> rfl
  . exact aBv h2 u hu
theorem aBw{w w':World}(hb:Below w.heap.size w w'):∀ {l:List Ex}{cs:List Value},kB w l cs->kB w' l cs
 | [],cs,h=>h
 | x::l,cs,h=>by
  obtain⟨A,ca,B,cb,Aa,rfl,h1,h2⟩:=h;exact⟨A,ca,B,cb,Aa,rfl,h1.below hb,aBw hb h2⟩
theorem aE3{w:World}{b:Nat}:∀ {l:List Ex}{cs:List Value}{Aa:Nat},kB w l cs->w.rangeAt b Aa cs->jF w l b Aa
 | [],cs,Aa,h,hr=>by simp only [jF]
 | x::l,cs,Aa,h,hr=>by
  obtain⟨A,ca,B,cb,Ab,rfl,h1,h2⟩:=h;simp only [jF];refine⟨⟨A,ca,B,cb,fun j v hj=>hr j v ?_,h1⟩,aE3 h2 fun j v hj=>?_⟩
  . rw [List.getElem?_append_left (List.getElem?_eq_some_iff.1 hj).1];exact hj
  . rw [Nat.add_assoc];refine hr (6+j) v ?_;rw [List.getElem?_append_right (by show 6<=6+j;omega)]
    show Ab[6+j-6]?=some v
    rw [show 6+j-6=j by omega];exact hj
def qZ(w:World) (A:Option Addr) (n:Nat) (cs:List Value):Prop:=
 cs.length=n*6/\n<=9223372036854775807/\(0<n->∃ b Aa,A=some ⟨b,Aa,none⟩/\b<w.heap.size/\w.rangeAt b Aa cs)
theorem qZ.of_own{w:World}{base:Nat}{e:TypeId}{v:Value}{n:Nat}{cs:List Value}(h:w.ownsRow base e 6 v n cs) (hm:n<=9223372036854775807):∃ A c,v=.slice A n c/\qZ w A n cs/\(0<n->∃ g,A=some ⟨g,0,none⟩/\base<=g):=by
 rcases h.2 with⟨rfl,rfl⟩|⟨g,cap,cur,rfl,hg,hh,hnc,hcm,hcs,ht⟩
 . exact⟨none,0,rfl,⟨h.1,hm,by omega⟩,by omega⟩
 . refine⟨_,cap,rfl,⟨h.1,hm,fun hn=>⟨g,0,rfl,(Yl.1 hh).1,fun j v hj=>?_⟩⟩,fun _=>⟨g,rfl,hg⟩⟩;have:=h.cellAt j (by rw [<- h.1];exact(List.getElem?_eq_some_iff.1 hj).1);rw [Nat.zero_add,this,hj]
theorem qZ.rd{w w0:World}{A:Option Addr}{n:Nat}{cs:List Value}{l:List Ex}(h:qZ w A n cs) (hf:kB w0 l cs) (hb:Below w0.heap.size w0 w):eA w A n l:=by
 have h1:=aD8 hf;have h2:=h.1;refine⟨by omega,h.2.1,fun hn=>?_⟩;obtain⟨b,Ab,e,Aa,hr⟩:=h.2.2 hn;exact⟨b,Ab,e,Aa,aE3 (aBw hb hf) hr⟩
theorem lS{w w':World}{base:Nat}{e:TypeId}{size:Nat}{v:Value}{n:Nat}{xs:List Value}(h:w.ownsRow base e size v n xs) (hb:Below w.heap.size w w'):w'.ownsRow base e size v n xs:=by
 refine⟨h.1,?_⟩;rcases h.2 with h | ⟨g,cap,cur,e1,hg,hh,r⟩
 . exact .inl h
 . exact .inr ⟨g,cap,cur,e1,hg,(hb.block g (Yl.1 hh).1).trans hh,r⟩
def aD9(w0 w w':World) (e:Ending) (x:Ex):Prop:=∃ A c cs,e=.returned (.slice A (bG x) c)/\qZ w' A (bG x) cs/\kB w0 (bI x) cs/\Below w.heap.size w w'/\∃ g,A=some ⟨g,0,none⟩/\w.heap.size<=g
theorem aRe:∃ i:TypeInfo,Tryz.prog.info? 35=some i/\i.size=6/\i.zero=some (.agg #[.int .i64 0,.int .i64 0,.string ⟨#[]⟩,.int .i64 0,.slice none 0 0,.slice none 0 0])/\i.bytes=88:=by
 have h:(Tryz.prog.info? 35).map (fun i=>(i.size,i.zero,i.bytes))=some (6,some (.agg #[.int .i64 0,.int .i64 0,.string ⟨#[]⟩,.int .i64 0,.slice none 0 0,.slice none 0 0]),88):=by kernel_rfl
 cases hq:Tryz.prog.info? 35 with
 | none=>rw [hq] at h;cases h
 | some i=>
  rw [hq] at h;simp only [Option.map_some,Option.some.injEq,Prod.mk.injEq] at h;exact⟨i,rfl,h.1,h.2.1,h.2.2⟩
theorem wX:∀ (x:Ex) (A:Option Addr) (ca:Nat) (B:Option Addr) (cb:Nat) (w0 w:World),aJ w0 x A B->Below w0.heap.size w0 w->bG x<=1000000 ->
 Calls Tryz.prog 36 #[.agg (aE x A ca B cb)] w fun e w'=>aD9 w0 w w' e x:=by
 refine nV fun x ih A ca B cb w0 w Am Ay hs=>?_;obtain⟨i0,hi,Cg,Cj,Cb⟩:=aRe;have Bp:=Hd ih;have Bh:=Hd (kG x);have Cw:=Am.subs.max;have Ca:=Hd Am;have Bl:=Hd Ay;have HF:=Hd fun w1 h=>eC w x A ca B cb w1 h (Am.below Ay);have Bj:=Hd fun i (hi:i<x.subs.length)=>sZ hi;have Ck:=Hd fun i (hi:i<x.subs.length)=>aAa hi;have Bd:=Hd fun i=>sY x.subs i;have Aw:=Hd fun i (hi:i<x.subs.length)=>qD (qE hi);have Cn:=Hd (List.take_length (l:=x.subs));have Ag:=Hd (aOr (ca:=ca) (cb:=cb) Am);have Ct:=kG x;clear ih Am Ay;unfold aE at HF Bp ⊢;unfold gQ at Ag;generalize Ax:x.subs.length=An at *
 go_enter Tryz.func36,Tryz.ntmps36
 go_upto_region 1 with(fail)
 generalize Bn:w.alloc _=w1;obtain⟨Bf,hg,Cm,Ab⟩:=HF.o w1 Bn;have HC:=Hd Ab;have Bq:=Hd Bf;obtain⟨q0,q1,q2,q3,q4,q5⟩:=Sx (Ab w1 (Yg _ _));clear Ab Bf Cm Bn HF;have HL:=Hd fun(cs:Array Value) (hs:cs.size=1*6)=>World.ownsRow_lit (base:=w1.heap.size) (e:=35) (size:=6) w1 cs 1 (Yh _) (by decide) hs;have Bx:=Hd fun(o:Obj)=>(Yg w1.heap.size w1).alloc (Yh _) o
 go_wp2_with fail
 go_loopw [3,4] (fun v i wr=>∃ k:Nat,k<=An/\i=.int .i64 k/\(∃ cs,kB w0 (x::dR (x.subs.take k)) cs/\wr.ownsRow w1.heap.size 35 6 v (1+dG (x.subs.take k)) cs)/\Below w1.heap.size w1 wr) (fun _ i _=>An-(intOf i).toNat)
 case atStart=>
  refine⟨0,Yq _,rfl,⟨_,?_,HL.o _ rfl⟩,Bx.o _⟩;exact Ag.o
 case round=>
  obtain⟨k,hk,rfl,⟨cs,Az,Af⟩,Ah⟩:=hrel;have As:=Hd Ah;have Ba:=Hd Az;have Bb:=Hd Af;have Cx:=HC.o wr Ah 5;have Cs:=Bd.o k;have Cr:=Ah.size;have Ak:=Hd (Bl.o.trans ((Bq.o.trans (Ah.mono (Nat.le_of_lt hg))).mono Bl.o.size))
  by_cases Co:k<An
  . obtain⟨b,Cq,rfl,hb,Bk⟩:=Ca.o.sub (i:=k) (by omega);obtain⟨A',Ce,B',Bw,Bo,Bg⟩:=Bk k (by omega);obtain⟨c0,c1,c2,c3,c4,c5⟩:=eG (jH Bo hb fun p hp=>Ak.o.cell hp);have Ci:=Hd Bg;have Aq:=Hd (Bj.o k (by omega));have Ar:=Hd (Ck.o k (by omega));have Cv:=Bj.o k (by omega);have Cc:=Bd.o (k+1);have Cp:=Aw.o k (by omega);clear Bk Ah Bo Bg Az Af
    go_wp2_with fail
    refine(Bp.o k (by omega) A' Ce B' Bw w0 _ Ci.o Ak.o (by omega)).mono ?_;rintro r w2 ⟨A2,Cd,Be,rfl,Aa,Al,Ao,_⟩;obtain⟨b2,Ap,rfl,Bz,Au⟩:=Aa.2.2 (qC _);have Cf:=Hd (aD7 Ba.o Al);have Bv:=Hd (aBv Al);have Cl:=Aa.1;have Ac:=lS Bb.o Ao;have Aj:=Hd (As.o.trans (Ao.mono As.o.size));have Ai:=Aj.o.size
    go_wp2_with (at_builtin;go_must (refine wpList_append_own_at _ rfl _ _ 33 rfl w1.heap.size 35 i0 _ 6 88 Tryz.underlying33 hi Cj Cg Cb rfl (by decide) _ _ _ rfl Ac ⟨b2,Ap,none⟩ (bG (aU x k)) Cd Be rfl Cl (fun j u hu=>by rw [Addr.add_mid];exact Au j u hu) Bv.o (by unfold maxLen;omega) (by omega) Ai ?_;intro v' w3 Ad Ae _ Av))
    have Bu:=Hd (Aj.o.grown Ae Ai (fun j hj=>(Ac.lt j hj).1));have Ch:=Hd Ad;clear Ad Ae Av Ac Ao
    go_wp2_with fail
    go_roundw
    case rel=>
     refine⟨k+1,by omega,by go_num,⟨cs++Be,?_,?_⟩,Bu.o⟩
     . rw [Ar.o];exact Cf.o
     . rw [Aq.o,<- Nat.add_assoc];exact Ch.o
    case measure=>simp [intOf];omega
  . have Br:k=An:=by omega
    subst Br;have HE:=Hd (Ax ▸ Cn.o:x.subs.take k=x.subs);rw [HE.o] at Bb Ba;obtain⟨A3,c3,rfl,Aa,Bm⟩:=qZ.of_own Bb.o (by omega);have Bi:=Hd Aa;obtain⟨g3,Bc,Cu⟩:=Bm (by omega);have Bt:=Hd Bc;clear Bc Bm;clear Aa Az Af
    go_wp2_with fail
    go_ret
    rw [<- Bh.o] at Bi;refine⟨A3,c3,cs,?_,Bi.o,?_,Bq.o.trans (As.o.mono (Nat.le_of_lt hg)),g3,Bt.o,by omega⟩
    . rw [Bh.o];rfl
    . rw [pZ];exact Ba.o
end
section
open Go.RowKit
section
variable {P:Program}{w:World}
theorem vM(base:Nat) (t ty e:TypeId) (i:TypeInfo) (size:Nat) (ht:P.underlying t=some (.slice e)) (hi:P.info? e=some i)
 (v:Value) (n:Nat) (xs:List Value) (Aa:w.ownsRow base e size v n xs) (c:Nat):(Builtin.append_ #[t,t] ty #[v,.slice none 0 c]).run P w=.ok v w:=by
 rcases Aa.2 with⟨rfl,rfl⟩|⟨g,cap,cur,rfl,_,_,hnc,_⟩
 . simp [Builtin.append_,run_underlying ht,sizeOf,typeInfo,hi,Builtin.lenOf,Builtin.firstCells]
 . simp [Builtin.append_,run_underlying ht,sizeOf,typeInfo,hi,Builtin.lenOf,Builtin.firstCells,hnc,storeCells]
end
end
section
open Go.RowKit
theorem aBx{w:World}{base:Nat}{e:TypeId}{size:Nat}{v:Value}{n:Nat}{xs:List Value}(h:w.ownsRow base e size v n xs):∃ A c,v=.slice A n c:=by
 rcases h.2 with⟨rfl,rfl⟩|⟨g,cap,cur,rfl,_⟩
 . exact⟨none,0,rfl⟩
 . exact⟨_,_,rfl⟩
theorem oR{P:Program}{w:World}{ops:Array Oper}{o:Oper}{a:Act}{K:Act->World->Prop}{Q:Exit->Act->World->Prop}{E:Prop}(Al:o.guard=none) (s x:Operand) (t:TypeId)
 (ho:o.op=.call { callee:=.builtin .append,args:=#[s,x],argTypes:=#[t,t] })
 (base:Nat) (e:TypeId) (i:TypeInfo) (z:Value) (size Ab:Nat) (ht:P.underlying t=some (.slice e)) (hi:P.info? e=some i) (hz:i.zero=some z)
 (Af:i.size=size) (Aj:i.bytes=Ab) (Ah:z.cells.size=size) (Ak:0<size)
 (v:Value) (n:Nat) (xs:List Value) (hs:a.eval s=v) (Ac:w.ownsRow base e size v n xs)
 (A:Option Addr) (m c:Nat) (Aa:List Value) (hx:a.eval x=.slice A m c) (hl:Aa.length=m*size) (hA:A=none->m=0) (Ae:∀ ad,A=some ad->∀ j u,Aa[j]?=some u->w.cell? (ad.add j)=some u) (h1:∀ u∈Aa,u.oneCell'=true)
 (Ai:n+m<=maxLen) (Ad:(n+m)*Ab<=140737488355328) (Ag:base<=w.heap.size)
 (h:∀ A' c' w',w'.ownsRow base e size (.slice A' (n+m) c') (n+m) (xs++Aa)->w.grownBy w' v.ownBlock->((Value.slice A' (n+m) c').ownBlock=v.ownBlock\/(Value.slice A' (n+m) c').ownBlock=some w.heap.size)->K (a.put o.dst (.slice A' (n+m) c')) w'):
 if Region.wanted o (yielded ops a.tmps)=true then Oper.wp P o a w K Q else E:=by
 have hw:Region.wanted o (yielded ops a.tmps)=true:=by simp [Region.wanted,Al]
 rw [if_pos hw]
 cases A with
 | none=>
  obtain rfl:=hA rfl;obtain rfl:Aa=[]:=Zq (by simpa using hl);have hr:=vM (P:=P) (w:=w) base t o.type e i size ht hi v n xs Ac c;obtain⟨A',c',rfl⟩:=aBx Ac;unfold Oper.wp execOp;simp only [ho,resolve,invoke,builtin,Sem.run_bind,Sem.run_pure,Result.andThen_ok,List.map_toArray,Xg,List.map_nil,hs,hx,hr];exact h A' c' w (by simpa using Ac) (World.grownBy.refl w _) (.inl rfl)
 | some ad=>
  obtain⟨v',w',hr,h2,h3,_,h5⟩:=run_append_own_at (P:=P) w base t o.type e i z size Ab ht hi hz Af Aj Ah Ak v n xs Ac ad m c Aa hl (Ae ad rfl) h1 Ai Ad Ag;obtain⟨A',c',rfl⟩:=aBx h2;unfold Oper.wp execOp;simp only [ho,resolve,invoke,builtin,Sem.run_bind,Sem.run_pure,Result.andThen_ok,List.map_toArray,Xg,List.map_nil,hs,hx,hr];exact h A' c' w' h2 h3 h5
theorem aLx(g o k:Nat):(⟨g,o,none⟩:Addr).add k=⟨g,o+k,none⟩:=by unfold Addr.add;split <;> simp_all
end
section
open Go.RowKit
def dP(a b:List ByteArray):Bool:=decide (a.map (fun s=>s.toList)=b.map (fun s=>s.toList))
def rZ(a b:List ByteArray) (k:Nat):Prop:=∀ j,j<k->((a[j]?.getD ByteArray.empty).toList==(b[j]?.getD ByteArray.empty).toList)=true
section
variable {a b:List ByteArray}{k:Nat}
theorem aBy(h:a.length≠b.length):dP a b=false:=Zy fun e=>h (by simpa using congrArg List.length e)
theorem aC1(ha:k<a.length) (hb:k<b.length) (h:((a[k]?.getD ByteArray.empty).toList==(b[k]?.getD ByteArray.empty).toList)=false):dP a b=false:=Zy fun e=>by
 have h1:=congrArg (fun l=>l[k]?) e;simp only [List.getElem?_map,Yk ha,Yk hb,Option.map_some,Option.some.injEq] at h1;rw [Yk ha,Yk hb,Yt,Yt,h1] at h
 simp at h
theorem aBz(hl:a.length=b.length) (H:rZ a b k) (h:a.length<=k):dP a b=true:=Zx (by
 apply List.ext_getElem
 . simpa using hl
 . intro i h1 h2;rw [List.length_map] at h1 h2;have:=H i (by omega);rw [Yk h1,Yk h2,Yt,Yt] at this
   simpa using this)
theorem aAb(H:rZ a b k) (h:((a[k]?.getD ByteArray.empty).toList==(b[k]?.getD ByteArray.empty).toList)=true):rZ a b (k+1):=fun j hj=>by
 rcases Nat.lt_or_ge j k with h1 | h1
 . exact H j h1
 . obtain rfl:j=k:=by omega
   exact h
end
end
section
open Go.RowKit
end
end Go.Proofs.YtegjgiofmpolnaaGreat
