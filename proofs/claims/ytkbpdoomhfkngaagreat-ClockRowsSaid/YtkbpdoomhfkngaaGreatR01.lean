/- Parts of the proof: Base, IdM, ExM, Str, ExR, ExA, ExP, ExF, App, NmT, ArM. Conditions: each theorem's own. -/
import Derived.WalkKit
import Derived.ProofKit
import Derived.OpenShut
import Derived.Below
import Derived.Lib.Hide
import Derived.IntWalk
import Derived.Deep.QuietTactic
import Derived.BigQuiet
import Derived.Deep.Draws
import Derived.Laws.BitsAllLaws
import Derived.Laws.BitsLemmas
import Derived.Laws.Bits64
import Derived.Deep.OwnRows
import Derived.RegionTactic
import Derived.ChangeAlike
import Derived.OwnWalk
import Derived.Outline
import Derived.WalkSpells
import Derived.Lib.Bytealg
import Derived.Test.YtkbpdoomhfkngaaGreatRows
import Derived.Deep.MidRow
import Derived.Deep.DeepCutAuto
import Derived.Lib.QuietBelow
import Derived.Maps.AppendAt
import Derived.Laws.OwnMore
import Derived.Laws.AppendOwnNone
import Derived.Lib.Strings
import Derived.Lib.Walk
import Derived.Deep.RegionHeld3
namespace Go.Proofs.YtkbpdoomhfkngaaGreat
set_option linter.unusedVariables false
set_option linter.unusedSimpArgs false
set_option maxRecDepth 100000
set_option maxHeartbeats 40000000
theorem Hd {p : Prop} (h : p) : Go.RowKit.Hid p := Lib.hid h
theorem Sx {P : Nat → Prop} (h : ∀ j, P j) : P 0 ∧ P 1 ∧ P 2 ∧ P 3 ∧ P 4 ∧ P 5 := ⟨h 0, h 1, h 2, h 3, h 4, h 5⟩
theorem Ya {α : Type} {l : List α} {i : Nat} : l.toArray[i]? = l[i]? := List.getElem?_toArray
theorem Yb {α : Type} {a : α} {l : List α} : (a :: l)[0]? = some a := List.getElem?_cons_zero
theorem Yc {α : Type} {a : α} {l : List α} {i : Nat} : (a :: l)[i + 1]? = l[i]? := List.getElem?_cons_succ
theorem Yd {α : Type} {l : List α} {i : Nat} {a : α} : l.toArray.setIfInBounds i a = (l.set i a).toArray := by simp
theorem Ye {α : Type} {a b : α} {l : List α} : (a :: l).set 0 b = b :: l := rfl
theorem Yf {α : Type} {a b : α} {l : List α} {i : Nat} : (a :: l).set (i + 1) b = a :: l.set i b := rfl
section
open Go.RowKit
def Rd(k:IntKind) (w:World) (A:Option Addr) (n c:Nat) (l:List Int):Prop:=
 l.length=n∧n≤c∧c≤maxLen∧(∀ z∈l,(Lit.int k z).wf=true) ∧
 (0<n→∃ b off,A=some ⟨b,off,none⟩∧b<w.heap.size∧∀ i,i<n→w.cell? ⟨b,off+i,none⟩=some (.int k (l[i]?.getD 0)))
section
variable {k:IntKind}{w w':World}{A:Option Addr}{n c:Nat}{l:List Int}
theorem Rd.nil_(k:IntKind) (w:World):Rd k w none 0 0 []:=⟨rfl,Nat.le_refl _,by decide,by simp,by omega⟩
theorem Rd.len(h:Rd k w A n c l):l.length=n:=h.1
theorem Rd.max(h:Rd k w A n c l):n≤9223372036854775807:=by
 have h1:=h.2.1;have h2:=h.2.2.1;unfold maxLen at h2;omega
theorem Rd.at_(h:Rd k w A n c l){i:Nat}(hi:i<n):
 ∃ b off,A=some ⟨b,off,none⟩∧b<w.heap.size∧∀ i,i<n→w.cell? ⟨b,off+i,none⟩=some (.int k (l[i]?.getD 0)):=
 h.2.2.2.2 (by omega)
theorem Rd.wf(h:Rd k w A n c l){i:Nat}(hi:i<n):(Lit.int k (l[i]?.getD 0)).wf=true:=by
 have h1:=h.1
 have:l[i]?.getD 0∈l:=by
  rw [List.getElem?_eq_getElem (by omega)];exact List.getElem_mem _
 exact h.2.2.2.1 _ this
theorem Rd.u8(h:Rd .u8 w A n c l){i:Nat}(hi:i<n):0≤l[i]?.getD 0∧l[i]?.getD 0≤255:=by
 simpa [Lit.wf,IntKind.min,IntKind.max,IntKind.signed,IntKind.bits] using h.wf hi
theorem Rd.keep(h:Rd k w A n c l) (hs:w.heap.size≤w'.heap.size) (hk:∀ p:Addr,p.block<w.heap.size→w'.cell? p=w.cell? p):Rd k w' A n c l:=
 ⟨h.1,h.2.1,h.2.2.1,h.2.2.2.1,fun hn=>by
  obtain⟨b,off,e,hb,hc⟩:=h.2.2.2.2 hn;exact⟨b,off,e,by omega,fun i hi=>(hk _ hb).trans (hc i hi)⟩⟩
theorem Rd.below(h:Rd k w A n c l) (hb:Below w.heap.size w w'):Rd k w' A n c l:=h.keep hb.size fun _ hp=>hb.cell hp
theorem Rd.drewN(h:Rd k w A n c l) (m:Nat):Rd k (w.drewN m) A n c l:=h
theorem Rd.drew(h:Rd k w A n c l):Rd k w.drew A n c l:=h
theorem Rd.alloc(h:Rd k w A n c l) (o:Obj):Rd k (w.alloc o) A n c l:=h.below ((Below.refl _ _).alloc (Nat.le_refl _) o)
end
theorem Rd.of_own{k:IntKind}{w:World}{base:Nat}{e:TypeId}{v:Value}{n:Nat}{xs:List Value}{l:List Int}(h:w.ownsRow base e 1 v n xs) (hx:xs=l.map (Value.int k)) (hwf:∀ z∈l,(Lit.int k z).wf=true):
 ∃ A c,v=.slice A n c∧Rd k w A n c l∧(0<n→∃ g,A=some ⟨g,0,none⟩∧base≤g):=by
 subst hx;have hl:l.length=n:=by have:=h.1;simpa using this
 rcases h.2 with⟨rfl,rfl⟩|⟨g,cap,cur,rfl,hg,hh,hnc,hcm,hcs,ht⟩
 · obtain rfl:l=[]:=List.eq_nil_of_length_eq_zero hl;exact⟨none,0,rfl,Rd.nil_ _ _,by omega⟩
 · refine⟨_,cap,rfl,⟨hl,hnc,hcm,hwf,fun hn=>⟨g,0,rfl,?_,fun i hi=>?_⟩⟩,fun _=>⟨g,rfl,hg⟩⟩
   · exact(Array.getElem?_eq_some_iff.1 hh).1
   · have h1:=h.cellAt i (by omega);rw [Nat.zero_add,h1]
     simp [List.getElem?_eq_getElem (show i<l.length by omega)]
theorem Rd.news{k:IntKind}{w:World}{a:Addr}{n c:Nat}{l:List Int}(h:Rd k w (some a) n c l) (j:Nat) (u:Value) (hu:(l.map (Value.int k))[j]?=some u):w.cell? (a.add j)=some u:=by
 have hj:j<l.length:=by
  rcases Nat.lt_or_ge j l.length with h | h
  · exact h
  · rw [List.getElem?_eq_none (by simpa using h)] at hu;cases hu
 obtain⟨b,off,e,_,hc⟩:=h.at_ (i:=j) (by rw [← h.len];exact hj);injection e with e;subst e;have:=hc j (by rw [← h.len];exact hj);have e2:(⟨b,off,none⟩:Addr).add j=⟨b,off+j,none⟩:=by unfold Addr.add;split <;> simp_all
 rw [e2,this,← hu]
 simp [List.getElem?_eq_getElem hj]
theorem below_drewN{B:Nat}{a w:World}(h:Below B a w) (n:Nat):Below B a (w.drewN n):=⟨h.os,h.tape,h.output,h.size,h.block⟩
theorem ret_int{k:IntKind}{a b:Int}(h:a=b):Ending.returned (.int k a)=.returned (.int k b):=by rw [h]
theorem ret_bool{a b:Bool}(h:a=b):Ending.returned (.bool a)=.returned (.bool b):=by rw [h]
end
section
def smallB(n:Int):Bool:=decide (97≤n∧n≤122)
def greatB(n:Int):Bool:=decide (65≤n∧n≤90)
def digitB(n:Int):Bool:=decide (48≤n∧n≤57)
def nameC(n:Int):Bool:=smallB n || greatB n || digitB n || decide (n=95)
def nameB(first:Int→Bool) (l:List UInt8):Bool:=
 decide (1≤l.length∧l.length≤12) && (match l with | []=>false | c::_=>first (c.toNat:Int)) && l.all fun c=>nameC (c.toNat:Int)
def wordsL:List (List UInt8):=[[110,111,100,101],[114,101,116,117,114,110,115],[118,97,114],[108,101,116],[116,101,108],[101,110,117,109],[105,102],[116,104,101,110],[101,108,115,101],[102,98,121],[112,114,101],[119,104,101,110],[109,101,114,103,101],[101,118,101,114,121],[110,111,116],[97,110,100],[111,114],[120,111,114],[109,111,100],[116,114,117,101],[102,97,108,115,101],[105,110,116],[98,111,111,108],[119,105,116,104]]
def wordB(l:List UInt8):Bool:=decide (l∈wordsL)
def lowB(l:List UInt8):Bool:=nameB smallB l && !wordB l
def highB(l:List UInt8):Bool:=nameB greatB l
def cutL(c:UInt8):List UInt8→List (List UInt8)
 | []=>[[]]
 | b::l=>if b=c then []::cutL c l else match cutL c l with | []=>[[b]] | p::ps=>(b::p)::ps
def numB(l:List UInt8):Bool:=
 decide (1≤l.length∧l.length≤3) && (match l with | []=>false | c::_=>!decide (c=48)) && l.all fun c=>digitB (c.toNat:Int)
def partL:List (List UInt8)→Bool
 | [a]=>lowB a
 | [a,n]=>lowB a && numB n
 | _=>false
def partB(l:List UInt8):Bool:=partL (cutL 46 l)
def pathB(l:List UInt8):Bool:=(cutL 47 l).all partB
theorem cutL_ne(c:UInt8) (l:List UInt8):cutL c l≠[]:=by
 cases l with
 | nil=>simp [cutL]
 | cons b l=>
  unfold cutL
  split
  · simp
  · split <;> simp
theorem cutL_none{c:UInt8}:∀ {l:List UInt8},c∉l→cutL c l=[l]
 | [],_=>rfl
 | b::l,h=>by
  have h1:b≠c:=fun e=>h (by simp [e]);have h2:=cutL_none (l:=l) (fun m=>h (List.mem_cons_of_mem _ m))
  simp [cutL,h1,h2]
theorem cutL_app{c:UInt8}:∀ (p r:List UInt8),cutL c (p++c::r)=cutL c p++cutL c r
 | [],r=>by simp [cutL]
 | b::p,r=>by
  have ih:=cutL_app (c:=c) p r
  by_cases hb:b=c
  · simp [cutL,hb,ih]
  · have hn:=cutL_ne c p
    cases hp:cutL c p with
    | nil=>exact absurd hp hn
    | cons q qs=>simp [cutL,hb,ih,hp]
theorem cutL_at{c:UInt8}{p r:List UInt8}(h:c∉p):cutL c (p++c::r)=p::cutL c r:=by
 rw [cutL_app,cutL_none h];rfl
theorem nameC_bd{n:Int}(h:nameC n=true):48≤n∧n≤122:=by
 simp [nameC,smallB,greatB,digitB] at h
 omega
theorem nameB_all{first:Int→Bool}{l:List UInt8}(h:nameB first l=true):∀ c∈l,nameC (c.toNat:Int)=true:=by
 simp [nameB] at h
 exact h.2
theorem path_app(s t:List UInt8):pathB (s++47::t)=(pathB s && pathB t):=by
 unfold pathB;rw [cutL_app,List.all_append]
theorem numB_point{l:List UInt8}(h:(46:UInt8)∈l):numB l=false:=by
 cases hn:numB l with
 | false=>rfl
 | true=>
  simp [numB] at hn
  have:=hn.2 46 h
  revert this
  decide
theorem partB_none{l:List UInt8}(h:(46:UInt8)∉l):partB l=lowB l:=by
 unfold partB;rw [cutL_none h];rfl
theorem partB_at{p r:List UInt8}(h:(46:UInt8)∉p):partB (p++46::r)=(lowB p && numB r):=by
 unfold partB;rw [cutL_at h]
 by_cases hr:(46:UInt8)∈r
 · rw [numB_point hr];obtain⟨a,b,rfl⟩:=List.append_of_mem hr;rw [cutL_app];have h1:=cutL_ne 46 a;have h2:=cutL_ne 46 b
   cases ha:cutL 46 a with
   | nil=>exact absurd ha h1
   | cons x xs=>
    cases hb:cutL 46 b with
    | nil=>exact absurd hb h2
    | cons y ys=>
     cases xs with
     | nil=>simp [partL]
     | cons z zs=>simp [partL]
 · rw [cutL_none hr];rfl
theorem index_none{l:List UInt8}{c:UInt8}(h:Lib.indexByte l c<0):c∉l:=by
 induction l with
 | nil=>simp
 | cons b l ih=>
  unfold Lib.indexByte at h;have hg:=Lib.indexByte_ge l c
  split at h
  · omega
  · split at h
    · rename_i h1 h2
      have:=ih (by simp at h2;omega)
      simp at h1
      simp [this]
      exact fun e=>h1 e.symm
    · rename_i h1 h2
      simp at h2
      omega
theorem index_some{l:List UInt8}{c:UInt8}(h:0≤Lib.indexByte l c):
 ∃ k:Nat,Lib.indexByte l c=k∧k<l.length∧c∉l.take k∧l=l.take k++c::l.drop (k+1):=by
 induction l with
 | nil=>simp [Lib.indexByte] at h
 | cons b l ih=>
  unfold Lib.indexByte at h ⊢;have hg:=Lib.indexByte_ge l c
  by_cases hb:b=c
  · subst hb;exact⟨0,by simp,by simp,by simp,by simp⟩
  · have hb':(b==c)=false:=by simpa using hb
    simp only [hb',Bool.false_eq_true,if_false] at h ⊢
    by_cases h1:Lib.indexByte l c=-1
    · simp [h1] at h
    · have h1':(Lib.indexByte l c==-1)=false:=by simpa using h1
      simp only [h1',Bool.false_eq_true,if_false] at h ⊢;obtain⟨k,e1,e2,e3,e4⟩:=ih (by omega);refine⟨k+1,by omega,by simp;omega,?_,?_⟩
      · simp
        exact⟨fun e=>hb e.symm,e3⟩
      · simp
        exact e4
theorem path_none{l:List UInt8}(h:(47:UInt8)∉l):pathB l=partB l:=by
 unfold pathB;rw [cutL_none h]
 simp
theorem path_at{p r:List UInt8}(h:(47:UInt8)∉p):pathB (p++47::r)=(partB p && pathB r):=by
 rw [path_app,path_none h]
def onceB(ls:List (List UInt8)):Bool:=decide ls.Nodup
end
section
inductive Ex where
 | mk (k n:Int) (s:ByteArray) (op:Int) (arms:List ByteArray) (subs:List Ex)
def Ex.k:Ex→Int | .mk k _ _ _ _ _=>k
def Ex.n:Ex→Int | .mk _ n _ _ _ _=>n
def Ex.s:Ex→ByteArray | .mk _ _ s _ _ _=>s
def Ex.op:Ex→Int | .mk _ _ _ op _ _=>op
def Ex.arms:Ex→List ByteArray | .mk _ _ _ _ a _=>a
def Ex.subs:Ex→List Ex | .mk _ _ _ _ _ l=>l
instance :Inhabited Ex:=⟨.mk 0 0 ByteArray.empty 0 [] []⟩
mutual
def sizeX:Ex→Nat
 | .mk _ _ _ _ _ l=>1+sizesX l
def sizesX:List Ex→Nat
 | []=>0
 | x::l=>sizeX x+sizesX l
end
mutual
def depthX:Ex→Nat
 | .mk _ _ _ _ _ l=>depthsX l+1
def depthsX:List Ex→Nat
 | []=>0
 | x::l=>max (depthX x) (depthsX l)
end
mutual
def partsX:Ex→List Ex
 | .mk k n s op a l=>.mk k n s op a l::partssX l
def partssX:List Ex→List Ex
 | []=>[]
 | x::l=>partsX x++partssX l
end
theorem sizeX_eq(x:Ex):sizeX x=1+sizesX x.subs:=by cases x;simp only [sizeX,Ex.subs]
theorem depthX_eq(x:Ex):depthX x=depthsX x.subs+1:=by cases x;simp only [depthX,Ex.subs]
theorem partsX_eq(x:Ex):partsX x=x::partssX x.subs:=by cases x;simp only [partsX,Ex.subs]
theorem sizesX_app(a b:List Ex):sizesX (a++b)=sizesX a+sizesX b:=by
 induction a with
 | nil=>simp [sizesX]
 | cons x a ih=>simp [sizesX,ih];omega
theorem partssX_app(a b:List Ex):partssX (a++b)=partssX a++partssX b:=by
 induction a with
 | nil=>simp [partssX]
 | cons x a ih=>simp [partssX,ih]
theorem depthsX_app(a b:List Ex):depthsX (a++b)=max (depthsX a) (depthsX b):=by
 induction a with
 | nil=>simp [depthsX]
 | cons x a ih=>simp only [List.cons_append,depthsX,ih];omega
theorem size_pos(x:Ex):0<sizeX x:=by rw [sizeX_eq];omega
theorem sizes_mem{l:List Ex}{x:Ex}(h:x∈l):sizeX x≤sizesX l:=by
 induction l with
 | nil=>cases h
 | cons y l ih=>
  simp only [sizesX];rcases List.mem_cons.1 h with rfl | h
  · omega
  · have:=ih h;omega
theorem size_sub{x y:Ex}(h:y∈x.subs):sizeX y<sizeX x:=by
 have:=sizes_mem h;rw [sizeX_eq x];omega
theorem sizes_take(l:List Ex) (k:Nat):sizesX (l.take k)≤sizesX l:=by
 have:=sizesX_app (l.take k) (l.drop k);rw [List.take_append_drop] at this;omega
theorem sizes_len(l:List Ex):l.length≤sizesX l:=by
 induction l with
 | nil=>simp [sizesX]
 | cons x l ih=>have:=size_pos x;simp [sizesX];omega
mutual
theorem partsX_len:∀ x:Ex,(partsX x).length=sizeX x
 | .mk k n s op a l=>by simp only [partsX,sizeX,List.length_cons,partssX_len l];omega
theorem partssX_len:∀ l:List Ex,(partssX l).length=sizesX l
 | []=>rfl
 | x::l=>by simp only [partssX,sizesX,List.length_append,partsX_len x,partssX_len l]
end
mutual
theorem depth_size:∀ x:Ex,depthX x≤sizeX x
 | .mk k n s op a l=>by simp only [depthX,sizeX];have:=depths_size l;omega
theorem depths_size:∀ l:List Ex,depthsX l≤sizesX l
 | []=>Nat.le_refl _
 | x::l=>by simp only [depthsX,sizesX];have:=depth_size x;have:=depths_size l;omega
end
def subX(x:Ex) (i:Nat):Ex:=x.subs[i]?.getD default
theorem subX_mem{x:Ex}{i:Nat}(h:i<x.subs.length):subX x i∈x.subs:=by
 unfold subX;rw [List.getElem?_eq_getElem h];exact List.getElem_mem _
theorem subs_snoc{x:Ex}{i:Nat}(h:i<x.subs.length):x.subs.take (i+1)=x.subs.take i++[subX x i]:=by
 unfold subX;rw [List.take_succ_eq_append_getElem h,List.getElem?_eq_getElem h];rfl
theorem sizes_snoc{x:Ex}{i:Nat}(h:i<x.subs.length):sizesX (x.subs.take (i+1))=sizesX (x.subs.take i)+sizeX (subX x i):=by
 rw [subs_snoc h,sizesX_app]
 simp [sizesX]
theorem depths_snoc{x:Ex}{i:Nat}(h:i<x.subs.length):depthsX (x.subs.take (i+1))=max (depthsX (x.subs.take i)) (depthX (subX x i)):=by
 rw [subs_snoc h,depthsX_app]
 simp [depthsX]
theorem partss_snoc{x:Ex}{i:Nat}(h:i<x.subs.length):partssX (x.subs.take (i+1))=partssX (x.subs.take i)++partsX (subX x i):=by
 rw [subs_snoc h,partssX_app]
 simp [partssX]
theorem size_ind{P:Ex→Prop}(h:∀ x,(∀ i,i<x.subs.length→P (subX x i))→P x):∀ x,P x:=by
 have:∀ n x,sizeX x≤n→P x:=by
  intro n
  induction n with
  | zero=>intro x hx;have:=size_pos x;omega
  | succ n ih=>
   intro x hx;refine h x fun i hi=>ih _ ?_;have:=size_sub (subX_mem hi);omega
 exact fun x=>this _ x (Nat.le_refl _)
end
section
open Go.RowKit
def RdT(w:World) (A:Option Addr) (n:Nat) (ss:List ByteArray):Prop:=
 ss.length=n∧n≤9223372036854775807 ∧
 (0<n→∃ b off,A=some ⟨b,off,none⟩∧b<w.heap.size∧∀ i,i<n→w.cell? ⟨b,off+i,none⟩=some (.string (ss[i]?.getD ByteArray.empty)))
section
variable {w w':World}{A:Option Addr}{n:Nat}{ss:List ByteArray}
theorem RdT.nil_(w:World):RdT w none 0 []:=⟨rfl,by omega,by omega⟩
theorem RdT.len(h:RdT w A n ss):ss.length=n:=h.1
theorem RdT.max(h:RdT w A n ss):n≤9223372036854775807:=h.2.1
theorem RdT.at_(h:RdT w A n ss){i:Nat}(hi:i<n):
 ∃ b off,A=some ⟨b,off,none⟩∧b<w.heap.size∧∀ i,i<n→w.cell? ⟨b,off+i,none⟩=some (.string (ss[i]?.getD ByteArray.empty)):=
 h.2.2 (by omega)
theorem RdT.keep(h:RdT w A n ss) (hs:w.heap.size≤w'.heap.size) (hk:∀ p:Addr,p.block<w.heap.size→w'.cell? p=w.cell? p):RdT w' A n ss:=
 ⟨h.1,h.2.1,fun hn=>by
  obtain⟨b,off,e,hb,hc⟩:=h.2.2 hn;exact⟨b,off,e,by omega,fun i hi=>(hk _ hb).trans (hc i hi)⟩⟩
theorem RdT.below(h:RdT w A n ss) (hb:Below w.heap.size w w'):RdT w' A n ss:=h.keep hb.size fun _ hp=>hb.cell hp
theorem RdT.drewN(h:RdT w A n ss) (m:Nat):RdT (w.drewN m) A n ss:=h
theorem RdT.alloc(h:RdT w A n ss) (o:Obj):RdT (w.alloc o) A n ss:=h.below ((Below.refl _ _).alloc (Nat.le_refl _) o)
theorem RdT.of_own{base:Nat}{e:TypeId}{v:Value}(h:w.ownsRow base e 1 v n (ss.map Value.string)) (hm:n≤9223372036854775807):
 ∃ A c,v=.slice A n c∧RdT w A n ss∧(A=none→n=0):=by
 have hl:ss.length=n:=by have:=h.1;simpa using this
 rcases h.2 with⟨rfl,rfl⟩|⟨g,cap,cur,rfl,hg,hh,hnc,hcm,hcs,ht⟩
 · obtain rfl:ss=[]:=List.eq_nil_of_length_eq_zero hl;exact⟨none,0,rfl,RdT.nil_ _,fun _=>rfl⟩
 · refine⟨_,cap,rfl,⟨hl,hm,fun hn=>⟨g,0,rfl,?_,fun i hi=>?_⟩⟩,fun h=>by cases h⟩
   · exact(Array.getElem?_eq_some_iff.1 hh).1
   · have h1:=h.cellAt i (by omega);rw [Nat.zero_add,h1]
     simp [List.getElem?_eq_getElem (show i<ss.length by omega)]
theorem RdT.lit(w:World) (T:TypeId) (ss:List ByteArray) (n:Nat) (hn:ss.length=n) (hm:n≤9223372036854775807) (cs:Array Value) (hcs:cs=(ss.map Value.string).toArray):
 RdT (w.alloc (.cells cs T)) (some ⟨w.heap.size,0,none⟩) n ss:=by
 subst hcs hn;refine⟨rfl,hm,fun _=>⟨_,_,rfl,by simp,fun i hi=>?_⟩⟩;rw [Nat.zero_add,World.cell?_alloc_new]
 simp [List.getElem?_eq_getElem hi]
end
theorem rdT_arg{w:World}{x:Addr}{n:Nat}{ss:List ByteArray}(hle:n≤ss.length) (hm:n≤9223372036854775807) (hc:∀ i,i<ss.length→w.cell? (x.add i)=some (.string (ss.getD i ByteArray.empty))):
 RdT w (some x) n (ss.take n):=by
 refine⟨by simp;omega,hm,fun hn=>?_⟩;obtain⟨b,off,spot⟩:=x;have h0:=hc 0 (by omega);have hspot:spot=none:=by simpa [Addr.add] using World.cell?_spot h0
 subst hspot;have hadd:∀ i,(⟨b,off,none⟩:Addr).add i=⟨b,off+i,none⟩:=fun i=>by unfold Addr.add;split <;> simp_all
 refine⟨b,off,rfl,World.block_lt_of_cell? w _ h0,fun i hi=>?_⟩;rw [← hadd,hc i (by omega),List.getElem?_take_of_lt hi,List.getD_eq_getElem?_getD]
theorem below_trans2{a b c:World}(h1:Below a.heap.size a b) (h2:Below b.heap.size b c):Below a.heap.size a c:=h1.trans (h2.mono h1.size)
end
section
open Go.RowKit
def exL(x:Ex) (A:Option Addr) (ca:Nat) (B:Option Addr) (cb:Nat):List Value:=
 [.int .i64 x.k,.int .i64 x.n,.string x.s,.int .i64 x.op,.slice A x.arms.length ca,.slice B x.subs.length cb]
def exA(x:Ex) (A:Option Addr) (ca:Nat) (B:Option Addr) (cb:Nat):Array Value:=
 #[.int .i64 x.k,.int .i64 x.n,.string x.s,.int .i64 x.op,.slice A x.arms.length ca,.slice B x.subs.length cb]
mutual
def rdX(w:World):Ex→Option Addr→Option Addr→Prop
 | .mk _ _ _ _ arms subs,A,B=>RdT w A arms.length arms∧subs.length≤9223372036854775807 ∧
  (0<subs.length→∃ b off,B=some ⟨b,off,none⟩∧b<w.heap.size∧rdXs w subs b off)
def rdXs(w:World):List Ex→Nat→Nat→Prop
 | [],_,_=>True
 | x::l,b,off=>(∃ A ca B cb,w.rangeAt b off (exL x A ca B cb)∧rdX w x A B)∧rdXs w l b (off+6)
end
def ExV(w:World) (v:Value) (x:Ex):Prop:=∃ A ca B cb,v=.agg (exA x A ca B cb)∧rdX w x A B
def RdX(w:World) (A:Option Addr) (n:Nat) (l:List Ex):Prop:=
 l.length=n∧n≤9223372036854775807∧(0<n→∃ b off,A=some ⟨b,off,none⟩∧b<w.heap.size∧rdXs w l b off)
section
variable {w w':World}{A B:Option Addr}{n:Nat}{x:Ex}{l:List Ex}
theorem exL_A(x:Ex) (A:Option Addr) (ca:Nat) (B:Option Addr) (cb:Nat):(exL x A ca B cb).toArray=exA x A ca B cb:=rfl
theorem rdX_eq:rdX w x A B↔RdT w A x.arms.length x.arms∧RdX w B x.subs.length x.subs:=by
 cases x
 simp only [rdX,RdX,Ex.arms,Ex.subs,true_and]
theorem rdX.arms(h:rdX w x A B):RdT w A x.arms.length x.arms:=(rdX_eq.1 h).1
theorem rdX.subs(h:rdX w x A B):RdX w B x.subs.length x.subs:=(rdX_eq.1 h).2
theorem rdXs_at:∀ (l:List Ex){b off:Nat},rdXs w l b off→∀ i,i<l.length→∃ A ca B cb,w.rangeAt b (off+i*6) (exL (l[i]?.getD default) A ca B cb)∧rdX w (l[i]?.getD default) A B
 | [],_,_,_,_,hi=>absurd hi (by simp)
 | x::l,b,off,h,i,hi=>by
  simp only [rdXs] at h
  cases i with
  | zero=>simpa using h.1
  | succ i=>
   have:=rdXs_at l h.2 i (by simpa using hi);rw [show off+6+i*6=off+(i+1)*6 by omega] at this
   simpa using this
theorem rdXs_of:∀ (l:List Ex){b off:Nat},(∀ i,i<l.length→∃ A ca B cb,w.rangeAt b (off+i*6) (exL (l[i]?.getD default) A ca B cb)∧rdX w (l[i]?.getD default) A B)→rdXs w l b off
 | [],_,_,_=>by simp only [rdXs]
 | x::l,b,off,h=>by
  simp only [rdXs];refine⟨by simpa using h 0 (by simp),rdXs_of l fun i hi=>?_⟩;have:=h (i+1) (by simpa using hi);rw [show off+(i+1)*6=off+6+i*6 by omega] at this
  simpa using this
theorem RdX.len(h:RdX w A n l):l.length=n:=h.1
theorem RdX.max(h:RdX w A n l):n≤9223372036854775807:=h.2.1
theorem RdX.at_(h:RdX w A n l){i:Nat}(hi:i<n):
 ∃ b off,A=some ⟨b,off,none⟩∧b<w.heap.size∧∀ i,i<n→∃ A' ca B' cb,w.rangeAt b (off+i*6) (exL (l[i]?.getD default) A' ca B' cb)∧rdX w (l[i]?.getD default) A' B':=by
 obtain⟨b,off,e,hb,hr⟩:=h.2.2 (by omega);exact⟨b,off,e,hb,fun i hi=>rdXs_at l hr i (by rw [h.1];exact hi)⟩
theorem RdX.nil_(w:World):RdX w none 0 []:=⟨rfl,by omega,by omega⟩
theorem rangeAt_keep{cs:List Value}{b o:Nat}(h:w.rangeAt b o cs) (hb:b<w.heap.size) (hk:∀ p:Addr,p.block<w.heap.size→w'.cell? p=w.cell? p):w'.rangeAt b o cs:=fun j v hv=>(hk _ hb).trans (h j v hv)
mutual
theorem rdX_keep(hs:w.heap.size≤w'.heap.size) (hk:∀ p:Addr,p.block<w.heap.size→w'.cell? p=w.cell? p):∀ (x:Ex) (A B:Option Addr),rdX w x A B→rdX w' x A B
 | .mk _ _ _ _ arms subs,A,B,h=>by
  simp only [rdX] at h ⊢;refine⟨h.1.keep hs hk,h.2.1,fun hn=>?_⟩;obtain⟨b,off,e,hb,hr⟩:=h.2.2 hn;exact⟨b,off,e,by omega,rdXs_keep hs hk subs b off hb hr⟩
theorem rdXs_keep(hs:w.heap.size≤w'.heap.size) (hk:∀ p:Addr,p.block<w.heap.size→w'.cell? p=w.cell? p):∀ (l:List Ex) (b off:Nat),b<w.heap.size→rdXs w l b off→rdXs w' l b off
 | [],_,_,_,_=>by simp only [rdXs]
 | x::l,b,off,hb,h=>by
  simp only [rdXs] at h ⊢;obtain⟨⟨A,ca,B,cb,h1,h2⟩,h3⟩:=h;exact⟨⟨A,ca,B,cb,rangeAt_keep h1 hb hk,rdX_keep hs hk x A B h2⟩,rdXs_keep hs hk l b (off+6) hb h3⟩
end
theorem rdX.keep(h:rdX w x A B) (hs:w.heap.size≤w'.heap.size) (hk:∀ p:Addr,p.block<w.heap.size→w'.cell? p=w.cell? p):rdX w' x A B:=rdX_keep hs hk x A B h
theorem rdX.below(h:rdX w x A B) (hb:Below w.heap.size w w'):rdX w' x A B:=h.keep hb.size fun _ hp=>hb.cell hp
theorem rdX.alloc(h:rdX w x A B) (o:Obj):rdX (w.alloc o) x A B:=h.below ((Below.refl _ _).alloc (Nat.le_refl _) o)
theorem rdX.drewN(h:rdX w x A B) (m:Nat):rdX (w.drewN m) x A B:=h.keep (Nat.le_refl _) fun _ _=>rfl
theorem rdX.drew(h:rdX w x A B):rdX w.drew x A B:=h.keep (Nat.le_refl _) fun _ _=>rfl
theorem RdX.keep(h:RdX w A n l) (hs:w.heap.size≤w'.heap.size) (hk:∀ p:Addr,p.block<w.heap.size→w'.cell? p=w.cell? p):RdX w' A n l:=
 ⟨h.1,h.2.1,fun hn=>by
  obtain⟨b,off,e,hb,hr⟩:=h.2.2 hn;exact⟨b,off,e,by omega,rdXs_keep hs hk l b off hb hr⟩⟩
theorem RdX.below(h:RdX w A n l) (hb:Below w.heap.size w w'):RdX w' A n l:=h.keep hb.size fun _ hp=>hb.cell hp
theorem RdX.alloc(h:RdX w A n l) (o:Obj):RdX (w.alloc o) A n l:=h.below ((Below.refl _ _).alloc (Nat.le_refl _) o)
theorem ExV.below{v:Value}(h:ExV w v x) (hb:Below w.heap.size w w'):ExV w' v x:=by
 obtain⟨A,ca,B,cb,e,hr⟩:=h;exact⟨A,ca,B,cb,e,hr.below hb⟩
theorem ExV.alloc{v:Value}(h:ExV w v x) (o:Obj):ExV (w.alloc o) v x:=h.below ((Below.refl _ _).alloc (Nat.le_refl _) o)
theorem rdX.sub(h:rdX w x A B){i:Nat}(hi:i<x.subs.length):
 ∃ b off,B=some ⟨b,off,none⟩∧b<w.heap.size∧∀ i,i<x.subs.length→∃ A' ca B' cb,w.rangeAt b (off+i*6) (exL (subX x i) A' ca B' cb)∧rdX w (subX x i) A' B':=h.subs.at_ hi
end
theorem rangeAt_six{w:World}{b o:Nat}{x:Ex}{A:Option Addr}{ca:Nat}{B:Option Addr}{cb:Nat}(h:w.rangeAt b o (exL x A ca B cb)):
 w.cell? ⟨b,o,none⟩=some (.int .i64 x.k)∧w.cell? ⟨b,o+1,none⟩=some (.int .i64 x.n)∧w.cell? ⟨b,o+2,none⟩=some (.string x.s)∧w.cell? ⟨b,o+3,none⟩=some (.int .i64 x.op) ∧
  w.cell? ⟨b,o+4,none⟩=some (.slice A x.arms.length ca)∧w.cell? ⟨b,o+5,none⟩=some (.slice B x.subs.length cb):=
 ⟨h 0 _ rfl,h 1 _ rfl,h 2 _ rfl,h 3 _ rfl,h 4 _ rfl,h 5 _ rfl⟩
theorem cells_ex:Tryz.prog.cellsOf 52=6:=by kernel_rfl
end
section
open Go.RowKit Go.Sort
theorem box_facts(w:World) (x:Ex) (A:Option Addr) (ca:Nat) (B:Option Addr) (cb:Nat) (w1:World) (h:w.alloc (.cells (exA x A ca B cb) 52)=w1) (hr:rdX w x A B):
 Below w.heap.size w w1∧w.heap.size<w1.heap.size∧rdX w1 x A B∧∀ w',Below w1.heap.size w1 w'→∀ j,w'.cell? ⟨w.heap.size,j,none⟩=(exA x A ca B cb)[j]?:=by
 subst h;refine⟨(Below.refl _ _).alloc (Nat.le_refl _) _,by simp,hr.alloc _,fun w' hb j=>?_⟩;rw [hb.cell (p:=⟨w.heap.size,j,none⟩) (by simp),World.cell?_alloc_new]
theorem refCount:∀ (x:Ex) (A:Option Addr) (ca:Nat) (B:Option Addr) (cb:Nat) (w:World) ,rdX w x A B→∀ left:Nat,left≤1000000 →
 Calls Tryz.prog 25 #[.agg (exA x A ca B cb),.int .i64 left] w fun e w'=>e=.returned (.int .i64 (left-sizeX x:Nat))∧Below w.heap.size w w':=by
 refine size_ind fun x ih A ca B cb w hr left hs=>?_;have HIH:=Hd fun i hi A ca B cb w h l hl=>ih i hi A ca B cb w h l hl;have hsz:=sizeX_eq x;have HSZ:=Hd hsz;have hmx:=hr.subs.max;have HF:=Hd fun w1 h=>box_facts w x A ca B cb w1 h hr;have HSN:=Hd fun i (hi:i<x.subs.length)=>sizes_snoc hi;have HLE:=Hd fun i=>sizes_take x.subs i;have HTL:=Hd (List.take_length (l:=x.subs));clear ih hr;unfold exA at HF HIH ⊢;generalize hlen:x.subs.length=len at *
 by_cases h0:left=0
 · subst h0
   go_enter Tryz.func25,Tryz.ntmps25
   go_upto_region 1 with(fail)
   generalize hw1:w.alloc _=w1;obtain⟨hb1,hg,hr1,hcell⟩:=HF.out w1 hw1;have HB1:=Hd hb1;clear hcell hb1 hr1 hw1 HF
   go_wp2_with fail
   go_ret
   refine⟨?_,HB1.out⟩;rw [Nat.zero_sub];rfl
 · obtain⟨l1,rfl⟩:∃ l1,left=l1+1:=⟨left-1,by omega⟩
   go_enter Tryz.func25,Tryz.ntmps25
   go_upto_region 1 with(fail)
   generalize hw1:w.alloc _=w1;obtain⟨hb1,hg,hr1,hcell⟩:=HF.out w1 hw1;have HC:=Hd hcell;have HB1:=Hd hb1;have HR1:=Hd hr1;clear hcell hb1 hr1 hw1 HF
   go_wp2_with fail
   go_loopw [1,5] (fun s i wr=>∃ k:Nat,k≤len∧i=.int .i64 k∧s=.int .i64 ((l1-sizesX (x.subs.take k):Nat):Int)∧Below w1.heap.size w1 wr) (fun _ i _=>len-(intOf i).toNat)
   case atStart=>exact⟨0,Nat.zero_le _,rfl,by simp [sizesX],Below.refl _ _⟩
   case round=>
    obtain⟨k,hk,rfl,rfl,hbw⟩:=hrel;have HBW:=Hd hbw;have hc5:=HC.out wr hbw 5;have hle:=HLE.out k
    by_cases hlt:k<len
    · by_cases hp:l1-sizesX (x.subs.take k)=0
      · rw [hp]
        go_wp2_with fail
        go_ret
        refine⟨?_,HB1.out.trans (HBW.out.mono HB1.out.size)⟩;rw [show l1+1-sizeX x=0 by omega];rfl
      · obtain⟨b,off,rfl,hb,hat⟩:=(HR1.out.below hbw).sub (i:=k) (by omega);obtain⟨A',ca',B',cb',hrg,hrd⟩:=hat k (by omega);obtain⟨c0,c1,c2,c3,c4,c5⟩:=rangeAt_six hrg;have HRD:=Hd hrd;have hsn:=HSN.out k (by omega);have HSNK:=Hd hsn;clear hat hbw hrg hrd;obtain⟨q,hq⟩:∃ q,l1-sizesX (x.subs.take k)=q:=⟨_,rfl⟩;rw [hq];have hq0:0<q:=by omega
        have hql:q≤1000000:=by omega
        have HQ:=Hd hq;clear hq hp hsn hle hsz
        go_wp2_with fail
        refine(HIH.out k (by omega) A' ca' B' cb' _ HRD.out q hql).mono ?_;rintro r w2 ⟨rfl,hb2⟩;have HB2:=Hd (HBW.out.trans (hb2.mono HBW.out.size));clear hb2
        go_wp2_with fail
        go_roundw
        case rel=>
         refine⟨_,_,_,_,_,_,_,_,_,_,_,_,_,_,_,_,_,_,_,_,?_,rfl⟩;refine⟨k+1,by omega,by go_num,?_,HB2.out⟩;have:=HQ.out;rw [HSNK.out,show l1-(sizesX (x.subs.take k)+sizeX (subX x k))=q-sizeX (subX x k) by omega]
        case measure=>simp [intOf];omega
    · have hkl:k=len:=by omega
      subst hkl;have HE:=Hd (hlen ▸ HTL.out:x.subs.take k=x.subs);rw [HE.out];have HA:l1+1-sizeX x=l1-sizesX x.subs:=by omega
      have HA':=Hd HA;generalize l1-sizesX x.subs=d at *;clear HA hle hsz
      go_wp2_with fail
      go_ret
      refine⟨?_,HB1.out.trans (HBW.out.mono HB1.out.size)⟩;rw [HA'.out];rfl
end
section
open Go.RowKit Go.Sort
def flX(w:World):List Ex→List Value→Prop
 | [],cs=>cs=[]
 | x::l,cs=>∃ A ca B cb cs',cs=exL x A ca B cb++cs'∧rdX w x A B∧flX w l cs'
theorem flX_one{w:World}{x:Ex}{A:Option Addr}{ca:Nat}{B:Option Addr}{cb:Nat}(h:rdX w x A B):flX w [x] (exL x A ca B cb):=⟨A,ca,B,cb,[],by simp,h,rfl⟩
theorem flX_app{w:World}:∀ {l l':List Ex}{cs cs':List Value},flX w l cs→flX w l' cs'→flX w (l++l') (cs++cs')
 | [],l',cs,cs',h,h'=>by
  obtain rfl:cs=[]:=h
  simpa using h'
 | x::l,l',cs,cs',h,h'=>by
  obtain⟨A,ca,B,cb,cs1,rfl,h1,h2⟩:=h;exact⟨A,ca,B,cb,cs1++cs',by simp,h1,flX_app h2 h'⟩
theorem flX_len{w:World}:∀ {l:List Ex}{cs:List Value},flX w l cs→cs.length=l.length*6
 | [],cs,h=>by
  obtain rfl:cs=[]:=h;rfl
 | x::l,cs,h=>by
  obtain⟨A,ca,B,cb,cs1,rfl,h1,h2⟩:=h;rw [List.length_append,flX_len h2,List.length_cons]
  show 6+l.length*6=_
  omega
theorem flX_cells{w:World}:∀ {l:List Ex}{cs:List Value},flX w l cs→∀ u∈cs,u.oneCell'=true
 | [],cs,h,u,hu=>by
  obtain rfl:cs=[]:=h
  cases hu
 | x::l,cs,h,u,hu=>by
  obtain⟨A,ca,B,cb,cs1,rfl,h1,h2⟩:=h;rcases List.mem_append.1 hu with hu | hu
  · simp only [exL,List.mem_cons,List.not_mem_nil,or_false] at hu;rcases hu with rfl | rfl | rfl | rfl | rfl | rfl <;> rfl
  · exact flX_cells h2 u hu
theorem flX_below{w w':World}(hb:Below w.heap.size w w'):∀ {l:List Ex}{cs:List Value},flX w l cs→flX w' l cs
 | [],cs,h=>h
 | x::l,cs,h=>by
  obtain⟨A,ca,B,cb,cs1,rfl,h1,h2⟩:=h;exact⟨A,ca,B,cb,cs1,rfl,h1.below hb,flX_below hb h2⟩
theorem flX_rd{w:World}{b:Nat}:∀ {l:List Ex}{cs:List Value}{off:Nat},flX w l cs→w.rangeAt b off cs→rdXs w l b off
 | [],cs,off,h,hr=>by simp only [rdXs]
 | x::l,cs,off,h,hr=>by
  obtain⟨A,ca,B,cb,cs1,rfl,h1,h2⟩:=h;simp only [rdXs];refine⟨⟨A,ca,B,cb,fun j v hj=>hr j v ?_,h1⟩,flX_rd h2 fun j v hj=>?_⟩
  · rw [List.getElem?_append_left (List.getElem?_eq_some_iff.1 hj).1];exact hj
  · rw [Nat.add_assoc];refine hr (6+j) v ?_;rw [List.getElem?_append_right (by show 6≤6+j;omega)]
    show cs1[6+j-6]?=some v
    rw [show 6+j-6=j by omega];exact hj
def Cel6(w:World) (A:Option Addr) (n:Nat) (cs:List Value):Prop:=
 cs.length=n*6∧n≤9223372036854775807∧(0<n→∃ b off,A=some ⟨b,off,none⟩∧b<w.heap.size∧w.rangeAt b off cs)
theorem Cel6.of_own{w:World}{base:Nat}{e:TypeId}{v:Value}{n:Nat}{cs:List Value}(h:w.ownsRow base e 6 v n cs) (hm:n≤9223372036854775807):∃ A c,v=.slice A n c∧Cel6 w A n cs∧(0<n→∃ g,A=some ⟨g,0,none⟩∧base≤g):=by
 rcases h.2 with⟨rfl,rfl⟩|⟨g,cap,cur,rfl,hg,hh,hnc,hcm,hcs,ht⟩
 · exact⟨none,0,rfl,⟨h.1,hm,by omega⟩,by omega⟩
 · refine⟨_,cap,rfl,⟨h.1,hm,fun hn=>⟨g,0,rfl,(Array.getElem?_eq_some_iff.1 hh).1,fun j v hj=>?_⟩⟩,fun _=>⟨g,rfl,hg⟩⟩;have:=h.cellAt j (by rw [← h.1];exact(List.getElem?_eq_some_iff.1 hj).1);rw [Nat.zero_add,this,hj]
theorem Cel6.rd{w w0:World}{A:Option Addr}{n:Nat}{cs:List Value}{l:List Ex}(h:Cel6 w A n cs) (hf:flX w0 l cs) (hb:Below w0.heap.size w0 w):RdX w A n l:=by
 have h1:=flX_len hf;have h2:=h.1;refine⟨by omega,h.2.1,fun hn=>?_⟩;obtain⟨b,off,e,hbl,hr⟩:=h.2.2 hn;exact⟨b,off,e,hbl,flX_rd (flX_below hb hf) hr⟩
theorem own_belowX{w w':World}{base:Nat}{e:TypeId}{size:Nat}{v:Value}{n:Nat}{xs:List Value}(h:w.ownsRow base e size v n xs) (hb:Below w.heap.size w w'):w'.ownsRow base e size v n xs:=by
 refine⟨h.1,?_⟩;rcases h.2 with h | ⟨g,cap,cur,e1,hg,hh,r⟩
 · exact .inl h
 · exact .inr ⟨g,cap,cur,e1,hg,(hb.block g (Array.getElem?_eq_some_iff.1 hh).1).trans hh,r⟩
def PartsAt(w0 w w':World) (e:Ending) (x:Ex):Prop:=∃ A c cs,e=.returned (.slice A (sizeX x) c)∧Cel6 w' A (sizeX x) cs∧flX w0 (partsX x) cs∧Below w.heap.size w w'∧∃ g,A=some ⟨g,0,none⟩∧w.heap.size≤g
theorem infoEx:∃ i:TypeInfo,Tryz.prog.info? 52=some i∧i.size=6∧i.zero=some (.agg #[.int .i64 0,.int .i64 0,.string ⟨#[]⟩,.int .i64 0,.slice none 0 0,.slice none 0 0])∧i.bytes=88:=by
 have h:(Tryz.prog.info? 52).map (fun i=>(i.size,i.zero,i.bytes))=some (6,some (.agg #[.int .i64 0,.int .i64 0,.string ⟨#[]⟩,.int .i64 0,.slice none 0 0,.slice none 0 0]),88):=by kernel_rfl
 cases hq:Tryz.prog.info? 52 with
 | none=>rw [hq] at h;cases h
 | some i=>
  rw [hq] at h;simp only [Option.map_some,Option.some.injEq,Prod.mk.injEq] at h;exact⟨i,rfl,h.1,h.2.1,h.2.2⟩
theorem refParts:∀ (x:Ex) (A:Option Addr) (ca:Nat) (B:Option Addr) (cb:Nat) (w0 w:World),rdX w0 x A B→Below w0.heap.size w0 w→sizeX x≤1000000 →
 Calls Tryz.prog 41 #[.agg (exA x A ca B cb)] w fun e w'=>PartsAt w0 w w' e x:=by
 refine size_ind fun x ih A ca B cb w0 w hr0 hb0 hs=>?_;obtain⟨i0,hi,hz0,hz1,hz2⟩:=infoEx;have HIH:=Hd ih;have HSZ:=Hd (sizeX_eq x);have hmx:=hr0.subs.max;have HR0:=Hd hr0;have HB0:=Hd hb0;have HF:=Hd fun w1 h=>box_facts w x A ca B cb w1 h (hr0.below hb0);have HSN:=Hd fun i (hi:i<x.subs.length)=>sizes_snoc hi;have HPN:=Hd fun i (hi:i<x.subs.length)=>partss_snoc hi;have HLE:=Hd fun i=>sizes_take x.subs i;have HSUB:=Hd fun i (hi:i<x.subs.length)=>size_sub (subX_mem hi);have HTL:=Hd (List.take_length (l:=x.subs));have HONE:=Hd (flX_one (ca:=ca) (cb:=cb) hr0);have hsx:=sizeX_eq x;clear ih hr0 hb0;unfold exA at HF HIH ⊢;unfold exL at HONE;generalize hlen:x.subs.length=len at *
 go_enter Tryz.func41,Tryz.ntmps41
 go_upto_region 1 with(fail)
 generalize hw1:w.alloc _=w1;obtain⟨hb1,hg,hr1,hcell⟩:=HF.out w1 hw1;have HC:=Hd hcell;have HB1:=Hd hb1;obtain⟨q0,q1,q2,q3,q4,q5⟩:=Sx (hcell w1 (Below.refl _ _));clear hcell hb1 hr1 hw1 HF;have HL:=Hd fun(cs:Array Value) (hs:cs.size=1*6)=>World.ownsRow_lit (base:=w1.heap.size) (e:=52) (size:=6) w1 cs 1 (Nat.le_refl _) (by decide) hs;have HBA:=Hd fun(o:Obj)=>(Below.refl w1.heap.size w1).alloc (Nat.le_refl _) o
 go_wp2_with fail
 go_loopw [3,4] (fun v i wr=>∃ k:Nat,k≤len∧i=.int .i64 k∧(∃ cs,flX w0 (x::partssX (x.subs.take k)) cs∧wr.ownsRow w1.heap.size 52 6 v (1+sizesX (x.subs.take k)) cs)∧Below w1.heap.size w1 wr) (fun _ i _=>len-(intOf i).toNat)
 case atStart=>
  refine⟨0,Nat.zero_le _,rfl,⟨_,?_,HL.out _ rfl⟩,HBA.out _⟩;exact HONE.out
 case round=>
  obtain⟨k,hk,rfl,⟨cs,hfl,hrow⟩,hbw⟩:=hrel;have HBW:=Hd hbw;have HFL:=Hd hfl;have HRW:=Hd hrow;have hc5:=HC.out wr hbw 5;have hle:=HLE.out k;have hbs:=hbw.size;have HB0R:=Hd (HB0.out.trans ((HB1.out.trans (hbw.mono (Nat.le_of_lt hg))).mono HB0.out.size))
  by_cases hlt:k<len
  · obtain⟨b,off,rfl,hb,hat⟩:=HR0.out.sub (i:=k) (by omega);obtain⟨A',ca',B',cb',hrg,hrd⟩:=hat k (by omega);obtain⟨c0,c1,c2,c3,c4,c5⟩:=rangeAt_six (rangeAt_keep hrg hb fun p hp=>HB0R.out.cell hp);have HRD:=Hd hrd;have HSNK:=Hd (HSN.out k (by omega));have HPNK:=Hd (HPN.out k (by omega));have hsn:=HSN.out k (by omega);have hle2:=HLE.out (k+1);have hss:=HSUB.out k (by omega);clear hat hbw hrg hrd hfl hrow
    go_wp2_with fail
    refine(HIH.out k (by omega) A' ca' B' cb' w0 _ HRD.out HB0R.out (by omega)).mono ?_;rintro r w2 ⟨A2,c2',cs2,rfl,hcel,hfl2,hb2,_⟩;obtain⟨b2,off2,rfl,hbl2,hrg2⟩:=hcel.2.2 (size_pos _);have HFA:=Hd (flX_app HFL.out hfl2);have HF2:=Hd (flX_cells hfl2);have hcl:=hcel.1;have hrow2:=own_belowX HRW.out hb2;have HBW2:=Hd (HBW.out.trans (hb2.mono HBW.out.size));have hbs2:=HBW2.out.size
    go_wp2_with (at_builtin;go_must (refine wpList_append_own_at _ rfl _ _ 50 rfl w1.heap.size 52 i0 _ 6 88 Tryz.underlying50 hi hz1 hz0 hz2 rfl (by decide) _ _ _ rfl hrow2 ⟨b2,off2,none⟩ (sizeX (subX x k)) c2' cs2 rfl hcl (fun j u hu=>by rw [Addr.add_mid];exact hrg2 j u hu) HF2.out (by unfold maxLen;omega) (by omega) hbs2 ?_;intro v' w3 hown' hgrow _ hloc))
    have HBE:=Hd (HBW2.out.grown hgrow hbs2 (fun j hj=>(hrow2.lt j hj).1));have HOW:=Hd hown';clear hown' hgrow hloc hrow2 hb2
    go_wp2_with fail
    go_roundw
    case rel=>
     refine⟨k+1,by omega,by go_num,⟨cs++cs2,?_,?_⟩,HBE.out⟩
     · rw [HPNK.out];exact HFA.out
     · rw [HSNK.out,← Nat.add_assoc];exact HOW.out
    case measure=>simp [intOf];omega
  · have hkl:k=len:=by omega
    subst hkl;have HE:=Hd (hlen ▸ HTL.out:x.subs.take k=x.subs);rw [HE.out] at HRW HFL;obtain⟨A3,c3,rfl,hcel,hgg⟩:=Cel6.of_own HRW.out (by omega);have HCL:=Hd hcel;obtain⟨g3,hA3,hg3⟩:=hgg (by omega);have HA3:=Hd hA3;clear hA3 hgg;clear hcel hfl hrow
    go_wp2_with fail
    go_ret
    rw [← HSZ.out] at HCL;refine⟨A3,c3,cs,?_,HCL.out,?_,HB1.out.trans (HBW.out.mono (Nat.le_of_lt hg)),g3,HA3.out,by omega⟩
    · rw [HSZ.out];rfl
    · rw [partsX_eq];exact HFL.out
end
section
open Go.RowKit Go.Sort
theorem all_false{α:Type} [Inhabited α] {l:List α}{f:α→Bool}{i:Nat}(hi:i<l.length) (h:f (l[i]?.getD default)=false):l.all f=false:=by
 rw [List.all_eq_false];refine⟨l[i]?.getD default,?_,by simp [h]⟩;rw [List.getElem?_eq_getElem hi];exact List.getElem_mem _
theorem all_take_succ{α:Type} [Inhabited α] {l:List α}{f:α→Bool}{k:Nat}(hk:k<l.length) (h:(l.take k).all f=true) (hx:f (l[k]?.getD default)=true):(l.take (k+1)).all f=true:=by
 rw [List.take_succ_eq_append_getElem hk,List.all_append,h,Bool.true_and];rw [List.getElem?_eq_getElem hk] at hx
 simpa using hx
theorem all_take_end{α:Type}{l:List α}{f:α→Bool}{k:Nat}(h:(l.take k).all f=true) (hk:l.length≤k):l.all f=true:=by rwa [List.take_of_length_le hk] at h
instance :Inhabited ByteArray:=⟨ByteArray.empty⟩
def fewA(t:ByteArray):Bool:=!decide (100<t.size)
def fewP(p:Ex):Bool:=!decide (200<p.s.size) && !decide (20<p.arms.length) && p.arms.all fewA
def tinyX(x:Ex):Bool:=decide (sizeX x<200) && (partsX x).all fewP
theorem refFew(x:Ex) (A:Option Addr) (ca:Nat) (B:Option Addr) (cb:Nat) (w:World) (hr:rdX w x A B) (hs:sizeX x≤1000000):
 Calls Tryz.prog 26 #[.agg (exA x A ca B cb)] w fun e w'=>e=.returned (.bool ((partsX x).all fewP))∧Below w.heap.size w w':=by
 have HF:=Hd fun w1 h=>box_facts w x A ca B cb w1 h hr;have HP:=Hd fun w1 (h:Below w.heap.size w w1)=>refParts x A ca B cb w w1 hr h hs;have HLN:=Hd (partsX_len x);have hsp:=size_pos x;clear hr;unfold exA at HF HP ⊢
 go_enter Tryz.func26,Tryz.ntmps26
 go_upto_region 1 with(fail)
 generalize hw1:w.alloc _=w1;obtain⟨hb1,hg,hr1,hcell⟩:=HF.out w1 hw1;have HB1:=Hd hb1;have HP1:=Hd (HP.out w1 hb1);obtain⟨q0,q1,q2,q3,q4,q5⟩:=Sx (hcell w1 (Below.refl _ _));clear hcell hb1 hr1 hw1 HF HP
 go_wp2_with fail
 refine HP1.out.mono ?_;rintro r w2 ⟨A2,c2,cs2,rfl,hcel,hfl2,hb2,_⟩;have HB2:=Hd (HB1.out.trans (hb2.mono HB1.out.size));have HRX:=Hd (hcel.rd hfl2 HB2.out);clear hcel hfl2 hb2 q0 q1 q2 q3 q4 q5 HP1;generalize hl:partsX x=l at *;have HLL:=Hd hl;generalize hn:sizeX x=n at *
 go_wp2_with fail
 go_loopw [4] (fun i wr=>∃ k:Nat,k≤n∧i=.int .i64 k∧w2=wr∧(l.take k).all fewP=true) (fun i _=>n-(intOf i).toNat)
 case atStart=>exact⟨0,Nat.zero_le _,rfl,rfl,by simp⟩
 case round=>
  obtain⟨k,hk,rfl,rfl,hall⟩:=hrel;have HA:=Hd hall;clear hall
  by_cases hlt:k<n
  · obtain⟨b,off,rfl,hb,hat⟩:=HRX.out.at_ hlt;obtain⟨A',ca',B',cb',hrg,hrd⟩:=hat k hlt;obtain⟨c0,c1,c2,c3,c4,c5⟩:=rangeAt_six hrg;have HAR:=Hd hrd.arms;have HK:=Hd (show k<l.length by rw [HLN.out];exact hlt);clear hat hrg hrd;generalize hp:l[k]?.getD default=p at *;have HPP:=Hd hp
    by_cases h1:200<p.s.size
    · have HN:=Hd (all_false (f:=fewP) HK.out (by rw [HPP.out];simp [fewP,h1]))
      go_wp2_with fail
      go_ret
      exact⟨ret_bool (by first | exact HN.out.symm | (rw [HLL.out];exact HN.out.symm)),HB2.out⟩
    · by_cases h2:20<p.arms.length
      · have HN:=Hd (all_false (f:=fewP) HK.out (by rw [HPP.out];simp [fewP,h2]))
        go_wp2_with fail
        go_ret
        exact⟨ret_bool (by first | exact HN.out.symm | (rw [HLL.out];exact HN.out.symm)),HB2.out⟩
      · generalize hm:p.arms.length=m at *;have HM:=Hd hm
        go_wp2_with fail
        go_loopw [5] (fun j wr=>∃ i:Nat,i≤m∧j=.int .i64 i∧w2=wr∧(p.arms.take i).all fewA=true) (fun j _=>m-(intOf j).toNat)
        case atStart=>exact⟨0,Nat.zero_le _,rfl,rfl,by simp⟩
        case round=>
         obtain⟨i,hi,rfl,rfl,hall⟩:=hrel;have HJ:=Hd hall;clear hall
         by_cases him:i<m
         · obtain⟨b3,off3,rfl,hb3,hc3⟩:=HAR.out.at_ him;have hci:=hc3 i him;have HI:=Hd (show i<p.arms.length by rw [HM.out];exact him);clear hc3;generalize ht:p.arms[i]?.getD ByteArray.empty=t at *;have HT:=Hd ht
           by_cases h3:100<t.size
           · have HN:=Hd (all_false (f:=fewA) HI.out (by show fewA (p.arms[i]?.getD ByteArray.empty)=false;rw [HT.out];simp [fewA,h3]));have HN2:=Hd (all_false (f:=fewP) HK.out (by rw [HPP.out];unfold fewP;rw [HN.out];simp))
             go_wp2_with fail
             go_ret
             exact⟨ret_bool (by first | exact HN2.out.symm | (rw [HLL.out];exact HN2.out.symm)),HB2.out⟩
           · have HN:=Hd (all_take_succ (f:=fewA) HI.out HJ.out (by show fewA (p.arms[i]?.getD ByteArray.empty)=true;rw [HT.out];simp [fewA,h3]))
             go_wp2_with fail
             go_roundw
             case rel=>exact⟨i+1,by omega,by go_num,(by first | trivial | rfl),HN.out⟩
             case measure=>simp [intOf];omega
         · have HN:=Hd (all_take_end HJ.out (by rw [HM.out];omega));have HN2:=Hd (all_take_succ (f:=fewP) HK.out HA.out (by rw [HPP.out];unfold fewP;rw [HN.out,HM.out];simp [h1,h2]))
           go_wp2_with fail
           go_roundw
           case rel=>exact⟨k+1,by omega,by go_num,(by first | trivial | rfl),HN2.out⟩
           case measure=>simp [intOf];omega
  · have HN:=Hd (all_take_end HA.out (by rw [HLN.out];omega))
    go_wp2_with fail
    go_ret
    exact⟨ret_bool (by first | exact HN.out.symm | (rw [HLL.out];exact HN.out.symm)),HB2.out⟩
theorem refSmall(x:Ex) (A:Option Addr) (ca:Nat) (B:Option Addr) (cb:Nat) (w:World) (hr:rdX w x A B):
 Calls Tryz.prog 14 #[.agg (exA x A ca B cb)] w fun e w'=>e=.returned (.bool (tinyX x))∧Below w.heap.size w w':=by
 have HF:=Hd fun w1 h=>box_facts w x A ca B cb w1 h hr;have HCT:=Hd fun w1 (h:rdX w1 x A B)=>refCount x A ca B cb w1 h 200 (by omega);have HFW:=Hd fun w1 (h:rdX w1 x A B) (h2:sizeX x≤1000000)=>refFew x A ca B cb w1 h h2;have HT:=Hd (show tinyX x=(decide (sizeX x<200) && (partsX x).all fewP) from rfl);clear hr;unfold exA at HF HCT HFW ⊢
 by_cases hs:sizeX x<200
 · obtain⟨q,hq⟩:∃ q,200-sizeX x=q+1:=⟨199-sizeX x,by omega⟩;rw [hq] at HCT;have HT1:=Hd (show tinyX x=(partsX x).all fewP by rw [HT.out];simp [hs]);clear hq HT
   go_enter Tryz.func14,Tryz.ntmps14
   go_upto_region 1 with(fail)
   generalize hw1:w.alloc _=w1;obtain⟨hb1,hg,hr1,hcell⟩:=HF.out w1 hw1;have HB1:=Hd hb1;have HC1:=Hd (HCT.out w1 hr1);have HR1:=Hd hr1;obtain⟨q0,q1,q2,q3,q4,q5⟩:=Sx (hcell w1 (Below.refl _ _));have HCC:=Hd hcell;clear hcell hb1 hr1 hw1 HF HCT
   go_wp2_with fail
   refine HC1.out.mono ?_;rintro r w2 ⟨rfl,hb2⟩;have HB2:=Hd (HB1.out.trans (hb2.mono HB1.out.size));have HF2:=Hd (HFW.out w2 (HR1.out.below hb2) (by omega));clear q0 q1 q2 q3 q4 q5;obtain⟨q0,q1,q2,q3,q4,q5⟩:=Sx (HCC.out w2 hb2);clear hb2 HCC HFW
   go_wp2_with fail
   refine HF2.out.mono ?_;rintro r w3 ⟨rfl,hb3⟩;have HB3:=Hd (HB2.out.trans (hb3.mono HB2.out.size));clear hb3;generalize hb:(partsX x).all fewP=bb at *
   go_wp2_with fail
   go_ret
   exact⟨ret_bool (by rw [HT1.out]),HB3.out⟩
 · have hq:200-sizeX x=0:=by omega
   rw [hq] at HCT;have HT1:=Hd (show tinyX x=false by rw [HT.out];simp [hs]);clear hq HT HFW
   go_enter Tryz.func14,Tryz.ntmps14
   go_upto_region 1 with(fail)
   generalize hw1:w.alloc _=w1;obtain⟨hb1,hg,hr1,hcell⟩:=HF.out w1 hw1;have HB1:=Hd hb1;have HC1:=Hd (HCT.out w1 hr1);obtain⟨q0,q1,q2,q3,q4,q5⟩:=Sx (hcell w1 (Below.refl _ _));clear hcell hb1 hr1 hw1 HF HCT
   go_wp2_with fail
   refine HC1.out.mono ?_;rintro r w2 ⟨rfl,hb2⟩;have HB2:=Hd (HB1.out.trans (hb2.mono HB1.out.size));clear hb2
   go_wp2_with fail
   go_ret
   exact⟨ret_bool HT1.out.symm,HB2.out⟩
end
section
open Go.RowKit
theorem Rd.lit(k:IntKind) (w:World) (T:TypeId) (l:List Int) (n:Nat) (hn:l.length=n) (hm:n≤9223372036854775807) (hwf:∀ z∈l,(Lit.int k z).wf=true) (cs:Array Value) (hcs:cs=(l.map (Value.int k)).toArray):
 Rd k (w.alloc (.cells cs T)) (some ⟨w.heap.size,0,none⟩) n n l:=by
 subst hcs hn;refine⟨rfl,Nat.le_refl _,by unfold maxLen;omega,hwf,fun _=>⟨_,_,rfl,by simp,fun i hi=>?_⟩⟩;rw [Nat.zero_add,World.cell?_alloc_new]
 simp [List.getElem?_eq_getElem hi]
section
variable {P:Program}{w:World}
theorem run_append_nil(base:Nat) (t ty e:TypeId) (i:TypeInfo) (size:Nat) (ht:P.underlying t=some (.slice e)) (hi:P.info? e=some i)
 (v:Value) (n:Nat) (xs:List Value) (hown:w.ownsRow base e size v n xs) (c:Nat):(Builtin.append_ #[t,t] ty #[v,.slice none 0 c]).run P w=.ok v w:=by
 rcases hown.2 with⟨rfl,rfl⟩|⟨g,cap,cur,rfl,_,_,hnc,_⟩
 · simp [Builtin.append_,run_underlying ht,sizeOf,typeInfo,hi,Builtin.lenOf,Builtin.firstCells]
 · simp [Builtin.append_,run_underlying ht,sizeOf,typeInfo,hi,Builtin.lenOf,Builtin.firstCells,hnc,storeCells]
end
end
section
open Go.RowKit
def sameT(a b:List ByteArray):Bool:=decide (a.map (fun s=>s.toList)=b.map (fun s=>s.toList))
def sameTo(a b:List ByteArray) (k:Nat):Prop:=∀ j,j<k→((a[j]?.getD ByteArray.empty).toList==(b[j]?.getD ByteArray.empty).toList)=true
section
variable {a b:List ByteArray}{k:Nat}
theorem sameT_len(h:a.length≠b.length):sameT a b=false:=decide_eq_false fun e=>h (by simpa using congrArg List.length e)
theorem sameT_at(ha:k<a.length) (hb:k<b.length) (h:((a[k]?.getD ByteArray.empty).toList==(b[k]?.getD ByteArray.empty).toList)=false):sameT a b=false:=decide_eq_false fun e=>by
 have h1:=congrArg (fun l=>l[k]?) e;simp only [List.getElem?_map,List.getElem?_eq_getElem ha,List.getElem?_eq_getElem hb,Option.map_some,Option.some.injEq] at h1;rw [List.getElem?_eq_getElem ha,List.getElem?_eq_getElem hb,Option.getD_some,Option.getD_some,h1] at h
 simp at h
theorem sameT_yes(hl:a.length=b.length) (H:sameTo a b k) (h:a.length≤k):sameT a b=true:=decide_eq_true (by
 apply List.ext_getElem
 · simpa using hl
 · intro i h1 h2;rw [List.length_map] at h1 h2;have:=H i (by omega);rw [List.getElem?_eq_getElem h1,List.getElem?_eq_getElem h2,Option.getD_some,Option.getD_some] at this
   simpa using this)
theorem sameTo_succ(H:sameTo a b k) (h:((a[k]?.getD ByteArray.empty).toList==(b[k]?.getD ByteArray.empty).toList)=true):sameTo a b (k+1):=fun j hj=>by
 rcases Nat.lt_or_ge j k with h1 | h1
 · exact H j h1
 · obtain rfl:j=k:=by omega
   exact h
end
end
section
open Go.RowKit
end
end Go.Proofs.YtkbpdoomhfkngaaGreat
