/- Parts of the proof: Base, IdM, ExM, Str, ExR, ExZ, ExC, NmT, App. Conditions: each theorem's own. -/
import Derived.WalkKit
import Derived.ProofKit
import Derived.OpenShut
import Derived.Below
import Derived.Lib.Hide
import Derived.IntWalk
import Derived.Deep.QuietTactic
import Derived.BigQuiet
import Derived.Deep.Draws
import Derived.Laws.BitsAllLaws
import Derived.Laws.BitsLemmas
import Derived.Laws.Bits64
import Derived.Deep.OwnRows
import Derived.RegionTactic
import Derived.ChangeAlike
import Derived.OwnWalk
import Derived.Outline
import Derived.WalkSpells
import Derived.Lib.Bytealg
import Derived.Test.YtokiaaapgkdpmaaGreatDoorRows
import Derived.Deep.MidRow
import Derived.Deep.Slices
import Derived.Deep.Fields
import Derived.ChangeSame
import Derived.SliceStrings
import Derived.Lib.Strings
import Derived.Lib.Walk
import Derived.Deep.RegionHeld3
import Derived.Laws.AppendOwnNone
namespace Go.Proofs.YtokiaaapgkdpmaaGreatDoor
set_option linter.unusedVariables false
set_option linter.unusedSimpArgs false
set_option maxRecDepth 100000
set_option maxHeartbeats 40000000
theorem Hd {p : Prop} (h : p) : Go.RowKit.Hid p := Lib.hid h
theorem Sx {P : Nat → Prop} (h : ∀ j, P j) : P 0 ∧ P 1 ∧ P 2 ∧ P 3 ∧ P 4 ∧ P 5 := ⟨h 0, h 1, h 2, h 3, h 4, h 5⟩
theorem Ya {α : Type} {l : List α} {i : Nat} : l.toArray[i]? = l[i]? := List.getElem?_toArray
theorem Yb {α : Type} {a : α} {l : List α} : (a :: l)[0]? = some a := List.getElem?_cons_zero
theorem Yc {α : Type} {a : α} {l : List α} {i : Nat} : (a :: l)[i + 1]? = l[i]? := List.getElem?_cons_succ
theorem Yd {α : Type} {l : List α} {i : Nat} {a : α} : l.toArray.setIfInBounds i a = (l.set i a).toArray := by simp
theorem Ye {α : Type} {a b : α} {l : List α} : (a :: l).set 0 b = b :: l := rfl
theorem Yf {α : Type} {a b : α} {l : List α} {i : Nat} : (a :: l).set (i + 1) b = a :: l.set i b := rfl
section
open Go.RowKit
def Rd(k:IntKind) (w:World) (A:Option Addr) (n c:Nat) (l:List Int):Prop:=
 l.length=n∧n≤c∧c≤maxLen∧(∀ z∈l,(Lit.int k z).wf=true) ∧
 (0<n→∃ b off,A=some ⟨b,off,none⟩∧b<w.heap.size∧∀ i,i<n→w.cell? ⟨b,off+i,none⟩=some (.int k (l[i]?.getD 0)))
section
variable {k:IntKind}{w w':World}{A:Option Addr}{n c:Nat}{l:List Int}
theorem Rd.nil_(k:IntKind) (w:World):Rd k w none 0 0 []:=⟨rfl,Nat.le_refl _,by decide,by simp,by omega⟩
theorem Rd.len(h:Rd k w A n c l):l.length=n:=h.1
theorem Rd.le(h:Rd k w A n c l):n≤c:=h.2.1
theorem Rd.max(h:Rd k w A n c l):n≤9223372036854775807:=by
 have h1:=h.2.1;have h2:=h.2.2.1;unfold maxLen at h2;omega
theorem Rd.at_(h:Rd k w A n c l){i:Nat}(hi:i<n):
 ∃ b off,A=some ⟨b,off,none⟩∧b<w.heap.size∧∀ i,i<n→w.cell? ⟨b,off+i,none⟩=some (.int k (l[i]?.getD 0)):=
 h.2.2.2.2 (by omega)
theorem Rd.wf(h:Rd k w A n c l){i:Nat}(hi:i<n):(Lit.int k (l[i]?.getD 0)).wf=true:=by
 have h1:=h.1
 have:l[i]?.getD 0∈l:=by
  rw [List.getElem?_eq_getElem (by omega)];exact List.getElem_mem _
 exact h.2.2.2.1 _ this
theorem Rd.u8(h:Rd .u8 w A n c l){i:Nat}(hi:i<n):0≤l[i]?.getD 0∧l[i]?.getD 0≤255:=by
 simpa [Lit.wf,IntKind.min,IntKind.max,IntKind.signed,IntKind.bits] using h.wf hi
theorem Rd.keep(h:Rd k w A n c l) (hs:w.heap.size≤w'.heap.size) (hk:∀ p:Addr,p.block<w.heap.size→w'.cell? p=w.cell? p):Rd k w' A n c l:=
 ⟨h.1,h.2.1,h.2.2.1,h.2.2.2.1,fun hn=>by
  obtain⟨b,off,e,hb,hc⟩:=h.2.2.2.2 hn;exact⟨b,off,e,by omega,fun i hi=>(hk _ hb).trans (hc i hi)⟩⟩
theorem Rd.below(h:Rd k w A n c l) (hb:Below w.heap.size w w'):Rd k w' A n c l:=h.keep hb.size fun _ hp=>hb.cell hp
theorem Rd.drewN(h:Rd k w A n c l) (m:Nat):Rd k (w.drewN m) A n c l:=h
theorem Rd.drew(h:Rd k w A n c l):Rd k w.drew A n c l:=h
theorem Rd.alloc(h:Rd k w A n c l) (o:Obj):Rd k (w.alloc o) A n c l:=h.below ((Below.refl _ _).alloc (Nat.le_refl _) o)
end
theorem Rd.of_own{k:IntKind}{w:World}{base:Nat}{e:TypeId}{v:Value}{n:Nat}{xs:List Value}{l:List Int}(h:w.ownsRow base e 1 v n xs) (hx:xs=l.map (Value.int k)) (hwf:∀ z∈l,(Lit.int k z).wf=true):
 ∃ A c,v=.slice A n c∧Rd k w A n c l∧(0<n→∃ g,A=some ⟨g,0,none⟩∧base≤g):=by
 subst hx;have hl:l.length=n:=by have:=h.1;simpa using this
 rcases h.2 with⟨rfl,rfl⟩|⟨g,cap,cur,rfl,hg,hh,hnc,hcm,hcs,ht⟩
 · obtain rfl:l=[]:=List.eq_nil_of_length_eq_zero hl;exact⟨none,0,rfl,Rd.nil_ _ _,by omega⟩
 · refine⟨_,cap,rfl,⟨hl,hnc,hcm,hwf,fun hn=>⟨g,0,rfl,?_,fun i hi=>?_⟩⟩,fun _=>⟨g,rfl,hg⟩⟩
   · exact(Array.getElem?_eq_some_iff.1 hh).1
   · have h1:=h.cellAt i (by omega);rw [Nat.zero_add,h1]
     simp [List.getElem?_eq_getElem (show i<l.length by omega)]
theorem Rd.news{k:IntKind}{w:World}{a:Addr}{n c:Nat}{l:List Int}(h:Rd k w (some a) n c l) (j:Nat) (u:Value) (hu:(l.map (Value.int k))[j]?=some u):w.cell? (a.add j)=some u:=by
 have hj:j<l.length:=by
  rcases Nat.lt_or_ge j l.length with h | h
  · exact h
  · rw [List.getElem?_eq_none (by simpa using h)] at hu;cases hu
 obtain⟨b,off,e,_,hc⟩:=h.at_ (i:=j) (by rw [← h.len];exact hj);injection e with e;subst e;have:=hc j (by rw [← h.len];exact hj);have e2:(⟨b,off,none⟩:Addr).add j=⟨b,off+j,none⟩:=by unfold Addr.add;split <;> simp_all
 rw [e2,this,← hu]
 simp [List.getElem?_eq_getElem hj]
theorem below_drewN{B:Nat}{a w:World}(h:Below B a w) (n:Nat):Below B a (w.drewN n):=⟨h.os,h.tape,h.output,h.size,h.block⟩
theorem ret_int{k:IntKind}{a b:Int}(h:a=b):Ending.returned (.int k a)=.returned (.int k b):=by rw [h]
theorem ret_bool{a b:Bool}(h:a=b):Ending.returned (.bool a)=.returned (.bool b):=by rw [h]
end
section
def smallB(n:Int):Bool:=decide (97≤n∧n≤122)
def greatB(n:Int):Bool:=decide (65≤n∧n≤90)
def digitB(n:Int):Bool:=decide (48≤n∧n≤57)
def nameC(n:Int):Bool:=smallB n || greatB n || digitB n || decide (n=95)
def nameB(first:Int→Bool) (l:List UInt8):Bool:=
 decide (1≤l.length∧l.length≤12) && (match l with | []=>false | c::_=>first (c.toNat:Int)) && l.all fun c=>nameC (c.toNat:Int)
def wordsL:List (List UInt8):=[[110,111,100,101],[114,101,116,117,114,110,115],[118,97,114],[108,101,116],[116,101,108],[101,110,117,109],[105,102],[116,104,101,110],[101,108,115,101],[102,98,121],[112,114,101],[119,104,101,110],[109,101,114,103,101],[101,118,101,114,121],[110,111,116],[97,110,100],[111,114],[120,111,114],[109,111,100],[116,114,117,101],[102,97,108,115,101],[105,110,116],[98,111,111,108],[119,105,116,104]]
def wordB(l:List UInt8):Bool:=decide (l∈wordsL)
def lowB(l:List UInt8):Bool:=nameB smallB l && !wordB l
def highB(l:List UInt8):Bool:=nameB greatB l
def cutL(c:UInt8):List UInt8→List (List UInt8)
 | []=>[[]]
 | b::l=>if b=c then []::cutL c l else match cutL c l with | []=>[[b]] | p::ps=>(b::p)::ps
def numB(l:List UInt8):Bool:=
 decide (1≤l.length∧l.length≤3) && (match l with | []=>false | c::_=>!decide (c=48)) && l.all fun c=>digitB (c.toNat:Int)
def partL:List (List UInt8)→Bool
 | [a]=>lowB a
 | [a,n]=>lowB a && numB n
 | _=>false
def partB(l:List UInt8):Bool:=partL (cutL 46 l)
def pathB(l:List UInt8):Bool:=(cutL 47 l).all partB
theorem cutL_ne(c:UInt8) (l:List UInt8):cutL c l≠[]:=by
 cases l with
 | nil=>simp [cutL]
 | cons b l=>
  unfold cutL
  split
  · simp
  · split <;> simp
theorem cutL_none{c:UInt8}:∀ {l:List UInt8},c∉l→cutL c l=[l]
 | [],_=>rfl
 | b::l,h=>by
  have h1:b≠c:=fun e=>h (by simp [e]);have h2:=cutL_none (l:=l) (fun m=>h (List.mem_cons_of_mem _ m))
  simp [cutL,h1,h2]
theorem cutL_app{c:UInt8}:∀ (p r:List UInt8),cutL c (p++c::r)=cutL c p++cutL c r
 | [],r=>by simp [cutL]
 | b::p,r=>by
  have ih:=cutL_app (c:=c) p r
  by_cases hb:b=c
  · simp [cutL,hb,ih]
  · have hn:=cutL_ne c p
    cases hp:cutL c p with
    | nil=>exact absurd hp hn
    | cons q qs=>simp [cutL,hb,ih,hp]
theorem cutL_at{c:UInt8}{p r:List UInt8}(h:c∉p):cutL c (p++c::r)=p::cutL c r:=by
 rw [cutL_app,cutL_none h];rfl
theorem nameC_bd{n:Int}(h:nameC n=true):48≤n∧n≤122:=by
 simp [nameC,smallB,greatB,digitB] at h
 omega
theorem nameB_all{first:Int→Bool}{l:List UInt8}(h:nameB first l=true):∀ c∈l,nameC (c.toNat:Int)=true:=by
 simp [nameB] at h
 exact h.2
theorem path_app(s t:List UInt8):pathB (s++47::t)=(pathB s && pathB t):=by
 unfold pathB;rw [cutL_app,List.all_append]
theorem numB_point{l:List UInt8}(h:(46:UInt8)∈l):numB l=false:=by
 cases hn:numB l with
 | false=>rfl
 | true=>
  simp [numB] at hn
  have:=hn.2 46 h
  revert this
  decide
theorem partB_none{l:List UInt8}(h:(46:UInt8)∉l):partB l=lowB l:=by
 unfold partB;rw [cutL_none h];rfl
theorem partB_at{p r:List UInt8}(h:(46:UInt8)∉p):partB (p++46::r)=(lowB p && numB r):=by
 unfold partB;rw [cutL_at h]
 by_cases hr:(46:UInt8)∈r
 · rw [numB_point hr];obtain⟨a,b,rfl⟩:=List.append_of_mem hr;rw [cutL_app];have h1:=cutL_ne 46 a;have h2:=cutL_ne 46 b
   cases ha:cutL 46 a with
   | nil=>exact absurd ha h1
   | cons x xs=>
    cases hb:cutL 46 b with
    | nil=>exact absurd hb h2
    | cons y ys=>
     cases xs with
     | nil=>simp [partL]
     | cons z zs=>simp [partL]
 · rw [cutL_none hr];rfl
theorem index_none{l:List UInt8}{c:UInt8}(h:Lib.indexByte l c<0):c∉l:=by
 induction l with
 | nil=>simp
 | cons b l ih=>
  unfold Lib.indexByte at h;have hg:=Lib.indexByte_ge l c
  split at h
  · omega
  · split at h
    · rename_i h1 h2
      have:=ih (by simp at h2;omega)
      simp at h1
      simp [this]
      exact fun e=>h1 e.symm
    · rename_i h1 h2
      simp at h2
      omega
theorem index_some{l:List UInt8}{c:UInt8}(h:0≤Lib.indexByte l c):
 ∃ k:Nat,Lib.indexByte l c=k∧k<l.length∧c∉l.take k∧l=l.take k++c::l.drop (k+1):=by
 induction l with
 | nil=>simp [Lib.indexByte] at h
 | cons b l ih=>
  unfold Lib.indexByte at h ⊢;have hg:=Lib.indexByte_ge l c
  by_cases hb:b=c
  · subst hb;exact⟨0,by simp,by simp,by simp,by simp⟩
  · have hb':(b==c)=false:=by simpa using hb
    simp only [hb',Bool.false_eq_true,if_false] at h ⊢
    by_cases h1:Lib.indexByte l c=-1
    · simp [h1] at h
    · have h1':(Lib.indexByte l c==-1)=false:=by simpa using h1
      simp only [h1',Bool.false_eq_true,if_false] at h ⊢;obtain⟨k,e1,e2,e3,e4⟩:=ih (by omega);refine⟨k+1,by omega,by simp;omega,?_,?_⟩
      · simp
        exact⟨fun e=>hb e.symm,e3⟩
      · simp
        exact e4
theorem path_none{l:List UInt8}(h:(47:UInt8)∉l):pathB l=partB l:=by
 unfold pathB;rw [cutL_none h]
 simp
theorem path_at{p r:List UInt8}(h:(47:UInt8)∉p):pathB (p++47::r)=(partB p && pathB r):=by
 rw [path_app,path_none h]
def onceB(ls:List (List UInt8)):Bool:=decide ls.Nodup
end
section
inductive Ex where
 | mk (k n:Int) (s:ByteArray) (op:Int) (arms:List ByteArray) (subs:List Ex)
def Ex.k:Ex→Int | .mk k _ _ _ _ _=>k
def Ex.n:Ex→Int | .mk _ n _ _ _ _=>n
def Ex.s:Ex→ByteArray | .mk _ _ s _ _ _=>s
def Ex.op:Ex→Int | .mk _ _ _ op _ _=>op
def Ex.arms:Ex→List ByteArray | .mk _ _ _ _ a _=>a
def Ex.subs:Ex→List Ex | .mk _ _ _ _ _ l=>l
instance :Inhabited Ex:=⟨.mk 0 0 ByteArray.empty 0 [] []⟩
theorem Ex.eta(x:Ex):Ex.mk x.k x.n x.s x.op x.arms x.subs=x:=by cases x;rfl
mutual
def sizeX:Ex→Nat
 | .mk _ _ _ _ _ l=>1+sizesX l
def sizesX:List Ex→Nat
 | []=>0
 | x::l=>sizeX x+sizesX l
end
mutual
def depthX:Ex→Nat
 | .mk _ _ _ _ _ l=>depthsX l+1
def depthsX:List Ex→Nat
 | []=>0
 | x::l=>max (depthX x) (depthsX l)
end
mutual
def partsX:Ex→List Ex
 | .mk k n s op a l=>.mk k n s op a l::partssX l
def partssX:List Ex→List Ex
 | []=>[]
 | x::l=>partsX x++partssX l
end
theorem sizeX_eq(x:Ex):sizeX x=1+sizesX x.subs:=by cases x;simp only [sizeX,Ex.subs]
theorem depthX_eq(x:Ex):depthX x=depthsX x.subs+1:=by cases x;simp only [depthX,Ex.subs]
theorem partsX_eq(x:Ex):partsX x=x::partssX x.subs:=by cases x;simp only [partsX,Ex.subs]
theorem sizesX_app(a b:List Ex):sizesX (a++b)=sizesX a+sizesX b:=by
 induction a with
 | nil=>simp [sizesX]
 | cons x a ih=>simp [sizesX,ih];omega
theorem partssX_app(a b:List Ex):partssX (a++b)=partssX a++partssX b:=by
 induction a with
 | nil=>simp [partssX]
 | cons x a ih=>simp [partssX,ih]
theorem depthsX_app(a b:List Ex):depthsX (a++b)=max (depthsX a) (depthsX b):=by
 induction a with
 | nil=>simp [depthsX]
 | cons x a ih=>simp only [List.cons_append,depthsX,ih];omega
theorem size_pos(x:Ex):0<sizeX x:=by rw [sizeX_eq];omega
theorem sizes_mem{l:List Ex}{x:Ex}(h:x∈l):sizeX x≤sizesX l:=by
 induction l with
 | nil=>cases h
 | cons y l ih=>
  simp only [sizesX];rcases List.mem_cons.1 h with rfl | h
  · omega
  · have:=ih h;omega
theorem size_sub{x y:Ex}(h:y∈x.subs):sizeX y<sizeX x:=by
 have:=sizes_mem h;rw [sizeX_eq x];omega
theorem sizes_take(l:List Ex) (k:Nat):sizesX (l.take k)≤sizesX l:=by
 have:=sizesX_app (l.take k) (l.drop k);rw [List.take_append_drop] at this;omega
theorem sizes_len(l:List Ex):l.length≤sizesX l:=by
 induction l with
 | nil=>simp [sizesX]
 | cons x l ih=>have:=size_pos x;simp [sizesX];omega
mutual
theorem partsX_len:∀ x:Ex,(partsX x).length=sizeX x
 | .mk k n s op a l=>by simp only [partsX,sizeX,List.length_cons,partssX_len l];omega
theorem partssX_len:∀ l:List Ex,(partssX l).length=sizesX l
 | []=>rfl
 | x::l=>by simp only [partssX,sizesX,List.length_append,partsX_len x,partssX_len l]
end
mutual
theorem depth_size:∀ x:Ex,depthX x≤sizeX x
 | .mk k n s op a l=>by simp only [depthX,sizeX];have:=depths_size l;omega
theorem depths_size:∀ l:List Ex,depthsX l≤sizesX l
 | []=>Nat.le_refl _
 | x::l=>by simp only [depthsX,sizesX];have:=depth_size x;have:=depths_size l;omega
end
def subX(x:Ex) (i:Nat):Ex:=x.subs[i]?.getD default
theorem subX_mem{x:Ex}{i:Nat}(h:i<x.subs.length):subX x i∈x.subs:=by
 unfold subX;rw [List.getElem?_eq_getElem h];exact List.getElem_mem _
theorem subs_snoc{x:Ex}{i:Nat}(h:i<x.subs.length):x.subs.take (i+1)=x.subs.take i++[subX x i]:=by
 unfold subX;rw [List.take_succ_eq_append_getElem h,List.getElem?_eq_getElem h];rfl
theorem sizes_snoc{x:Ex}{i:Nat}(h:i<x.subs.length):sizesX (x.subs.take (i+1))=sizesX (x.subs.take i)+sizeX (subX x i):=by
 rw [subs_snoc h,sizesX_app]
 simp [sizesX]
theorem depths_snoc{x:Ex}{i:Nat}(h:i<x.subs.length):depthsX (x.subs.take (i+1))=max (depthsX (x.subs.take i)) (depthX (subX x i)):=by
 rw [subs_snoc h,depthsX_app]
 simp [depthsX]
theorem partss_snoc{x:Ex}{i:Nat}(h:i<x.subs.length):partssX (x.subs.take (i+1))=partssX (x.subs.take i)++partsX (subX x i):=by
 rw [subs_snoc h,partssX_app]
 simp [partssX]
theorem size_ind{P:Ex→Prop}(h:∀ x,(∀ i,i<x.subs.length→P (subX x i))→P x):∀ x,P x:=by
 have:∀ n x,sizeX x≤n→P x:=by
  intro n
  induction n with
  | zero=>intro x hx;have:=size_pos x;omega
  | succ n ih=>
   intro x hx;refine h x fun i hi=>ih _ ?_;have:=size_sub (subX_mem hi);omega
 exact fun x=>this _ x (Nat.le_refl _)
end
section
open Go.RowKit
def RdT(w:World) (A:Option Addr) (n:Nat) (ss:List ByteArray):Prop:=
 ss.length=n∧n≤9223372036854775807 ∧
 (0<n→∃ b off,A=some ⟨b,off,none⟩∧b<w.heap.size∧∀ i,i<n→w.cell? ⟨b,off+i,none⟩=some (.string (ss[i]?.getD ByteArray.empty)))
section
variable {w w':World}{A:Option Addr}{n:Nat}{ss:List ByteArray}
theorem RdT.nil_(w:World):RdT w none 0 []:=⟨rfl,by omega,by omega⟩
theorem RdT.len(h:RdT w A n ss):ss.length=n:=h.1
theorem RdT.max(h:RdT w A n ss):n≤9223372036854775807:=h.2.1
theorem RdT.at_(h:RdT w A n ss){i:Nat}(hi:i<n):
 ∃ b off,A=some ⟨b,off,none⟩∧b<w.heap.size∧∀ i,i<n→w.cell? ⟨b,off+i,none⟩=some (.string (ss[i]?.getD ByteArray.empty)):=
 h.2.2 (by omega)
theorem RdT.keep(h:RdT w A n ss) (hs:w.heap.size≤w'.heap.size) (hk:∀ p:Addr,p.block<w.heap.size→w'.cell? p=w.cell? p):RdT w' A n ss:=
 ⟨h.1,h.2.1,fun hn=>by
  obtain⟨b,off,e,hb,hc⟩:=h.2.2 hn;exact⟨b,off,e,by omega,fun i hi=>(hk _ hb).trans (hc i hi)⟩⟩
theorem RdT.below(h:RdT w A n ss) (hb:Below w.heap.size w w'):RdT w' A n ss:=h.keep hb.size fun _ hp=>hb.cell hp
theorem RdT.drewN(h:RdT w A n ss) (m:Nat):RdT (w.drewN m) A n ss:=h
theorem RdT.alloc(h:RdT w A n ss) (o:Obj):RdT (w.alloc o) A n ss:=h.below ((Below.refl _ _).alloc (Nat.le_refl _) o)
theorem RdT.of_own{base:Nat}{e:TypeId}{v:Value}(h:w.ownsRow base e 1 v n (ss.map Value.string)) (hm:n≤9223372036854775807):
 ∃ A c,v=.slice A n c∧RdT w A n ss∧(A=none→n=0):=by
 have hl:ss.length=n:=by have:=h.1;simpa using this
 rcases h.2 with⟨rfl,rfl⟩|⟨g,cap,cur,rfl,hg,hh,hnc,hcm,hcs,ht⟩
 · obtain rfl:ss=[]:=List.eq_nil_of_length_eq_zero hl;exact⟨none,0,rfl,RdT.nil_ _,fun _=>rfl⟩
 · refine⟨_,cap,rfl,⟨hl,hm,fun hn=>⟨g,0,rfl,?_,fun i hi=>?_⟩⟩,fun h=>by cases h⟩
   · exact(Array.getElem?_eq_some_iff.1 hh).1
   · have h1:=h.cellAt i (by omega);rw [Nat.zero_add,h1]
     simp [List.getElem?_eq_getElem (show i<ss.length by omega)]
theorem RdT.lit(w:World) (T:TypeId) (ss:List ByteArray) (n:Nat) (hn:ss.length=n) (hm:n≤9223372036854775807) (cs:Array Value) (hcs:cs=(ss.map Value.string).toArray):
 RdT (w.alloc (.cells cs T)) (some ⟨w.heap.size,0,none⟩) n ss:=by
 subst hcs hn;refine⟨rfl,hm,fun _=>⟨_,_,rfl,by simp,fun i hi=>?_⟩⟩;rw [Nat.zero_add,World.cell?_alloc_new]
 simp [List.getElem?_eq_getElem hi]
end
theorem rdT_arg{w:World}{x:Addr}{n:Nat}{ss:List ByteArray}(hle:n≤ss.length) (hm:n≤9223372036854775807) (hc:∀ i,i<ss.length→w.cell? (x.add i)=some (.string (ss.getD i ByteArray.empty))):
 RdT w (some x) n (ss.take n):=by
 refine⟨by simp;omega,hm,fun hn=>?_⟩;obtain⟨b,off,spot⟩:=x;have h0:=hc 0 (by omega);have hspot:spot=none:=by simpa [Addr.add] using World.cell?_spot h0
 subst hspot;have hadd:∀ i,(⟨b,off,none⟩:Addr).add i=⟨b,off+i,none⟩:=fun i=>by unfold Addr.add;split <;> simp_all
 refine⟨b,off,rfl,World.block_lt_of_cell? w _ h0,fun i hi=>?_⟩;rw [← hadd,hc i (by omega),List.getElem?_take_of_lt hi,List.getD_eq_getElem?_getD]
theorem below_trans2{a b c:World}(h1:Below a.heap.size a b) (h2:Below b.heap.size b c):Below a.heap.size a c:=h1.trans (h2.mono h1.size)
end
section
open Go.RowKit
def exL(x:Ex) (A:Option Addr) (ca:Nat) (B:Option Addr) (cb:Nat):List Value:=
 [.int .i64 x.k,.int .i64 x.n,.string x.s,.int .i64 x.op,.slice A x.arms.length ca,.slice B x.subs.length cb]
def exA(x:Ex) (A:Option Addr) (ca:Nat) (B:Option Addr) (cb:Nat):Array Value:=
 #[.int .i64 x.k,.int .i64 x.n,.string x.s,.int .i64 x.op,.slice A x.arms.length ca,.slice B x.subs.length cb]
mutual
def rdX(w:World):Ex→Option Addr→Option Addr→Prop
 | .mk _ _ _ _ arms subs,A,B=>RdT w A arms.length arms∧subs.length≤9223372036854775807 ∧
  (0<subs.length→∃ b off,B=some ⟨b,off,none⟩∧b<w.heap.size∧rdXs w subs b off)
def rdXs(w:World):List Ex→Nat→Nat→Prop
 | [],_,_=>True
 | x::l,b,off=>(∃ A ca B cb,w.rangeAt b off (exL x A ca B cb)∧rdX w x A B)∧rdXs w l b (off+6)
end
def ExV(w:World) (v:Value) (x:Ex):Prop:=∃ A ca B cb,v=.agg (exA x A ca B cb)∧rdX w x A B
def RdX(w:World) (A:Option Addr) (n:Nat) (l:List Ex):Prop:=
 l.length=n∧n≤9223372036854775807∧(0<n→∃ b off,A=some ⟨b,off,none⟩∧b<w.heap.size∧rdXs w l b off)
section
variable {w w':World}{A B:Option Addr}{n:Nat}{x:Ex}{l:List Ex}
theorem rdX_eq:rdX w x A B↔RdT w A x.arms.length x.arms∧RdX w B x.subs.length x.subs:=by
 cases x
 simp only [rdX,RdX,Ex.arms,Ex.subs,true_and]
theorem rdX.arms(h:rdX w x A B):RdT w A x.arms.length x.arms:=(rdX_eq.1 h).1
theorem rdX.subs(h:rdX w x A B):RdX w B x.subs.length x.subs:=(rdX_eq.1 h).2
theorem rdXs_at:∀ (l:List Ex){b off:Nat},rdXs w l b off→∀ i,i<l.length→∃ A ca B cb,w.rangeAt b (off+i*6) (exL (l[i]?.getD default) A ca B cb)∧rdX w (l[i]?.getD default) A B
 | [],_,_,_,_,hi=>absurd hi (by simp)
 | x::l,b,off,h,i,hi=>by
  simp only [rdXs] at h
  cases i with
  | zero=>simpa using h.1
  | succ i=>
   have:=rdXs_at l h.2 i (by simpa using hi);rw [show off+6+i*6=off+(i+1)*6 by omega] at this
   simpa using this
theorem rdXs_of:∀ (l:List Ex){b off:Nat},(∀ i,i<l.length→∃ A ca B cb,w.rangeAt b (off+i*6) (exL (l[i]?.getD default) A ca B cb)∧rdX w (l[i]?.getD default) A B)→rdXs w l b off
 | [],_,_,_=>by simp only [rdXs]
 | x::l,b,off,h=>by
  simp only [rdXs];refine⟨by simpa using h 0 (by simp),rdXs_of l fun i hi=>?_⟩;have:=h (i+1) (by simpa using hi);rw [show off+(i+1)*6=off+6+i*6 by omega] at this
  simpa using this
theorem RdX.len(h:RdX w A n l):l.length=n:=h.1
theorem RdX.max(h:RdX w A n l):n≤9223372036854775807:=h.2.1
theorem RdX.at_(h:RdX w A n l){i:Nat}(hi:i<n):
 ∃ b off,A=some ⟨b,off,none⟩∧b<w.heap.size∧∀ i,i<n→∃ A' ca B' cb,w.rangeAt b (off+i*6) (exL (l[i]?.getD default) A' ca B' cb)∧rdX w (l[i]?.getD default) A' B':=by
 obtain⟨b,off,e,hb,hr⟩:=h.2.2 (by omega);exact⟨b,off,e,hb,fun i hi=>rdXs_at l hr i (by rw [h.1];exact hi)⟩
theorem RdX.nil_(w:World):RdX w none 0 []:=⟨rfl,by omega,by omega⟩
theorem rangeAt_keep{cs:List Value}{b o:Nat}(h:w.rangeAt b o cs) (hb:b<w.heap.size) (hk:∀ p:Addr,p.block<w.heap.size→w'.cell? p=w.cell? p):w'.rangeAt b o cs:=fun j v hv=>(hk _ hb).trans (h j v hv)
mutual
theorem rdX_keep(hs:w.heap.size≤w'.heap.size) (hk:∀ p:Addr,p.block<w.heap.size→w'.cell? p=w.cell? p):∀ (x:Ex) (A B:Option Addr),rdX w x A B→rdX w' x A B
 | .mk _ _ _ _ arms subs,A,B,h=>by
  simp only [rdX] at h ⊢;refine⟨h.1.keep hs hk,h.2.1,fun hn=>?_⟩;obtain⟨b,off,e,hb,hr⟩:=h.2.2 hn;exact⟨b,off,e,by omega,rdXs_keep hs hk subs b off hb hr⟩
theorem rdXs_keep(hs:w.heap.size≤w'.heap.size) (hk:∀ p:Addr,p.block<w.heap.size→w'.cell? p=w.cell? p):∀ (l:List Ex) (b off:Nat),b<w.heap.size→rdXs w l b off→rdXs w' l b off
 | [],_,_,_,_=>by simp only [rdXs]
 | x::l,b,off,hb,h=>by
  simp only [rdXs] at h ⊢;obtain⟨⟨A,ca,B,cb,h1,h2⟩,h3⟩:=h;exact⟨⟨A,ca,B,cb,rangeAt_keep h1 hb hk,rdX_keep hs hk x A B h2⟩,rdXs_keep hs hk l b (off+6) hb h3⟩
end
theorem rdX.keep(h:rdX w x A B) (hs:w.heap.size≤w'.heap.size) (hk:∀ p:Addr,p.block<w.heap.size→w'.cell? p=w.cell? p):rdX w' x A B:=rdX_keep hs hk x A B h
theorem rdX.below(h:rdX w x A B) (hb:Below w.heap.size w w'):rdX w' x A B:=h.keep hb.size fun _ hp=>hb.cell hp
theorem rdX.alloc(h:rdX w x A B) (o:Obj):rdX (w.alloc o) x A B:=h.below ((Below.refl _ _).alloc (Nat.le_refl _) o)
theorem rdX.drewN(h:rdX w x A B) (m:Nat):rdX (w.drewN m) x A B:=h.keep (Nat.le_refl _) fun _ _=>rfl
theorem rdX.drew(h:rdX w x A B):rdX w.drew x A B:=h.keep (Nat.le_refl _) fun _ _=>rfl
theorem RdX.keep(h:RdX w A n l) (hs:w.heap.size≤w'.heap.size) (hk:∀ p:Addr,p.block<w.heap.size→w'.cell? p=w.cell? p):RdX w' A n l:=
 ⟨h.1,h.2.1,fun hn=>by
  obtain⟨b,off,e,hb,hr⟩:=h.2.2 hn;exact⟨b,off,e,by omega,rdXs_keep hs hk l b off hb hr⟩⟩
theorem RdX.below(h:RdX w A n l) (hb:Below w.heap.size w w'):RdX w' A n l:=h.keep hb.size fun _ hp=>hb.cell hp
theorem RdX.alloc(h:RdX w A n l) (o:Obj):RdX (w.alloc o) A n l:=h.below ((Below.refl _ _).alloc (Nat.le_refl _) o)
theorem ExV.below{v:Value}(h:ExV w v x) (hb:Below w.heap.size w w'):ExV w' v x:=by
 obtain⟨A,ca,B,cb,e,hr⟩:=h;exact⟨A,ca,B,cb,e,hr.below hb⟩
theorem ExV.alloc{v:Value}(h:ExV w v x) (o:Obj):ExV (w.alloc o) v x:=h.below ((Below.refl _ _).alloc (Nat.le_refl _) o)
theorem rdX.sub(h:rdX w x A B){i:Nat}(hi:i<x.subs.length):
 ∃ b off,B=some ⟨b,off,none⟩∧b<w.heap.size∧∀ i,i<x.subs.length→∃ A' ca B' cb,w.rangeAt b (off+i*6) (exL (subX x i) A' ca B' cb)∧rdX w (subX x i) A' B':=h.subs.at_ hi
end
theorem rangeAt_six{w:World}{b o:Nat}{x:Ex}{A:Option Addr}{ca:Nat}{B:Option Addr}{cb:Nat}(h:w.rangeAt b o (exL x A ca B cb)):
 w.cell? ⟨b,o,none⟩=some (.int .i64 x.k)∧w.cell? ⟨b,o+1,none⟩=some (.int .i64 x.n)∧w.cell? ⟨b,o+2,none⟩=some (.string x.s)∧w.cell? ⟨b,o+3,none⟩=some (.int .i64 x.op) ∧
  w.cell? ⟨b,o+4,none⟩=some (.slice A x.arms.length ca)∧w.cell? ⟨b,o+5,none⟩=some (.slice B x.subs.length cb):=
 ⟨h 0 _ rfl,h 1 _ rfl,h 2 _ rfl,h 3 _ rfl,h 4 _ rfl,h 5 _ rfl⟩
theorem cells_ex:Tryz.prog.cellsOf 26=6:=by kernel_rfl
theorem ex_info:(Tryz.prog.info? 26).map (·.size)=some 6:=by kernel_rfl
end
section
open Go.RowKit Go.ChangeShapes Go.WideShapes Go.Deep
theorem cells_i:Tryz.prog.cellsOf 3=1:=by kernel_rfl
theorem cells_l:Tryz.prog.cellsOf 2=1:=by kernel_rfl
theorem cells_s:Tryz.prog.cellsOf 9=1:=by kernel_rfl
theorem cells_ss:Tryz.prog.cellsOf 23=1:=by kernel_rfl
theorem cells_xs:Tryz.prog.cellsOf 24=1:=by kernel_rfl
def OkP(p:Ex):Prop:=p.s.size≤maxLen∧(∀ t∈p.arms,t.size≤maxLen)∧(Lit.int .i64 p.k).wf=true∧(Lit.int .i64 p.n).wf=true∧(Lit.int .i64 p.op).wf=true
def OkX(x:Ex):Prop:=∀ p∈partsX x,OkP p
theorem partss_mem{l:List Ex}{p:Ex}(h:p∈partssX l):∃ i,i<l.length∧p∈partsX (l[i]?.getD default):=by
 induction l with
 | nil=>simp [partssX] at h
 | cons x l ih=>
  simp only [partssX,List.mem_append] at h;rcases h with h | h
  · exact⟨0,by simp,by simpa using h⟩
  · obtain⟨i,hi,hp⟩:=ih h;exact⟨i+1,by simpa using hi,by simpa using hp⟩
theorem mem_partssZ{l:List Ex}{p:Ex}{i:Nat}(hi:i<l.length) (h:p∈partsX (l[i]?.getD default)):p∈partssX l:=by
 induction l generalizing i with
 | nil=>simp at hi
 | cons x l ih=>
  simp only [partssX,List.mem_append]
  cases i with
  | zero=>left;simpa using h
  | succ i=>right;exact ih (by simpa using hi) (by simpa using h)
theorem OkX.sub{x:Ex}(h:OkX x){i:Nat}(hi:i<x.subs.length):OkX (subX x i):=fun p hp=>h p (by
 rw [partsX_eq];exact List.mem_cons_of_mem _ (mem_partssZ hi hp))
section
variable {H:Type}{enc:TypeId × Value→H}{w:World}{base:Nat}{spare:Nat→Bool}{held:Bool}
theorem strs_openZ{fuel:Nat}{v:Value}{x:DataW H × List MemPlace}(h:DataW.trod enc Tryz.prog w base spare held fuel 23 [v]=some x):∃ A n c ss,v=.slice A n c∧RdT w A n ss∧∀ s∈ss,s.size≤maxLen:=by
 rcases Go.ChangeShapes.open_strings Tryz.underlying23 Tryz.underlying9 (by kernel_rfl) h with⟨hcs,_⟩|⟨x,l,c,ss,hcs,_,hl,hm,hss,_,hcell,hz⟩
 · simp at hcs
   subst hcs;exact⟨none,0,0,[],rfl,RdT.nil_ _,fun s hs=>by cases hs⟩
 · simp at hcs
   subst hcs;have hle:l≤ss.length:=by rw [hss];split <;> omega
   exact⟨some x,l,c,ss.take l,rfl,rdT_arg hle (by unfold maxLen at hm;omega) hcell,fun s hs=>hz s (List.mem_of_mem_take hs)⟩
end
end
section
open Go.RowKit Go.ChangeShapes Go.WideShapes Go.Deep
mutual
def capX(w:World):Ex→Option Addr→Prop
 | .mk _ _ _ _ _ subs,B=>∀ b off,B=some ⟨b,off,none⟩→capXs w subs b off
def capXs(w:World):List Ex→Nat→Nat→Prop
 | [],_,_=>True
 | x::l,b,off=>(∀ A ca B cb,w.rangeAt b off (exL x A ca B cb)→(x.k=13→x.subs.length≤cb)∧capX w x B)∧capXs w l b (off+6)
end
theorem capX_eq{w:World}{x:Ex}{B:Option Addr}:capX w x B↔∀ b off,B=some ⟨b,off,none⟩→capXs w x.subs b off:=by
 cases x
 simp only [capX,Ex.subs]
theorem capXs_at{w:World}:∀ (l:List Ex){b off:Nat},capXs w l b off→∀ i,i<l.length→∀ A ca B cb,w.rangeAt b (off+i*6) (exL (l[i]?.getD default) A ca B cb)→((l[i]?.getD default).k=13→(l[i]?.getD default).subs.length≤cb)∧capX w (l[i]?.getD default) B
 | [],_,_,_,i,hi=>absurd hi (by simp)
 | x::l,b,off,h,i,hi=>by
  simp only [capXs] at h
  cases i with
  | zero=>simpa using h.1
  | succ i=>
   have:=capXs_at l h.2 i (by simpa using hi);rw [show off+6+i*6=off+(i+1)*6 by omega] at this
   simpa using this
theorem capXs_of{w:World}:∀ (l:List Ex){b off:Nat},(∀ i,i<l.length→∀ A ca B cb,w.rangeAt b (off+i*6) (exL (l[i]?.getD default) A ca B cb)→((l[i]?.getD default).k=13→(l[i]?.getD default).subs.length≤cb)∧capX w (l[i]?.getD default) B)→capXs w l b off
 | [],_,_,_=>by simp only [capXs]
 | x::l,b,off,h=>by
  simp only [capXs];refine⟨by simpa using h 0 (by simp),capXs_of l fun i hi=>?_⟩;have:=h (i+1) (by simpa using hi);rw [show off+(i+1)*6=off+6+i*6 by omega] at this
  simpa using this
theorem rangeAt_back{w w':World}{cs:List Value}{b o:Nat}(h:w'.rangeAt b o cs) (hb:b<w.heap.size) (hk:∀ p:Addr,p.block<w.heap.size→w'.cell? p=w.cell? p):w.rangeAt b o cs:=fun j v hv=>(hk _ hb).symm.trans (h j v hv)
theorem exL_oneC{w:World}{b o:Nat}{x:Ex}{A A':Option Addr}{ca ca':Nat}{B B':Option Addr}{cb cb':Nat}(h:w.rangeAt b o (exL x A ca B cb)) (h':w.rangeAt b o (exL x A' ca' B' cb')):A=A'∧B=B'∧cb=cb':=by
 have h1:=(h 4 _ rfl).symm.trans (h' 4 _ rfl);have h2:=(h 5 _ rfl).symm.trans (h' 5 _ rfl);injection h1 with h1;injection h1 with h1 _ _;injection h2 with h2;injection h2 with h2 _ h3;exact⟨h1,h2,h3⟩
mutual
theorem capX_keep{w w':World}(hk:∀ p:Addr,p.block<w.heap.size→w'.cell? p=w.cell? p):∀ (x:Ex) (A B:Option Addr),rdX w x A B→capX w x B→capX w' x B
 | .mk k n s op arms subs,A,B,hr,h=>by
  simp only [rdX] at hr;simp only [capX] at h ⊢;intro b off e
  cases subs with
  | nil=>simp only [capXs]
  | cons y l=>
   obtain⟨b',off',e',hb,hrs⟩:=hr.2.2 (by simp);rw [e] at e';injection e' with e';injection e' with e1 e2;subst e1 e2;exact capXs_keep hk (y::l) b off hb hrs (h b off e)
theorem capXs_keep{w w':World}(hk:∀ p:Addr,p.block<w.heap.size→w'.cell? p=w.cell? p):∀ (l:List Ex) (b off:Nat),b<w.heap.size→rdXs w l b off→capXs w l b off→capXs w' l b off
 | [],_,_,_,_,_=>by simp only [capXs]
 | x::l,b,off,hb,hr,h=>by
  simp only [rdXs] at hr;simp only [capXs] at h ⊢;obtain⟨⟨A0,ca0,B0,cb0,h1,h2⟩,h3⟩:=hr;refine⟨fun A ca B cb hg=>?_,capXs_keep hk l b (off+6) hb h3 h.2⟩;have hg0:=rangeAt_back hg hb hk;obtain⟨q1,q2⟩:=h.1 A ca B cb hg0;obtain⟨e1,e2,_⟩:=exL_oneC hg0 h1;subst e1 e2;exact⟨q1,capX_keep hk x A B h2 q2⟩
end
theorem capX.below{w w':World}{x:Ex}{A B:Option Addr}(h:capX w x B) (hr:rdX w x A B) (hb:Below w.heap.size w w'):capX w' x B:=capX_keep (fun _ hp=>hb.cell hp) x A B hr h
theorem rdX.subC{w:World}{x:Ex}{A B:Option Addr}(h:rdX w x A B) (hc:capX w x B){i:Nat}(hi:i<x.subs.length):
 ∃ b off,B=some ⟨b,off,none⟩∧b<w.heap.size∧∀ i,i<x.subs.length→∃ A' ca B' cb,w.rangeAt b (off+i*6) (exL (subX x i) A' ca B' cb)∧rdX w (subX x i) A' B'∧((subX x i).k=13→(subX x i).subs.length≤cb)∧capX w (subX x i) B':=by
 obtain⟨b,off,e,hb,hat⟩:=h.sub hi;refine⟨b,off,e,hb,fun i hi=>?_⟩;obtain⟨A',ca,B',cb,hrg,hrd⟩:=hat i hi;exact⟨A',ca,B',cb,hrg,hrd,capXs_at x.subs ((capX_eq.1 hc) b off e) i hi A' ca B' cb hrg⟩
section
variable {H:Type}{enc:TypeId × Value→H}{w:World}{base:Nat}{spare:Nat→Bool}{held:Bool}
theorem ex_cellsC:∀ (fuel:Nat){cs:List Value}{x:DataW H × List MemPlace},DataW.trod enc Tryz.prog w base spare held fuel 26 cs=some x→cs.length=6 →
 ∃ (X:Ex) (A:Option Addr) (ca:Nat) (B:Option Addr) (cb:Nat),cs=exL X A ca B cb∧rdX w X A B∧OkX X∧X.subs.length≤cb∧capX w X B:=by
 intro fuel
 induction fuel using Nat.strongRecOn with
 | _ fuel ih=>
 intro cs x h hl;obtain⟨ys,m,hm,_,_,hy,hf⟩:=DataW.trod_struct Tryz.underlying26 h
 match cs,hl with
 | [v0,v1,v2,v3,v4,v5],_=>
  match ys,hy with
  | [y0,y1,y2,y3,y4,y5],_=>
   have t0:=hf 0 _ rfl;have t1:=hf 1 _ rfl;have t2:=hf 2 _ rfl;have t3:=hf 3 _ rfl;have t4:=hf 4 _ rfl;have t5:=hf 5 _ rfl
   simp [cells_i,cells_l,cells_s,cells_ss,cells_xs] at t0 t1 t2 t3 t4 t5
   obtain⟨k,e0,_,w0⟩:=DataW.trod_int Tryz.underlying3 t0;obtain⟨n,e1,_,w1⟩:=DataW.trod_int Tryz.underlying2 t1;obtain⟨s,e2,_,w2⟩:=DataW.trod_string Tryz.underlying9 t2;obtain⟨op,e3,_,w3⟩:=DataW.trod_int Tryz.underlying3 t3;injection e0 with e0;injection e1 with e1;injection e2 with e2;injection e3 with e3;subst e0 e1 e2 e3;obtain⟨A,na,ca,ss,rfl,hr,hz⟩:=strs_openZ t4;have hna:=hr.len;subst hna;rcases DataW.trod_slice Tryz.underlying24 t5 with⟨hcs,_⟩|⟨a,len,cap,elems,rest,nn,hnn,hcs,_,_,hlc,hcm,hel,hi,_,_⟩
   · simp at hcs
     subst hcs;refine⟨.mk k n s op ss [],A,ca,none,0,rfl,?_,?_,Nat.le_refl _,capX_eq.2 (by intro b off e;cases e)⟩
     · rw [rdX_eq];exact⟨hr,RdX.nil_ _⟩
     · intro p hp;simp only [partsX,partssX,List.mem_singleton] at hp;subst hp;exact⟨w2,hz,w0,w1,w3⟩
   · simp at hcs
     subst hcs
     have hone:∀ i,i<len→∃ X:Ex,(∃ A' ca' B' cb',(∀ j v,(exL X A' ca' B' cb')[j]?=some v→w.cell? (a.add (i*6+j))=some v)∧rdX w X A' B'∧X.subs.length≤cb'∧capX w X B')∧OkX X:=by
      intro i him;have h1:=hi i him;rw [List.getElem?_eq_getElem (by omega),cells_ex] at h1;obtain⟨cs',hc,ht⟩:=Option.bind_eq_some_iff.1 h1;obtain⟨_,hcl,hat⟩:=World.cells?_some hc;obtain⟨X,A',ca',B',cb',e,hrX,hok,hcl1,hcx1⟩:=ih nn (by omega) ht hcl;refine⟨X,⟨A',ca',B',cb',fun j v hj=>?_,hrX,hcl1,hcx1⟩,hok⟩
      have hj6:j<6:=by
       rcases Nat.lt_or_ge j 6 with h | h
       · exact h
       · rw [List.getElem?_eq_none (by simpa [exL] using h)] at hj;cases hj
      rw [← Go.Deep.add_add,hat j hj6,e,hj]
     obtain⟨f,hfX⟩:=choose_lt (α:=Ex) hone;have hget:∀ i,i<len→((List.range len).map f)[i]?.getD default=f i:=fun i hi=>by simp [List.getElem?_map,List.getElem?_range hi]
     refine⟨.mk k n s op ss ((List.range len).map f),A,ca,some a,cap,by simp [exL,Ex.k,Ex.n,Ex.s,Ex.op,Ex.arms,Ex.subs],?_,?_,by simp [Ex.subs];omega,?_⟩
     · rw [rdX_eq];refine⟨hr,rfl,by simp [Ex.subs];unfold maxLen at hcm;omega,fun hn=>?_⟩;simp only [Ex.subs,List.length_map,List.length_range] at hn;obtain⟨b,off,spot⟩:=a;obtain⟨⟨A0,ca0,B0,cb0,h0,_⟩,_⟩:=hfX 0 hn;have h00:=h0 0 _ rfl;have hspot:spot=none:=by simpa [Addr.add] using World.cell?_spot h00
       subst hspot;have hadd:∀ i,(⟨b,off,none⟩:Addr).add i=⟨b,off+i,none⟩:=fun i=>by unfold Addr.add;split <;> simp_all
       refine⟨b,off,rfl,World.block_lt_of_cell? w _ ((hadd 0) ▸ h00),rdXs_of _ fun i hi=>?_⟩;simp only [Ex.subs,List.length_map,List.length_range] at hi;simp only [Ex.subs];rw [hget i hi];obtain⟨⟨A',ca',B',cb',h1,h2,_⟩,_⟩:=hfX i hi;refine⟨A',ca',B',cb',fun j v hv=>?_,h2⟩;have:=h1 j v hv;rw [hadd] at this;rw [Nat.add_assoc];exact this
     · intro p hp;simp only [partsX,List.mem_cons] at hp;rcases hp with rfl | hp
       · exact⟨w2,hz,w0,w1,w3⟩
       · obtain⟨i,hi,hp⟩:=partss_mem hp;simp only [List.length_map,List.length_range] at hi;rw [hget i hi] at hp;exact(hfX i hi).2 p hp
     · rw [capX_eq];intro b off e;obtain rfl:a=⟨b,off,none⟩:=Option.some.inj e;refine capXs_of _ fun i hi A1 ca1 B1 cb1 hg=>?_;simp only [Ex.subs,List.length_map,List.length_range] at hi;simp only [Ex.subs] at hg ⊢;rw [hget i hi] at hg ⊢;obtain⟨⟨A',ca',B',cb',h1,h2,h3,h4⟩,_⟩:=hfX i hi;have hadd:∀ i,(⟨b,off,none⟩:Addr).add i=⟨b,off+i,none⟩:=fun i=>by unfold Addr.add;split <;> simp_all
       have hg':w.rangeAt b (off+i*6) (exL (f i) A' ca' B' cb'):=fun j v hv=>by
        have:=h1 j v hv;rw [hadd] at this;rw [Nat.add_assoc];exact this
       obtain⟨e1,e2,e3⟩:=exL_oneC hg hg';subst e1 e2 e3;exact⟨fun _=>h3,h4⟩
theorem ex_openC{v:Value}{d:DataW H}{ps:List MemPlace}{r:Reach}{b0:Nat}(hv:Value.okWide Tryz.prog w r b0 26 v) (h:DataW.Trod enc Tryz.prog w base spare held 26 v d ps):
 ∃ (X:Ex) (A:Option Addr) (ca:Nat) (B:Option Addr) (cb:Nat),v=.agg (exA X A ca B cb)∧rdX w X A B∧OkX X∧X.subs.length≤cb∧capX w X B:=by
 obtain⟨cs,rfl,hs⟩:=okWide_struct Tryz.underlying26 hv;obtain⟨fuel,hf⟩:=h;rw [cells_ex] at hs;obtain⟨X,A,ca,B,cb,e1,hr,hok,hcl1,hcx1⟩:=ex_cellsC fuel hf (by simpa [Value.cells] using hs);refine⟨X,A,ca,B,cb,?_,hr,hok,hcl1,hcx1⟩
 congr 1
 apply Array.toList_inj.1
 simpa [Value.cells,exA,exL] using e1
end
end
section
open Go.RowKit
def sameT(a b:List ByteArray):Bool:=decide (a.map (fun s=>s.toList)=b.map (fun s=>s.toList))
def sameTo(a b:List ByteArray) (k:Nat):Prop:=∀ j,j<k→((a[j]?.getD ByteArray.empty).toList==(b[j]?.getD ByteArray.empty).toList)=true
section
variable {a b:List ByteArray}{k:Nat}
theorem sameT_len(h:a.length≠b.length):sameT a b=false:=decide_eq_false fun e=>h (by simpa using congrArg List.length e)
theorem sameT_at(ha:k<a.length) (hb:k<b.length) (h:((a[k]?.getD ByteArray.empty).toList==(b[k]?.getD ByteArray.empty).toList)=false):sameT a b=false:=decide_eq_false fun e=>by
 have h1:=congrArg (fun l=>l[k]?) e;simp only [List.getElem?_map,List.getElem?_eq_getElem ha,List.getElem?_eq_getElem hb,Option.map_some,Option.some.injEq] at h1;rw [List.getElem?_eq_getElem ha,List.getElem?_eq_getElem hb,Option.getD_some,Option.getD_some,h1] at h
 simp at h
theorem sameT_yes(hl:a.length=b.length) (H:sameTo a b k) (h:a.length≤k):sameT a b=true:=decide_eq_true (by
 apply List.ext_getElem
 · simpa using hl
 · intro i h1 h2;rw [List.length_map] at h1 h2;have:=H i (by omega);rw [List.getElem?_eq_getElem h1,List.getElem?_eq_getElem h2,Option.getD_some,Option.getD_some] at this
   simpa using this)
theorem sameTo_succ(H:sameTo a b k) (h:((a[k]?.getD ByteArray.empty).toList==(b[k]?.getD ByteArray.empty).toList)=true):sameTo a b (k+1):=fun j hj=>by
 rcases Nat.lt_or_ge j k with h1 | h1
 · exact H j h1
 · obtain rfl:j=k:=by omega
   exact h
end
theorem refNames(A B:Option Addr) (n m c d:Nat) (ss tt:List ByteArray) (w:World) (hs:RdT w A n ss) (ht:RdT w B m tt):
 Calls Tryz.prog 20 #[.slice A n c,.slice B m d] w fun r w'=>r=.returned (.bool (sameT ss tt))∧Below w.heap.size w w':=by
 have h1:=hs.len;have h2:=ht.len;have h3:=hs.max;have h4:=ht.max
 by_cases hnm:n=m
 · subst hnm
   go_enter Tryz.func20,Tryz.ntmps20
   go_wp2_with fail
   go_loopw [5] (fun i wr=>∃ k:Nat,k≤n∧i=.int .i64 k∧sameTo ss tt k∧∃ p,wr=w.drewN p) (fun i _=>n-(intOf i).toNat)
   case atStart=>exact⟨0,Nat.zero_le _,rfl,fun j hj=>absurd hj (by omega),0,rfl⟩
   case round=>
    obtain⟨k,hk,rfl,hto,p,rfl⟩:=hrel;have HT:=Hd hto;clear hto
    by_cases hlt:k<n
    · obtain⟨b,off,rfl,hb,hc⟩:=hs.at_ hlt;obtain⟨b',off',rfl,hb',hc'⟩:=ht.at_ hlt;have e1:=hc k hlt;have e2:=hc' k hlt;have HN:=Hd fun h=>sameTo_succ HT.out h;have HF:=Hd fun h=>sameT_at (a:=ss) (b:=tt) (k:=k) (by omega) (by omega) h;clear hc hc';generalize ss[k]?.getD ByteArray.empty=x at e1 HN HF;generalize tt[k]?.getD ByteArray.empty=y at e2 HN HF
      by_cases he:(x.toList==y.toList)=true
      · have HN:=Hd (HN.out he);have hne:(x.toList != y.toList)=false:=by simp only [bne,he];rfl
        go_wp2_with fail
        go_quiet (fail)
        go_wp2_with fail
        go_roundw
        case rel=>exact⟨k+1,by omega,by go_num,HN.out,_,rfl⟩
        case measure=>simp [intOf];omega
      · have he:(x.toList==y.toList)=false:=by simpa using he
        have HF:=Hd (HF.out he);have hne:(x.toList != y.toList)=true:=by simp only [bne,he];rfl
        go_wp2_with fail
        go_quiet (fail)
        go_wp2_with fail
        go_ret
        exact⟨ret_bool HF.out.symm,below_drewN (below_drewN (Below.refl _ _) _) _⟩
    · have HY:=Hd (sameT_yes (by omega) HT.out (by omega))
      go_wp2_with fail
      go_ret
      exact⟨ret_bool HY.out.symm,below_drewN (Below.refl _ _) _⟩
 · have hF:=Hd (sameT_len (a:=ss) (b:=tt) (by omega));have hne:((n:Int) != (m:Int))=true:=by rw [bne_iff_ne];omega
   go_enter Tryz.func20,Tryz.ntmps20
   go_wp2_with fail
   go_ret
   exact⟨ret_bool hF.out.symm,Below.refl _ _⟩
end
section
open Go.RowKit
theorem Rd.lit(k:IntKind) (w:World) (T:TypeId) (l:List Int) (n:Nat) (hn:l.length=n) (hm:n≤9223372036854775807) (hwf:∀ z∈l,(Lit.int k z).wf=true) (cs:Array Value) (hcs:cs=(l.map (Value.int k)).toArray):
 Rd k (w.alloc (.cells cs T)) (some ⟨w.heap.size,0,none⟩) n n l:=by
 subst hcs hn;refine⟨rfl,Nat.le_refl _,by unfold maxLen;omega,hwf,fun _=>⟨_,_,rfl,by simp,fun i hi=>?_⟩⟩;rw [Nat.zero_add,World.cell?_alloc_new]
 simp [List.getElem?_eq_getElem hi]
section
variable {P:Program}{w:World}
theorem run_append_nil(base:Nat) (t ty e:TypeId) (i:TypeInfo) (size:Nat) (ht:P.underlying t=some (.slice e)) (hi:P.info? e=some i)
 (v:Value) (n:Nat) (xs:List Value) (hown:w.ownsRow base e size v n xs) (c:Nat):(Builtin.append_ #[t,t] ty #[v,.slice none 0 c]).run P w=.ok v w:=by
 rcases hown.2 with⟨rfl,rfl⟩|⟨g,cap,cur,rfl,_,_,hnc,_⟩
 · simp [Builtin.append_,run_underlying ht,sizeOf,typeInfo,hi,Builtin.lenOf,Builtin.firstCells]
 · simp [Builtin.append_,run_underlying ht,sizeOf,typeInfo,hi,Builtin.lenOf,Builtin.firstCells,hnc,storeCells]
end
end
end Go.Proofs.YtokiaaapgkdpmaaGreatDoor
