/- Parts of the proof: Base, IdM, ExM, Str, ExR, ExA, ExP, ExF, IdA, IdB, IdC, IdD, NmT, App. Conditions: each theorem's own. -/
import Derived.WalkKit
import Derived.ProofKit
import Derived.OpenShut
import Derived.Below
import Derived.Lib.Hide
import Derived.IntWalk
import Derived.Deep.QuietTactic
import Derived.BigQuiet
import Derived.Deep.Draws
import Derived.Laws.BitsAllLaws
import Derived.Laws.BitsLemmas
import Derived.Laws.Bits64
import Derived.Deep.OwnRows
import Derived.RegionTactic
import Derived.ChangeAlike
import Derived.OwnWalk
import Derived.Outline
import Derived.WalkSpells
import Derived.Lib.Bytealg
import Derived.Test.YtpehkppcdlboeaaRows
import Derived.Deep.MidRow
import Derived.Deep.DeepCutAuto
import Derived.Lib.QuietBelow
import Derived.Maps.AppendAt
import Derived.Laws.OwnMore
import Derived.Lib.Strings
import Derived.Lib.Walk
import Derived.Laws.RangeAny
import Derived.Deep.RegionHeld3
import Derived.Laws.AppendOwnNone
namespace Go.Proofs.Ytpehkppcdlboeaa
set_option linter.unusedVariables false
set_option linter.unusedSimpArgs false
set_option maxRecDepth 100000
set_option maxHeartbeats 40000000
theorem Hd {p : Prop} (h : p) : Go.RowKit.Hid p := Lib.hid h
theorem Sx {P : Nat → Prop} (h : ∀ j, P j) : P 0 ∧ P 1 ∧ P 2 ∧ P 3 ∧ P 4 ∧ P 5 := ⟨h 0, h 1, h 2, h 3, h 4, h 5⟩
theorem Ya {α : Type} {l : List α} {i : Nat} : l.toArray[i]? = l[i]? := List.getElem?_toArray
theorem Yb {α : Type} {a : α} {l : List α} : (a :: l)[0]? = some a := List.getElem?_cons_zero
theorem Yc {α : Type} {a : α} {l : List α} {i : Nat} : (a :: l)[i + 1]? = l[i]? := List.getElem?_cons_succ
theorem Yd {α : Type} {l : List α} {i : Nat} {a : α} : l.toArray.setIfInBounds i a = (l.set i a).toArray := by simp
theorem Ye {α : Type} {a b : α} {l : List α} : (a :: l).set 0 b = b :: l := rfl
theorem Yf {α : Type} {a b : α} {l : List α} {i : Nat} : (a :: l).set (i + 1) b = a :: l.set i b := rfl
section
open Go.RowKit
def Rd(k:IntKind) (w:World) (A:Option Addr) (n c:Nat) (l:List Int):Prop:=
 l.length=n∧n≤c∧c≤maxLen∧(∀ z∈l,(Lit.int k z).wf=true) ∧
 (0<n→∃ b off,A=some ⟨b,off,none⟩∧b<w.heap.size∧∀ i,i<n→w.cell? ⟨b,off+i,none⟩=some (.int k (l[i]?.getD 0)))
section
variable {k:IntKind}{w w':World}{A:Option Addr}{n c:Nat}{l:List Int}
theorem Rd.nil_(k:IntKind) (w:World):Rd k w none 0 0 []:=⟨rfl,Nat.le_refl _,by decide,by simp,by omega⟩
theorem Rd.len(h:Rd k w A n c l):l.length=n:=h.1
theorem Rd.max(h:Rd k w A n c l):n≤9223372036854775807:=by
 have h1:=h.2.1;have h2:=h.2.2.1;unfold maxLen at h2;omega
theorem Rd.at_(h:Rd k w A n c l){i:Nat}(hi:i<n):
 ∃ b off,A=some ⟨b,off,none⟩∧b<w.heap.size∧∀ i,i<n→w.cell? ⟨b,off+i,none⟩=some (.int k (l[i]?.getD 0)):=
 h.2.2.2.2 (by omega)
theorem Rd.wf(h:Rd k w A n c l){i:Nat}(hi:i<n):(Lit.int k (l[i]?.getD 0)).wf=true:=by
 have h1:=h.1
 have:l[i]?.getD 0∈l:=by
  rw [List.getElem?_eq_getElem (by omega)];exact List.getElem_mem _
 exact h.2.2.2.1 _ this
theorem Rd.u8(h:Rd .u8 w A n c l){i:Nat}(hi:i<n):0≤l[i]?.getD 0∧l[i]?.getD 0≤255:=by
 simpa [Lit.wf,IntKind.min,IntKind.max,IntKind.signed,IntKind.bits] using h.wf hi
theorem Rd.keep(h:Rd k w A n c l) (hs:w.heap.size≤w'.heap.size) (hk:∀ p:Addr,p.block<w.heap.size→w'.cell? p=w.cell? p):Rd k w' A n c l:=
 ⟨h.1,h.2.1,h.2.2.1,h.2.2.2.1,fun hn=>by
  obtain⟨b,off,e,hb,hc⟩:=h.2.2.2.2 hn;exact⟨b,off,e,by omega,fun i hi=>(hk _ hb).trans (hc i hi)⟩⟩
theorem Rd.below(h:Rd k w A n c l) (hb:Below w.heap.size w w'):Rd k w' A n c l:=h.keep hb.size fun _ hp=>hb.cell hp
theorem Rd.drewN(h:Rd k w A n c l) (m:Nat):Rd k (w.drewN m) A n c l:=h
theorem Rd.drew(h:Rd k w A n c l):Rd k w.drew A n c l:=h
theorem Rd.alloc(h:Rd k w A n c l) (o:Obj):Rd k (w.alloc o) A n c l:=h.below ((Below.refl _ _).alloc (Nat.le_refl _) o)
end
theorem Rd.of_own{k:IntKind}{w:World}{base:Nat}{e:TypeId}{v:Value}{n:Nat}{xs:List Value}{l:List Int}(h:w.ownsRow base e 1 v n xs) (hx:xs=l.map (Value.int k)) (hwf:∀ z∈l,(Lit.int k z).wf=true):
 ∃ A c,v=.slice A n c∧Rd k w A n c l∧(0<n→∃ g,A=some ⟨g,0,none⟩∧base≤g):=by
 subst hx;have hl:l.length=n:=by have:=h.1;simpa using this
 rcases h.2 with⟨rfl,rfl⟩|⟨g,cap,cur,rfl,hg,hh,hnc,hcm,hcs,ht⟩
 · obtain rfl:l=[]:=List.eq_nil_of_length_eq_zero hl;exact⟨none,0,rfl,Rd.nil_ _ _,by omega⟩
 · refine⟨_,cap,rfl,⟨hl,hnc,hcm,hwf,fun hn=>⟨g,0,rfl,?_,fun i hi=>?_⟩⟩,fun _=>⟨g,rfl,hg⟩⟩
   · exact(Array.getElem?_eq_some_iff.1 hh).1
   · have h1:=h.cellAt i (by omega);rw [Nat.zero_add,h1]
     simp [List.getElem?_eq_getElem (show i<l.length by omega)]
theorem Rd.news{k:IntKind}{w:World}{a:Addr}{n c:Nat}{l:List Int}(h:Rd k w (some a) n c l) (j:Nat) (u:Value) (hu:(l.map (Value.int k))[j]?=some u):w.cell? (a.add j)=some u:=by
 have hj:j<l.length:=by
  rcases Nat.lt_or_ge j l.length with h | h
  · exact h
  · rw [List.getElem?_eq_none (by simpa using h)] at hu;cases hu
 obtain⟨b,off,e,_,hc⟩:=h.at_ (i:=j) (by rw [← h.len];exact hj);injection e with e;subst e;have:=hc j (by rw [← h.len];exact hj);have e2:(⟨b,off,none⟩:Addr).add j=⟨b,off+j,none⟩:=by unfold Addr.add;split <;> simp_all
 rw [e2,this,← hu]
 simp [List.getElem?_eq_getElem hj]
theorem below_drewN{B:Nat}{a w:World}(h:Below B a w) (n:Nat):Below B a (w.drewN n):=⟨h.os,h.tape,h.output,h.size,h.block⟩
theorem ret_int{k:IntKind}{a b:Int}(h:a=b):Ending.returned (.int k a)=.returned (.int k b):=by rw [h]
theorem ret_bool{a b:Bool}(h:a=b):Ending.returned (.bool a)=.returned (.bool b):=by rw [h]
end
section
def smallB(n:Int):Bool:=decide (97≤n∧n≤122)
def greatB(n:Int):Bool:=decide (65≤n∧n≤90)
def digitB(n:Int):Bool:=decide (48≤n∧n≤57)
def nameC(n:Int):Bool:=smallB n || greatB n || digitB n || decide (n=95)
def nameB(first:Int→Bool) (l:List UInt8):Bool:=
 decide (1≤l.length∧l.length≤12) && (match l with | []=>false | c::_=>first (c.toNat:Int)) && l.all fun c=>nameC (c.toNat:Int)
def wordsL:List (List UInt8):=[[110,111,100,101],[114,101,116,117,114,110,115],[118,97,114],[108,101,116],[116,101,108],[101,110,117,109],[105,102],[116,104,101,110],[101,108,115,101],[102,98,121],[112,114,101],[119,104,101,110],[109,101,114,103,101],[101,118,101,114,121],[110,111,116],[97,110,100],[111,114],[120,111,114],[109,111,100],[116,114,117,101],[102,97,108,115,101],[105,110,116],[98,111,111,108],[119,105,116,104]]
def wordB(l:List UInt8):Bool:=decide (l∈wordsL)
def lowB(l:List UInt8):Bool:=nameB smallB l && !wordB l
def highB(l:List UInt8):Bool:=nameB greatB l
def cutL(c:UInt8):List UInt8→List (List UInt8)
 | []=>[[]]
 | b::l=>if b=c then []::cutL c l else match cutL c l with | []=>[[b]] | p::ps=>(b::p)::ps
def numB(l:List UInt8):Bool:=
 decide (1≤l.length∧l.length≤3) && (match l with | []=>false | c::_=>!decide (c=48)) && l.all fun c=>digitB (c.toNat:Int)
def partL:List (List UInt8)→Bool
 | [a]=>lowB a
 | [a,n]=>lowB a && numB n
 | _=>false
def partB(l:List UInt8):Bool:=partL (cutL 46 l)
def pathB(l:List UInt8):Bool:=(cutL 47 l).all partB
theorem cutL_ne(c:UInt8) (l:List UInt8):cutL c l≠[]:=by
 cases l with
 | nil=>simp [cutL]
 | cons b l=>
  unfold cutL
  split
  · simp
  · split <;> simp
theorem cutL_none{c:UInt8}:∀ {l:List UInt8},c∉l→cutL c l=[l]
 | [],_=>rfl
 | b::l,h=>by
  have h1:b≠c:=fun e=>h (by simp [e]);have h2:=cutL_none (l:=l) (fun m=>h (List.mem_cons_of_mem _ m))
  simp [cutL,h1,h2]
theorem cutL_app{c:UInt8}:∀ (p r:List UInt8),cutL c (p++c::r)=cutL c p++cutL c r
 | [],r=>by simp [cutL]
 | b::p,r=>by
  have ih:=cutL_app (c:=c) p r
  by_cases hb:b=c
  · simp [cutL,hb,ih]
  · have hn:=cutL_ne c p
    cases hp:cutL c p with
    | nil=>exact absurd hp hn
    | cons q qs=>simp [cutL,hb,ih,hp]
theorem cutL_at{c:UInt8}{p r:List UInt8}(h:c∉p):cutL c (p++c::r)=p::cutL c r:=by
 rw [cutL_app,cutL_none h];rfl
theorem nameC_bd{n:Int}(h:nameC n=true):48≤n∧n≤122:=by
 simp [nameC,smallB,greatB,digitB] at h
 omega
theorem nameB_all{first:Int→Bool}{l:List UInt8}(h:nameB first l=true):∀ c∈l,nameC (c.toNat:Int)=true:=by
 simp [nameB] at h
 exact h.2
theorem path_app(s t:List UInt8):pathB (s++47::t)=(pathB s && pathB t):=by
 unfold pathB;rw [cutL_app,List.all_append]
theorem numB_point{l:List UInt8}(h:(46:UInt8)∈l):numB l=false:=by
 cases hn:numB l with
 | false=>rfl
 | true=>
  simp [numB] at hn
  have:=hn.2 46 h
  revert this
  decide
theorem partB_none{l:List UInt8}(h:(46:UInt8)∉l):partB l=lowB l:=by
 unfold partB;rw [cutL_none h];rfl
theorem partB_at{p r:List UInt8}(h:(46:UInt8)∉p):partB (p++46::r)=(lowB p && numB r):=by
 unfold partB;rw [cutL_at h]
 by_cases hr:(46:UInt8)∈r
 · rw [numB_point hr];obtain⟨a,b,rfl⟩:=List.append_of_mem hr;rw [cutL_app];have h1:=cutL_ne 46 a;have h2:=cutL_ne 46 b
   cases ha:cutL 46 a with
   | nil=>exact absurd ha h1
   | cons x xs=>
    cases hb:cutL 46 b with
    | nil=>exact absurd hb h2
    | cons y ys=>
     cases xs with
     | nil=>simp [partL]
     | cons z zs=>simp [partL]
 · rw [cutL_none hr];rfl
theorem index_none{l:List UInt8}{c:UInt8}(h:Lib.indexByte l c<0):c∉l:=by
 induction l with
 | nil=>simp
 | cons b l ih=>
  unfold Lib.indexByte at h;have hg:=Lib.indexByte_ge l c
  split at h
  · omega
  · split at h
    · rename_i h1 h2
      have:=ih (by simp at h2;omega)
      simp at h1
      simp [this]
      exact fun e=>h1 e.symm
    · rename_i h1 h2
      simp at h2
      omega
theorem index_some{l:List UInt8}{c:UInt8}(h:0≤Lib.indexByte l c):
 ∃ k:Nat,Lib.indexByte l c=k∧k<l.length∧c∉l.take k∧l=l.take k++c::l.drop (k+1):=by
 induction l with
 | nil=>simp [Lib.indexByte] at h
 | cons b l ih=>
  unfold Lib.indexByte at h ⊢;have hg:=Lib.indexByte_ge l c
  by_cases hb:b=c
  · subst hb;exact⟨0,by simp,by simp,by simp,by simp⟩
  · have hb':(b==c)=false:=by simpa using hb
    simp only [hb',Bool.false_eq_true,if_false] at h ⊢
    by_cases h1:Lib.indexByte l c=-1
    · simp [h1] at h
    · have h1':(Lib.indexByte l c==-1)=false:=by simpa using h1
      simp only [h1',Bool.false_eq_true,if_false] at h ⊢;obtain⟨k,e1,e2,e3,e4⟩:=ih (by omega);refine⟨k+1,by omega,by simp;omega,?_,?_⟩
      · simp
        exact⟨fun e=>hb e.symm,e3⟩
      · simp
        exact e4
theorem path_none{l:List UInt8}(h:(47:UInt8)∉l):pathB l=partB l:=by
 unfold pathB;rw [cutL_none h]
 simp
theorem path_at{p r:List UInt8}(h:(47:UInt8)∉p):pathB (p++47::r)=(partB p && pathB r):=by
 rw [path_app,path_none h]
def onceB(ls:List (List UInt8)):Bool:=decide ls.Nodup
end
section
inductive Ex where
 | mk (k n:Int) (s:ByteArray) (op:Int) (arms:List ByteArray) (subs:List Ex)
def Ex.k:Ex→Int | .mk k _ _ _ _ _=>k
def Ex.n:Ex→Int | .mk _ n _ _ _ _=>n
def Ex.s:Ex→ByteArray | .mk _ _ s _ _ _=>s
def Ex.op:Ex→Int | .mk _ _ _ op _ _=>op
def Ex.arms:Ex→List ByteArray | .mk _ _ _ _ a _=>a
def Ex.subs:Ex→List Ex | .mk _ _ _ _ _ l=>l
instance :Inhabited Ex:=⟨.mk 0 0 ByteArray.empty 0 [] []⟩
mutual
def sizeX:Ex→Nat
 | .mk _ _ _ _ _ l=>1+sizesX l
def sizesX:List Ex→Nat
 | []=>0
 | x::l=>sizeX x+sizesX l
end
mutual
def depthX:Ex→Nat
 | .mk _ _ _ _ _ l=>depthsX l+1
def depthsX:List Ex→Nat
 | []=>0
 | x::l=>max (depthX x) (depthsX l)
end
mutual
def partsX:Ex→List Ex
 | .mk k n s op a l=>.mk k n s op a l::partssX l
def partssX:List Ex→List Ex
 | []=>[]
 | x::l=>partsX x++partssX l
end
theorem sizeX_eq(x:Ex):sizeX x=1+sizesX x.subs:=by cases x;simp only [sizeX,Ex.subs]
theorem depthX_eq(x:Ex):depthX x=depthsX x.subs+1:=by cases x;simp only [depthX,Ex.subs]
theorem partsX_eq(x:Ex):partsX x=x::partssX x.subs:=by cases x;simp only [partsX,Ex.subs]
theorem sizesX_app(a b:List Ex):sizesX (a++b)=sizesX a+sizesX b:=by
 induction a with
 | nil=>simp [sizesX]
 | cons x a ih=>simp [sizesX,ih];omega
theorem partssX_app(a b:List Ex):partssX (a++b)=partssX a++partssX b:=by
 induction a with
 | nil=>simp [partssX]
 | cons x a ih=>simp [partssX,ih]
theorem depthsX_app(a b:List Ex):depthsX (a++b)=max (depthsX a) (depthsX b):=by
 induction a with
 | nil=>simp [depthsX]
 | cons x a ih=>simp only [List.cons_append,depthsX,ih];omega
theorem size_pos(x:Ex):0<sizeX x:=by rw [sizeX_eq];omega
theorem sizes_mem{l:List Ex}{x:Ex}(h:x∈l):sizeX x≤sizesX l:=by
 induction l with
 | nil=>cases h
 | cons y l ih=>
  simp only [sizesX];rcases List.mem_cons.1 h with rfl | h
  · omega
  · have:=ih h;omega
theorem size_sub{x y:Ex}(h:y∈x.subs):sizeX y<sizeX x:=by
 have:=sizes_mem h;rw [sizeX_eq x];omega
theorem sizes_take(l:List Ex) (k:Nat):sizesX (l.take k)≤sizesX l:=by
 have:=sizesX_app (l.take k) (l.drop k);rw [List.take_append_drop] at this;omega
mutual
theorem partsX_len:∀ x:Ex,(partsX x).length=sizeX x
 | .mk k n s op a l=>by simp only [partsX,sizeX,List.length_cons,partssX_len l];omega
theorem partssX_len:∀ l:List Ex,(partssX l).length=sizesX l
 | []=>rfl
 | x::l=>by simp only [partssX,sizesX,List.length_append,partsX_len x,partssX_len l]
end
mutual
theorem depth_size:∀ x:Ex,depthX x≤sizeX x
 | .mk k n s op a l=>by simp only [depthX,sizeX];have:=depths_size l;omega
theorem depths_size:∀ l:List Ex,depthsX l≤sizesX l
 | []=>Nat.le_refl _
 | x::l=>by simp only [depthsX,sizesX];have:=depth_size x;have:=depths_size l;omega
end
def subX(x:Ex) (i:Nat):Ex:=x.subs[i]?.getD default
theorem subX_mem{x:Ex}{i:Nat}(h:i<x.subs.length):subX x i∈x.subs:=by
 unfold subX;rw [List.getElem?_eq_getElem h];exact List.getElem_mem _
theorem subs_snoc{x:Ex}{i:Nat}(h:i<x.subs.length):x.subs.take (i+1)=x.subs.take i++[subX x i]:=by
 unfold subX;rw [List.take_succ_eq_append_getElem h,List.getElem?_eq_getElem h];rfl
theorem sizes_snoc{x:Ex}{i:Nat}(h:i<x.subs.length):sizesX (x.subs.take (i+1))=sizesX (x.subs.take i)+sizeX (subX x i):=by
 rw [subs_snoc h,sizesX_app]
 simp [sizesX]
theorem depths_snoc{x:Ex}{i:Nat}(h:i<x.subs.length):depthsX (x.subs.take (i+1))=max (depthsX (x.subs.take i)) (depthX (subX x i)):=by
 rw [subs_snoc h,depthsX_app]
 simp [depthsX]
theorem partss_snoc{x:Ex}{i:Nat}(h:i<x.subs.length):partssX (x.subs.take (i+1))=partssX (x.subs.take i)++partsX (subX x i):=by
 rw [subs_snoc h,partssX_app]
 simp [partssX]
theorem size_ind{P:Ex→Prop}(h:∀ x,(∀ i,i<x.subs.length→P (subX x i))→P x):∀ x,P x:=by
 have:∀ n x,sizeX x≤n→P x:=by
  intro n
  induction n with
  | zero=>intro x hx;have:=size_pos x;omega
  | succ n ih=>
   intro x hx;refine h x fun i hi=>ih _ ?_;have:=size_sub (subX_mem hi);omega
 exact fun x=>this _ x (Nat.le_refl _)
end
section
open Go.RowKit
def RdT(w:World) (A:Option Addr) (n:Nat) (ss:List ByteArray):Prop:=
 ss.length=n∧n≤9223372036854775807 ∧
 (0<n→∃ b off,A=some ⟨b,off,none⟩∧b<w.heap.size∧∀ i,i<n→w.cell? ⟨b,off+i,none⟩=some (.string (ss[i]?.getD ByteArray.empty)))
section
variable {w w':World}{A:Option Addr}{n:Nat}{ss:List ByteArray}
theorem RdT.nil_(w:World):RdT w none 0 []:=⟨rfl,by omega,by omega⟩
theorem RdT.len(h:RdT w A n ss):ss.length=n:=h.1
theorem RdT.max(h:RdT w A n ss):n≤9223372036854775807:=h.2.1
theorem RdT.at_(h:RdT w A n ss){i:Nat}(hi:i<n):
 ∃ b off,A=some ⟨b,off,none⟩∧b<w.heap.size∧∀ i,i<n→w.cell? ⟨b,off+i,none⟩=some (.string (ss[i]?.getD ByteArray.empty)):=
 h.2.2 (by omega)
theorem RdT.keep(h:RdT w A n ss) (hs:w.heap.size≤w'.heap.size) (hk:∀ p:Addr,p.block<w.heap.size→w'.cell? p=w.cell? p):RdT w' A n ss:=
 ⟨h.1,h.2.1,fun hn=>by
  obtain⟨b,off,e,hb,hc⟩:=h.2.2 hn;exact⟨b,off,e,by omega,fun i hi=>(hk _ hb).trans (hc i hi)⟩⟩
theorem RdT.below(h:RdT w A n ss) (hb:Below w.heap.size w w'):RdT w' A n ss:=h.keep hb.size fun _ hp=>hb.cell hp
theorem RdT.drewN(h:RdT w A n ss) (m:Nat):RdT (w.drewN m) A n ss:=h
theorem RdT.alloc(h:RdT w A n ss) (o:Obj):RdT (w.alloc o) A n ss:=h.below ((Below.refl _ _).alloc (Nat.le_refl _) o)
theorem RdT.of_own{base:Nat}{e:TypeId}{v:Value}(h:w.ownsRow base e 1 v n (ss.map Value.string)) (hm:n≤9223372036854775807):
 ∃ A c,v=.slice A n c∧RdT w A n ss∧(A=none→n=0):=by
 have hl:ss.length=n:=by have:=h.1;simpa using this
 rcases h.2 with⟨rfl,rfl⟩|⟨g,cap,cur,rfl,hg,hh,hnc,hcm,hcs,ht⟩
 · obtain rfl:ss=[]:=List.eq_nil_of_length_eq_zero hl;exact⟨none,0,rfl,RdT.nil_ _,fun _=>rfl⟩
 · refine⟨_,cap,rfl,⟨hl,hm,fun hn=>⟨g,0,rfl,?_,fun i hi=>?_⟩⟩,fun h=>by cases h⟩
   · exact(Array.getElem?_eq_some_iff.1 hh).1
   · have h1:=h.cellAt i (by omega);rw [Nat.zero_add,h1]
     simp [List.getElem?_eq_getElem (show i<ss.length by omega)]
end
theorem rdT_arg{w:World}{x:Addr}{n:Nat}{ss:List ByteArray}(hle:n≤ss.length) (hm:n≤9223372036854775807) (hc:∀ i,i<ss.length→w.cell? (x.add i)=some (.string (ss.getD i ByteArray.empty))):
 RdT w (some x) n (ss.take n):=by
 refine⟨by simp;omega,hm,fun hn=>?_⟩;obtain⟨b,off,spot⟩:=x;have h0:=hc 0 (by omega);have hspot:spot=none:=by simpa [Addr.add] using World.cell?_spot h0
 subst hspot;have hadd:∀ i,(⟨b,off,none⟩:Addr).add i=⟨b,off+i,none⟩:=fun i=>by unfold Addr.add;split <;> simp_all
 refine⟨b,off,rfl,World.block_lt_of_cell? w _ h0,fun i hi=>?_⟩;rw [← hadd,hc i (by omega),List.getElem?_take_of_lt hi,List.getD_eq_getElem?_getD]
theorem below_trans2{a b c:World}(h1:Below a.heap.size a b) (h2:Below b.heap.size b c):Below a.heap.size a c:=h1.trans (h2.mono h1.size)
end
section
open Go.RowKit
def exL(x:Ex) (A:Option Addr) (ca:Nat) (B:Option Addr) (cb:Nat):List Value:=
 [.int .i64 x.k,.int .i64 x.n,.string x.s,.int .i64 x.op,.slice A x.arms.length ca,.slice B x.subs.length cb]
def exA(x:Ex) (A:Option Addr) (ca:Nat) (B:Option Addr) (cb:Nat):Array Value:=
 #[.int .i64 x.k,.int .i64 x.n,.string x.s,.int .i64 x.op,.slice A x.arms.length ca,.slice B x.subs.length cb]
mutual
def rdX(w:World):Ex→Option Addr→Option Addr→Prop
 | .mk _ _ _ _ arms subs,A,B=>RdT w A arms.length arms∧subs.length≤9223372036854775807 ∧
  (0<subs.length→∃ b off,B=some ⟨b,off,none⟩∧b<w.heap.size∧rdXs w subs b off)
def rdXs(w:World):List Ex→Nat→Nat→Prop
 | [],_,_=>True
 | x::l,b,off=>(∃ A ca B cb,w.rangeAt b off (exL x A ca B cb)∧rdX w x A B)∧rdXs w l b (off+6)
end
def ExV(w:World) (v:Value) (x:Ex):Prop:=∃ A ca B cb,v=.agg (exA x A ca B cb)∧rdX w x A B
def RdX(w:World) (A:Option Addr) (n:Nat) (l:List Ex):Prop:=
 l.length=n∧n≤9223372036854775807∧(0<n→∃ b off,A=some ⟨b,off,none⟩∧b<w.heap.size∧rdXs w l b off)
section
variable {w w':World}{A B:Option Addr}{n:Nat}{x:Ex}{l:List Ex}
theorem rdX_eq:rdX w x A B↔RdT w A x.arms.length x.arms∧RdX w B x.subs.length x.subs:=by
 cases x
 simp only [rdX,RdX,Ex.arms,Ex.subs,true_and]
theorem rdX.arms(h:rdX w x A B):RdT w A x.arms.length x.arms:=(rdX_eq.1 h).1
theorem rdX.subs(h:rdX w x A B):RdX w B x.subs.length x.subs:=(rdX_eq.1 h).2
theorem rdXs_at:∀ (l:List Ex){b off:Nat},rdXs w l b off→∀ i,i<l.length→∃ A ca B cb,w.rangeAt b (off+i*6) (exL (l[i]?.getD default) A ca B cb)∧rdX w (l[i]?.getD default) A B
 | [],_,_,_,_,hi=>absurd hi (by simp)
 | x::l,b,off,h,i,hi=>by
  simp only [rdXs] at h
  cases i with
  | zero=>simpa using h.1
  | succ i=>
   have:=rdXs_at l h.2 i (by simpa using hi);rw [show off+6+i*6=off+(i+1)*6 by omega] at this
   simpa using this
theorem rdXs_of:∀ (l:List Ex){b off:Nat},(∀ i,i<l.length→∃ A ca B cb,w.rangeAt b (off+i*6) (exL (l[i]?.getD default) A ca B cb)∧rdX w (l[i]?.getD default) A B)→rdXs w l b off
 | [],_,_,_=>by simp only [rdXs]
 | x::l,b,off,h=>by
  simp only [rdXs];refine⟨by simpa using h 0 (by simp),rdXs_of l fun i hi=>?_⟩;have:=h (i+1) (by simpa using hi);rw [show off+(i+1)*6=off+6+i*6 by omega] at this
  simpa using this
theorem RdX.len(h:RdX w A n l):l.length=n:=h.1
theorem RdX.max(h:RdX w A n l):n≤9223372036854775807:=h.2.1
theorem RdX.at_(h:RdX w A n l){i:Nat}(hi:i<n):
 ∃ b off,A=some ⟨b,off,none⟩∧b<w.heap.size∧∀ i,i<n→∃ A' ca B' cb,w.rangeAt b (off+i*6) (exL (l[i]?.getD default) A' ca B' cb)∧rdX w (l[i]?.getD default) A' B':=by
 obtain⟨b,off,e,hb,hr⟩:=h.2.2 (by omega);exact⟨b,off,e,hb,fun i hi=>rdXs_at l hr i (by rw [h.1];exact hi)⟩
theorem RdX.nil_(w:World):RdX w none 0 []:=⟨rfl,by omega,by omega⟩
theorem rangeAt_keep{cs:List Value}{b o:Nat}(h:w.rangeAt b o cs) (hb:b<w.heap.size) (hk:∀ p:Addr,p.block<w.heap.size→w'.cell? p=w.cell? p):w'.rangeAt b o cs:=fun j v hv=>(hk _ hb).trans (h j v hv)
mutual
theorem rdX_keep(hs:w.heap.size≤w'.heap.size) (hk:∀ p:Addr,p.block<w.heap.size→w'.cell? p=w.cell? p):∀ (x:Ex) (A B:Option Addr),rdX w x A B→rdX w' x A B
 | .mk _ _ _ _ arms subs,A,B,h=>by
  simp only [rdX] at h ⊢;refine⟨h.1.keep hs hk,h.2.1,fun hn=>?_⟩;obtain⟨b,off,e,hb,hr⟩:=h.2.2 hn;exact⟨b,off,e,by omega,rdXs_keep hs hk subs b off hb hr⟩
theorem rdXs_keep(hs:w.heap.size≤w'.heap.size) (hk:∀ p:Addr,p.block<w.heap.size→w'.cell? p=w.cell? p):∀ (l:List Ex) (b off:Nat),b<w.heap.size→rdXs w l b off→rdXs w' l b off
 | [],_,_,_,_=>by simp only [rdXs]
 | x::l,b,off,hb,h=>by
  simp only [rdXs] at h ⊢;obtain⟨⟨A,ca,B,cb,h1,h2⟩,h3⟩:=h;exact⟨⟨A,ca,B,cb,rangeAt_keep h1 hb hk,rdX_keep hs hk x A B h2⟩,rdXs_keep hs hk l b (off+6) hb h3⟩
end
theorem rdX.keep(h:rdX w x A B) (hs:w.heap.size≤w'.heap.size) (hk:∀ p:Addr,p.block<w.heap.size→w'.cell? p=w.cell? p):rdX w' x A B:=rdX_keep hs hk x A B h
theorem rdX.below(h:rdX w x A B) (hb:Below w.heap.size w w'):rdX w' x A B:=h.keep hb.size fun _ hp=>hb.cell hp
theorem rdX.alloc(h:rdX w x A B) (o:Obj):rdX (w.alloc o) x A B:=h.below ((Below.refl _ _).alloc (Nat.le_refl _) o)
theorem rdX.drewN(h:rdX w x A B) (m:Nat):rdX (w.drewN m) x A B:=h.keep (Nat.le_refl _) fun _ _=>rfl
theorem rdX.drew(h:rdX w x A B):rdX w.drew x A B:=h.keep (Nat.le_refl _) fun _ _=>rfl
theorem RdX.keep(h:RdX w A n l) (hs:w.heap.size≤w'.heap.size) (hk:∀ p:Addr,p.block<w.heap.size→w'.cell? p=w.cell? p):RdX w' A n l:=
 ⟨h.1,h.2.1,fun hn=>by
  obtain⟨b,off,e,hb,hr⟩:=h.2.2 hn;exact⟨b,off,e,by omega,rdXs_keep hs hk l b off hb hr⟩⟩
theorem RdX.below(h:RdX w A n l) (hb:Below w.heap.size w w'):RdX w' A n l:=h.keep hb.size fun _ hp=>hb.cell hp
theorem RdX.alloc(h:RdX w A n l) (o:Obj):RdX (w.alloc o) A n l:=h.below ((Below.refl _ _).alloc (Nat.le_refl _) o)
theorem ExV.below{v:Value}(h:ExV w v x) (hb:Below w.heap.size w w'):ExV w' v x:=by
 obtain⟨A,ca,B,cb,e,hr⟩:=h;exact⟨A,ca,B,cb,e,hr.below hb⟩
theorem ExV.alloc{v:Value}(h:ExV w v x) (o:Obj):ExV (w.alloc o) v x:=h.below ((Below.refl _ _).alloc (Nat.le_refl _) o)
theorem rdX.sub(h:rdX w x A B){i:Nat}(hi:i<x.subs.length):
 ∃ b off,B=some ⟨b,off,none⟩∧b<w.heap.size∧∀ i,i<x.subs.length→∃ A' ca B' cb,w.rangeAt b (off+i*6) (exL (subX x i) A' ca B' cb)∧rdX w (subX x i) A' B':=h.subs.at_ hi
end
theorem rangeAt_six{w:World}{b o:Nat}{x:Ex}{A:Option Addr}{ca:Nat}{B:Option Addr}{cb:Nat}(h:w.rangeAt b o (exL x A ca B cb)):
 w.cell? ⟨b,o,none⟩=some (.int .i64 x.k)∧w.cell? ⟨b,o+1,none⟩=some (.int .i64 x.n)∧w.cell? ⟨b,o+2,none⟩=some (.string x.s)∧w.cell? ⟨b,o+3,none⟩=some (.int .i64 x.op) ∧
  w.cell? ⟨b,o+4,none⟩=some (.slice A x.arms.length ca)∧w.cell? ⟨b,o+5,none⟩=some (.slice B x.subs.length cb):=
 ⟨h 0 _ rfl,h 1 _ rfl,h 2 _ rfl,h 3 _ rfl,h 4 _ rfl,h 5 _ rfl⟩
theorem cells_ex:Try.prog.cellsOf 50=6:=by kernel_rfl
end
section
open Go.RowKit Go.Sort
theorem box_facts(w:World) (x:Ex) (A:Option Addr) (ca:Nat) (B:Option Addr) (cb:Nat) (w1:World) (h:w.alloc (.cells (exA x A ca B cb) 50)=w1) (hr:rdX w x A B):
 Below w.heap.size w w1∧w.heap.size<w1.heap.size∧rdX w1 x A B∧∀ w',Below w1.heap.size w1 w'→∀ j,w'.cell? ⟨w.heap.size,j,none⟩=(exA x A ca B cb)[j]?:=by
 subst h;refine⟨(Below.refl _ _).alloc (Nat.le_refl _) _,by simp,hr.alloc _,fun w' hb j=>?_⟩;rw [hb.cell (p:=⟨w.heap.size,j,none⟩) (by simp),World.cell?_alloc_new]
end
section
open Go.RowKit Go.Sort
def Cel6(w:World) (A:Option Addr) (n:Nat) (cs:List Value):Prop:=
 cs.length=n*6∧n≤9223372036854775807∧(0<n→∃ b off,A=some ⟨b,off,none⟩∧b<w.heap.size∧w.rangeAt b off cs)
theorem Cel6.of_own{w:World}{base:Nat}{e:TypeId}{v:Value}{n:Nat}{cs:List Value}(h:w.ownsRow base e 6 v n cs) (hm:n≤9223372036854775807):∃ A c,v=.slice A n c∧Cel6 w A n cs∧(0<n→∃ g,A=some ⟨g,0,none⟩∧base≤g):=by
 rcases h.2 with⟨rfl,rfl⟩|⟨g,cap,cur,rfl,hg,hh,hnc,hcm,hcs,ht⟩
 · exact⟨none,0,rfl,⟨h.1,hm,by omega⟩,by omega⟩
 · refine⟨_,cap,rfl,⟨h.1,hm,fun hn=>⟨g,0,rfl,(Array.getElem?_eq_some_iff.1 hh).1,fun j v hj=>?_⟩⟩,fun _=>⟨g,rfl,hg⟩⟩;have:=h.cellAt j (by rw [← h.1];exact(List.getElem?_eq_some_iff.1 hj).1);rw [Nat.zero_add,this,hj]
end
section
open Go.RowKit Go.Sort
theorem all_false{α:Type} [Inhabited α] {l:List α}{f:α→Bool}{i:Nat}(hi:i<l.length) (h:f (l[i]?.getD default)=false):l.all f=false:=by
 rw [List.all_eq_false];refine⟨l[i]?.getD default,?_,by simp [h]⟩;rw [List.getElem?_eq_getElem hi];exact List.getElem_mem _
theorem all_take_succ{α:Type} [Inhabited α] {l:List α}{f:α→Bool}{k:Nat}(hk:k<l.length) (h:(l.take k).all f=true) (hx:f (l[k]?.getD default)=true):(l.take (k+1)).all f=true:=by
 rw [List.take_succ_eq_append_getElem hk,List.all_append,h,Bool.true_and];rw [List.getElem?_eq_getElem hk] at hx
 simpa using hx
theorem all_take_end{α:Type}{l:List α}{f:α→Bool}{k:Nat}(h:(l.take k).all f=true) (hk:l.length≤k):l.all f=true:=by rwa [List.take_of_length_le hk] at h
instance :Inhabited ByteArray:=⟨ByteArray.empty⟩
def fewA(t:ByteArray):Bool:=!decide (100<t.size)
def fewP(p:Ex):Bool:=!decide (200<p.s.size) && !decide (20<p.arms.length) && p.arms.all fewA
def tinyX(x:Ex):Bool:=decide (sizeX x<200) && (partsX x).all fewP
end
section
open Go.RowKit
theorem idSmall(x:Int) (w:World):Calls Try.prog 65 #[.int .i32 x] w fun e w'=>e=.returned (.bool (smallB x))∧w=w':=by
 by_cases h1:97≤x
 all_goals
  go_enter Try.func65,Try.ntmps65
  go_wp2
  go_ret
  exact⟨ret_bool (by rw [Bool.eq_iff_iff];simp [smallB,h1] <;> omega),rfl⟩
theorem idGreat(x:Int) (w:World):Calls Try.prog 74 #[.int .i32 x] w fun e w'=>e=.returned (.bool (greatB x))∧w=w':=by
 by_cases h1:65≤x
 all_goals
  go_enter Try.func74,Try.ntmps74
  go_wp2
  go_ret
  exact⟨ret_bool (by rw [Bool.eq_iff_iff];simp [greatB,h1] <;> omega),rfl⟩
theorem idDigit(x:Int) (w:World):Calls Try.prog 79 #[.int .i32 x] w fun e w'=>e=.returned (.bool (digitB x))∧w=w':=by
 by_cases h1:48≤x
 all_goals
  go_enter Try.func79,Try.ntmps79
  go_wp2
  go_ret
  exact⟨ret_bool (by rw [Bool.eq_iff_iff];simp [digitB,h1] <;> omega),rfl⟩
theorem idInName(x:Int) (w:World):Calls Try.prog 75 #[.int .i32 x] w fun e w'=>e=.returned (.bool (nameC x))∧w=w':=by
 by_cases h1:smallB x=true
 · go_enter Try.func75,Try.ntmps75
   go_wp2_with fail
   refine(idSmall x _).mono ?_;rintro e w' ⟨rfl,rfl⟩
   go_wp2_with fail
   go_ret
   exact⟨ret_bool (by simp [nameC,h1]),rfl⟩
 · have h1:smallB x=false:=by simpa using h1
   by_cases h2:greatB x=true
   · go_enter Try.func75,Try.ntmps75
     go_wp2_with fail
     refine(idSmall x _).mono ?_;rintro e w' ⟨rfl,rfl⟩
     go_wp2_with fail
     refine(idGreat x _).mono ?_;rintro e w' ⟨rfl,rfl⟩
     go_wp2_with fail
     go_ret
     exact⟨ret_bool (by simp [nameC,h2]),rfl⟩
   · have h2:greatB x=false:=by simpa using h2
     by_cases h3:digitB x=true
     all_goals
      go_enter Try.func75,Try.ntmps75
      go_wp2_with fail
      refine(idSmall x _).mono ?_;rintro e w' ⟨rfl,rfl⟩
      go_wp2_with fail
      refine(idGreat x _).mono ?_;rintro e w' ⟨rfl,rfl⟩
      go_wp2_with fail
      refine(idDigit x _).mono ?_;rintro e w' ⟨rfl,rfl⟩
      go_wp2_with fail
      go_ret
      exact⟨ret_bool (by rw [Bool.eq_iff_iff];simp [nameC,h1,h2,h3]),rfl⟩
theorem liteIndexByte(s:ByteArray) (c:Int) (w:World):
 Calls Try.prog 94 #[.string s,.int .u8 c] w fun e w'=>e=.returned (.int .i64 (Lib.indexByte s.data.toList c.toNat.toUInt8))∧w=w':=by
 go_enter Try.func94,Try.ntmps94
 go_wp2
 rw [run_callFunc_extern Try.func98 (by kernel_rfl) (by kernel_rfl) (by kernel_rfl) (e:=Extern.BytealgIndexByte.indexByte) (by kernel_rfl),Lib.run_indexByteString];simp only [Result.andThen];rw [Oper.upon_value]
 go_wp2
 go_ret
 exact⟨rfl,rfl⟩
theorem liteIndex(s:ByteArray) (c:UInt8) (w:World):
 Calls Try.prog 93 #[.string s,.string ⟨#[c]⟩] w fun e w'=>e=.returned (.int .i64 (Lib.indexByte s.data.toList c))∧w=w':=by
 go_enter Try.func93,Try.ntmps93
 go_wp2_with (go_at_call 94;refine(liteIndexByte _ _ _).mono ?_;rintro e w' ⟨rfl,rfl⟩)
 · have h:([c]==s.toList)=true:=by assumption
   go_ret
   refine⟨?_,rfl⟩;have e:s.data.toList=[c]:=by rw [← Lib.toList_data];exact(beq_iff_eq.1 h).symm
   rw [e]
   simp [Lib.indexByte]
 · go_ret
   refine⟨ret_int ?_,rfl⟩
   congr 1
def Cuts(c:UInt8) (s:ByteArray) (w:World) (e:Ending) (w':World):Prop:=
 ∃ (a b:ByteArray) (f:Bool),e=.returned (.tuple #[.string a,.string b,.bool f])∧Below w.heap.size w w'∧c∉a.data.toList ∧
  (f=false→s.data.toList=a.data.toList)∧(f=true→s.data.toList=a.data.toList++c::b.data.toList)
theorem cuts_no{c:UInt8}{s:ByteArray}{w:World}(h:Lib.indexByte s.data.toList c<0):
 Cuts c s w (.returned (.tuple #[.string s,.string ⟨#[]⟩,.bool false])) w:=
 ⟨s,_,false,rfl,Below.refl _ _,index_none h,fun _=>rfl,fun h=>by cases h⟩
theorem cuts_yes{c:UInt8}{s:ByteArray}{w:World}{k m:Nat}{n:Nat}(hn:n=s.size) (h2:k<s.data.toList.length) (h3:c∉s.data.toList.take k) (h4:s.data.toList=s.data.toList.take k++c::s.data.toList.drop (k+1)):
 Cuts c s w (.returned (.tuple #[.string (s.extract 0 k),.string (s.extract (k+1) n),.bool true])) (w.drewN m):=by
 subst hn;have e1:(s.extract 0 k).data.toList=s.data.toList.take k:=by rw [Lib.extract_data];simp
 have e2:(s.extract (k+1) s.size).data.toList=s.data.toList.drop (k+1):=by
  rw [Lib.extract_data,List.take_of_length_le (by rw [Lib.size_eq];simp)]
 refine⟨_,_,true,rfl,below_drewN (Below.refl _ _) m,?_,fun h=>by(cases h),fun _=>?_⟩
 · rw [e1];exact h3
 · rw [e1,e2];exact h4
theorem liteCut(s:ByteArray) (c:UInt8) (w:World) (hs:s.size≤9223372036854775806):
 Calls Try.prog 91 #[.string s,.string ⟨#[c]⟩] w (Cuts c s w):=by
 rcases(show Lib.indexByte s.data.toList c<0∨0≤Lib.indexByte s.data.toList c by omega) with h | h
 · have HC:=Hd (cuts_no (w:=w) h);have hge:=Lib.indexByte_ge s.data.toList c;generalize hi:Lib.indexByte s.data.toList c=i at h hge;have HI:=Hd hi;clear hi
   go_enter Try.func91,Try.ntmps91
   go_wp2_with fail
   refine(liteIndex s c _).mono ?_;rintro e w' ⟨rfl,rfl⟩;rw [HI.out]
   go_wp2_with fail
   exact bodyPost_ret (v:=.tuple #[.string s,.string ⟨#[]⟩,.bool false]) (by simp [results,Try.results91,go_sem]) rfl HC.out
 · obtain⟨k,hi,h2,h3,h4⟩:=index_some h;have HC:=fun m=>Hd (cuts_yes (w:=w) (m:=m) (n:=s.size) rfl h2 h3 h4);have hk:k<s.size:=by rw [Lib.size_eq];exact h2
   have HI:=Hd hi;clear hi h h2 h3 h4;have h5:IntKind.i64.wrap ((k:Int)+1)=(k:Int)+1:=IntWalk.i64_in _ (by omega);have h6:((k:Int)+1).toNat=k+1:=by omega
   have h7:(0:Int)≤(k:Int)+1:=by omega
   go_enter Try.func91,Try.ntmps91
   go_wp2_with fail
   refine(liteIndex s c _).mono ?_;rintro e w' ⟨rfl,rfl⟩;rw [HI.out]
   go_wp2_with fail
   go_quiet (fail)
   go_wp2_with fail
   exact bodyPost_ret (v:=.tuple #[.string (s.extract 0 k),.string (s.extract (k+1) s.size),.bool true]) (by simp [results,Try.results91,go_sem]) rfl (HC _).out
theorem strCut(s:ByteArray) (c:UInt8) (w:World) (hs:s.size≤9223372036854775806):
 Calls Try.prog 87 #[.string s,.string ⟨#[c]⟩] w (Cuts c s w):=by
 go_enter Try.func87,Try.ntmps87
 go_wp2_with fail
 refine(liteCut s c _ hs).mono ?_;rintro e w' ⟨a,b,f,rfl,hb,hc,hf,ht⟩;have H:Hid (Cuts c s w (.returned (.tuple #[.string a,.string b,.bool f])) w'):=Hd ⟨a,b,f,rfl,hb,hc,hf,ht⟩;clear hb hc hf ht
 go_wp2_with fail
 exact bodyPost_ret (v:=.tuple #[.string a,.string b,.bool f]) (by simp [results,Try.results87,go_sem]) rfl H.out
end
section
open Go.RowKit
theorem word_yes{s:ByteArray}{l:List UInt8}(h:(s.toList==l)=true) (hl:l∈wordsL):wordB s.data.toList=true:=by
 rw [Lib.toList_data] at h;rw [beq_iff_eq.1 h]
 simp [wordB,hl]
theorem both_ways{s:ByteArray}{l:List UInt8}(h:(s.toList==l)=true) (h2:(s.toList==l)=false):False:=by
 rw [h] at h2
 cases h2
theorem word_no{s:ByteArray}(h:∀ l∈wordsL,(s.toList==l)=false):wordB s.data.toList=false:=by
 simp only [wordB,decide_eq_false_iff_not];intro hm;have:=h _ hm;rw [Lib.toList_data] at this
 simp at this
theorem idWord(s:ByteArray) (w:World):Calls Try.prog 66 #[.string s] w fun e w'=>e=.returned (.bool (wordB s.data.toList))∧w=w':=by
 go_enter Try.func66,Try.ntmps66
 go_wp2
 all_goals
  go_ret
  first
   | exact⟨ret_bool (word_yes (by assumption) (by decide)).symm,rfl⟩
   | (exfalso;exact both_ways (by assumption) (by assumption))
   | exact⟨ret_bool (word_no (fun l hl=>by simp only [wordsL,List.mem_cons,List.not_mem_nil,or_false] at hl;rcases hl with h | h | h | h | h | h | h | h | h | h | h | h | h | h | h | h | h | h | h | h | h | h | h | h <;> subst h <;> assumption)).symm,rfl⟩
end
section
open Go.RowKit
end
section
open Go.RowKit
section
variable {P:Int→Bool}{s:ByteArray}
theorem at_list(s:ByteArray) (k:Nat) (h:k<s.size):s.data.toList[k]'(by rw [← Lib.size_eq];exact h)=s[k]'h:=rfl
theorem name_len(h:s.size<1∨12<s.size):nameB P s.data.toList=false:=by
 have:¬ (1≤s.data.toList.length∧s.data.toList.length≤12):=by rw [← Lib.size_eq];omega
 simp only [nameB,decide_eq_false this,Bool.false_and]
theorem at_opt(s:ByteArray) (k:Nat) (h:k<s.size):s.data.toList[k]?=some (s[k]'h):=by
 rw [← at_list s k h,List.getElem?_eq_getElem]
theorem head_at(h:0<s.size):∃ F,s.data.toList=s[0]'h::F:=by
 have hl:=at_opt s 0 h;generalize s[0]'h=c at hl ⊢
 cases e:s.data.toList with
 | nil=>rw [e] at hl;simp at hl
 | cons d F=>rw [e] at hl;simp at hl;exact⟨F,by rw [hl]⟩
theorem name_first(h:0<s.size) (hp:P ((s[0]'h).toNat:Int)=false):nameB P s.data.toList=false:=by
 obtain⟨F,e⟩:=head_at h;rw [e];simp only [nameB,hp,Bool.and_false,Bool.false_and]
theorem name_at{k:Nat}(h:k<s.size) (hp:nameC ((s[k]'h).toNat:Int)=false):nameB P s.data.toList=false:=by
 have hm:s[k]'h∈s.data.toList:=by rw [← at_list s k h];exact List.getElem_mem _
 cases hn:nameB P s.data.toList with
 | false=>rfl
 | true=>rw [nameB_all hn _ hm] at hp;cases hp
theorem name_yes(h1:0<s.size) (h2:s.size≤12) (hp:P ((s[0]'h1).toNat:Int)=true) (ha:∀ k (h:k<s.size),nameC ((s[k]'h).toNat:Int)=true):nameB P s.data.toList=true:=by
 have hz:=Lib.size_eq s
 have hall:s.data.toList.all (fun c=>nameC (c.toNat:Int))=true:=by
  rw [List.all_eq_true];intro c hc;obtain⟨k,hk,e⟩:=List.getElem_of_mem hc;rw [← e,at_list s k (by omega)];exact ha k (by omega)
 have hlen:decide (1≤s.data.toList.length∧s.data.toList.length≤12)=true:=decide_eq_true (by omega);obtain⟨F,e⟩:=head_at h1;unfold nameB;rw [hall,hlen,e];simp only [hp,Bool.and_true]
end
theorem nameC_high{x:Int}(h:128≤x):nameC x=false:=by
 cases hn:nameC x with
 | false=>rfl
 | true=>have:=nameC_bd hn;omega
theorem next_at{P:Program}(w:World) (s:ByteArray) (pos:Nat) (h:pos<s.size):
 ∃ (x:Int) (q:Nat),(∀ ty,(Instr.next (.pointer (some ⟨w.heap.size,0,none⟩)) true ty).run P (w.iter s pos)=.ok (.tuple #[.bool true,.int .i64 pos,.int .i32 x]) (w.iter s q)) ∧
  ((x=((s[pos]'h).toNat:Int)∧q=pos+1)∨(128≤x∧128≤(s[pos]'h).toNat∧pos<q)):=by
 by_cases ha:(s[pos]'h).toNat<128
 · exact⟨_,_,fun ty=>run_next_ascii (P:=P) w s pos ty h ha,.inl ⟨rfl,rfl⟩⟩
 · have:=decode_high s pos h (by omega);exact⟨_,_,fun ty=>run_next_any (P:=P) w s pos ty h,.inr ⟨by omega,by omega,by omega⟩⟩
theorem below_iter(w:World) (s:ByteArray) (q:Nat):Below w.heap.size w (w.iter s q):=(Below.refl _ _).alloc (Nat.le_refl _) _
def NameTo(P:Int→Bool) (s:ByteArray) (pos:Nat):Prop:=
 (∀ k (h:k<s.size),k<pos→nameC ((s[k]'h).toNat:Int)=true)∧(0<pos→∀ h:0<s.size,P ((s[0]'h).toNat:Int)=true)
section
variable {P:Int→Bool}{s:ByteArray}{pos q:Nat}{x:Int}
theorem nameTo_zero:NameTo P s 0:=⟨fun k h hk=>absurd hk (by omega),fun h=>absurd h (by omega)⟩
theorem nameTo_lt(hp:pos<s.size) (hx:(x=((s[pos]'hp).toNat:Int)∧q=pos+1)∨(128≤x∧128≤(s[pos]'hp).toNat∧pos<q)):pos<q:=by
 rcases hx with⟨_,h⟩|⟨_,_,h⟩ <;> omega
theorem nameTo_step(H:NameTo P s pos) (hp:pos<s.size) (hx:(x=((s[pos]'hp).toNat:Int)∧q=pos+1)∨(128≤x∧128≤(s[pos]'hp).toNat∧pos<q))
 (h1:pos=0→P x=true) (h2:nameC x=true):q≤s.size∧NameTo P s q:=by
 rcases hx with⟨rfl,rfl⟩|⟨h,_,_⟩
 · refine⟨by omega,fun k hk hlt=>?_,fun _ h0=>?_⟩
   · rcases Nat.lt_or_ge k pos with h | h
     · exact H.1 k hk h
     · obtain rfl:k=pos:=by omega
       exact h2
   · rcases Nat.eq_zero_or_pos pos with h | h
     · subst h;exact h1 rfl
     · exact H.2 h h0
 · rw [nameC_high h] at h2
   cases h2
theorem nameTo_bad(hp:pos<s.size) (hx:(x=((s[pos]'hp).toNat:Int)∧q=pos+1)∨(128≤x∧128≤(s[pos]'hp).toNat∧pos<q)) (h2:nameC x=false):nameB P s.data.toList=false:=by
 rcases hx with⟨rfl,rfl⟩|⟨_,h,_⟩
 · exact name_at hp h2
 · exact name_at hp (nameC_high (by omega))
theorem nameTo_first(hz:pos=0) (hp:pos<s.size) (hx:(x=((s[pos]'hp).toNat:Int)∧q=pos+1)∨(128≤x∧128≤(s[pos]'hp).toNat∧pos<q)) (h2:P x=false):nameB P s.data.toList=false:=by
 subst hz;rcases hx with⟨rfl,rfl⟩|⟨_,h,_⟩
 · exact name_first hp h2
 · exact name_at hp (nameC_high (by omega))
theorem nameTo_end(H:NameTo P s pos) (h0:0<s.size) (h12:s.size≤12) (he:s.size≤pos):nameB P s.data.toList=true:=
 name_yes h0 h12 (H.2 (by omega) h0) fun k h=>H.1 k h (by omega)
end
theorem idName(K:FuncId) (P:Int→Bool) (hK:(K=65∧P=smallB)∨(K=74∧P=greatB)) (s:ByteArray) (w:World) (hs:s.size≤9223372036854775807):
 Calls Try.prog 64 #[.string s,.func (.func K) #[] #[]] w fun e w'=>e=.returned (.bool (nameB P s.data.toList))∧Below w.heap.size w w':=by
 by_cases h1:s.size<1
 · go_enter Try.func64,Try.ntmps64
   go_wp2
   go_ret
   exact⟨ret_bool (name_len (.inl h1)).symm,Below.refl _ _⟩
 · by_cases h2:12<s.size
   · go_enter Try.func64,Try.ntmps64
     go_wp2
     go_ret
     exact⟨ret_bool (name_len (.inr h2)).symm,Below.refl _ _⟩
   · have hd1:decide ((s.size:Int)<1)=false:=decide_eq_false (by omega);have hd2:decide ((12:Int)<(s.size:Int))=false:=decide_eq_false (by omega);have h0:0<s.size:=by omega
     have h12:s.size≤12:=by omega
     clear h1 h2;rcases hK with⟨rfl,rfl⟩|⟨rfl,rfl⟩
     · go_enter Try.func64,Try.ntmps64
       go_wp2_with fail
       clear hd1 hd2
       go_loopw [5] (fun _ wr=>∃ pos:Nat,pos≤s.size∧wr=w.iter s pos∧NameTo smallB s pos) (fun _ wr=>s.size-wr.iterPos w.heap.size)
       case atStart=>exact⟨0,by omega,rfl,nameTo_zero⟩
       case round=>
        obtain⟨pos,hle,rfl,hrel⟩:=hrel;have HR:=Hd hrel;clear hrel
        by_cases hp:pos<s.size
        · obtain⟨x,q,hnx,hx⟩:=next_at (P:=Try.prog) w s pos hp;have HX:=Hd hx;clear hx;have hpi:((pos:Int)==0)=decide (pos=0):=by rw [Bool.eq_iff_iff];simp
          generalize (pos:Int)=pi at hnx hpi
          by_cases hz:pos=0
          · have hpi:(pi==0)=true:=by rw [hpi];exact decide_eq_true hz
            have HZ:=Hd hz;clear hz
            by_cases hx1:smallB x=true
            · by_cases hx2:nameC x=true
              · go_wp2_with (first | (go_at_call 65;refine(idSmall x _).mono ?_;rintro e w' ⟨rfl,rfl⟩) | (go_at_call 75;refine(idInName x _).mono ?_;rintro e w' ⟨rfl,rfl⟩))
                go_roundw
                case rel=>exact⟨q,(nameTo_step HR.out hp HX.out (fun _=>hx1) hx2).1,rfl,(nameTo_step HR.out hp HX.out (fun _=>hx1) hx2).2⟩
                case measure=>simp;have:=nameTo_lt hp HX.out;omega
              · have hx2:nameC x=false:=by simpa using hx2
                go_wp2_with (first | (go_at_call 65;refine(idSmall x _).mono ?_;rintro e w' ⟨rfl,rfl⟩) | (go_at_call 75;refine(idInName x _).mono ?_;rintro e w' ⟨rfl,rfl⟩))
                go_ret
                exact⟨ret_bool (nameTo_bad hp HX.out hx2).symm,below_iter _ _ _⟩
            · have hx1:smallB x=false:=by simpa using hx1
              go_wp2_with (first | (go_at_call 65;refine(idSmall x _).mono ?_;rintro e w' ⟨rfl,rfl⟩) | (go_at_call 75;refine(idInName x _).mono ?_;rintro e w' ⟨rfl,rfl⟩))
              go_ret
              exact⟨ret_bool (nameTo_first HZ.out hp HX.out hx1).symm,below_iter _ _ _⟩
          · have hpi:(pi==0)=false:=by rw [hpi];exact decide_eq_false hz
            have HZ:=Hd hz;clear hz
            by_cases hx2:nameC x=true
            · go_wp2_with (first | (go_at_call 65;refine(idSmall x _).mono ?_;rintro e w' ⟨rfl,rfl⟩) | (go_at_call 75;refine(idInName x _).mono ?_;rintro e w' ⟨rfl,rfl⟩))
              go_roundw
              case rel=>exact⟨q,(nameTo_step HR.out hp HX.out (fun h=>absurd h HZ.out) hx2).1,rfl,(nameTo_step HR.out hp HX.out (fun h=>absurd h HZ.out) hx2).2⟩
              case measure=>simp;have:=nameTo_lt hp HX.out;omega
            · have hx2:nameC x=false:=by simpa using hx2
              go_wp2_with (first | (go_at_call 65;refine(idSmall x _).mono ?_;rintro e w' ⟨rfl,rfl⟩) | (go_at_call 75;refine(idInName x _).mono ?_;rintro e w' ⟨rfl,rfl⟩))
              go_ret
              exact⟨ret_bool (nameTo_bad hp HX.out hx2).symm,below_iter _ _ _⟩
        · have hnx:∀ ty,(Instr.next (.pointer (some ⟨w.heap.size,0,none⟩)) true ty).run Try.prog (w.iter s pos)=_:=fun ty=>run_next_end w s pos ty hp
          go_wp2_with fail
          go_ret
          exact⟨ret_bool (nameTo_end HR.out h0 h12 (by omega)).symm,below_iter _ _ _⟩
     · go_enter Try.func64,Try.ntmps64
       go_wp2_with fail
       clear hd1 hd2
       go_loopw [5] (fun _ wr=>∃ pos:Nat,pos≤s.size∧wr=w.iter s pos∧NameTo greatB s pos) (fun _ wr=>s.size-wr.iterPos w.heap.size)
       case atStart=>exact⟨0,by omega,rfl,nameTo_zero⟩
       case round=>
        obtain⟨pos,hle,rfl,hrel⟩:=hrel;have HR:=Hd hrel;clear hrel
        by_cases hp:pos<s.size
        · obtain⟨x,q,hnx,hx⟩:=next_at (P:=Try.prog) w s pos hp;have HX:=Hd hx;clear hx;have hpi:((pos:Int)==0)=decide (pos=0):=by rw [Bool.eq_iff_iff];simp
          generalize (pos:Int)=pi at hnx hpi
          by_cases hz:pos=0
          · have hpi:(pi==0)=true:=by rw [hpi];exact decide_eq_true hz
            have HZ:=Hd hz;clear hz
            by_cases hx1:greatB x=true
            · by_cases hx2:nameC x=true
              · go_wp2_with (first | (go_at_call 74;refine(idGreat x _).mono ?_;rintro e w' ⟨rfl,rfl⟩) | (go_at_call 75;refine(idInName x _).mono ?_;rintro e w' ⟨rfl,rfl⟩))
                go_roundw
                case rel=>exact⟨q,(nameTo_step HR.out hp HX.out (fun _=>hx1) hx2).1,rfl,(nameTo_step HR.out hp HX.out (fun _=>hx1) hx2).2⟩
                case measure=>simp;have:=nameTo_lt hp HX.out;omega
              · have hx2:nameC x=false:=by simpa using hx2
                go_wp2_with (first | (go_at_call 74;refine(idGreat x _).mono ?_;rintro e w' ⟨rfl,rfl⟩) | (go_at_call 75;refine(idInName x _).mono ?_;rintro e w' ⟨rfl,rfl⟩))
                go_ret
                exact⟨ret_bool (nameTo_bad hp HX.out hx2).symm,below_iter _ _ _⟩
            · have hx1:greatB x=false:=by simpa using hx1
              go_wp2_with (first | (go_at_call 74;refine(idGreat x _).mono ?_;rintro e w' ⟨rfl,rfl⟩) | (go_at_call 75;refine(idInName x _).mono ?_;rintro e w' ⟨rfl,rfl⟩))
              go_ret
              exact⟨ret_bool (nameTo_first HZ.out hp HX.out hx1).symm,below_iter _ _ _⟩
          · have hpi:(pi==0)=false:=by rw [hpi];exact decide_eq_false hz
            have HZ:=Hd hz;clear hz
            by_cases hx2:nameC x=true
            · go_wp2_with (first | (go_at_call 74;refine(idGreat x _).mono ?_;rintro e w' ⟨rfl,rfl⟩) | (go_at_call 75;refine(idInName x _).mono ?_;rintro e w' ⟨rfl,rfl⟩))
              go_roundw
              case rel=>exact⟨q,(nameTo_step HR.out hp HX.out (fun h=>absurd h HZ.out) hx2).1,rfl,(nameTo_step HR.out hp HX.out (fun h=>absurd h HZ.out) hx2).2⟩
              case measure=>simp;have:=nameTo_lt hp HX.out;omega
            · have hx2:nameC x=false:=by simpa using hx2
              go_wp2_with (first | (go_at_call 74;refine(idGreat x _).mono ?_;rintro e w' ⟨rfl,rfl⟩) | (go_at_call 75;refine(idInName x _).mono ?_;rintro e w' ⟨rfl,rfl⟩))
              go_ret
              exact⟨ret_bool (nameTo_bad hp HX.out hx2).symm,below_iter _ _ _⟩
        · have hnx:∀ ty,(Instr.next (.pointer (some ⟨w.heap.size,0,none⟩)) true ty).run Try.prog (w.iter s pos)=_:=fun ty=>run_next_end w s pos ty hp
          go_wp2_with fail
          go_ret
          exact⟨ret_bool (nameTo_end HR.out h0 h12 (by omega)).symm,below_iter _ _ _⟩
end
section
open Go.RowKit
def sameT(a b:List ByteArray):Bool:=decide (a.map (fun s=>s.toList)=b.map (fun s=>s.toList))
def sameTo(a b:List ByteArray) (k:Nat):Prop:=∀ j,j<k→((a[j]?.getD ByteArray.empty).toList==(b[j]?.getD ByteArray.empty).toList)=true
section
variable {a b:List ByteArray}{k:Nat}
theorem sameT_len(h:a.length≠b.length):sameT a b=false:=decide_eq_false fun e=>h (by simpa using congrArg List.length e)
theorem sameT_at(ha:k<a.length) (hb:k<b.length) (h:((a[k]?.getD ByteArray.empty).toList==(b[k]?.getD ByteArray.empty).toList)=false):sameT a b=false:=decide_eq_false fun e=>by
 have h1:=congrArg (fun l=>l[k]?) e;simp only [List.getElem?_map,List.getElem?_eq_getElem ha,List.getElem?_eq_getElem hb,Option.map_some,Option.some.injEq] at h1;rw [List.getElem?_eq_getElem ha,List.getElem?_eq_getElem hb,Option.getD_some,Option.getD_some,h1] at h
 simp at h
theorem sameT_yes(hl:a.length=b.length) (H:sameTo a b k) (h:a.length≤k):sameT a b=true:=decide_eq_true (by
 apply List.ext_getElem
 · simpa using hl
 · intro i h1 h2;rw [List.length_map] at h1 h2;have:=H i (by omega);rw [List.getElem?_eq_getElem h1,List.getElem?_eq_getElem h2,Option.getD_some,Option.getD_some] at this
   simpa using this)
theorem sameTo_succ(H:sameTo a b k) (h:((a[k]?.getD ByteArray.empty).toList==(b[k]?.getD ByteArray.empty).toList)=true):sameTo a b (k+1):=fun j hj=>by
 rcases Nat.lt_or_ge j k with h1 | h1
 · exact H j h1
 · obtain rfl:j=k:=by omega
   exact h
end
end
section
open Go.RowKit
section
variable {P:Program}{w:World}
theorem run_append_nil(base:Nat) (t ty e:TypeId) (i:TypeInfo) (size:Nat) (ht:P.underlying t=some (.slice e)) (hi:P.info? e=some i)
 (v:Value) (n:Nat) (xs:List Value) (hown:w.ownsRow base e size v n xs) (c:Nat):(Builtin.append_ #[t,t] ty #[v,.slice none 0 c]).run P w=.ok v w:=by
 rcases hown.2 with⟨rfl,rfl⟩|⟨g,cap,cur,rfl,_,_,hnc,_⟩
 · simp [Builtin.append_,run_underlying ht,sizeOf,typeInfo,hi,Builtin.lenOf,Builtin.firstCells]
 · simp [Builtin.append_,run_underlying ht,sizeOf,typeInfo,hi,Builtin.lenOf,Builtin.firstCells,hnc,storeCells]
end
end
end Go.Proofs.Ytpehkppcdlboeaa
