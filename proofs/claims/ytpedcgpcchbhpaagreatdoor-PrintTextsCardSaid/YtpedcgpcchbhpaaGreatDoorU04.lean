/- Parts of the proof: NmT, App, TyE, PgM, PgR, TyI, Stp, TyR, BdA. Conditions: each theorem's own. -/
import Derived.Deep.RegionHeld3
import Derived.Laws.AppendOwnNone
import Derived.RangeFuncNested
import Derived.RangeFuncBound
import Derived.RangeFuncCalls
import Derived.RangeFuncLeaves
import Derived.Shelf.Abstract
import Derived.Shelf.RegionOpen
import Derived.OwnWalkIn
import Derived.TacticsInMore
import Derived.LoopNIn
import Derived.LoopIn
import Derived.Lib.Builder
import Derived.Lib.AppendStr
import Derived.Lib.UnsafeStr
import Derived.Lib.OthersKept
import Derived.Laws.Externs
import Derived.Test.YtpedcgpcchbhpaaGreatDoorU01
namespace Go.Proofs.YtpedcgpcchbhpaaGreatDoor
set_option linter.unusedVariables false
set_option linter.unusedSimpArgs false
set_option maxRecDepth 100000
set_option maxHeartbeats 40000000
section
open Go.RowKit
def sameT(a b:List ByteArray):Bool:=decide (a.map (fun s=>s.toList)=b.map (fun s=>s.toList))
def sameTo(a b:List ByteArray) (k:Nat):Prop:=∀ j,j<k→((a[j]?.getD ByteArray.empty).toList==(b[j]?.getD ByteArray.empty).toList)=true
section
variable {a b:List ByteArray}{k:Nat}
theorem sameT_len(h:a.length≠b.length):sameT a b=false:=decide_eq_false fun e=>h (by simpa using congrArg List.length e)
theorem sameT_at(ha:k<a.length) (hb:k<b.length) (h:((a[k]?.getD ByteArray.empty).toList==(b[k]?.getD ByteArray.empty).toList)=false):sameT a b=false:=decide_eq_false fun e=>by
 have h1:=congrArg (fun l=>l[k]?) e;simp only [List.getElem?_map,List.getElem?_eq_getElem ha,List.getElem?_eq_getElem hb,Option.map_some,Option.some.injEq] at h1;rw [List.getElem?_eq_getElem ha,List.getElem?_eq_getElem hb,Option.getD_some,Option.getD_some,h1] at h
 simp at h
theorem sameT_yes(hl:a.length=b.length) (H:sameTo a b k) (h:a.length≤k):sameT a b=true:=decide_eq_true (by
 apply List.ext_getElem
 · simpa using hl
 · intro i h1 h2;rw [List.length_map] at h1 h2;have:=H i (by omega);rw [List.getElem?_eq_getElem h1,List.getElem?_eq_getElem h2,Option.getD_some,Option.getD_some] at this
   simpa using this)
theorem sameTo_succ(H:sameTo a b k) (h:((a[k]?.getD ByteArray.empty).toList==(b[k]?.getD ByteArray.empty).toList)=true):sameTo a b (k+1):=fun j hj=>by
 rcases Nat.lt_or_ge j k with h1 | h1
 · exact H j h1
 · obtain rfl:j=k:=by omega
   exact h
end
theorem refNames(A B:Option Addr) (n m c d:Nat) (ss tt:List ByteArray) (w:World) (hs:RdT w A n ss) (ht:RdT w B m tt):
 Calls Tryz.prog 62 #[.slice A n c,.slice B m d] w fun r w'=>r=.returned (.bool (sameT ss tt))∧Below w.heap.size w w':=by
 have h1:=hs.len;have h2:=ht.len;have h3:=hs.max;have h4:=ht.max
 by_cases hnm:n=m
 · subst hnm
   go_enter Tryz.func62,Tryz.ntmps62
   go_wp2_with fail
   go_loopw [5] (fun i wr=>∃ k:Nat,k≤n∧i=.int .i64 k∧sameTo ss tt k∧∃ p,wr=w.drewN p) (fun i _=>n-(intOf i).toNat)
   case atStart=>exact⟨0,Nat.zero_le _,rfl,fun j hj=>absurd hj (by omega),0,rfl⟩
   case round=>
    obtain⟨k,hk,rfl,hto,p,rfl⟩:=hrel;have HT:=Hd hto;clear hto
    by_cases hlt:k<n
    · obtain⟨b,off,rfl,hb,hc⟩:=hs.at_ hlt;obtain⟨b',off',rfl,hb',hc'⟩:=ht.at_ hlt;have e1:=hc k hlt;have e2:=hc' k hlt;have HN:=Hd fun h=>sameTo_succ HT.out h;have HF:=Hd fun h=>sameT_at (a:=ss) (b:=tt) (k:=k) (by omega) (by omega) h;clear hc hc';generalize ss[k]?.getD ByteArray.empty=x at e1 HN HF;generalize tt[k]?.getD ByteArray.empty=y at e2 HN HF
      by_cases he:(x.toList==y.toList)=true
      · have HN:=Hd (HN.out he);have hne:(x.toList != y.toList)=false:=by simp only [bne,he];rfl
        go_wp2_with fail
        go_quiet (fail)
        go_wp2_with fail
        go_roundw
        case rel=>exact⟨k+1,by omega,by go_num,HN.out,_,rfl⟩
        case measure=>simp [intOf];omega
      · have he:(x.toList==y.toList)=false:=by simpa using he
        have HF:=Hd (HF.out he);have hne:(x.toList != y.toList)=true:=by simp only [bne,he];rfl
        go_wp2_with fail
        go_quiet (fail)
        go_wp2_with fail
        go_ret
        exact⟨ret_bool HF.out.symm,below_drewN (below_drewN (Below.refl _ _) _) _⟩
    · have HY:=Hd (sameT_yes (by omega) HT.out (by omega))
      go_wp2_with fail
      go_ret
      exact⟨ret_bool HY.out.symm,below_drewN (Below.refl _ _) _⟩
 · have hF:=Hd (sameT_len (a:=ss) (b:=tt) (by omega));have hne:((n:Int) != (m:Int))=true:=by rw [bne_iff_ne];omega
   go_enter Tryz.func62,Tryz.ntmps62
   go_wp2_with fail
   go_ret
   exact⟨ret_bool hF.out.symm,Below.refl _ _⟩
end
section
open Go.RowKit
theorem Rd.lit(k:IntKind) (w:World) (T:TypeId) (l:List Int) (n:Nat) (hn:l.length=n) (hm:n≤9223372036854775807) (hwf:∀ z∈l,(Lit.int k z).wf=true) (cs:Array Value) (hcs:cs=(l.map (Value.int k)).toArray):
 Rd k (w.alloc (.cells cs T)) (some ⟨w.heap.size,0,none⟩) n n l:=by
 subst hcs hn;refine⟨rfl,Nat.le_refl _,by unfold maxLen;omega,hwf,fun _=>⟨_,_,rfl,by simp,fun i hi=>?_⟩⟩;rw [Nat.zero_add,World.cell?_alloc_new]
 simp [List.getElem?_eq_getElem hi]
section
variable {P:Program}{w:World}
theorem run_append_nil(base:Nat) (t ty e:TypeId) (i:TypeInfo) (size:Nat) (ht:P.underlying t=some (.slice e)) (hi:P.info? e=some i)
 (v:Value) (n:Nat) (xs:List Value) (hown:w.ownsRow base e size v n xs) (c:Nat):(Builtin.append_ #[t,t] ty #[v,.slice none 0 c]).run P w=.ok v w:=by
 rcases hown.2 with⟨rfl,rfl⟩|⟨g,cap,cur,rfl,_,_,hnc,_⟩
 · simp [Builtin.append_,run_underlying ht,sizeOf,typeInfo,hi,Builtin.lenOf,Builtin.firstCells]
 · simp [Builtin.append_,run_underlying ht,sizeOf,typeInfo,hi,Builtin.lenOf,Builtin.firstCells,hnc,storeCells]
end
end
section
open Go.RowKit
abbrev En:=ByteArray × List ByteArray
def nmE(es:List En) (i:Nat):ByteArray:=(es[i]?.getD (ByteArray.empty,[])).1
def csE(es:List En) (i:Nat):List ByteArray:=(es[i]?.getD (ByteArray.empty,[])).2
def RdE(w:World) (A:Option Addr) (n:Nat) (es:List En):Prop:=
 es.length=n∧n≤9223372036854775807 ∧
 (0<n→∃ b off,A=some ⟨b,off,none⟩∧b<w.heap.size∧∀ i,i<n→w.cell? ⟨b,off+i*2,none⟩=some (.string (nmE es i)) ∧
  ∃ A' n' c',w.cell? ⟨b,off+i*2+1,none⟩=some (.slice A' n' c')∧RdT w A' n' (csE es i))
def EsOk(es:List En):Prop:=∀ i,i<es.length→(nmE es i).size≤maxLen∧∀ s∈csE es i,s.size≤maxLen
section
variable {w w':World}{A:Option Addr}{n:Nat}{es:List En}
theorem RdE.nil_(w:World):RdE w none 0 []:=⟨rfl,by omega,by omega⟩
theorem RdE.len(h:RdE w A n es):es.length=n:=h.1
theorem RdE.max(h:RdE w A n es):n≤9223372036854775807:=h.2.1
theorem RdE.at_(h:RdE w A n es){i:Nat}(hi:i<n):
 ∃ b off,A=some ⟨b,off,none⟩∧b<w.heap.size∧∀ i,i<n→w.cell? ⟨b,off+i*2,none⟩=some (.string (nmE es i)) ∧
  ∃ A' n' c',w.cell? ⟨b,off+i*2+1,none⟩=some (.slice A' n' c')∧RdT w A' n' (csE es i):=
 h.2.2 (by omega)
theorem RdE.keep(h:RdE w A n es) (hs:w.heap.size≤w'.heap.size) (hk:∀ p:Addr,p.block<w.heap.size→w'.cell? p=w.cell? p):RdE w' A n es:=
 ⟨h.1,h.2.1,fun hn=>by
  obtain⟨b,off,e,hb,hc⟩:=h.2.2 hn;refine⟨b,off,e,by omega,fun i hi=>?_⟩;obtain⟨h1,A',n',c',h2,h3⟩:=hc i hi;exact⟨(hk _ hb).trans h1,A',n',c',(hk _ hb).trans h2,h3.keep hs hk⟩⟩
theorem RdE.below(h:RdE w A n es) (hb:Below w.heap.size w w'):RdE w' A n es:=h.keep hb.size fun _ hp=>hb.cell hp
theorem RdE.drewN(h:RdE w A n es) (m:Nat):RdE (w.drewN m) A n es:=h
theorem RdE.drew(h:RdE w A n es):RdE w.drew A n es:=h
theorem RdE.alloc(h:RdE w A n es) (o:Obj):RdE (w.alloc o) A n es:=h.below ((Below.refl _ _).alloc (Nat.le_refl _) o)
theorem RdT.drew{ss:List ByteArray}(h:RdT w A n ss):RdT w.drew A n ss:=h
end
theorem nm_map(es:List En) (i:Nat):(es.map (·.1))[i]?.getD ByteArray.empty=nmE es i:=by
 unfold nmE;rw [List.getElem?_map]
 cases es[i]? <;> rfl
abbrev Pl:=Nat × Nat × ByteArray
def ctAt(es:List En) (i k:Nat):ByteArray:=(csE es i)[k]?.getD ByteArray.empty
def rowTo(es:List En) (i k:Nat):List Pl:=(List.range k).map fun k=>(i,k,ctAt es i k)
def flatTo(es:List En):Nat→List Pl
 | 0=>[]
 | i+1=>flatTo es i++rowTo es i (csE es i).length
def flatE(es:List En):List Pl:=flatTo es es.length
def upTo(es:List En) (i k:Nat):List Pl:=flatTo es i++rowTo es i k
section
variable {es:List En}{i k:Nat}
theorem rowTo_succ(es:List En) (i k:Nat):rowTo es i (k+1)=rowTo es i k++[(i,k,ctAt es i k)]:=by simp [rowTo,List.range_succ]
theorem upTo_zero(es:List En):upTo es 0 0=[]:=by simp [upTo,flatTo,rowTo]
theorem upTo_succ(es:List En) (i k:Nat):upTo es i (k+1)=upTo es i k++[(i,k,ctAt es i k)]:=by simp [upTo,rowTo_succ]
theorem upTo_next(es:List En) (i:Nat):upTo es i (csE es i).length=upTo es (i+1) 0:=by simp [upTo,flatTo,rowTo]
theorem upTo_end(es:List En):upTo es es.length 0=flatE es:=by simp [upTo,flatE,rowTo]
theorem flatTo_pre(es:List En) (i j:Nat) (h:i≤j):flatTo es i <+: flatTo es j:=by
 induction j with
 | zero=>
  obtain rfl:i=0:=by omega
  exact List.prefix_refl _
 | succ j ih=>
  rcases Nat.lt_or_ge i (j+1) with h1 | h1
  · exact(ih (by omega)).trans (by show _ <+: flatTo es j++_;exact List.prefix_append _ _)
  · obtain rfl:i=j+1:=by omega
    exact List.prefix_refl _
theorem rowTo_pre(es:List En) (i k m:Nat) (h:k≤m):rowTo es i k <+: rowTo es i m:=by
 induction m with
 | zero=>
  obtain rfl:k=0:=by omega
  exact List.prefix_refl _
 | succ m ih=>
  rcases Nat.lt_or_ge k (m+1) with h1 | h1
  · exact(ih (by omega)).trans (by rw [rowTo_succ];exact List.prefix_append _ _)
  · obtain rfl:k=m+1:=by omega
    exact List.prefix_refl _
theorem upTo_pre(hi:i<es.length) (hk:k≤(csE es i).length):upTo es i k <+: flatE es:=by
 refine List.IsPrefix.trans ?_ (flatTo_pre es (i+1) es.length (by omega))
 show flatTo es i++rowTo es i k <+: flatTo es i++rowTo es i (csE es i).length
 exact List.prefix_append_right_inj _ |>.2 (rowTo_pre es i _ _ hk)
def allE(es:List En):List ByteArray:=(flatE es).map (·.2.2)
theorem rowTo_names(es:List En) (i k:Nat) (h:k≤(csE es i).length):(rowTo es i k).map (·.2.2)=(csE es i).take k:=by
 induction k with
 | zero=>simp [rowTo]
 | succ k ih=>
  rw [rowTo_succ,List.map_append,ih (by omega),List.take_succ_eq_append_getElem (by omega)]
  simp [ctAt,List.getElem?_eq_getElem (show k<(csE es i).length by omega)]
def namesTo(es:List En) (i:Nat):List ByteArray:=(flatTo es i).map (·.2.2)
theorem namesTo_succ(es:List En) (i:Nat):namesTo es (i+1)=namesTo es i++csE es i:=by
 show(flatTo es i++rowTo es i _).map _=_
 rw [List.map_append,rowTo_names es i _ (Nat.le_refl _),List.take_length];rfl
theorem namesTo_end(es:List En):namesTo es es.length=allE es:=rfl
theorem namesTo_len(h:∀ j,j<i→(csE es j).length≤12):(namesTo es i).length≤i*12:=by
 induction i with
 | zero=>simp [namesTo,flatTo]
 | succ i ih=>
  have h1:=ih fun j hj=>h j (by omega);have h2:=h i (by omega);rw [namesTo_succ,List.length_append];omega
theorem namesTo_mem{x:ByteArray}(h:x∈namesTo es i):∃ j,j<i∧x∈csE es j:=by
 induction i with
 | zero=>simp [namesTo,flatTo] at h
 | succ i ih=>
  rw [namesTo_succ,List.mem_append] at h;rcases h with h | h
  · obtain⟨j,hj,hx⟩:=ih h;exact⟨j,by omega,hx⟩
  · exact⟨i,by omega,h⟩
end
end
section
structure Dc where
 nm:ByteArray
 k:Int
 e:Int
 l:Int
 on:ByteArray
 ct:ByteArray
instance :Inhabited Dc:=⟨⟨⟨#[]⟩,0,0,0,⟨#[]⟩,⟨#[]⟩⟩⟩
structure Qn where
 ns:List ByteArray
 x:Ex
instance :Inhabited Qn:=⟨⟨[],default⟩⟩
structure Nd where
 nm:ByteArray
 ins:List Dc
 outs:List Dc
 vars:List Dc
 eqs:List Qn
instance :Inhabited Nd:=⟨⟨ByteArray.empty,[],[],[],[]⟩⟩
structure Pg where
 es:List En
 ns:List Nd
def Nd.all(n:Nd):List Dc:=n.ins++n.outs++n.vars
def namesD(l:List Dc):List ByteArray:=l.map Dc.nm
def trueS:List UInt8:=[116,114,117,101]
def falseS:List UInt8:=[102,97,108,115,101]
def armT(s:ByteArray):Bool:=highB s.data.toList || (s.data.toList==trueS) || (s.data.toList==falseS)
def noB(s:ByteArray):Bool:=s.data.toList==[]
def declB(n:Nat) (rt:Nat→Int→Int→Int→Bool) (d:Dc):Bool:=
 lowB d.nm.data.toList && rt n d.k d.e d.l && ((noB d.on && noB d.ct) || (lowB d.on.data.toList && armT d.ct))
def eqB(rx:Ex→Bool) (q:Qn):Bool:=
 q.ns.all (fun s=>lowB s.data.toList) && decide (0<q.ns.length) && rx q.x && (decide (q.ns.length=1) || q.x.k==13)
def portsB(n:Nd):Bool:=(n.ins++n.outs).all fun d=>noB d.on
def nodeB(es:Nat) (rt:Nat→Int→Int→Int→Bool) (rx:Ex→Bool) (n:Nd):Bool:=
 n.all.all (declB es rt) && portsB n && n.eqs.all (eqB rx) && lowB n.nm.data.toList && decide (0<n.outs.length)
def manyN(n:Nd):Bool:=decide (6<n.ins.length) || decide (6<n.outs.length) || decide (12<n.vars.length) || decide (18<n.eqs.length)
def eqD(a b:Dc):Bool:=(a.nm.data.toList==b.nm.data.toList) && (a.k==b.k) && (a.e==b.e) && (a.l==b.l) && (a.on.data.toList==b.on.data.toList) && (a.ct.data.toList==b.ct.data.toList)
def sameL{α:Type}(f:α→α→Bool):List α→List α→Bool
 | [],[]=>true
 | a::l,b::m=>f a b && sameL f l m
 | _,_=>false
theorem sameL_len{α:Type}{f:α→α→Bool}:∀ {l m:List α},l.length≠m.length→sameL f l m=false
 | [],[],h=>absurd rfl h
 | [],b::m,_=>rfl
 | a::l,[],_=>rfl
 | a::l,b::m,h=>by
  simp only [sameL];rw [sameL_len (l:=l) (m:=m) (by simpa using h)]
  simp
theorem sameL_yes{α:Type} [Inhabited α] {f:α→α→Bool}:∀ {l m:List α},l.length=m.length→(∀ i,i<l.length→f (l[i]?.getD default) (m[i]?.getD default)=true)→sameL f l m=true
 | [],[],_,_=>rfl
 | [],b::m,h,_=>by simp at h
 | a::l,[],h,_=>by simp at h
 | a::l,b::m,h,hi=>by
  simp only [sameL,Bool.and_eq_true];refine⟨by simpa using hi 0 (by simp),sameL_yes (by simpa using h) fun i hl=>?_⟩
  simpa using hi (i+1) (by simpa using hl)
theorem sameL_no{α:Type} [Inhabited α] {f:α→α→Bool}:∀ {l m:List α}{i:Nat},i<l.length→l.length=m.length→f (l[i]?.getD default) (m[i]?.getD default)=false→sameL f l m=false
 | [],m,i,h,_,_=>by simp at h
 | a::l,[],i,_,h,_=>by simp at h
 | a::l,b::m,i,hi,hl,hf=>by
  simp only [sameL,Bool.and_eq_false_iff]
  cases i with
  | zero=>left;simpa using hf
  | succ i=>
   right
   exact sameL_no (i:=i) (by simpa using hi) (by simpa using hl) (by simpa using hf)
theorem sameL_refl{α:Type}{f:α→α→Bool}:∀ {l:List α},(∀ x∈l,f x x=true)→sameL f l l=true
 | [],_=>rfl
 | a::l,h=>by
  simp only [sameL,Bool.and_eq_true];exact⟨h a (by simp),sameL_refl fun x hx=>h x (by simp [hx])⟩
def findI{α:Type}(f:α→Bool):List α→Nat→Int
 | [],_=>-1
 | a::l,i=>if f a then(i:Int) else findI f l (i+1)
def declO(n:Nd) (s:ByteArray):Option Dc:=n.all.find? fun d=>d.nm.data.toList==s.data.toList
def clockR(n:Nd):Nat→ByteArray→List Dc→Option (List Dc)
 | 0,_,_=>none
 | k+1,s,acc=>match declO n s with
  | none=>none
  | some d=>if noB d.on then some acc else clockR n k d.on (d::acc)
theorem all_len(n:Nd):n.all.length=n.ins.length+n.outs.length+n.vars.length:=by simp [Nd.all];omega
end
section
open Go.RowKit
def RdS{α:Type} [Inhabited α] (k:Nat) (At:World→Nat→Nat→α→Prop) (w:World) (A:Option Addr) (n:Nat) (l:List α):Prop:=
 l.length=n∧n≤9223372036854775807∧(0<n→∃ b off,A=some ⟨b,off,none⟩∧b<w.heap.size∧∀ i,i<n→At w b (off+i*k) (l[i]?.getD default))
def KeepsAt{α:Type}(At:World→Nat→Nat→α→Prop):Prop:=
 ∀ {w w':World}{b o:Nat}{x:α},At w b o x→b<w.heap.size→w.heap.size≤w'.heap.size→(∀ p:Addr,p.block<w.heap.size→w'.cell? p=w.cell? p)→At w' b o x
def dcL(d:Dc):List Value:=[.string d.nm,.int .i64 d.k,.int .i64 d.e,.int .i64 d.l,.string d.on,.string d.ct]
def dcA(d:Dc):Array Value:=#[.string d.nm,.int .i64 d.k,.int .i64 d.e,.int .i64 d.l,.string d.on,.string d.ct]
def DcAt(w:World) (b o:Nat) (d:Dc):Prop:=w.rangeAt b o (dcL d)
def RdD(w:World) (A:Option Addr) (n:Nat) (l:List Dc):Prop:=RdS 6 DcAt w A n l
def QnAt(w:World) (b o:Nat) (q:Qn):Prop:=
 ∃ A c A' ca B' cb,w.cell? ⟨b,o,none⟩=some (.slice A q.ns.length c)∧RdT w A q.ns.length q.ns∧w.rangeAt b (o+1) (exL q.x A' ca B' cb)∧rdX w q.x A' B'
def RdQ(w:World) (A:Option Addr) (n:Nat) (l:List Qn):Prop:=RdS 7 QnAt w A n l
def ndA(n:Nd) (A1:Option Addr) (c1:Nat) (A2:Option Addr) (c2:Nat) (A3:Option Addr) (c3:Nat) (A4:Option Addr) (c4:Nat):Array Value:=
 #[.string n.nm,.slice A1 n.ins.length c1,.slice A2 n.outs.length c2,.slice A3 n.vars.length c3,.slice A4 n.eqs.length c4]
def ndL(n:Nd) (A1:Option Addr) (c1:Nat) (A2:Option Addr) (c2:Nat) (A3:Option Addr) (c3:Nat) (A4:Option Addr) (c4:Nat):List Value:=
 [.string n.nm,.slice A1 n.ins.length c1,.slice A2 n.outs.length c2,.slice A3 n.vars.length c3,.slice A4 n.eqs.length c4]
def rdN(w:World) (n:Nd) (A1 A2 A3 A4:Option Addr):Prop:=RdD w A1 n.ins.length n.ins∧RdD w A2 n.outs.length n.outs∧RdD w A3 n.vars.length n.vars∧RdQ w A4 n.eqs.length n.eqs
def NdAt(w:World) (b o:Nat) (n:Nd):Prop:=
 ∃ A1 c1 A2 c2 A3 c3 A4 c4,w.rangeAt b o (ndL n A1 c1 A2 c2 A3 c3 A4 c4)∧rdN w n A1 A2 A3 A4
def RdNs(w:World) (A:Option Addr) (n:Nat) (l:List Nd):Prop:=RdS 5 NdAt w A n l
section
variable {w w':World}{A B A1 A2 A3 A4:Option Addr}{n:Nat}
theorem RdS.len{α:Type} [Inhabited α] {k:Nat}{At:World→Nat→Nat→α→Prop}{l:List α}(h:RdS k At w A n l):l.length=n:=h.1
theorem RdS.max{α:Type} [Inhabited α] {k:Nat}{At:World→Nat→Nat→α→Prop}{l:List α}(h:RdS k At w A n l):n≤9223372036854775807:=h.2.1
theorem RdS.at_{α:Type} [Inhabited α] {k:Nat}{At:World→Nat→Nat→α→Prop}{l:List α}(h:RdS k At w A n l) (hn:0<n):
 ∃ b off,A=some ⟨b,off,none⟩∧b<w.heap.size∧∀ i,i<n→At w b (off+i*k) (l[i]?.getD default):=h.2.2 hn
theorem RdS.nil_{α:Type} [Inhabited α] (k:Nat) (At:World→Nat→Nat→α→Prop) (w:World):RdS k At w none 0 []:=⟨rfl,by omega,by omega⟩
theorem RdS.keep{α:Type} [Inhabited α] {k:Nat}{At:World→Nat→Nat→α→Prop}{l:List α}(hAt:KeepsAt At) (h:RdS k At w A n l) (hs:w.heap.size≤w'.heap.size) (hk:∀ p:Addr,p.block<w.heap.size→w'.cell? p=w.cell? p):RdS k At w' A n l:=
 ⟨h.1,h.2.1,fun hn=>by
  obtain⟨b,off,e,hb,hc⟩:=h.2.2 hn;exact⟨b,off,e,by omega,fun i hi=>hAt (hc i hi) hb hs hk⟩⟩
theorem keeps_dc:KeepsAt DcAt:=fun h hb hs hk=>rangeAt_keep h hb hk
theorem keeps_qn:KeepsAt QnAt:=fun h hb hs hk=>by
 obtain⟨A,c,A',ca,B',cb,h1,h2,h3,h4⟩:=h;exact⟨A,c,A',ca,B',cb,(hk _ hb).trans h1,h2.keep hs hk,rangeAt_keep h3 hb hk,h4.keep hs hk⟩
theorem RdD.keep{l:List Dc}(h:RdD w A n l) (hs:w.heap.size≤w'.heap.size) (hk:∀ p:Addr,p.block<w.heap.size→w'.cell? p=w.cell? p):RdD w' A n l:=RdS.keep keeps_dc h hs hk
theorem RdQ.keep{l:List Qn}(h:RdQ w A n l) (hs:w.heap.size≤w'.heap.size) (hk:∀ p:Addr,p.block<w.heap.size→w'.cell? p=w.cell? p):RdQ w' A n l:=RdS.keep keeps_qn h hs hk
theorem rdN.keep{x:Nd}(h:rdN w x A1 A2 A3 A4) (hs:w.heap.size≤w'.heap.size) (hk:∀ p:Addr,p.block<w.heap.size→w'.cell? p=w.cell? p):rdN w' x A1 A2 A3 A4:=
 ⟨h.1.keep hs hk,h.2.1.keep hs hk,h.2.2.1.keep hs hk,h.2.2.2.keep hs hk⟩
theorem keeps_nd:KeepsAt NdAt:=fun h hb hs hk=>by
 obtain⟨A1,c1,A2,c2,A3,c3,A4,c4,h1,h2⟩:=h;exact⟨A1,c1,A2,c2,A3,c3,A4,c4,rangeAt_keep h1 hb hk,h2.keep hs hk⟩
theorem RdNs.keep{l:List Nd}(h:RdNs w A n l) (hs:w.heap.size≤w'.heap.size) (hk:∀ p:Addr,p.block<w.heap.size→w'.cell? p=w.cell? p):RdNs w' A n l:=RdS.keep keeps_nd h hs hk
theorem RdD.below{l:List Dc}(h:RdD w A n l) (hb:Below w.heap.size w w'):RdD w' A n l:=h.keep hb.size fun _ hp=>hb.cell hp
theorem RdQ.below{l:List Qn}(h:RdQ w A n l) (hb:Below w.heap.size w w'):RdQ w' A n l:=h.keep hb.size fun _ hp=>hb.cell hp
theorem rdN.below{x:Nd}(h:rdN w x A1 A2 A3 A4) (hb:Below w.heap.size w w'):rdN w' x A1 A2 A3 A4:=h.keep hb.size fun _ hp=>hb.cell hp
theorem RdNs.below{l:List Nd}(h:RdNs w A n l) (hb:Below w.heap.size w w'):RdNs w' A n l:=h.keep hb.size fun _ hp=>hb.cell hp
theorem DcAt.six{b o:Nat}{d:Dc}(h:DcAt w b o d):
 w.cell? ⟨b,o,none⟩=some (.string d.nm)∧w.cell? ⟨b,o+1,none⟩=some (.int .i64 d.k)∧w.cell? ⟨b,o+2,none⟩=some (.int .i64 d.e)∧w.cell? ⟨b,o+3,none⟩=some (.int .i64 d.l) ∧
  w.cell? ⟨b,o+4,none⟩=some (.string d.on)∧w.cell? ⟨b,o+5,none⟩=some (.string d.ct):=⟨h 0 _ rfl,h 1 _ rfl,h 2 _ rfl,h 3 _ rfl,h 4 _ rfl,h 5 _ rfl⟩
theorem ndL_five{b o:Nat}{x:Nd}{c1 c2 c3 c4:Nat}(h:w.rangeAt b o (ndL x A1 c1 A2 c2 A3 c3 A4 c4)):
 w.cell? ⟨b,o,none⟩=some (.string x.nm)∧w.cell? ⟨b,o+1,none⟩=some (.slice A1 x.ins.length c1)∧w.cell? ⟨b,o+2,none⟩=some (.slice A2 x.outs.length c2)∧w.cell? ⟨b,o+3,none⟩=some (.slice A3 x.vars.length c3) ∧
  w.cell? ⟨b,o+4,none⟩=some (.slice A4 x.eqs.length c4):=⟨h 0 _ rfl,h 1 _ rfl,h 2 _ rfl,h 3 _ rfl,h 4 _ rfl⟩
end
theorem cells_dc:Tryz.prog.cellsOf 38=6:=by kernel_rfl
theorem cells_qn:Tryz.prog.cellsOf 49=7:=by kernel_rfl
theorem cells_nd:Tryz.prog.cellsOf 33=5:=by kernel_rfl
end
section
open Go.RowKit Go.Shelf
attribute [local go_sem] Oper.semAt_some
theorem grownBy_of_below{W W':World}(h:Below W.heap.size W W'):W.grownBy W' none:=⟨h.os,h.tape,h.output,h.size,fun i hi _=>h.block i hi⟩
def encPl(x:Pl):Array Value:=#[.agg #[.int .i64 (x.1:Int),.int .i64 (x.2.1:Int)],.string x.2.2]
theorem tyCtors(A:Option Addr) (n c:Nat) (w:World):
 Calls Tryz.prog 99 #[.slice A n c] w fun e w'=>e=.returned (.func (.func 133) #[] #[.pointer (some ⟨w.heap.size,0,none⟩)])∧w'=w.alloc (.cells #[.slice A n c] 22):=by
 go_enter Tryz.func99,Tryz.ntmps99
 go_wp2
 go_ret
 exact⟨rfl,rfl⟩
theorem tyIter_in(n:Nat) (hn:1≤n) (l Bs:Nat) (w:World) (A:Option Addr) (len cap:Nat) (es:List En) (hE:RdE w A len es) (J Jx:List Pl→World→Prop) (W:World) (hbW:Below w.heap.size w W)
 (hJ:AbidesFrom W.heap.size J)
 (hY:∀ pre x W,J pre W→pre++[x] <+: flatE es→YieldAt Fence.wide (n-1) Tryz.prog l (encPl x) W fun e W' =>
  (e=.returned (.bool true)∧J (pre++[x]) W'∧Below w.heap.size W W')∨(e=.returned (.bool false)∧Jx (pre++[x]) W'))
 (hBs:W.cell? ⟨Bs,0,none⟩=some (.slice A len cap)) (h0:J [] W):
 CallsIn Fence.wide n Tryz.prog 133 #[.func (.yield l) #[] #[],.pointer (some ⟨Bs,0,none⟩)] W fun e W'=>(∃ v,e=.returned v) ∧
  ((∃ ys,ys=flatE es∧J ys W')∨(∃ pre,pre <+: flatE es∧Jx pre W')):=by
 have hlen:=hE.len;have hmx:=hE.max;refine callsIn_of_wp Tryz.func133 rfl trivial ?_ rfl;simp only [Tryz.ntmps133,List.size_toArray,List.length_cons,List.length_nil,Nat.reduceAdd,Nat.reduceSub,Array.replicate_succ,Array.replicate_zero,List.push_toArray,List.append_toArray,List.nil_append,List.cons_append]
 gi_wp2
 gi_loopw [9] (fun i wr=>∃ k:Nat,k≤len∧i=.int .i64 k∧J (upTo es k 0) wr∧Below w.heap.size w wr)
  (fun i _=>len-(intOf i).toNat)
 case atStart=>exact⟨0,Nat.zero_le _,rfl,by rw [upTo_zero];exact h0,hbW⟩
 case round=>
  obtain⟨k,hk,rfl,hJs,hnx⟩:=hrel
  by_cases hlt:k<len
  · obtain⟨b,off,rfl,hb,hc⟩:=hE.at_ hlt;obtain⟨hn0,A',n',c',hs0,hR0⟩:=hc k hlt;have hn1:wr.cell? ⟨b,off+k*2,none⟩=some (.string (nmE es k)):=(hnx.cell (p:=⟨b,off+k*2,none⟩) hb).trans hn0;have hs1:wr.cell? ⟨b,off+k*2+1,none⟩=some (.slice A' n' c'):=(hnx.cell (p:=⟨b,off+k*2+1,none⟩) hb).trans hs0;have hkl:k<es.length:=by omega
    have hcl:=hR0.len;have hcm:=hR0.max;have hJa:∀ W',Below wr.heap.size wr W'→J (upTo es k 0) W':=fun W' h=>hJ _ _ _ none hJs (grownBy_of_below h) (fun r e=>by cases e)
    gi_wp2
    gi_loopw [17] (fun i wr=>∃ m:Nat,m≤n'∧i=.int .i64 m∧J (upTo es k m) wr∧Below w.heap.size w wr)
     (fun i _=>n' - (intOf i).toNat)
    case atStart=>exact⟨0,Nat.zero_le _,rfl,hJa _ ((Below.refl _ _).alloc (Nat.le_refl _) _),hnx.alloc hnx.size _⟩
    case round=>
     obtain⟨m,hm,rfl,hJm,hnm⟩:=hrel
     by_cases hltm:m<n'
     · obtain⟨b2,off2,rfl,hb2,hc2⟩:=hR0.at_ hltm;have hcm2:=(hnm.cell (p:=⟨b2,off2+m,none⟩) hb2).trans (hc2 m hltm);have hpre:=upTo_pre (es:=es) hkl (k:=m+1) (by omega);obtain⟨fn,tmps,assign,body,hy,hR⟩:=hY _ (k,m,ctAt es k m) _ hJm (by rw [← upTo_succ];exact hpre);rw [← upTo_succ] at hR;unfold ctAt at hy;simp only [encPl] at hy;generalize hx:(csE es k)[m]?.getD ByteArray.empty=x at hcm2 hy
       gi_wp2
       refine hR.mono ?_;rintro e W3 (⟨rfl,hJ3,hk3⟩|⟨rfl,hJx3⟩)
       · gi_wp2
         go_roundw
         case rel=>exact⟨m+1,by omega,by go_num,hJ3,hnm.trans hk3⟩
         case measure=>simp [intOf];omega
       · gi_wp2
         refine bodyPost_ret (results_none rfl _ _ _) rfl ?_;exact⟨⟨_,rfl⟩,.inr ⟨_,hpre,hJx3⟩⟩
     · obtain rfl:m=n':=by omega
       gi_wp2
       go_roundw
       case rel=>exact⟨k+1,by omega,by go_num,by rw [← upTo_next,hcl];exact hJm,hnm⟩
       case measure=>simp [intOf];omega
  · obtain rfl:k=len:=by omega
    gi_wp2
    go_end0
    exact⟨⟨_,rfl⟩,.inl ⟨_,rfl,by rw [← upTo_end,hlen];exact hJs⟩⟩
theorem tyIter_stops(n:Nat) (hn:1≤n) (Bs:Nat) (w0:World) (A:Option Addr) (len cap:Nat) (es:List En) (hE:RdE w0 A len es) (w:World) (hb:Below w0.heap.size w0 w) (hBs:Bs<w.heap.size)
 (hc:w.cell? ⟨Bs,0,none⟩=some (.slice A len cap)):
 SeqStopsK Fence.wide n Tryz.prog 133 #[.pointer (some ⟨Bs,0,none⟩)] encPl (Below w0.heap.size) (fun ys=>ys=flatE es) (fun pre=>pre <+: flatE es) (flatE es).length w:=fun l J Jx W hW hJ _ hY h0=>
 tyIter_in n hn l Bs w0 A len cap es hE J Jx W (hb.trans (hW.mono hb.size)) hJ (fun pre x W1 h1 h2=>hY pre x W1 h1 (by have:=h2.length_le;simp at this;omega)) ((hW.cell (p:=⟨Bs,0,none⟩) hBs).trans hc) h0
abbrev PlIn (es:List En):={ x:Pl // x∈flatE es }
theorem tyIter_stopsIn(n:Nat) (hn:1≤n) (Bs:Nat) (w0:World) (A:Option Addr) (len cap:Nat) (es:List En) (hE:RdE w0 A len es) (w:World) (hb:Below w0.heap.size w0 w) (hBs:Bs<w.heap.size)
 (hc:w.cell? ⟨Bs,0,none⟩=some (.slice A len cap)):
 SeqStopsK Fence.wide n Tryz.prog 133 #[.pointer (some ⟨Bs,0,none⟩)] (fun x:PlIn es=>encPl x.1) (Below w0.heap.size) (fun ys=>ys.map (·.1)=flatE es) (fun pre=>pre.map (·.1) <+: flatE es) (flatE es).length w:=fun l J Jx W hW hJ _ hY h0=>by
 refine(tyIter_in n hn l Bs w0 A len cap es hE (fun pre W=>∃ ps:List (PlIn es),ps.map (·.1)=pre∧J ps W) (fun pre W=>∃ ps:List (PlIn es),ps.map (·.1)=pre∧Jx ps W) W (hb.trans (hW.mono hb.size))
  (fun s X Y row hs hg hr=>by obtain⟨ps,e,h⟩:=hs;exact⟨ps,e,hJ ps X Y row h hg hr⟩) (fun pre x W1 h1 h2=>?_) ((hW.cell (p:=⟨Bs,0,none⟩) hBs).trans hc) ⟨[],rfl,h0⟩).mono ?_
 · obtain⟨ps,rfl,h1⟩:=h1;have hx:x∈flatE es:=h2.subset (by simp);obtain⟨fn,tmps,assign,body,hy,hR⟩:=hY ps ⟨x,hx⟩ W1 h1 (by have:=h2.length_le;simp at this;omega);refine⟨fn,tmps,assign,body,hy,hR.mono ?_⟩;rintro e W' (⟨rfl,hj,hk⟩|⟨rfl,hj⟩)
   · exact .inl ⟨rfl,⟨_,by simp,hj⟩,hk⟩
   · exact .inr ⟨rfl,⟨_,by simp,hj⟩⟩
 · rintro e W' ⟨he,⟨ys,rfl,ps,e1,hj⟩|⟨pre,hp,ps,rfl,hj⟩⟩
   · exact⟨he,.inl ⟨ps,e1,hj⟩⟩
   · exact⟨he,.inr ⟨ps,hp,hj⟩⟩
def Box2(W:World) (B:Nat) (t:TypeId) (u v:Value):Prop:=W.heap[B]?=some (.cells #[u,v] t (0,0))
section
variable {W W':World}{B:Nat}{t:TypeId}{u v:Value}
theorem Box2.lt(h:Box2 W B t u v):B<W.heap.size:=(Array.getElem?_eq_some_iff.1 h).1
theorem Box2.c0(h:Box2 W B t u v):W.cell? ⟨B,0,none⟩=some u:=by simp [World.cell?,show W.heap[B]?=_ from h]
theorem Box2.c1(h:Box2 W B t u v):W.cell? ⟨B,1,none⟩=some v:=by simp [World.cell?,show W.heap[B]?=_ from h]
theorem Box2.new(W:World) (t:TypeId) (u v:Value):Box2 (W.alloc (.cells #[u,v] t)) W.heap.size t u v:=World.alloc_heap_new W _
end
theorem boxed_below{W W':World}{B:Nat}{t:TypeId}{v:Value}(h:Boxed W B t v){n:Nat}(hb:Below n W W') (hn:B<n):Boxed W' B t v:=(hb.block B hn).trans h
theorem keepsFrom_below{B:Nat}{W W':World}(h:Below W.heap.size W W'):KeepsFrom B W W':=KeepsFrom.of_grownBy (grownBy_of_below h) (fun j e=>by cases e)
end
section
open Go.RowKit
theorem own_slice{w:World}{base:Nat}{e:TypeId}{size:Nat}{v:Value}{n:Nat}{xs:List Value}(h:w.ownsRow base e size v n xs):∃ A c,v=.slice A n c:=by
 rcases h.2 with⟨rfl,rfl⟩|⟨g,cap,cur,rfl,_⟩
 · exact⟨none,0,rfl⟩
 · exact⟨_,_,rfl⟩
theorem step_append_any{P:Program}{w:World}{ops:Array Oper}{o:Oper}{a:Act}{K:Act→World→Prop}{Q:Exit→Act→World→Prop}{E:Prop}(hgd:o.guard=none) (s x:Operand) (t:TypeId)
 (ho:o.op=.call { callee:=.builtin .append,args:=#[s,x],argTypes:=#[t,t] })
 (base:Nat) (e:TypeId) (i:TypeInfo) (z:Value) (size bytes:Nat) (ht:P.underlying t=some (.slice e)) (hi:P.info? e=some i) (hz:i.zero=some z)
 (hsize:i.size=size) (hby:i.bytes=bytes) (hzs:z.cells.size=size) (hsz:0<size)
 (v:Value) (n:Nat) (xs:List Value) (hs:a.eval s=v) (hown:w.ownsRow base e size v n xs)
 (A:Option Addr) (m c:Nat) (news:List Value) (hx:a.eval x=.slice A m c) (hl:news.length=m*size) (hA:A=none→m=0) (hnews:∀ ad,A=some ad→∀ j u,news[j]?=some u→w.cell? (ad.add j)=some u) (h1:∀ u∈news,u.oneCell'=true)
 (h63:n+m≤maxLen) (hbytes:(n+m)*bytes≤140737488355328) (hbase:base≤w.heap.size)
 (h:∀ A' c' w',w'.ownsRow base e size (.slice A' (n+m) c') (n+m) (xs++news)→w.grownBy w' v.ownBlock→((Value.slice A' (n+m) c').ownBlock=v.ownBlock∨(Value.slice A' (n+m) c').ownBlock=some w.heap.size)→K (a.put o.dst (.slice A' (n+m) c')) w'):
 if Region.wanted o (yielded ops a.tmps)=true then Oper.wp P o a w K Q else E:=by
 have hw:Region.wanted o (yielded ops a.tmps)=true:=by simp [Region.wanted,hgd]
 rw [if_pos hw]
 cases A with
 | none=>
  obtain rfl:=hA rfl;obtain rfl:news=[]:=List.eq_nil_of_length_eq_zero (by simpa using hl);have hr:=run_append_nil (P:=P) (w:=w) base t o.type e i size ht hi v n xs hown c;obtain⟨A',c',rfl⟩:=own_slice hown;unfold Oper.wp execOp;simp only [ho,resolve,invoke,builtin,Sem.run_bind,Sem.run_pure,Result.andThen_ok,List.map_toArray,List.map_cons,List.map_nil,hs,hx,hr];exact h A' c' w (by simpa using hown) (World.grownBy.refl w _) (.inl rfl)
 | some ad=>
  obtain⟨v',w',hr,h2,h3,_,h5⟩:=run_append_own_at (P:=P) w base t o.type e i z size bytes ht hi hz hsize hby hzs hsz v n xs hown ad m c news hl (hnews ad rfl) h1 h63 hbytes hbase;obtain⟨A',c',rfl⟩:=own_slice h2;unfold Oper.wp execOp;simp only [ho,resolve,invoke,builtin,Sem.run_bind,Sem.run_pure,Result.andThen_ok,List.map_toArray,List.map_cons,List.map_nil,hs,hx,hr];exact h A' c' w' h2 h3 h5
theorem add_addr(g o k:Nat):(⟨g,o,none⟩:Addr).add k=⟨g,o+k,none⟩:=by unfold Addr.add;split <;> simp_all
end
section
open Go.RowKit
def tyV(k e l:Int):Value:=.agg #[.int .i64 k,.int .i64 e,.int .i64 l]
def rightB(n:Nat) (k e l:Int):Bool:=
 decide (0≤l∧l≤8) && (if k=1∨k=2 then decide (e=0) else decide (k=3∧0≤e∧e<n))
section
variable {n:Nat}{k e l:Int}
theorem right_len(h:l<0∨8<l):rightB n k e l=false:=by
 simp only [rightB,decide_eq_false (show ¬ (0≤l∧l≤8) by omega),Bool.false_and]
theorem right_base(h:0≤l∧l≤8) (hk:k=1∨k=2):rightB n k e l=decide (e=0):=by
 simp only [rightB,decide_eq_true h,Bool.true_and,if_pos hk]
theorem right_enum(h:0≤l∧l≤8) (hk:k=3):rightB n k e l=decide (0≤e∧e<n):=by
 subst hk
 simp [rightB,decide_eq_true h]
theorem right_kind(hk:¬ (k=1∨k=2)) (h3:k≠3):rightB n k e l=false:=by
 simp [rightB,if_neg hk,h3]
end
theorem refTyRight(A:Option Addr) (n c:Nat) (k e l:Int) (w:World) (hn:n≤9223372036854775807):
 Calls Tryz.prog 55 #[.slice A n c,tyV k e l] w fun r w'=>r=.returned (.bool (rightB n k e l))∧Below w.heap.size w w':=by
 unfold tyV;have HB:=Hd ((Below.refl w.heap.size w).alloc (Nat.le_refl _) (.cells #[.int .i64 k,.int .i64 e,.int .i64 l] 36))
 by_cases h1:l<0
 · have HE:=Hd (right_len (n:=n) (k:=k) (e:=e) (.inl h1));have d1:decide (l<0)=true:=decide_eq_true h1
   by_cases k0:k<1
   · go_enter Tryz.func55,Tryz.ntmps55
     go_wp2_with fail
     go_ret
     exact⟨ret_bool HE.out.symm,HB.out⟩
   · by_cases k4:3<k
     all_goals
      go_enter Tryz.func55,Tryz.ntmps55
      go_wp2_with fail
      go_ret
      exact⟨ret_bool HE.out.symm,HB.out⟩
 · by_cases h2:8<l
   · have HE:=Hd (right_len (n:=n) (k:=k) (e:=e) (.inr h2))
     by_cases k0:k<1
     · go_enter Tryz.func55,Tryz.ntmps55
       go_wp2_with fail
       go_ret
       exact⟨ret_bool HE.out.symm,HB.out⟩
     · by_cases k4:3<k
       all_goals
        go_enter Tryz.func55,Tryz.ntmps55
        go_wp2_with fail
        go_ret
        exact⟨ret_bool HE.out.symm,HB.out⟩
   · have hl:0≤l∧l≤8:=by omega
     by_cases k0:k<1
     · have HE:=Hd (right_kind (n:=n) (e:=e) (l:=l) (show ¬ (k=1∨k=2) by omega) (by omega))
       go_enter Tryz.func55,Tryz.ntmps55
       go_wp2_with fail
       go_ret
       exact⟨ret_bool HE.out.symm,HB.out⟩
     · by_cases k4:3<k
       · have HE:=Hd (right_kind (n:=n) (e:=e) (l:=l) (show ¬ (k=1∨k=2) by omega) (by omega))
         go_enter Tryz.func55,Tryz.ntmps55
         go_wp2_with fail
         go_ret
         exact⟨ret_bool HE.out.symm,HB.out⟩
       · by_cases k3:k=3
         · have HE:=Hd (right_enum (n:=n) (e:=e) hl k3);subst k3
           by_cases e0:0≤e
           all_goals
            go_enter Tryz.func55,Tryz.ntmps55
            go_wp2_with fail
            go_ret
            exact⟨ret_bool (by rw [HE.out,Bool.eq_iff_iff];simp;omega),HB.out⟩
         · have HE:=Hd (right_base (n:=n) (e:=e) hl (show k=1∨k=2 by omega));have b3:(k==3)=false:=by simpa using k3
           go_enter Tryz.func55,Tryz.ntmps55
           go_wp2_with fail
           go_ret
           exact⟨ret_bool (by rw [HE.out,Bool.eq_iff_iff];simp),HB.out⟩
end
section
open Go.RowKit
def LnAt(B b:Nat) (l:List UInt8) (w:World):Prop:=Lib.IsBuilder 58 5 B b (Lib.byteCells l) w
def Keep(B b:Nat) (w w':World):Prop:=Below B w w'∧Lib.OthersKept 5 (some b) w w'
theorem Keep.refl(B b:Nat) (w:World):Keep B b w w:=⟨Below.refl _ _,Lib.OthersKept.refl _ _ _⟩
theorem Keep.trans{B b:Nat}{a c d:World}(h:Keep B b a c) (k:Keep B b c d):Keep B b a d:=⟨h.1.trans k.1,h.2.trans k.2⟩
theorem Keep.of_below{B b:Nat}{w w':World}(h:Below w.heap.size w w') (hB:B≤w.heap.size):Keep B b w w' :=
 ⟨h.mono hB,fun k o hk _ _=>(h.block k (Array.getElem?_eq_some_iff.1 hk).1).trans hk⟩
theorem own_keep{w w':World}{base:Nat}{e:TypeId}{size n:Nat}{v:Value}{xs:List Value}(h:w.ownsRow base e size v n xs) (hb:Below w.heap.size w w'):w'.ownsRow base e size v n xs:=by
 refine⟨h.1,?_⟩;rcases h.2 with h2 | ⟨g,cap,cur,hv,hg,hh,hr⟩
 · exact .inl h2
 · exact .inr ⟨g,cap,cur,hv,hg,(hb.block g (Array.getElem?_eq_some_iff.1 hh).1).trans hh,hr⟩
theorem LnAt.any{B b:Nat}{l:List UInt8}{w:World}(h:LnAt B b l w):∃ p,Lib.BuilderAt 58 5 B b p (Lib.byteCells l) w:=by
 rcases h with h | h
 · exact⟨_,h⟩
 · exact⟨_,h⟩
theorem LnAt.lt{B b:Nat}{l:List UInt8}{w:World}(h:LnAt B b l w):b<w.heap.size:=by
 obtain⟨p,h⟩:=h.any;exact h.lt
theorem LnAt.le{B b:Nat}{l:List UInt8}{w:World}(h:LnAt B b l w):B≤w.heap.size:=by
 obtain⟨p,h⟩:=h.any;exact Nat.le_trans h.1 (Nat.le_of_lt h.lt)
theorem LnAt.below{B b:Nat}{l:List UInt8}{w w':World}(h:LnAt B b l w) (hb:Below w.heap.size w w'):LnAt B b l w':=by
 have k:∀ p,Lib.BuilderAt 58 5 B b p (Lib.byteCells l) w→Lib.BuilderAt 58 5 B b p (Lib.byteCells l) w':=by
  rintro p ⟨hB,v,hc,ho,hn⟩;exact⟨hB,v,(hb.block b (Array.getElem?_eq_some_iff.1 hc).1).trans hc,own_keep ho hb,hn⟩
 exact h.elim (fun x=>.inl (k _ x)) (fun x=>.inr (k _ x))
theorem LnAt.fresh(w:World):LnAt w.heap.size w.heap.size [] (w.alloc (.cells #[.pointer none,.slice none 0 0] 58)):=Lib.fresh_isBuilder _ _ _
theorem own_kind{w:World}{B:Nat}{e:TypeId}{v:Value}{n:Nat}{xs:List Value}(h:w.ownsRow B e 1 v n xs):∀ g,v.ownBlock=some g→∃ c fz,w.heap[g]?=some (.cells c e fz):=by
 intro g hg;rcases h.2 with⟨rfl,_⟩|⟨g',cap,cur,rfl,_,hgg,_⟩
 · simp [Value.ownBlock] at hg
 · simp [Value.ownBlock] at hg
   subst hg;exact⟨cur,(0,0),hgg⟩
theorem bd_ptr:Tryz.prog.underlying 53=some (.pointer 56):=by kernel_rfl
theorem bd_uns:Tryz.prog.underlying 148=some .unsafePointer:=by kernel_rfl
theorem bd_row:Tryz.prog.underlying 54=some (.slice 5):=by kernel_rfl
theorem bd_str:Tryz.prog.underlying 9=some .string:=by kernel_rfl
theorem bd_info:(Tryz.prog.info? 56).map (·.size)=some 2:=by kernel_rfl
theorem bd_lies:liesAt Tryz.prog Tryz.prog.depth 58 (2 / Tryz.prog.cellsOf 58) 0 56 1=true:=by kernel_rfl
theorem bd_byte:(Tryz.prog.info? 5).map (fun i=>(i.zero,i.size,i.bytes))=some (some (.int .u8 0),1,1):=by kernel_rfl
theorem bdCheck_used(b:Nat) (w:World) (h0:w.cell? ⟨b,0,none⟩=some (.pointer (some ⟨b,0,none⟩))):
 Calls Tryz.prog 110 #[.pointer (some ⟨b,0,none⟩)] w fun e w'=>e=.returned (.tuple #[])∧w'=w:=by
 obtain⟨j,hj,_⟩:=Option.map_eq_some_iff.1 bd_info
 go_enter Tryz.func110,Tryz.ntmps110
 go_wp2
 rw [Lib.run_neq_ptr_same w _ bd_ptr hj]
 go_wp2
 go_end0
 exact⟨rfl,rfl⟩
theorem bdCheck_fresh(b:Nat) (w:World) (h0:w.cell? ⟨b,0,none⟩=some (.pointer none)) (hsh:w.shape? b=some (58,2)) (hfz:w.frozen? ⟨b,0,none⟩=false):
 Calls Tryz.prog 110 #[.pointer (some ⟨b,0,none⟩)] w fun e w'=>e=.returned (.tuple #[])∧w'=w.setCell ⟨b,0,none⟩ (.pointer (some ⟨b,0,none⟩)):=by
 obtain⟨j,hj,hjs⟩:=Option.map_eq_some_iff.1 bd_info
 go_enter Tryz.func110,Tryz.ntmps110
 go_wp2
 rw [Lib.run_to_unsafe w ⟨b,0,none⟩ bd_ptr bd_uns hj (by rw [hjs];decide) hsh (Nat.zero_lt_succ 1)];simp only [Result.andThen];rw [Oper.upon_value]
 go_wp2
 rw [run_callFunc_extern Tryz.func137 (by kernel_rfl) (by kernel_rfl) (by kernel_rfl) (e:=Extern.AbiNoEscape.same) (by kernel_rfl)];rw [Lib.run_noEscape];simp only [Result.andThen];rw [Oper.upon_value]
 go_wp2
 rw [Lib.run_from_unsafe w ⟨b,0,none⟩ bd_uns bd_ptr hj hsh bd_lies];simp only [Result.andThen];rw [Oper.upon_value]
 go_wp2
 go_end0
 exact⟨rfl,rfl⟩
theorem bdCheck(B b:Nat) (l:List UInt8) (w:World) (h:LnAt B b l w):
 Calls Tryz.prog 110 #[.pointer (some ⟨b,0,none⟩)] w fun e w'=>e=.returned (.tuple #[])∧(Lib.BuilderAt 58 5 B b (.pointer (some ⟨b,0,none⟩)) (Lib.byteCells l) w'∧Keep B b w w'):=by
 rcases h with h | h
 · refine(bdCheck_fresh b w h.cell0 h.shape h.frozen0).mono ?_;rintro e w' ⟨rfl,rfl⟩;exact⟨rfl,h.used _,(Below.refl B w).setCell (p:=⟨b,0,none⟩) h.1 _,(Lib.OthersKept.refl _ _ w).setCell ⟨b,0,none⟩ rfl _⟩
 · refine(bdCheck_used b w h.cell0).mono ?_;rintro e w' ⟨rfl,rfl⟩;exact⟨rfl,h,Keep.refl _ _ _⟩
theorem bdString(B b:Nat) (l:List UInt8) (s:ByteArray) (w:World) (h:LnAt B b l w) (hlen:l.length+s.size≤140737488355328):
 Calls Tryz.prog 82 #[.pointer (some ⟨b,0,none⟩),.string s] w fun e w'=>e=.returned (.tuple #[.int .i64 s.size,.nilIface])∧(LnAt B b (l++s.data.toList) w'∧Keep B b w w'):=by
 obtain⟨i0,hi,hz0,hz1,hz2⟩:=info_parts bd_byte;have hBw:=h.le;have hll:(Lib.byteCells l).length=l.length:=Lib.byteCells_length l
 go_enter Tryz.func82,Tryz.ntmps82
 go_wp2_with (go_at_call 110;refine(bdCheck B b l _ h).mono ?_)
 rintro e w1 ⟨rfl,h1,hb1⟩;obtain⟨hB,v,hbk,hown,hne⟩:=h1;have c0:w1.cell? ⟨b,0,none⟩=some (.pointer (some ⟨b,0,none⟩)):=by rw [Lib.cell_of_heap hbk];rfl
 have c1:w1.cell? ⟨b,1,none⟩=some v:=by rw [Lib.cell_of_heap hbk];rfl
 go_wp2_with (at_builtin;refine Lib.wpList_append_own_string _ rfl _ _ 54 9 rfl B 5 i0 bd_row bd_str hi hz0 hz1 hz2 _ _ _ rfl hown s rfl ?c3 ?c4 ?c5 ?_)
 case c3=>rw [hll];unfold maxLen;omega
 case c4=>rw [hll];omega
 case c5=>have:=hb1.1.size;omega
 intro v' w2 hown' hgrow _;have hlt:b<w1.heap.size:=(Array.getElem?_eq_some_iff.1 hbk).1
 have hb2:w2.heap[b]?=some (.cells #[.pointer (some ⟨b,0,none⟩),v] 58 (0,0)):=by
  rw [hgrow.block b hlt (fun e=>hne e.symm)];exact hbk
 have d0:w2.cell? ⟨b,0,none⟩=some (.pointer (some ⟨b,0,none⟩)):=by rw [Lib.cell_of_heap hb2];rfl
 have d1:w2.cell? ⟨b,1,none⟩=some v:=by rw [Lib.cell_of_heap hb2];rfl
 have f1:w2.frozen? ⟨b,1,none⟩=false:=Lib.frozen_of_heap hb2 1
 obtain⟨ao,n',cap,rfl⟩:∃ ao n' cap,v'=.slice ao n' cap:=by
  rcases hown'.2 with⟨hv,_⟩|⟨g,cap,cur,hv,_⟩
  · exact⟨_,_,_,hv⟩
  · exact⟨_,_,_,hv⟩
 go_wp2
 go_ret2
 refine⟨rfl,.inr ?_,?_,?_⟩
 · exact Lib.BuilderAt.put (T:=58) (e:=5) hB hb2 (bs':=Lib.byteCells (l++s.data.toList)) (by rw [Lib.byteCells_append];simpa [Lib.strCells_length,Lib.strCells_eq,Lib.byteCells_length] using hown') (by decide)
 · exact(hb1.1.grown hgrow (by have:=hb1.1.size;omega) (fun k hk=>(hown.lt k hk).1)).setCell (p:=⟨b,1,none⟩) hB _
 · exact(hb1.2.grown hgrow (own_kind hown)).setCell ⟨b,1,none⟩ rfl _
theorem bdByte(B b:Nat) (l:List UInt8) (c:UInt8) (w:World) (h:LnAt B b l w) (hlen:l.length+1≤140737488355328):
 Calls Tryz.prog 83 #[.pointer (some ⟨b,0,none⟩),.int .u8 c.toNat] w fun e w'=>e=.returned .nilIface∧(LnAt B b (l++[c]) w'∧Keep B b w w'):=by
 obtain⟨i0,hi,hz0,hz1,hz2⟩:=info_parts bd_byte;have hBw:=h.le;have hll:(Lib.byteCells l).length=l.length:=Lib.byteCells_length l;have hcc:Lib.byteCells (l++[c])=Lib.byteCells l++[.int .u8 c.toNat]:=by rw [Lib.byteCells_append];rfl
 generalize (c.toNat:Int)=cz at *
 go_enter Tryz.func83,Tryz.ntmps83
 go_wp2_with (go_at_call 110;refine(bdCheck B b l _ h).mono ?_)
 rintro e w1 ⟨rfl,h1,hb1⟩;obtain⟨hB,v,hbk,hown,hne⟩:=h1;have c0:w1.cell? ⟨b,0,none⟩=some (.pointer (some ⟨b,0,none⟩)):=by rw [Lib.cell_of_heap hbk];rfl
 have c1:w1.cell? ⟨b,1,none⟩=some v:=by rw [Lib.cell_of_heap hbk];rfl
 go_wp2_with (at_builtin;refine wpList_append_own _ rfl _ _ 54 rfl B 5 i0 (.int .u8 0) 1 1 bd_row hi hz0 hz1 hz2 rfl (by decide) _ _ _ rfl (hown.alloc _) ⟨w1.heap.size,0,none⟩ 1 1 [.int .u8 cz] rfl rfl ?c1 ?c2 ?c3 ?c4 ?c5 ?_)
 case c1=>
  intro j u hj
  match j,hj with
  | 0,hj=>simp at hj;subst hj;simp [Addr.add]
 case c2=>intro u hu;simp at hu;subst hu;rfl
 case c3=>rw [hll];unfold maxLen;omega
 case c4=>rw [hll];omega
 case c5=>have:=hb1.1.size;simp;omega
 intro v' w2 hown' hgrow _;have hlt:b<w1.heap.size:=(Array.getElem?_eq_some_iff.1 hbk).1
 have hb2:w2.heap[b]?=some (.cells #[.pointer (some ⟨b,0,none⟩),v] 58 (0,0)):=by
  rw [hgrow.block b (by simp;omega) (fun e=>hne e.symm),Lib.alloc_old w1 _ b hlt];exact hbk
 have d0:w2.cell? ⟨b,0,none⟩=some (.pointer (some ⟨b,0,none⟩)):=by rw [Lib.cell_of_heap hb2];rfl
 have d1:w2.cell? ⟨b,1,none⟩=some v:=by rw [Lib.cell_of_heap hb2];rfl
 have f1:w2.frozen? ⟨b,1,none⟩=false:=Lib.frozen_of_heap hb2 1
 obtain⟨ao,n',cap,rfl⟩:∃ ao n' cap,v'=.slice ao n' cap:=by
  rcases hown'.2 with⟨hv,_⟩|⟨g,cap,cur,hv,_⟩
  · exact⟨_,_,_,hv⟩
  · exact⟨_,_,_,hv⟩
 go_wp2
 go_ret
 refine⟨rfl,.inr ?_,?_,?_⟩
 · exact Lib.BuilderAt.put (T:=58) (e:=5) hB hb2 (bs':=Lib.byteCells (l++[c])) (by rw [hcc];simpa [Lib.byteCells_length] using hown') (by decide)
 · exact((hb1.1.alloc (by have:=hb1.1.size;omega) _).grown hgrow (by have:=hb1.1.size;simp;omega) (fun k hk=>(hown.lt k hk).1)).setCell (p:=⟨b,1,none⟩) hB _
 · exact((hb1.2.alloc _).grown hgrow (own_kind (hown.alloc _))).setCell ⟨b,1,none⟩ rfl _
end
end Go.Proofs.YtpedcgpcchbhpaaGreatDoor
