/- Parts of the proof: TyE, PgM, PgR, TyI, TyR, TyC, TyB, ExZ. Conditions: each theorem's own. -/
import Derived.RangeFuncNested
import Derived.RangeFuncBound
import Derived.RangeFuncCalls
import Derived.RangeFuncLeaves
import Derived.Shelf.Abstract
import Derived.Shelf.RegionOpen
import Derived.OwnWalkIn
import Derived.TacticsInMore
import Derived.LoopNIn
import Derived.LoopIn
import Derived.Deep.Slices
import Derived.Deep.Fields
import Derived.ChangeSame
import Derived.SliceStrings
import Derived.Test.YtegjgiofmpolnaaGreatO01
namespace Go.Proofs.YtegjgiofmpolnaaGreat
set_option linter.unusedVariables false
set_option linter.unusedSimpArgs false
set_option maxRecDepth 100000
set_option maxHeartbeats 40000000
section
open Go.RowKit
abbrev En:=ByteArray × List ByteArray
def nmE(es:List En) (i:Nat):ByteArray:=(es[i]?.getD (ByteArray.empty,[])).1
def csE(es:List En) (i:Nat):List ByteArray:=(es[i]?.getD (ByteArray.empty,[])).2
def RdE(w:World) (A:Option Addr) (n:Nat) (es:List En):Prop:=
 es.length=n∧n≤9223372036854775807 ∧
 (0<n→∃ b off,A=some ⟨b,off,none⟩∧b<w.heap.size∧∀ i,i<n→w.cell? ⟨b,off+i*2,none⟩=some (.string (nmE es i)) ∧
  ∃ A' n' c',w.cell? ⟨b,off+i*2+1,none⟩=some (.slice A' n' c')∧RdT w A' n' (csE es i))
def EsOk(es:List En):Prop:=∀ i,i<es.length→(nmE es i).size≤maxLen∧∀ s∈csE es i,s.size≤maxLen
section
variable {w w':World}{A:Option Addr}{n:Nat}{es:List En}
theorem RdE.nil_(w:World):RdE w none 0 []:=⟨rfl,by omega,by omega⟩
theorem RdE.len(h:RdE w A n es):es.length=n:=h.1
theorem RdE.max(h:RdE w A n es):n≤9223372036854775807:=h.2.1
theorem RdE.at_(h:RdE w A n es){i:Nat}(hi:i<n):
 ∃ b off,A=some ⟨b,off,none⟩∧b<w.heap.size∧∀ i,i<n→w.cell? ⟨b,off+i*2,none⟩=some (.string (nmE es i)) ∧
  ∃ A' n' c',w.cell? ⟨b,off+i*2+1,none⟩=some (.slice A' n' c')∧RdT w A' n' (csE es i):=
 h.2.2 (by omega)
theorem RdE.keep(h:RdE w A n es) (hs:w.heap.size≤w'.heap.size) (hk:∀ p:Addr,p.block<w.heap.size→w'.cell? p=w.cell? p):RdE w' A n es:=
 ⟨h.1,h.2.1,fun hn=>by
  obtain⟨b,off,e,hb,hc⟩:=h.2.2 hn;refine⟨b,off,e,by omega,fun i hi=>?_⟩;obtain⟨h1,A',n',c',h2,h3⟩:=hc i hi;exact⟨(hk _ hb).trans h1,A',n',c',(hk _ hb).trans h2,h3.keep hs hk⟩⟩
theorem RdE.below(h:RdE w A n es) (hb:Below w.heap.size w w'):RdE w' A n es:=h.keep hb.size fun _ hp=>hb.cell hp
theorem RdE.drewN(h:RdE w A n es) (m:Nat):RdE (w.drewN m) A n es:=h
theorem RdE.drew(h:RdE w A n es):RdE w.drew A n es:=h
theorem RdE.alloc(h:RdE w A n es) (o:Obj):RdE (w.alloc o) A n es:=h.below ((Below.refl _ _).alloc (Nat.le_refl _) o)
theorem RdT.drew{ss:List ByteArray}(h:RdT w A n ss):RdT w.drew A n ss:=h
end
theorem nm_map(es:List En) (i:Nat):(es.map (·.1))[i]?.getD ByteArray.empty=nmE es i:=by
 unfold nmE;rw [List.getElem?_map]
 cases es[i]? <;> rfl
abbrev Pl:=Nat × Nat × ByteArray
def ctAt(es:List En) (i k:Nat):ByteArray:=(csE es i)[k]?.getD ByteArray.empty
def rowTo(es:List En) (i k:Nat):List Pl:=(List.range k).map fun k=>(i,k,ctAt es i k)
def flatTo(es:List En):Nat→List Pl
 | 0=>[]
 | i+1=>flatTo es i++rowTo es i (csE es i).length
def flatE(es:List En):List Pl:=flatTo es es.length
def upTo(es:List En) (i k:Nat):List Pl:=flatTo es i++rowTo es i k
section
variable {es:List En}{i k:Nat}
theorem rowTo_succ(es:List En) (i k:Nat):rowTo es i (k+1)=rowTo es i k++[(i,k,ctAt es i k)]:=by simp [rowTo,List.range_succ]
theorem upTo_zero(es:List En):upTo es 0 0=[]:=by simp [upTo,flatTo,rowTo]
theorem upTo_succ(es:List En) (i k:Nat):upTo es i (k+1)=upTo es i k++[(i,k,ctAt es i k)]:=by simp [upTo,rowTo_succ]
theorem upTo_next(es:List En) (i:Nat):upTo es i (csE es i).length=upTo es (i+1) 0:=by simp [upTo,flatTo,rowTo]
theorem upTo_end(es:List En):upTo es es.length 0=flatE es:=by simp [upTo,flatE,rowTo]
theorem flatTo_pre(es:List En) (i j:Nat) (h:i≤j):flatTo es i <+: flatTo es j:=by
 induction j with
 | zero=>
  obtain rfl:i=0:=by omega
  exact List.prefix_refl _
 | succ j ih=>
  rcases Nat.lt_or_ge i (j+1) with h1 | h1
  · exact(ih (by omega)).trans (by show _ <+: flatTo es j++_;exact List.prefix_append _ _)
  · obtain rfl:i=j+1:=by omega
    exact List.prefix_refl _
theorem rowTo_pre(es:List En) (i k m:Nat) (h:k≤m):rowTo es i k <+: rowTo es i m:=by
 induction m with
 | zero=>
  obtain rfl:k=0:=by omega
  exact List.prefix_refl _
 | succ m ih=>
  rcases Nat.lt_or_ge k (m+1) with h1 | h1
  · exact(ih (by omega)).trans (by rw [rowTo_succ];exact List.prefix_append _ _)
  · obtain rfl:k=m+1:=by omega
    exact List.prefix_refl _
theorem upTo_pre(hi:i<es.length) (hk:k≤(csE es i).length):upTo es i k <+: flatE es:=by
 refine List.IsPrefix.trans ?_ (flatTo_pre es (i+1) es.length (by omega))
 show flatTo es i++rowTo es i k <+: flatTo es i++rowTo es i (csE es i).length
 exact List.prefix_append_right_inj _ |>.2 (rowTo_pre es i _ _ hk)
theorem upTo_mem(hi:i<es.length) (hk:k<(csE es i).length):(i,k,ctAt es i k)∈flatE es:=
 (upTo_pre hi (k:=k+1) (by omega)).subset (by rw [upTo_succ];simp)
def allE(es:List En):List ByteArray:=(flatE es).map (·.2.2)
theorem rowTo_names(es:List En) (i k:Nat) (h:k≤(csE es i).length):(rowTo es i k).map (·.2.2)=(csE es i).take k:=by
 induction k with
 | zero=>simp [rowTo]
 | succ k ih=>
  rw [rowTo_succ,List.map_append,ih (by omega),List.take_succ_eq_append_getElem (by omega)]
  simp [ctAt,List.getElem?_eq_getElem (show k<(csE es i).length by omega)]
def namesTo(es:List En) (i:Nat):List ByteArray:=(flatTo es i).map (·.2.2)
theorem namesTo_succ(es:List En) (i:Nat):namesTo es (i+1)=namesTo es i++csE es i:=by
 show(flatTo es i++rowTo es i _).map _=_
 rw [List.map_append,rowTo_names es i _ (Nat.le_refl _),List.take_length];rfl
theorem namesTo_end(es:List En):namesTo es es.length=allE es:=rfl
theorem namesTo_len(h:∀ j,j<i→(csE es j).length≤12):(namesTo es i).length≤i*12:=by
 induction i with
 | zero=>simp [namesTo,flatTo]
 | succ i ih=>
  have h1:=ih fun j hj=>h j (by omega);have h2:=h i (by omega);rw [namesTo_succ,List.length_append];omega
theorem namesTo_mem{x:ByteArray}(h:x∈namesTo es i):∃ j,j<i∧x∈csE es j:=by
 induction i with
 | zero=>simp [namesTo,flatTo] at h
 | succ i ih=>
  rw [namesTo_succ,List.mem_append] at h;rcases h with h | h
  · obtain⟨j,hj,hx⟩:=ih h;exact⟨j,by omega,hx⟩
  · exact⟨i,by omega,h⟩
end
end
section
structure Dc where
 nm:ByteArray
 k:Int
 e:Int
 l:Int
 on:ByteArray
 ct:ByteArray
instance :Inhabited Dc:=⟨⟨⟨#[]⟩,0,0,0,⟨#[]⟩,⟨#[]⟩⟩⟩
structure Qn where
 ns:List ByteArray
 x:Ex
instance :Inhabited Qn:=⟨⟨[],default⟩⟩
structure Nd where
 nm:ByteArray
 ins:List Dc
 outs:List Dc
 vars:List Dc
 eqs:List Qn
instance :Inhabited Nd:=⟨⟨ByteArray.empty,[],[],[],[]⟩⟩
structure Pg where
 es:List En
 ns:List Nd
def Nd.all(n:Nd):List Dc:=n.ins++n.outs++n.vars
def namesD(l:List Dc):List ByteArray:=l.map Dc.nm
def trueS:List UInt8:=[116,114,117,101]
def falseS:List UInt8:=[102,97,108,115,101]
def armT(s:ByteArray):Bool:=highB s.data.toList || (s.data.toList==trueS) || (s.data.toList==falseS)
def noB(s:ByteArray):Bool:=s.data.toList==[]
def declB(n:Nat) (rt:Nat→Int→Int→Int→Bool) (d:Dc):Bool:=
 lowB d.nm.data.toList && rt n d.k d.e d.l && ((noB d.on && noB d.ct) || (lowB d.on.data.toList && armT d.ct))
def eqB(rx:Ex→Bool) (q:Qn):Bool:=
 q.ns.all (fun s=>lowB s.data.toList) && decide (0<q.ns.length) && rx q.x && (decide (q.ns.length=1) || q.x.k==13)
def portsB(n:Nd):Bool:=(n.ins++n.outs).all fun d=>noB d.on
def nodeB(es:Nat) (rt:Nat→Int→Int→Int→Bool) (rx:Ex→Bool) (n:Nd):Bool:=
 n.all.all (declB es rt) && portsB n && n.eqs.all (eqB rx) && lowB n.nm.data.toList && decide (0<n.outs.length)
def manyN(n:Nd):Bool:=decide (6<n.ins.length) || decide (6<n.outs.length) || decide (12<n.vars.length) || decide (18<n.eqs.length)
def findI{α:Type}(f:α→Bool):List α→Nat→Int
 | [],_=>-1
 | a::l,i=>if f a then(i:Int) else findI f l (i+1)
def findN(p:Pg) (s:ByteArray):Int:=findI (fun n=>n.nm.data.toList==s.data.toList) p.ns 0
def declO(n:Nd) (s:ByteArray):Option Dc:=n.all.find? fun d=>d.nm.data.toList==s.data.toList
def clockR(n:Nd):Nat→ByteArray→List Dc→Option (List Dc)
 | 0,_,_=>none
 | k+1,s,acc=>match declO n s with
  | none=>none
  | some d=>if noB d.on then some acc else clockR n k d.on (d::acc)
theorem all_len(n:Nd):n.all.length=n.ins.length+n.outs.length+n.vars.length:=by simp [Nd.all];omega
end
section
open Go.RowKit
def RdS{α:Type} [Inhabited α] (k:Nat) (At:World→Nat→Nat→α→Prop) (w:World) (A:Option Addr) (n:Nat) (l:List α):Prop:=
 l.length=n∧n≤9223372036854775807∧(0<n→∃ b off,A=some ⟨b,off,none⟩∧b<w.heap.size∧∀ i,i<n→At w b (off+i*k) (l[i]?.getD default))
def KeepsAt{α:Type}(At:World→Nat→Nat→α→Prop):Prop:=
 ∀ {w w':World}{b o:Nat}{x:α},At w b o x→b<w.heap.size→w.heap.size≤w'.heap.size→(∀ p:Addr,p.block<w.heap.size→w'.cell? p=w.cell? p)→At w' b o x
def dcL(d:Dc):List Value:=[.string d.nm,.int .i64 d.k,.int .i64 d.e,.int .i64 d.l,.string d.on,.string d.ct]
def dcA(d:Dc):Array Value:=#[.string d.nm,.int .i64 d.k,.int .i64 d.e,.int .i64 d.l,.string d.on,.string d.ct]
def DcAt(w:World) (b o:Nat) (d:Dc):Prop:=w.rangeAt b o (dcL d)
def RdD(w:World) (A:Option Addr) (n:Nat) (l:List Dc):Prop:=RdS 6 DcAt w A n l
def QnAt(w:World) (b o:Nat) (q:Qn):Prop:=
 ∃ A c A' ca B' cb,w.cell? ⟨b,o,none⟩=some (.slice A q.ns.length c)∧RdT w A q.ns.length q.ns∧w.rangeAt b (o+1) (exL q.x A' ca B' cb)∧rdX w q.x A' B'
def RdQ(w:World) (A:Option Addr) (n:Nat) (l:List Qn):Prop:=RdS 7 QnAt w A n l
def ndA(n:Nd) (A1:Option Addr) (c1:Nat) (A2:Option Addr) (c2:Nat) (A3:Option Addr) (c3:Nat) (A4:Option Addr) (c4:Nat):Array Value:=
 #[.string n.nm,.slice A1 n.ins.length c1,.slice A2 n.outs.length c2,.slice A3 n.vars.length c3,.slice A4 n.eqs.length c4]
def ndL(n:Nd) (A1:Option Addr) (c1:Nat) (A2:Option Addr) (c2:Nat) (A3:Option Addr) (c3:Nat) (A4:Option Addr) (c4:Nat):List Value:=
 [.string n.nm,.slice A1 n.ins.length c1,.slice A2 n.outs.length c2,.slice A3 n.vars.length c3,.slice A4 n.eqs.length c4]
def rdN(w:World) (n:Nd) (A1 A2 A3 A4:Option Addr):Prop:=RdD w A1 n.ins.length n.ins∧RdD w A2 n.outs.length n.outs∧RdD w A3 n.vars.length n.vars∧RdQ w A4 n.eqs.length n.eqs
def NdAt(w:World) (b o:Nat) (n:Nd):Prop:=
 ∃ A1 c1 A2 c2 A3 c3 A4 c4,w.rangeAt b o (ndL n A1 c1 A2 c2 A3 c3 A4 c4)∧rdN w n A1 A2 A3 A4
def RdNs(w:World) (A:Option Addr) (n:Nat) (l:List Nd):Prop:=RdS 5 NdAt w A n l
section
variable {w w':World}{A B A1 A2 A3 A4:Option Addr}{n:Nat}
theorem RdS.len{α:Type} [Inhabited α] {k:Nat}{At:World→Nat→Nat→α→Prop}{l:List α}(h:RdS k At w A n l):l.length=n:=h.1
theorem RdS.max{α:Type} [Inhabited α] {k:Nat}{At:World→Nat→Nat→α→Prop}{l:List α}(h:RdS k At w A n l):n≤9223372036854775807:=h.2.1
theorem RdS.at_{α:Type} [Inhabited α] {k:Nat}{At:World→Nat→Nat→α→Prop}{l:List α}(h:RdS k At w A n l) (hn:0<n):
 ∃ b off,A=some ⟨b,off,none⟩∧b<w.heap.size∧∀ i,i<n→At w b (off+i*k) (l[i]?.getD default):=h.2.2 hn
theorem RdS.nil_{α:Type} [Inhabited α] (k:Nat) (At:World→Nat→Nat→α→Prop) (w:World):RdS k At w none 0 []:=⟨rfl,by omega,by omega⟩
theorem RdS.keep{α:Type} [Inhabited α] {k:Nat}{At:World→Nat→Nat→α→Prop}{l:List α}(hAt:KeepsAt At) (h:RdS k At w A n l) (hs:w.heap.size≤w'.heap.size) (hk:∀ p:Addr,p.block<w.heap.size→w'.cell? p=w.cell? p):RdS k At w' A n l:=
 ⟨h.1,h.2.1,fun hn=>by
  obtain⟨b,off,e,hb,hc⟩:=h.2.2 hn;exact⟨b,off,e,by omega,fun i hi=>hAt (hc i hi) hb hs hk⟩⟩
theorem keeps_dc:KeepsAt DcAt:=fun h hb hs hk=>rangeAt_keep h hb hk
theorem keeps_qn:KeepsAt QnAt:=fun h hb hs hk=>by
 obtain⟨A,c,A',ca,B',cb,h1,h2,h3,h4⟩:=h;exact⟨A,c,A',ca,B',cb,(hk _ hb).trans h1,h2.keep hs hk,rangeAt_keep h3 hb hk,h4.keep hs hk⟩
theorem RdD.keep{l:List Dc}(h:RdD w A n l) (hs:w.heap.size≤w'.heap.size) (hk:∀ p:Addr,p.block<w.heap.size→w'.cell? p=w.cell? p):RdD w' A n l:=RdS.keep keeps_dc h hs hk
theorem RdQ.keep{l:List Qn}(h:RdQ w A n l) (hs:w.heap.size≤w'.heap.size) (hk:∀ p:Addr,p.block<w.heap.size→w'.cell? p=w.cell? p):RdQ w' A n l:=RdS.keep keeps_qn h hs hk
theorem rdN.keep{x:Nd}(h:rdN w x A1 A2 A3 A4) (hs:w.heap.size≤w'.heap.size) (hk:∀ p:Addr,p.block<w.heap.size→w'.cell? p=w.cell? p):rdN w' x A1 A2 A3 A4:=
 ⟨h.1.keep hs hk,h.2.1.keep hs hk,h.2.2.1.keep hs hk,h.2.2.2.keep hs hk⟩
theorem keeps_nd:KeepsAt NdAt:=fun h hb hs hk=>by
 obtain⟨A1,c1,A2,c2,A3,c3,A4,c4,h1,h2⟩:=h;exact⟨A1,c1,A2,c2,A3,c3,A4,c4,rangeAt_keep h1 hb hk,h2.keep hs hk⟩
theorem RdNs.keep{l:List Nd}(h:RdNs w A n l) (hs:w.heap.size≤w'.heap.size) (hk:∀ p:Addr,p.block<w.heap.size→w'.cell? p=w.cell? p):RdNs w' A n l:=RdS.keep keeps_nd h hs hk
theorem RdD.below{l:List Dc}(h:RdD w A n l) (hb:Below w.heap.size w w'):RdD w' A n l:=h.keep hb.size fun _ hp=>hb.cell hp
theorem RdQ.below{l:List Qn}(h:RdQ w A n l) (hb:Below w.heap.size w w'):RdQ w' A n l:=h.keep hb.size fun _ hp=>hb.cell hp
theorem rdN.below{x:Nd}(h:rdN w x A1 A2 A3 A4) (hb:Below w.heap.size w w'):rdN w' x A1 A2 A3 A4:=h.keep hb.size fun _ hp=>hb.cell hp
theorem RdNs.below{l:List Nd}(h:RdNs w A n l) (hb:Below w.heap.size w w'):RdNs w' A n l:=h.keep hb.size fun _ hp=>hb.cell hp
theorem DcAt.six{b o:Nat}{d:Dc}(h:DcAt w b o d):
 w.cell? ⟨b,o,none⟩=some (.string d.nm)∧w.cell? ⟨b,o+1,none⟩=some (.int .i64 d.k)∧w.cell? ⟨b,o+2,none⟩=some (.int .i64 d.e)∧w.cell? ⟨b,o+3,none⟩=some (.int .i64 d.l) ∧
  w.cell? ⟨b,o+4,none⟩=some (.string d.on)∧w.cell? ⟨b,o+5,none⟩=some (.string d.ct):=⟨h 0 _ rfl,h 1 _ rfl,h 2 _ rfl,h 3 _ rfl,h 4 _ rfl,h 5 _ rfl⟩
theorem ndL_five{b o:Nat}{x:Nd}{c1 c2 c3 c4:Nat}(h:w.rangeAt b o (ndL x A1 c1 A2 c2 A3 c3 A4 c4)):
 w.cell? ⟨b,o,none⟩=some (.string x.nm)∧w.cell? ⟨b,o+1,none⟩=some (.slice A1 x.ins.length c1)∧w.cell? ⟨b,o+2,none⟩=some (.slice A2 x.outs.length c2)∧w.cell? ⟨b,o+3,none⟩=some (.slice A3 x.vars.length c3) ∧
  w.cell? ⟨b,o+4,none⟩=some (.slice A4 x.eqs.length c4):=⟨h 0 _ rfl,h 1 _ rfl,h 2 _ rfl,h 3 _ rfl,h 4 _ rfl⟩
end
theorem cells_dc:Tryz.prog.cellsOf 58=6:=by kernel_rfl
theorem cells_qn:Tryz.prog.cellsOf 56=7:=by kernel_rfl
theorem cells_nd:Tryz.prog.cellsOf 53=5:=by kernel_rfl
end
section
open Go.RowKit Go.Shelf
attribute [local go_sem] Oper.semAt_some
theorem grownBy_of_below{W W':World}(h:Below W.heap.size W W'):W.grownBy W' none:=⟨h.os,h.tape,h.output,h.size,fun i hi _=>h.block i hi⟩
def encPl(x:Pl):Array Value:=#[.agg #[.int .i64 (x.1:Int),.int .i64 (x.2.1:Int)],.string x.2.2]
theorem tyCtors(A:Option Addr) (n c:Nat) (w:World):
 Calls Tryz.prog 166 #[.slice A n c] w fun e w'=>e=.returned (.func (.func 178) #[] #[.pointer (some ⟨w.heap.size,0,none⟩)])∧w'=w.alloc (.cells #[.slice A n c] 22):=by
 go_enter Tryz.func166,Tryz.ntmps166
 go_wp2
 go_ret
 exact⟨rfl,rfl⟩
theorem tyIter_in(n:Nat) (hn:1≤n) (l Bs:Nat) (w:World) (A:Option Addr) (len cap:Nat) (es:List En) (hE:RdE w A len es) (J Jx:List Pl→World→Prop) (W:World) (hbW:Below w.heap.size w W)
 (hJ:AbidesFrom W.heap.size J)
 (hY:∀ pre x W,J pre W→pre++[x] <+: flatE es→YieldAt Fence.wide (n-1) Tryz.prog l (encPl x) W fun e W' =>
  (e=.returned (.bool true)∧J (pre++[x]) W'∧Below w.heap.size W W')∨(e=.returned (.bool false)∧Jx (pre++[x]) W'))
 (hBs:W.cell? ⟨Bs,0,none⟩=some (.slice A len cap)) (h0:J [] W):
 CallsIn Fence.wide n Tryz.prog 178 #[.func (.yield l) #[] #[],.pointer (some ⟨Bs,0,none⟩)] W fun e W'=>(∃ v,e=.returned v) ∧
  ((∃ ys,ys=flatE es∧J ys W')∨(∃ pre,pre <+: flatE es∧Jx pre W')):=by
 have hlen:=hE.len;have hmx:=hE.max;refine callsIn_of_wp Tryz.func178 rfl trivial ?_ rfl;simp only [Tryz.ntmps178,List.size_toArray,List.length_cons,List.length_nil,Nat.reduceAdd,Nat.reduceSub,Array.replicate_succ,Array.replicate_zero,List.push_toArray,List.append_toArray,List.nil_append,List.cons_append]
 gi_wp2
 gi_loopw [9] (fun i wr=>∃ k:Nat,k≤len∧i=.int .i64 k∧J (upTo es k 0) wr∧Below w.heap.size w wr)
  (fun i _=>len-(intOf i).toNat)
 case atStart=>exact⟨0,Nat.zero_le _,rfl,by rw [upTo_zero];exact h0,hbW⟩
 case round=>
  obtain⟨k,hk,rfl,hJs,hnx⟩:=hrel
  by_cases hlt:k<len
  · obtain⟨b,off,rfl,hb,hc⟩:=hE.at_ hlt;obtain⟨hn0,A',n',c',hs0,hR0⟩:=hc k hlt;have hn1:wr.cell? ⟨b,off+k*2,none⟩=some (.string (nmE es k)):=(hnx.cell (p:=⟨b,off+k*2,none⟩) hb).trans hn0;have hs1:wr.cell? ⟨b,off+k*2+1,none⟩=some (.slice A' n' c'):=(hnx.cell (p:=⟨b,off+k*2+1,none⟩) hb).trans hs0;have hkl:k<es.length:=by omega
    have hcl:=hR0.len;have hcm:=hR0.max;have hJa:∀ W',Below wr.heap.size wr W'→J (upTo es k 0) W':=fun W' h=>hJ _ _ _ none hJs (grownBy_of_below h) (fun r e=>by cases e)
    gi_wp2
    gi_loopw [17] (fun i wr=>∃ m:Nat,m≤n'∧i=.int .i64 m∧J (upTo es k m) wr∧Below w.heap.size w wr)
     (fun i _=>n' - (intOf i).toNat)
    case atStart=>exact⟨0,Nat.zero_le _,rfl,hJa _ ((Below.refl _ _).alloc (Nat.le_refl _) _),hnx.alloc hnx.size _⟩
    case round=>
     obtain⟨m,hm,rfl,hJm,hnm⟩:=hrel
     by_cases hltm:m<n'
     · obtain⟨b2,off2,rfl,hb2,hc2⟩:=hR0.at_ hltm;have hcm2:=(hnm.cell (p:=⟨b2,off2+m,none⟩) hb2).trans (hc2 m hltm);have hpre:=upTo_pre (es:=es) hkl (k:=m+1) (by omega);obtain⟨fn,tmps,assign,body,hy,hR⟩:=hY _ (k,m,ctAt es k m) _ hJm (by rw [← upTo_succ];exact hpre);rw [← upTo_succ] at hR;unfold ctAt at hy;simp only [encPl] at hy;generalize hx:(csE es k)[m]?.getD ByteArray.empty=x at hcm2 hy
       gi_wp2
       refine hR.mono ?_;rintro e W3 (⟨rfl,hJ3,hk3⟩|⟨rfl,hJx3⟩)
       · gi_wp2
         go_roundw
         case rel=>exact⟨m+1,by omega,by go_num,hJ3,hnm.trans hk3⟩
         case measure=>simp [intOf];omega
       · gi_wp2
         refine bodyPost_ret (results_none rfl _ _ _) rfl ?_;exact⟨⟨_,rfl⟩,.inr ⟨_,hpre,hJx3⟩⟩
     · obtain rfl:m=n':=by omega
       gi_wp2
       go_roundw
       case rel=>exact⟨k+1,by omega,by go_num,by rw [← upTo_next,hcl];exact hJm,hnm⟩
       case measure=>simp [intOf];omega
  · obtain rfl:k=len:=by omega
    gi_wp2
    go_end0
    exact⟨⟨_,rfl⟩,.inl ⟨_,rfl,by rw [← upTo_end,hlen];exact hJs⟩⟩
theorem tyIter_stops(n:Nat) (hn:1≤n) (Bs:Nat) (w0:World) (A:Option Addr) (len cap:Nat) (es:List En) (hE:RdE w0 A len es) (w:World) (hb:Below w0.heap.size w0 w) (hBs:Bs<w.heap.size)
 (hc:w.cell? ⟨Bs,0,none⟩=some (.slice A len cap)):
 SeqStopsK Fence.wide n Tryz.prog 178 #[.pointer (some ⟨Bs,0,none⟩)] encPl (Below w0.heap.size) (fun ys=>ys=flatE es) (fun pre=>pre <+: flatE es) (flatE es).length w:=fun l J Jx W hW hJ _ hY h0=>
 tyIter_in n hn l Bs w0 A len cap es hE J Jx W (hb.trans (hW.mono hb.size)) hJ (fun pre x W1 h1 h2=>hY pre x W1 h1 (by have:=h2.length_le;simp at this;omega)) ((hW.cell (p:=⟨Bs,0,none⟩) hBs).trans hc) h0
def Box2(W:World) (B:Nat) (t:TypeId) (u v:Value):Prop:=W.heap[B]?=some (.cells #[u,v] t (0,0))
section
variable {W W':World}{B:Nat}{t:TypeId}{u v:Value}
theorem Box2.lt(h:Box2 W B t u v):B<W.heap.size:=(Array.getElem?_eq_some_iff.1 h).1
theorem Box2.c0(h:Box2 W B t u v):W.cell? ⟨B,0,none⟩=some u:=by simp [World.cell?,show W.heap[B]?=_ from h]
theorem Box2.c1(h:Box2 W B t u v):W.cell? ⟨B,1,none⟩=some v:=by simp [World.cell?,show W.heap[B]?=_ from h]
theorem Box2.new(W:World) (t:TypeId) (u v:Value):Box2 (W.alloc (.cells #[u,v] t)) W.heap.size t u v:=World.alloc_heap_new W _
theorem box2_own{β:Type}(B:Nat) (t:TypeId) (u v:Value):Own (fun(_:β) W=>Box2 W B t u v):=fun s X Y row hs hg hrow=>
 (hg.block B (Box2.lt hs) (fun e'=>by obtain⟨o,ho,hc⟩:=hrow B e'.symm;rw [show X.heap[B]?=_ from hs] at ho;cases ho;cases hc)).trans hs
end
end
section
open Go.RowKit
def tyV(k e l:Int):Value:=.agg #[.int .i64 k,.int .i64 e,.int .i64 l]
def rightB(n:Nat) (k e l:Int):Bool:=
 decide (0≤l∧l≤8) && (if k=1∨k=2 then decide (e=0) else decide (k=3∧0≤e∧e<n))
section
variable {n:Nat}{k e l:Int}
theorem right_len(h:l<0∨8<l):rightB n k e l=false:=by
 simp only [rightB,decide_eq_false (show ¬ (0≤l∧l≤8) by omega),Bool.false_and]
theorem right_base(h:0≤l∧l≤8) (hk:k=1∨k=2):rightB n k e l=decide (e=0):=by
 simp only [rightB,decide_eq_true h,Bool.true_and,if_pos hk]
theorem right_enum(h:0≤l∧l≤8) (hk:k=3):rightB n k e l=decide (0≤e∧e<n):=by
 subst hk
 simp [rightB,decide_eq_true h]
theorem right_kind(hk:¬ (k=1∨k=2)) (h3:k≠3):rightB n k e l=false:=by
 simp [rightB,if_neg hk,h3]
end
theorem refTyRight(A:Option Addr) (n c:Nat) (k e l:Int) (w:World) (hn:n≤9223372036854775807):
 Calls Tryz.prog 50 #[.slice A n c,tyV k e l] w fun r w'=>r=.returned (.bool (rightB n k e l))∧Below w.heap.size w w':=by
 unfold tyV;have HB:=Hd ((Below.refl w.heap.size w).alloc (Nat.le_refl _) (.cells #[.int .i64 k,.int .i64 e,.int .i64 l] 38))
 by_cases h1:l<0
 · have HE:=Hd (right_len (n:=n) (k:=k) (e:=e) (.inl h1));have d1:decide (l<0)=true:=decide_eq_true h1
   by_cases k0:k<1
   · go_enter Tryz.func50,Tryz.ntmps50
     go_wp2_with fail
     go_ret
     exact⟨ret_bool HE.out.symm,HB.out⟩
   · by_cases k4:3<k
     all_goals
      go_enter Tryz.func50,Tryz.ntmps50
      go_wp2_with fail
      go_ret
      exact⟨ret_bool HE.out.symm,HB.out⟩
 · by_cases h2:8<l
   · have HE:=Hd (right_len (n:=n) (k:=k) (e:=e) (.inr h2))
     by_cases k0:k<1
     · go_enter Tryz.func50,Tryz.ntmps50
       go_wp2_with fail
       go_ret
       exact⟨ret_bool HE.out.symm,HB.out⟩
     · by_cases k4:3<k
       all_goals
        go_enter Tryz.func50,Tryz.ntmps50
        go_wp2_with fail
        go_ret
        exact⟨ret_bool HE.out.symm,HB.out⟩
   · have hl:0≤l∧l≤8:=by omega
     by_cases k0:k<1
     · have HE:=Hd (right_kind (n:=n) (e:=e) (l:=l) (show ¬ (k=1∨k=2) by omega) (by omega))
       go_enter Tryz.func50,Tryz.ntmps50
       go_wp2_with fail
       go_ret
       exact⟨ret_bool HE.out.symm,HB.out⟩
     · by_cases k4:3<k
       · have HE:=Hd (right_kind (n:=n) (e:=e) (l:=l) (show ¬ (k=1∨k=2) by omega) (by omega))
         go_enter Tryz.func50,Tryz.ntmps50
         go_wp2_with fail
         go_ret
         exact⟨ret_bool HE.out.symm,HB.out⟩
       · by_cases k3:k=3
         · have HE:=Hd (right_enum (n:=n) (e:=e) hl k3);subst k3
           by_cases e0:0≤e
           all_goals
            go_enter Tryz.func50,Tryz.ntmps50
            go_wp2_with fail
            go_ret
            exact⟨ret_bool (by rw [HE.out,Bool.eq_iff_iff];simp;omega),HB.out⟩
         · have HE:=Hd (right_base (n:=n) (e:=e) hl (show k=1∨k=2 by omega));have b3:(k==3)=false:=by simpa using k3
           go_enter Tryz.func50,Tryz.ntmps50
           go_wp2_with fail
           go_ret
           exact⟨ret_bool (by rw [HE.out,Bool.eq_iff_iff];simp),HB.out⟩
end
section
open Go.RowKit Go.Shelf
attribute [local go_sem] Oper.semAt_some
def isNm(name:ByteArray) (p:Pl):Bool:=p.2.2.toList==name.toList
def findE(es:List En) (name:ByteArray):Option Pl:=(flatE es).find? (isNm name)
def ctorV(o:Option Pl):Value:=.tuple #[.int .i64 (((o.map (·.1)).getD 0:Nat):Int),.int .i64 (((o.map (·.2.1)).getD 0:Nat):Int),.bool o.isSome]
theorem findE_none{es:List En}{name:ByteArray}(h:∀ p∈flatE es,isNm name p=false):findE es name=none:=by
 unfold findE;rw [List.find?_eq_none];intro p hp;rw [h p hp]
 simp
theorem findE_some{es:List En}{name:ByteArray}{ini:List Pl}{last:Pl}(hp:ini++[last] <+: flatE es) (h:∀ p∈ini,isNm name p=false) (hl:isNm name last=true):findE es name=some last:=by
 obtain⟨r,hr⟩:=hp;unfold findE;rw [← hr,List.append_assoc,List.find?_append,List.find?_eq_none.2 (fun p hp=>by rw [h p hp];simp)]
 simp [hl]
theorem three_set{W:World}{s:Nat}{t1 t2 t3:TypeId}{v1 v2 v3:Value}(u1 u2 u3:Value) (c1:Boxed W (s+1) t1 v1) (c2:Boxed W (s+1+1) t2 v2) (c3:Boxed W (s+1+1+1) t3 v3):
 ∃ W',(((W.setCell ⟨s+1,0,none⟩ u1).setCell ⟨s+1+1,0,none⟩ u2).setCell ⟨s+1+1+1,0,none⟩ u3)=W'∧Boxed W' (s+1) t1 u1∧Boxed W' (s+1+1) t2 u2∧Boxed W' (s+1+1+1) t3 u3∧KeepsOthers W W'∧Below s W W' :=
 ⟨_,rfl,((c1.set u1).other (by omega) _).other (by omega) _,((c2.other (by omega) u1).set u2).other (by omega) _,((c3.other (by omega) u1).other (by omega) u2).set u3,
  ((KeepsOthers.setCell _ _ _).trans (KeepsOthers.setCell _ _ _)).trans (KeepsOthers.setCell _ _ _),
  (((Below.refl s W).setCell (p:=⟨s+1,0,none⟩) (by show s≤s+1;omega) _).setCell (p:=⟨s+1+1,0,none⟩) (by show s≤s+1+1;omega) _).setCell (p:=⟨s+1+1+1,0,none⟩) (by show s≤s+1+1+1;omega) _⟩
theorem tyCtor_in(n:Nat) (hn:6≤n) (A:Option Addr) (len cap:Nat) (es:List En) (name:ByteArray) (w:World) (hE:RdE w A len es):
 CallsIn Fence.wide n Tryz.prog 152 #[.slice A len cap,.string name] w fun e w'=>e=.returned (ctorV (findE es name))∧Below w.heap.size w w':=by
 have h1:1≤n:=by omega
 refine callsIn_of_wp_marks Tryz.func152 rfl trivial ?_ rfl;simp only [Tryz.ntmps152,List.size_toArray,List.length_cons,List.length_nil,Nat.reduceAdd,Nat.reduceSub,Array.replicate_succ,Array.replicate_zero,List.push_toArray,List.append_toArray,List.nil_append,List.cons_append]
 gi_wp2_with (refine⟨trivial,?_⟩;gi_at_call 166;refine(callsIn_wide.2 (tyCtors _ _ _ _)).mono ?_;rintro e w' ⟨rfl,rfl⟩)
 have bN:=((((Boxed.new w 9 (.string name)).alloc (.cells #[.int .i64 0] 3)).alloc (.cells #[.int .i64 0] 3)).alloc (.cells #[.bool false] 4)).alloc (.cells #[.slice A len cap] 22);have b1:=(((Boxed.new (w.alloc (.cells #[.string name] 9)) 3 (.int .i64 0)).alloc (.cells #[.int .i64 0] 3)).alloc (.cells #[.bool false] 4)).alloc (.cells #[.slice A len cap] 22);have b2:=((Boxed.new ((w.alloc (.cells #[.string name] 9)).alloc (.cells #[.int .i64 0] 3)) 3 (.int .i64 0)).alloc (.cells #[.bool false] 4)).alloc (.cells #[.slice A len cap] 22);have b3:=(Boxed.new (((w.alloc (.cells #[.string name] 9)).alloc (.cells #[.int .i64 0] 3)).alloc (.cells #[.int .i64 0] 3)) 4 (.bool false)).alloc (.cells #[.slice A len cap] 22);have b4:=Boxed.new ((((w.alloc (.cells #[.string name] 9)).alloc (.cells #[.int .i64 0] 3)).alloc (.cells #[.int .i64 0] 3)).alloc (.cells #[.bool false] 4)) 22 (.slice A len cap);simp only [World.size_alloc] at b1 b2 b3 b4
 have hB0:Below w.heap.size w (((((w.alloc (.cells #[.string name] 9)).alloc (.cells #[.int .i64 0] 3)).alloc (.cells #[.int .i64 0] 3)).alloc (.cells #[.bool false] 4)).alloc (.cells #[.slice A len cap] 22)):=
  (((((Below.refl _ w).alloc (Nat.le_refl _) _).alloc (by simp) _).alloc (by simp;omega) _).alloc (by simp;omega) _).alloc (by simp;omega) _
 have hsz:(((((w.alloc (.cells #[.string name] 9)).alloc (.cells #[.int .i64 0] 3)).alloc (.cells #[.int .i64 0] 3)).alloc (.cells #[.bool false] 4)).alloc (.cells #[.slice A len cap] 22)).heap.size=w.heap.size+5:=by simp
 obtain⟨W0,hW0⟩:∃ W0,(((((w.alloc (.cells #[.string name] 9)).alloc (.cells #[.int .i64 0] 3)).alloc (.cells #[.int .i64 0] 3)).alloc (.cells #[.bool false] 4)).alloc (.cells #[.slice A len cap] 22))=W0:=⟨_,rfl⟩;rw [hW0] at bN b1 b2 b3 b4 hB0 hsz ⊢;clear hW0
 refine wpIn_rangeFunc_ownH rfl h1 (gf:=178) (lb:=#[.pointer (some ⟨w.heap.size+1+1+1+1,0,none⟩)]) rfl trivial (enters_of Tryz.func178 (by kernel_rfl) rfl)
  (tyIter_stops (n-1) (by omega) (w.heap.size+1+1+1+1) w A len cap es hE W0 hB0 (by omega) b4.cell) belowK_t (belowK_b (by omega)) (Below.refl _ _) (fun _=>rfl)
  (fun pre W=>((Boxed W w.heap.size 9 (.string name)∧Boxed W (w.heap.size+1) 3 (.int .i64 0)∧Boxed W (w.heap.size+1+1) 3 (.int .i64 0)∧Boxed W (w.heap.size+1+1+1) 4 (.bool false))∧∀ p∈pre,isNm name p=false)∧Below w.heap.size w W)
  (fun c pre W=>((c=.ret∧∃ ini last,pre=ini++[last]∧(∀ p∈ini,isNm name p=false)∧isNm name last=true∧Boxed W (w.heap.size+1) 3 (.int .i64 (last.1:Int))∧Boxed W (w.heap.size+1+1) 3 (.int .i64 (last.2.1:Int))∧Boxed W (w.heap.size+1+1+1) 4 (.bool true)))∧Below w.heap.size w W)
  (OwnFrom.and (OwnFrom.and (OwnFrom.and (Own.from (boxed_own _ _ (fun _=>_)) _) (OwnFrom.and (Own.from (boxed_own _ _ (fun _=>_)) _) (OwnFrom.and (Own.from (boxed_own _ _ (fun _=>_)) _) (Own.from (boxed_own _ _ (fun _=>_)) _)))) (ownFrom_pure _ _)) (ownFrom_below (Nat.le_refl _) (by omega)))
  (fun c=>OwnFrom.and (Own.from (fun s X Y row hs hg hr=>by
   obtain⟨hc,ini,last,e1,e2,e3,e4,e5,e6⟩:=hs;exact⟨hc,ini,last,e1,e2,e3,boxed_own _ _ (fun _=>_) s X Y row e4 hg hr,boxed_own _ _ (fun _=>_) s X Y row e5 hg hr,boxed_own _ _ (fun _=>_) s X Y row e6 hg hr⟩) _) (ownFrom_below (Nat.le_refl _) (by omega)))
  ⟨⟨⟨bN,b1,b2,b3⟩,by simp⟩,hB0⟩
  (fun x a' W=>∃ Bx,w.heap.size+4≤Bx∧Box2 W Bx 174 (.int .i64 (x.1:Int)) (.int .i64 (x.2.1:Int))∧a'={ tmps:=#[.slice A len cap,.string name,undef,.pointer (some ⟨w.heap.size,0,none⟩),.pointer (some ⟨w.heap.size+1,0,none⟩),.pointer (some ⟨w.heap.size+1+1,0,none⟩),.pointer (some ⟨w.heap.size+1+1+1,0,none⟩),.pointer (some ⟨Bx,0,none⟩),.string x.2.2,.slice A len cap,.func (.func 178) #[] #[.pointer (some ⟨w.heap.size+1+1+1+1,0,none⟩)],.agg #[.int .i64 (x.1:Int),.int .i64 (x.2.1:Int)],.string x.2.2,undef,undef,undef,undef,undef,undef,undef],defers:=[] })
  (fun x a'=>fun s X Y row hs hg hr=>by
   obtain⟨Bx,h1,h2,h3⟩:=hs;exact⟨Bx,h1,box2_own _ _ _ _ s X Y row h2 hg (fun r e=>(hr r e).2),h3⟩)
  ?assign ?body ?done ?stop
 case assign=>
  rintro l pre x W K ⟨⟨⟨cN,c1,c2,c3⟩,hp⟩,hB⟩ hK;have e1:=c1.cell;have e2:=c2.cell;have e3:=c3.cell;have f1:=c1.frozen;have f2:=c2.frozen;have f3:=c3.frozen;simp only [encPl]
  gi_wp2
  exact hK _ _ ((KeepsOthers.alloc _ _).from _) ((Below.refl _ W).alloc hB.size _) ⟨⟨⟨cN.alloc _,c1.alloc _,c2.alloc _,c3.alloc _⟩,hp⟩,hB.alloc hB.size _⟩ ⟨W.heap.size,by have:=c3.lt;omega,Box2.new W _ _ _,rfl⟩
 case body=>
  rintro l pre x a' W hl hr ⟨⟨⟨cN,c1,c2,c3⟩,hp⟩,hB⟩ ⟨Bx,hBx,bX,rfl⟩ hlt;have dN:=cN.cell;have d0:=bX.c0;have d1:=bX.c1;have e1:=c1.cell;have e2:=c2.cell;have e3:=c3.cell;have f1:=c1.frozen;have f2:=c2.frozen;have f3:=c3.frozen
  by_cases hx:(x.2.2.toList==name.toList)=true
  · have hmx:Tryz.prog.follows .mixedOrders=true:=by kernel_rfl
    gi_wp2
    gi_region_o
    all_goals gi_wp2
    all_goals
     obtain⟨W',hW',g1,g2,g3,gk,gb⟩:=three_set (.int .i64 (x.1:Int)) (.int .i64 (x.2.1:Int)) (.bool true) c1 c2 c3;rw [hW'];exact⟨(gk.trans (KeepsOthers.drew _)).from _,⟨rfl,pre,x,rfl,hp,hx,g1,g2,g3⟩,(hB.trans gb).drew⟩
  · have hx:(x.2.2.toList==name.toList)=false:=by simpa using hx
    gi_wp2
    exact⟨KeepsFrom.refl _ _,Below.refl _ _,⟨⟨cN,c1,c2,c3⟩,fun p hp'=>(List.mem_append.1 hp').elim (hp p) (fun e=>by simp at e;subst e;exact hx)⟩,hB⟩
 case done=>
  rintro D ys W hD rfl ⟨⟨⟨cN,c1,c2,c3⟩,hp⟩,hB⟩ hK;have e1:=c1.cell;have e2:=c2.cell;have e3:=c3.cell;have f1:=c1.frozen;have f2:=c2.frozen;have f3:=c3.frozen
  gi_wp2
  obtain⟨W',hW',g1,g2,g3,gk,gb⟩:=three_set (.int .i64 0) (.int .i64 0) (.bool false) c1 c2 c3;rw [hW'];have hK':=gk.same D _ hK rfl;have k1:=(g1.kept (grownBy_putObj' _ D (.deferred none)) (fun e=>by cases e;omega)).cell;have k2:=(g2.kept (grownBy_putObj' _ D (.deferred none)) (fun e=>by cases e;omega)).cell;have k3:=(g3.kept (grownBy_putObj' _ D (.deferred none)) (fun e=>by cases e;omega)).cell;refine⟨by simp,.inl ⟨_,_,rfl,run_takeDeferred hK',?_⟩⟩;refine⟨ctorV none,?_,by rw [findE_none hp],(hB.trans gb).trans (belowK_b (w:=w) (Nat.le_refl _) _ D _ _ (by omega) hK' rfl rfl)⟩
  simp [results,Tryz.f152,go_sem,k1,k2,k3,ctorV]
 case stop=>
  rintro D c pre W hD hpre ⟨⟨rfl,ini,last,rfl,hi,hl,c1,c2,c3⟩,hB⟩ hK;have e1:=c1.cell;have e2:=c2.cell;have e3:=c3.cell;have f1:=c1.frozen;have f2:=c2.frozen;have f3:=c3.frozen
  gi_wp2
  have k1:=(c1.kept (grownBy_putObj' _ D (.deferred none)) (fun e=>by cases e;omega)).cell;have k2:=(c2.kept (grownBy_putObj' _ D (.deferred none)) (fun e=>by cases e;omega)).cell;have k3:=(c3.kept (grownBy_putObj' _ D (.deferred none)) (fun e=>by cases e;omega)).cell;refine⟨by simp,.inl ⟨_,_,rfl,run_takeDeferred hK,?_⟩⟩;refine⟨ctorV (some last),?_,by rw [findE_some hpre hi hl],hB.trans (belowK_b (w:=w) (Nat.le_refl _) _ D _ _ (by omega) hK rfl rfl)⟩
  simp [results,Tryz.f152,go_sem,k1,k2,k3,ctorV]
theorem tyCtor(A:Option Addr) (len cap:Nat) (es:List En) (name:ByteArray) (w:World) (hE:RdE w A len es):
 Calls Tryz.prog 152 #[.slice A len cap,.string name] w fun e w'=>e=.returned (ctorV (findE es name))∧Below w.heap.size w w' :=
 callsIn_wide.1 (tyCtor_in 6 (Nat.le_refl _) A len cap es name w hE)
end
section
open Go.RowKit
def noneTo(es:List En) (name:ByteArray) (i k:Nat):Prop:=∀ p∈upTo es i k,isNm name p=false
theorem noneTo_succ{es:List En}{name:ByteArray}{i k:Nat}(H:noneTo es name i k) (h:((ctAt es i k).toList==name.toList)=false):noneTo es name i (k+1):=fun p hp=>by
 rw [upTo_succ,List.mem_append] at hp;rcases hp with hp | hp
 · exact H p hp
 · simp at hp
   subst hp;exact h
theorem noneTo_next{es:List En}{name:ByteArray}{i k:Nat}(H:noneTo es name i k) (h:k=(csE es i).length):noneTo es name (i+1) 0:=by
 subst h;unfold noneTo at H ⊢;rwa [upTo_next] at H
theorem find_at{es:List En}{name:ByteArray}{i k:Nat}(hi:i<es.length) (hk:k<(csE es i).length) (H:noneTo es name i k) (h:((ctAt es i k).toList==name.toList)=true):findE es name=some (i,k,ctAt es i k):=
 findE_some (ini:=upTo es i k) (by rw [← upTo_succ];exact upTo_pre hi (by omega)) H h
theorem find_no{es:List En}{name:ByteArray}(H:noneTo es name es.length 0):findE es name=none:=findE_none fun p hp=>H p (by rw [upTo_end];exact hp)
theorem refCtor(A:Option Addr) (len cap:Nat) (es:List En) (name:ByteArray) (w:World) (hE:RdE w A len es):
 Calls Tryz.prog 62 #[.slice A len cap,.string name] w fun e w'=>e=.returned (ctorV (findE es name))∧Below w.heap.size w w':=by
 have hlen:=hE.len;have hmx:=hE.max
 go_enter Tryz.func62,Tryz.ntmps62
 go_wp2_with fail
 go_loopw [7] (fun i wr=>∃ k:Nat,k≤len∧i=.int .i64 k∧noneTo es name k 0∧∃ p,wr=w.drewN p) (fun i _=>len-(intOf i).toNat)
 case atStart=>exact⟨0,Nat.zero_le _,rfl,fun p hp=>by rw [upTo_zero] at hp;simp at hp,0,rfl⟩
 case round=>
  obtain⟨k,hk,rfl,hto,p,rfl⟩:=hrel;have HT:=Hd hto;clear hto
  by_cases hlt:k<len
  · obtain⟨b,off,rfl,hb,hc⟩:=hE.at_ hlt;obtain⟨hn0,A',n',c',hs0,hR0⟩:=hc k hlt;have hkl:k<es.length:=by omega
    have hcl:=hR0.len;have hcm:=hR0.max;clear hc
    go_wp2_with fail
    go_loopw [8] (fun i wr=>∃ m:Nat,m≤n'∧i=.int .i64 m∧noneTo es name k m∧∃ p,wr=w.drewN p) (fun i _=>n' - (intOf i).toNat)
    case atStart=>exact⟨0,Nat.zero_le _,rfl,HT.out,_,rfl⟩
    case round=>
     obtain⟨m,hm,rfl,hto,q,rfl⟩:=hrel;have HT2:=Hd hto;clear hto
     by_cases hltm:m<n'
     · obtain⟨b2,off2,rfl,hb2,hc2⟩:=hR0.at_ hltm;have hcm2:=hc2 m hltm;clear hc2;have HN:=Hd fun h=>noneTo_succ HT2.out h;have HF:=Hd fun h=>find_at hkl (show m<(csE es k).length by omega) HT2.out h;rw [show(csE es k)[m]?.getD ByteArray.empty=ctAt es k m from rfl] at hcm2;generalize ctAt es k m=x at hcm2 HN HF
       by_cases he:(x.toList==name.toList)=true
       · have HF:=Hd (HF.out he)
         go_wp2_with fail
         refine bodyPost_ret (v:=ctorV (findE es name)) ?_ rfl ⟨rfl,?_⟩
         · rw [HF.out];simp [results,Tryz.results62,go_sem,ctorV]
         · exact below_drewN (Below.refl _ _) _
       · have he:(x.toList==name.toList)=false:=by simpa using he
         have HN:=Hd (HN.out he)
         go_wp2_with fail
         go_roundw
         case rel=>exact⟨m+1,by omega,by go_num,HN.out,_,rfl⟩
         case measure=>simp [intOf];omega
     · have HN:=Hd (noneTo_next HT2.out (by omega))
       go_wp2_with fail
       go_roundw
       case rel=>exact⟨k+1,by omega,by go_num,HN.out,_,rfl⟩
       case measure=>simp [intOf];omega
  · have hkl:k=es.length:=by omega
    have hno:=HT.out;rw [hkl] at hno;have HF:=Hd (find_no hno)
    go_wp2_with fail
    refine bodyPost_ret (v:=ctorV (findE es name)) ?_ rfl ⟨rfl,?_⟩
    · rw [HF.out];simp [results,Tryz.results62,go_sem,ctorV]
    · exact below_drewN (Below.refl _ _) _
end
section
open Go.RowKit Go.ChangeShapes Go.WideShapes Go.Deep
theorem cells_i:Tryz.prog.cellsOf 3=1:=by kernel_rfl
theorem cells_l:Tryz.prog.cellsOf 2=1:=by kernel_rfl
theorem cells_s:Tryz.prog.cellsOf 9=1:=by kernel_rfl
theorem cells_ss:Tryz.prog.cellsOf 32=1:=by kernel_rfl
theorem cells_xs:Tryz.prog.cellsOf 33=1:=by kernel_rfl
def OkP(p:Ex):Prop:=p.s.size≤maxLen∧(∀ t∈p.arms,t.size≤maxLen)∧(Lit.int .i64 p.k).wf=true∧(Lit.int .i64 p.n).wf=true∧(Lit.int .i64 p.op).wf=true
def OkX(x:Ex):Prop:=∀ p∈partsX x,OkP p
theorem partss_mem{l:List Ex}{p:Ex}(h:p∈partssX l):∃ i,i<l.length∧p∈partsX (l[i]?.getD default):=by
 induction l with
 | nil=>simp [partssX] at h
 | cons x l ih=>
  simp only [partssX,List.mem_append] at h;rcases h with h | h
  · exact⟨0,by simp,by simpa using h⟩
  · obtain⟨i,hi,hp⟩:=ih h;exact⟨i+1,by simpa using hi,by simpa using hp⟩
theorem mem_partssZ{l:List Ex}{p:Ex}{i:Nat}(hi:i<l.length) (h:p∈partsX (l[i]?.getD default)):p∈partssX l:=by
 induction l generalizing i with
 | nil=>simp at hi
 | cons x l ih=>
  simp only [partssX,List.mem_append]
  cases i with
  | zero=>left;simpa using h
  | succ i=>right;exact ih (by simpa using hi) (by simpa using h)
theorem OkX.self{x:Ex}(h:OkX x):OkP x:=h x (by rw [partsX_eq];exact List.mem_cons_self)
theorem OkX.sub{x:Ex}(h:OkX x){i:Nat}(hi:i<x.subs.length):OkX (subX x i):=fun p hp=>h p (by
 rw [partsX_eq];exact List.mem_cons_of_mem _ (mem_partssZ hi hp))
section
variable {H:Type}{enc:TypeId × Value→H}{w:World}{base:Nat}{spare:Nat→Bool}{held:Bool}
theorem strs_openZ{fuel:Nat}{v:Value}{x:DataW H × List MemPlace}(h:DataW.trod enc Tryz.prog w base spare held fuel 32 [v]=some x):∃ A n c ss,v=.slice A n c∧RdT w A n ss∧∀ s∈ss,s.size≤maxLen:=by
 rcases Go.ChangeShapes.open_strings Tryz.underlying32 Tryz.underlying9 (by kernel_rfl) h with⟨hcs,_⟩|⟨x,l,c,ss,hcs,_,hl,hm,hss,_,hcell,hz⟩
 · simp at hcs
   subst hcs;exact⟨none,0,0,[],rfl,RdT.nil_ _,fun s hs=>by cases hs⟩
 · simp at hcs
   subst hcs;have hle:l≤ss.length:=by rw [hss];split <;> omega
   exact⟨some x,l,c,ss.take l,rfl,rdT_arg hle (by unfold maxLen at hm;omega) hcell,fun s hs=>hz s (List.mem_of_mem_take hs)⟩
theorem ex_cells:∀ (fuel:Nat){cs:List Value}{x:DataW H × List MemPlace},DataW.trod enc Tryz.prog w base spare held fuel 35 cs=some x→cs.length=6 →
 ∃ (X:Ex) (A:Option Addr) (ca:Nat) (B:Option Addr) (cb:Nat),cs=exL X A ca B cb∧rdX w X A B∧OkX X:=by
 intro fuel
 induction fuel using Nat.strongRecOn with
 | _ fuel ih=>
 intro cs x h hl;obtain⟨ys,m,hm,_,_,hy,hf⟩:=DataW.trod_struct Tryz.underlying35 h
 match cs,hl with
 | [v0,v1,v2,v3,v4,v5],_=>
  match ys,hy with
  | [y0,y1,y2,y3,y4,y5],_=>
   have t0:=hf 0 _ rfl;have t1:=hf 1 _ rfl;have t2:=hf 2 _ rfl;have t3:=hf 3 _ rfl;have t4:=hf 4 _ rfl;have t5:=hf 5 _ rfl
   simp [cells_i,cells_l,cells_s,cells_ss,cells_xs] at t0 t1 t2 t3 t4 t5
   obtain⟨k,e0,_,w0⟩:=DataW.trod_int Tryz.underlying3 t0;obtain⟨n,e1,_,w1⟩:=DataW.trod_int Tryz.underlying2 t1;obtain⟨s,e2,_,w2⟩:=DataW.trod_string Tryz.underlying9 t2;obtain⟨op,e3,_,w3⟩:=DataW.trod_int Tryz.underlying3 t3;injection e0 with e0;injection e1 with e1;injection e2 with e2;injection e3 with e3;subst e0 e1 e2 e3;obtain⟨A,na,ca,ss,rfl,hr,hz⟩:=strs_openZ t4;have hna:=hr.len;subst hna;rcases DataW.trod_slice Tryz.underlying33 t5 with⟨hcs,_⟩|⟨a,len,cap,elems,rest,nn,hnn,hcs,_,_,hlc,hcm,hel,hi,_,_⟩
   · simp at hcs
     subst hcs;refine⟨.mk k n s op ss [],A,ca,none,0,rfl,?_,?_⟩
     · rw [rdX_eq];exact⟨hr,RdX.nil_ _⟩
     · intro p hp;simp only [partsX,partssX,List.mem_singleton] at hp;subst hp;exact⟨w2,hz,w0,w1,w3⟩
   · simp at hcs
     subst hcs
     have hone:∀ i,i<len→∃ X:Ex,(∃ A' ca' B' cb',(∀ j v,(exL X A' ca' B' cb')[j]?=some v→w.cell? (a.add (i*6+j))=some v)∧rdX w X A' B')∧OkX X:=by
      intro i him;have h1:=hi i him;rw [List.getElem?_eq_getElem (by omega),cells_ex] at h1;obtain⟨cs',hc,ht⟩:=Option.bind_eq_some_iff.1 h1;obtain⟨_,hcl,hat⟩:=World.cells?_some hc;obtain⟨X,A',ca',B',cb',e,hrX,hok⟩:=ih nn (by omega) ht hcl;refine⟨X,⟨A',ca',B',cb',fun j v hj=>?_,hrX⟩,hok⟩
      have hj6:j<6:=by
       rcases Nat.lt_or_ge j 6 with h | h
       · exact h
       · rw [List.getElem?_eq_none (by simpa [exL] using h)] at hj;cases hj
      rw [← Go.Deep.add_add,hat j hj6,e,hj]
     obtain⟨f,hfX⟩:=choose_lt (α:=Ex) hone;have hget:∀ i,i<len→((List.range len).map f)[i]?.getD default=f i:=fun i hi=>by simp [List.getElem?_map,List.getElem?_range hi]
     refine⟨.mk k n s op ss ((List.range len).map f),A,ca,some a,cap,by simp [exL,Ex.k,Ex.n,Ex.s,Ex.op,Ex.arms,Ex.subs],?_,?_⟩
     · rw [rdX_eq];refine⟨hr,rfl,by simp [Ex.subs];unfold maxLen at hcm;omega,fun hn=>?_⟩;simp only [Ex.subs,List.length_map,List.length_range] at hn;obtain⟨b,off,spot⟩:=a;obtain⟨⟨A0,ca0,B0,cb0,h0,_⟩,_⟩:=hfX 0 hn;have h00:=h0 0 _ rfl;have hspot:spot=none:=by simpa [Addr.add] using World.cell?_spot h00
       subst hspot;have hadd:∀ i,(⟨b,off,none⟩:Addr).add i=⟨b,off+i,none⟩:=fun i=>by unfold Addr.add;split <;> simp_all
       refine⟨b,off,rfl,World.block_lt_of_cell? w _ ((hadd 0) ▸ h00),rdXs_of _ fun i hi=>?_⟩;simp only [Ex.subs,List.length_map,List.length_range] at hi;simp only [Ex.subs];rw [hget i hi];obtain⟨⟨A',ca',B',cb',h1,h2⟩,_⟩:=hfX i hi;refine⟨A',ca',B',cb',fun j v hv=>?_,h2⟩;have:=h1 j v hv;rw [hadd] at this;rw [Nat.add_assoc];exact this
     · intro p hp;simp only [partsX,List.mem_cons] at hp;rcases hp with rfl | hp
       · exact⟨w2,hz,w0,w1,w3⟩
       · obtain⟨i,hi,hp⟩:=partss_mem hp;simp only [List.length_map,List.length_range] at hi;rw [hget i hi] at hp;exact(hfX i hi).2 p hp
theorem ex_open{v:Value}{d:DataW H}{ps:List MemPlace}{r:Reach}{b0:Nat}(hv:Value.okWide Tryz.prog w r b0 35 v) (h:DataW.Trod enc Tryz.prog w base spare held 35 v d ps):
 ∃ (X:Ex) (A:Option Addr) (ca:Nat) (B:Option Addr) (cb:Nat),v=.agg (exA X A ca B cb)∧rdX w X A B∧OkX X:=by
 obtain⟨cs,rfl,hs⟩:=okWide_struct Tryz.underlying35 hv;obtain⟨fuel,hf⟩:=h;rw [cells_ex] at hs;obtain⟨X,A,ca,B,cb,e1,hr,hok⟩:=ex_cells fuel hf (by simpa [Value.cells] using hs);refine⟨X,A,ca,B,cb,?_,hr,hok⟩
 congr 1
 apply Array.toList_inj.1
 simpa [Value.cells,exA,exL] using e1
end
end
end Go.Proofs.YtegjgiofmpolnaaGreat
