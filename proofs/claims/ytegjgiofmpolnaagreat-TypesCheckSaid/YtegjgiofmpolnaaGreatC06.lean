/- Parts of the proof: TyE, PgM, PgR, TyI, TyR, TyC, TyB, ExZ. Conditions: each theorem's own. -/
import Derived.RangeFuncNested
import Derived.RangeFuncBound
import Derived.RangeFuncCalls
import Derived.RangeFuncLeaves
import Derived.Shelf.Abstract
import Derived.Shelf.RegionOpen
import Derived.OwnWalkIn
import Derived.TacticsInMore
import Derived.LoopNIn
import Derived.LoopIn
import Derived.Deep.Slices
import Derived.Deep.Fields
import Derived.ChangeSame
import Derived.SliceStrings
import Derived.Test.YtegjgiofmpolnaaGreatC01
namespace Go.Proofs.YtegjgiofmpolnaaGreat
set_option linter.unusedVariables false
set_option linter.unusedSimpArgs false
set_option maxRecDepth 100000
set_option maxHeartbeats 40000000
section
open Go.RowKit
abbrev En:=ByteArray × List ByteArray
def eK(es:List En) (i:Nat):ByteArray:=(es[i]?.getD (ByteArray.empty,[])).1
def bT(es:List En) (i:Nat):List ByteArray:=(es[i]?.getD (ByteArray.empty,[])).2
def bV(w:World) (A:Option Addr) (n:Nat) (es:List En):Prop:=
 es.length=n/\n<=9223372036854775807 /\
 (0<n->∃ b Aa,A=some ⟨b,Aa,none⟩/\b<w.heap.size/\∀ i,i<n->w.cell? ⟨b,Aa+i*2,none⟩=some (.string (eK es i)) /\
  ∃ A' n' c',w.cell? ⟨b,Aa+i*2+1,none⟩=some (.slice A' n' c')/\aN w A' n' (bT es i))
def jW(es:List En):Prop:=∀ i,i<es.length->(eK es i).size<=maxLen/\∀ s∈bT es i,s.size<=maxLen
section
variable {w w':World}{A:Option Addr}{n:Nat}{es:List En}
theorem bV.nil_(w:World):bV w none 0 []:=⟨rfl,by omega,by omega⟩
theorem bV.len(h:bV w A n es):es.length=n:=h.1
theorem bV.max(h:bV w A n es):n<=9223372036854775807:=h.2.1
theorem bV.at_(h:bV w A n es){i:Nat}(hi:i<n):
 ∃ b Aa,A=some ⟨b,Aa,none⟩/\b<w.heap.size/\∀ i,i<n->w.cell? ⟨b,Aa+i*2,none⟩=some (.string (eK es i)) /\
  ∃ A' n' c',w.cell? ⟨b,Aa+i*2+1,none⟩=some (.slice A' n' c')/\aN w A' n' (bT es i):=
 h.2.2 (by omega)
theorem bV.keep(h:bV w A n es) (hs:w.heap.size<=w'.heap.size) (hk:∀ p:Addr,p.block<w.heap.size->w'.cell? p=w.cell? p):bV w' A n es:=
 ⟨h.1,h.2.1,fun hn=>by
  obtain⟨b,Aa,e,hb,hc⟩:=h.2.2 hn;refine⟨b,Aa,e,by omega,fun i hi=>?_⟩;obtain⟨h1,A',n',c',h2,h3⟩:=hc i hi;exact⟨(hk _ hb).trans h1,A',n',c',(hk _ hb).trans h2,h3.keep hs hk⟩⟩
theorem bV.below(h:bV w A n es) (hb:Below w.heap.size w w'):bV w' A n es:=h.keep hb.size fun _ hp=>hb.cell hp
end
theorem aRk(es:List En) (i:Nat):(es.map (·.1))[i]?.getD ByteArray.empty=eK es i:=by
 unfold eK;rw [List.getElem?_map]
 cases es[i]? <;> rfl
abbrev Pl:=Nat × Nat × ByteArray
def eJ(es:List En) (i k:Nat):ByteArray:=(bT es i)[k]?.getD ByteArray.empty
def jB(es:List En) (i k:Nat):List Pl:=(List.range k).map fun k=>(i,k,eJ es i k)
def iZ(es:List En):Nat->List Pl
 | 0=>[]
 | i+1=>iZ es i++jB es i (bT es i).length
def dT(es:List En):List Pl:=iZ es es.length
def iR(es:List En) (i k:Nat):List Pl:=iZ es i++jB es i k
section
variable {es:List En}{i k:Nat}
theorem vT(es:List En) (i k:Nat):jB es i (k+1)=jB es i k++[(i,k,eJ es i k)]:=by simp [jB,List.range_succ]
theorem aB3(es:List En):iR es 0 0=[]:=by simp [iR,iZ,jB]
theorem rK(es:List En) (i k:Nat):iR es i (k+1)=iR es i k++[(i,k,eJ es i k)]:=by simp [iR,vT]
theorem aB4(es:List En) (i:Nat):iR es i (bT es i).length=iR es (i+1) 0:=by simp [iR,iZ,jB]
theorem aC5(es:List En):iR es es.length 0=dT es:=by simp [iR,dT,jB]
theorem aHr(es:List En) (i j:Nat) (h:i<=j):iZ es i <+: iZ es j:=by
 induction j with
 | zero=>
  obtain rfl:i=0:=by omega
  exact List.prefix_refl _
 | succ j ih=>
  rcases Nat.lt_or_ge i (j+1) with h1 | h1
  . exact(ih (by omega)).trans (by show _ <+: iZ es j++_;exact List.prefix_append _ _)
  . obtain rfl:i=j+1:=by omega
    exact List.prefix_refl _
theorem aJi(es:List En) (i k m:Nat) (h:k<=m):jB es i k <+: jB es i m:=by
 induction m with
 | zero=>
  obtain rfl:k=0:=by omega
  exact List.prefix_refl _
 | succ m ih=>
  rcases Nat.lt_or_ge k (m+1) with h1 | h1
  . exact(ih (by omega)).trans (by rw [vT];exact List.prefix_append _ _)
  . obtain rfl:k=m+1:=by omega
    exact List.prefix_refl _
theorem wZ(hi:i<es.length) (hk:k<=(bT es i).length):iR es i k <+: dT es:=by
 refine List.IsPrefix.trans ?_ (aHr es (i+1) es.length (by omega))
 show iZ es i++jB es i k <+: iZ es i++jB es i (bT es i).length
 exact List.prefix_append_right_inj _ |>.2 (aJi es i _ _ hk)
theorem aC6(hi:i<es.length) (hk:k<(bT es i).length):(i,k,eJ es i k)∈dT es:=
 (wZ hi (k:=k+1) (by omega)).subset (by rw [rK];simp)
def dQ(es:List En):List ByteArray:=(dT es).map (·.2.2)
theorem aG0(es:List En) (i k:Nat) (h:k<=(bT es i).length):(jB es i k).map (·.2.2)=(bT es i).take k:=by
 induction k with
 | zero=>simp [jB]
 | succ k ih=>
  rw [vT,List.map_append,ih (by omega),List.take_succ_eq_append_getElem (by omega)]
  simp [eJ,Yk (show k<(bT es i).length by omega)]
def iX(es:List En) (i:Nat):List ByteArray:=(iZ es i).map (·.2.2)
theorem vO(es:List En) (i:Nat):iX es (i+1)=iX es i++bT es i:=by
 show(iZ es i++jB es i _).map _=_
 rw [List.map_append,aG0 es i _ (Yh _),List.take_length];rfl
theorem aG1(es:List En):iX es es.length=dQ es:=rfl
theorem aAj(h:∀ j,j<i->(bT es j).length<=12):(iX es i).length<=i*12:=by
 induction i with
 | zero=>simp [iX,iZ]
 | succ i ih=>
  have h1:=ih fun j hj=>h j (by omega);have h2:=h i (by omega);rw [vO,Yn];omega
theorem aG2{x:ByteArray}(h:x∈iX es i):∃ j,j<i/\x∈bT es j:=by
 induction i with
 | zero=>simp [iX,iZ] at h
 | succ i ih=>
  rw [vO,Zn] at h;rcases h with h | h
  . obtain⟨j,hj,hx⟩:=ih h;exact⟨j,by omega,hx⟩
  . exact⟨i,by omega,h⟩
end
end
section
structure Dc where
 nm:ByteArray
 k:Int
 e:Int
 l:Int
 on:ByteArray
 ct:ByteArray
instance :Inhabited Dc:=⟨⟨⟨#[]⟩,0,0,0,⟨#[]⟩,⟨#[]⟩⟩⟩
structure Qn where
 ns:List ByteArray
 x:Ex
instance :Inhabited Qn:=⟨⟨[],default⟩⟩
structure Nd where
 nm:ByteArray
 ins:List Dc
 outs:List Dc
 vars:List Dc
 eqs:List Qn
instance :Inhabited Nd:=⟨⟨ByteArray.empty,[],[],[],[]⟩⟩
structure Pg where
 es:List En
 ns:List Nd
def Nd.all(n:Nd):List Dc:=n.ins++n.outs++n.vars
def bD(l:List Dc):List ByteArray:=l.map Dc.nm
def aSt:List UInt8:=[116,114,117,101]
def aRl:List UInt8:=[102,97,108,115,101]
def lJ(s:ByteArray):Bool:=dY s.data.toList || (s.data.toList==aSt) || (s.data.toList==aRl)
def gB(s:ByteArray):Bool:=s.data.toList==[]
def dZ(n:Nat) (rt:Nat->Int->Int->Int->Bool) (d:Dc):Bool:=
 aX d.nm.data.toList && rt n d.k d.e d.l && ((gB d.on && gB d.ct) || (aX d.on.data.toList && lJ d.ct))
def gK(rx:Ex->Bool) (q:Qn):Bool:=
 q.ns.all (fun s=>aX s.data.toList) && decide (0<q.ns.length) && rx q.x && (decide (q.ns.length=1) || q.x.k==13)
def jS(n:Nd):Bool:=(n.ins++n.outs).all fun d=>gB d.on
def gH(es:Nat) (rt:Nat->Int->Int->Int->Bool) (rx:Ex->Bool) (n:Nd):Bool:=
 n.all.all (dZ es rt) && jS n && n.eqs.all (gK rx) && aX n.nm.data.toList && decide (0<n.outs.length)
def iH(n:Nd):Bool:=decide (6<n.ins.length) || decide (6<n.outs.length) || decide (12<n.vars.length) || decide (18<n.eqs.length)
def bE{α:Type}(f:α->Bool):List α->Nat->Int
 | [],_=>-1
 | a::l,i=>if f a then(i:Int) else bE f l (i+1)
def cQ(p:Pg) (s:ByteArray):Int:=bE (fun n=>n.nm.data.toList==s.data.toList) p.ns 0
def aW(n:Nd) (s:ByteArray):Option Dc:=n.all.find? fun d=>d.nm.data.toList==s.data.toList
theorem oB(n:Nd):n.all.length=n.ins.length+n.outs.length+n.vars.length:=by simp [Nd.all];omega
end
section
open Go.RowKit
def aQ{α:Type} [Inhabited α] (k:Nat) (At:World->Nat->Nat->α->Prop) (w:World) (A:Option Addr) (n:Nat) (l:List α):Prop:=
 l.length=n/\n<=9223372036854775807/\(0<n->∃ b Aa,A=some ⟨b,Aa,none⟩/\b<w.heap.size/\∀ i,i<n->At w b (Aa+i*k) (l[i]?.getD default))
def qK{α:Type}(At:World->Nat->Nat->α->Prop):Prop:=
 ∀ {w w':World}{b o:Nat}{x:α},At w b o x->b<w.heap.size->w.heap.size<=w'.heap.size->(∀ p:Addr,p.block<w.heap.size->w'.cell? p=w.cell? p)->At w' b o x
def kU(d:Dc):List Value:=[.string d.nm,.int .i64 d.k,.int .i64 d.e,.int .i64 d.l,.string d.on,.string d.ct]
def bC(d:Dc):Array Value:=#[.string d.nm,.int .i64 d.k,.int .i64 d.e,.int .i64 d.l,.string d.on,.string d.ct]
def sN(w:World) (b o:Nat) (d:Dc):Prop:=w.rangeAt b o (kU d)
def cH(w:World) (A:Option Addr) (n:Nat) (l:List Dc):Prop:=aQ 6 sN w A n l
def pQ(w:World) (b o:Nat) (q:Qn):Prop:=
 ∃ A c A' ca B' cb,w.cell? ⟨b,o,none⟩=some (.slice A q.ns.length c)/\aN w A q.ns.length q.ns/\w.rangeAt b (o+1) (gQ q.x A' ca B' cb)/\aJ w q.x A' B'
def gR(w:World) (A:Option Addr) (n:Nat) (l:List Qn):Prop:=aQ 7 pQ w A n l
def bL(n:Nd) (A1:Option Addr) (c1:Nat) (A2:Option Addr) (c2:Nat) (A3:Option Addr) (c3:Nat) (A4:Option Addr) (c4:Nat):Array Value:=
 #[.string n.nm,.slice A1 n.ins.length c1,.slice A2 n.outs.length c2,.slice A3 n.vars.length c3,.slice A4 n.eqs.length c4]
def sR(n:Nd) (A1:Option Addr) (c1:Nat) (A2:Option Addr) (c2:Nat) (A3:Option Addr) (c3:Nat) (A4:Option Addr) (c4:Nat):List Value:=
 [.string n.nm,.slice A1 n.ins.length c1,.slice A2 n.outs.length c2,.slice A3 n.vars.length c3,.slice A4 n.eqs.length c4]
def cJ(w:World) (n:Nd) (A1 A2 A3 A4:Option Addr):Prop:=cH w A1 n.ins.length n.ins/\cH w A2 n.outs.length n.outs/\cH w A3 n.vars.length n.vars/\gR w A4 n.eqs.length n.eqs
def oO(w:World) (b o:Nat) (n:Nd):Prop:=
 ∃ A1 c1 A2 c2 A3 c3 A4 c4,w.rangeAt b o (sR n A1 c1 A2 c2 A3 c3 A4 c4)/\cJ w n A1 A2 A3 A4
def eW(w:World) (A:Option Addr) (n:Nat) (l:List Nd):Prop:=aQ 5 oO w A n l
section
variable {w w':World}{A B A1 A2 A3 A4:Option Addr}{n:Nat}
theorem aQ.len{α:Type} [Inhabited α] {k:Nat}{At:World->Nat->Nat->α->Prop}{l:List α}(h:aQ k At w A n l):l.length=n:=h.1
theorem aQ.max{α:Type} [Inhabited α] {k:Nat}{At:World->Nat->Nat->α->Prop}{l:List α}(h:aQ k At w A n l):n<=9223372036854775807:=h.2.1
theorem aQ.at_{α:Type} [Inhabited α] {k:Nat}{At:World->Nat->Nat->α->Prop}{l:List α}(h:aQ k At w A n l) (hn:0<n):
 ∃ b Aa,A=some ⟨b,Aa,none⟩/\b<w.heap.size/\∀ i,i<n->At w b (Aa+i*k) (l[i]?.getD default):=h.2.2 hn
theorem aQ.nil_{α:Type} [Inhabited α] (k:Nat) (At:World->Nat->Nat->α->Prop) (w:World):aQ k At w none 0 []:=⟨rfl,by omega,by omega⟩
theorem aQ.keep{α:Type} [Inhabited α] {k:Nat}{At:World->Nat->Nat->α->Prop}{l:List α}(Ab:qK At) (h:aQ k At w A n l) (hs:w.heap.size<=w'.heap.size) (hk:∀ p:Addr,p.block<w.heap.size->w'.cell? p=w.cell? p):aQ k At w' A n l:=
 ⟨h.1,h.2.1,fun hn=>by
  obtain⟨b,Aa,e,hb,hc⟩:=h.2.2 hn;exact⟨b,Aa,e,by omega,fun i hi=>Ab (hc i hi) hb hs hk⟩⟩
theorem aMb:qK sN:=fun h hb hs hk=>jH h hb hk
theorem aMc:qK pQ:=fun h hb hs hk=>by
 obtain⟨A,c,A',ca,B',cb,h1,h2,h3,h4⟩:=h;exact⟨A,c,A',ca,B',cb,(hk _ hb).trans h1,h2.keep hs hk,jH h3 hb hk,h4.keep hs hk⟩
theorem cH.keep{l:List Dc}(h:cH w A n l) (hs:w.heap.size<=w'.heap.size) (hk:∀ p:Addr,p.block<w.heap.size->w'.cell? p=w.cell? p):cH w' A n l:=aQ.keep aMb h hs hk
theorem gR.keep{l:List Qn}(h:gR w A n l) (hs:w.heap.size<=w'.heap.size) (hk:∀ p:Addr,p.block<w.heap.size->w'.cell? p=w.cell? p):gR w' A n l:=aQ.keep aMc h hs hk
theorem cJ.keep{x:Nd}(h:cJ w x A1 A2 A3 A4) (hs:w.heap.size<=w'.heap.size) (hk:∀ p:Addr,p.block<w.heap.size->w'.cell? p=w.cell? p):cJ w' x A1 A2 A3 A4:=
 ⟨h.1.keep hs hk,h.2.1.keep hs hk,h.2.2.1.keep hs hk,h.2.2.2.keep hs hk⟩
theorem aMd:qK oO:=fun h hb hs hk=>by
 obtain⟨A1,c1,A2,c2,A3,c3,A4,c4,h1,h2⟩:=h;exact⟨A1,c1,A2,c2,A3,c3,A4,c4,jH h1 hb hk,h2.keep hs hk⟩
theorem eW.keep{l:List Nd}(h:eW w A n l) (hs:w.heap.size<=w'.heap.size) (hk:∀ p:Addr,p.block<w.heap.size->w'.cell? p=w.cell? p):eW w' A n l:=aQ.keep aMd h hs hk
theorem cH.below{l:List Dc}(h:cH w A n l) (hb:Below w.heap.size w w'):cH w' A n l:=h.keep hb.size fun _ hp=>hb.cell hp
theorem gR.below{l:List Qn}(h:gR w A n l) (hb:Below w.heap.size w w'):gR w' A n l:=h.keep hb.size fun _ hp=>hb.cell hp
theorem cJ.below{x:Nd}(h:cJ w x A1 A2 A3 A4) (hb:Below w.heap.size w w'):cJ w' x A1 A2 A3 A4:=h.keep hb.size fun _ hp=>hb.cell hp
theorem eW.below{l:List Nd}(h:eW w A n l) (hb:Below w.heap.size w w'):eW w' A n l:=h.keep hb.size fun _ hp=>hb.cell hp
theorem sN.six{b o:Nat}{d:Dc}(h:sN w b o d):
 w.cell? ⟨b,o,none⟩=some (.string d.nm)/\w.cell? ⟨b,o+1,none⟩=some (.int .i64 d.k)/\w.cell? ⟨b,o+2,none⟩=some (.int .i64 d.e)/\w.cell? ⟨b,o+3,none⟩=some (.int .i64 d.l) /\
  w.cell? ⟨b,o+4,none⟩=some (.string d.on)/\w.cell? ⟨b,o+5,none⟩=some (.string d.ct):=⟨h 0 _ rfl,h 1 _ rfl,h 2 _ rfl,h 3 _ rfl,h 4 _ rfl,h 5 _ rfl⟩
theorem tS{b o:Nat}{x:Nd}{c1 c2 c3 c4:Nat}(h:w.rangeAt b o (sR x A1 c1 A2 c2 A3 c3 A4 c4)):
 w.cell? ⟨b,o,none⟩=some (.string x.nm)/\w.cell? ⟨b,o+1,none⟩=some (.slice A1 x.ins.length c1)/\w.cell? ⟨b,o+2,none⟩=some (.slice A2 x.outs.length c2)/\w.cell? ⟨b,o+3,none⟩=some (.slice A3 x.vars.length c3) /\
  w.cell? ⟨b,o+4,none⟩=some (.slice A4 x.eqs.length c4):=⟨h 0 _ rfl,h 1 _ rfl,h 2 _ rfl,h 3 _ rfl,h 4 _ rfl⟩
end
theorem aMe:Tryz.prog.cellsOf 58=6:=by kernel_rfl
theorem aMf:Tryz.prog.cellsOf 56=7:=by kernel_rfl
theorem aMg:Tryz.prog.cellsOf 53=5:=by kernel_rfl
end
section
open Go.RowKit Go.Shelf
attribute [local go_sem] Oper.semAt_some
theorem zP{W W':World}(h:Below W.heap.size W W'):W.grownBy W' none:=⟨h.os,h.tape,h.output,h.size,fun i hi _=>h.block i hi⟩
def pL(x:Pl):Array Value:=#[.agg #[.int .i64 (x.1:Int),.int .i64 (x.2.1:Int)],.string x.2.2]
theorem xV(A:Option Addr) (n c:Nat) (w:World):
 Calls Tryz.prog 166 #[.slice A n c] w fun e w'=>e=.returned (.func (.func 178) #[] #[.pointer (some ⟨w.heap.size,0,none⟩)])/\w'=w.alloc (.cells #[.slice A n c] 22):=by
 go_enter Tryz.func166,Tryz.ntmps166
 go_wp2
 go_ret
 exact⟨rfl,rfl⟩
theorem aB5(n:Nat) (hn:1<=n) (l Bs:Nat) (w:World) (A:Option Addr) (Ab Ay:Nat) (es:List En) (hE:bV w A Ab es) (J Jx:List Pl->World->Prop) (W:World) (Ap:Below w.heap.size w W)
 (hJ:AbidesFrom W.heap.size J)
 (hY:∀ Aa x W,J Aa W->Aa++[x] <+: dT es->YieldAt Fence.wide (n-1) Tryz.prog l (pL x) W fun e W' =>
  (e=.returned (.bool true)/\J (Aa++[x]) W'/\Below w.heap.size W W')\/(e=.returned (.bool false)/\Jx (Aa++[x]) W'))
 (Bb:W.cell? ⟨Bs,0,none⟩=some (.slice A Ab Ay)) (h0:J [] W):
 CallsIn Fence.wide n Tryz.prog 178 #[.func (.yield l) #[] #[],.pointer (some ⟨Bs,0,none⟩)] W fun e W'=>(∃ v,e=.returned v) /\
  ((∃ ys,ys=dT es/\J ys W')\/(∃ Aa,Aa <+: dT es/\Jx Aa W')):=by
 have Ak:=hE.len;have Be:=hE.max;refine callsIn_of_wp Tryz.func178 rfl trivial ?_ rfl;simp only [Tryz.ntmps178,List.size_toArray,Yo,List.length_nil,Nat.reduceAdd,Nat.reduceSub,Array.replicate_succ,Array.replicate_zero,List.push_toArray,List.append_toArray,List.nil_append,Yv]
 gi_wp2
 gi_loopw [9] (fun i wr=>∃ k:Nat,k<=Ab/\i=.int .i64 k/\J (iR es k 0) wr/\Below w.heap.size w wr)
  (fun i _=>Ab-(intOf i).toNat)
 case atStart=>exact⟨0,Yq _,rfl,by rw [aB3];exact h0,Ap⟩
 case round=>
  obtain⟨k,hk,rfl,Ao,Af⟩:=hrel
  by_cases An:k<Ab
  . obtain⟨b,Ae,rfl,hb,hc⟩:=hE.at_ An;obtain⟨Az,A',n',c',Au,Ag⟩:=hc k An;have Bd:wr.cell? ⟨b,Ae+k*2,none⟩=some (.string (eK es k)):=(Af.cell (p:=⟨b,Ae+k*2,none⟩) hb).trans Az;have Bf:wr.cell? ⟨b,Ae+k*2+1,none⟩=some (.slice A' n' c'):=(Af.cell (p:=⟨b,Ae+k*2+1,none⟩) hb).trans Au;have Aq:k<es.length:=by omega
    have Ax:=Ag.len;have Bc:=Ag.max;have As:∀ W',Below wr.heap.size wr W'->J (iR es k 0) W':=fun W' h=>hJ _ _ _ none Ao (zP h) (fun r e=>by cases e)
    gi_wp2
    gi_loopw [17] (fun i wr=>∃ m:Nat,m<=n'/\i=.int .i64 m/\J (iR es k m) wr/\Below w.heap.size w wr)
     (fun i _=>n' - (intOf i).toNat)
    case atStart=>exact⟨0,Yq _,rfl,As _ ((Yg _ _).alloc (Yh _) _),Af.alloc Af.size _⟩
    case round=>
     obtain⟨m,hm,rfl,Am,Ah⟩:=hrel
     by_cases Ac:m<n'
     . obtain⟨b2,Al,rfl,Ar,Aw⟩:=Ag.at_ Ac;have Aj:=(Ah.cell (p:=⟨b2,Al+m,none⟩) Ar).trans (Aw m Ac);have Ad:=wZ (es:=es) Aq (k:=m+1) (by omega);obtain⟨fn,tmps,assign,body,hy,hR⟩:=hY _ (k,m,eJ es k m) _ Am (by rw [<- rK];exact Ad);rw [<- rK] at hR;unfold eJ at hy;simp only [pL] at hy;generalize hx:(bT es k)[m]?.getD ByteArray.empty=x at Aj hy
       gi_wp2
       refine hR.mono ?_;rintro e W3 (⟨rfl,Ba,Av⟩|⟨rfl,Ai⟩)
       . gi_wp2
         go_roundw
         case rel=>exact⟨m+1,by omega,by go_num,Ba,Ah.trans Av⟩
         case measure=>simp [intOf];omega
       . gi_wp2
         refine bodyPost_ret (results_none rfl _ _ _) rfl ?_;exact⟨⟨_,rfl⟩,.inr ⟨_,Ad,Ai⟩⟩
     . obtain rfl:m=n':=by omega
       gi_wp2
       go_roundw
       case rel=>exact⟨k+1,by omega,by go_num,by rw [<- aB4,Ax];exact Am,Ah⟩
       case measure=>simp [intOf];omega
  . obtain rfl:k=Ab:=by omega
    gi_wp2
    go_end0
    exact⟨⟨_,rfl⟩,.inl ⟨_,rfl,by rw [<- aC5,Ak];exact Ao⟩⟩
theorem zS(n:Nat) (hn:1<=n) (Bs:Nat) (w0:World) (A:Option Addr) (Ab Ac:Nat) (es:List En) (hE:bV w0 A Ab es) (w:World) (hb:Below w0.heap.size w0 w) (Ad:Bs<w.heap.size)
 (hc:w.cell? ⟨Bs,0,none⟩=some (.slice A Ab Ac)):
 SeqStopsK Fence.wide n Tryz.prog 178 #[.pointer (some ⟨Bs,0,none⟩)] pL (Below w0.heap.size) (fun ys=>ys=dT es) (fun Aa=>Aa <+: dT es) (dT es).length w:=fun l J Jx W hW hJ _ hY h0=>
 aB5 n hn l Bs w0 A Ab Ac es hE J Jx W (hb.trans (hW.mono hb.size)) hJ (fun Aa x W1 h1 h2=>hY Aa x W1 h1 (by have:=h2.length_le;simp at this;omega)) ((hW.cell (p:=⟨Bs,0,none⟩) Ad).trans hc) h0
abbrev zM (es:List En):={ x:Pl // x∈dT es }
theorem aGh(n:Nat) (hn:1<=n) (Bs:Nat) (w0:World) (A:Option Addr) (Ab Ac:Nat) (es:List En) (hE:bV w0 A Ab es) (w:World) (hb:Below w0.heap.size w0 w) (Ad:Bs<w.heap.size)
 (hc:w.cell? ⟨Bs,0,none⟩=some (.slice A Ab Ac)):
 SeqStopsK Fence.wide n Tryz.prog 178 #[.pointer (some ⟨Bs,0,none⟩)] (fun x:zM es=>pL x.1) (Below w0.heap.size) (fun ys=>ys.map (·.1)=dT es) (fun Aa=>Aa.map (·.1) <+: dT es) (dT es).length w:=fun l J Jx W hW hJ _ hY h0=>by
 refine(aB5 n hn l Bs w0 A Ab Ac es hE (fun Aa W=>∃ ps:List (zM es),ps.map (·.1)=Aa/\J ps W) (fun Aa W=>∃ ps:List (zM es),ps.map (·.1)=Aa/\Jx ps W) W (hb.trans (hW.mono hb.size))
  (fun s X Y row hs hg hr=>by obtain⟨ps,e,h⟩:=hs;exact⟨ps,e,hJ ps X Y row h hg hr⟩) (fun Aa x W1 h1 h2=>?_) ((hW.cell (p:=⟨Bs,0,none⟩) Ad).trans hc) ⟨[],rfl,h0⟩).mono ?_
 . obtain⟨ps,rfl,h1⟩:=h1;have hx:x∈dT es:=h2.subset (by simp);obtain⟨fn,tmps,assign,body,hy,hR⟩:=hY ps ⟨x,hx⟩ W1 h1 (by have:=h2.length_le;simp at this;omega);refine⟨fn,tmps,assign,body,hy,hR.mono ?_⟩;rintro e W' (⟨rfl,hj,hk⟩|⟨rfl,hj⟩)
   . exact .inl ⟨rfl,⟨_,by simp,hj⟩,hk⟩
   . exact .inr ⟨rfl,⟨_,by simp,hj⟩⟩
 . rintro e W' ⟨he,⟨ys,rfl,ps,e1,hj⟩|⟨Aa,hp,ps,rfl,hj⟩⟩
   . exact⟨he,.inl ⟨ps,e1,hj⟩⟩
   . exact⟨he,.inr ⟨ps,hp,hj⟩⟩
def jX(W:World) (B:Nat) (t:TypeId) (u v:Value):Prop:=W.heap[B]?=some (.cells #[u,v] t (0,0))
section
variable {W W':World}{B:Nat}{t:TypeId}{u v:Value}
theorem jX.lt(h:jX W B t u v):B<W.heap.size:=(Yl.1 h).1
theorem jX.c0(h:jX W B t u v):W.cell? ⟨B,0,none⟩=some u:=by simp [World.cell?,show W.heap[B]?=_ from h]
theorem jX.c1(h:jX W B t u v):W.cell? ⟨B,1,none⟩=some v:=by simp [World.cell?,show W.heap[B]?=_ from h]
theorem jX.new(W:World) (t:TypeId) (u v:Value):jX (W.alloc (.cells #[u,v] t)) W.heap.size t u v:=World.alloc_heap_new W _
theorem aMh{β:Type}(B:Nat) (t:TypeId) (u v:Value):Own (fun(_:β) W=>jX W B t u v):=fun s X Y row hs hg Aa=>
 (hg.block B (jX.lt hs) (fun e'=>by obtain⟨o,ho,hc⟩:=Aa B e'.symm;rw [show X.heap[B]?=_ from hs] at ho;cases ho;cases hc)).trans hs
end
theorem rG{W W':World}{B:Nat}{t:TypeId}{v:Value}(h:Boxed W B t v){n:Nat}(hb:Below n W W') (hn:B<n):Boxed W' B t v:=(hb.block B hn).trans h
theorem zQ{B:Nat}{W W':World}(h:Below W.heap.size W W'):KeepsFrom B W W':=KeepsFrom.of_grownBy (zP h) (fun j e=>by cases e)
end
section
open Go.RowKit
def aK(k e l:Int):Value:=.agg #[.int .i64 k,.int .i64 e,.int .i64 l]
def bH(n:Nat) (k e l:Int):Bool:=
 decide (0<=l/\l<=8) && (if k=1\/k=2 then decide (e=0) else decide (k=3/\0<=e/\e<n))
section
variable {n:Nat}{k e l:Int}
theorem tH(h:l<0\/8<l):bH n k e l=false:=by
 simp only [bH,Zy (show ¬ (0<=l/\l<=8) by omega),Bool.false_and]
theorem vU(h:0<=l/\l<=8) (hk:k=1\/k=2):bH n k e l=decide (e=0):=by
 simp only [bH,Zx h,Bool.true_and,if_pos hk]
theorem aA1(h:0<=l/\l<=8) (hk:k=3):bH n k e l=decide (0<=e/\e<n):=by
 subst hk
 simp [bH,Zx h]
theorem vV(hk:¬ (k=1\/k=2)) (h3:k≠3):bH n k e l=false:=by
 simp [bH,if_neg hk,h3]
end
theorem aHs(A:Option Addr) (n c:Nat) (k e l:Int) (w:World) (hn:n<=9223372036854775807):
 Calls Tryz.prog 50 #[.slice A n c,aK k e l] w fun r w'=>r=.returned (.bool (bH n k e l))/\Below w.heap.size w w':=by
 unfold aK;have HB:=Hd ((Yg w.heap.size w).alloc (Yh _) (.cells #[.int .i64 k,.int .i64 e,.int .i64 l] 38))
 by_cases h1:l<0
 . have HE:=Hd (tH (n:=n) (k:=k) (e:=e) (.inl h1));have d1:decide (l<0)=true:=Zx h1
   by_cases k0:k<1
   . go_enter Tryz.func50,Tryz.ntmps50
     go_wp2_with fail
     go_ret
     exact⟨aF HE.o.symm,HB.o⟩
   . by_cases k4:3<k
     all_goals
      go_enter Tryz.func50,Tryz.ntmps50
      go_wp2_with fail
      go_ret
      exact⟨aF HE.o.symm,HB.o⟩
 . by_cases h2:8<l
   . have HE:=Hd (tH (n:=n) (k:=k) (e:=e) (.inr h2))
     by_cases k0:k<1
     . go_enter Tryz.func50,Tryz.ntmps50
       go_wp2_with fail
       go_ret
       exact⟨aF HE.o.symm,HB.o⟩
     . by_cases k4:3<k
       all_goals
        go_enter Tryz.func50,Tryz.ntmps50
        go_wp2_with fail
        go_ret
        exact⟨aF HE.o.symm,HB.o⟩
   . have hl:0<=l/\l<=8:=by omega
     by_cases k0:k<1
     . have HE:=Hd (vV (n:=n) (e:=e) (l:=l) (show ¬ (k=1\/k=2) by omega) (by omega))
       go_enter Tryz.func50,Tryz.ntmps50
       go_wp2_with fail
       go_ret
       exact⟨aF HE.o.symm,HB.o⟩
     . by_cases k4:3<k
       . have HE:=Hd (vV (n:=n) (e:=e) (l:=l) (show ¬ (k=1\/k=2) by omega) (by omega))
         go_enter Tryz.func50,Tryz.ntmps50
         go_wp2_with fail
         go_ret
         exact⟨aF HE.o.symm,HB.o⟩
       . by_cases k3:k=3
         . have HE:=Hd (aA1 (n:=n) (e:=e) hl k3);subst k3
           by_cases e0:0<=e
           all_goals
            go_enter Tryz.func50,Tryz.ntmps50
            go_wp2_with fail
            go_ret
            exact⟨aF (by rw [HE.o,Bool.eq_iff_iff];simp;omega),HB.o⟩
         . have HE:=Hd (vU (n:=n) (e:=e) hl (show k=1\/k=2 by omega));have b3:(k==3)=false:=by simpa using k3
           go_enter Tryz.func50,Tryz.ntmps50
           go_wp2_with fail
           go_ret
           exact⟨aF (by rw [HE.o,Bool.eq_iff_iff];simp),HB.o⟩
end
section
open Go.RowKit Go.Shelf
attribute [local go_sem] Oper.semAt_some
def mM(Aa:ByteArray) (p:Pl):Bool:=p.2.2.toList==Aa.toList
def fN(es:List En) (Aa:ByteArray):Option Pl:=(dT es).find? (mM Aa)
def jT(o:Option Pl):Value:=.tuple #[.int .i64 (((o.map (·.1)).getD 0:Nat):Int),.int .i64 (((o.map (·.2.1)).getD 0:Nat):Int),.bool o.isSome]
theorem aA2{es:List En}{Aa:ByteArray}(h:∀ p∈dT es,mM Aa p=false):fN es Aa=none:=by
 unfold fN;rw [List.find?_eq_none];intro p hp;rw [h p hp]
 simp
theorem aA3{es:List En}{Aa:ByteArray}{ini:List Pl}{Ab:Pl}(hp:ini++[Ab] <+: dT es) (h:∀ p∈ini,mM Aa p=false) (hl:mM Aa Ab=true):fN es Aa=some Ab:=by
 obtain⟨r,hr⟩:=hp;unfold fN;rw [<- hr,List.append_assoc,List.find?_append,List.find?_eq_none.2 (fun p hp=>by rw [h p hp];simp)]
 simp [hl]
theorem aB6{W:World}{s:Nat}{t1 t2 t3:TypeId}{v1 v2 v3:Value}(u1 u2 u3:Value) (c1:Boxed W (s+1) t1 v1) (c2:Boxed W (s+1+1) t2 v2) (c3:Boxed W (s+1+1+1) t3 v3):
 ∃ W',(((W.setCell ⟨s+1,0,none⟩ u1).setCell ⟨s+1+1,0,none⟩ u2).setCell ⟨s+1+1+1,0,none⟩ u3)=W'/\Boxed W' (s+1) t1 u1/\Boxed W' (s+1+1) t2 u2/\Boxed W' (s+1+1+1) t3 u3/\KeepsOthers W W'/\Below s W W' :=
 ⟨_,rfl,((c1.set u1).other (by omega) _).other (by omega) _,((c2.other (by omega) u1).set u2).other (by omega) _,((c3.other (by omega) u1).other (by omega) u2).set u3,
  ((KeepsOthers.setCell _ _ _).trans (KeepsOthers.setCell _ _ _)).trans (KeepsOthers.setCell _ _ _),
  (((Yg s W).setCell (p:=⟨s+1,0,none⟩) (by show s<=s+1;omega) _).setCell (p:=⟨s+1+1,0,none⟩) (by show s<=s+1+1;omega) _).setCell (p:=⟨s+1+1+1,0,none⟩) (by show s<=s+1+1+1;omega) _⟩
theorem aJj(n:Nat) (hn:6<=n) (A:Option Addr) (Ac Ad:Nat) (es:List En) (Aa:ByteArray) (w:World) (hE:bV w A Ac es):
 CallsIn Fence.wide n Tryz.prog 152 #[.slice A Ac Ad,.string Aa] w fun e w'=>e=.returned (jT (fN es Aa))/\Below w.heap.size w w':=by
 have h1:1<=n:=by omega
 refine callsIn_of_wp_marks Tryz.func152 rfl trivial ?_ rfl;simp only [Tryz.ntmps152,List.size_toArray,Yo,List.length_nil,Nat.reduceAdd,Nat.reduceSub,Array.replicate_succ,Array.replicate_zero,List.push_toArray,List.append_toArray,List.nil_append,Yv]
 gi_wp2_with (refine⟨trivial,?_⟩;gi_at_call 166;refine(callsIn_wide.2 (xV _ _ _ _)).mono ?_;rintro e w' ⟨rfl,rfl⟩)
 have bN:=((((Boxed.new w 9 (.string Aa)).alloc (.cells #[.int .i64 0] 3)).alloc (.cells #[.int .i64 0] 3)).alloc (.cells #[.bool false] 4)).alloc (.cells #[.slice A Ac Ad] 22);have b1:=(((Boxed.new (w.alloc (.cells #[.string Aa] 9)) 3 (.int .i64 0)).alloc (.cells #[.int .i64 0] 3)).alloc (.cells #[.bool false] 4)).alloc (.cells #[.slice A Ac Ad] 22);have b2:=((Boxed.new ((w.alloc (.cells #[.string Aa] 9)).alloc (.cells #[.int .i64 0] 3)) 3 (.int .i64 0)).alloc (.cells #[.bool false] 4)).alloc (.cells #[.slice A Ac Ad] 22);have b3:=(Boxed.new (((w.alloc (.cells #[.string Aa] 9)).alloc (.cells #[.int .i64 0] 3)).alloc (.cells #[.int .i64 0] 3)) 4 (.bool false)).alloc (.cells #[.slice A Ac Ad] 22);have b4:=Boxed.new ((((w.alloc (.cells #[.string Aa] 9)).alloc (.cells #[.int .i64 0] 3)).alloc (.cells #[.int .i64 0] 3)).alloc (.cells #[.bool false] 4)) 22 (.slice A Ac Ad);simp only [World.size_alloc] at b1 b2 b3 b4
 have Ag:Below w.heap.size w (((((w.alloc (.cells #[.string Aa] 9)).alloc (.cells #[.int .i64 0] 3)).alloc (.cells #[.int .i64 0] 3)).alloc (.cells #[.bool false] 4)).alloc (.cells #[.slice A Ac Ad] 22)):=
  (((((Yg _ w).alloc (Yh _) _).alloc (by simp) _).alloc (by simp;omega) _).alloc (by simp;omega) _).alloc (by simp;omega) _
 have Al:(((((w.alloc (.cells #[.string Aa] 9)).alloc (.cells #[.int .i64 0] 3)).alloc (.cells #[.int .i64 0] 3)).alloc (.cells #[.bool false] 4)).alloc (.cells #[.slice A Ac Ad] 22)).heap.size=w.heap.size+5:=by simp
 obtain⟨W0,Ai⟩:∃ W0,(((((w.alloc (.cells #[.string Aa] 9)).alloc (.cells #[.int .i64 0] 3)).alloc (.cells #[.int .i64 0] 3)).alloc (.cells #[.bool false] 4)).alloc (.cells #[.slice A Ac Ad] 22))=W0:=⟨_,rfl⟩;rw [Ai] at bN b1 b2 b3 b4 Ag Al ⊢;clear Ai
 refine wpIn_rangeFunc_ownH rfl h1 (gf:=178) (lb:=#[.pointer (some ⟨w.heap.size+1+1+1+1,0,none⟩)]) rfl trivial (enters_of Tryz.func178 (by kernel_rfl) rfl)
  (zS (n-1) (by omega) (w.heap.size+1+1+1+1) w A Ac Ad es hE W0 Ag (by omega) b4.cell) belowK_t (belowK_b (by omega)) (Yg _ _) (fun _=>rfl)
  (fun Ae W=>((Boxed W w.heap.size 9 (.string Aa)/\Boxed W (w.heap.size+1) 3 (.int .i64 0)/\Boxed W (w.heap.size+1+1) 3 (.int .i64 0)/\Boxed W (w.heap.size+1+1+1) 4 (.bool false))/\∀ p∈Ae,mM Aa p=false)/\Below w.heap.size w W)
  (fun c Ae W=>((c=.ret/\∃ ini Ab,Ae=ini++[Ab]/\(∀ p∈ini,mM Aa p=false)/\mM Aa Ab=true/\Boxed W (w.heap.size+1) 3 (.int .i64 (Ab.1:Int))/\Boxed W (w.heap.size+1+1) 3 (.int .i64 (Ab.2.1:Int))/\Boxed W (w.heap.size+1+1+1) 4 (.bool true)))/\Below w.heap.size w W)
  (OwnFrom.and (OwnFrom.and (OwnFrom.and (Own.from (boxed_own _ _ (fun _=>_)) _) (OwnFrom.and (Own.from (boxed_own _ _ (fun _=>_)) _) (OwnFrom.and (Own.from (boxed_own _ _ (fun _=>_)) _) (Own.from (boxed_own _ _ (fun _=>_)) _)))) (ownFrom_pure _ _)) (ownFrom_below (Yh _) (by omega)))
  (fun c=>OwnFrom.and (Own.from (fun s X Y row hs hg hr=>by
   obtain⟨hc,ini,Ab,e1,e2,e3,e4,e5,e6⟩:=hs;exact⟨hc,ini,Ab,e1,e2,e3,boxed_own _ _ (fun _=>_) s X Y row e4 hg hr,boxed_own _ _ (fun _=>_) s X Y row e5 hg hr,boxed_own _ _ (fun _=>_) s X Y row e6 hg hr⟩) _) (ownFrom_below (Yh _) (by omega)))
  ⟨⟨⟨bN,b1,b2,b3⟩,by simp⟩,Ag⟩
  (fun x a' W=>∃ Bx,w.heap.size+4<=Bx/\jX W Bx 174 (.int .i64 (x.1:Int)) (.int .i64 (x.2.1:Int))/\a'={ tmps:=#[.slice A Ac Ad,.string Aa,undef,.pointer (some ⟨w.heap.size,0,none⟩),.pointer (some ⟨w.heap.size+1,0,none⟩),.pointer (some ⟨w.heap.size+1+1,0,none⟩),.pointer (some ⟨w.heap.size+1+1+1,0,none⟩),.pointer (some ⟨Bx,0,none⟩),.string x.2.2,.slice A Ac Ad,.func (.func 178) #[] #[.pointer (some ⟨w.heap.size+1+1+1+1,0,none⟩)],.agg #[.int .i64 (x.1:Int),.int .i64 (x.2.1:Int)],.string x.2.2,undef,undef,undef,undef,undef,undef,undef],defers:=[] })
  (fun x a'=>fun s X Y row hs hg hr=>by
   obtain⟨Bx,h1,h2,h3⟩:=hs;exact⟨Bx,h1,aMh _ _ _ _ s X Y row h2 hg (fun r e=>(hr r e).2),h3⟩)
  ?assign ?body ?done ?stop
 case assign=>
  rintro l Ae x W K ⟨⟨⟨cN,c1,c2,c3⟩,hp⟩,hB⟩ hK;have e1:=c1.cell;have e2:=c2.cell;have e3:=c3.cell;have f1:=c1.frozen;have f2:=c2.frozen;have f3:=c3.frozen;simp only [pL]
  gi_wp2
  exact hK _ _ ((KeepsOthers.alloc _ _).from _) ((Yg _ W).alloc hB.size _) ⟨⟨⟨cN.alloc _,c1.alloc _,c2.alloc _,c3.alloc _⟩,hp⟩,hB.alloc hB.size _⟩ ⟨W.heap.size,by have:=c3.lt;omega,jX.new W _ _ _,rfl⟩
 case body=>
  rintro l Ae x a' W hl hr ⟨⟨⟨cN,c1,c2,c3⟩,hp⟩,hB⟩ ⟨Bx,An,bX,rfl⟩ Am;have dN:=cN.cell;have d0:=bX.c0;have d1:=bX.c1;have e1:=c1.cell;have e2:=c2.cell;have e3:=c3.cell;have f1:=c1.frozen;have f2:=c2.frozen;have f3:=c3.frozen
  by_cases hx:(x.2.2.toList==Aa.toList)=true
  . have Ao:Tryz.prog.follows .mixedOrders=true:=by kernel_rfl
    gi_wp2
    gi_region_o
    all_goals gi_wp2
    all_goals
     obtain⟨W',Af,g1,g2,g3,gk,gb⟩:=aB6 (.int .i64 (x.1:Int)) (.int .i64 (x.2.1:Int)) (.bool true) c1 c2 c3;rw [Af];exact⟨(gk.trans (KeepsOthers.drew _)).from _,⟨rfl,Ae,x,rfl,hp,hx,g1,g2,g3⟩,(hB.trans gb).drew⟩
  . have hx:(x.2.2.toList==Aa.toList)=false:=by simpa using hx
    gi_wp2
    exact⟨KeepsFrom.refl _ _,Yg _ _,⟨⟨cN,c1,c2,c3⟩,fun p Ak=>(Zn.1 Ak).elim (hp p) (fun e=>by simp at e;subst e;exact hx)⟩,hB⟩
 case done=>
  rintro D ys W hD rfl ⟨⟨⟨cN,c1,c2,c3⟩,hp⟩,hB⟩ hK;have e1:=c1.cell;have e2:=c2.cell;have e3:=c3.cell;have f1:=c1.frozen;have f2:=c2.frozen;have f3:=c3.frozen
  gi_wp2
  obtain⟨W',Af,g1,g2,g3,gk,gb⟩:=aB6 (.int .i64 0) (.int .i64 0) (.bool false) c1 c2 c3;rw [Af];have Aj:=gk.same D _ hK rfl;have k1:=(g1.kept (grownBy_putObj' _ D (.deferred none)) (fun e=>by cases e;omega)).cell;have k2:=(g2.kept (grownBy_putObj' _ D (.deferred none)) (fun e=>by cases e;omega)).cell;have k3:=(g3.kept (grownBy_putObj' _ D (.deferred none)) (fun e=>by cases e;omega)).cell;refine⟨by simp,.inl ⟨_,_,rfl,run_takeDeferred Aj,?_⟩⟩;refine⟨jT none,?_,by rw [aA2 hp],(hB.trans gb).trans (belowK_b (w:=w) (Yh _) _ D _ _ (by omega) Aj rfl rfl)⟩
  simp [results,Tryz.f152,go_sem,k1,k2,k3,jT]
 case stop=>
  rintro D c Ae W hD Ah ⟨⟨rfl,ini,Ab,rfl,hi,hl,c1,c2,c3⟩,hB⟩ hK;have e1:=c1.cell;have e2:=c2.cell;have e3:=c3.cell;have f1:=c1.frozen;have f2:=c2.frozen;have f3:=c3.frozen
  gi_wp2
  have k1:=(c1.kept (grownBy_putObj' _ D (.deferred none)) (fun e=>by cases e;omega)).cell;have k2:=(c2.kept (grownBy_putObj' _ D (.deferred none)) (fun e=>by cases e;omega)).cell;have k3:=(c3.kept (grownBy_putObj' _ D (.deferred none)) (fun e=>by cases e;omega)).cell;refine⟨by simp,.inl ⟨_,_,rfl,run_takeDeferred hK,?_⟩⟩;refine⟨jT (some Ab),?_,by rw [aA3 Ah hi hl],hB.trans (belowK_b (w:=w) (Yh _) _ D _ _ (by omega) hK rfl rfl)⟩
  simp [results,Tryz.f152,go_sem,k1,k2,k3,jT]
theorem aRm(A:Option Addr) (Ab Ac:Nat) (es:List En) (Aa:ByteArray) (w:World) (hE:bV w A Ab es):
 Calls Tryz.prog 152 #[.slice A Ab Ac,.string Aa] w fun e w'=>e=.returned (jT (fN es Aa))/\Below w.heap.size w w' :=
 callsIn_wide.1 (aJj 6 (Yh _) A Ab Ac es Aa w hE)
end
section
open Go.RowKit
def nA(es:List En) (Aa:ByteArray) (i k:Nat):Prop:=∀ p∈iR es i k,mM Aa p=false
theorem aG3{es:List En}{Aa:ByteArray}{i k:Nat}(H:nA es Aa i k) (h:((eJ es i k).toList==Aa.toList)=false):nA es Aa i (k+1):=fun p hp=>by
 rw [rK,Zn] at hp;rcases hp with hp | hp
 . exact H p hp
 . simp at hp
   subst hp;exact h
theorem aG4{es:List En}{Aa:ByteArray}{i k:Nat}(H:nA es Aa i k) (h:k=(bT es i).length):nA es Aa (i+1) 0:=by
 subst h;unfold nA at H ⊢;rwa [aB4] at H
theorem aO1{es:List En}{Aa:ByteArray}{i k:Nat}(hi:i<es.length) (hk:k<(bT es i).length) (H:nA es Aa i k) (h:((eJ es i k).toList==Aa.toList)=true):fN es Aa=some (i,k,eJ es i k):=
 aA3 (ini:=iR es i k) (by rw [<- rK];exact wZ hi (by omega)) H h
theorem aO2{es:List En}{Aa:ByteArray}(H:nA es Aa es.length 0):fN es Aa=none:=aA2 fun p hp=>H p (by rw [aC5];exact hp)
theorem aO3(A:Option Addr) (Ae An:Nat) (es:List En) (Aa:ByteArray) (w:World) (hE:bV w A Ae es):
 Calls Tryz.prog 62 #[.slice A Ae An,.string Aa] w fun e w'=>e=.returned (jT (fN es Aa))/\Below w.heap.size w w':=by
 have Al:=hE.len;have Au:=hE.max
 go_enter Tryz.func62,Tryz.ntmps62
 go_wp2_with fail
 go_loopw [7] (fun i wr=>∃ k:Nat,k<=Ae/\i=.int .i64 k/\nA es Aa k 0/\∃ p,wr=w.drewN p) (fun i _=>Ae-(intOf i).toNat)
 case atStart=>exact⟨0,Yq _,rfl,fun p hp=>by rw [aB3] at hp;simp at hp,0,rfl⟩
 case round=>
  obtain⟨k,hk,rfl,Ad,p,rfl⟩:=hrel;have HT:=Hd Ad;clear Ad
  by_cases Ak:k<Ae
  . obtain⟨b,Ap,rfl,hb,hc⟩:=hE.at_ Ak;obtain⟨Av,A',n',c',Aq,Af⟩:=hc k Ak;have Ah:k<es.length:=by omega
    have As:=Af.len;have Ar:=Af.max;clear hc
    go_wp2_with fail
    go_loopw [8] (fun i wr=>∃ m:Nat,m<=n'/\i=.int .i64 m/\nA es Aa k m/\∃ p,wr=w.drewN p) (fun i _=>n' - (intOf i).toNat)
    case atStart=>exact⟨0,Yq _,rfl,HT.o,_,rfl⟩
    case round=>
     obtain⟨m,hm,rfl,Ad,q,rfl⟩:=hrel;have Ag:=Hd Ad;clear Ad
     by_cases Ab:m<n'
     . obtain⟨b2,Am,rfl,Ao,Ai⟩:=Af.at_ Ab;have Ac:=Ai m Ab;clear Ai;have HN:=Hd fun h=>aG3 Ag.o h;have HF:=Hd fun h=>aO1 Ah (show m<(bT es k).length by omega) Ag.o h;rw [show(bT es k)[m]?.getD ByteArray.empty=eJ es k m from rfl] at Ac;generalize eJ es k m=x at Ac HN HF
       by_cases he:(x.toList==Aa.toList)=true
       . have HF:=Hd (HF.o he)
         go_wp2_with fail
         refine bodyPost_ret (v:=jT (fN es Aa)) ?_ rfl ⟨rfl,?_⟩
         . rw [HF.o];simp [results,Tryz.results62,go_sem,jT]
         . exact aY (Yg _ _) _
       . have he:(x.toList==Aa.toList)=false:=by simpa using he
         have HN:=Hd (HN.o he)
         go_wp2_with fail
         go_roundw
         case rel=>exact⟨m+1,by omega,by go_num,HN.o,_,rfl⟩
         case measure=>simp [intOf];omega
     . have HN:=Hd (aG4 Ag.o (by omega))
       go_wp2_with fail
       go_roundw
       case rel=>exact⟨k+1,by omega,by go_num,HN.o,_,rfl⟩
       case measure=>simp [intOf];omega
  . have Ah:k=es.length:=by omega
    have Aj:=HT.o;rw [Ah] at Aj;have HF:=Hd (aO2 Aj)
    go_wp2_with fail
    refine bodyPost_ret (v:=jT (fN es Aa)) ?_ rfl ⟨rfl,?_⟩
    . rw [HF.o];simp [results,Tryz.results62,go_sem,jT]
    . exact aY (Yg _ _) _
end
section
open Go.RowKit Go.ChangeShapes Go.WideShapes Go.Deep
theorem aO4:Tryz.prog.cellsOf 3=1:=by kernel_rfl
theorem aO5:Tryz.prog.cellsOf 2=1:=by kernel_rfl
theorem xW:Tryz.prog.cellsOf 9=1:=by kernel_rfl
theorem aC7:Tryz.prog.cellsOf 32=1:=by kernel_rfl
theorem aMi:Tryz.prog.cellsOf 33=1:=by kernel_rfl
def OkP(p:Ex):Prop:=p.s.size<=maxLen/\(∀ t∈p.arms,t.size<=maxLen)/\(Lit.int .i64 p.k).wf=true/\(Lit.int .i64 p.n).wf=true/\(Lit.int .i64 p.op).wf=true
def OkX(x:Ex):Prop:=∀ p∈bI x,OkP p
theorem aHt{l:List Ex}{p:Ex}(h:p∈dR l):∃ i,i<l.length/\p∈bI (l[i]?.getD default):=by
 induction l with
 | nil=>simp [dR] at h
 | cons x l ih=>
  simp only [dR,Zn] at h;rcases h with h | h
  . exact⟨0,by simp,by simpa using h⟩
  . obtain⟨i,hi,hp⟩:=ih h;exact⟨i+1,by simpa using hi,by simpa using hp⟩
section
variable {H:Type}{enc:TypeId × Value->H}{w:World}{base:Nat}{spare:Nat->Bool}{held:Bool}
theorem aA4{Ab:Nat}{v:Value}{x:DataW H × List MemPlace}(h:DataW.trod enc Tryz.prog w base spare held Ab 32 [v]=some x):∃ A n c ss,v=.slice A n c/\aN w A n ss/\∀ s∈ss,s.size<=maxLen:=by
 rcases Go.ChangeShapes.open_strings Tryz.underlying32 Tryz.underlying9 (by kernel_rfl) h with⟨Aa,_⟩|⟨x,l,c,ss,Aa,_,hl,hm,hss,_,hcell,hz⟩
 . simp at Aa
   subst Aa;exact⟨none,0,0,[],rfl,aN.nil_ _,fun s hs=>by cases hs⟩
 . simp at Aa
   subst Aa;have Ac:l<=ss.length:=by rw [hss];split <;> omega
   exact⟨some x,l,c,ss.take l,rfl,aD5 Ac (by unfold maxLen at hm;omega) hcell,fun s hs=>hz s (List.mem_of_mem_take hs)⟩
theorem aMj:∀ (Aa:Nat){cs:List Value}{x:DataW H × List MemPlace},DataW.trod enc Tryz.prog w base spare held Aa 35 cs=some x->cs.length=6 ->
 ∃ (X:Ex) (A:Option Addr) (ca:Nat) (B:Option Addr) (cb:Nat),cs=gQ X A ca B cb/\aJ w X A B/\OkX X:=by
 intro Aa
 induction Aa using Nat.strongRecOn with
 | _ Aa ih=>
 intro cs x h hl;obtain⟨ys,m,hm,_,_,hy,hf⟩:=DataW.trod_struct Tryz.underlying35 h
 match cs,hl with
 | [v0,v1,v2,v3,v4,v5],_=>
  match ys,hy with
  | [y0,y1,y2,y3,y4,y5],_=>
   have t0:=hf 0 _ rfl;have t1:=hf 1 _ rfl;have t2:=hf 2 _ rfl;have t3:=hf 3 _ rfl;have t4:=hf 4 _ rfl;have t5:=hf 5 _ rfl
   simp [aO4,aO5,xW,aC7,aMi] at t0 t1 t2 t3 t4 t5
   obtain⟨k,e0,_,w0⟩:=DataW.trod_int Tryz.underlying3 t0;obtain⟨n,e1,_,w1⟩:=DataW.trod_int Tryz.underlying2 t1;obtain⟨s,e2,_,w2⟩:=DataW.trod_string Tryz.underlying9 t2;obtain⟨op,e3,_,w3⟩:=DataW.trod_int Tryz.underlying3 t3;injection e0 with e0;injection e1 with e1;injection e2 with e2;injection e3 with e3;subst e0 e1 e2 e3;obtain⟨A,na,ca,ss,rfl,hr,hz⟩:=aA4 t4;have An:=hr.len;subst An;rcases DataW.trod_slice Tryz.underlying33 t5 with⟨Af,_⟩|⟨a,len,cap,elems,rest,nn,hnn,Af,_,_,hlc,hcm,hel,hi,_,_⟩
   . simp at Af
     subst Af;refine⟨.mk k n s op ss [],A,ca,none,0,rfl,?_,?_⟩
     . rw [oE];exact⟨hr,eA.nil_ _⟩
     . intro p hp;simp only [bI,dR,List.mem_singleton] at hp;subst hp;exact⟨w2,hz,w0,w1,w3⟩
   . simp at Af
     subst Af
     have Aj:∀ i,i<len->∃ X:Ex,(∃ A' Ac B' Ab,(∀ j v,(gQ X A' Ac B' Ab)[j]?=some v->w.cell? (a.add (i*6+j))=some v)/\aJ w X A' B')/\OkX X:=by
      intro i Am;have h1:=hi i Am;rw [Yk (by omega),aLu] at h1;obtain⟨Av,hc,ht⟩:=Option.bind_eq_some_iff.1 h1;obtain⟨_,As,Ap⟩:=World.cells?_some hc;obtain⟨X,A',Ac,B',Ab,e,Ao,Aq⟩:=ih nn (by omega) ht As;refine⟨X,⟨A',Ac,B',Ab,fun j v hj=>?_,Ao⟩,Aq⟩
      have Ar:j<6:=by
       rcases Nat.lt_or_ge j 6 with h | h
       . exact h
       . rw [List.getElem?_eq_none (by simpa [gQ] using h)] at hj;cases hj
      rw [<- Go.Deep.add_add,Ap j Ar,e,hj]
     obtain⟨f,Ak⟩:=choose_lt (α:=Ex) Aj;have Ae:∀ i,i<len->((List.range len).map f)[i]?.getD default=f i:=fun i hi=>by simp [List.getElem?_map,List.getElem?_range hi]
     refine⟨.mk k n s op ss ((List.range len).map f),A,ca,some a,cap,by simp [gQ,Ex.k,Ex.n,Ex.s,Ex.op,Ex.arms,Ex.subs],?_,?_⟩
     . rw [oE];refine⟨hr,rfl,by simp [Ex.subs];unfold maxLen at hcm;omega,fun hn=>?_⟩;simp only [Ex.subs,List.length_map,List.length_range] at hn;obtain⟨b,Ai,Ah⟩:=a;obtain⟨⟨A0,Aw,B0,Au,h0,_⟩,_⟩:=Ak 0 hn;have Al:=h0 0 _ rfl;have Ag:Ah=none:=by simpa [Addr.add] using World.cell?_spot Al
       subst Ag;have Ad:∀ i,(⟨b,Ai,none⟩:Addr).add i=⟨b,Ai+i,none⟩:=fun i=>by unfold Addr.add;split <;> simp_all
       refine⟨b,Ai,rfl,Yi w _ ((Ad 0) ▸ Al),xP _ fun i hi=>?_⟩;simp only [Ex.subs,List.length_map,List.length_range] at hi;simp only [Ex.subs];rw [Ae i hi];obtain⟨⟨A',Ac,B',Ab,h1,h2⟩,_⟩:=Ak i hi;refine⟨A',Ac,B',Ab,fun j v hv=>?_,h2⟩;have:=h1 j v hv;rw [Ad] at this;rw [Nat.add_assoc];exact this
     . intro p hp;simp only [bI,Yu] at hp;rcases hp with rfl | hp
       . exact⟨w2,hz,w0,w1,w3⟩
       . obtain⟨i,hi,hp⟩:=aHt hp;simp only [List.length_map,List.length_range] at hi;rw [Ae i hi] at hp;exact(Ak i hi).2 p hp
end
end
end Go.Proofs.YtegjgiofmpolnaaGreat
