/- Parts of the proof: PgM, PgR, PgA, TyI, TyN, TyP. Conditions: each theorem's own. -/
import Derived.RangeFuncNested
import Derived.RangeFuncBound
import Derived.RangeFuncCalls
import Derived.RangeFuncLeaves
import Derived.Shelf.Abstract
import Derived.Shelf.RegionOpen
import Derived.OwnWalkIn
import Derived.TacticsInMore
import Derived.LoopNIn
import Derived.LoopIn
import Derived.RangeFuncBox
import Derived.Test.YtkbpdoomhfkngaaGreatR02
namespace Go.Proofs.YtkbpdoomhfkngaaGreat
set_option linter.unusedVariables false
set_option linter.unusedSimpArgs false
set_option maxRecDepth 100000
set_option maxHeartbeats 40000000
section
structure Dc where
 nm:ByteArray
 k:Int
 e:Int
 l:Int
 on:ByteArray
 ct:ByteArray
instance :Inhabited Dc:=⟨⟨⟨#[]⟩,0,0,0,⟨#[]⟩,⟨#[]⟩⟩⟩
structure Qn where
 ns:List ByteArray
 x:Ex
instance :Inhabited Qn:=⟨⟨[],default⟩⟩
structure Nd where
 nm:ByteArray
 ins:List Dc
 outs:List Dc
 vars:List Dc
 eqs:List Qn
instance :Inhabited Nd:=⟨⟨ByteArray.empty,[],[],[],[]⟩⟩
structure Pg where
 es:List En
 ns:List Nd
def Nd.all(n:Nd):List Dc:=n.ins++n.outs++n.vars
def namesD(l:List Dc):List ByteArray:=l.map Dc.nm
def trueS:List UInt8:=[116,114,117,101]
def falseS:List UInt8:=[102,97,108,115,101]
def armT(s:ByteArray):Bool:=highB s.data.toList || (s.data.toList==trueS) || (s.data.toList==falseS)
def noB(s:ByteArray):Bool:=s.data.toList==[]
def declB(n:Nat) (rt:Nat→Int→Int→Int→Bool) (d:Dc):Bool:=
 lowB d.nm.data.toList && rt n d.k d.e d.l && ((noB d.on && noB d.ct) || (lowB d.on.data.toList && armT d.ct))
def eqB(rx:Ex→Bool) (q:Qn):Bool:=
 q.ns.all (fun s=>lowB s.data.toList) && decide (0<q.ns.length) && rx q.x && (decide (q.ns.length=1) || q.x.k==13)
def portsB(n:Nd):Bool:=(n.ins++n.outs).all fun d=>noB d.on
def nodeB(es:Nat) (rt:Nat→Int→Int→Int→Bool) (rx:Ex→Bool) (n:Nd):Bool:=
 n.all.all (declB es rt) && portsB n && n.eqs.all (eqB rx) && lowB n.nm.data.toList && decide (0<n.outs.length)
def manyN(n:Nd):Bool:=decide (6<n.ins.length) || decide (6<n.outs.length) || decide (12<n.vars.length) || decide (18<n.eqs.length)
def sameL{α:Type}(f:α→α→Bool):List α→List α→Bool
 | [],[]=>true
 | a::l,b::m=>f a b && sameL f l m
 | _,_=>false
theorem sameL_len{α:Type}{f:α→α→Bool}:∀ {l m:List α},l.length≠m.length→sameL f l m=false
 | [],[],h=>absurd rfl h
 | [],b::m,_=>rfl
 | a::l,[],_=>rfl
 | a::l,b::m,h=>by
  simp only [sameL];rw [sameL_len (l:=l) (m:=m) (by simpa using h)]
  simp
theorem sameL_yes{α:Type} [Inhabited α] {f:α→α→Bool}:∀ {l m:List α},l.length=m.length→(∀ i,i<l.length→f (l[i]?.getD default) (m[i]?.getD default)=true)→sameL f l m=true
 | [],[],_,_=>rfl
 | [],b::m,h,_=>by simp at h
 | a::l,[],h,_=>by simp at h
 | a::l,b::m,h,hi=>by
  simp only [sameL,Bool.and_eq_true];refine⟨by simpa using hi 0 (by simp),sameL_yes (by simpa using h) fun i hl=>?_⟩
  simpa using hi (i+1) (by simpa using hl)
theorem sameL_no{α:Type} [Inhabited α] {f:α→α→Bool}:∀ {l m:List α}{i:Nat},i<l.length→l.length=m.length→f (l[i]?.getD default) (m[i]?.getD default)=false→sameL f l m=false
 | [],m,i,h,_,_=>by simp at h
 | a::l,[],i,_,h,_=>by simp at h
 | a::l,b::m,i,hi,hl,hf=>by
  simp only [sameL,Bool.and_eq_false_iff]
  cases i with
  | zero=>left;simpa using hf
  | succ i=>
   right
   exact sameL_no (i:=i) (by simpa using hi) (by simpa using hl) (by simpa using hf)
def findI{α:Type}(f:α→Bool):List α→Nat→Int
 | [],_=>-1
 | a::l,i=>if f a then(i:Int) else findI f l (i+1)
def findN(p:Pg) (s:ByteArray):Int:=findI (fun n=>n.nm.data.toList==s.data.toList) p.ns 0
def declO(n:Nd) (s:ByteArray):Option Dc:=n.all.find? fun d=>d.nm.data.toList==s.data.toList
def clockR(n:Nd):Nat→ByteArray→List Dc→Option (List Dc)
 | 0,_,_=>none
 | k+1,s,acc=>match declO n s with
  | none=>none
  | some d=>if noB d.on then some acc else clockR n k d.on (d::acc)
def clockO(n:Nd) (s:ByteArray):Option (List Dc):=clockR n 13 s []
theorem all_len(n:Nd):n.all.length=n.ins.length+n.outs.length+n.vars.length:=by simp [Nd.all];omega
end
section
open Go.RowKit
def RdS{α:Type} [Inhabited α] (k:Nat) (At:World→Nat→Nat→α→Prop) (w:World) (A:Option Addr) (n:Nat) (l:List α):Prop:=
 l.length=n∧n≤9223372036854775807∧(0<n→∃ b off,A=some ⟨b,off,none⟩∧b<w.heap.size∧∀ i,i<n→At w b (off+i*k) (l[i]?.getD default))
def KeepsAt{α:Type}(At:World→Nat→Nat→α→Prop):Prop:=
 ∀ {w w':World}{b o:Nat}{x:α},At w b o x→b<w.heap.size→w.heap.size≤w'.heap.size→(∀ p:Addr,p.block<w.heap.size→w'.cell? p=w.cell? p)→At w' b o x
def dcL(d:Dc):List Value:=[.string d.nm,.int .i64 d.k,.int .i64 d.e,.int .i64 d.l,.string d.on,.string d.ct]
def dcA(d:Dc):Array Value:=#[.string d.nm,.int .i64 d.k,.int .i64 d.e,.int .i64 d.l,.string d.on,.string d.ct]
def DcAt(w:World) (b o:Nat) (d:Dc):Prop:=w.rangeAt b o (dcL d)
def RdD(w:World) (A:Option Addr) (n:Nat) (l:List Dc):Prop:=RdS 6 DcAt w A n l
def QnAt(w:World) (b o:Nat) (q:Qn):Prop:=
 ∃ A c A' ca B' cb,w.cell? ⟨b,o,none⟩=some (.slice A q.ns.length c)∧RdT w A q.ns.length q.ns∧w.rangeAt b (o+1) (exL q.x A' ca B' cb)∧rdX w q.x A' B'
def RdQ(w:World) (A:Option Addr) (n:Nat) (l:List Qn):Prop:=RdS 7 QnAt w A n l
def ndA(n:Nd) (A1:Option Addr) (c1:Nat) (A2:Option Addr) (c2:Nat) (A3:Option Addr) (c3:Nat) (A4:Option Addr) (c4:Nat):Array Value:=
 #[.string n.nm,.slice A1 n.ins.length c1,.slice A2 n.outs.length c2,.slice A3 n.vars.length c3,.slice A4 n.eqs.length c4]
def ndL(n:Nd) (A1:Option Addr) (c1:Nat) (A2:Option Addr) (c2:Nat) (A3:Option Addr) (c3:Nat) (A4:Option Addr) (c4:Nat):List Value:=
 [.string n.nm,.slice A1 n.ins.length c1,.slice A2 n.outs.length c2,.slice A3 n.vars.length c3,.slice A4 n.eqs.length c4]
def rdN(w:World) (n:Nd) (A1 A2 A3 A4:Option Addr):Prop:=RdD w A1 n.ins.length n.ins∧RdD w A2 n.outs.length n.outs∧RdD w A3 n.vars.length n.vars∧RdQ w A4 n.eqs.length n.eqs
def NdAt(w:World) (b o:Nat) (n:Nd):Prop:=
 ∃ A1 c1 A2 c2 A3 c3 A4 c4,w.rangeAt b o (ndL n A1 c1 A2 c2 A3 c3 A4 c4)∧rdN w n A1 A2 A3 A4
def RdNs(w:World) (A:Option Addr) (n:Nat) (l:List Nd):Prop:=RdS 5 NdAt w A n l
section
variable {w w':World}{A B A1 A2 A3 A4:Option Addr}{n:Nat}
theorem RdS.len{α:Type} [Inhabited α] {k:Nat}{At:World→Nat→Nat→α→Prop}{l:List α}(h:RdS k At w A n l):l.length=n:=h.1
theorem RdS.max{α:Type} [Inhabited α] {k:Nat}{At:World→Nat→Nat→α→Prop}{l:List α}(h:RdS k At w A n l):n≤9223372036854775807:=h.2.1
theorem RdS.at_{α:Type} [Inhabited α] {k:Nat}{At:World→Nat→Nat→α→Prop}{l:List α}(h:RdS k At w A n l) (hn:0<n):
 ∃ b off,A=some ⟨b,off,none⟩∧b<w.heap.size∧∀ i,i<n→At w b (off+i*k) (l[i]?.getD default):=h.2.2 hn
theorem RdS.nil_{α:Type} [Inhabited α] (k:Nat) (At:World→Nat→Nat→α→Prop) (w:World):RdS k At w none 0 []:=⟨rfl,by omega,by omega⟩
theorem RdS.keep{α:Type} [Inhabited α] {k:Nat}{At:World→Nat→Nat→α→Prop}{l:List α}(hAt:KeepsAt At) (h:RdS k At w A n l) (hs:w.heap.size≤w'.heap.size) (hk:∀ p:Addr,p.block<w.heap.size→w'.cell? p=w.cell? p):RdS k At w' A n l:=
 ⟨h.1,h.2.1,fun hn=>by
  obtain⟨b,off,e,hb,hc⟩:=h.2.2 hn;exact⟨b,off,e,by omega,fun i hi=>hAt (hc i hi) hb hs hk⟩⟩
theorem keeps_dc:KeepsAt DcAt:=fun h hb hs hk=>rangeAt_keep h hb hk
theorem keeps_qn:KeepsAt QnAt:=fun h hb hs hk=>by
 obtain⟨A,c,A',ca,B',cb,h1,h2,h3,h4⟩:=h;exact⟨A,c,A',ca,B',cb,(hk _ hb).trans h1,h2.keep hs hk,rangeAt_keep h3 hb hk,h4.keep hs hk⟩
theorem RdD.keep{l:List Dc}(h:RdD w A n l) (hs:w.heap.size≤w'.heap.size) (hk:∀ p:Addr,p.block<w.heap.size→w'.cell? p=w.cell? p):RdD w' A n l:=RdS.keep keeps_dc h hs hk
theorem RdQ.keep{l:List Qn}(h:RdQ w A n l) (hs:w.heap.size≤w'.heap.size) (hk:∀ p:Addr,p.block<w.heap.size→w'.cell? p=w.cell? p):RdQ w' A n l:=RdS.keep keeps_qn h hs hk
theorem rdN.keep{x:Nd}(h:rdN w x A1 A2 A3 A4) (hs:w.heap.size≤w'.heap.size) (hk:∀ p:Addr,p.block<w.heap.size→w'.cell? p=w.cell? p):rdN w' x A1 A2 A3 A4:=
 ⟨h.1.keep hs hk,h.2.1.keep hs hk,h.2.2.1.keep hs hk,h.2.2.2.keep hs hk⟩
theorem keeps_nd:KeepsAt NdAt:=fun h hb hs hk=>by
 obtain⟨A1,c1,A2,c2,A3,c3,A4,c4,h1,h2⟩:=h;exact⟨A1,c1,A2,c2,A3,c3,A4,c4,rangeAt_keep h1 hb hk,h2.keep hs hk⟩
theorem RdNs.keep{l:List Nd}(h:RdNs w A n l) (hs:w.heap.size≤w'.heap.size) (hk:∀ p:Addr,p.block<w.heap.size→w'.cell? p=w.cell? p):RdNs w' A n l:=RdS.keep keeps_nd h hs hk
theorem RdD.below{l:List Dc}(h:RdD w A n l) (hb:Below w.heap.size w w'):RdD w' A n l:=h.keep hb.size fun _ hp=>hb.cell hp
theorem RdQ.below{l:List Qn}(h:RdQ w A n l) (hb:Below w.heap.size w w'):RdQ w' A n l:=h.keep hb.size fun _ hp=>hb.cell hp
theorem rdN.below{x:Nd}(h:rdN w x A1 A2 A3 A4) (hb:Below w.heap.size w w'):rdN w' x A1 A2 A3 A4:=h.keep hb.size fun _ hp=>hb.cell hp
theorem RdNs.below{l:List Nd}(h:RdNs w A n l) (hb:Below w.heap.size w w'):RdNs w' A n l:=h.keep hb.size fun _ hp=>hb.cell hp
theorem DcAt.six{b o:Nat}{d:Dc}(h:DcAt w b o d):
 w.cell? ⟨b,o,none⟩=some (.string d.nm)∧w.cell? ⟨b,o+1,none⟩=some (.int .i64 d.k)∧w.cell? ⟨b,o+2,none⟩=some (.int .i64 d.e)∧w.cell? ⟨b,o+3,none⟩=some (.int .i64 d.l) ∧
  w.cell? ⟨b,o+4,none⟩=some (.string d.on)∧w.cell? ⟨b,o+5,none⟩=some (.string d.ct):=⟨h 0 _ rfl,h 1 _ rfl,h 2 _ rfl,h 3 _ rfl,h 4 _ rfl,h 5 _ rfl⟩
theorem ndL_five{b o:Nat}{x:Nd}{c1 c2 c3 c4:Nat}(h:w.rangeAt b o (ndL x A1 c1 A2 c2 A3 c3 A4 c4)):
 w.cell? ⟨b,o,none⟩=some (.string x.nm)∧w.cell? ⟨b,o+1,none⟩=some (.slice A1 x.ins.length c1)∧w.cell? ⟨b,o+2,none⟩=some (.slice A2 x.outs.length c2)∧w.cell? ⟨b,o+3,none⟩=some (.slice A3 x.vars.length c3) ∧
  w.cell? ⟨b,o+4,none⟩=some (.slice A4 x.eqs.length c4):=⟨h 0 _ rfl,h 1 _ rfl,h 2 _ rfl,h 3 _ rfl,h 4 _ rfl⟩
end
theorem cells_dc:Tryz.prog.cellsOf 43=6:=by kernel_rfl
theorem cells_qn:Tryz.prog.cellsOf 54=7:=by kernel_rfl
theorem cells_nd:Tryz.prog.cellsOf 36=5:=by kernel_rfl
end
section
open Go.RowKit
def dcFew(d:Dc):Bool:=!decide (100<d.nm.size) && !decide (100<d.on.size) && !decide (100<d.ct.size)
def fewD(l:List Dc):Bool:=l.all dcFew && decide (l.length≤20)
theorem all_take_step{α:Type} [Inhabited α] {f:α→Bool}{l:List α}{k:Nat}(h:(l.take k).all f=true) (hk:k<l.length) (hf:f (l[k]?.getD default)=true):(l.take (k+1)).all f=true:=by
 rw [List.take_add_one,List.getElem?_eq_getElem hk,List.all_append,h];rw [List.getElem?_eq_getElem hk] at hf
 simpa using hf
theorem all_at_no{α:Type} [Inhabited α] {f:α→Bool}{l:List α}{k:Nat}(hk:k<l.length) (hf:f (l[k]?.getD default)=false):l.all f=false:=by
 rw [List.getElem?_eq_getElem hk] at hf;rw [List.all_eq_false];exact⟨_,List.getElem_mem hk,by simpa using hf⟩
theorem refFewD(A:Option Addr) (n c:Nat) (l:List Dc) (w:World) (h:RdD w A n l):
 Calls Tryz.prog 13 #[.slice A n c] w fun e w'=>e=.returned (.bool (fewD l))∧w=w':=by
 have hlen:=h.len;have hmx:=h.max;have HL:=Hd hlen
 go_enter Tryz.func13,Tryz.ntmps13
 go_wp2_with fail
 go_loop [3] (fun i=>∃ k:Nat,k≤n∧i=.int .i64 k∧(l.take k).all dcFew=true) (fun i=>n-(intOf i).toNat)
 case atStart=>exact⟨0,Nat.zero_le _,rfl,by simp⟩
 case round=>
  obtain⟨k,hk,rfl,hto⟩:=hrel;have HT:=Hd hto;clear hto
  by_cases hlt:k<n
  · obtain⟨b,off,rfl,hb,hc⟩:=RdS.at_ h (by omega);obtain⟨c0,-,-,-,c4,c5⟩:=(hc k hlt).six;clear hc;have HS:=Hd fun hf=>all_take_step (l:=l) (f:=dcFew) HT.out (by rw [HL.out];exact hlt) hf;have HN:=Hd fun hf=>all_at_no (l:=l) (f:=dcFew) (k:=k) (by rw [HL.out];exact hlt) hf;generalize l[k]?.getD default=d at c0 c4 c5 HS HN;have HD:=Hd (show dcFew d=(!decide (100<d.nm.size) && !decide (100<d.on.size) && !decide (100<d.ct.size)) from rfl);generalize d.nm=x0 at *;generalize d.on=x1 at *;generalize d.ct=x2 at *
    cases d0:decide ((100:Int)<(x0.size:Int)) with
    | true=>
     have HN2:=Hd (HN.out (by rw [HD.out,show decide (100<x0.size)=true by have:=of_decide_eq_true d0;exact decide_eq_true (by omega)];simp))
     go_wp2_with fail
     go_ret
     exact⟨ret_bool (by rw [fewD,HN2.out];simp),rfl⟩
    | false=>
     cases d1:decide ((100:Int)<(x1.size:Int)) with
     | true=>
      have HN2:=Hd (HN.out (by rw [HD.out,show decide (100<x1.size)=true by have:=of_decide_eq_true d1;exact decide_eq_true (by omega)];simp))
      go_wp2_with fail
      go_ret
      exact⟨ret_bool (by rw [fewD,HN2.out];simp),rfl⟩
     | false=>
      cases d2:decide ((100:Int)<(x2.size:Int)) with
      | true=>
       have HN2:=Hd (HN.out (by rw [HD.out,show decide (100<x2.size)=true by have:=of_decide_eq_true d2;exact decide_eq_true (by omega)];simp))
       go_wp2_with fail
       go_ret
       exact⟨ret_bool (by rw [fewD,HN2.out];simp),rfl⟩
      | false=>
       have HY:=Hd (HS.out (by
        have h0:=of_decide_eq_false d0;have h1:=of_decide_eq_false d1;have h2:=of_decide_eq_false d2;rw [HD.out,decide_eq_false (show ¬ 100<x0.size by omega),decide_eq_false (show ¬ 100<x1.size by omega),decide_eq_false (show ¬ 100<x2.size by omega)];rfl))
       go_wp2_with fail
       go_round
       case rel=>exact⟨k+1,by omega,by go_num,HY.out⟩
       case measure=>simp [intOf];omega
  · have hkn:k=n:=by omega
    subst hkn;have HY:=Hd (show l.all dcFew=true by have:=HT.out;rwa [List.take_of_length_le (by rw [HL.out];exact Nat.le_refl _)] at this);have HE:=Hd (show fewD l=decide ((k:Int)≤20) by rw [fewD,HY.out,Bool.true_and,HL.out];simp;omega)
    go_wp2_with fail
    go_ret
    exact⟨ret_bool HE.out.symm,rfl⟩
end
section
open Go.RowKit Go.Shelf
attribute [local go_sem] Oper.semAt_some
theorem grownBy_of_below{W W':World}(h:Below W.heap.size W W'):W.grownBy W' none:=⟨h.os,h.tape,h.output,h.size,fun i hi _=>h.block i hi⟩
def encPl(x:Pl):Array Value:=#[.agg #[.int .i64 (x.1:Int),.int .i64 (x.2.1:Int)],.string x.2.2]
theorem tyCtors(A:Option Addr) (n c:Nat) (w:World):
 Calls Tryz.prog 130 #[.slice A n c] w fun e w'=>e=.returned (.func (.func 164) #[] #[.pointer (some ⟨w.heap.size,0,none⟩)])∧w'=w.alloc (.cells #[.slice A n c] 22):=by
 go_enter Tryz.func130,Tryz.ntmps130
 go_wp2
 go_ret
 exact⟨rfl,rfl⟩
theorem tyIter_in(n:Nat) (hn:1≤n) (l Bs:Nat) (w:World) (A:Option Addr) (len cap:Nat) (es:List En) (hE:RdE w A len es) (J Jx:List Pl→World→Prop) (W:World) (hbW:Below w.heap.size w W)
 (hJ:AbidesFrom W.heap.size J)
 (hY:∀ pre x W,J pre W→pre++[x] <+: flatE es→YieldAt Fence.wide (n-1) Tryz.prog l (encPl x) W fun e W' =>
  (e=.returned (.bool true)∧J (pre++[x]) W'∧Below w.heap.size W W')∨(e=.returned (.bool false)∧Jx (pre++[x]) W'))
 (hBs:W.cell? ⟨Bs,0,none⟩=some (.slice A len cap)) (h0:J [] W):
 CallsIn Fence.wide n Tryz.prog 164 #[.func (.yield l) #[] #[],.pointer (some ⟨Bs,0,none⟩)] W fun e W'=>(∃ v,e=.returned v) ∧
  ((∃ ys,ys=flatE es∧J ys W')∨(∃ pre,pre <+: flatE es∧Jx pre W')):=by
 have hlen:=hE.len;have hmx:=hE.max;refine callsIn_of_wp Tryz.func164 rfl trivial ?_ rfl;simp only [Tryz.ntmps164,List.size_toArray,List.length_cons,List.length_nil,Nat.reduceAdd,Nat.reduceSub,Array.replicate_succ,Array.replicate_zero,List.push_toArray,List.append_toArray,List.nil_append,List.cons_append]
 gi_wp2
 gi_loopw [9] (fun i wr=>∃ k:Nat,k≤len∧i=.int .i64 k∧J (upTo es k 0) wr∧Below w.heap.size w wr)
  (fun i _=>len-(intOf i).toNat)
 case atStart=>exact⟨0,Nat.zero_le _,rfl,by rw [upTo_zero];exact h0,hbW⟩
 case round=>
  obtain⟨k,hk,rfl,hJs,hnx⟩:=hrel
  by_cases hlt:k<len
  · obtain⟨b,off,rfl,hb,hc⟩:=hE.at_ hlt;obtain⟨hn0,A',n',c',hs0,hR0⟩:=hc k hlt;have hn1:wr.cell? ⟨b,off+k*2,none⟩=some (.string (nmE es k)):=(hnx.cell (p:=⟨b,off+k*2,none⟩) hb).trans hn0;have hs1:wr.cell? ⟨b,off+k*2+1,none⟩=some (.slice A' n' c'):=(hnx.cell (p:=⟨b,off+k*2+1,none⟩) hb).trans hs0;have hkl:k<es.length:=by omega
    have hcl:=hR0.len;have hcm:=hR0.max;have hJa:∀ W',Below wr.heap.size wr W'→J (upTo es k 0) W':=fun W' h=>hJ _ _ _ none hJs (grownBy_of_below h) (fun r e=>by cases e)
    gi_wp2
    gi_loopw [17] (fun i wr=>∃ m:Nat,m≤n'∧i=.int .i64 m∧J (upTo es k m) wr∧Below w.heap.size w wr)
     (fun i _=>n' - (intOf i).toNat)
    case atStart=>exact⟨0,Nat.zero_le _,rfl,hJa _ ((Below.refl _ _).alloc (Nat.le_refl _) _),hnx.alloc hnx.size _⟩
    case round=>
     obtain⟨m,hm,rfl,hJm,hnm⟩:=hrel
     by_cases hltm:m<n'
     · obtain⟨b2,off2,rfl,hb2,hc2⟩:=hR0.at_ hltm;have hcm2:=(hnm.cell (p:=⟨b2,off2+m,none⟩) hb2).trans (hc2 m hltm);have hpre:=upTo_pre (es:=es) hkl (k:=m+1) (by omega);obtain⟨fn,tmps,assign,body,hy,hR⟩:=hY _ (k,m,ctAt es k m) _ hJm (by rw [← upTo_succ];exact hpre);rw [← upTo_succ] at hR;unfold ctAt at hy;simp only [encPl] at hy;generalize hx:(csE es k)[m]?.getD ByteArray.empty=x at hcm2 hy
       gi_wp2
       refine hR.mono ?_;rintro e W3 (⟨rfl,hJ3,hk3⟩|⟨rfl,hJx3⟩)
       · gi_wp2
         go_roundw
         case rel=>exact⟨m+1,by omega,by go_num,hJ3,hnm.trans hk3⟩
         case measure=>simp [intOf];omega
       · gi_wp2
         refine bodyPost_ret (results_none rfl _ _ _) rfl ?_;exact⟨⟨_,rfl⟩,.inr ⟨_,hpre,hJx3⟩⟩
     · obtain rfl:m=n':=by omega
       gi_wp2
       go_roundw
       case rel=>exact⟨k+1,by omega,by go_num,by rw [← upTo_next,hcl];exact hJm,hnm⟩
       case measure=>simp [intOf];omega
  · obtain rfl:k=len:=by omega
    gi_wp2
    go_end0
    exact⟨⟨_,rfl⟩,.inl ⟨_,rfl,by rw [← upTo_end,hlen];exact hJs⟩⟩
theorem tyIter_stops(n:Nat) (hn:1≤n) (Bs:Nat) (w0:World) (A:Option Addr) (len cap:Nat) (es:List En) (hE:RdE w0 A len es) (w:World) (hb:Below w0.heap.size w0 w) (hBs:Bs<w.heap.size)
 (hc:w.cell? ⟨Bs,0,none⟩=some (.slice A len cap)):
 SeqStopsK Fence.wide n Tryz.prog 164 #[.pointer (some ⟨Bs,0,none⟩)] encPl (Below w0.heap.size) (fun ys=>ys=flatE es) (fun pre=>pre <+: flatE es) (flatE es).length w:=fun l J Jx W hW hJ _ hY h0=>
 tyIter_in n hn l Bs w0 A len cap es hE J Jx W (hb.trans (hW.mono hb.size)) hJ (fun pre x W1 h1 h2=>hY pre x W1 h1 (by have:=h2.length_le;simp at this;omega)) ((hW.cell (p:=⟨Bs,0,none⟩) hBs).trans hc) h0
abbrev PlIn (es:List En):={ x:Pl // x∈flatE es }
theorem tyIter_stopsIn(n:Nat) (hn:1≤n) (Bs:Nat) (w0:World) (A:Option Addr) (len cap:Nat) (es:List En) (hE:RdE w0 A len es) (w:World) (hb:Below w0.heap.size w0 w) (hBs:Bs<w.heap.size)
 (hc:w.cell? ⟨Bs,0,none⟩=some (.slice A len cap)):
 SeqStopsK Fence.wide n Tryz.prog 164 #[.pointer (some ⟨Bs,0,none⟩)] (fun x:PlIn es=>encPl x.1) (Below w0.heap.size) (fun ys=>ys.map (·.1)=flatE es) (fun pre=>pre.map (·.1) <+: flatE es) (flatE es).length w:=fun l J Jx W hW hJ _ hY h0=>by
 refine(tyIter_in n hn l Bs w0 A len cap es hE (fun pre W=>∃ ps:List (PlIn es),ps.map (·.1)=pre∧J ps W) (fun pre W=>∃ ps:List (PlIn es),ps.map (·.1)=pre∧Jx ps W) W (hb.trans (hW.mono hb.size))
  (fun s X Y row hs hg hr=>by obtain⟨ps,e,h⟩:=hs;exact⟨ps,e,hJ ps X Y row h hg hr⟩) (fun pre x W1 h1 h2=>?_) ((hW.cell (p:=⟨Bs,0,none⟩) hBs).trans hc) ⟨[],rfl,h0⟩).mono ?_
 · obtain⟨ps,rfl,h1⟩:=h1;have hx:x∈flatE es:=h2.subset (by simp);obtain⟨fn,tmps,assign,body,hy,hR⟩:=hY ps ⟨x,hx⟩ W1 h1 (by have:=h2.length_le;simp at this;omega);refine⟨fn,tmps,assign,body,hy,hR.mono ?_⟩;rintro e W' (⟨rfl,hj,hk⟩|⟨rfl,hj⟩)
   · exact .inl ⟨rfl,⟨_,by simp,hj⟩,hk⟩
   · exact .inr ⟨rfl,⟨_,by simp,hj⟩⟩
 · rintro e W' ⟨he,⟨ys,rfl,ps,e1,hj⟩|⟨pre,hp,ps,rfl,hj⟩⟩
   · exact⟨he,.inl ⟨ps,e1,hj⟩⟩
   · exact⟨he,.inr ⟨ps,hp,hj⟩⟩
def Box2(W:World) (B:Nat) (t:TypeId) (u v:Value):Prop:=W.heap[B]?=some (.cells #[u,v] t (0,0))
section
variable {W W':World}{B:Nat}{t:TypeId}{u v:Value}
theorem Box2.lt(h:Box2 W B t u v):B<W.heap.size:=(Array.getElem?_eq_some_iff.1 h).1
theorem Box2.c0(h:Box2 W B t u v):W.cell? ⟨B,0,none⟩=some u:=by simp [World.cell?,show W.heap[B]?=_ from h]
theorem Box2.c1(h:Box2 W B t u v):W.cell? ⟨B,1,none⟩=some v:=by simp [World.cell?,show W.heap[B]?=_ from h]
theorem Box2.new(W:World) (t:TypeId) (u v:Value):Box2 (W.alloc (.cells #[u,v] t)) W.heap.size t u v:=World.alloc_heap_new W _
theorem box2_own{β:Type}(B:Nat) (t:TypeId) (u v:Value):Own (fun(_:β) W=>Box2 W B t u v):=fun s X Y row hs hg hrow=>
 (hg.block B (Box2.lt hs) (fun e'=>by obtain⟨o,ho,hc⟩:=hrow B e'.symm;rw [show X.heap[B]?=_ from hs] at ho;cases ho;cases hc)).trans hs
end
theorem boxed_below{W W':World}{B:Nat}{t:TypeId}{v:Value}(h:Boxed W B t v){n:Nat}(hb:Below n W W') (hn:B<n):Boxed W' B t v:=(hb.block B hn).trans h
theorem keepsFrom_below{B:Nat}{W W':World}(h:Below W.heap.size W W'):KeepsFrom B W W':=KeepsFrom.of_grownBy (grownBy_of_below h) (fun j e=>by cases e)
end
section
open Go.RowKit Go.Shelf
attribute [local go_sem] Oper.semAt_some
def enB(e:En):Bool:=lowB e.1.data.toList && !e.2.isEmpty
def hiB(s:ByteArray):Bool:=highB s.data.toList
def namedB(es:List En):Bool:=es.all enB && (allE es).all hiB
def namedTo(es:List En) (k:Nat):Prop:=∀ j,j<k→lowB (nmE es j).data.toList=true∧0<(csE es j).length
section
variable {es:List En}{k:Nat}
theorem en_at(h:k<es.length):es[k]'h=(nmE es k,csE es k):=by
 simp [nmE,csE,List.getElem?_eq_getElem h]
theorem enB_at(h:k<es.length):enB (es[k]'h)=(lowB (nmE es k).data.toList && decide (0<(csE es k).length)):=by
 rw [en_at h];unfold enB
 cases csE es k <;> simp
theorem named_bad(h:k<es.length) (hb:lowB (nmE es k).data.toList=false∨(csE es k).length=0):namedB es=false:=by
 have:es.all enB=false:=by
  rw [List.all_eq_false];refine⟨es[k]'h,List.getElem_mem h,?_⟩;rw [enB_at h];rcases hb with h | h <;> simp [h]
 unfold namedB;rw [this,Bool.false_and]
theorem namedTo_all(H:namedTo es k) (h:es.length≤k):es.all enB=true:=by
 rw [List.all_eq_true];intro e he;obtain⟨j,hj,rfl⟩:=List.getElem_of_mem he;have:=H j (by omega);rw [enB_at hj,this.1,decide_eq_true this.2];rfl
theorem namedTo_succ(H:namedTo es k) (h1:lowB (nmE es k).data.toList=true) (h2:0<(csE es k).length):namedTo es (k+1):=fun j hj=>by
 rcases Nat.lt_or_ge j k with h | h
 · exact H j h
 · obtain rfl:j=k:=by omega
   exact⟨h1,h2⟩
theorem named_yes(h:es.all enB=true) (hp:∀ p∈flatE es,hiB p.2.2=true):namedB es=true:=by
 unfold namedB;rw [h,Bool.true_and,List.all_eq_true];intro s hs;obtain⟨p,hp',rfl⟩:=List.mem_map.1 hs;exact hp p hp'
theorem named_no{ini:List Pl}{x:Pl}(hp:ini++[x] <+: flatE es) (hx:hiB x.2.2=false):namedB es=false:=by
 unfold namedB;have hm:x∈flatE es:=hp.subset (by simp)
 have:(allE es).all hiB=false:=by
  rw [List.all_eq_false];exact⟨x.2.2,List.mem_map.2 ⟨x,hm,rfl⟩,by simp [hx]⟩
 rw [this,Bool.and_false]
theorem EsOk.flat(h:EsOk es):∀ p∈flatE es,p.2.2.size≤maxLen:=by
 intro p hp;have h1:p.2.2∈namesTo es es.length:=List.mem_map.2 ⟨p,hp,rfl⟩;obtain⟨j,hj,hm⟩:=namesTo_mem h1;exact(h j hj).2 _ hm
end
theorem cell_l1(w:World) (u v:Value) (T:TypeId):(w.alloc (.cells #[u,v] T)).cell? ⟨w.heap.size,1,none⟩=some v:=(Box2.new w T u v).c1
theorem tyNamed_in(n:Nat) (hn:6≤n) (A:Option Addr) (len cap:Nat) (es:List En) (w:World) (hE:RdE w A len es) (hok:EsOk es):
 CallsIn Fence.wide n Tryz.prog 95 #[.slice A len cap] w fun e w'=>e=.returned (.bool (namedB es))∧Below w.heap.size w w':=by
 have h1:1≤n:=by omega
 have hlen:=hE.len;have hmx:=hE.max;refine callsIn_of_wp_marks Tryz.func95 rfl trivial ?_ rfl;simp only [Tryz.ntmps95,List.size_toArray,List.length_cons,List.length_nil,Nat.reduceAdd,Nat.reduceSub,Array.replicate_succ,Array.replicate_zero,List.push_toArray,List.append_toArray,List.nil_append,List.cons_append]
 gi_wp2_with fail
 gi_loopw [9] (fun i wr=>∃ k:Nat,k≤len∧i=.int .i64 k∧namedTo es k∧Boxed wr w.heap.size 4 (.bool false)∧Below w.heap.size w wr)
  (fun i _=>len-(intOf i).toNat)
 case atStart=>exact⟨0,Nat.zero_le _,rfl,fun j hj=>absurd hj (by omega),Boxed.new _ _ _,(Below.refl _ _).alloc (Nat.le_refl _) _⟩
 case round=>
  obtain⟨k,hk,rfl,hto,hbx,hnx⟩:=hrel;have HT:=Hd hto;clear hto
  by_cases hlt:k<len
  · obtain⟨b,off,rfl,hb,hc⟩:=hE.at_ hlt;obtain⟨hn0,A',n',c',hs0,hR0⟩:=hc k hlt;have hn1:wr.cell? ⟨b,off+k*2,none⟩=some (.string (nmE es k)):=(hnx.cell (p:=⟨b,off+k*2,none⟩) hb).trans hn0;have hs1:wr.cell? ⟨b,off+k*2+1,none⟩=some (.slice A' n' c'):=(hnx.cell (p:=⟨b,off+k*2+1,none⟩) hb).trans hs0;have hkl:k<es.length:=by omega
    have hcl:=hR0.len;have hcm:=hR0.max;have HBAD:=Hd fun h=>named_bad hkl h;have HNX:=Hd fun h1 h2=>namedTo_succ HT.out h1 h2;have hzl:=(hok k hkl).1;unfold maxLen at hzl;generalize hxn:nmE es k=x at hn1 hzl HBAD HNX
    by_cases hlow:lowB x.data.toList=true
    · rcases Nat.eq_zero_or_pos n' with hz | hz
      · have HE:=Hd (HBAD.out (.inr (by omega)));subst hz
        gi_wp2_with fail
        refine⟨trivial,(callsIn_wide.2 (idLow x _ (by omega))).mono ?_⟩;rw [hlow];rintro e w3 ⟨rfl,hb3⟩;have d1:=(hb3.cell (p:=⟨wr.heap.size,1,none⟩) (by simp)).trans (cell_l1 wr _ _ _);have hbx3:=boxed_below (hbx.alloc (.cells #[.string x,.slice A' 0 c'] 66)) hb3 (by have:=hbx.lt;simp;omega);have HX:=Hd hbx3;have e2:=hbx3.cell;have f2:=hbx3.frozen;have HB3:=Hd ((hnx.alloc hnx.size (.cells #[.string x,.slice A' 0 c'] 66)).trans (hb3.mono (by have:=hnx.size;simp;omega)));clear hb3 hbx3
        gi_wp2_with fail
        refine⟨_,?_,ret_bool HE.out.symm,HB3.out.setCell (p:=⟨w.heap.size,0,none⟩) (Nat.le_refl _) _⟩;have k1:=(HX.out.set (.bool false)).cell
        simp [results,Tryz.f95,go_sem,k1]
      · have HN:=Hd (HNX.out hlow (by omega));have hnz:((n':Int)==0)=false:=by rw [beq_eq_false_iff_ne];omega
        gi_wp2_with fail
        refine⟨trivial,(callsIn_wide.2 (idLow x _ (by omega))).mono ?_⟩;rw [hlow];rintro e w3 ⟨rfl,hb3⟩;have d1:=(hb3.cell (p:=⟨wr.heap.size,1,none⟩) (by simp)).trans (cell_l1 wr _ _ _);have hbx3:=boxed_below (hbx.alloc (.cells #[.string x,.slice A' n' c'] 66)) hb3 (by have:=hbx.lt;simp;omega);have HX:=Hd hbx3;have HB3:=Hd ((hnx.alloc hnx.size (.cells #[.string x,.slice A' n' c'] 66)).trans (hb3.mono (by have:=hnx.size;simp;omega)));clear hb3 hbx3
        gi_wp2_with fail
        go_roundw
        case rel=>exact⟨k+1,by omega,by go_num,HN.out,HX.out,HB3.out⟩
        case measure=>simp [intOf];omega
    · have hlow:lowB x.data.toList=false:=by simpa using hlow
      have HE:=Hd (HBAD.out (.inl hlow))
      gi_wp2_with fail
      refine⟨trivial,(callsIn_wide.2 (idLow x _ (by omega))).mono ?_⟩;rw [hlow];rintro e w3 ⟨rfl,hb3⟩;have hbx3:=boxed_below (hbx.alloc (.cells #[.string x,.slice A' n' c'] 66)) hb3 (by have:=hbx.lt;simp;omega);have HX:=Hd hbx3;have e2:=hbx3.cell;have f2:=hbx3.frozen;have HB3:=Hd ((hnx.alloc hnx.size (.cells #[.string x,.slice A' n' c'] 66)).trans (hb3.mono (by have:=hnx.size;simp;omega)));clear hb3 hbx3
      gi_wp2_with fail
      refine⟨_,?_,ret_bool HE.out.symm,HB3.out.setCell (p:=⟨w.heap.size,0,none⟩) (Nat.le_refl _) _⟩;have k1:=(HX.out.set (.bool false)).cell
      simp [results,Tryz.f95,go_sem,k1]
  · obtain rfl:k=len:=by omega
    have HALL:=Hd (namedTo_all HT.out (by omega));have hbel:=hnx;clear HT
    gi_wp2_with fail
    refine⟨trivial,(callsIn_wide.2 (tyCtors _ _ _ _)).mono ?_⟩;rintro e w' ⟨rfl,rfl⟩
    gi_wp2_with fail
    have b4:=Boxed.new wr 22 (.slice A k cap);have hbx4:=hbx.alloc (.cells #[.slice A k cap] 22);have hB0:=hnx.alloc hnx.size (.cells #[.slice A k cap] 22);have hsz:(wr.alloc (.cells #[.slice A k cap] 22)).heap.size=wr.heap.size+1:=by simp
    have hlb:=hbx.lt;have hws:=hnx.size;obtain⟨W0,hW0⟩:∃ W0,wr.alloc (.cells #[.slice A k cap] 22)=W0:=⟨_,rfl⟩;rw [hW0] at b4 hbx4 hB0 hsz ⊢;clear hW0
    refine wpIn_rangeFunc_ownG rfl h1 (gf:=164) (lb:=#[.pointer (some ⟨wr.heap.size,0,none⟩)]) rfl trivial (enters_of Tryz.func164 (by kernel_rfl) rfl)
     (tyIter_stopsIn (n-1) (by omega) wr.heap.size w A k cap es hE W0 hB0 (by omega) b4.cell) belowK_t (belowK_b (by omega)) (Below.refl _ _) (fun _=>rfl)
     (fun pre W=>(Boxed W w.heap.size 4 (.bool false)∧∀ p∈pre,hiB p.1.2.2=true)∧Below w.heap.size w W)
     (fun c pre W=>((c=.ret∧∃ ini last,pre=ini++[last]∧hiB last.1.2.2=false)∧Boxed W w.heap.size 4 (.bool false))∧Below w.heap.size w W)
     (OwnFrom.and (OwnFrom.and (Own.from (boxed_own _ _ (fun _=>_)) _) (ownFrom_pure _ _)) (ownFrom_below (Nat.le_refl _) (by omega)))
     (fun c=>OwnFrom.and (OwnFrom.and (ownFrom_pure _ _) (Own.from (boxed_own _ _ (fun _=>_)) _)) (ownFrom_below (Nat.le_refl _) (by omega)))
     ⟨⟨hbx4,by simp⟩,hB0⟩
     (fun x=>{ tmps:=#[.slice A k cap,undef,.pointer (some ⟨w.heap.size,0,none⟩),undef,u4,undef,.string x.1.2.2,.slice A k cap,.int .i64 k,.int .i64 k,.bool false,u11,u12,u13,u14,u15,u16,u17,u18,u19,u20,u21,u22,u23,.slice A k cap,.func (.func 164) #[] #[.pointer (some ⟨wr.heap.size,0,none⟩)],.agg #[.int .i64 (x.1.1:Int),.int .i64 (x.1.2.1:Int)],.string x.1.2.2,undef,undef,undef],defers:=[] }) ?assign ?body ?done ?stop
    case assign=>
     intro l x W K hK;simp only [encPl]
     gi_wp2
     exact hK
    case body=>
     rintro l pre ⟨⟨xi,xk,xc⟩,hx⟩ W ⟨⟨hb,hp⟩,hB⟩ hlt;have hxz:=hok.flat _ hx
     dsimp only at hxz
     unfold maxLen at hxz;have e1:=hb.cell;have f1:=hb.frozen;have hd:1≤n-1-1:=by omega
     have HHI:=Hd (show hiB xc=highB xc.data.toList from rfl)
     by_cases hhi:highB xc.data.toList=true
     · gi_wp2_with fail
       refine⟨trivial,(CallsIn.inRound l (callsIn_wide.2 (idHigh xc _ (by omega)))).mono ?_⟩;rw [hhi];rintro e w3 ⟨rfl,hb3⟩;have HB3:=Hd hb3;clear hb3
       gi_wp2_with fail
       exact⟨keepsFrom_below HB3.out,HB3.out.mono hB.size,⟨boxed_below hb HB3.out hb.lt,fun p hp'=>(List.mem_append.1 hp').elim (hp p) (fun e=>by simp at e;subst e;exact HHI.out.trans hhi)⟩,hB.trans (HB3.out.mono hB.size)⟩
     · have hhi:highB xc.data.toList=false:=by simpa using hhi
       gi_wp2_with fail
       refine⟨trivial,(CallsIn.inRound l (callsIn_wide.2 (idHigh xc _ (by omega)))).mono ?_⟩;rw [hhi];rintro e w3 ⟨rfl,hb3⟩;have HB3:=Hd hb3;clear hb3;have hb':=boxed_below hb HB3.out hb.lt;have e2:=hb'.cell;have f2:=hb'.frozen
       gi_wp2_with fail
       exact⟨((keepsFrom_below HB3.out).trans ((KeepsOthers.setCell _ _ _).from _)),⟨⟨rfl,pre,_,rfl,HHI.out.trans hhi⟩,hb'.set (.bool false)⟩,(hB.trans (HB3.out.mono hB.size)).setCell (p:=⟨w.heap.size,0,none⟩) (Nat.le_refl _) _⟩
    case done=>
     rintro D ys W hD hys ⟨⟨hb,hp⟩,hB⟩ hK;have e1:=hb.cell;have f1:=hb.frozen
     gi_wp2
     have hK':=(KeepsOthers.setCell W ⟨w.heap.size,0,none⟩ (.bool true)).same D _ hK rfl;have k1:=((hb.set (.bool true)).kept (grownBy_putObj' _ D (.deferred none)) (fun e=>by cases e;omega)).cell;refine⟨by simp,.inl ⟨_,_,rfl,run_takeDeferred hK',?_⟩⟩;refine⟨.bool true,?_,by rw [named_yes HALL.out fun p hp'=>by rw [← hys] at hp';obtain⟨q,hq,rfl⟩:=List.mem_map.1 hp';exact hp q hq],(hB.setCell (p:=⟨w.heap.size,0,none⟩) (Nat.le_refl _) _).trans (belowK_b (w:=w) (Nat.le_refl _) _ D _ _ (by omega) hK' rfl rfl)⟩
     simp [results,Tryz.f95,go_sem,k1]
    case stop=>
     rintro D c pre W hD hpre ⟨⟨⟨rfl,ini,last,rfl,hl⟩,hb⟩,hB⟩ hK
     gi_wp2
     have k1:=(hb.kept (grownBy_putObj' _ D (.deferred none)) (fun e=>by cases e;omega)).cell;refine⟨by simp,.inl ⟨_,_,rfl,run_takeDeferred hK,?_⟩⟩;refine⟨.bool false,?_,by rw [named_no (ini:=ini.map (·.1)) (x:=last.1) (by simpa using hpre) hl],hB.trans (belowK_b (w:=w) (Nat.le_refl _) _ D _ _ (by omega) hK rfl rfl)⟩
     simp [results,Tryz.f95,go_sem,k1]
theorem tyNamed(A:Option Addr) (len cap:Nat) (es:List En) (w:World) (hE:RdE w A len es) (hok:EsOk es):
 Calls Tryz.prog 95 #[.slice A len cap] w fun e w'=>e=.returned (.bool (namedB es))∧Below w.heap.size w w' :=
 callsIn_wide.1 (tyNamed_in 6 (Nat.le_refl _) A len cap es w hE hok)
end
section
open Go.RowKit Go.Shelf
attribute [local go_sem] Oper.semAt_some
def nmsE(es:List En):List ByteArray:=es.map (·.1)
def apartB(es:List En):Bool:=onceS (nmsE es) && onceS (allE es)
def EsFew(es:List En):Prop:=es.length≤8∧∀ j,j<es.length→(csE es j).length≤12
section
variable {es:List En}
theorem EsFew.flat(h:EsFew es):(flatE es).length≤96:=by
 have h1:=namesTo_len (es:=es) (i:=es.length) h.2;have h2:(namesTo es es.length).length=(flatE es).length:=by simp [namesTo,flatE]
 have:=h.1;omega
theorem EsOk.nms(h:EsOk es):∀ s∈nmsE es,s.size≤maxLen:=by
 intro s hs;obtain⟨e,he,rfl⟩:=List.mem_map.1 hs;obtain⟨j,hj,rfl⟩:=List.getElem_of_mem he;have:=(h j hj).1;unfold nmE at this;rwa [List.getElem?_eq_getElem hj] at this
theorem EsOk.all(h:EsOk es):∀ s∈allE es,s.size≤maxLen:=by
 intro s hs;obtain⟨p,hp,rfl⟩:=List.mem_map.1 hs;exact h.flat p hp
theorem nmsE_len:(nmsE es).length=es.length:=by simp [nmsE]
theorem nmsE_succ{k:Nat}(h:k<es.length):(nmsE es).take (k+1)=(nmsE es).take k++[nmE es k]:=by
 rw [take_snocT (by rw [nmsE_len];exact h)];unfold nmsE;rw [nm_map]
end
theorem cell_one_new2(w:World) (o:Obj) (v:Value) (T:TypeId) (h:o.isCells=true∨True):∀ j u,[v][j]?=some u→((w.alloc o).alloc (.cells #[v] T)).cell? ((⟨w.heap.size+1,0,none⟩:Addr).add j)=some u:=by
 have:=cell_one_new (w.alloc o) v T
 simpa using this
theorem row_own{β:Type}(base:Nat) (e:TypeId) (size:Nat) (v:Value) (k:Nat) (xs:List Value):Own (fun(_:β) W=>W.ownsRow base e size v k xs):=fun s X Y row hs hg hrow=>by
 refine hs.kept hg ?_;rcases hs.2 with⟨rfl,_⟩|⟨g,cap,cur,rfl,_,hgb,_⟩
 · exact .inl rfl
 · refine .inr fun e'=>?_;obtain⟨o,ho,hc⟩:=hrow g (by simpa [Value.ownBlock] using e'.symm);rw [hgb] at ho;cases ho;cases hc
theorem boxed_appended{W w1:World}{n₀ m₀ B:Nat}{t e:TypeId}{size:Nat}{v v':Value}{k m:Nat}{xs ys:List Value}{tmp:Obj}
 (hv:Boxed W B t v) (hte:t≠e) (hrow:W.ownsRow n₀ e size v k xs) (hn₀:n₀≤W.heap.size) (hm:m₀≤n₀) (hB:m₀≤B)
 (hown':w1.ownsRow n₀ e size v' m ys) (hgrow:(W.alloc tmp).grownBy w1 v.ownBlock):
 Boxed w1 B t v∧Boxed (w1.setCell ⟨B,0,none⟩ v') B t v'∧(w1.setCell ⟨B,0,none⟩ v').ownsRow n₀ e size v' m ys∧KeepsOthers W (w1.setCell ⟨B,0,none⟩ v')∧Below m₀ W (w1.setCell ⟨B,0,none⟩ v') ∧
  ∀ {base sz:Nat}{u:Value}{ku:Nat}{us:List Value},W.ownsRow base e sz u ku us→(∀ g,u.ownBlock=some g→g<n₀)→(w1.setCell ⟨B,0,none⟩ v').ownsRow base e sz u ku us:=by
 have hv1:Boxed w1 B t v:=(hv.alloc tmp).kept hgrow (hv.not_row hte hrow);refine⟨hv1,hv1.set v',hown'.kept (grownBy_setCell' w1 B v') (.inr (hv1.not_row hte hown').symm),?_,?_,?_⟩
 · refine((KeepsOthers.alloc W tmp).trans (KeepsOthers.of_grownBy hgrow fun j o ej hj=>?_)).trans (KeepsOthers.setCell _ _ _);rcases(hrow.alloc tmp).2 with⟨rfl,_⟩|⟨g,cap,cur,rfl,_,hgb,_⟩
   · simp [Value.ownBlock] at ej
   · obtain rfl:g=j:=by simpa [Value.ownBlock] using ej
     rw [hgb] at hj;cases hj;rfl
 · refine(((Below.refl m₀ W).alloc (by omega) tmp).grown hgrow (by simp;omega) fun j ej=>?_).setCell (p:=⟨B,0,none⟩) hB v';have:=(hrow.lt j ej).1;omega
 · intro base sz u ku us hu hlt
   have h2:w1.ownsRow base e sz u ku us:=(hu.alloc tmp).kept hgrow (by
    rcases hub:u.ownBlock with _ | g
    · exact .inl rfl
    · refine .inr fun e'=>?_;have h3:=hlt g hub;have h4:=(hrow.lt g e'.symm).1;omega)
   exact h2.kept (grownBy_setCell' w1 B v') (.inr (hv1.not_row hte h2).symm)
theorem tyApart_in(n:Nat) (hn:6≤n) (A:Option Addr) (len cap:Nat) (es:List En) (w:World) (hE:RdE w A len es) (hok:EsOk es) (hfew:EsFew es):
 CallsIn Fence.wide n Tryz.prog 96 #[.slice A len cap] w fun e w'=>e=.returned (.bool (apartB es))∧Below w.heap.size w w':=by
 have h1:1≤n:=by omega
 have hlen:=hE.len;have hmx:=hE.max;have hl8:=hfew.1;obtain⟨i0,hi,hz0,hz1,hz2⟩:=info_parts infoString;refine callsIn_of_wp_marks Tryz.func96 rfl trivial ?_ rfl;simp only [Tryz.ntmps96,List.size_toArray,List.length_cons,List.length_nil,Nat.reduceAdd,Nat.reduceSub,Array.replicate_succ,Array.replicate_zero,List.push_toArray,List.append_toArray,List.nil_append,List.cons_append]
 gi_wp2_with fail
 gi_loopw [3,11] (fun v i wr=>∃ k:Nat,k≤len∧i=.int .i64 k∧wr.ownsRow (w.heap.size+1) 9 1 v k (((nmsE es).take k).map Value.string)∧Boxed wr w.heap.size 49 (.slice none 0 0)∧Below w.heap.size w wr)
  (fun _ i _=>len-(intOf i).toNat)
 case atStart=>exact⟨0,Nat.zero_le _,rfl,World.ownsRow_nil _ _ _ _,Boxed.new _ _ _,(Below.refl _ _).alloc (Nat.le_refl _) _⟩
 case round=>
  obtain⟨k,hk,rfl,hrow,hbx,hnx⟩:=hrel;have hblt:=hbx.lt
  by_cases hlt:k<len
  · obtain⟨b,off,rfl,hb,hc⟩:=hE.at_ hlt;obtain⟨hn0,A',n',c',hs0,hR0⟩:=hc k hlt;have hn1:wr.cell? ⟨b,off+k*2,none⟩=some (.string (nmE es k)):=(hnx.cell (p:=⟨b,off+k*2,none⟩) hb).trans hn0;have hs1:wr.cell? ⟨b,off+k*2+1,none⟩=some (.slice A' n' c'):=(hnx.cell (p:=⟨b,off+k*2+1,none⟩) hb).trans hs0;have hkl:k<es.length:=by omega
    have hNM:=Hd (nmsE_succ hkl);generalize hxn:nmE es k=x at hn1 hNM
    gi_wp2_with (gi_at_builtin;refine wpListIn_append_own _ rfl _ _ 49 rfl (w.heap.size+1) 9 i0 (.string ByteArray.empty) 1 16 Tryz.underlying49 hi hz0 hz1 hz2 rfl (by decide) _ _ _ rfl ((hrow.alloc _).alloc _) ⟨wr.heap.size+1,0,none⟩ 1 1 [.string x] rfl rfl (cell_one_new2 _ _ _ _ (.inr trivial)) (string_cells [x]) (by unfold maxLen;omega) (by omega) (by simp;omega) ?_;intro v' w1 hown' hgrow _)
    have HO:=Hd hown';have hbx1:=(hbx.alloc (.cells #[.string x,.slice A' n' c'] 66)).alloc (.cells #[.string x] 9);have HB1:=Hd (hbx1.kept hgrow (hbx1.not_row (by decide) ((hrow.alloc _).alloc _)));have HG:=Hd ((((hnx.alloc hnx.size (.cells #[.string x,.slice A' n' c'] 66))).alloc (by have:=hnx.size;simp;omega) (.cells #[.string x] 9)).grown hgrow (by have:=hnx.size;simp;omega) (fun j hj=>by have:=(hrow.lt j hj).1;omega));clear hown' hgrow hbx1 hrow
    go_roundw
    case rel=>exact⟨k+1,by omega,by go_num,by rw [hNM.out,List.map_append];exact HO.out,HB1.out,HG.out⟩
    case measure=>simp [intOf];omega
  · obtain rfl:k=len:=by omega
    gi_wp2_with fail
    refine⟨trivial,(callsIn_wide.2 (tyCtors _ _ _ _)).mono ?_⟩;rintro e w' ⟨rfl,rfl⟩
    gi_wp2_with fail
    have b4:=Boxed.new wr 22 (.slice A k cap);have hbx4:=hbx.alloc (.cells #[.slice A k cap] 22);have hrow4:=hrow.alloc (.cells #[.slice A k cap] 22);have hB0:=hnx.alloc hnx.size (.cells #[.slice A k cap] 22);have hsz:(wr.alloc (.cells #[.slice A k cap] 22)).heap.size=wr.heap.size+1:=by simp
    have hlb:=hbx.lt;have hws:=hnx.size;have hu3:∀ g,u3.ownBlock=some g→g<wr.heap.size+1:=fun g hg=>by have:=(hrow.lt g hg).2;omega
    have hk12:=hfew.flat;obtain⟨W0,hW0⟩:∃ W0,wr.alloc (.cells #[.slice A k cap] 22)=W0:=⟨_,rfl⟩;rw [hW0] at b4 hbx4 hrow4 hB0 hsz ⊢;clear hW0 hrow hbx hnx
    refine wpIn_rangeFunc_ownG rfl h1 (gf:=164) (lb:=#[.pointer (some ⟨wr.heap.size,0,none⟩)]) rfl trivial (enters_of Tryz.func164 (by kernel_rfl) rfl)
     (tyIter_stops (n-1) (by omega) wr.heap.size w A k cap es hE W0 hB0 (by omega) b4.cell) belowK_t (belowK_b (by omega)) (Below.refl _ _) (fun _=>rfl)
     (fun pre W=>((∃ v,Boxed W w.heap.size 49 v∧W.ownsRow (wr.heap.size+1) 9 1 v pre.length (pre.map fun p=>Value.string p.2.2)∧True)∧W.ownsRow (w.heap.size+1) 9 1 u3 k (((nmsE es).take k).map Value.string)∧wr.heap.size+1≤W.heap.size)∧Below w.heap.size w W)
     (fun _ _ _=>False)
     (OwnFrom.and (OwnFrom.and (Own.from (holdsRow_own (wr.heap.size+1) w.heap.size 49 9 1 (fun(pre:List Pl)=>pre.length) (fun(pre:List Pl)=>pre.map fun p=>Value.string p.2.2) (fun _ _=>True)) _) (OwnFrom.and (Own.from (row_own _ _ _ _ _ _) _) (fun s X Y row hs hg hr=>Nat.le_trans hs hg.size))) (ownFrom_below (Nat.le_refl _) (by omega)))
     (fun _ _ _ _ _ hs _ _=>hs)
     ⟨⟨⟨_,hbx4,World.ownsRow_nil _ _ _ _,trivial⟩,hrow4,by omega⟩,hB0⟩
     (fun x=>{ tmps:=#[.slice A k cap,undef,.bool false,u3,.pointer (some ⟨w.heap.size,0,none⟩),undef,u6,undef,.string x.2.2,.slice A k cap,.int .i64 k,.int .i64 k,.bool false,u13,u14,u15,u16,u17,u18,u19,u20,.slice A k cap,.func (.func 164) #[] #[.pointer (some ⟨wr.heap.size,0,none⟩)],.agg #[.int .i64 (x.1:Int),.int .i64 (x.2.1:Int)],.string x.2.2,undef,undef,undef,undef,undef,undef,undef,undef,undef,undef],defers:=[] }) ?assign ?body ?done ?stop
    case assign=>
     intro l x W K hK;simp only [encPl]
     gi_wp2
     exact hK
    case body=>
     rintro l pre x W ⟨⟨⟨v,hv,hrw,_⟩,hrow,hWs⟩,hB⟩ hlt2;have hc:=hv.cell;generalize hx:x.2.2=xc
     gi_wp2_with (gi_at_builtin;refine wpListIn_append_own _ rfl _ _ 49 rfl (wr.heap.size+1) 9 i0 (.string ByteArray.empty) 1 16 Tryz.underlying49 hi hz0 hz1 hz2 rfl (by decide) _ _ _ rfl (hrw.alloc _) ⟨W.heap.size,0,none⟩ 1 1 [.string xc] rfl rfl (cell_one_new _ _ _) (string_cells [xc]) (by unfold maxLen;omega) (by omega) (by simp;omega) ?_;intro v' w1 hown' hgrow _;obtain⟨g',cap',rfl⟩:=ownsRow_succ hown';obtain⟨hv1,hv2,hr2,hk2,hb2,ho2⟩:=boxed_appended hv (by decide) hrw hWs (by omega) (Nat.le_refl _) hown' hgrow;have hc1:=hv1.cell;have hf1:=hv1.frozen)
     exact⟨hk2.from _,hb2,⟨⟨_,hv2,by rw [List.map_append,List.length_append];simpa [hx] using hr2,trivial⟩,ho2 hrow hu3,Nat.le_trans hWs hk2.size⟩,hB.trans hb2⟩
    case done=>
     rintro D ys W hD rfl ⟨⟨⟨v,hv,hrw,_⟩,hrow,hWs⟩,hB⟩ hK;have hc:=hv.cell;have hDl:=(Array.getElem?_eq_some_iff.1 hK).1;obtain⟨A1,c1,rfl,hR1,_⟩:=RdT.of_own hrow (by omega);have hnm:(nmsE es).take k=nmsE es:=List.take_of_length_le (by rw [nmsE_len];omega);rw [hnm] at hR1;rw [show(flatE es).map (fun p=>Value.string p.2.2)=(allE es).map Value.string by simp [allE]] at hrw;obtain⟨A2,c2,rfl,hR2,_⟩:=RdT.of_own hrw (by omega)
     by_cases ho:onceS (nmsE es)=true
     · have HE:=Hd (show onceS (allE es)=apartB es by simp [apartB,ho])
       gi_wp2_with fail
       refine⟨trivial,(callsIn_wide.2 (idOnce A1 k c1 (nmsE es) _ hR1 hok.nms (by omega))).mono ?_⟩;rw [ho];rintro e w3 ⟨rfl,hb3⟩;have hc3:=(hb3.cell (p:=⟨w.heap.size,0,none⟩) hv.lt).trans hc;have hK3:=(hb3.block D hDl).trans hK;have hR3:=hR2.below hb3;have HB3:=Hd (hB.trans (hb3.mono hB.size));have hs3:=hb3.size;clear hb3
       gi_wp2_with fail
       refine⟨trivial,(callsIn_wide.2 (idOnce A2 _ c2 (allE es) _ hR3 hok.all (by omega))).mono ?_⟩;rw [HE.out];rintro e w4 ⟨rfl,hb4⟩;have hK4:=(hb4.block D (by omega)).trans hK3;have HB4:=Hd (HB3.out.trans (hb4.mono HB3.out.size));clear hb4
       gi_wp2_with fail
       refine⟨by simp,.inl ⟨_,_,rfl,run_takeDeferred hK4,?_⟩⟩;exact⟨_,results_tmp rfl _ _ _,rfl,HB4.out.trans (belowK_b (w:=w) (Nat.le_refl _) _ D _ _ (by omega) hK4 rfl rfl)⟩
     · have ho:onceS (nmsE es)=false:=by simpa using ho
       have HE:=Hd (show false=apartB es by simp [apartB,ho])
       gi_wp2_with fail
       refine⟨trivial,(callsIn_wide.2 (idOnce A1 k c1 (nmsE es) _ hR1 hok.nms (by omega))).mono ?_⟩;rw [ho];rintro e w3 ⟨rfl,hb3⟩;have hK3:=(hb3.block D hDl).trans hK;have HB3:=Hd (hB.trans (hb3.mono hB.size));clear hb3
       gi_wp2_with fail
       refine⟨trivial,?_⟩
       gi_wp2_with fail
       refine⟨by simp,.inl ⟨_,_,rfl,run_takeDeferred hK3,?_⟩⟩;rw [← HE.out];exact⟨_,results_tmp rfl _ _ _,rfl,HB3.out.trans (belowK_b (w:=w) (Nat.le_refl _) _ D _ _ (by omega) hK3 rfl rfl)⟩
    case stop=>
     rintro D c pre W _ _ h _;exact h.elim
theorem tyApart(A:Option Addr) (len cap:Nat) (es:List En) (w:World) (hE:RdE w A len es) (hok:EsOk es) (hfew:EsFew es):
 Calls Tryz.prog 96 #[.slice A len cap] w fun e w'=>e=.returned (.bool (apartB es))∧Below w.heap.size w w' :=
 callsIn_wide.1 (tyApart_in 6 (Nat.le_refl _) A len cap es w hE hok hfew)
end
end Go.Proofs.YtkbpdoomhfkngaaGreat
