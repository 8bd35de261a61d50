/- Parts of the proof: PgA, Ar, As, At. Conditions: each theorem's own. -/
import Derived.Test.YtegjgiofmpolnaaGreatC02
import Derived.Test.YtegjgiofmpolnaaGreatC06
import Derived.Test.YtegjgiofmpolnaaGreatC07
namespace Go.Proofs.YtegjgiofmpolnaaGreat
set_option linter.unusedVariables false
set_option linter.unusedSimpArgs false
set_option maxRecDepth 100000
set_option maxHeartbeats 40000000
section
open Go.RowKit Go.Sort
theorem Yp:type_of% @Nat.le_trans:=@Nat.le_trans
theorem Yr:type_of% @Nat.lt_of_lt_of_le:=@Nat.lt_of_lt_of_le
end
section
open Go.RowKit
def pN(d:Dc):Bool:=!decide (100<d.nm.size) && !decide (100<d.on.size) && !decide (100<d.ct.size)
def iK(l:List Dc):Bool:=l.all pN && decide (l.length<=20)
theorem mO{α:Type} [Inhabited α] {f:α->Bool}{l:List α}{k:Nat}(h:(l.take k).all f=true) (hk:k<l.length) (hf:f (l[k]?.getD default)=true):(l.take (k+1)).all f=true:=by
 rw [List.take_add_one,Yk hk,List.all_append,h];rw [Yk hk] at hf
 simpa using hf
theorem kX{α:Type} [Inhabited α] {f:α->Bool}{l:List α}{k:Nat}(hk:k<l.length) (hf:f (l[k]?.getD default)=false):l.all f=false:=by
 rw [Yk hk] at hf;rw [List.all_eq_false];exact⟨_,Zg hk,by simpa using hf⟩
theorem aPc(A:Option Addr) (n c:Nat) (l:List Dc) (w:World) (h:cH w A n l):
 Calls Tryz.prog 21 #[.slice A n c] w fun e w'=>e=.returned (.bool (iK l))/\w=w':=by
 have Ac:=h.len;have Ag:=h.max;have HL:=Hd Ac
 go_enter Tryz.func21,Tryz.ntmps21
 go_wp2_with fail
 go_loop [3] (fun i=>∃ k:Nat,k<=n/\i=.int .i64 k/\(l.take k).all pN=true) (fun i=>n-(intOf i).toNat)
 case atStart=>exact⟨0,Yq _,rfl,by simp⟩
 case round=>
  obtain⟨k,hk,rfl,Ad⟩:=hrel;have HT:=Hd Ad;clear Ad
  by_cases Ab:k<n
  . obtain⟨b,Af,rfl,hb,hc⟩:=aQ.at_ h (by omega);obtain⟨c0,-,-,-,c4,c5⟩:=(hc k Ab).six;clear hc;have HS:=Hd fun hf=>mO (l:=l) (f:=pN) HT.o (by rw [HL.o];exact Ab) hf;have HN:=Hd fun hf=>kX (l:=l) (f:=pN) (k:=k) (by rw [HL.o];exact Ab) hf;generalize l[k]?.getD default=d at c0 c4 c5 HS HN;have HD:=Hd (show pN d=(!decide (100<d.nm.size) && !decide (100<d.on.size) && !decide (100<d.ct.size)) from rfl);generalize d.nm=x0 at *;generalize d.on=x1 at *;generalize d.ct=x2 at *
    cases d0:decide ((100:Int)<(x0.size:Int)) with
    | true=>
     have Aa:=Hd (HN.o (by rw [HD.o,show decide (100<x0.size)=true by have:=of_decide_eq_true d0;exact Zx (by omega)];simp))
     go_wp2_with fail
     go_ret
     exact⟨aF (by rw [iK,Aa.o];simp),rfl⟩
    | false=>
     cases d1:decide ((100:Int)<(x1.size:Int)) with
     | true=>
      have Aa:=Hd (HN.o (by rw [HD.o,show decide (100<x1.size)=true by have:=of_decide_eq_true d1;exact Zx (by omega)];simp))
      go_wp2_with fail
      go_ret
      exact⟨aF (by rw [iK,Aa.o];simp),rfl⟩
     | false=>
      cases d2:decide ((100:Int)<(x2.size:Int)) with
      | true=>
       have Aa:=Hd (HN.o (by rw [HD.o,show decide (100<x2.size)=true by have:=of_decide_eq_true d2;exact Zx (by omega)];simp))
       go_wp2_with fail
       go_ret
       exact⟨aF (by rw [iK,Aa.o];simp),rfl⟩
      | false=>
       have HY:=Hd (HS.o (by
        have h0:=of_decide_eq_false d0;have h1:=of_decide_eq_false d1;have h2:=of_decide_eq_false d2;rw [HD.o,Zy (show ¬ 100<x0.size by omega),Zy (show ¬ 100<x1.size by omega),Zy (show ¬ 100<x2.size by omega)];rfl))
       go_wp2_with fail
       go_round
       case rel=>exact⟨k+1,by omega,by go_num,HY.o⟩
       case measure=>simp [intOf];omega
  . have Ae:k=n:=by omega
    subst Ae;have HY:=Hd (show l.all pN=true by have:=HT.o;rwa [Yx (by rw [HL.o];exact Yh _)] at this);have HE:=Hd (show iK l=decide ((k:Int)<=20) by rw [iK,HY.o,Bool.true_and,HL.o];simp;omega)
    go_wp2_with fail
    go_ret
    exact⟨aF HE.o.symm,rfl⟩
end
section
open Go Go.Sort Go.RowKit
structure Bs (w:World) (r:Nat) (wb:World):Prop where
 os:wb.os=w.os
 tape:wb.tape=w.tape
 output:wb.output=w.output
 size:w.heap.size<=wb.heap.size
 block:∀ k,k<w.heap.size->k≠r->wb.heap[k]?=w.heap[k]?
theorem aFq{w W:World}{r:Nat}(h:bY w W):Bs w r W:=by
 have hb:=cI h;exact⟨hb.os,hb.tape,hb.output,hb.size,fun k hk _=>hb.block k hk⟩
theorem aRn{w W W':World}{r:Nat}(h:Bs w r W) (h':bY W W'):Bs w r W':=by
 have hb:=cI h';exact⟨hb.os.trans h.os,hb.tape.trans h.tape,hb.output.trans h.output,Yp h.size hb.size,fun k hk hn=>(hb.block k (Yr hk h.size)).trans (h.block k hk hn)⟩
theorem aRo{w W:World}{r:Nat}(h:Bs w r W) (cs:Array Value):Bs w r (W.setRow r cs):=
 ⟨h.os,h.tape,h.output,by have:=h.size;simpa [World.setRow] using this,fun k hk hn=>(setRow_other _ _ _ _ hn).trans (h.block k hk hn)⟩
theorem bF{wS w W:World}{r m:Nat}(h:Bs w r W) (hb:Below m wS w) (hm:m<=wS.heap.size) (hr:m<=r):Below m wS W:=
 ⟨h.os.trans hb.os,h.tape.trans hb.tape,h.output.trans hb.output,Yp hb.size h.size,fun k hk=>(h.block k (by have:=hb.size;omega) (by omega)).trans (hb.block k hk)⟩
theorem aD{w W:World}{r b o:Nat}{v:Value}(h:Bs w r W) (hn:b≠r) (hc:w.cell? ⟨b,o,none⟩=some v):W.cell? ⟨b,o,none⟩=some v:=by
 have hl:b<w.heap.size:=Yi _ _ hc;rw [<- hc];unfold World.cell?;rw [show W.heap[(⟨b,o,none⟩:Addr).block]?=w.heap[(⟨b,o,none⟩:Addr).block]? from h.block b hl hn]
section
variable {P:Program}{md:Region.Mode}{Q:Exit->Act->World->Prop}{l1 l2:List Oper}{os:Oper}{w:World}{p tx:Tmp}{r:Nat}{T:TypeId}{zc:Array Value}
def sS(P:Program) (ops:Array Oper) (Q:Exit->Act->World->Prop) (l2:List Oper) (w:World) (r:Nat) (tx:Tmp) (T:TypeId) (zc:Array Value):Act->Prop:=fun a' =>
 ∃ Aa:Array Value,a'.eval (.tmp tx)=.agg Aa/\Aa.size=zc.size/\Aa.all (·.oneCell')=true /\
  ∀ W,Bs w r W->W.heap[r]?=some (.cells Aa T)->wpList P ops Q l2 a' W
structure OutB (P:Program) (md:Region.Mode) (l1:List Oper) (os:Oper) (l2:List Oper) (p tx:Tmp) (r:Nat) (T:TypeId) (zc:Array Value) (Q:Exit->Act->World->Prop):Prop where
 head:iI md l1=true
 tail:lF md (l1.length+1) l2=true
 np:∀ o∈l1,o.dst≠some p
 gs:os.guard=none
 fs:∀ e∈os.after,Region.binds md e=true->e.on<l1.length
 sx:∀ (i:Nat) o,l1[i]?=some o->o.dst=some tx->∃ e∈os.after,Region.binds md e=true/\e.on=i
 seq:Region.seqB md (l1++os::l2).toArray l2.length (l1.length+1) (fQ (Array.replicate (l1.length+1) true) l2.length)=true
 st:∀ (a:Act) (W:World) (cells:Array Value) (K:Act->World->Prop),a.eval (.tmp p)=.pointer (some ⟨r,0,none⟩)->a.eval (.tmp tx)=.agg cells->W.heap[r]?=some (.cells zc T)->cells.size=zc.size->cells.all (·.oneCell')=true ->
  K a (W.setRow r cells)->os.wp P a W K Q
variable (B:OutB P md l1 os l2 p tx r T zc Q)
include B in
theorem aDc{f i:Nat}{L:Array Bool}{a:Act}{W:World}{K':Act->World->Prop}{KK:Act->Prop}(hC:Bs w r W) (hi:i∈Region.ready md l1.toArray L)
 (h:iE P md l1.toArray (Bs w r) KK (f+1) L a)
 (hK:∀ (v:Value) (W':World) o,bY W W'->l1[i]?=some o->iE P md l1.toArray (Bs w r) KK f (L.setIfInBounds i true) (a.put o.dst v)->K' (a.put o.dst v) W'):
 wpOp P (l1++os::l2).toArray Q i K' a W:=by
 have Aa:=nB hi;have ho:l1[i]?=some l1[i]:=Yk Aa;have hf:=h.2 i hi;unfold kC at hf;rw [List.getElem?_toArray,ho] at hf;obtain⟨v,hy,hn⟩:=hf;exact yR Aa ho (vY B.head ho (hy W hC)) fun W' Ab=>hK v W' _ Ab ho hn
include B in
theorem aSz:∀ (f:Nat) (L:Array Bool) (a:Act) (W:World) (Aa:Array Value),L.size=l1.length->Bs w r W->W.heap[r]?=some (.cells Aa T)->a.eval (.tmp tx)=.agg Aa ->
 (∀ (i:Nat) o,l1[i]?=some o->o.dst=some tx->L.getD i true=true)->iE P md l1.toArray (Bs w r) (sS P (l1++os::l2).toArray Q l2 w r tx T zc) f L a ->
 wpAny P md (l1++os::l2).toArray Q (f+l2.length) (eF L true l2.length) a W:=by
 have Ab:∀ (L:Array Bool) (a:Act) (W:World) (Aa:Array Value),L.size=l1.length->Region.ready md l1.toArray L=[]->Bs w r W->W.heap[r]?=some (.cells Aa T)->a.eval (.tmp tx)=.agg Aa ->
  sS P (l1++os::l2).toArray Q l2 w r tx T zc a->wpAny P md (l1++os::l2).toArray Q l2.length (eF L true l2.length) a W:=fun L a W Aa hL hr hC hz hx h=>by
  obtain⟨cs,e1,_,_,e4⟩:=h;rw [hx] at e1;injection e1 with e1;subst e1;exact aO9 B.tail B.head B.seq hL hr (e4 W hC hz)
 intro f
 induction f with
 | zero=>
  intro L a W Aa hL hC hz hx hm h;rw [Nat.zero_add];exact Ab L a W Aa hL h.1 hC hz hx h.2
 | succ f ih=>
  intro L a W Aa hL hC hz hx hm h
  by_cases hr:Region.ready md l1.toArray L=[]
  . exact vW _ _ (Ab L a W Aa hL hr hC hz hx (h.1 hr))
  . rw [Nat.add_right_comm];obtain⟨i0,Ac⟩:=List.exists_mem_of_ne_nil _ hr;refine⟨fun h0=>?_,fun i hi=>?_⟩
    . have:=(rL (oa:=os) (l2:=l2) B.head hL (m:=l2.length) (b:=true) (nB Ac)).2 Ac;rw [h0] at this
      cases this
    . have Ah:i<l1.length:=by
       rcases Nat.lt_or_ge i l1.length with h1 | h1
       . exact h1
       . rcases Nat.lt_or_ge i (l1.length+1) with h2 | h2
         . obtain rfl:i=l1.length:=by omega
           have:=(mem_ready.1 hi).1;rw [<- hL,uK] at this
           cases this
         . have:=(aC9 B.tail hL h2 hi).2 i0 (nB Ac);rw [(mem_ready.1 Ac).1] at this
           cases this
      have Ae:=(rL (oa:=os) (l2:=l2) B.head hL (m:=l2.length) (b:=true) Ah).1 hi;rw [uL (by omega)];refine aDc B hC Ae h fun v W' o Ad ho hn=>?_
      have Ag:o.dst≠some tx:=fun e=>by
       have h1:=hm i o ho e;rw [(mem_ready.1 Ae).1] at h1
       cases h1
      have Af:r<W.heap.size:=(Yl.1 hz).1;exact ih _ _ W' Aa (by simp [hL]) (aRn hC Ad) (((cI Ad).block r Af).trans hz) ((nN Ag).trans hx) (fun j oj hj e=>rM (hm j oj hj e)) hn
include B in
theorem aS0:∀ (f:Nat) (L:Array Bool) (a:Act) (W:World),L.size=l1.length->bY w W->W.heap[r]?=some (.cells zc T)->a.eval (.tmp p)=.pointer (some ⟨r,0,none⟩) ->
 iE P md l1.toArray (Bs w r) (sS P (l1++os::l2).toArray Q l2 w r tx T zc) f L a ->
 wpAny P md (l1++os::l2).toArray Q (f+1+l2.length) (eF L false l2.length) a W:=by
 have Ac:∀ (f:Nat) (L:Array Bool) (a:Act) (W:World),L.size=l1.length->bY w W->W.heap[r]?=some (.cells zc T)->a.eval (.tmp p)=.pointer (some ⟨r,0,none⟩) ->
  iE P md l1.toArray (Bs w r) (sS P (l1++os::l2).toArray Q l2 w r tx T zc) f L a->l1.length∈Region.ready md (l1++os::l2).toArray (eF L false l2.length) ->
  wpOp P (l1++os::l2).toArray Q l1.length (wpAny P md (l1++os::l2).toArray Q (f+l2.length) ((eF L false l2.length).setIfInBounds l1.length true)) a W:=fun f L a W hL hC hz hp h hi=>by
  obtain⟨_,o,ho,Ad⟩:=mem_ready.1 hi;rw [uN] at ho;obtain rfl:=Option.some.inj ho
  have hm:∀ (i:Nat) o,l1[i]?=some o->o.dst=some tx->L.getD i true=true:=fun i o ho e=>by
   obtain⟨x,hx,hb,Ak⟩:=B.sx i o ho e;have hl:i<l1.length:=(List.getElem?_eq_some_iff.1 ho).1;have:=Ad x hx hb;rw [Ak,nW (by omega)] at this
   simpa [Array.getD,hL,hl] using this
  obtain⟨a',⟨Aa,e1,e2,e3,_⟩,e5⟩:=vZ (tx:=tx) f L a h fun i o ho hl e=>by
   rw [List.getElem?_toArray] at ho;rw [hm i o ho e] at hl
   cases hl
  have hx:a.eval (.tmp tx)=.agg Aa:=e5.symm.trans e1;unfold wpOp;rw [uN];simp only;rw [if_pos (by simp [Region.wanted,B.gs])];refine .inl (B.st _ W Aa _ hp hx hz e2 e3 ?_);rw [<- hL,aE8];have Al:W.heap[r]?=some (.cells zc T (0,0)):=hz;exact aSz B f L a _ Aa hL (aRo (aFq hC) Aa) (Xc _ _ _ _ _ _ Al) hx hm h
 have Ab:∀ (L:Array Bool),L.size=l1.length->Region.ready md l1.toArray L=[]->l1.length∈Region.ready md (l1++os::l2).toArray (eF L false l2.length):=fun L hL hr=>by
  refine mem_ready.2 ⟨?_,os,uN,fun e he hb=>?_⟩
  . rw [<- hL,uK]
  . have hl:=B.fs e he hb;have:=nM B.head hL hr e.on hl;rw [nW (by omega)]
    simpa [Array.getD,hL,hl] using this
 have Ah:∀ (L:Array Bool) i,L.size=l1.length->i∈Region.ready md (l1++os::l2).toArray (eF L false l2.length)->i<=l1.length:=fun L i hL hi=>by
  rcases Nat.lt_or_ge i (l1.length+1) with h1 | h1
  . omega
  . have:=(aC9 B.tail hL h1 hi).1
    cases this
 intro f
 induction f with
 | zero=>
  intro L a W hL hC hz hp h;rw [show 0+1+l2.length=(0+l2.length)+1 by omega];have hm:=Ab L hL h.1;refine⟨fun h0=>(by rw [h0] at hm;cases hm),fun i hi=>?_⟩
  have Ae:i=l1.length:=by
   rcases Nat.lt_or_ge i l1.length with h1 | h1
   . have:=(rL B.head hL h1).1 hi;rw [h.1] at this
     cases this
   . have:=Ah L i hL hi;omega
  subst Ae;exact Ac 0 L a W hL hC hz hp h hi
 | succ f ih=>
  intro L a W hL hC hz hp h;rw [show f+1+1+l2.length=(f+1+l2.length)+1 by omega];refine⟨fun h0=>?_,fun i hi=>?_⟩
  . by_cases hr:Region.ready md l1.toArray L=[]
    . have:=Ab L hL hr;rw [h0] at this
      cases this
    . obtain⟨i0,Af⟩:=List.exists_mem_of_ne_nil _ hr;have:=(rL (oa:=os) (l2:=l2) B.head hL (m:=l2.length) (b:=false) (nB Af)).2 Af;rw [h0] at this
      cases this
  . rcases Nat.lt_or_ge i l1.length with Ae | h1
    . have Ai:=(rL (oa:=os) (l2:=l2) B.head hL (m:=l2.length) (b:=false) Ae).1 hi;rw [uL (by omega)];refine aDc B (aFq hC) Ai h fun v W' o Ag ho hn=>?_;have Aj:r<W.heap.size:=(Yl.1 hz).1;exact ih _ _ W' (by simp [hL]) (oW hC Ag) (((cI Ag).block r Aj).trans hz) ((nN (B.np o (List.mem_of_getElem? ho))).trans hp) hn
    . obtain rfl:i=l1.length:=by have:=Ah L i hL hi;omega
      exact Ac (f+1) L a W hL hC hz hp h hi
end
section
variable {P:Program}{Q:Exit->Act->World->Prop}{l1 l2:List Oper}{os:Oper}{w:World}{p tx:Tmp}{r:Nat}{T:TypeId}{zc:Array Value}
def aF5(l1:List Oper) (os:Oper) (l2:List Oper) (p tx:Tmp):Bool:=
 Region.lexB .any l1.toArray && iI .any l1 && lF .any (l1.length+1) l2 && (os.guard.isNone && os.dst.isNone) && (l1.all fun o=>!(o.dst==some p)) &&
  (os.after.all fun e=>!Region.binds .any e || decide (e.on<l1.length)) &&
  ((List.range l1.length).all fun i=>!(((l1[i]?).bind (·.dst))==some tx) || os.after.any fun e=>Region.binds .any e && e.on==i) &&
  Region.seqB .any (l1++os::l2).toArray l2.length (l1.length+1) (fQ (Array.replicate (l1.length+1) true) l2.length)
theorem bZ{id:Nat}{a:Act}(hm:P.follows .mixedOrders=true) (hB:aF5 l1 os l2 p tx=true) (hp:a.eval (.tmp p)=.pointer (some ⟨r,0,none⟩)) (hz:w.heap[r]?=some (.cells zc T))
 (Ac:os.op=.store T (.tmp p) (.tmp tx)) (hi:(P.info? T).map (·.size)=some zc.size)
 (h:qU P l1.toArray (Bs w r) (sS P (l1++os::l2).toArray (fun e a w=>Q e a w) l2 w r tx T zc) l1 a):(Code.region id (l1++os::l2).toArray true).wp P Q a w:=by
 simp only [aF5,Ys] at hB;obtain⟨⟨⟨⟨⟨⟨⟨h1,h2⟩,h3⟩,h5,h6⟩,h7⟩,h8⟩,h9⟩,Ad⟩:=hB;simp only [Region.lexB,Ys] at h1;have h0:=vX h1.1 l1 0 (Array.replicate l1.toArray.size false) a (by simp) (by simpa using h1.2) h;have gs:os.guard=none:=by simpa using h5
 have ds:os.dst=none:=by simpa using h6
 have B:OutB P .any l1 os l2 p tx r T zc Q:={
  head:=h2,tail:=h3,gs:=gs,seq:=Ad
  np:=fun o ho e=>by
   have:=Zf.1 h7 o ho
   simp [e] at this
  fs:=fun e he hb=>by
   have:=Array.all_eq_true_iff_forall_mem.1 h8 e he
   simpa [hb] using this
  sx:=fun i o ho e=>by
   have hl:i<l1.length:=(List.getElem?_eq_some_iff.1 ho).1;have:=Zf.1 h9 i (List.mem_range.2 hl);rw [ho] at this;simp only [Option.bind_some,e,beq_self_eq_true,Bool.not_true,Bool.false_or] at this;obtain⟨x,hx,h⟩:=Array.any_eq_true'.1 this;simp only [Ys,beq_iff_eq] at h;exact⟨x,hx,h.1,h.2⟩
  st:=fun a W Aa K e1 e2 e3 e4 e5 hK=>wp_store_row T (.tmp p) (.tmp tx) Ac r Aa e1 e2 T zc e3 (by rw [hi,e4]) e4.symm e5 (by rw [ds];exact hK) }
 refine wp_region_any hm ?_;have hC:bY w { w with drawn:=w.drawn+1 }:=⟨⟨w.drawn+1,#[]⟩,by rw [grow_empty];rfl⟩;have Ab:=aS0 B l1.length (Array.replicate l1.toArray.size false) a { w with drawn:=w.drawn+1 } (by simp) hC hz hp h0;have e1:(l1++os::l2).toArray.size=l1.length+1+l2.length:=by simp;omega
 have e2:Array.replicate (l1++os::l2).toArray.size false=eF (Array.replicate l1.toArray.size false) false l2.length:=by
  rw [e1];unfold eF;rw [<- Array.replicate_succ,Array.replicate_append_replicate]
  simp
 rw [e2,e1];exact Ab
end
end
section
open Go Go.Sort Go.RowKit
section
variable {P:Program}{md:Region.Mode}{Q:Exit->Act->World->Prop}{ops:Array Oper}{Bp:World->Prop}{K:Act->Prop}{d tx:Tmp}{T:TypeId}{zc:Array Value}
def fY(o:Oper):Bool:=match o.op with | .alloc _=>true | .store _ _ _=>true | _=>false
def sG(o:Oper) (v:Value) (a:Act):Act:=if fY o=true then a else a.put o.dst v
def yG(P:Program) (ops:Array Oper) (Bp:World->Prop) (o:Oper) (v:Value) (a:Act):Prop:=fY o=true\/lU P ops Bp o v a
theorem oH{o:Oper}(h:fY o=true) (v:Value) (a:Act):sG o v a=a:=if_pos h
theorem oK{o:Oper}(h:fY o=false) (v:Value) (a:Act):sG o v a=a.put o.dst v:=if_neg (by rw [h];decide)
def lK(P:Program) (ops:Array Oper) (Bp:World->Prop) (i:Nat) (K:Act->Prop) (a:Act):Prop:=
 match ops[i]? with
 | none=>K a
 | some o=>∃ v,yG P ops Bp o v a/\K (sG o v a)
def qL(P:Program) (md:Region.Mode) (ops:Array Oper) (Bp:World->Prop) (K:Act->Prop):Nat->Array Bool->Act->Prop
 | 0,L,a=>Region.ready md ops L=[]/\K a
 | f+1,L,a=>(Region.ready md ops L=[]->K a)/\∀ i∈Region.ready md ops L,lK P ops Bp i (qL P md ops Bp K f (L.setIfInBounds i true)) a
def pH(P:Program) (ops:Array Oper) (Bp:World->Prop) (K:Act->Prop):List Oper->Act->Prop
 | [],a=>K a
 | o::rest,a=>∃ v,yG P ops Bp o v a/\pH P ops Bp K rest (sG o v a)
theorem aB7{i:Nat}{a:Act}{K K':Act->Prop}(h:∀ a,K a->K' a) (hh:lK P ops Bp i K a):lK P ops Bp i K' a:=by
 unfold lK at *
 cases ho:ops[i]? with
 | none=>simp only [ho] at hh ⊢;exact h _ hh
 | some o=>
  simp only [ho] at hh ⊢;obtain⟨v,h1,h2⟩:=hh;exact⟨v,h1,h _ h2⟩
theorem aMm{j:Nat}{oi oj:Oper}{v:Value}(hj:ops[j]?=some oj) (Ac:oi.apart ops oj=true) (Ab:∀ cs b,oi.op≠.select cs b) (Ad:∀ cs b,oj.op≠.select cs b){K:Act->Prop}{a:Act}
 (hy:yG P ops Bp oi v a) (h:lK P ops Bp j K (sG oi v a)):lK P ops Bp j (fun a'=>yG P ops Bp oi v a'/\K (sG oi v a')) a:=by
 obtain⟨h1,h2,h3⟩:=Oper.apart_spec Ac
 cases hm:fY oi with
 | true=>
  rw [oH hm] at h;exact aB7 (fun a' h'=>⟨.inl hm,by rw [oH hm];exact h'⟩) h
 | false=>
  have hy:lU P ops Bp oi v a:=hy.resolve_left (by rw [hm];decide);rw [oK hm] at h;unfold lK at *;simp only [hj] at *;obtain⟨u,hu,hn⟩:=h
  cases Aa:fY oj with
  | true=>
   rw [oH Aa] at hn;refine⟨u,.inl Aa,?_⟩;rw [oH Aa,oK hm];exact⟨.inr hy,hn⟩
  | false=>
   have hu:lU P ops Bp oj u (a.put oi.dst v):=hu.resolve_left (by rw [Aa];decide);rw [oK Aa] at hn;refine⟨u,.inr fun wb hb=>(hu wb hb).of_same (execOp_put oj Ad a oi.dst v h1).symm (wanted_put oj a oi.dst v h1).symm,?_⟩;rw [oK Aa,oK hm];refine⟨.inr fun wb hb=>(hy wb hb).of_same (execOp_put oi Ab a oj.dst u h3) (wanted_put oi a oj.dst u h3),?_⟩;rw [<- Act.put_comm a v u h2];exact hn
theorem aGm{i:Nat}{oi:Oper}{v:Value}(hi:ops[i]?=some oi) (Af:∀ (j:Nat) (o:Oper) cs b,ops[j]?=some o->o.op≠.select cs b):
 ∀ (Aa:Nat) (L:Array Bool) (a:Act),
  (∀ j oj,ops[j]?=some oj->j≠i->L.getD j true=false->(∀ e∈oj.after,Region.binds md e=true->e.on≠i)->oi.apart ops oj=true) ->
  i∈Region.ready md ops L->yG P ops Bp oi v a->qL P md ops Bp K Aa (L.setIfInBounds i true) (sG oi v a)->qL P md ops Bp K (Aa+1) L a:=by
 have Ak:∀ {K:Act->Prop}{a:Act},yG P ops Bp oi v a->K (sG oi v a)->lK P ops Bp i K a:=fun hy h=>by
  unfold lK;simp only [hi];exact⟨v,hy,h⟩
 intro Aa
 induction Aa with
 | zero=>
  intro L a _ hr hy H;refine⟨fun h=>(by rw [h] at hr;cases hr),fun j hj=>?_⟩
  by_cases Ac:j=i
  . subst Ac;exact Ak hy H
  . have:=ready_mono hj Ac;rw [H.1] at this
    cases this
 | succ Aa ih=>
  intro L a Ab hr hy H;refine⟨fun h=>(by rw [h] at hr;cases hr),fun j hj=>?_⟩
  by_cases Ac:j=i
  . subst Ac;exact Ak hy H
  . have h1:=H.2 j (ready_mono hj Ac);obtain⟨Ae,oj,Ag,Ai⟩:=mem_ready.1 hj
    have Ah:∀ e∈oj.after,Region.binds md e=true->e.on≠i:=fun e he hb Am=>by
     have h1:=Ai e he hb;have h0:=(mem_ready.1 hr).1;rw [Am] at h1;rcases Nat.lt_or_ge i L.size with h' | h'
     . simp [h'] at h0 h1
       rw [h0] at h1
       cases h1
     . simp [Array.getElem?_eq_none h'] at h1
    have h2:=aMm Ag (Ab j oj Ag Ac Ae Ah) (fun cs b=>Af i oi cs b hi) (fun cs b=>Af j oj cs b Ag) hy h1
    have Ad:∀ k ok,ops[k]?=some ok->k≠i->(L.setIfInBounds j true).getD k true=false->(∀ e∈ok.after,Region.binds md e=true->e.on≠i)->oi.apart ops ok=true:=fun k ok hk Ao Aj An=>by
     refine Ab k ok hk Ao ?_ An
     by_cases Al:j=k
     . subst Al;exact Ae
     . rw [getD_set_ne true Al] at Aj;exact Aj
    refine aB7 (fun a' h3=>ih (L.setIfInBounds j true) a' Ad (ready_mono hr (Ne.symm Ac)) h3.1 ?_) h2;rw [Array.setIfInBounds_comm _ _ Ac];exact h3.2
theorem aAk(hs:Region.noSelect ops=true):∀ (l:List Oper) (k:Nat) (L:Array Bool) (a:Act),(∀ j,l[j]?=ops[k+j]?) ->
 Region.lexFrom md ops l.length k L=true->pH P ops Bp K l a->qL P md ops Bp K l.length L a
 | [],_,_,_,_,hB,h=>⟨by simpa [Region.lexFrom] using hB,h⟩
 | o::l,k,L,a,hl,hB,h=>by
  have h0:ops[k]?=some o:=by simpa using (hl 0).symm
  simp only [Yo,Region.lexFrom,Ys] at hB;obtain⟨⟨hr,hf⟩,Aa⟩:=hB;obtain⟨v,hy,hK⟩:=h
  exact aGm h0 (Region.noSelect_spec hs) l.length L a (Region.free_spec h0 hf) (by simpa using hr) hy
   (aAk hs l (k+1) _ _ (fun j=>by have:=hl (j+1);simpa [Nat.add_assoc,Nat.add_comm 1 j] using this) Aa hK)
theorem aAl:∀ (f:Nat) (L:Array Bool) (a:Act),qL P md ops Bp K f L a->(∀ (i:Nat) o,ops[i]?=some o->L.getD i true=false->o.dst≠some tx)->∃ a',K a'/\a'.eval (.tmp tx)=a.eval (.tmp tx)
 | 0,L,a,h,_=>⟨a,h.2,rfl⟩
 | f+1,L,a,h,hm=>by
  by_cases hr:Region.ready md ops L=[]
  . exact⟨a,h.1 hr,rfl⟩
  . obtain⟨i,hi⟩:=List.exists_mem_of_ne_nil _ hr;obtain⟨hu,o,ho,_⟩:=mem_ready.1 hi;have hf:=h.2 i hi;unfold lK at hf;rw [ho] at hf;obtain⟨v,_,hn⟩:=hf
    obtain⟨a',h1,h2⟩:=aAl f _ _ hn fun j oj hj hl=>hm j oj hj (by
     by_cases Aa:i=j
     . subst Aa;exact hu
     . rwa [getD_set_ne true Aa] at hl)
    refine⟨a',h1,h2.trans ?_⟩
    cases Ab:fY o with
    | true=>rw [oH Ab]
    | false=>rw [oK Ab];exact nN (hm i o ho hu)
theorem yS{i:Nat}{o:Oper}(ho:ops[i]?=some o){v:Value}{a:Act}{W:World}{K':Act->World->Prop}(hy:YieldsIn P ops (bY W) o v a) (h:∀ W',bY W W'->K' (a.put o.dst v) W'):wpOp P ops Q i K' a W:=
 wpOp_of_qOp (C:=bY W) (K:=fun a'=>a'=a.put o.dst v) (aC8 W) (fun a' w' Aa e=>by rw [e];exact h w' Aa) (YieldsIn.qOp ho hy rfl)
theorem wO{L:Array Bool}{i:Nat}(h:i<L.size) (b c:Bool):L.getD i b=L.getD i c:=by simp [Array.getD,h]
theorem aEg{L:Array Bool}{i:Nat}:(L.setIfInBounds i true).getD i true=true:=by
 by_cases h:i<L.size
 . simp [Array.getD,h]
 . simp [Array.getD,h]
end
section
variable {P:Program}{md:Region.Mode}{Q:Exit->Act->World->Prop}{l:List Oper}{oa os:Oper}{w:World}{d tx:Tmp}{T:TypeId}{zc:Array Value}{p q:Nat}
def yT(Q:Exit->Act->World->Prop) (w:World) (d tx:Tmp) (T:TypeId) (zc:Array Value):Act->Prop:=fun a' =>
 ∃ Aa:Array Value,a'.eval (.tmp tx)=.agg Aa/\Aa.size=zc.size/\Aa.all (·.oneCell')=true /\
  ∀ W g,bY w W->w.heap.size<=g->W.heap[g]?=some (.cells Aa T)->Q .normal (a'.put (some d) (.pointer (some ⟨g,0,none⟩))) W
structure MidB (P:Program) (md:Region.Mode) (l:List Oper) (p q:Nat) (oa os:Oper) (d tx:Tmp) (T:TypeId) (zc:Array Value) (Q:Exit->Act->World->Prop):Prop where
 head:iI md l=true
 nos:Region.noSelect l.toArray=true
 pa:l[p]?=some oa
 qs:l[q]?=some os
 pq:p≠q
 only:∀ (i:Nat) o,l[i]?=some o->fY o=true->i=p\/i=q
 ma:fY oa=true
 ms:fY os=true
 da:oa.dst=some d
 ne:tx≠d
 ap:∀ (i:Nat) o,l[i]?=some o->fY o=false->oa.apart l.toArray o=true
 ga:oa.guard=none
 gs:os.guard=none
 ds:os.dst=none
 sa:∃ e∈os.after,Region.binds md e=true/\e.on=p
 sx:∀ (i:Nat) o,l[i]?=some o->o.dst=some tx->∃ e∈os.after,Region.binds md e=true/\e.on=i
 al:∀ (a:Act) (W:World),(execOp a.eval oa).run P W=.ok (.value (.pointer (some ⟨W.heap.size,0,none⟩))) (W.alloc (.cells zc T))
 st:∀ (a:Act) (W:World) (g:Nat) (cells:Array Value) (K:Act->World->Prop),a.eval (.tmp d)=.pointer (some ⟨g,0,none⟩)->a.eval (.tmp tx)=.agg cells->W.heap[g]?=some (.cells zc T)->cells.size=zc.size->cells.all (·.oneCell')=true ->
  K a (W.setRow g cells)->os.wp P a W K Q
variable (B:MidB P md l p q oa os d tx T zc Q)
def aF6(l:List Oper) (p q:Nat) (w:World) (d tx:Tmp) (T:TypeId) (zc:Array Value) (L:Array Bool) (a Ab:Act) (W:World):Prop:=
 (L.getD p true=false/\L.getD q true=false/\Ab=a) \/
 (L.getD p true=true/\L.getD q true=false/\∃ g,w.heap.size<=g/\W.heap[g]?=some (.cells zc T)/\Ab=a.put (some d) (.pointer (some ⟨g,0,none⟩))) \/
 (L.getD p true=true/\L.getD q true=true/\∃ g Aa,w.heap.size<=g/\W.heap[g]?=some (.cells Aa T)/\a.eval (.tmp tx)=.agg Aa/\(∀ (i:Nat) o,l[i]?=some o->o.dst=some tx->L.getD i true=true)/\Ab=a.put (some d) (.pointer (some ⟨g,0,none⟩)))
include B in
theorem aRp:∀ (f:Nat) (L:Array Bool) (a Ab:Act) (W:World),L.size=l.length->qL P md l.toArray (bY w) (yT Q w d tx T zc) f L a->bY w W->d<a.tmps.size->aF6 l p q w d tx T zc L a Ab W ->
 wpAny P md l.toArray Q f L Ab W:=by
 have hp:p<l.length:=(List.getElem?_eq_some_iff.1 B.pa).1;have hq:q<l.length:=(List.getElem?_eq_some_iff.1 B.qs).1
 have Ag:∀ (L:Array Bool) (a Ab:Act) (W:World),L.size=l.length->Region.ready md l.toArray L=[]->yT Q w d tx T zc a->bY w W->aF6 l p q w d tx T zc L a Ab W->Q .normal Ab W:=fun L a Ab W hL hr hK hC hS=>by
  have Ac:=nM B.head hL hr;have h1:=Ac p hp;have h2:=Ac q hq;rw [wO (by omega) false true] at h1 h2;rcases hS with⟨e,_,_⟩|⟨_,e,_⟩|⟨_,_,g,Aa,hg,hz,hx,_,rfl⟩
  . rw [h1] at e;cases e
  . rw [h2] at e;cases e
  . obtain⟨Al,e1,_,_,hQ⟩:=hK;rw [hx] at e1;injection e1 with e1;subst e1;exact hQ W g hC hg hz
 intro f
 induction f with
 | zero=>
  intro L a Ab W hL h hC hd hS;exact⟨h.1,Ag L a Ab W hL h.1 h.2 hC hS⟩
 | succ f ih=>
  intro L a Ab W hL h hC hd hS;refine⟨fun h0=>Ag L a Ab W hL h0 (h.1 h0) hC hS,fun i hi=>?_⟩;obtain⟨hu,o,ho,Ac⟩:=mem_ready.1 hi;have hf:=h.2 i hi;unfold lK at hf;rw [ho] at hf;obtain⟨v,hy,hn⟩:=hf;have Ad:l[i]?=some o:=by rwa [List.getElem?_toArray] at ho
  have Aq:i<l.length:=(List.getElem?_eq_some_iff.1 Ad).1
  by_cases Ai:i=p
  . subst Ai;rw [B.pa] at Ad;obtain rfl:=Option.some.inj Ad;rw [oH B.ma] at hn;rcases hS with⟨_,e2,rfl⟩|⟨e1,_⟩|⟨e1,_⟩
    . unfold wpOp;rw [ho];simp only;rw [if_pos (by simp [Region.wanted,B.ga])];refine .inl ?_;unfold Oper.wp;rw [B.al]
      show wpAny P md _ Q f _ (Ab.put oa.dst _) _
      rw [B.da];have hb:=cI hC;exact ih _ Ab _ _ (by simp [hL]) hn (qQ (hb.alloc hb.size _)) hd (.inr (.inl ⟨aEg,by rw [getD_set_ne true B.pq];exact e2,_,hb.size,Zw _ _,rfl⟩))
    . rw [hu] at e1;cases e1
    . rw [hu] at e1;cases e1
  . by_cases Af:i=q
    . subst Af;rw [B.qs] at Ad;obtain rfl:=Option.some.inj Ad;rw [oH B.ms] at hn;rcases hS with⟨e1,_⟩|⟨e1,_,g,hg,hz,rfl⟩|⟨_,e2,_⟩
      . obtain⟨x,hx,hb,Ak⟩:=B.sa;have:=Ac x hx hb;rw [Ak] at this;rw [wO (by omega) true false] at e1
        simp [Array.getD,hL,hp] at this e1
        rw [this] at e1
        cases e1
      . have hm:∀ (j:Nat) o,l[j]?=some o->o.dst=some tx->L.getD j true=true:=fun j o hj e=>by
         obtain⟨x,hx,hb,Ak⟩:=B.sx j o hj e;have hl:j<l.length:=(List.getElem?_eq_some_iff.1 hj).1;have:=Ac x hx hb;rw [Ak] at this
         simpa [Array.getD,hL,hl] using this
        obtain⟨a',⟨Aa,e3,e4,e5,_⟩,e6⟩:=aAl (tx:=tx) f _ _ hn fun j o hj hl e=>by
         rw [List.getElem?_toArray] at hj;have:=rM (i:=i) (hm j o hj e);rw [this] at hl
         cases hl
        have hx:a.eval (.tmp tx)=.agg Aa:=e6.symm.trans e3;unfold wpOp;rw [ho];simp only;rw [if_pos (by simp [Region.wanted,B.gs])];refine .inl (B.st _ W g Aa _ (aDa hd) ((nN (fun e=>B.ne (by injection e with e;exact e.symm))).trans hx) hz e4 e5 ?_);have Ap:W.heap[g]?=some (.cells zc T (0,0)):=hz;exact ih _ a _ _ (by simp [hL]) hn (qQ (Xb (cI hC) hg Aa)) hd (.inr (.inr ⟨by rw [getD_set_ne true (Ne.symm B.pq)];exact e1,aEg,g,Aa,hg,Xc _ _ _ _ _ _ Ap,hx,fun j o hj e=>rM (hm j o hj e),rfl⟩))
      . rw [hu] at e2;cases e2
    . have Ah:fY o=false:=by
       cases Ah:fY o with
       | false=>rfl
       | true=>exact(B.only i o Ad Ah).elim (fun h=>absurd h Ai) (fun h=>absurd h Af)
      have hy:lU P l.toArray (bY w) o v a:=hy.resolve_left (by rw [Ah];decide);rw [oK Ah] at hn;obtain⟨p1,p2,p3⟩:=Oper.apart_spec (B.ap i o Ad Ah);have Am:∀ cs b,o.op≠.select cs b:=fun cs b=>Region.noSelect_spec B.nos i _ cs b ho;have An:∀ g,YieldsIn P l.toArray (bY W) o v (a.put (some d) (.pointer (some ⟨g,0,none⟩))):=fun g=>(hy W hC).of_same (execOp_put _ Am a (some d) _ (B.da ▸ p1)) (wanted_put _ a (some d) _ (B.da ▸ p1));rcases hS with⟨e1,e2,rfl⟩|⟨e1,e2,g,hg,hz,rfl⟩|⟨e1,e2,g,Aa,hg,hz,hx,hm,rfl⟩
      . refine yS ho (hy W hC) fun W' Ae=>?_;exact ih _ _ _ W' (by simp [hL]) hn (oW hC Ae) (by rw [rP];exact hd) (.inl ⟨by rw [getD_set_ne true Ai];exact e1,by rw [getD_set_ne true Af];exact e2,rfl⟩)
      . refine yS ho (An g) fun W' Ae=>?_;have Aj:g<W.heap.size:=(Yl.1 hz).1;exact ih _ _ _ W' (by simp [hL]) hn (oW hC Ae) (by rw [rP];exact hd) (.inr (.inl ⟨by rw [getD_set_ne true Ai];exact e1,by rw [getD_set_ne true Af];exact e2,g,hg,((cI Ae).block g Aj).trans hz,Act.put_comm a (x:=some d) (y:=o.dst) _ _ (B.da ▸ p2)⟩))
      . refine yS ho (An g) fun W' Ae=>?_;have Aj:g<W.heap.size:=(Yl.1 hz).1
        have Ao:o.dst≠some tx:=fun e=>by
         have h1:=hm i o Ad e;rw [hu] at h1
         cases h1
        exact ih _ _ _ W' (by simp [hL]) hn (oW hC Ae) (by rw [rP];exact hd) (.inr (.inr ⟨by rw [getD_set_ne true Ai];exact e1,by rw [getD_set_ne true Af];exact e2,g,Aa,hg,((cI Ae).block g Aj).trans hz,(nN Ao).trans hx,fun j o hj e=>rM (hm j o hj e),Act.put_comm a (x:=some d) (y:=o.dst) _ _ (B.da ▸ p2)⟩))
end
end
section
open Go Go.Sort Go.RowKit
section
variable {P:Program}{Q:Exit->Act->World->Prop}{l:List Oper}{w:World}{K:Act->Prop}{d tx:Tmp}{T:TypeId}{zc:Array Value}{p q:Nat}
def aF7(l:List Oper) (p q:Nat) (oa os:Oper) (d tx:Tmp):Bool:=
 Region.lexB .any l.toArray && iI .any l && (!(p==q) && fY oa && fY os && oa.guard.isNone && os.guard.isNone && os.dst.isNone && !(tx==d)) &&
  ((List.range l.length).all fun i=>((l[i]?).map fun o=>(!fY o || i==p || i==q) && (fY o || oa.apart l.toArray o) && (!(o.dst==some tx) || os.after.any fun e=>Region.binds .any e && e.on==i)).getD true) &&
  (os.after.any fun e=>Region.binds .any e && e.on==p)
theorem lO{id:Nat}{a:Act}(p q:Nat) (oa os:Oper) (hm:P.follows .mixedOrders=true) (Ad:l[p]?=some oa) (Ac:l[q]?=some os) (hB:aF7 l p q oa os d tx=true) (hd:oa.dst=some d) (Af:d<a.tmps.size)
 (Ag:∀ (a:Act) (W:World),(execOp a.eval oa).run P W=.ok (.value (.pointer (some ⟨W.heap.size,0,none⟩))) (W.alloc (.cells zc T)))
 (Ah:os.op=.store T (.tmp d) (.tmp tx)) (hi:(P.info? T).map (·.size)=some zc.size)
 (h:pH P l.toArray (bY w) (yT (fun e a w=>Q e a w) w d tx T zc) l a):(Code.region id l.toArray true).wp P Q a w:=by
 simp only [aF7,Ys] at hB;obtain⟨⟨⟨⟨h1,h2⟩,⟨⟨⟨⟨⟨⟨h3,h4⟩,h5⟩,h6⟩,h7⟩,h8⟩,h9⟩⟩,Ai⟩,Ae⟩:=hB;simp only [Region.lexB,Ys] at h1;have h0:=aAk h1.1 l 0 (Array.replicate l.toArray.size false) a (by simp) (by simpa using h1.2) h;have gs:os.dst=none:=by simpa using h8
 have Aa:∀ (i:Nat) o,l[i]?=some o->(fY o=true->i=p\/i=q)/\(fY o=false->oa.apart l.toArray o=true)/\(o.dst=some tx->∃ e∈os.after,Region.binds .any e=true/\e.on=i):=fun i o ho=>by
  have hl:i<l.length:=(List.getElem?_eq_some_iff.1 ho).1;have:=Zf.1 Ai i (List.mem_range.2 hl);simp only [ho,Option.map_some,Yt,Ys,Bool.or_eq_true,Bool.not_eq_true',beq_iff_eq,Xa] at this;have t1:=this.1.1;have t2:=this.1.2;have t3:=this.2;clear this;refine⟨fun hm=>?_,fun hm=>?_,fun e=>?_⟩
  . rcases t1.elim (fun h=>h.elim (fun h=>Or.inl h) (fun h=>Or.inr (Or.inl h))) (fun h=>Or.inr (Or.inr h)) with h | h | h
    . exact absurd (hm.symm.trans h) (by decide)
    . exact .inl h
    . exact .inr h
  . rcases t2 with h | h
    . exact absurd (hm.symm.trans h) (by decide)
    . exact h
  . rcases t3 with h | h
    . exact absurd e h
    . obtain⟨x,hx,hh⟩:=Array.any_eq_true'.1 h;simp only [Ys,beq_iff_eq] at hh;exact⟨x,hx,hh.1,hh.2⟩
 have B:MidB P .any l p q oa os d tx T zc Q:={
  head:=h2,nos:=h1.1,pa:=Ad,qs:=Ac,ma:=h4,ms:=h5,da:=hd,al:=Ag,ds:=gs
  pq:=by simpa using h3
  ne:=by simpa using h9
  ga:=by simpa using h6
  gs:=by simpa using h7
  only:=fun i o ho=>(Aa i o ho).1
  ap:=fun i o ho=>(Aa i o ho).2.1
  sx:=fun i o ho=>(Aa i o ho).2.2
  sa:=by
   obtain⟨x,hx,hh⟩:=Array.any_eq_true'.1 Ae;simp only [Ys,beq_iff_eq] at hh;exact⟨x,hx,hh.1,hh.2⟩
  st:=fun a W g Ab K e1 e2 e3 e4 e5 hK=>wp_store_row T (.tmp d) (.tmp tx) Ah g Ab e1 e2 T zc e3 (by rw [hi,e4]) e4.symm e5 (by rw [gs];exact hK) }
 refine wp_region_any hm ?_;have hC:bY w { w with drawn:=w.drawn+1 }:=⟨⟨w.drawn+1,#[]⟩,by rw [grow_empty];rfl⟩
 have hf:∀ i,i<l.length->(Array.replicate l.toArray.size false).getD i true=false:=fun i hi=>by
  have Aj:i<l.toArray.size:=by simpa using hi
  simp [Array.getD,hi]
 have hz:=aRp B l.length (Array.replicate l.toArray.size false) a a { w with drawn:=w.drawn+1 } (by simp) h0 hC Af (.inl ⟨hf p (List.getElem?_eq_some_iff.1 Ad).1,hf q (List.getElem?_eq_some_iff.1 Ac).1,rfl⟩);have e1:l.toArray.size=l.length:=by simp
 rw [e1] at hz ⊢;exact hz
theorem lV{Bp:World->Prop}{ops:Array Oper}{o:Oper}{rest:List Oper}{a:Act}{v:Value}{t:Tmp}(hm:fY o=false) (ho:o.dst=some t) (ht:t<a.tmps.size)
 (h1:∀ wb,Bp wb->wpQuiet P ops (fun w'=>∃ p:Regrown,w'=grow (redrawn wb p.d) p.os) (fun a'=>a'.tmps[t]?=some v) [o] a) (h2:pH P ops Bp K rest (a.put (some t) v)):pH P ops Bp K (o::rest) a:=by
 refine⟨v,.inr fun wb hb=>?_,by rw [oK hm,ho];exact h2⟩;have h:=h1 wb hb;unfold wpQuiet at h
 by_cases hw:Region.wanted o (yielded ops a.tmps)=true
 . rw [if_pos hw] at h;obtain⟨v',hq,he⟩:=h;rw [ho] at he;have he:(a.put (some t) v').tmps[t]?=some v:=he;rw [uU ht] at he;rw [Option.some.inj he] at hq;exact .inl ⟨hw,hq⟩
 . rw [if_neg hw,ho] at h;have he:(a.put (some t) undef).tmps[t]?=some v:=h;rw [uU ht] at he;exact .inr ⟨by simpa using hw,(Option.some.inj he).symm⟩
theorem lW{Bp:World->Prop}{ops:Array Oper}{o:Oper}{rest:List Oper}{a:Act}(hm:fY o=true) (h:pH P ops Bp K rest a):pH P ops Bp K (o::rest) a:=
 ⟨undef,.inl hm,by rw [oH hm];exact h⟩
end
end
end Go.Proofs.YtegjgiofmpolnaaGreat
