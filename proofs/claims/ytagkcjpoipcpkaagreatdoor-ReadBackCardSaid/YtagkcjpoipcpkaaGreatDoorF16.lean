/- A part of the proof. Conditions: each theorem's own. -/
import Derived.Test.YtagkcjpoipcpkaaGreatDoorF07
import Derived.Test.YtagkcjpoipcpkaaGreatDoorF12
import Derived.Test.YtagkcjpoipcpkaaGreatDoorF15
namespace Go.Proofs.YtagkcjpoipcpkaaGreatDoor
set_option linter.unusedVariables false
set_option linter.unusedSimpArgs false
set_option maxRecDepth 100000
set_option maxHeartbeats 40000000
section
open Go.RowKit Go.Sort
def bl(b:Nat)(w:World):World:={ w with heap:=w.heap.setIfInBounds b (.cells #[] 0) }
section
variable {b:Nat}{w w':World}
theorem fC:(bl b w).heap.size=w.heap.size:=by simp[bl]
theorem dH{k:Nat}(h:k≠b):(bl b w).heap[k]?=w.heap[k]?:=by
 unfold bl;rw[Array.getElem?_setIfInBounds_ne (Ne.symm h)]
theorem qQ{k:Nat}:(bl b w).heap[b]?=if b<w.heap.size then some (.cells #[] 0)else none:=by
 unfold bl;simp only[Array.getElem?_setIfInBounds];simp
theorem aIr{p:Addr}(h:p.block≠b):(bl b w).cell? p=w.cell? p:=by
 unfold World.cell?;rw[dH h]
theorem rU{p:Addr}{v:Value}(h:(bl b w).cell? p=some v):w.cell? p=some v:=by
 by_cases hp:p.block=b
 . unfold World.cell? at h;rw[hp,qQ (k:=0)]at h;split at h
   . rename_i c x y e;split at e
     . injection e with e;injection e with e1;subst e1;split at h<;>simp at h
     . cases e
   . cases h
 . rwa[aIr hp]at h
theorem iQ(h:Below w.heap.size w w'):Below w.heap.size (bl b w) (bl b w'):=by
 refine⟨h.os,h.tape,h.output,by rw[fC,fC];exact h.size,fun k hk=>?_⟩;by_cases hb:k=b
 . subst hb;rw[qQ (k:=0),qQ (k:=0),if_pos hk,if_pos (Yt hk h.size)]
 . rw[dH hb,dH hb,h.block k hk]
theorem bO2(f:Obj->Obj):(w.heap.modify b f).setIfInBounds b (.cells #[] 0)=w.heap.setIfInBounds b (.cells #[] 0):=by
 apply Array.ext_getElem?;intro i;simp only[Array.getElem?_setIfInBounds,Array.getElem?_modify,Array.size_modify];by_cases h1:b=i<;>simp[h1]
theorem aCu(i:Nat)(v:Value):bl b (w.setCell ⟨b,i,none⟩ v)=bl b w:=by
 unfold bl World.setCell;exact congrArg (fun hp=>{ w with heap:=hp }) (bO2 _)
theorem aVn{g:Nat}(hg:g≠b)(cs:AV):bl b (w.setRow g cs)=(bl b w).setRow g cs:=by
 have e:∀f:Obj->Obj,(w.heap.modify g f).setIfInBounds b (.cells #[] 0)=(w.heap.setIfInBounds b (.cells #[] 0)).modify g f:=fun f=>by
  apply Array.ext_getElem?;intro i;simp only[Array.getElem?_setIfInBounds,Array.getElem?_modify,Array.size_modify];by_cases h1:b=i
  . subst h1;simp[hg]
  . simp[h1]
 unfold bl World.setRow;exact congrArg (fun hp=>{ w with heap:=hp }) (e _)
end
def aU(r:List Tk):Prop:=∃q z,r=q++[z]/\z.k=6
theorem aU.tail{t:Tk}{r:List Tk}(h:aU (t::r))(ht:t.k≠6):aU r:=by
 obtain⟨q,z,e,hz⟩:=h;cases q with
 |nil=>
  simp at e;obtain⟨rfl,rfl⟩:=e;exact absurd hz ht
 |cons a q=>
  simp at e;exact⟨q,z,e.2,hz⟩
theorem aU.cons_{r:List Tk}(h:aU r):∃t r',r=t::r':=by
 obtain⟨q,z,rfl,_⟩:=h;cases q with
 |nil=>exact⟨z,[],rfl⟩
 |cons a q=>exact⟨a,q++[z],rfl⟩
section
variable {w w':World}{b:Nat}{A:OA}{n c:Nat}{all r:List Tk}{bad:Bool}
end
end
section
open Go.RowKit Go.Sort
section
variable {w:World}{b:Nat}{A:OA}{n c:Nat}{all r:List Tk}{bad:Bool}
end
end
section
open Go.RowKit Go.Sort
section
variable {w:World}{b:Nat}{A:OA}{n c:Nat}{all r:List Tk}{bad:Bool}
theorem eD{w w1 w2:World}(h0:Below w.heap.size (bl b w) (bl b w1))(h:Below w1.heap.size (bl b w1) (bl b w2)):Below w.heap.size (bl b w) (bl b w2):=by
 refine h0.trans (h.mono ?_);exact bE4
theorem wA{w w1:World}(h0:Below w.heap.size (bl b w) (bl b w1)):w.heap.size<=w1.heap.size:=by
 exact bE4
end
end
section
open Go.RowKit Go.Sort
theorem aS.up{w w':World}{A:OA}{n:Nat}{ss:LB}(h:aS w A n ss)(hs:w.heap.size<=w'.heap.size)(hk:∀p v,w.cell? p=some v->w'.cell? p=some v):aS w' A n ss:=
 ⟨h.1,h.2.1,fun hn=>by
  obtain⟨b,off,e,hb,hc⟩:=h.2.2 hn;exact⟨b,off,e,by omega,fun i hi=>hk _ _ (hc i hi)⟩⟩
mutual
theorem oP{w w':World}(hs:w.heap.size<=w'.heap.size)(hk:∀p v,w.cell? p=some v->w'.cell? p=some v):∀(x:Ex)(A B:OA),aM w x A B->aM w' x A B
 |.mk _ _ _ _ Ae Aa,A,B,h=>by
  simp only[aM]at h⊢;refine⟨h.1.up hs hk,h.2.1,fun hn=>?_⟩;obtain⟨b,off,e,hb,hr⟩:=h.2.2 hn;exact⟨b,off,e,by omega,aY9 hs hk Aa b off hr⟩
theorem aY9{w w':World}(hs:w.heap.size<=w'.heap.size)(hk:∀p v,w.cell? p=some v->w'.cell? p=some v):∀(l:List Ex)(b off:Nat),iT w l b off->iT w' l b off
 |[],_,_,_=>by simp only[iT]
 |x::l,b,off,h=>by
  simp only[iT]at h⊢;obtain⟨⟨A,ca,B,cb,h1,h2⟩,h3⟩:=h;exact⟨⟨A,ca,B,cb,fun j v hv=>hk _ _ (h1 j v hv),oP hs hk x A B h2⟩,aY9 hs hk l b (off+6) h3⟩
end
def fr(B:Nat)(w:World):World:={ w with heap:=w.heap.mapIdx fun i o=>if i<B then .cells #[] 0 else o }
section
variable {w w1 w':World}{b:Nat}{A:OA}{n c:Nat}{all r:List Tk}{bad:Bool}
def aX(w:World)(g:Nat)(x:Ex)(A:OA)(ca:Nat)(B:OA)(cb:Nat):Prop:=w.heap[g]?=some (Obj.cells (aJ x A ca B cb) 79)
theorem aX.lt{g:Nat}{x:Ex}{A:OA}{ca:Nat}{B:OA}{cb:Nat}(h:aX w g x A ca B cb):g<w.heap.size:=(Ym.1 h).1
theorem aX.kb{g:Nat}{x:Ex}{A':OA}{ca:Nat}{B:OA}{cb:Nat}(h:aX w g x A' ca B cb)(hg:g≠b)(hb:Below w.heap.size (bl b w) (bl b w')):aX w' g x A' ca B cb:=by
 have h1:=hb.block g h.lt;rw[dH hg,dH hg]at h1;exact h1.trans h
theorem aX.alloc{g:Nat}{x:Ex}{A':OA}{ca:Nat}{B:OA}{cb:Nat}(h:aX w g x A' ca B cb)(o:Obj):aX (w.alloc o) g x A' ca B cb:=by
 unfold aX;rw[Below.heap_alloc _ _ _ h.lt];exact h
theorem aX.set{g:Nat}{x y:Ex}{A' A2:OA}{ca ca2:Nat}{B B2:OA}{cb cb2:Nat}(h:aX w g x A' ca B cb):aX (w.setRow g (aJ y A2 ca2 B2 cb2)) g y A2 ca2 B2 cb2:=Xh _ _ _ _ _ _ h
theorem bO3{g:Nat}(h:Below w.heap.size (bl b w) (bl b w1))(hg:g≠b)(hw:w.heap.size<=g)(cs:AV):Below w.heap.size (bl b w) (bl b (w1.setRow g cs)):=by
 rw[aVn hg];exact Xg h hw cs
end
end
section
open Go.RowKit Go.Sort
section
variable {w:World}{b:Nat}{A:OA}{n c:Nat}{all r:List Tk}{bad:Bool}{m:Nat}
end
end
section
open Go.RowKit Go.Sort
section
variable {w:World}{b:Nat}{A:OA}{n c:Nat}{all r:List Tk}{bad:Bool}{m:Nat}
theorem aX.cells{w:World}{g:Nat}{x:Ex}{A1:OA}{Bu:Nat}{B1:OA}{Br:Nat}(h:aX w g x A1 Bu B1 Br):
 w.cell? ⟨g,0,none⟩=some (.int .i64 x.k)/\w.cell? ⟨g,1,none⟩=some (.int .i64 x.n)/\w.cell? ⟨g,2,none⟩=some (.string x.s)/\w.cell? ⟨g,3,none⟩=some (.int .i64 x.op)/\
  w.cell? ⟨g,4,none⟩=some (.slice A1 x.arms.length Bu)/\w.cell? ⟨g,5,none⟩=some (.slice B1 x.subs.length Br):=by
 have hc:∀j,w.cell? ⟨g,j,none⟩=(aJ x A1 Bu B1 Br)[j]?:=fun j=>by
  exact bD6
 exact⟨hc 0,hc 1,hc 2,hc 3,hc 4,hc 5⟩
theorem aX.fz{w:World}{g:Nat}{x:Ex}{A1:OA}{Bu:Nat}{B1:OA}{Br:Nat}(h:aX w g x A1 Bu B1 Br)(j:Nat):w.frozen? ⟨g,j,none⟩=false:=by
 unfold World.frozen?;rw[show w.heap[(⟨g,j,none⟩:Addr).block]?=_ from h];simp
theorem aX.other{g h:Nat}{x:Ex}{A1:OA}{Bu:Nat}{B1:OA}{Br:Nat}(k:aX w g x A1 Bu B1 Br)(hn:g≠h)(cs:AV):aX (w.setRow h cs) g x A1 Bu B1 Br:=(setRow_other _ _ _ _ hn).trans k
theorem aX.drew{g:Nat}{x:Ex}{A1:OA}{Bu:Nat}{B1:OA}{Br:Nat}(k:aX w g x A1 Bu B1 Br):aX w.drew g x A1 Bu B1 Br:=k
theorem aIs{w:World}{g:Nat}{x:Ex}{A1:OA}{Bu:Nat}{B1:OA}{Br:Nat}(h:aX w g x A1 Bu B1 Br)(y:Ex)(A2:OA)(ca2:Nat)(B2:OA)(cb2:Nat):
 (((((w.setCell ⟨g,0,none⟩ (.int .i64 y.k)).setCell ⟨g,1,none⟩ (.int .i64 y.n)).setCell ⟨g,2,none⟩ (.string y.s)).setCell ⟨g,3,none⟩ (.int .i64 y.op)).setCell ⟨g,4,none⟩ (.slice A2 y.arms.length ca2)).setCell ⟨g,5,none⟩ (.slice B2 y.subs.length cb2)=w.setRow g (aJ y A2 ca2 B2 cb2):=by
 have h0:w.heap[g]?=some (.cells (aJ x A1 Bu B1 Br) 79 (0,0)):=h;rw[Xi _ _ _ _ _ _ _ h0];have h1:=Xh _ _ _ ((aJ x A1 Bu B1 Br).setIfInBounds 0 (.int .i64 y.k)) _ _ h0;rw[Xi _ _ _ _ _ _ _ h1,setRow_setRow];have h2:=Xh _ _ _ (((aJ x A1 Bu B1 Br).setIfInBounds 0 (.int .i64 y.k)).setIfInBounds 1 (.int .i64 y.n)) _ _ h0;rw[Xi _ _ _ _ _ _ _ h2,setRow_setRow];have h3:=Xh _ _ _ ((((aJ x A1 Bu B1 Br).setIfInBounds 0 (.int .i64 y.k)).setIfInBounds 1 (.int .i64 y.n)).setIfInBounds 2 (.string y.s)) _ _ h0;rw[Xi _ _ _ _ _ _ _ h3,setRow_setRow];have h4:=Xh _ _ _ (((((aJ x A1 Bu B1 Br).setIfInBounds 0 (.int .i64 y.k)).setIfInBounds 1 (.int .i64 y.n)).setIfInBounds 2 (.string y.s)).setIfInBounds 3 (.int .i64 y.op)) _ _ h0;rw[Xi _ _ _ _ _ _ _ h4,setRow_setRow];have h5:=Xh _ _ _ ((((((aJ x A1 Bu B1 Br).setIfInBounds 0 (.int .i64 y.k)).setIfInBounds 1 (.int .i64 y.n)).setIfInBounds 2 (.string y.s)).setIfInBounds 3 (.int .i64 y.op)).setIfInBounds 4 (.slice A2 y.arms.length ca2)) _ _ h0;rw[Xi _ _ _ _ _ _ _ h5,setRow_setRow];rfl
theorem aMp{w w':World}(h:Below w.drew.heap.size (bl b w.drew) (bl b w')):Below w.heap.size (bl b w) (bl b w'):=⟨h.os,h.tape,h.output,h.size,h.block⟩
theorem bW2{w w':World}(h:Below w.heap.size (bl b w) (bl b w')):Below w.heap.size (bl b w) (bl b w'.drew):=⟨h.os,h.tape,h.output,h.size,h.block⟩
end
end
section
open Go.RowKit Go.Sort
section
variable {w:World}{b:Nat}{A:OA}{n c:Nat}{all r:List Tk}{bad:Bool}{m:Nat}
def gY(zs:List (Int × ByteArray)):List (Int × List UInt8):=zs.map fun z=>(z.1,z.2.data.toList)
theorem aVo:∀(zs:List (Int × ByteArray)),(∀i,i<zs.length->aG (zs[i]?.getD default).2.data.toList r=false)->cR (gY zs) r=0
 |[],_=>rfl
 |z::zs,h=>by
  have h0:=h 0 aC;simp only[Zd,Yv]at h0;simp only[gY,Xl,cR,h0,Zb,if_false]
  exact aVo zs fun i hi=>by
   have:=h (i+1) vG
   simpa using this
theorem aT0:∀(zs:List (Int × ByteArray))(k:Nat),k<zs.length->(∀i,i<k->aG (zs[i]?.getD default).2.data.toList r=false)->aG (zs[k]?.getD default).2.data.toList r=true->cR (gY zs) r=(zs[k]?.getD default).1
 |z::zs,0,_,_,h=>by
  simp only[Zd,Yv]at h;simp[gY,cR,h]
 |z::zs,k+1,hk,h,h1=>by
  have h0:=h 0 aA;simp only[Zd,Yv]at h0;simp only[gY,Xl,cR,h0,Zb,if_false,Ze];exact aT0 zs k (by simpa using hk) (fun i hi=>by simpa using h (i+1) aA) wV
end
end
inductive Lv where
 |arrow|fby|or|and|cmp|sum|prod|un|post|atom|behind|brk
inductive Fr where
 |m (l:Lv)
 |sign (s:LU)
 |made (x:Ex) (f:Nat)
 |right (s:LU) (k:Int) (o:Lv)
 |left (ops:List (Int × List UInt8)) (side:Lv)
 |once (ops:List (Int × List UInt8)) (side:Lv)
 |list (shut:LU) (ev:Bool) (x:Ex) (f:Nat)
 |more (x:Ex) (f:Nat)
def dX(k:Int):Ex:=.mk k 0 ByteArray.empty 0 [] []
def jI(k op:Int):Ex:=.mk k 0 ByteArray.empty op [] []
def nI:Ex->List Ex->Ex
 |.mk k n s op a _,l=>.mk k n s op a l
def aDd:Ex->Ex
 |.mk k _ s op a l=>.mk k 1 s op a l
def rZ:Ex->List UInt8->Ex
 |.mk k n s op a l,b=>.mk k n s op (a++[aB b]) l
abbrev jK:=PR (List Fr × List Ex × Nat)
def qR(x:Ex)(f:Nat)(ps:List Ex)(sz:Nat):List Ex:=ps.take f++[if sz+1<=60 then nI x (ps.drop f)else x]
def jR(x:Ex)(f:Nat)(ps:List Ex)(sz:Nat)(r:List Tk):jK:=.ok ([],qR x f ps sz,sz+1) r
def lB(x:Ex)(f:Nat)(ps:List Ex)(sz:Nat)(r:List Tk):jK:=
 if aG qL r=true then .ok ([.m .post,.made (aDd x) f],ps,sz) r.tail else .ok ([.made x f],ps,sz) r
def aGa(x:Ex)(f:Nat)(ps:List Ex)(sz:Nat)(r:List Tk):jK:=
 (fO r).bind fun a r=>(aR [45,62] r).bind fun _ r=>.ok ([.m .arrow,.sign [41],.more (rZ x a) f],ps,sz) r
def rC(x:Ex)(f:Nat)(ps:List Ex)(sz:Nat)(r:List Tk):jK:=(aR [40] r).bind fun _ r=>aGa x f ps sz r
def yM(ev:Bool)(x:Ex)(f:Nat)(ps:List Ex)(sz:Nat)(r:List Tk):jK:=if ev=true then lB x f ps sz r else jR x f ps sz r
def aDe:List (Int × List UInt8):=[(1,[45]),(2,iE)]
def oM:List Tk->Bool
 |t::_=>t.k==1 && !bQ t.s
 |[]=>false
def aDf(s:LU)(ps:List Ex)(sz:Nat)(r:List Tk):jK:=
 if aG [41] r=true then lB (.mk 13 0 (aB s) 0 [] []) ps.length ps sz r.tail
 else .ok ([.m .arrow,.list [41] true (.mk 13 0 (aB s) 0 [] []) ps.length],ps,sz) r
def xY(ps:List Ex)(sz:Nat)(r:List Tk):jK:=
 (bT r).bind fun s r=>if aG [40] r=true then aDf s ps sz r.tail else jR (.mk 3 0 (aB s) 0 [] []) ps.length ps sz r
def aAn(ps:List Ex)(sz:Nat)(r:List Tk):jK:=(bT r).bind fun s r=>rC (.mk 12 0 (aB s) 0 [] []) ps.length ps sz r
def uI(ps:List Ex)(sz:Nat)(r:List Tk):jK:=match dK r with
 |some z=>jR z.1 ps.length ps sz z.2
 |none=>.bad r
def oY(ps:List Ex)(sz:Nat)(r:List Tk):jK:=
 if aG [40] r=true then .ok ([.m .arrow,.m .brk],ps,sz) r.tail
 else if aG [91] r=true then .ok ([.m .arrow,.list [93] false (dX 14) ps.length],ps,sz) r.tail
 else if aG kO r=true then .ok ([.m .arrow,.sign sF,.m .arrow,.sign pO,.m .arrow,.made (dX 7) ps.length],ps,sz) r.tail
 else if aG jO r=true then aAn ps sz r.tail
 else if oM r=true then xY ps sz r
 else uI ps sz r
def bFf(z:List UInt8 × List UInt8):Ex:=.mk 11 0 (aB z.1) 0 [aB z.2] []
def qG(ps:List Ex)(sz:Nat)(r:List Tk):jK:=
 if aG [91] r=true then .ok ([.m .arrow,.sign [93],.made (dX 15) (ps.length-1),.m .behind],ps,sz) r.tail
 else if aG gR r=true then(dU r.tail).bind fun z r=>.ok ([.made (bFf z) (ps.length-1),.m .behind],ps,sz) r
 else .ok ([],ps,sz) r
def tX(ps:List Ex)(sz:Nat)(r:List Tk):jK:=
 if aG qO r=true then .ok ([.sign [91],.m .arrow,.sign [93],.sign [61],.m .arrow,.made (dX 16) (ps.length-1),.sign [41]],ps,sz) r.tail
 else .ok ([.sign [41]],ps,sz) r
def sW(ps:List Ex)(sz:Nat)(r:List Tk):jK:=
 if cR aDe r≠0 then .ok ([.m .un,.made (jI 5 (cR aDe r)) ps.length],ps,sz) r.tail
 else if aG oD r=true then .ok ([.m .un,.made (dX 10) ps.length],ps,sz) r.tail
 else .ok ([.m .post],ps,sz) r
def gL:Lv->List Ex->Nat->List Tk->jK
 |.arrow,ps,sz,r=>.ok ([.m .fby,.right mB 9 .arrow],ps,sz) r
 |.fby,ps,sz,r=>.ok ([.m .or,.right oF 8 .fby],ps,sz) r
 |.or,ps,sz,r=>.ok ([.m .and,.left aDa .and],ps,sz) r
 |.and,ps,sz,r=>.ok ([.m .cmp,.left aCs .cmp],ps,sz) r
 |.cmp,ps,sz,r=>.ok ([.m .sum,.once aCr .sum],ps,sz) r
 |.sum,ps,sz,r=>.ok ([.m .prod,.left aCq .prod],ps,sz) r
 |.prod,ps,sz,r=>.ok ([.m .un,.left aCa .un],ps,sz) r
 |.un,ps,sz,r=>sW ps sz r
 |.post,ps,sz,r=>.ok ([.m .atom,.m .behind],ps,sz) r
 |.atom,ps,sz,r=>oY ps sz r
 |.behind,ps,sz,r=>qG ps sz r
 |.brk,ps,sz,r=>tX ps sz r
def dG:Fr->List Ex->Nat->List Tk->jK
 |.m l,ps,sz,r=>gL l ps sz r
 |.sign s,ps,sz,r=>(aR s r).bind fun _ r=>.ok ([],ps,sz) r
 |.made x f,ps,sz,r=>jR x f ps sz r
 |.right s k o,ps,sz,r=>if aG s r=true then .ok ([.m o,.made (dX k) (ps.length-1)],ps,sz) r.tail else .ok ([],ps,sz) r
 |.left Ae Aa,ps,sz,r=>if cR Ae r≠0 then .ok ([.m Aa,.made (jI 6 (cR Ae r)) (ps.length-1),.left Ae Aa],ps,sz) r.tail else .ok ([],ps,sz) r
 |.once Ae Aa,ps,sz,r=>if cR Ae r≠0 then .ok ([.m Aa,.made (jI 6 (cR Ae r)) (ps.length-1)],ps,sz) r.tail else .ok ([],ps,sz) r
 |.list Aq ev x f,ps,sz,r=>if aG [44] r=true then .ok ([.m .arrow,.list Aq ev x f],ps,sz) r.tail else(aR Aq r).bind fun _ r=>yM ev x f ps sz r
 |.more x f,ps,sz,r=>if aG [40] r=true then rC x f ps sz r else jR x f ps sz r
def rD:Nat->List Fr->List Ex->Nat->List Tk->(PR (List Ex × Nat)->Prop)->Prop
 |0,fs,ps,sz,r,res=>fs=[]/\res (.ok (ps,sz) r)
 |k+1,[],ps,sz,r,res=>False
 |k+1,f::fs,ps,sz,r,res=>match dG f ps sz r with
  |.ok z r'=>rD k (z.1++fs) z.2.1 z.2.2 r' res
  |.bad q=>res (.bad q)
def gF(fs:List Fr)(ps:List Ex)(sz:Nat)(r:List Tk)(res:PR (List Ex × Nat)->Prop):Prop:=∃k,rD k fs ps sz r res
def sR(o:jK)(fs:List Fr)(res:PR (List Ex × Nat)->Prop):Prop:=match o with
 |.ok z r=>gF (z.1++fs) z.2.1 z.2.2 r res
 |.bad q=>res (.bad q)
theorem bTd{ps:List Ex}{sz:Nat}{r:List Tk}{res:PR (List Ex × Nat)->Prop}(h:res (.ok (ps,sz) r)):gF [] ps sz r res:=⟨0,rfl,h⟩
theorem xI{f:Fr}{fs:List Fr}{ps:List Ex}{sz:Nat}{r:List Tk}{res:PR (List Ex × Nat)->Prop}(h:sR (dG f ps sz r) fs res):gF (f::fs) ps sz r res:=by
 unfold sR at h;cases hs:dG f ps sz r with
 |ok z q=>
  rw[hs]at h;obtain⟨k,hk⟩:=h;exact⟨k+1,by simp only[rD,hs];exact hk⟩
 |bad q=>
  rw[hs]at h;exact⟨1,by simp only[rD,hs];exact h⟩
theorem jX{f:Fr}{fs new:List Fr}{ps ps2:List Ex}{sz sz2:Nat}{r r2:List Tk}{res:PR (List Ex × Nat)->Prop}(hs:dG f ps sz r=.ok (new,ps2,sz2) r2)(h:gF (new++fs) ps2 sz2 r2 res):gF (f::fs) ps sz r res:=
 xI (by rw[hs];exact h)
def eQ(new:List Fr)(g:bZ)(m:Nat):Prop:=∀(fs:List Fr)(ps:List Ex)(sz:Nat)(r:List Tk)(res:PR (List Ex × Nat)->Prop),aU r->r.length<=m->
 (∀x r1,g r=.ok x r1->aU r1->r1.length<r.length->∀x1 Aa,Aa=sz+aT x->(Aa<=60->x1=x)->gF fs (ps++[x1]) Aa r1 res)->
 (∀r1,g r=.bad r1->res (.bad r1))->gF (new++fs) ps sz r res
theorem dE{s:LU}{r:List Tk}(h:aU r)(hi:aG s r=true):aU r.tail/\r.tail.length+1=r.length:=by
 obtain⟨t,r',rfl,hs,hk⟩:=aBz hi;exact⟨h.tail aA,rfl⟩
theorem oI{s:LU}{r r1:List Tk}{u:Unit}(h:aU r)(hn:aR s r=.ok u r1):aU r1/\r1.length+1=r.length:=by
 unfold aR at hn;split at hn;· exact aP4
 . cases hn
theorem tC{s:LU}{r r1:List Tk}(h:aU r)(hn:bT r=.ok s r1):aU r1/\r1.length+1=r.length:=by
 match r,h,hn with
 |t::r',h,hn=>
  simp only[bT]at hn;split at hn
  . rename_i hk;exact bE0
  . cases hn
 |[],h,hn=>cases hn
theorem aCb{s:LU}{r r1:List Tk}(h:aU r)(hn:fO r=.ok s r1):aU r1/\r1.length+1=r.length:=by
 unfold fO at hn;split at hn;· exact aP4
 . split at hn;· exact aP4
   . match r,h,hn with
     |t::r',h,hn=>
      simp only at hn;split at hn;· exact bE0
      . cases hn
     |[],h,hn=>cases hn
theorem rQ{α β:Type}{x:PR α}{f:α->List Tk->PR β}{y:β}{r:List Tk}(h:x.bind f=.ok y r):∃a r0,x=.ok a r0/\f a r0=.ok y r:=by
 cases x with
 |ok a r0=>exact⟨a,r0,rfl,h⟩
 |bad r0=>cases h
theorem aIa{z:List UInt8 × List UInt8}{r r1:List Tk}(h:aU r)(hn:dU r=.ok z r1):aU r1/\r1.length<r.length:=by
 unfold dU at hn;split at hn
 . rename_i hi;obtain⟨n,r2,Bm,he⟩:=rQ hn;injection he with _ he;subst he;have h1:=dE h hi;have h2:=tC h1.1 Bm;exact⟨h2.1,by omega⟩
 . split at hn
   . obtain⟨a,r2,ha,hn⟩:=rQ hn;obtain⟨u,r3,hu,hn⟩:=rQ hn;obtain⟨n,r4,Bm,hn⟩:=rQ hn;obtain⟨v,r5,hv,hn⟩:=rQ hn;injection hn with _ hn;subst hn;have h1:=aCb h ha;have h2:=oI h1.1 hu;have h3:=tC h2.1 Bm;have h4:=oI h3.1 hv;exact⟨h4.1,by omega⟩
   . obtain⟨n,r2,Bm,he⟩:=rQ hn;injection he with _ he;subst he;have h2:=tC h Bm;exact⟨h2.1,by omega⟩
theorem aMq{z:Ex × List Tk}{r:List Tk}(h:aU r)(hn:dK r=some z):aU z.2/\z.2.length+1=r.length/\z.1.subs=[]/\aT z.1=1:=by
 match r,h,hn with
 |t::r',h,hn=>
  simp only[dK]at hn;split at hn;· exact aFy
  . split at hn;· exact aFy
    . split at hn;· exact aFy
      . split at hn;· exact aFy
        . split at hn;· exact aFy
          . cases hn
 |[],h,hn=>cases hn
theorem aXg{r:List Tk}:∀{Aa:List (Int × List UInt8)},cR Aa r≠0->∃s,aG s r=true
 |[],h=>absurd rfl h
 |z::l,h=>by
  simp only[cR]at h;split at h;· rename_i hi;exact⟨_,hi⟩
  . exact aXg h
theorem aB0{Aa:List (Int × List UInt8)}{r:List Tk}(h:aU r)(hs:cR Aa r≠0):aU r.tail/\r.tail.length+1=r.length:=by
 obtain⟨s,hi⟩:=aXg hs;exact dE h hi
theorem aVp(x:Ex)(ps l:List Ex)(sz:Nat):qR x ps.length (ps++l) sz=ps++[if sz+1<=60 then nI x l else x]:=by
 unfold qR;rw[List.take_left,List.drop_left]
theorem uF{x:Ex}{ps l:List Ex}{sz:Nat}{r:List Tk}{fs:List Fr}{res:PR (List Ex × Nat)->Prop}(h:gF fs (ps++[if sz+1<=60 then nI x l else x]) (sz+1) r res):gF (.made x ps.length::fs) (ps++l) sz r res:=
 jX (new:=[]) (by simp only[dG,jR];rw[aVp]) h
theorem xJ(x:Ex):bW [x]=aT x:=by simp[bW]
theorem aHq(x y:Ex):bW [x,y]=aT x+aT y:=by simp[bW]
theorem aSx(x y z:Ex):bW [x,y,z]=aT x+aT y+aT z:=by simp[bW];omega
theorem pG(k n:Int)(s:BA)(op:Int)(a:LB)(l:List Ex):aT (.mk k n s op a l)=1+bW l:=by simp[aT]
section
variable {m:Nat}
theorem aSy{Aa o:Lv}{gs go:bZ}{s:LU}{k:Int}(HS:eQ [.m Aa] gs (m+1))(HO:eQ [.m o] go m):
 eQ [.m Aa,.right s k o] (fun r=>(gs r).bind fun e r=>if aG s r=true then(go r.tail).bind fun y r=>.ok (Ex.mk k 0 ByteArray.empty 0 [] [e,y]) r else .ok e r) (m+1):=by
 intro fs ps sz r res hr hm Ax Ap;refine HS (.right s k o::fs) ps sz r res hr hm ?_ ?_
 . intro e r1 he Al Ah e1 Ae Au hE;by_cases hi:aG s r1=true
   . have h1:=dE Al hi;refine jX (new:=[.m o,.made (dX k) ps.length]) (ps2:=ps++[e1]) (sz2:=Ae) (r2:=r1.tail) aDs ?_;refine HO (.made (dX k) ps.length::fs) (ps++[e1]) Ae r1.tail res h1.1 aA ?_ ?_
     . intro y r2 hy Cu Aq y1 sz2 Bs hY;rw[Yy];refine uF (Ax (Ex.mk k 0 ByteArray.empty 0 [] [e,y]) r2 (by simp[he,hi,hy]) Cu aA _ _ (by rw[pG,aHq];omega) fun h=>?_);exact bEx
     . intro r2 hy;exact Ap r2 (by simp[he,hi,hy])
   . refine jX (new:=[]) (ps2:=ps++[e1]) (sz2:=Ae) (r2:=r1) aDs ?_;exact Ax e r1 (by simp[he,hi]) Al Ah e1 Ae Au hE
 . exact aQc
theorem aVq{Aa:Lv}{gs:bZ}{Ae:List (Int × List UInt8)}(HS:eQ [.m Aa] gs m):∀(f:Nat)(fs:List Fr)(ps:List Ex)(sz:Nat)(e e1:Ex)(r:List Tk)(res:PR (List Ex × Nat)->Prop),aU r->r.length<f->r.length<=m->
 (sz<=60->e1=e)->
 (∀x r1,iN gs Ae f e r=.ok x r1->aU r1->r1.length<=r.length->∀x1 Bs,Bs+aT e=sz+aT x->sz<=Bs->(Bs<=60->x1=x)->gF fs (ps++[x1]) Bs r1 res)->
 (∀r1,iN gs Ae f e r=.bad r1->res (.bad r1))->gF (.left Ae Aa::fs) (ps++[e1]) sz r res
 |0,fs,ps,sz,e,e1,r,res,hr,hf,hm,hE,Ax,Ap=>absurd hf aA
 |f+1,fs,ps,sz,e,e1,r,res,hr,hf,hm,hE,Ax,Ap=>by
  by_cases hi:cR Ae r=0
  . refine jX (new:=[]) (ps2:=ps++[e1]) (sz2:=sz) (r2:=r) aDs ?_;exact Ax e r (by simp[iN,hi]) hr (Yh _) e1 sz rfl (Yh _) hE
  . have h1:=aB0 hr hi;refine jX (new:=[.m Aa,.made (jI 6 (cR Ae r)) ps.length,.left Ae Aa]) (ps2:=ps++[e1]) (sz2:=sz) (r2:=r.tail) aDs ?_;refine HS (.made (jI 6 (cR Ae r)) ps.length::.left Ae Aa::fs) (ps++[e1]) sz r.tail res h1.1 aA ?_ ?_
    . intro y r2 hy Cu Fs y1 sz2 Hb hY;rw[Yy];refine uF ?_;refine aVq HS f fs ps (sz2+1) (aA7 (cR Ae r) e y) _ r2 res Cu aA aA (fun h=>?_) ?_ ?_
      . rw[if_pos h,hE aA,hY aA];rfl
      . intro x r3 hx Ha Cz x1 Ct Aq hs hX;refine Ax x r3 (by simp[iN,hi,hy,hx]) Ha aA x1 Ct ?_ aA hX;unfold aA7 at Aq;rw[pG,aHq]at Aq;omega
      . intro r3 hx;exact Ap r3 (by simp[iN,hi,hy,hx])
    . intro r2 hy;exact Ap r2 (by simp[iN,hi,hy])
theorem aHe{Aa:Lv}{gs:bZ}{Ae:List (Int × List UInt8)}(HS:eQ [.m Aa] gs m):
 eQ [.m Aa,.left Ae Aa] (fun r=>(gs r).bind fun e r=>iN gs Ae (r.length+1) e r) m:=by
 intro fs ps sz r res hr hm Ax Ap;refine HS (.left Ae Aa::fs) ps sz r res hr hm ?_ ?_
 . intro e r1 he Al Ah e1 Aq Au hE;refine aVq HS (r1.length+1) fs ps Aq e e1 r1 res Al aA aA hE ?_ ?_
   . intro x r2 hx Cu Cz x1 sz2 Bs hs hX;exact Ax x r2 (by simp[he,hx]) Cu aA x1 sz2 aA hX
   . intro r2 hx;exact Ap r2 (by simp[he,hx])
 . exact aQc
theorem bMa{Aa:Lv}{gs:bZ}{Ae:List (Int × List UInt8)}(HS:eQ [.m Aa] gs m):
 eQ [.m Aa,.once Ae Aa] (fun r=>(gs r).bind fun e r=>iN gs Ae 1 e r) m:=by
 intro fs ps sz r res hr hm Ax Ap;refine HS (.once Ae Aa::fs) ps sz r res hr hm ?_ ?_
 . intro e r1 he Al Ah e1 Aq Au hE;by_cases hi:cR Ae r1=0
   . refine jX (new:=[]) (ps2:=ps++[e1]) (sz2:=Aq) (r2:=r1) aDs ?_;exact Ax e r1 (by simp[he,iN,hi]) Al aA e1 Aq Au hE
   . have h1:=aB0 Al hi;refine jX (new:=[.m Aa,.made (jI 6 (cR Ae r1)) ps.length]) (ps2:=ps++[e1]) (sz2:=Aq) (r2:=r1.tail) aDs ?_;refine HS (.made (jI 6 (cR Ae r1)) ps.length::fs) (ps++[e1]) Aq r1.tail res h1.1 aA ?_ ?_
     . intro y r2 hy Cu Bs y1 sz2 Ct hY;rw[Yy];refine uF (Ax (aA7 (cR Ae r1) e y) r2 (by simp[he,iN,hi,hy]) Cu aA _ _ (by unfold aA7;rw[pG,aHq];omega) fun h=>?_);exact bEx
     . intro r2 hy;exact Ap r2 (by simp[he,iN,hi,hy])
 . exact aQc
end
def eE:Pc->List UInt8
 |.tk k s n=>if k=4 then 39::(s++[39])else s
 |.sub x=>aK x
 |.sp=>[32]
def bY:List Pc->List UInt8
 |[]=>[]
 |p::ps=>eE p++bY ps
theorem zP:∀p q:List Pc,bY (p++q)=bY p++bY q
 |[],q=>rfl
 |a::p,q=>by simp only[Yx,bY,zP p q,Yy]
def aI(T:Ex->List Tk->Prop)(l:LU)(ps:List Pc)(u:LU):Prop:=
 ∀a,∃ts,cK a (l++u)=(ts++(cK (a+l.length) u).1,(cK (a+l.length) u).2)/\bB T ps ts
section
variable {T:Ex->List Tk->Prop}
theorem aI.nil_(u:LU):aI T [] [] u:=fun a=>⟨[],by simp,rfl⟩
theorem aI.app{l1 l2 u:LU}{p q:List Pc}(h1:aI T l1 p (l2++u))(h2:aI T l2 q u):aI T (l1++l2) (p++q) u:=fun a=>by
 obtain⟨t1,e1,k1⟩:=h1 a;obtain⟨t2,e2,k2⟩:=h2 (a+l1.length);refine⟨t1++t2,?_,(iA _ _ _ _).2 ⟨t1,t2,rfl,k1,k2⟩⟩;rw[Yy,e1,e2,Yo,<-Nat.add_assoc,Yy]
theorem aI.cons_{p:Pc}{ps:List Pc}{u:LU}(h1:aI T (eE p) [p] (bY ps++u))(h2:aI T (bY ps) ps u):aI T (bY (p::ps)) (p::ps) u:=h1.app h2
theorem aI.two{p q:List Pc}{u:LU}(h1:aI T (bY p) p (bY q++u))(h2:aI T (bY q) q u):aI T (bY (p++q)) (p++q) u:=by
 rw[zP];exact h1.app h2
theorem aI.one{l u:LU}{k n:Int}{s:LU}(hb:dJ (l++u)=0)(ht:gV (l++u)=some (⟨k,s,n,0⟩,l.length)):aI T l [.tk k s n] u:=fun a=>by
 refine⟨[⟨k,s,n,a⟩],?_,a,[],rfl,rfl⟩;rw[aB7 hb ht,List.drop_left];rfl
theorem aI.sp(u:LU):aI T [32] [.sp] u:=fun a=>by
 refine⟨[],?_,rfl⟩;have hb:dJ ([32]++u)=1:=by
  show dJ (32::u)=1;unfold dJ;rw[if_neg aC];rfl
 rw[zO aA,hb];rfl
theorem aI.sub{x:Ex}{u:LU}(h:∀a,∃ts,cK a (aK x++u)=(ts++(cK (a+(aK x).length) u).1,(cK (a+(aK x).length) u).2)/\T x ts):aI T (aK x) [.sub x] u:=fun a=>by
 obtain⟨ts,e,k⟩:=h a;exact⟨ts,e,ts,[],by simp,k,rfl⟩
theorem rN{c:UInt8}{l:LU}(h:c≠45)(hs:aAj c=false):dJ (c::l)=0:=by
 unfold dJ;rw[if_neg (by simp[Ne.symm h])];simp[hs]
theorem aI.mark{m u:LU}(hm:m≠[])(hb:dJ (m++u)=0)(h1:jS ((m.headD 0).toNat:Int)=false)(h2:cC ((m.headD 0).toNat:Int)=false)(h3:m.headD 0≠39)(h:sE (m++u)=some m):aI T m [.tk 5 m 0] u:=by
 refine aI.one hb ?_;cases m with
 |nil=>exact absurd rfl hm
 |cons c m=>
  simp only[List.headD_cons]at h1 h2 h3;rw[Yx,rP,h1,if_neg aC,h2,if_neg aC,if_neg h3,<-Yx];unfold pM;rw[h];rfl
theorem mN(u:LU):aI T (eE (aL [40])) [aL [40]] u:=aI.mark aF (rN aF aF) aF aF aF rfl
theorem mO(u:LU):aI T (eE (aL [41])) [aL [41]] u:=aI.mark aF (rN aF aF) aF aF aF rfl
theorem aI8(u:LU):aI T (eE (aL [91])) [aL [91]] u:=aI.mark aF (rN aF aF) aF aF aF rfl
theorem aI9(u:LU):aI T (eE (aL [93])) [aL [93]] u:=aI.mark aF (rN aF aF) aF aF aF rfl
theorem aOt(u:LU):aI T (eE (aL [44])) [aL [44]] u:=aI.mark aF (rN aF aF) aF aF aF rfl
theorem bA6(u:LU):aI T (eE (aL [61])) [aL [61]] u:=aI.mark aF (rN aF aF) aF aF aF rfl
theorem aZa(u:LU):aI T (eE (aL mB)) [aL mB] u:=aI.mark aF (by show dJ (45::62::u)=0;rfl) aF aF aF rfl
theorem bW3{c:UInt8}{u:LU}(h1:c≠45)(h2:c≠62):aI T (eE (aL [45])) [aL [45]] (c::u):=by
 refine aI.mark aF ?_ aF aF aF ?_
 . show dJ (45::c::u)=0;unfold dJ;rw[if_neg (by simp[Ne.symm h1])];rfl
 . show sE (45::c::u)=some [45];unfold sE iD;have e:((62:UInt8)==c)=false:=by simpa using Ne.symm h2
   simp[List.find?,List.isPrefixOf,e]
theorem bTe(op:Int)(h1:3<=op)(h2:op<=16)(h:¬(7<=op/\op<=10))(u:LU):aI T (kM op) [aL (kM op)] (32::u):=by
 obtain rfl|rfl|rfl|rfl|rfl|rfl|rfl|rfl|rfl|rfl:op=3\/op=4\/op=5\/op=6\/op=11\/op=12\/op=13\/op=14\/op=15\/op=16:=by omega
 all_goals exact aI.mark aF rfl aF aF aF rfl
theorem aVr{c:UInt8}{l:LU}(h:jS (c.toNat:Int)=true):dJ (c::l)=0:=by
 exact bHg
theorem bMb:∀w∈uM,(aA6 w && (match w with|[]=>false|c::_=>fV (c.toNat:Int)))=true:=aF
theorem aN4{s:LU}(h:bQ s=true):aA6 s=true/\∃c r,s=c::r/\fV (c.toNat:Int)=true:=by
 have h1:=bMb s (by simpa[bQ]using h);rw[Yu]at h1;refine⟨h1.1,?_⟩;cases s with
 |nil=>simp at h1
 |cons c r=>exact⟨c,r,rfl,h1.2⟩
theorem aXh{s u:LU}(h:aA6 s=true)(hu:fX u):bO (s++u)=s:=cAg h hu
theorem gJ{s u:LU}(h:aQ s=true\/bQ s=true)(hu:fX u):aI T s [bE s] u:=by
 have hn:aA6 s=true:=by rcases h with h|h;exact aNz h;exact(aN4 h).1
 obtain⟨c,r,hs,hc⟩:∃c r,s=c::r/\fV (c.toNat:Int)=true:=by rcases h with h|h;exact aI7 h;exact(aN4 h).2
 have hl:jS (c.toNat:Int)=true:=by simp[jS,hc]
 have he:=aXh hn hu;have ho:(aQ s || bQ s)=true:=by rcases h with h|h<;>simp[h]
 refine aI.one ?_ ?_;· rw[hs];exact aVr hl
 . have:gV (s++u)=iP (s++u):=by
    rw[hs,Yx,rP,hl,if_pos rfl]
   rw[this];unfold iP;rw[he,ho,if_pos rfl]
theorem bKo{c:UInt8}(h:jZ (c.toNat:Int)=true):fV (c.toNat:Int)=false:=by
 simp only[jZ,decide_eq_true_eq]at h;simp only[fV,decide_eq_false_iff_not];omega
theorem aEz{s u:LU}(h:dF s=true)(hu:fX u):aI T s [.tk 2 s 0] u:=by
 obtain⟨c,r,hs,hc⟩:=aY4 h;have hl:jS (c.toNat:Int)=true:=by simp[jS,hc]
 have he:=aXh (bSz h) hu;have Fj:=bKo hc;have h1:aQ s=false:=by
  cases hb:aQ s with
  |false=>rfl
  |true=>
   obtain⟨c',r',e,Gx⟩:=aI7 hb;exact bEi
 have h2:bQ s=false:=by
  cases hb:bQ s with
  |false=>rfl
  |true=>
   obtain⟨c',r',e,Gx⟩:=(aN4 hb).2;exact bEi
 refine aI.one ?_ ?_;· rw[hs];exact aVr hl
 . have:gV (s++u)=iP (s++u):=by
    rw[hs,Yx,rP,hl,if_pos rfl]
   rw[this];unfold iP;rw[he,h1,h2,h];rfl
theorem aVs{a:LU}(h:a≠[])(b:LU):(a++b).head?=a.head?:=by
 cases a with
 |nil=>exact absurd rfl h
 |cons c l=>rfl
theorem bTf(u:Nat)(h:1<=u):(Lib.decDigits u).head?≠some 48:=by
 induction u using Nat.strongRecOn with
 |ind u ih=>
  by_cases h9:u<10
  . rw[Lib.decDigits_one h9];intro e;simp only[List.head?_cons,Option.some.injEq]at e
    have:=congrArg UInt8.toNat e
    rw[aFk h9]at this;simp at this;omega
  . rw[Lib.decDigits,dif_neg h9,aVs (aQh _)];exact ih (u / 10) aA aA
theorem bO4{c:UInt8}{l:LU}(h:cC (c.toNat:Int)=true):dJ (c::l)=0:=by
 exact bHg
theorem aZb{n:Int}{u:LU}(h0:0<=n)(h1:n<=9223372036854775807)(hu:fX u):aI T (Lib.itoa n) [.tk 3 (Lib.itoa n) n] u:=by
 have he:Lib.itoa n=Lib.decDigits n.toNat:=by simp[Lib.itoa,Int.not_lt.2 h0]
 rw[he];have hr:=aXc n.toNat;have Bv:=aQh n.toNat;have Aa:dR (Lib.decDigits n.toNat++u)=Lib.decDigits n.toNat:=cAh hr hu;have hv:jH (Lib.decDigits n.toNat)=n.toNat:=bWx n.toNat;have hh:¬(1<(Lib.decDigits n.toNat).length/\(Lib.decDigits n.toNat++u).head?=some 48):=by
  rintro ⟨h2,h3⟩;rw[aVs Bv]at h3;rcases Nat.eq_zero_or_pos n.toNat with hz|hz
  . rw[hz,Lib.decDigits_one aA]at h2;simp at h2
  . exact bTf _ hz h3
 have Aq:((n.toNat:Nat):Int)=n:=aA;generalize hd:Lib.decDigits n.toNat=d at *;cases d with
 |nil=>exact absurd rfl Bv
 |cons c l=>
  have hc:=hr c aC;have Ae:jS (c.toNat:Int)=false:=by
   simp only[cC,decide_eq_true_eq]at hc;simp only[jS,fV,jZ,Bool.or_eq_false_iff,decide_eq_false_iff_not];omega
  refine aI.one (bO4 hc) ?_;rw[Yx,rP,Ae,if_neg aC,hc,if_pos rfl,<-Yx];unfold kD
  rw [Aa,hv,if_neg (by
   rintro (h|h);· exact hh h
   . omega),Aq]
theorem bTg{s u:LU}(h:fJ s=true):aI T (eE (.tk 4 s 0)) [.tk 4 s 0] u:=by
 have hq:aC8 (s++39::u)=s:=aKa (p:=fun c=>c !=39) (bL8 h) (.inr ⟨39,u,rfl,by decide⟩);refine aI.one ?_ ?_;· exact rN aF aF
 . show gV (39::(s++[39]++u))=_;rw[rP,if_neg aF,if_neg aF,if_pos rfl];rw[show s++[39]++u=s++39::u by simp];unfold nU;rw[hq,if_pos ⟨by simp,h⟩];simp[eE]
theorem bW4{a u:LU}(h:yL a)(hu:fX u):aI T (eE (tP a)) [tP a] u:=by
 unfold tP;by_cases h1:a=eF\/a=dY
 . rw[if_pos h1];exact gJ (.inr (by rcases h1 with rfl|rfl<;>decide)) hu
 . rw[if_neg h1];exact aEz (by rcases h with h|h|h;exact h;exact absurd (.inl h) h1;exact absurd (.inr h) h1) hu
theorem uB(u:LU):fX (32::u):=vS _ aF
theorem n40(u:LU):fX (40::u):=vS _ aF
theorem n41(u:LU):fX (41::u):=vS _ aF
theorem cAl{s m:LU}{u:LU}(hs:aQ s=true)(hm:yL m):aI T (bY (sQ s m)) (sQ s m) (41::u):=by
 unfold sQ;by_cases h1:m=eF
 . rw[if_pos h1];exact aI.cons_ (gJ (.inl hs) (n41 _)) (aI.nil_ _)
 rw[if_neg h1];by_cases h2:m=dY
 . rw[if_pos h2];exact aI.cons_ (gJ (.inr aF) (uB _)) (aI.cons_ (aI.sp _) (aI.cons_ (gJ (.inl hs) (n41 _)) (aI.nil_ _)))
 rw[if_neg h2];have hh:dF m=true:=bFv;exact aI.cons_ (aEz hh (n40 _)) (aI.cons_ (mN _) (aI.cons_ (gJ (.inl hs) (n41 _)) (aI.cons_ (mO _) (aI.nil_ _))))
end
theorem bMc:∀{x:Ex},bV x->∃c r,aK x=c::r/\c≠45/\c≠62:=by
 refine fun {x}=>tB (P:=fun x=>bV x->∃c r,aK x=c::r/\c≠45/\c≠62) (fun x ih hx=>?_) x;have hf:=hx.part;have h1:=hf.k1;have Ha:=hf.k17;rw[aH6];have Aa:∀r:List UInt8,∃c r',(40:UInt8)::r=c::r'/\c≠45/\c≠62:=fun r=>⟨40,r,rfl,by decide,by decide⟩
 have Ae:∀(s r:LU),aQ s=true->∃c r',s++r=c::r'/\c≠45/\c≠62:=fun s r h=>by
  obtain⟨c,q,rfl,hc⟩:=aI7 h;exact⟨c,q++r,rfl,fun e=>by subst e;revert hc;decide,fun e=>by subst e;revert hc;decide⟩
 by_cases Ek:x.k=15
 . obtain⟨a,b,Ba⟩:=kF (dP hf (m:=2) aDr);have ha:=ih 0 eR (hx.sub (by simp[bI,Ba]));rw[show bI x 0=a by simp[bI,Ba]]at ha;obtain⟨c,r,e,k⟩:=ha;exact⟨c,r++91::(aK b++[93]),by simp[fB,Ek,Ba,gT,e],k⟩
 generalize ht:x.subs.map aK=t;unfold fB;by_cases h5:x.k=5;· rw[if_pos h5];split<;>exact Aa _
 rw[if_neg h5];by_cases h6:x.k=6;· rw[if_pos h6];exact Aa _
 rw[if_neg h6];by_cases h7:x.k=7;· rw[if_pos h7];exact Aa _
 rw[if_neg h7];by_cases h8:x.k=8;· rw[if_pos h8];exact Aa _
 rw[if_neg h8];by_cases h9:x.k=9;· rw[if_pos h9];exact Aa _
 rw[if_neg h9];by_cases Fs:x.k=10;· rw[if_pos Fs];exact Aa _
 rw[if_neg Fs];by_cases h11:x.k=11;· rw[if_pos h11];exact Aa _
 rw[if_neg h11];by_cases Cy:x.k=12;· rw[if_pos Cy];exact Aa _
 rw[if_neg Cy];by_cases Ct:x.k=13
 . rw[if_pos Ct];unfold oW;split;· exact Aa _
   . exact Ae _ _ (hf.low aA)
 rw[if_neg Ct];by_cases Eh:x.k=14;· rw[if_pos Eh];exact⟨91,_,rfl,by decide,by decide⟩
 rw[if_neg Eh,if_neg Ek];by_cases Fh:x.k=16;· rw[if_pos Fh];exact Aa _
 rw[if_neg Fh];unfold sG;by_cases Bs:x.k=1
 . rw[if_pos Bs];have he:Lib.itoa x.n=Lib.decDigits x.n.toNat:=by simp[Lib.itoa,Int.not_lt.2 (hf.n1 Bs)]
   rw[he];have hr:=aXc x.n.toNat;have Bv:=aQh x.n.toNat;generalize Lib.decDigits x.n.toNat=d at *;cases d with
   |nil=>exact absurd rfl Bv
   |cons c l=>
    have hc:=hr c aC;exact⟨c,l,rfl,fun e=>by subst e;revert hc;decide,fun e=>by subst e;revert hc;decide⟩
 rw[if_neg Bs];by_cases Cb:x.k=2
 . rw[if_pos Cb];split;· exact⟨116,_,rfl,by decide,by decide⟩
   . exact⟨102,_,rfl,by decide,by decide⟩
 rw[if_neg Cb];by_cases Aq:x.k=17;· rw[if_pos Aq];exact⟨39,_,rfl,by decide,by decide⟩
 rw[if_neg Aq];by_cases Fy:x.k=4
 . obtain⟨c,q,e,hc⟩:=aY4 (hf.high Fy);exact⟨c,q,e,fun e=>by subst e;revert hc;decide,fun e=>by subst e;revert hc;decide⟩
 . have:=Ae x.s.data.toList [] (hf.low aA)
   rwa[List.append_nil]at this
theorem aG8:∀l:List Ex,bY (nN l)=eN (l.map aK)
 |[]=>rfl
 |[x]=>by simp[nN,bY,eE,eN]
 |x::y::l=>by
  have:=aG8 (y::l)
  simp only[Xl]at this;simp[nN,bY,eE,aL,eN,this]
theorem bKp(a:LU):eE (tP a)=a:=by
 unfold tP;split<;>rfl
theorem aSz:∀(am:List (List UInt8))(l:List Ex),bY (oL am l)=nW am (l.map aK)
 |[],l=>by simp[oL,bY,nW]
 |_::_,[]=>by simp[oL,bY,nW]
 |a::am,x::l=>by
  have:=aSz am l
  simp[oL,bY,eE,aL,nW,this];exact bKp a
theorem bTh(s m:LU):bY (sQ s m)=kH s m:=by
 unfold sQ kH;split;· simp[bY,eE,bE]
 . split<;>simp[bY,eE,bE,aL]
theorem bMd(op:Int):eE (aCt op)=kM op:=by
 unfold aCt;split<;>rfl
theorem bMe{x:Ex}(hf:lV x):bY (bX x)=aK x:=by
 have h1:=hf.k1;have Fs:=hf.k17;rw[aH6];unfold bX;by_cases h5:x.k=5
 . obtain⟨a,Ba⟩:=sP (dP hf (m:=1) (by simp[cO,h5]));rcases hf.op5 h5 with ho|ho<;>simp[cL,fB,h5,ho,Ba,bY,eE,aL,bE,gX,gT]
 by_cases h6:x.k=6
 . obtain⟨a,b,Ba⟩:=kF (dP hf (m:=2) aPc);simp[cL,fB,h6,Ba,bY,eE,aL,bE,gX,gT];exact bMd x.op
 by_cases h7:x.k=7
 . obtain⟨a,b,c,Ba⟩:=vK (dP hf (m:=3) aPd);simp[cL,fB,h7,Ba,bY,eE,aL,bE,gX,gT]
 by_cases h8:x.k=8
 . obtain⟨a,b,Ba⟩:=kF (dP hf (m:=2) aPe);simp[cL,fB,h8,Ba,bY,eE,aL,bE,gX,gT]
 by_cases h9:x.k=9
 . obtain⟨a,b,Ba⟩:=kF (dP hf (m:=2) aPf);simp[cL,fB,h9,Ba,bY,eE,aL,bE,gX,gT]
 by_cases Aq:x.k=10
 . obtain⟨a,Ba⟩:=sP (dP hf (m:=1) (by simp[cO,Aq]));simp[cL,fB,Aq,Ba,bY,eE,aL,bE,gX,gT]
 by_cases h11:x.k=11
 . obtain⟨a,Ba⟩:=sP (dP hf (m:=1) (by simp[cO,h11]));simp[cL,fB,h11,Ba,bY,zP,bTh,eE,aL,bE,gX,gT]
 by_cases Cy:x.k=12;· simp[cL,fB,Cy,bY,zP,aSz,eE,aL,bE]
 by_cases Aa:x.k=13
 . by_cases hn:x.n=1
   . have hg:aK (gX x.subs (x.subs.length-1))=gT (x.subs.map aK) (x.subs.length-1):=by
      have h:=hf.lo;rw[show cO x=(x.n,6+x.n)by simp[cO,Aa],hn]at h;simp only at h
      have:x.subs.length-1<x.subs.length:=aA
      simp[gX,gT,Yk this]
     simp[cL,fB,Aa,hn,xX,oW,bY,zP,aG8,eE,aL,bE,hg]
   . simp[cL,fB,Aa,hn,xX,oW,bY,zP,aG8,eE,aL,bE]
 by_cases Eh:x.k=14;· simp[cL,fB,Eh,bY,zP,aG8,eE,aL,bE]
 by_cases Ek:x.k=15
 . obtain⟨a,b,Ba⟩:=kF (dP hf (m:=2) aDr);simp[cL,fB,Ek,Ba,bY,eE,aL,bE,gX,gT]
 by_cases Fh:x.k=16
 . obtain⟨a,b,c,Ba⟩:=vK (dP hf (m:=3) aPb);simp[cL,fB,Fh,Ba,bY,eE,aL,bE,gX,gT]
 by_cases Bs:x.k=1;· simp[cL,fB,Bs,mM,sG,bY,eE,aL,bE]
 by_cases Cb:x.k=2;· by_cases hn:x.n=1<;>simp[cL,fB,Cb,hn,mM,sG,bY,eE,aL,bE]
 by_cases Fy:x.k=4;· simp[cL,fB,Fy,mM,sG,bY,eE,aL,bE]
 by_cases Ae:x.k=17;· simp[cL,fB,Ae,mM,sG,bY,eE,aL,bE]
 have Ct:x.k=3:=aA;simp[cL,fB,Ct,mM,sG,bY,eE,aL,bE]
theorem lP(ps:List Pc)(u:LU):pP (bY (.sp::ps)++u):=.inr ⟨32,bY ps++u,rfl,by simp⟩
theorem rH(ps:List Pc)(u:LU):pP (bY (aL [41]::ps)++u):=.inr ⟨41,bY ps++u,rfl,by simp⟩
theorem c44(ps:List Pc)(u:LU):pP (bY (aL [44]::ps)++u):=.inr ⟨44,bY ps++u,rfl,by simp⟩
theorem c91(ps:List Pc)(u:LU):pP (bY (aL [91]::ps)++u):=.inr ⟨91,bY ps++u,rfl,by simp⟩
theorem c93(ps:List Pc)(u:LU):pP (bY (aL [93]::ps)++u):=.inr ⟨93,bY ps++u,rfl,by simp⟩
theorem m40(ps:List Pc)(u:LU):fX (bY (aL [40]::ps)++u):=n40 _
section
variable {T:Ex->List Tk->Prop}
def aK5(T:Ex->List Tk->Prop)(l:List Ex):Prop:=∀y∈l,∀u,pP u->aI T (aK y) [.sub y] u
theorem tQ{s:LU}(h:bQ s=true){u:LU}(hu:pP u):aI T (eE (bE s)) [bE s] u:=gJ (.inr h) hu.noNm
theorem aHr:∀l:List Ex,aK5 T l->∀u,pP u->aI T (bY (nN l)) (nN l) u
 |[],_,u,_=>aI.nil_ u
 |[x],H,u,hu=>aI.cons_ (H x aC _ hu) (aI.nil_ u)
 |x::y::l,H,u,hu=>aI.cons_ (H x aC _ (c44 _ _)) (aI.cons_ (aOt _) (aI.cons_ (aI.sp _) (aHr (y::l) (fun z hz=>H z aDv) u hu)))
theorem bMf(am:List (List UInt8))(l:List Ex)(u:LU):pP (bY (oL am l++[aL [41]])++u):=by
 cases am with
 |nil=>exact rH _ _
 |cons a am=>
  cases l with
  |nil=>exact rH _ _
  |cons y l=>exact lP _ _
theorem aVt:∀(am:List (List UInt8))(l:List Ex),(∀a∈am,yL a)->aK5 T l->∀u,aI T (bY (oL am l)) (oL am l) u
 |[],l,_,_,u=>aI.nil_ u
 |_::_,[],_,_,u=>aI.nil_ u
 |a::am,y::l,ha,H,u=>
  aI.cons_ (aI.sp _) (aI.cons_ (mN _) (aI.cons_ (bW4 (ha a aC) (lP _ _).noNm) (aI.cons_ (aI.sp _) (aI.cons_ (aZa _) (aI.cons_ (aI.sp _) (aI.cons_ (H y aC _ (rH _ _)) (aI.cons_ (mO _)
   (aVt am l (fun b hb=>ha b (by simp[hb])) (fun z hz=>H z aDv) u))))))))
theorem bTi{x:Ex}(hf:lV x)(hx:bV x)(hn:x.n<=9223372036854775807)(H:aK5 T x.subs)(u:LU)(hu:pP u):aI T (bY (bX x)) (bX x) u:=by
 have h1:=hf.k1;have Nk:=hf.k17;by_cases h5:x.k=5
 . obtain⟨a,Ba⟩:=sP (dP hf (m:=1) (by simp[cO,h5]));have Ha:=H a eR;rcases hf.op5 h5 with ho|ho
   . rw[show bX x=[aL [40],aL [45],.sub a,aL [41]]by simp[bX,cL,h5,ho,Ba,gX]];refine aI.cons_ (mN _) (aI.cons_ ?_ (aI.cons_ (Ha _ (rH _ _)) (aI.cons_ (mO _) (aI.nil_ _))));obtain⟨c,r,e,Jx,Nj⟩:=bMc (hx.sub (show a∈x.subs by rw[Ba];simp));rw[show bY [.sub a,aL [41]]++u=c::(r++(bY [aL [41]]++u))by simp[bY,eE,e]];exact bW3 Jx Nj
   . rw[show bX x=[aL [40],bE iE,.sp,.sub a,aL [41]]by simp[bX,cL,h5,ho,Ba,gX]];exact bH8
 by_cases h6:x.k=6
 . obtain⟨a,b,Ba⟩:=kF (dP hf (m:=2) aPc);have Ha:=H a eR;have Hb:=H b eR;obtain⟨Ni,Hp⟩:=hf.op6 h6;rw[show bX x=[aL [40],.sub a,.sp,aCt x.op,.sp,.sub b,aL [41]]by simp[bX,cL,h6,Ba,gX]];refine aI.cons_ (mN _) (aI.cons_ (Ha _ (lP _ _)) (aI.cons_ (aI.sp _) (aI.cons_ ?_ (aI.cons_ (aI.sp _) (aI.cons_ (Hb _ (rH _ _)) (aI.cons_ (mO _) (aI.nil_ _)))))));unfold aCt;by_cases hw:7<=x.op/\x.op<=10
   . rw[if_pos hw];refine tQ ?_ (lP _ _);generalize x.op=op at *;obtain rfl|rfl|rfl|rfl:op=7\/op=8\/op=9\/op=10:=by omega
     all_goals decide
   . rw[if_neg hw];exact bTe x.op Ni Hp hw _
 by_cases h7:x.k=7
 . obtain⟨a,b,c,Ba⟩:=vK (dP hf (m:=3) aPd);have Ha:=H a eR;have Hb:=H b eR;have Hc:=H c eR;rw[show bX x=[aL [40],bE kO,.sp,.sub a,.sp,bE sF,.sp,.sub b,.sp,bE pO,.sp,.sub c,aL [41]]by simp[bX,cL,h7,Ba,gX]];exact aI.cons_ (mN _) (aI.cons_ (tQ aF (lP _ _)) (aI.cons_ (aI.sp _) (aI.cons_ (Ha _ (lP _ _)) (aI.cons_ (aI.sp _) (aI.cons_ (tQ aF (lP _ _)) (aI.cons_ (aI.sp _) (aI.cons_ (Hb _ (lP _ _)) (aI.cons_ (aI.sp _) (aI.cons_ (tQ aF (lP _ _)) (aI.cons_ (aI.sp _) (aI.cons_ (Hc _ (rH _ _)) (aI.cons_ (mO _) (aI.nil_ _)))))))))))))
 by_cases h8:x.k=8
 . obtain⟨a,b,Ba⟩:=kF (dP hf (m:=2) aPe);have Ha:=H a eR;have Hb:=H b eR;rw[show bX x=[aL [40],.sub a,.sp,bE oF,.sp,.sub b,aL [41]]by simp[bX,cL,h8,Ba,gX]];exact aI.cons_ (mN _) (aI.cons_ (Ha _ (lP _ _)) (aI.cons_ (aI.sp _) (aI.cons_ (tQ aF (lP _ _)) (aI.cons_ (aI.sp _) (aI.cons_ (Hb _ (rH _ _)) (aI.cons_ (mO _) (aI.nil_ _)))))))
 by_cases h9:x.k=9
 . obtain⟨a,b,Ba⟩:=kF (dP hf (m:=2) aPf);have Ha:=H a eR;have Hb:=H b eR;rw[show bX x=[aL [40],.sub a,.sp,aL mB,.sp,.sub b,aL [41]]by simp[bX,cL,h9,Ba,gX]];exact aI.cons_ (mN _) (aI.cons_ (Ha _ (lP _ _)) (aI.cons_ (aI.sp _) (aI.cons_ (aZa _) (aI.cons_ (aI.sp _) (aI.cons_ (Hb _ (rH _ _)) (aI.cons_ (mO _) (aI.nil_ _)))))))
 by_cases Ct:x.k=10
 . obtain⟨a,Ba⟩:=sP (dP hf (m:=1) (by simp[cO,Ct]));have Ha:=H a eR;rw[show bX x=[aL [40],bE oD,.sp,.sub a,aL [41]]by simp[bX,cL,Ct,Ba,gX]];exact bH8
 by_cases h11:x.k=11
 . obtain⟨a,Ba⟩:=sP (dP hf (m:=1) (by simp[cO,h11]));have Ha:=H a eR;obtain⟨am,hm⟩:∃m,x.arms=[m]:=by
    exact bEt
   have Nh:=aH8 (hf.arms am aJm);rw[show bX x=aL [40]::.sub a::.sp::bE gR::.sp::(sQ x.s.data.toList am.data.toList++[aL [41]])by simp[bX,cL,h11,Ba,hm,gX,gT]];exact aI.cons_ (mN _) (aI.cons_ (Ha _ (lP _ _)) (aI.cons_ (aI.sp _) (aI.cons_ (tQ aF (lP _ _)) (aI.cons_ (aI.sp _) (aI.two (cAl (hf.low aA) Nh) (aI.cons_ (mO _) (aI.nil_ _)))))))
 by_cases Cy:x.k=12
 . rw[show bX x=aL [40]::bE jO::.sp::bE x.s.data.toList::(oL (x.arms.map fun a=>a.data.toList) x.subs++[aL [41]])by simp[bX,cL,Cy]]
   exact aI.cons_ (mN _) (aI.cons_ (tQ aF (lP _ _)) (aI.cons_ (aI.sp _) (aI.cons_ (gJ (.inl (hf.low aA)) (bMf _ _ _).noNm) (aI.two (aVt _ _ (fun a ha=>by
    obtain⟨b,hb,rfl⟩:=List.mem_map.1 ha;exact aH8 (hf.arms b hb)) H _) (aI.cons_ (mO _) (aI.nil_ _))))))
 by_cases Ae:x.k=13
 . have hs:=hf.low (show x.k=3\/x.k=11\/x.k=12\/x.k=13 by omega);by_cases Aq:x.n=1
   . have Ng:1<=x.subs.length:=by
      have h:=hf.lo;rw[show cO x=(x.n,6+x.n)by simp[cO,Ae],Aq]at h;simp only at h;omega
     have hg:gX x.subs (x.subs.length-1)∈x.subs:=by
      unfold gX;exact bEl
     rw[show bX x=aL [40]::bE x.s.data.toList::aL [40]::(nN (x.subs.take (x.subs.length-1))++aL [41]::.sp::bE qL::.sp::.sub (gX x.subs (x.subs.length-1))::[aL [41]])by simp[bX,cL,Ae,Aq,xX]];exact aI.cons_ (mN _) (aI.cons_ (gJ (.inl hs) (m40 _ _)) (aI.cons_ (mN _) (aI.two (aHr _ (fun y hy=>H y (List.mem_of_mem_take hy)) _ (rH _ _)) (aI.cons_ (mO _) (aI.cons_ (aI.sp _) (aI.cons_ (tQ aF (lP _ _)) (aI.cons_ (aI.sp _) (aI.cons_ (H _ hg _ (rH _ _)) (aI.cons_ (mO _) (aI.nil_ _))))))))))
   . rw[show bX x=bE x.s.data.toList::aL [40]::(nN x.subs++[aL [41]])by simp[bX,cL,Ae,Aq,xX]];exact aI.cons_ (gJ (.inl hs) (m40 _ _)) (aI.cons_ (mN _) (aI.two (aHr _ H _ (rH _ _)) (aI.cons_ (mO _) (aI.nil_ _))))
 by_cases Eh:x.k=14
 . rw[show bX x=aL [91]::(nN x.subs++[aL [93]])by simp[bX,cL,Eh]];exact aI.cons_ (aI8 _) (aI.two (aHr _ H _ (c93 _ _)) (aI.cons_ (aI9 _) (aI.nil_ _)))
 by_cases Ek:x.k=15
 . obtain⟨a,b,Ba⟩:=kF (dP hf (m:=2) aDr);have Ha:=H a eR;have Hb:=H b eR;rw[show bX x=[.sub a,aL [91],.sub b,aL [93]]by simp[bX,cL,Ek,Ba,gX]];exact aI.cons_ (Ha _ (c91 _ _)) (aI.cons_ (aI8 _) (aI.cons_ (Hb _ (c93 _ _)) (aI.cons_ (aI9 _) (aI.nil_ _))))
 by_cases Fh:x.k=16
 . obtain⟨a,b,c,Ba⟩:=vK (dP hf (m:=3) aPb);have Ha:=H a eR;have Hb:=H b eR;have Hc:=H c eR;rw[show bX x=[aL [40],.sub a,.sp,bE qO,.sp,aL [91],.sub b,aL [93],.sp,aL [61],.sp,.sub c,aL [41]]by simp[bX,cL,Fh,Ba,gX]];exact aI.cons_ (mN _) (aI.cons_ (Ha _ (lP _ _)) (aI.cons_ (aI.sp _) (aI.cons_ (tQ aF (lP _ _)) (aI.cons_ (aI.sp _) (aI.cons_ (aI8 _) (aI.cons_ (Hb _ (c93 _ _)) (aI.cons_ (aI9 _) (aI.cons_ (aI.sp _) (aI.cons_ (bA6 _) (aI.cons_ (aI.sp _) (aI.cons_ (Hc _ (rH _ _)) (aI.cons_ (mO _) (aI.nil_ _)))))))))))))
 by_cases Bs:x.k=1
 . rw[show bX x=[.tk 3 (Lib.itoa x.n) x.n]by simp[bX,cL,Bs,mM]];exact aI.cons_ (aZb (hf.n1 Bs) hn hu.noNm) (aI.nil_ _)
 by_cases Cb:x.k=2
 . rw[show bX x=[bE (if x.n=1 then eF else dY)]by simp[bX,cL,Cb,mM]];exact aI.cons_ (tQ (by split<;>decide) hu) (aI.nil_ _)
 by_cases Fy:x.k=4
 . rw[show bX x=[.tk 2 x.s.data.toList 0]by simp[bX,cL,Fy,mM]];exact aI.cons_ (aEz (hf.high Fy) hu.noNm) (aI.nil_ _)
 by_cases Aa:x.k=17
 . rw[show bX x=[.tk 4 x.s.data.toList 0]by simp[bX,cL,Aa,mM]];exact aI.cons_ (bTg (hf.path Aa)) (aI.nil_ _)
 have Fs:x.k=3:=aA;rw[show bX x=[bE x.s.data.toList]by simp[bX,cL,Fs,mM]];exact aI.cons_ (gJ (.inl (hf.low (.inl Fs))) hu.noNm) (aI.nil_ _)
end
theorem aXi:∀(f:Nat)(x:Ex),bV x->(∀p∈bP x,qX p)->aT x<=f->∀u,pP u->∀a,∃ts,cK a (aK x++u)=(ts++(cK (a+(aK x).length) u).1,(cK (a+(aK x).length) u).2)/\bG f x ts
 |0,x,_,_,hs,_,_,_=>by have:=vW x;omega
 |f+1,x,hx,hp,hs,u,hu,a=>by
  have hf:=hx.part;have Dj:=hp x aGf;have Au:=uG x;have H:aK5 (bG f) x.subs:=fun y hy v hv=>aI.sub fun b=>aXi f y (hx.sub hy) (fun p Iq=>hp p aQw) (by have:=aBr hy;omega) v hv b;obtain⟨ts,e,k⟩:=bTi hf hx Dj.2.2 H u hu a;rw[bMe hf]at e;exact⟨ts,e,k⟩
end Go.Proofs.YtagkcjpoipcpkaaGreatDoor
