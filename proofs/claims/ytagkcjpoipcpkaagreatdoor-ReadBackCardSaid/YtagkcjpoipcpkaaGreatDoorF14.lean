/- A part of the proof. Conditions: each theorem's own. -/
import Derived.Test.YtagkcjpoipcpkaaGreatDoorF09
import Derived.Test.YtagkcjpoipcpkaaGreatDoorF12
import Derived.Test.YtagkcjpoipcpkaaGreatDoorF13
namespace Go.Proofs.YtagkcjpoipcpkaaGreatDoor
set_option linter.unusedVariables false
set_option linter.unusedSimpArgs false
set_option maxRecDepth 100000
set_option maxHeartbeats 40000000
section
open Go.RowKit Go.Sort
section
variable {s:BA}{p:Nat}
end
theorem bL.thaw{T:TypeId}{W:World}{g:Nat}{t:Tk}(h:bL T W g t)(j:Nat):W.frozen? ⟨g,j,none⟩=false:=by
 unfold bL at h;simp[World.frozen?,h]
theorem aXf{T:TypeId}{W:World}{g:Nat}{t:Tk}(h:bL T W g t)(u:Tk):
 (((W.setCell ⟨g,0,none⟩ (.int .i64 u.k)).setCell ⟨g,1,none⟩ (.string (aZ u.s))).setCell ⟨g,2,none⟩ (.int .i64 u.n)).setCell ⟨g,3,none⟩ (.int .i64 (u.a:Int))=W.setRow g (dO u):=by
 unfold bL at h;rw[Xi _ _ _ _ _ _ _ h];have h1:=Xh _ _ _ ((dO t).setIfInBounds 0 (.int .i64 u.k)) _ _ h;rw[Xi _ _ _ _ _ _ _ h1,setRow_setRow];have h2:=Xh _ _ _ (((dO t).setIfInBounds 0 (.int .i64 u.k)).setIfInBounds 1 (.string (aZ u.s))) _ _ h;rw[Xi _ _ _ _ _ _ _ h2,setRow_setRow];have h3:=Xh _ _ _ ((((dO t).setIfInBounds 0 (.int .i64 u.k)).setIfInBounds 1 (.string (aZ u.s))).setIfInBounds 2 (.int .i64 u.n)) _ _ h;rw[Xi _ _ _ _ _ _ _ h3,setRow_setRow];rfl
end
def aK3:List UInt8:=[32,119,104,101,110,32]
def yJ:List UInt8:=[110,111,100,101,32]
def yX:List UInt8:=[32,114,101,116,117,114,110,115,32]
def aGo:List UInt8:=[118,97,114,32]
def yY:List UInt8:=[108,101,116,10]
def aDx:List UInt8:=[116,101,108,10]
def aKb:List UInt8:=[101,110,117,109,32]
def dI(s:UInt8):List (List UInt8)->List UInt8
 |[]=>[]
 |[x]=>x
 |x::y::l=>x++s::32::dI s (y::l)
section
variable (ty:Dc->List UInt8)
def gS(d:Dc):List UInt8:=d.nm.data.toList++58::32::(ty d++if eO d.on then []else aK3++kH d.on.data.toList d.ct.data.toList)
def kA(l:List Dc):List UInt8:=dI 59 (l.map (gS ty))
def eqT(q:Qn):List UInt8:=32::32::(dI 44 (q.ns.map fun s=>s.data.toList)++32::61::32::(aK q.x++[59]))
def aDy(l:List Qn):List UInt8:=l.flatMap fun q=>eqT q++[10]
def uW(l:List Dc):List UInt8:=if l=[]then []else aGo++(kA ty l++[59,10])
def tM(n:Nd):List UInt8:=yJ++(n.nm.data.toList++40::(kA ty n.ins++41::(yX++40::(kA ty n.outs++41::10::(uW ty n.vars++(yY++(aDy n.eqs++aDx)))))))
def lS(l:List Nd):List UInt8:=l.flatMap (tM ty)
end
def yK(e:En):List UInt8:=aKb++(e.1.data.toList++32::123::32::(dI 44 (e.2.map fun s=>s.data.toList)++32::125::59::[10]))
def jP(l:List En):List UInt8:=l.flatMap yK
theorem bWy{l:LU}(h:aQ l=true):l≠[]:=by
 obtain⟨c,r,rfl,_⟩:=aI7 h;simp
structure mU (ok:Dc->Prop)(d:Dc):Prop where
 ty:ok d
 low:aQ d.nm.data.toList=true
 on:(eO d.on=true/\eO d.ct=true)\/(eO d.on=false/\aQ d.on.data.toList=true/\(d.ct.data.toList=eF\/d.ct.data.toList=dY\/dF d.ct.data.toList=true))
section
variable {ok:Dc->Prop}{ty:Dc->List UInt8}
end
structure QnF (q:Qn):Prop where
 ns:∀s∈q.ns,aQ s.data.toList=true
 x:bV q.x
structure NdF (ok:Dc->Prop)(n:Nd):Prop where
 low:aQ n.nm.data.toList=true
 ins:∀d∈n.ins,mU ok d/\eO d.on=true
 outs:∀d∈n.outs,mU ok d/\eO d.on=true
 vars:∀d∈n.vars,mU ok d
 eqs:∀q∈n.eqs,QnF q
section
variable {ok:Dc->Prop}{ty:Dc->List UInt8}
end
structure EnF (e:En):Prop where
 low:aQ e.1.data.toList=true
 cs:∀s∈e.2,dF s.data.toList=true
def lO(n:Nat)(d:Dc):Prop:=bK n d.k d.e d.l=true
theorem bS3{n:Nat}{d:Dc}(h:gD n bK d=true):mU (lO n) d:=by
 simp only[gD,Yu,Bool.or_eq_true]at h;obtain⟨⟨h1,h2⟩,h3⟩:=h;refine⟨h2,h1,?_⟩;rcases h3 with⟨h3,h4⟩|⟨h3,h4⟩;· exact .inl ⟨h3,h4⟩
 . refine .inr ⟨?_,h3,?_⟩
   . cases hn:eO d.on with
     |false=>rfl
     |true=>exact absurd (eq_of_beq hn) (bWy h3)
   . simp only[sO,Bool.or_eq_true,beq_iff_eq]at h4;rcases h4 with(h4|h4)|h4;· exact .inr (.inr h4)
     . exact .inl h4
     . exact .inr (.inl h4)
theorem bA4{q:Qn}(h:jU bJ q=true):QnF q:=by
 simp only[jU,Yu,Zj]at h;exact⟨h.1.1.1,aH7 h.1.2⟩
theorem bA5{n:Nat}{x:Nd}(h:jQ n bK bJ x=true):NdF (lO n) x:=by
 simp only[jQ,xV,Yu,Zj]at h;obtain⟨⟨⟨⟨h1,h2⟩,h3⟩,h4⟩,h5⟩:=h;have Aa:∀d,(d∈x.ins\/d∈x.outs)\/d∈x.vars->mU (lO n) d:=fun d hd=>bS3 (h1 d (by rw[Nd.all,Zr,Zr];exact hd));exact⟨h4,fun d hd=>⟨Aa d (.inl (.inl hd)),h2 d (List.mem_append_left _ hd)⟩,fun d hd=>⟨Aa d (.inl (.inr hd)),h2 d (List.mem_append_right _ hd)⟩,fun d hd=>Aa d (.inr hd),fun q hq=>bA4 (h3 q hq)⟩
theorem bKm{p:Pg}(h:eM p=0):cG p.es=0/\0<p.ns.length/\∀x∈p.ns,NdF (lO p.es.length) x:=by
 unfold eM at h;split at h
 . rename_i he;refine⟨he,?_⟩;split at h;· cases h
   . rename_i h0;split at h;· cases h
     . split at h;· cases h
       . split at h
         . rename_i hr;exact⟨by omega,fun x hx=>bA5 (Zj.1 hr x hx)⟩
         . cases h
 . rename_i he;exact absurd h he
theorem cAj{es:List En}(h:cG es=0):∀e∈es,EnF e:=by
 have h1:lA es=true:=by
  exact bD1
 unfold lA at h1;rw[Yu,Zj,Zj]at h1;intro e he;obtain⟨i,hi,rfl⟩:=Zm he;have h2:=h1.1 _ he;simp only[zA,Yu]at h2;refine⟨h2.1,fun s hs=>h1.2 s ?_⟩;obtain⟨q,hq,rfl⟩:=Zm hs;have hcs:cH es i=(es[i]'hi).2:=by simp[cH,Yk hi]
 have hm:((i,q,lZ es i q):Pl)∈jE es:=by
  have h3:((i,q,lZ es i q):Pl)∈mL es (i+1):=by
   simp only[mL,Zr];right;unfold nT;exact List.mem_map.2 ⟨q,List.mem_range.2 (by rw[hcs];exact hq),rfl⟩
  exact(aTi es (i+1) es.length aA).subset h3
 have Aa:lZ es i q=(es[i]'hi).2[q]'hq:=by
  unfold lZ;rw[hcs,Yk hq,Yv]
 rw[<-Aa];exact List.mem_map.2 ⟨_,hm,rfl⟩
def aQi(ty:Dc->List UInt8)(p:Pg):List UInt8:=jP p.es++lS ty p.ns
section
open Go.RowKit
theorem aLr(l:LB):jD l l=true:=by simp[jD]
theorem bS4(a:En):pW a a=true:=by
 simp only[pW,aLr,Bool.and_true];simp
theorem bL9:∀x:Ex,pL x x=true:=by
 refine tB fun x ih=>?_;rw[aWq,aLr,aLy rfl fun i hi=>ih i hi];simp
theorem bS5(a:Qn):tZ a a=true:=by rw[tZ,aLr,bL9];rfl
theorem bS6(a:Nd):pX a a=true:=by
 simp only[pX,aEn (fun x _=>aW3 x),aEn (fun x _=>bS5 x),Bool.and_true];simp
theorem bS7(a:Pg):eqP a a=true:=by
 simp only[eqP,aEn (fun x _=>bS4 x),aEn (fun x _=>bS6 x),Bool.and_true]
def bR(es:List En)(d:Dc):List UInt8:=(mS es d.k d.e d.l).data.toList
def jF(p:Pg):List UInt8:=if eM p=0 then aQi (bR p.es) p else []
end
section
open Go.RowKit Go.Sort
theorem jC.skip{T:TypeId}{s:BA}{w w':World}{v:Value}{p q:Nat}{acc:List Tk}(h:jC T s w v p acc w')(k:aOr s p q):jC T s w v q acc w':=
 ⟨k.2.1,by have:=h.2.1;have:=k.1;omega,h.2.2.1,by rw[h.2.2.2.1,k.2.2],h.2.2.2.2⟩
end
end Go.Proofs.YtagkcjpoipcpkaaGreatDoor
