/- Parts of the proof: TpM. Conditions: each theorem's own. -/
import Derived.Test.YtkbpdoomhfkngaaGreatR08
import Derived.Test.YtkbpdoomhfkngaaGreatR21
namespace Go.Proofs.YtkbpdoomhfkngaaGreat
set_option linter.unusedVariables false
set_option linter.unusedSimpArgs false
set_option maxRecDepth 100000
set_option maxHeartbeats 40000000
section
open Go.RowKit
abbrev T3:=Int × Int × Int
def tyD(d:Dc):T3:=(d.k,d.e,d.l)
def dcTy(o:Option Dc):T3:=(o.map tyD).getD (0,0,0)
def armTy(o:Option (Int × Int × Int)):T3:=(o.map fun r=>((r.1,r.2.1,0):T3)).getD (0,0,0)
def optT(o:Option Int):Option T3:=o.map fun k=>(k,0,0)
def litT(es:List En) (x:Ex):Option (T3 × Int):=
 if(x.k==1)=true then some ((1,0,0),x.n)
 else if(x.k==2)=true then some ((2,0,0),x.n)
 else if(x.k==5)=true then some ((1,0,0),wrap64 (-(subX x 0).n))
 else(armR es x.s).map fun r=>((r.1,r.2.1,0),r.2.2)
def arrT(es:List En) (l:List Ex):Nat→Option (List Int × T3)
 | 0=>some ([],(0,0,0))
 | k+1=>match arrT es l k with
  | none=>none
  | some r=>match litT es (l[k]?.getD default) with
   | none=>none
   | some t=>if 0<k∧¬ t.1=r.2 then none else some (r.1++[t.2],t.1)
def constT(es:List En) (x:Ex):Option (List Int × T3):=
 if(rightX x && constX x)=false then none
 else if(x.k==14)=true then(arrT es x.subs x.subs.length).map fun r=>(r.1,(r.2.1,r.2.2.1,(x.subs.length:Int)))
 else(litT es x).map fun r=>([r.2],r.1)
def truthT(t:T3):Bool:=decide (t=(2,0,0))
def wholeT(t:T3):Bool:=decide (t=(1,0,0))
def oneT(t:T3):T3:=(t.1,t.2.1,0)
def atT(l:List T3) (i:Nat):T3:=l[i]?.getD (0,0,0)
def allT(l:List T3):Bool:=l.all fun t=>decide (t=atT l 0)
def armsT(es:List En) (t:T3) (arms:List ByteArray):Bool:=
 if truthT t=true then decide (arms.length=2) && (((arms[0]?.getD ByteArray.empty).toList==[116,114,117,101]) && ((arms[1]?.getD ByteArray.empty).toList==[102,97,108,115,101]))
 else decide (t.1=3) && (decide (t.2.2=0) && sameT arms (csE es t.2.1.toNat))
def callT(p:Pg) (x:Ex) (ts:List T3):Option Nat:=
 if findN p x.s<0 then none
 else if ¬ ((ts.length:Int)-x.n=((ndAt p (findN p x.s).toNat).ins.length:Int)) then none
 else if(x.n==1 && !truthT (atT ts (ts.length-1)))=true then none
 else if(List.range (ndAt p (findN p x.s).toNat).ins.length).all (fun k=>decide (tyD ((ndAt p (findN p x.s).toNat).ins[k]?.getD default)=atT ts k))=true then some (findN p x.s).toNat else none
def flowT(p:Pg) (i:Nat) (x:Ex) (ts:List T3):Option T3:=
 if(x.k==9)=true then(if atT ts 0=atT ts 1 then some (atT ts 0) else none)
 else if(x.k==10)=true then some (atT ts 0)
 else if(x.k==11)=true then
  match declO (ndAt p i) x.s with
  | none=>none
  | some d=>match armR p.es (x.arms[0]?.getD ByteArray.empty) with
   | none=>none
   | some r=>if((r.1,r.2.1,0):T3)=tyD d then some (atT ts 0) else none
 else if(x.k==12)=true then
  match declO (ndAt p i) x.s with
  | none=>none
  | some d=>if(allT ts && armsT p.es (tyD d) x.arms)=true then some (atT ts 0) else none
 else match callT p x ts with
  | none=>none
  | some j=>if(ndAt p j).outs.length=1 then some (tyD ((ndAt p j).outs[0]?.getD default)) else none
def plainT(x:Ex) (ts:List T3):Option T3:=
 if(x.k==5)=true then optT (unTyI x.op (atT ts 0).1 (atT ts 0).2.1 (atT ts 0).2.2)
 else if(x.k==6)=true then optT (binTyI x.op (isP 1 (atT ts 0).1 (atT ts 0).2.1 (atT ts 0).2.2 && isP 1 (atT ts 1).1 (atT ts 1).2.1 (atT ts 1).2.2)
  (isP 2 (atT ts 0).1 (atT ts 0).2.1 (atT ts 0).2.2 && isP 2 (atT ts 1).1 (atT ts 1).2.1 (atT ts 1).2.2) (sameB (atT ts 0).1 (atT ts 0).2.1 (atT ts 0).2.2 (atT ts 1).1 (atT ts 1).2.1 (atT ts 1).2.2))
 else if(x.k==7)=true then(if(truthT (atT ts 0) && decide (atT ts 1=atT ts 2))=true then some (atT ts 1) else none)
 else if(x.k==14)=true then(if(allT ts && decide ((atT ts 0).2.2=0))=true then some ((atT ts 0).1,(atT ts 0).2.1,(ts.length:Int)) else none)
 else if(x.k==15)=true then(if(decide (0<(atT ts 0).2.2) && wholeT (atT ts 1))=true then some (oneT (atT ts 0)) else none)
 else if(decide (0<(atT ts 0).2.2) && (wholeT (atT ts 1) && decide (atT ts 2=oneT (atT ts 0))))=true then some (atT ts 0) else none
def seqO{α:Type}:List (Option α)→Option (List α)
 | []=>some []
 | none::_=>none
 | some a::l=>(seqO l).map (a::·)
def ofT(p:Pg) (i:Nat) (x:Ex) (l:List (Option T3)):Option T3:=
 if(x.k==1 || x.k==2 || x.k==4)=true then(constT p.es x).map (·.2)
 else if(x.k==3)=true then(declO (ndAt p i) x.s).map tyD
 else if(x.k==8)=true then
  match constT p.es (subX x 0) with
  | none=>none
  | some c=>match l[1]?.getD none with
   | none=>none
   | some u=>if c.2=u then some u else none
 else if(x.k==17)=true then none
 else match seqO l with
  | none=>none
  | some ts=>if(decide (9≤x.k) && decide (x.k≤13))=true then flowT p i x ts else plainT x ts
mutual
def typX(p:Pg) (i:Nat):Ex→Option T3
 | .mk k n s op arms subs=>ofT p i (.mk k n s op arms subs) (typL p i subs)
def typL(p:Pg) (i:Nat):List Ex→List (Option T3)
 | []=>[]
 | x::l=>typX p i x::typL p i l
end
theorem typL_eq(p:Pg) (i:Nat):∀ l,typL p i l=l.map (typX p i)
 | []=>by simp only [typL,List.map_nil]
 | x::l=>by simp only [typL,List.map_cons,typL_eq p i l]
theorem typX_eq(p:Pg) (i:Nat) (x:Ex):typX p i x=ofT p i x (x.subs.map (typX p i)):=by
 cases x
 simp only [typX,typL_eq,Ex.subs]
def wantT(p:Pg) (i:Nat) (x:Ex):Option (List T3):=
 if(x.k==13)=true then
  match seqO (x.subs.map (typX p i)) with
  | none=>none
  | some ts=>(callT p x ts).map fun j=>(ndAt p j).outs.map tyD
 else(typX p i x).map fun t=>[t]
def eqT(p:Pg) (i:Nat) (q:Qn):Bool:=
 match wantT p i q.x with
 | none=>false
 | some w=>decide (w.length=q.ns.length) && (List.range w.length).all fun k=>decide (dcTy (declO (ndAt p i) (q.ns[k]?.getD ByteArray.empty))=atT w k)
def onT(p:Pg) (i:Nat) (d:Dc):Bool:=(d.on.toList==[]) || decide (dcTy (declO (ndAt p i) d.on)=armTy (armR p.es d.ct))
def eqTF(p:Pg) (i j:Nat):Fl:=if eqT p i ((ndAt p i).eqs[j]?.getD default)=true then(0,0,0) else((i:Int),(j:Int),7)
def nodeTF(p:Pg) (i:Nat):Fl:=
 if(ndAt p i).all.all (onT p i)=false then((i:Int),-1,7) else firstF ((0,0,0):Fl) (eqTF p i) (ndAt p i).eqs.length
def checkT(p:Pg):Fl:=if checkS p=(0,0,0) then firstF ((0,0,0):Fl) (nodeTF p) p.ns.length else checkS p
theorem seqO_len{α:Type}:∀ {l:List (Option α)}{ts:List α},seqO l=some ts→ts.length=l.length
 | [],ts,h=>by injection h with h;subst h;rfl
 | none::l,ts,h=>by cases h
 | some a::l,ts,h=>by
  simp only [seqO,Option.map_eq_some_iff] at h;obtain⟨t,h1,rfl⟩:=h
  simp [seqO_len h1]
theorem seqO_take{α:Type} [Inhabited α]:∀ {l:List (Option α)}{ts:List α}{k:Nat},k<l.length→seqO (l.take k)=some ts→∀ {a:α},l[k]?.getD none=some a→seqO (l.take (k+1))=some (ts++[a])
 | [],ts,k,hk,_,_,_=>by simp at hk
 | o::l,ts,0,_,h,a,ha=>by
  simp only [List.take_zero,seqO] at h;injection h with h;subst h;have ha:o=some a:=by simpa using ha
  subst ha
  simp [seqO]
 | none::l,ts,k+1,_,h,a,ha=>by simp [seqO] at h
 | some b::l,ts,k+1,hk,h,a,ha=>by
  simp only [List.take_succ_cons,seqO,Option.map_eq_some_iff] at h;obtain⟨t,h1,rfl⟩:=h;have:=seqO_take (l:=l) (by simpa using hk) h1 (a:=a) (by simpa using ha);rw [List.take_succ_cons];simp only [seqO];rw [this]
  simp
theorem seqO_none{α:Type}:∀ {l:List (Option α)}{k:Nat},k<l.length→l[k]?.getD none=none→seqO l=none
 | [],k,hk,_=>by simp at hk
 | none::l,0,_,_=>rfl
 | some b::l,0,_,h=>by simp at h
 | none::l,k+1,_,_=>rfl
 | some b::l,k+1,hk,h=>by
  have:=seqO_none (l:=l) (k:=k) (by simpa using hk) (by simpa using h);simp only [seqO,this,Option.map_none]
end
end Go.Proofs.YtkbpdoomhfkngaaGreat
