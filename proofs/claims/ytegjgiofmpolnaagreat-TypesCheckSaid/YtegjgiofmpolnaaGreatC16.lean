/- Parts of the proof: TpM, TpA, TpC, TpD, TpB, TpS, TpT. Conditions: each theorem's own. -/
import Derived.Test.YtegjgiofmpolnaaGreatC12
import Derived.Test.YtegjgiofmpolnaaGreatC15
namespace Go.Proofs.YtegjgiofmpolnaaGreat
set_option linter.unusedVariables false
set_option linter.unusedSimpArgs false
set_option maxRecDepth 100000
set_option maxHeartbeats 40000000
section
open Go.RowKit Go.Sort Go.BigFrame
theorem Xd:type_of% @setCell_eq_setRow:=@setCell_eq_setRow
end
section
open Go.RowKit
abbrev T3:=Int × Int × Int
def aO(d:Dc):T3:=(d.k,d.e,d.l)
def fZ(o:Option Dc):T3:=(o.map aO).getD (0,0,0)
def mI(o:Option (Int × Int × Int)):T3:=(o.map fun r=>((r.1,r.2.1,0):T3)).getD (0,0,0)
def nJ(o:Option Int):Option T3:=o.map fun k=>(k,0,0)
def dF(es:List En) (x:Ex):Option (T3 × Int):=
 if(x.k==1)=true then some ((1,0,0),x.n)
 else if(x.k==2)=true then some ((2,0,0),x.n)
 else if(x.k==5)=true then some ((1,0,0),wrap64 (-(aU x 0).n))
 else(cU es x.s).map fun r=>((r.1,r.2.1,0),r.2.2)
def gJ(es:List En) (l:List Ex):Nat->Option (List Int × T3)
 | 0=>some ([],(0,0,0))
 | k+1=>match gJ es l k with
  | none=>none
  | some r=>match dF es (l[k]?.getD default) with
   | none=>none
   | some t=>if 0<k/\¬ t.1=r.2 then none else some (r.1++[t.2],t.1)
def dL(es:List En) (x:Ex):Option (List Int × T3):=
 if(bB x && dC x)=false then none
 else if(x.k==14)=true then(gJ es x.subs x.subs.length).map fun r=>(r.1,(r.2.1,r.2.2.1,(x.subs.length:Int)))
 else(dF es x).map fun r=>([r.2],r.1)
def fD(t:T3):Bool:=decide (t=(2,0,0))
def kM(t:T3):Bool:=decide (t=(1,0,0))
def jG(t:T3):T3:=(t.1,t.2.1,0)
def aB(l:List T3) (i:Nat):T3:=l[i]?.getD (0,0,0)
def dH(l:List T3):Bool:=l.all fun t=>decide (t=aB l 0)
def jK(es:List En) (t:T3) (arms:List ByteArray):Bool:=
 if fD t=true then decide (arms.length=2) && (((arms[0]?.getD ByteArray.empty).toList==[116,114,117,101]) && ((arms[1]?.getD ByteArray.empty).toList==[102,97,108,115,101]))
 else decide (t.1=3) && (decide (t.2.2=0) && dP arms (bT es t.2.1.toNat))
def fB(p:Pg) (x:Ex) (ts:List T3):Option Nat:=
 if cQ p x.s<0 then none
 else if ¬ ((ts.length:Int)-x.n=((aA p (cQ p x.s).toNat).ins.length:Int)) then none
 else if(x.n==1 && !fD (aB ts (ts.length-1)))=true then none
 else if(List.range (aA p (cQ p x.s).toNat).ins.length).all (fun k=>decide (aO ((aA p (cQ p x.s).toNat).ins[k]?.getD default)=aB ts k))=true then some (cQ p x.s).toNat else none
def fO(p:Pg) (i:Nat) (x:Ex) (ts:List T3):Option T3:=
 if(x.k==9)=true then(if aB ts 0=aB ts 1 then some (aB ts 0) else none)
 else if(x.k==10)=true then some (aB ts 0)
 else if(x.k==11)=true then
  match aW (aA p i) x.s with
  | none=>none
  | some d=>match cU p.es (x.arms[0]?.getD ByteArray.empty) with
   | none=>none
   | some r=>if((r.1,r.2.1,0):T3)=aO d then some (aB ts 0) else none
 else if(x.k==12)=true then
  match aW (aA p i) x.s with
  | none=>none
  | some d=>if(dH ts && jK p.es (aO d) x.arms)=true then some (aB ts 0) else none
 else match fB p x ts with
  | none=>none
  | some j=>if(aA p j).outs.length=1 then some (aO ((aA p j).outs[0]?.getD default)) else none
def fW(x:Ex) (ts:List T3):Option T3:=
 if(x.k==5)=true then nJ (cX x.op (aB ts 0).1 (aB ts 0).2.1 (aB ts 0).2.2)
 else if(x.k==6)=true then nJ (iF x.op (aV 1 (aB ts 0).1 (aB ts 0).2.1 (aB ts 0).2.2 && aV 1 (aB ts 1).1 (aB ts 1).2.1 (aB ts 1).2.2)
  (aV 2 (aB ts 0).1 (aB ts 0).2.1 (aB ts 0).2.2 && aV 2 (aB ts 1).1 (aB ts 1).2.1 (aB ts 1).2.2) (fA (aB ts 0).1 (aB ts 0).2.1 (aB ts 0).2.2 (aB ts 1).1 (aB ts 1).2.1 (aB ts 1).2.2))
 else if(x.k==7)=true then(if(fD (aB ts 0) && decide (aB ts 1=aB ts 2))=true then some (aB ts 1) else none)
 else if(x.k==14)=true then(if(dH ts && decide ((aB ts 0).2.2=0))=true then some ((aB ts 0).1,(aB ts 0).2.1,(ts.length:Int)) else none)
 else if(x.k==15)=true then(if(decide (0<(aB ts 0).2.2) && kM (aB ts 1))=true then some (jG (aB ts 0)) else none)
 else if(decide (0<(aB ts 0).2.2) && (kM (aB ts 1) && decide (aB ts 2=jG (aB ts 0))))=true then some (aB ts 0) else none
def bK{α:Type}:List (Option α)->Option (List α)
 | []=>some []
 | none::_=>none
 | some a::l=>(bK l).map (a::·)
def iS(p:Pg) (i:Nat) (x:Ex) (l:List (Option T3)):Option T3:=
 if(x.k==1 || x.k==2 || x.k==4)=true then(dL p.es x).map (·.2)
 else if(x.k==3)=true then(aW (aA p i) x.s).map aO
 else if(x.k==8)=true then
  match dL p.es (aU x 0) with
  | none=>none
  | some c=>match l[1]?.getD none with
   | none=>none
   | some u=>if c.2=u then some u else none
 else if(x.k==17)=true then none
 else match bK l with
  | none=>none
  | some ts=>if(decide (9<=x.k) && decide (x.k<=13))=true then fO p i x ts else fW x ts
mutual
def cG(p:Pg) (i:Nat):Ex->Option T3
 | .mk k n s op arms Aa=>iS p i (.mk k n s op arms Aa) (sO p i Aa)
def sO(p:Pg) (i:Nat):List Ex->List (Option T3)
 | []=>[]
 | x::l=>cG p i x::sO p i l
end
theorem aEp(p:Pg) (i:Nat):∀ l,sO p i l=l.map (cG p i)
 | []=>by simp only [sO,List.map_nil]
 | x::l=>by simp only [sO,Xg,aEp p i l]
theorem kK(p:Pg) (i:Nat) (x:Ex):cG p i x=iS p i x (x.subs.map (cG p i)):=by
 cases x
 simp only [cG,aEp,Ex.subs]
def jD(p:Pg) (i:Int) (x:Ex):Option T3:=if i<0\/(p.ns.length:Int)<=i then none else cG p i.toNat x
def fF(p:Pg) (i:Nat) (x:Ex):Option (List T3):=
 if(x.k==13)=true then
  match bK (x.subs.map (cG p i)) with
  | none=>none
  | some ts=>(fB p x ts).map fun j=>(aA p j).outs.map aO
 else(cG p i x).map fun t=>[t]
def iT(p:Pg) (i:Nat) (q:Qn):Bool:=
 match fF p i q.x with
 | none=>false
 | some w=>decide (w.length=q.ns.length) && (List.range w.length).all fun k=>decide (fZ (aW (aA p i) (q.ns[k]?.getD ByteArray.empty))=aB w k)
def iU(p:Pg) (i:Nat) (d:Dc):Bool:=(d.on.toList==[]) || decide (fZ (aW (aA p i) d.on)=mI (cU p.es d.ct))
def jZ(p:Pg) (i j:Nat):Fl:=if iT p i ((aA p i).eqs[j]?.getD default)=true then(0,0,0) else((i:Int),(j:Int),7)
def fE(p:Pg) (i:Nat):Fl:=
 if(aA p i).all.all (iU p i)=false then((i:Int),-1,7) else eH ((0,0,0):Fl) (jZ p i) (aA p i).eqs.length
def gL(p:Pg):Fl:=if dE p=(0,0,0) then eH ((0,0,0):Fl) (fE p) p.ns.length else dE p
theorem oZ{α:Type}:∀ {l:List (Option α)}{ts:List α},bK l=some ts->ts.length=l.length
 | [],ts,h=>by injection h with h;subst h;rfl
 | none::l,ts,h=>by cases h
 | some a::l,ts,h=>by
  simp only [bK,Option.map_eq_some_iff] at h;obtain⟨t,h1,rfl⟩:=h
  simp [oZ h1]
theorem wT{α:Type} [Inhabited α]:∀ {l:List (Option α)}{ts:List α}{k:Nat},k<l.length->bK (l.take k)=some ts->∀ {a:α},l[k]?.getD none=some a->bK (l.take (k+1))=some (ts++[a])
 | [],ts,k,hk,_,_,_=>by simp at hk
 | o::l,ts,0,_,h,a,ha=>by
  simp only [List.take_zero,bK] at h;injection h with h;subst h;have ha:o=some a:=by simpa using ha
  subst ha
  simp [bK]
 | none::l,ts,k+1,_,h,a,ha=>by simp [bK] at h
 | some b::l,ts,k+1,hk,h,a,ha=>by
  simp only [List.take_succ_cons,bK,Option.map_eq_some_iff] at h;obtain⟨t,h1,rfl⟩:=h;have:=wT (l:=l) (by simpa using hk) h1 (a:=a) (by simpa using ha);rw [List.take_succ_cons];simp only [bK];rw [this]
  simp
theorem tK{α:Type}:∀ {l:List (Option α)}{k:Nat},k<l.length->l[k]?.getD none=none->bK l=none
 | [],k,hk,_=>by simp at hk
 | none::l,0,_,_=>rfl
 | some b::l,0,_,h=>by simp at h
 | none::l,k+1,_,_=>rfl
 | some b::l,k+1,hk,h=>by
  have:=tK (l:=l) (k:=k) (by simpa using hk) (by simpa using h);simp only [bK,this,Option.map_none]
end
section
open Go.RowKit Go.Sort
theorem iC(a b c a' b' c':Int):(a=a'/\b=b'/\c=c'/\(((a,b,c):T3)=(a',b',c')))\/((a==a')=false/\¬ ((a,b,c):T3)=(a',b',c'))\/(a=a'/\(b==b')=false/\¬ ((a,b,c):T3)=(a',b',c'))\/(a=a'/\b=b'/\(c==c')=false/\¬ ((a,b,c):T3)=(a',b',c')):=by
 by_cases h1:a=a'
 . by_cases h2:b=b'
   . by_cases h3:c=c'
     . exact .inl ⟨h1,h2,h3,by rw [h1,h2,h3]⟩
     . exact .inr (.inr (.inr ⟨h1,h2,by simpa using h3,fun e=>h3 (by injection e with _ e;injection e)⟩))
   . exact .inr (.inr (.inl ⟨h1,by simpa using h2,fun e=>h2 (by injection e with _ e;injection e)⟩))
 . exact .inr (.inl ⟨by simpa using h1,fun e=>h1 (by injection e)⟩)
theorem fX{T:TypeId}{W:World}{g:Nat}{a b c:Int}(h:F3 T W g a b c) (x y z:Int):
 ((W.setCell ⟨g,0,none⟩ (.int .i64 x)).setCell ⟨g,1,none⟩ (.int .i64 y)).setCell ⟨g,2,none⟩ (.int .i64 z)=W.setRow g (aC x y z):=by
 unfold F3 at h;rw [Xd _ _ _ _ _ _ _ h];have h1:=Xc _ _ _ ((aC a b c).setIfInBounds 0 (.int .i64 x)) _ _ h;rw [Xd _ _ _ _ _ _ _ h1,setRow_setRow];have h2:=Xc _ _ _ (((aC a b c).setIfInBounds 0 (.int .i64 x)).setIfInBounds 1 (.int .i64 y)) _ _ h;rw [Xd _ _ _ _ _ _ _ h2,setRow_setRow];rfl
theorem qR{T:TypeId}{w w2 w4:World}{r:Nat}{a b c x y z:Int}(hT:F3 T w2 r a b c) (hb:Below w.heap.size w w2) (hr:w.heap.size<=r)
 (h:(((w2.setCell ⟨r,0,none⟩ (.int .i64 x)).setCell ⟨r,1,none⟩ (.int .i64 y)).setCell ⟨r,2,none⟩ (.int .i64 z)).drew=w4):F3 T w4 r x y z/\Below w.heap.size w w4:=by
 rw [fX hT] at h;subst h;exact⟨hT.set x y z,Below.drew (Xb hb hr _)⟩
theorem aKd(a b c:Int):fD (a,b,c)=aV 2 a b c:=by
 unfold fD aV;rcases iC a b c 2 0 0 with⟨h1,h2,h3,h⟩|⟨h1,h⟩|⟨h1,h2,h⟩|⟨h1,h2,h3,h⟩ <;> simp_all
theorem aKe(a b c:Int):kM (a,b,c)=aV 1 a b c:=by
 unfold kM aV;rcases iC a b c 1 0 0 with⟨h1,h2,h3,h⟩|⟨h1,h⟩|⟨h1,h2,h⟩|⟨h1,h2,h3,h⟩ <;> simp_all
theorem wB(a b c:Int) (w:World):Calls Tryz.prog 104 #[.agg (aC a b c)] w fun e w'=>e=.returned (.bool (fD (a,b,c)))/\Below w.heap.size w w':=by
 have HB:=Hd ((Yg w.heap.size w).alloc (Yh _) (.cells #[.int .i64 a,.int .i64 b,.int .i64 c] 38));have Aa:=Hd (aFr w 38 (.int .i64 a) (.int .i64 b) (.int .i64 c));rw [aKd];unfold aC;rcases nT 2 a b c with⟨rfl,rfl,rfl,h⟩|⟨h1,h⟩|⟨rfl,h1,h⟩|⟨rfl,rfl,h1,h⟩
 all_goals
  have HH:=Hd h;clear h
  go_enter Tryz.func104,Tryz.ntmps104
  go_upto_region 1 with(fail)
  obtain⟨q0,q1,q2⟩:=Aa.o
  go_wp2_with fail
  go_ret
  exact⟨aF (by rw [HH.o]),HB.o⟩
theorem aBc(a b c:Int) (w:World):Calls Tryz.prog 129 #[.agg (aC a b c)] w fun e w'=>e=.returned (.bool (kM (a,b,c)))/\Below w.heap.size w w':=by
 have HB:=Hd ((Yg w.heap.size w).alloc (Yh _) (.cells #[.int .i64 a,.int .i64 b,.int .i64 c] 38));have Aa:=Hd (aFr w 38 (.int .i64 a) (.int .i64 b) (.int .i64 c));rw [aKe];unfold aC;rcases nT 1 a b c with⟨rfl,rfl,rfl,h⟩|⟨h1,h⟩|⟨rfl,h1,h⟩|⟨rfl,rfl,h1,h⟩
 all_goals
  have HH:=Hd h;clear h
  go_enter Tryz.func129,Tryz.ntmps129
  go_upto_region 1 with(fail)
  obtain⟨q0,q1,q2⟩:=Aa.o
  go_wp2_with fail
  go_ret
  exact⟨aF (by rw [HH.o]),HB.o⟩
theorem aDk(a b c:Int) (w:World):Calls Tryz.prog 128 #[.agg (aC a b c)] w fun e w'=>e=.returned (.agg (aC a b 0))/\Below w.heap.size w w':=by
 unfold aC
 go_enter Tryz.func128,Tryz.ntmps128
 go_upto_region 1 with(fail)
 generalize Ad:(w.alloc _).alloc _=w0
 have h1:F3 38 w0 w.heap.size a b c/\F3 38 w0 (w.heap.size+1) 0 0 0/\Below w.heap.size w w0:=by
  subst Ad;refine⟨dX _ (Zw _ _),?_,((Yg _ _).alloc (Yh _) _).alloc (by simp) _⟩;have h:=F3.new 38 (w.alloc (.cells (aC a b c) 38)) 0 0 0;rwa [show(w.alloc (.cells (aC a b c) 38)).heap.size=w.heap.size+1 by simp] at h
 obtain⟨ha,hb,Ab⟩:=h1;have HB:=Hd Ab;have q2:=ha.cell 2;simp only [aC,List.getElem?_toArray,Yz,Zb] at q2;have fz:=frozen_of_row w0 w.heap.size 2 _ _ ha;clear Ad
 go_upto_region 2 with(fail)
 generalize Af:w0.setCell ⟨w.heap.size,2,none⟩ (.int .i64 0)=w1
 have h2:F3 38 w1 w.heap.size a b 0/\F3 38 w1 (w.heap.size+1) 0 0 0/\Below w.heap.size w w1:=by
  rw [<- Af,Xd _ _ _ _ _ _ _ ha,show(aC a b c).setIfInBounds 2 (.int .i64 0)=aC a b 0 from rfl];exact⟨Xc _ _ _ _ _ _ ha,(setRow_other _ _ _ _ (by omega)).trans hb,Xb Ab (Yh _) _⟩
 obtain⟨Ac,Ae,Aa⟩:=h2;have HA:=Hd Ac;have Ag:=Hd Ae;have HL:=Hd Aa;clear ha hb Ab q2 fz Af Ac Ae Aa
 go_wp2_with (first | (refine wpList_load_row rfl _ _ rfl w.heap.size rfl _ _ _ _ HA.o Tryz.underlying38 rfl bM ?_) | (refine Zu rfl _ _ _ rfl (w.heap.size+1) _ rfl rfl _ _ Ag.o bM rfl (by simp [Value.oneCell',aC]) ?_))
 exact Zt (uX (p:=2) rfl _ _ (w.heap.size+1) a b 0 rfl (Ag.o.set a b 0)) rfl ⟨rfl,Xb HL.o (by omega) _⟩
end
section
open Go.RowKit Go.Sort
theorem gM{w w0:World}{T:TypeId}{a b c:Int}(h:w.alloc (.cells (aC a b c) T)=w0):Below w.heap.size w w0/\F3 T w0 w.heap.size a b c/\w0.heap.size=w.heap.size+1:=by
 subst h;exact⟨(Yg _ _).alloc (Yh _) _,Zw _ _,by simp⟩
theorem F3.three{T:TypeId}{W:World}{g:Nat}{a b c:Int}(h:F3 T W g a b c):W.cell? ⟨g,0,none⟩=some (.int .i64 a)/\W.cell? ⟨g,1,none⟩=some (.int .i64 b)/\W.cell? ⟨g,2,none⟩=some (.int .i64 c):=
 ⟨h.cell 0,h.cell 1,h.cell 2⟩
theorem aKf(l:Option Addr) (n cc:Nat) (es:List En) (a b c:Int) (S:Option Addr) (m d:Nat) (arms:List ByteArray) (w:World) (hE:bV w l n es) (hS:aN w S m arms) (hr:bH es.length a b c=true):
 Calls Tryz.prog 125 #[.slice l n cc,.agg (aC a b c),.slice S m d] w fun e w'=>e=.returned (.bool (jK es (a,b,c) arms))/\Below w.heap.size w w':=by
 have Aq:=hS.len;have Bk:=hS.max;have Ba:=hE.len;have Bh:=hE.max;have Af:=Hd fun w0 h=>gM (w:=w) (w0:=w0) (T:=38) (a:=a) (b:=b) (c:=c) h;have HT:=Hd fun w1=>wB a b c w1;have Ao:=Hd fun w1 (hb:Below w.heap.size w w1)=>hS.below hb;have As:=Hd fun w1 (hb:Below w.heap.size w w1)=>hE.below hb;have HR:=Hd hr
 have HA:=Hd (show jK es (a,b,c) arms=if fD (a,b,c)=true then decide (arms.length=2) && (((arms[0]?.getD ByteArray.empty).toList==[116,114,117,101]) && ((arms[1]?.getD ByteArray.empty).toList==[102,97,108,115,101]))
  else decide (a=3) && (decide (c=0) && dP arms (bT es b.toNat)) from rfl)
 clear hE hS hr;generalize jK es (a,b,c) arms=Ak at *;generalize fD (a,b,c)=t at *
 cases t with
 | true=>
  rw [if_pos rfl] at HA;unfold aC at Af HT ⊢
  by_cases h2:m=2
  . subst h2;rw [Aq] at HA;obtain⟨sb,so,rfl,Ap,An⟩:=(Ao.o w (Yg _ _)).at_ (i:=0) (by omega);have s0:=An 0 (by omega);have s1:=An 1 (by omega);generalize arms[0]?.getD ByteArray.empty=x at *;generalize arms[1]?.getD ByteArray.empty=y at *
    go_enter Tryz.func125,Tryz.ntmps125
    go_upto_region 1 with(fail)
    generalize Ae:w.alloc _=w0;obtain⟨Ab,hF,Ag⟩:=Af.o w0 Ae;have Ad:=Hd Ab;obtain⟨q0,q1,q2⟩:=hF.three;have r0:=(Ab.cell (p:=⟨sb,so+0,none⟩) Ap).trans s0;have r1:=(Ab.cell (p:=⟨sb,so+1,none⟩) Ap).trans s1;rw [Nat.add_zero] at r0;clear Ae Ab hF Ag Af An s0 s1
    go_wp2_with fail
    refine(HT.o w0).mono ?_;rintro e w1 ⟨rfl,Aa⟩;have Aj:sb<w0.heap.size:=Yr Ap Ad.o.size;have Ac:=Hd (Ad.o.trans (Aa.mono Ad.o.size));have r0:=(Aa.cell (p:=⟨sb,so,none⟩) Aj).trans r0;have r1:=(Aa.cell (p:=⟨sb,so+1,none⟩) Aj).trans r1;clear Aa q0 q1 q2
    cases hx:(x.toList==[116,114,117,101]) with
    | false=>
     rw [hx] at HA
     go_wp2_with fail
     go_ret
     exact⟨aF (by rw [HA.o];rfl),Ac.o⟩
    | true=>
     rw [hx] at HA
     cases hy:(y.toList==[102,97,108,115,101]) with
     | false=>
      rw [hy] at HA
      go_wp2_with fail
      go_ret
      exact⟨aF (by rw [HA.o];rfl),Ac.o⟩
     | true=>
      rw [hy] at HA
      go_wp2_with fail
      go_ret
      exact⟨aF (by rw [HA.o];rfl),Ac.o⟩
  . have HN:=Hd (show Ak=false by rw [HA.o,Aq,Zy h2];rfl);have Am:((m:Int)==2)=false:=by rw [Xa];omega
    go_enter Tryz.func125,Tryz.ntmps125
    go_upto_region 1 with(fail)
    generalize Ae:w.alloc _=w0;obtain⟨Ab,hF,Ag⟩:=Af.o w0 Ae;have Ad:=Hd Ab;obtain⟨q0,q1,q2⟩:=hF.three;clear Ae Ab hF Ag Af
    go_wp2_with fail
    refine(HT.o w0).mono ?_;rintro e w1 ⟨rfl,Aa⟩;have Ac:=Hd (Ad.o.trans (Aa.mono Ad.o.size));clear Aa q0 q1 q2
    go_wp2_with fail
    go_ret
    exact⟨aF HN.o.symm,Ac.o⟩
 | false=>
  rw [if_neg (by simp)] at HA;have Ai:=Hd fun w1 w2 (hF:F3 38 w1 w.heap.size a b c) (hb:Below w1.heap.size w1 w2)=>(hF.below hb).three;unfold aC at Af HT ⊢
  by_cases h3:a=3
  . subst h3
    by_cases h0:c=0
    . subst h0
      obtain⟨k,rfl,hk⟩:∃ k:Nat,b=(k:Int)/\k<n:=by
       have h:=HR.o;rw [Ba] at h;unfold bH at h
       simp at h
       exact⟨b.toNat,by omega,by omega⟩
      obtain⟨eb,eo,rfl,Bc,Av⟩:=(As.o w (Yg _ _)).at_ hk;obtain⟨_,B,nb,cb,e1,hB⟩:=Av k hk;have Ar:=Hd fun w1 (hb:Below w.heap.size w w1)=>hB.below hb;have Bl:=hB.len;have Bi:=hB.max;rw [Int.toNat_natCast] at HA;generalize Be:bT es k=cs at *;clear Av hB Be
      go_enter Tryz.func125,Tryz.ntmps125
      go_upto_region 1 with(fail)
      generalize Ae:w.alloc _=w0;obtain⟨Ab,hF,Ag⟩:=Af.o w0 Ae;have Ad:=Hd Ab;have Ah:=Hd hF;obtain⟨q0,q1,q2⟩:=hF.three;clear Ae Ab hF Ag Af
      go_wp2_with fail
      refine(HT.o w0).mono ?_;rintro e w1 ⟨rfl,Aa⟩;have Ac:=Hd (Ad.o.trans (Aa.mono Ad.o.size));obtain⟨q0,q1,q2⟩:=Ai.o w0 w1 Ah.o Aa;have e1:=(Ac.o.cell (p:=⟨eb,eo+k*2+1,none⟩) Bc).trans e1;clear Aa Ah Ai
      by_cases Bd:m=nb
      . subst Bd;have Am:((m:Int) != (m:Int))=false:=by simp
        have Bb:=Hd (Ao.o w1 Ac.o);have Az:=Hd (Ar.o w1 Ac.o);have HA:=Hd (show Ak=dP arms cs by rw [HA.o];simp);clear Ao Ar As HT HR;have Bg:k<n:=hk
        go_wp2_with fail
        go_loopw [7] (fun i wr=>∃ j:Nat,j<=m/\i=.int .i64 j/\rZ arms cs j/\∃ p,wr=w1.drewN p) (fun i _=>m-(intOf i).toNat)
        case atStart=>exact⟨0,Yq _,rfl,fun j hj=>absurd hj (by omega),0,rfl⟩
        case round=>
         obtain⟨j,hj,rfl,Ax,p,rfl⟩:=hrel;have Au:=Hd Ax;clear Ax
         by_cases Al:j<m
         . obtain⟨b1,o1,rfl,Aa,Ay⟩:=Bb.o.at_ Al;obtain⟨b2,o2,rfl,Bj,Aw⟩:=Az.o.at_ Al;have u1:=Ay j Al;have u2:=Aw j Al;have HN:=Hd fun h=>aAb Au.o h;have HG:=Hd fun h=>aC1 (a:=arms) (b:=cs) (k:=j) (by omega) (by omega) h;clear Ay Aw;generalize arms[j]?.getD ByteArray.empty=x at u1 HN HG;generalize cs[j]?.getD ByteArray.empty=y at u2 HN HG
           by_cases he:(x.toList==y.toList)=true
           . have HN:=Hd (HN.o he);have Bf:(x.toList != y.toList)=false:=by simp only [bne,he];rfl
             go_wp2_with fail
             go_quiet (fail)
             go_wp2_with fail
             go_roundw
             case rel=>exact⟨j+1,by omega,by go_num,HN.o,_,rfl⟩
             case measure=>simp [intOf];omega
           . have he:(x.toList==y.toList)=false:=by simpa using he
             have HG:=Hd (HG.o he);have Bf:(x.toList != y.toList)=true:=by simp only [bne,he];rfl
             go_wp2_with fail
             go_quiet (fail)
             go_wp2_with fail
             go_ret
             exact⟨aF (by rw [HA.o,HG.o]),aY (aY Ac.o _) _⟩
         . have HY:=Hd (aBz (by omega) Au.o (by omega))
           go_wp2_with fail
           go_ret
           exact⟨aF (by rw [HA.o,HY.o]),aY Ac.o _⟩
      . have HN:=Hd (show Ak=false by rw [HA.o,aBy (by omega)];rfl);have Am:((m:Int) != (nb:Int))=true:=by rw [bne_iff_ne];omega
        go_wp2_with fail
        go_ret
        exact⟨aF HN.o.symm,Ac.o⟩
    . have HN:=Hd (show Ak=false by rw [HA.o,Zy h0];rfl);have Am:(c != 0)=true:=by rw [bne_iff_ne];exact h0
      go_enter Tryz.func125,Tryz.ntmps125
      go_upto_region 1 with(fail)
      generalize Ae:w.alloc _=w0;obtain⟨Ab,hF,Ag⟩:=Af.o w0 Ae;have Ad:=Hd Ab;have Ah:=Hd hF;obtain⟨q0,q1,q2⟩:=hF.three;clear Ae Ab hF Ag Af
      go_wp2_with fail
      refine(HT.o w0).mono ?_;rintro e w1 ⟨rfl,Aa⟩;have Ac:=Hd (Ad.o.trans (Aa.mono Ad.o.size));obtain⟨q0,q1,q2⟩:=Ai.o w0 w1 Ah.o Aa;clear Aa Ah Ai
      go_wp2_with fail
      go_ret
      exact⟨aF HN.o.symm,Ac.o⟩
  . have HN:=Hd (show Ak=false by rw [HA.o,Zy h3];rfl);have Am:(a != 3)=true:=by rw [bne_iff_ne];exact h3
    go_enter Tryz.func125,Tryz.ntmps125
    go_upto_region 1 with(fail)
    generalize Ae:w.alloc _=w0;obtain⟨Ab,hF,Ag⟩:=Af.o w0 Ae;have Ad:=Hd Ab;have Ah:=Hd hF;obtain⟨q0,q1,q2⟩:=hF.three;clear Ae Ab hF Ag Af
    go_wp2_with fail
    refine(HT.o w0).mono ?_;rintro e w1 ⟨rfl,Aa⟩;have Ac:=Hd (Ad.o.trans (Aa.mono Ad.o.size));obtain⟨q0,q1,q2⟩:=Ai.o w0 w1 Ah.o Aa;clear Aa Ah Ai
    go_wp2_with fail
    go_ret
    exact⟨aF HN.o.symm,Ac.o⟩
end
section
open Go.RowKit Go.Sort
def lM(t:T3):List Value:=[.int .i64 t.1,.int .i64 t.2.1,.int .i64 t.2.2]
def aF8(w:World) (b o:Nat) (t:T3):Prop:=w.rangeAt b o (lM t)
def aM(w:World) (A:Option Addr) (n:Nat) (l:List T3):Prop:=aQ 3 aF8 w A n l
theorem aM6:qK aF8:=fun h hb hs hk=>jH h hb hk
section
variable {w w':World}{A:Option Addr}{n:Nat}{l:List T3}
theorem aM.below(h:aM w A n l) (hb:Below w.heap.size w w'):aM w' A n l:=aQ.keep aM6 h hb.size fun _ hp=>hb.cell hp
theorem aM.len(h:aM w A n l):l.length=n:=aQ.len h
theorem aM.max(h:aM w A n l):n<=9223372036854775807:=aQ.max h
theorem aM.at_(h:aM w A n l){i:Nat}(hi:i<n):∃ b Aa,A=some ⟨b,Aa,none⟩/\b<w.heap.size/\∀ i,i<n->w.cell? ⟨b,Aa+i*3,none⟩=some (.int .i64 (aB l i).1)/\w.cell? ⟨b,Aa+i*3+1,none⟩=some (.int .i64 (aB l i).2.1)/\w.cell? ⟨b,Aa+i*3+2,none⟩=some (.int .i64 (aB l i).2.2):=by
 obtain⟨b,Aa,e,hb,hc⟩:=aQ.at_ h (by omega);exact⟨b,Aa,e,hb,fun i hi=>⟨hc i hi 0 _ rfl,hc i hi 1 _ rfl,hc i hi 2 _ rfl⟩⟩
end
theorem oD{l:List T3}{i:Nat}(h:i<l.length):aB l i=l[i]'h:=by unfold aB;rw [Yk h,Yt]
theorem aPn{l:List T3}{i:Nat}(h:i<l.length) (hn:¬ aB l i=aB l 0):dH l=false:=by
 unfold dH;rw [List.all_eq_false];exact⟨_,Zg h,by rw [<- oD h];simpa using hn⟩
theorem aM7{l:List T3}(h:∀ j,j<l.length->aB l j=aB l 0):dH l=true:=by
 unfold dH;rw [Zf];intro t ht;obtain⟨j,hj,rfl⟩:=Zi ht;rw [<- oD hj]
 simpa using h j hj
theorem aDl(A:Option Addr) (n c:Nat) (l:List T3) (w:World) (h:aM w A n l):
 Calls Tryz.prog 124 #[.slice A n c] w fun e w'=>e=.returned (.bool (dH l))/\Below w.heap.size w w':=by
 have hl:=h.len;have hm:=h.max;have HR:=Hd h;have Ag:=Hd fun i hi hn=>aPn (l:=l) (i:=i) hi hn;have Af:=Hd fun h=>aM7 (l:=l) h;clear h;generalize dH l=Aj at *
 go_enter Tryz.func124,Tryz.ntmps124
 go_wp2_with fail
 go_loopw [3] (fun i wr=>∃ k:Nat,1<=k/\k<=n+1/\i=.int .i64 k/\(∀ j,j<k->j<n->aB l j=aB l 0)/\∃ p,wr=w.drewN p) (fun i _=>n-(intOf i).toNat)
 case atStart=>exact⟨1,by omega,by omega,rfl,fun j hj _=>by rw [show j=0 by omega],0,rfl⟩
 case round=>
  obtain⟨k,Ai,hk,rfl,Ad,p,rfl⟩:=hrel;have Ab:=Hd Ad;clear Ad
  by_cases Ac:k<n
  . obtain⟨b,Ah,rfl,hb,hc⟩:=HR.o.at_ Ac;obtain⟨c0,c1,c2⟩:=hc k Ac;obtain⟨d0,d1,d2⟩:=hc 0 (by omega);simp only [Nat.zero_mul,Nat.add_zero] at d0 d1 d2;have HN:=Hd (Ag.o k (by omega))
    have Aa:=Hd fun(e:aB l k=aB l 0)=>(show ∀ j,j<k+1->j<n->aB l j=aB l 0 from fun j hj hn=>by
     rcases Nat.lt_or_ge j k with h1 | h1
     . exact Ab.o j h1 hn
     . obtain rfl:j=k:=by omega
       exact e)
    clear hc;generalize hx:aB l k=x at c0 c1 c2 HN Aa;generalize hy:aB l 0=y at d0 d1 d2 HN;obtain⟨x0,x1,x2⟩:=x;obtain⟨y0,y1,y2⟩:=y
    dsimp only at c0 c1 c2 d0 d1 d2
    rw [hy] at Aa;rcases iC x0 x1 x2 y0 y1 y2 with⟨rfl,rfl,rfl,he⟩|⟨h1,he⟩|⟨rfl,h1,he⟩|⟨rfl,rfl,h1,he⟩
    . have Ae:=Hd (Aa.o rfl);clear Aa HN hx
      go_wp2_with fail
      go_quiet (fail)
      go_wp2_with fail
      go_roundw
      case rel=>exact⟨k+1,by omega,by omega,by go_num,fun j hj hn=>Ae.o j hj hn,_,rfl⟩
      case measure=>simp [intOf];omega
    all_goals
     have HO:=Hd (HN.o he);clear HN Aa he
     go_wp2_with fail
     go_quiet (fail)
     go_wp2_with fail
     go_ret
     exact⟨aF HO.o.symm,aY (aY (Yg _ _) _) _⟩
  . have HY:=Hd (Af.o fun j hj=>Ab.o j (by omega) (by omega))
    go_wp2_with fail
    go_ret
    exact⟨aF HY.o.symm,aY (Yg _ _) _⟩
end
section
open Go.RowKit Go.Sort
theorem aGd{fn:Func}{p u v:Tmp}{ty:TypeId}(h:fn.results=#[.tmp u,.cell p ty,.tmp v]) (tmps:Array Value) (P:Program) (w:World):
 (results fn tmps).run P w =
  ((asAddr (tmps.getD p undef)).run P w).andThen fun a w₁=>((loadVar ty a).run P w₁).andThen fun x w₂=>.ok (.tuple #[tmps.getD u undef,x,tmps.getD v undef]) w₂:=by
 simp only [results,h]
 simp [Sem.run_bind,Result.andThen]
theorem gW{fn:Func}{p u v:Tmp}(h:fn.results=#[.tmp u,.cell p 38,.tmp v]) (tmps:Array Value) (w:World) (g:Nat) (a b c:Int)
 (hp:tmps.getD p undef=.pointer (some ⟨g,0,none⟩)) (hg:F3 38 w g a b c):(results fn tmps).run Tryz.prog w=.ok (.tuple #[tmps.getD u undef,.agg (aC a b c),tmps.getD v undef]) w:=by
 rw [aGd h,hp];have hl:=run_loadVar_row (P:=Tryz.prog) w g 38 38 _ _ _ hg Tryz.underlying38 rfl bM
 simp [asAddr,Result.andThen,hl]
def vK(o:Option (T3 × Int)):Value:=.tuple #[.int .i64 ((o.map (·.2)).getD 0),.agg (aC ((o.map (·.1.1)).getD 0) ((o.map (·.1.2.1)).getD 0) ((o.map (·.1.2.2)).getD 0)),.bool o.isSome]
theorem mW{w w0:World}{x:Ex}{A:Option Addr}{ca:Nat}{B:Option Addr}{cb:Nat}{T U:TypeId}(h:(w.alloc (.cells (aE x A ca B cb) T)).alloc (.cells #[.int .i64 0,.int .i64 0,.int .i64 0] U)=w0):
 F3 U w0 (w.heap.size+1) 0 0 0/\(∀ w',Below w0.heap.size w0 w'->∀ j,w'.cell? ⟨w.heap.size,j,none⟩=(aE x A ca B cb)[j]?)/\Below w.heap.size w w0/\w0.heap.size=w.heap.size+2:=by
 subst h;have h0:=F3.new U (w.alloc (.cells (aE x A ca B cb) T)) 0 0 0;have e1:(w.alloc (.cells (aE x A ca B cb) T)).heap.size=w.heap.size+1:=by simp
 rw [e1] at h0;refine⟨h0,fun w' hb j=>?_,((Yg _ _).alloc (Yh _) _).alloc (by simp) _,by simp⟩;have hr:((w.alloc (.cells (aE x A ca B cb) T)).alloc (.cells #[.int .i64 0,.int .i64 0,.int .i64 0] U)).heap[w.heap.size]?=some (.cells (aE x A ca B cb) T):=dX _ (Zw _ _);have h2:=(hb.block w.heap.size (by simp;omega)).trans hr;unfold World.cell?;rw [show w'.heap[(⟨w.heap.size,j,none⟩:Addr).block]?=_ from h2];rfl
theorem aDm(l:Option Addr) (n c:Nat) (es:List En) (x:Ex) (A:Option Addr) (ca:Nat) (B:Option Addr) (cb:Nat) (w:World) (hE:bV w l n es) (hr:aJ w x A B) (hx:cK x=true):
 Calls Tryz.prog 49 #[.slice l n c,.agg (aE x A ca B cb)] w fun e w'=>e=.returned (vK (dF es x))/\Below w.heap.size w w':=by
 have HF:=Hd fun w0 h=>mW (w:=w) (w0:=w0) (x:=x) (A:=A) (ca:=ca) (B:=B) (cb:=cb) (T:=35) (U:=38) h;have Ah:=Hd fun w1 (hb:Below w.heap.size w w1)=>tX l n c es x.s w1 (hE.below hb);have HS:=Hd (show dF es x=if(x.k==1)=true then some ((1,0,0),x.n) else if(x.k==2)=true then some ((2,0,0),x.n) else if(x.k==5)=true then some ((1,0,0),wrap64 (-(aU x 0).n)) else(cU es x.s).map fun r=>((r.1,r.2.1,0),r.2.2) from rfl)
 have Ag:=Hd fun w1 (hb:Below w.heap.size w w1) (h5:x.k=5)=>(show ∃ b Af,B=some ⟨b,Af,none⟩/\x.subs.length=1/\w1.cell? ⟨b,Af+1,none⟩=some (.int .i64 (aU x 0).n) from by
  have h1:x.subs.length=1:=by
   unfold cK at hx;rw [h5] at hx
   simp at hx
   exact hx.1.2
  obtain⟨b,Af,e,Az,Au⟩:=(hr.below hb).sub (i:=0) (by omega);obtain⟨A',c',B',d',Av,_⟩:=Au 0 (by omega);obtain⟨c0,c1,-⟩:=eG Av;exact⟨b,Af,e,h1,by simpa using c1⟩)
 clear hE hr hx;unfold aE at HF ⊢;generalize dF es x=Ai at *;generalize cU es x.s=ar at *;generalize hk:x.k=k at *
 by_cases h1:k=1
 . subst h1;have HN:=Hd (show Ai=some ((1,0,0),x.n) from HS.o);rw [HN.o]
   go_enter Tryz.func49,Tryz.ntmps49
   go_upto_region 1 with(fail)
   generalize Ac:(w.alloc _).alloc _=w0;obtain⟨hR,Aa,Ab,Ae⟩:=HF.o w0 Ac;have HR:=Hd hR;have Ad:=Hd Ab;have q0:=Aa w0 (Yg _ _) 0;have q1:=Aa w0 (Yg _ _) 1;simp only [Ya,Yb,Yc] at q0 q1;clear Ac hR Aa Ab Ae HF Ag Ah HS
   go_wp2_with (refine Zu rfl _ _ _ rfl (w.heap.size+1) _ rfl rfl _ _ HR.o bM rfl (by simp [Value.oneCell']) ?_)
   exact Zt (gW (p:=5) (u:=4) (v:=6) rfl _ _ (w.heap.size+1) 1 0 0 rfl (HR.o.set 1 0 0)) rfl ⟨rfl,Xb Ad.o (by omega) _⟩
 by_cases h2:k=2
 . subst h2;have HN:=Hd (show Ai=some ((2,0,0),x.n) from HS.o);rw [HN.o]
   go_enter Tryz.func49,Tryz.ntmps49
   go_upto_region 1 with(fail)
   generalize Ac:(w.alloc _).alloc _=w0;obtain⟨hR,Aa,Ab,Ae⟩:=HF.o w0 Ac;have HR:=Hd hR;have Ad:=Hd Ab;have q0:=Aa w0 (Yg _ _) 0;have q1:=Aa w0 (Yg _ _) 1;simp only [Ya,Yb,Yc] at q0 q1;clear Ac hR Aa Ab Ae HF Ag Ah HS
   go_wp2_with (refine Zu rfl _ _ _ rfl (w.heap.size+1) _ rfl rfl _ _ HR.o bM rfl (by simp [Value.oneCell']) ?_)
   exact Zt (gW (p:=5) (u:=4) (v:=6) rfl _ _ (w.heap.size+1) 2 0 0 rfl (HR.o.set 2 0 0)) rfl ⟨rfl,Xb Ad.o (by omega) _⟩
 have e1:(k==1)=false:=by simpa using h1
 have e2:(k==2)=false:=by simpa using h2
 by_cases h5:k=5
 . subst h5;obtain⟨b,Af,rfl,hl,hc⟩:=Ag.o w (Yg _ _) rfl;have Ar:=Hd hc;generalize (aU x 0).n=z at *;have HN:=Hd (show Ai=some ((1,0,0),wrap64 (-z)) from HS.o);rw [HN.o];rw [hl] at HF ⊢;have Am:=Yi _ _ hc
   go_enter Tryz.func49,Tryz.ntmps49
   go_upto_region 1 with(fail)
   generalize Ac:(w.alloc _).alloc _=w0;obtain⟨hR,Aa,Ab,Ae⟩:=HF.o w0 Ac;have HR:=Hd hR;have Ad:=Hd Ab;have q0:=Aa w0 (Yg _ _) 0;have q5:=Aa w0 (Yg _ _) 5;simp only [Ya,Yb,Yc] at q0 q5;have c1:=(Ab.cell (p:=⟨b,Af+1,none⟩) Am).trans Ar.o;clear Ac hR Aa Ab Ae HF Ag Ah HS hc Am h1 h2 e1 e2
   go_wp2_with (refine Zu rfl _ _ _ rfl (w.heap.size+1) _ rfl rfl _ _ HR.o bM rfl (by simp [Value.oneCell']) ?_)
   exact Zt (gW (p:=5) (u:=4) (v:=6) rfl _ _ (w.heap.size+1) 1 0 0 rfl (HR.o.set 1 0 0)) rfl ⟨rfl,Xb Ad.o (by omega) _⟩
 have e5:(k==5)=false:=by simpa using h5
 have HV:=Hd (show vK Ai=.tuple #[.int .i64 ((ar.map (·.2.2)).getD 0),.agg (aC ((ar.map (·.1)).getD 0) ((ar.map (·.2.1)).getD 0) 0),.bool ar.isSome] from by
  rw [HS.o,e1,e2,e5]
  cases ar <;> rfl)
 unfold nI at Ah;rw [HV.o];clear HV HS h1 h2 h5 Ag;generalize (ar.map (·.2.2)).getD 0=z at *;generalize (ar.map (·.1)).getD 0=a at *;generalize (ar.map (·.2.1)).getD 0=b at *;generalize ar.isSome=t at *;clear Ai ar
 go_enter Tryz.func49,Tryz.ntmps49
 go_upto_region 1 with(fail)
 generalize Ac:(w.alloc _).alloc _=w0;obtain⟨hR,Aa,Ab,Ae⟩:=HF.o w0 Ac;have HR:=Hd hR;have Ad:=Hd Ab;have q0:=Aa w0 (Yg _ _) 0;have q2:=Aa w0 (Yg _ _) 2;simp only [Ya,Yb,Yc] at q0 q2;clear Ac hR Aa Ab HF;have Aq:w.heap.size+1<w0.heap.size:=by omega
 clear Ae
 go_wp2_with fail
 refine(Ah.o w0 Ad.o).mono ?_;rintro e w1 ⟨rfl,Aj⟩;have Ax:=Hd (HR.o.below Aj);have Ao:=Hd (Ad.o.trans (Aj.mono Ad.o.size));have Aw:w.heap.size+1<w1.heap.size:=by have:=Aj.size;omega
 clear Aj q0 q2 Aq;unfold aC
 go_upto_region 9 with(fail)
 generalize An:w1.alloc _=w2
 have h3:F3 38 w2 w1.heap.size a b 0/\F3 38 w2 (w.heap.size+1) 0 0 0/\Below w.heap.size w w2:=by
  subst An;exact⟨F3.new _ _ _ _ _,dX _ Ax.o,Ao.o.alloc Ao.o.size _⟩
 obtain⟨hS,hT,Al⟩:=h3;have HT:=Hd hT;have Ay:=Hd Al;obtain⟨s0,s1,s2,-,-,-⟩:=Sx hS.cell;obtain⟨t0,t1,t2,-,-,-⟩:=Sx hT.cell;simp only [aC,List.getElem?_toArray,Yz,Zb] at s0 s1 s2 t0 t1 t2;have fz:∀ j,w2.frozen? ⟨w.heap.size+1,j,none⟩=false:=fun j=>frozen_of_row w2 _ j _ _ hT;have n1:w.heap.size+1≠w1.heap.size:=by omega
 have n2:w1.heap.size≠w.heap.size+1:=by omega
 clear An hS hT Al;generalize w1.heap.size=g at *
 go_region
 generalize Ak:World.drew _=w4;obtain⟨hF,hB⟩:=qR HT.o Ay.o (by omega) Ak;have Ap:=Hd hF;have As:=Hd hB;clear Ak hF hB
 go_wp2_with fail
 exact Zt (gW (p:=5) (u:=4) (v:=6) rfl _ _ (w.heap.size+1) a b 0 rfl Ap.o) rfl ⟨rfl,As.o⟩
end
section
open Go.RowKit Go.Sort Go.BigFrame
def cZ(w:World) (A:Option Addr) (n:Nat) (l:List Int):Prop:=aQ 1 (fun w b o z=>w.cell? ⟨b,o,none⟩=some (.int .i64 z)) w A n l
def jI(w:World) (o:Option (List Int × T3)) (e:Ending) (w':World):Prop:=
 ∃ S n c a b d vs,e=.returned (.tuple #[.slice S n c,.agg (aC a b d),.bool o.isSome])/\cZ w' S n vs/\n<=c/\c<=maxLen/\((∀ r,o=some r->r=(vs,(a,b,d)))/\(o=none->vs=[]/\a=0/\b=0/\d=0))/\Below w.heap.size w w'
theorem cZ.nil_(w:World):cZ w none 0 []:=aQ.nil_ _ _ _
theorem wU{es:List En}{x:Ex}(h:(bB x && dC x)=false):dL es x=none:=by unfold dL;rw [if_pos h]
theorem tE{es:List En}{x:Ex}(h:(bB x && dC x)=true) (hk:x.k≠14):dL es x=(dF es x).map fun r=>([r.2],r.1):=by
 unfold dL;rw [if_neg (by rw [h];decide),if_neg (by simpa using hk)]
theorem qS{w w0:World}{x:Ex}{A:Option Addr}{ca:Nat}{B:Option Addr}{cb:Nat}(h:(w.alloc (.cells (aE x A ca B cb) 35)).alloc (.cells #[.int .i64 0,.int .i64 0,.int .i64 0] 38)=w0):
 F3 38 w0 (w.heap.size+1) 0 0 0/\(∀ w',Below w0.heap.size w0 w'->∀ j,w'.cell? ⟨w.heap.size,j,none⟩=(aE x A ca B cb)[j]?)/\Below w.heap.size w w0/\w0.heap.size=w.heap.size+2:=mW h
theorem aIh(l:Option Addr) (n c:Nat) (x:Ex) (A:Option Addr) (ca:Nat) (B:Option Addr) (cb:Nat) (w:World) (hr:aJ w x A B) (hs:bG x<=1000000) (Ak:∀ p∈bI x,cL p) (An:(bB x && dC x)=false):
 Calls Tryz.prog 18 #[.slice l n c,.agg (aE x A ca B cb)] w (jI w none):=by
 have HF:=Hd fun w0 h=>qS (w:=w) (w0:=w0) (x:=x) (A:=A) (ca:=ca) (B:=B) (cb:=cb) h;have Ah:=Hd fun w1 (hb:Below w.heap.size w w1)=>tR x A ca B cb w1 (hr.below hb) hs Ak;have Af:=Hd fun w1 (hb:Below w.heap.size w w1)=>tQ x A ca B cb w1 (hr.below hb);clear hr hs Ak;generalize bB x=br at *;generalize dC x=bc at *;unfold aE at HF Ah Af ⊢
 go_enter Tryz.func18,Tryz.ntmps18
 go_upto_region 1 with(fail)
 generalize Aj:(w.alloc _).alloc _=w0;obtain⟨hR,hx,Ai,Ao⟩:=HF.o w0 Aj;have HR:=Hd hR;have HX:=Hd hx;have Ae:=Hd Ai;obtain⟨q0,q1,q2,q3,q4,q5⟩:=Sx (hx w0 (Yg _ _));simp only [Ya,Yb,Yc] at q0 q1 q2 q3 q4 q5;have Ac:=Hd (Ah.o w0 Ai);clear Aj hR hx Ai Ao HF Ah
 cases br with
 | false=>
  go_wp2_with fail
  refine Ac.o.mono ?_;rintro e w1 ⟨rfl,Aa⟩;have Ad:=Hd (HR.o.below Aa);have Ab:=Hd (Ae.o.trans (Aa.mono Ae.o.size));clear Aa q0 q1 q2 q3 q4 q5 Ac Af
  go_upto_region 2 with(fail)
  go_wp2_with (refine Zu rfl _ _ _ rfl (w.heap.size+1) _ rfl rfl _ _ Ad.o bM rfl (by simp [Value.oneCell']) ?_)
  exact Zt (gW (p:=5) (u:=4) (v:=6) rfl _ _ (w.heap.size+1) 0 0 0 rfl (Ad.o.set _ _ _)) rfl ⟨none,0,0,0,0,0,[],rfl,cZ.nil_ _,Yh _,by unfold maxLen;omega,⟨fun r h=>(by cases h),fun _=>⟨rfl,rfl,rfl,rfl⟩⟩,Xb Ab.o (by omega) _⟩
 | true=>
  obtain rfl:bc=false:=by simpa using An
  go_wp2_with fail
  refine Ac.o.mono ?_;rintro e w1 ⟨rfl,Aa⟩;have Ad:=Hd (HR.o.below Aa);have Ab:=Hd (Ae.o.trans (Aa.mono Ae.o.size));obtain⟨r0,r1,r2,r3,r4,r5⟩:=Sx (HX.o w1 Aa);simp only [Ya,Yb,Yc] at r0 r1 r2 r3 r4 r5;have Al:=Hd (Af.o w1 Ab.o);clear Aa q0 q1 q2 q3 q4 q5 Ac Af
  go_wp2_with fail
  refine Al.o.mono ?_;rintro e w2 ⟨rfl,Ag⟩;have Am:=Hd (Ad.o.below Ag);have Ap:=Hd (Ab.o.trans (Ag.mono Ab.o.size));clear Ag r0 r1 r2 r3 r4 r5 Al
  go_upto_region 2 with(fail)
  go_wp2_with (refine Zu rfl _ _ _ rfl (w.heap.size+1) _ rfl rfl _ _ Am.o bM rfl (by simp [Value.oneCell']) ?_)
  exact Zt (gW (p:=5) (u:=4) (v:=6) rfl _ _ (w.heap.size+1) 0 0 0 rfl (Am.o.set _ _ _)) rfl ⟨none,0,0,0,0,0,[],rfl,cZ.nil_ _,Yh _,by unfold maxLen;omega,⟨fun r h=>(by cases h),fun _=>⟨rfl,rfl,rfl,rfl⟩⟩,Xb Ap.o (by omega) _⟩
end
section
open Go.RowKit Go.Sort Go.BigFrame
theorem cZ.one(w:World) (T:TypeId) (v:Int):cZ (w.alloc (.cells #[.int .i64 v] T)) (some ⟨w.heap.size,0,none⟩) 1 [v]:=
 ⟨rfl,by omega,fun _=>⟨_,0,rfl,by simp,fun i hi=>by
  obtain rfl:i=0:=by omega
  show World.cell? _ ⟨w.heap.size,0+0*1,none⟩=_
  rw [Zo];rfl⟩⟩
theorem aPo:qK (fun(w:World) b o (z:Int)=>w.cell? ⟨b,o,none⟩=some (.int .i64 z)):=fun h hb hs hk=>(hk _ hb).trans h
theorem cZ.keep{w w':World}{A:Option Addr}{n:Nat}{l:List Int}(h:cZ w A n l) (hs:w.heap.size<=w'.heap.size) (hk:∀ p:Addr,p.block<w.heap.size->w'.cell? p=w.cell? p):cZ w' A n l:=aQ.keep aPo h hs hk
theorem cZ.below{w w':World}{A:Option Addr}{n:Nat}{l:List Int}(h:cZ w A n l) (hb:Below w.heap.size w w'):cZ w' A n l:=h.keep hb.size fun _ hp=>hb.cell hp
theorem cZ.set{w:World}{g r:Nat}{o n:Nat}{l:List Int}(h:cZ w (some ⟨g,o,none⟩) n l) (hn:g≠r) (cs:Array Value):cZ (w.setRow r cs) (some ⟨g,o,none⟩) n l:=
 ⟨h.1,h.2.1,fun h0=>by
  obtain⟨b,Aa,e,hb,hc⟩:=h.2.2 h0;injection e with e;injection e with e1 e2;subst e1 e2;exact⟨_,_,rfl,by simpa [World.setRow] using hb,fun i hi=>(Ym (a:=⟨g,_,none⟩) (setRow_other _ _ _ _ hn)).trans (hc i hi)⟩⟩
theorem aG9(l:Option Addr) (n c:Nat) (es:List En) (x:Ex) (A:Option Addr) (ca:Nat) (B:Option Addr) (cb:Nat) (w:World) (hE:bV w l n es) (hr:aJ w x A B) (hs:bG x<=1000000) (Ax:∀ p∈bI x,cL p) (Aa:(bB x && dC x)=true) (hk:x.k≠14):
 Calls Tryz.prog 18 #[.slice l n c,.agg (aE x A ca B cb)] w (jI w ((dF es x).map fun r=>([r.2],r.1))):=by
 have Ad:cK x=true:=by
  simp only [Ys] at Aa;have:=Aa.2;unfold dC at this;rwa [if_neg (by simpa using hk)] at this
 have HF:=Hd fun w0 h=>qS (w:=w) (w0:=w0) (x:=x) (A:=A) (ca:=ca) (B:=B) (cb:=cb) h;have Ah:=Hd fun w1 (hb:Below w.heap.size w w1)=>tR x A ca B cb w1 (hr.below hb) hs Ax;have Ae:=Hd fun w1 (hb:Below w.heap.size w w1)=>tQ x A ca B cb w1 (hr.below hb);have Ac:=Hd fun w1 (hb:Below w.heap.size w w1)=>aDm l n c es x A ca B cb w1 (hE.below hb) (hr.below hb) Ad;have Ca:(x.k != 14)=true:=bne_iff_ne.2 hk;simp only [Ys] at Aa;rw [Aa.1] at Ah;rw [Aa.2] at Ae;clear hE hr hs Ax Aa Ad hk;generalize dF es x=o at *;unfold vK at Ac;unfold aE at HF Ah Ae Ac ⊢;unfold aC at Ac;generalize Ba:(o.map (·.2)).getD 0=ov at *;generalize Bg:(o.map (·.1.1)).getD 0=oa at *;generalize Bb:(o.map (·.1.2.1)).getD 0=ob at *;generalize Bk:(o.map (·.1.2.2)).getD 0=oc at *;generalize Bh:o.isSome=os at *;have HV:=Hd (show ∀ r,o=some r->r=((oa,ob,oc),ov) from fun r h=>by subst h Ba Bg Bb Bk;rfl);have HS:=Hd Bh;clear Ba Bg Bb Bk Bh
 go_enter Tryz.func18,Tryz.ntmps18
 go_upto_region 1 with(fail)
 generalize Aw:(w.alloc _).alloc _=w0;obtain⟨hR,hx,Ap,Br⟩:=HF.o w0 Aw;have HR:=Hd hR;have HX:=Hd hx;have Bf:=Hd Ap;obtain⟨q0,q1,q2,q3,q4,q5⟩:=Sx (hx w0 (Yg _ _));simp only [Ya,Yb,Yc] at q0 q1 q2 q3 q4 q5;have Bj:=Hd (Ah.o w0 Ap);clear Aw hR hx Ap Br HF Ah
 go_wp2_with fail
 refine Bj.o.mono ?_;rintro e w1 ⟨rfl,Ab⟩;have Bd:=Hd (HR.o.below Ab);have As:=Hd (Bf.o.trans (Ab.mono Bf.o.size));have Bi:=Hd fun w' (h:Below w1.heap.size w1 w') j=>HX.o w' (Ab.trans (h.mono Ab.size)) j;obtain⟨r0,r1,r2,r3,r4,r5⟩:=Sx (HX.o w1 Ab);simp only [Ya,Yb,Yc] at r0 r1 r2 r3 r4 r5;have Be:=Hd (Ae.o w1 As.o);clear Ab q0 q1 q2 q3 q4 q5 Bj Ae HX
 go_wp2_with fail
 refine Be.o.mono ?_;rintro e w2 ⟨rfl,Ag⟩;have Bl:=Hd (Bd.o.below Ag);have Ar:=Hd (As.o.trans (Ag.mono As.o.size));obtain⟨s0,s1,s2,s3,s4,s5⟩:=Sx (Bi.o w2 Ag);simp only [Ya,Yb,Yc] at s0 s1 s2 s3 s4 s5;have Ay:=Hd (Ac.o w2 Ar.o);clear Ag r0 r1 r2 r3 r4 r5 Be Bd Bi Ac
 go_wp2_with fail
 refine Ay.o.mono ?_;rintro e w3 ⟨rfl,Aq⟩;have Ao:=Hd (Bl.o.below Aq);have Bc:=Hd (Ar.o.trans (Aq.mono Ar.o.size));clear Aq s0 s1 s2 s3 s4 s5 Ay Bl
 go_upto_region 5 with(fail)
 generalize Av:w3.alloc _=w4;obtain⟨An,Au,Bu⟩:=gM Av;have Ai:=Hd (Ao.o.below An);have Al:=Hd (Bc.o.trans (An.mono Bc.o.size));have Az:=Hd Au;have Bw:=Ao.o.lt;have Bx:w.heap.size+1≠w3.heap.size:=by omega
 clear Av An Au Ao;generalize w3.heap.size=g at *
 cases os with
 | false=>
  go_upto_region 6 with(fail)
  have HO:=Hd (show o=none by have:=HS.o;cases o with | none=>rfl | some r=>cases this)
  go_wp2_with (refine Zu rfl _ _ _ rfl (w.heap.size+1) _ rfl rfl _ _ Ai.o bM rfl (by simp [Value.oneCell']) ?_)
  exact Zt (gW (p:=5) (u:=4) (v:=6) rfl _ _ (w.heap.size+1) 0 0 0 rfl (Ai.o.set _ _ _)) rfl ⟨none,0,0,0,0,0,[],by rw [HO.o];rfl,cZ.nil_ _,Yh _,by unfold maxLen;omega,⟨fun r h=>(by rw [HO.o] at h;cases h),fun _=>⟨rfl,rfl,rfl,rfl⟩⟩,Xb Al.o (by omega) _⟩
 | true=>
  obtain⟨f0,f1,f2,-,-,-⟩:=Sx Az.o.cell;simp only [aC,List.getElem?_toArray,Yz,Zb] at f0 f1 f2;have Af:=Hd (Ai.o.below ((Yg w4.heap.size w4).alloc (Yh _) (.cells #[.int .i64 ov] 2)));obtain⟨Bq,Bt,Bp,-,-,-⟩:=Sx Af.o.cell;simp only [aC,List.getElem?_toArray,Yz,Zb] at Bq Bt Bp;have fz:∀ j,(w4.alloc (.cells #[.int .i64 ov] 2)).frozen? ⟨w.heap.size+1,j,none⟩=false:=fun j=>frozen_of_row _ _ j _ _ Af.o;have Bv:=Ai.o.lt;have Am:=Az.o.lt;have n1:w.heap.size+1≠w4.heap.size:=by omega
  have n2:w4.heap.size≠w.heap.size+1:=by omega
  have n3:g≠w.heap.size+1:=by omega
  have Cc:=(Yj w4 (.cells #[.int .i64 ov] 2) ⟨g,0,none⟩ Am).trans f0;have Cb:=(Yj w4 (.cells #[.int .i64 ov] 2) ⟨g,1,none⟩ Am).trans f1;have Bz:=(Yj w4 (.cells #[.int .i64 ov] 2) ⟨g,2,none⟩ Am).trans f2
  go_upto_region 7 with(fail)
  go_region
  have hI:=(cZ.one w4 2 ov).set (r:=w.heap.size+1) n2 (aC oa ob oc);generalize Ak:World.drew _=w5;have Aj:=Ak;rw [fX Af.o] at Aj;obtain⟨hF,hB⟩:=qR Af.o (Al.o.alloc Al.o.size _) (by omega) Ak;have Bm:=Hd hF;have Bn:=Hd hB;have Bo:=Hd (show cZ w5 (some ⟨g+1,0,none⟩) 1 [ov] by rw [<- Aj,<- Bu];exact hI);clear Ak Aj hF hB hI
  go_wp2_with fail
  exact Zt (gW (p:=5) (u:=4) (v:=6) rfl _ _ (w.heap.size+1) oa ob oc rfl Bm.o) rfl ⟨some ⟨g+1,0,none⟩,1,1,oa,ob,oc,[ov],by rw [Option.isSome_map,HS.o];rfl,Bo.o,Yh _,by unfold maxLen;omega,⟨fun r h=>(by
   obtain⟨r',h1,rfl⟩:=Option.map_eq_some_iff.1 h;have:=HV.o r' h1;subst this;rfl),fun h=>(by have:=congrArg Option.isSome h;rw [Option.isSome_map,HS.o] at this;cases this)⟩,Bn.o⟩
end
end Go.Proofs.YtegjgiofmpolnaaGreat
