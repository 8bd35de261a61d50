/- A part of the proof. Conditions: each theorem's own. -/
import Derived.Test.YtagkcjpoipcpkaaGreatDoorF14
import Derived.Test.YtagkcjpoipcpkaaGreatDoorF16
namespace Go.Proofs.YtagkcjpoipcpkaaGreatDoor
set_option linter.unusedVariables false
set_option linter.unusedSimpArgs false
set_option maxRecDepth 100000
set_option maxHeartbeats 40000000
inductive QR (α:Type) where
 |ok (a:α) (r:List Tk)
 |bad (r:List Tk) (e:Int)
def QR.bind{α β:Type}(x:QR α)(f:α->List Tk->QR β):QR β:=match x with
 |.ok a r=>f a r
 |.bad r e=>.bad r e
@[simp] theorem QR.bind_ok {α β:Type}(a:α) (r:List Tk) (f:α->List Tk->QR β):(QR.ok a r).bind f=f a r:=rfl
@[simp] theorem QR.bind_bad {α β:Type}(r:List Tk) (e:Int) (f:α->List Tk->QR β):(QR.bad r e:QR α).bind f=.bad r e:=rfl
def PR.q{α:Type}:PR α->QR α
 |.ok a r=>.ok a r
 |.bad r=>.bad r 2
@[simp] theorem PR.q_ok {α:Type}(a:α) (r:List Tk):(PR.ok a r).q=.ok a r:=rfl
@[simp] theorem PR.q_bad {α:Type}(r:List Tk):(PR.bad r:PR α).q=.bad r 2:=rfl
def lH:List UInt8:=[101,110,117,109]
def lW:List UInt8:=[110,111,100,101]
def aD0:List UInt8:=[114,101,116,117,114,110,115]
def xC:List UInt8:=[118,97,114]
def gW:List UInt8:=[108,101,116]
def mD:List UInt8:=[116,101,108]
def aA9:List UInt8:=[105,110,116]
def aDh:List UInt8:=[98,111,111,108]
def kT:List Tk->PR (List UInt8)
 |t::r=>if t.k=2 then .ok t.s r else .bad (t::r)
 |[]=>.bad []
def gB(one:List Tk->PR (List UInt8)):Nat->List ByteArray->List Tk->PR (List ByteArray)
 |0,acc,r=>.ok acc r
 |f+1,acc,r=>if aG [44] r=true then(one r.tail).bind fun y r=>gB one f (acc++[aB y]) r else .ok acc r
def lI(r:List Tk):PR En:=
 (bT r).bind fun n r=>(aR [123] r).bind fun _ r=>(kT r).bind fun c r=>(gB kT r.length [aB c] r).bind fun cs r=>(aR [125] r).bind fun _ r=>(aR [59] r).bind fun _ r=>.ok (aB n,cs) r
def aAr(es:List En)(s:LU):Int:=dL (fun e:En=>e.1.data.toList==s) es 0
def wQ(es:List En)(r:List Tk):PR (Int × Int):=
 if aG aA9 r=true then .ok (1,0) r.tail
 else if aG aDh r=true then .ok (2,0) r.tail
 else match r with
  |t::q=>if t.k=1/\aAr es t.s≠-1 then(bT (t::q)).bind fun _ q=>.ok (3,aAr es t.s) q else .bad (t::q)
  |[]=>.bad []
def rI(es:List En)(r:List Tk):PR (Int × Int × Int):=
 (wQ es r).bind fun b r=>
  if aG [91] r=true then
   match r.tail with
   |t::q=>if t.k=3/\1<=t.n/\t.n<=8 then(aR [93] q).bind fun _ q=>.ok (b.1,b.2,t.n) q else .bad (t::q)
   |[]=>.bad []
  else .ok (b.1,b.2,0) r
def fK(es:List En)(r:List Tk):PR Dc:=
 (bT r).bind fun n r=>(aR [58] r).bind fun _ r=>(rI es r).bind fun t r=>
  if aG gR r=true then(dU r.tail).bind fun z r=>.ok ⟨aB n,t.1,t.2.1,t.2.2,aB z.1,aB z.2⟩ r
  else .ok ⟨aB n,t.1,t.2.1,t.2.2,⟨#[]⟩,⟨#[]⟩⟩ r
def oZ(last:Bool):List Tk->Bool
 |t::r=>t.k==5 && t.s==[59] && !(last && (match r with|u::_=>u.k==1 && u.s==gW|[]=>false))
 |[]=>false
def kB(es:List En)(last:Bool):Nat->List Dc->List Tk->PR (List Dc)
 |0,acc,r=>.ok acc r
 |f+1,acc,r=>(fK es r).bind fun d r=>if oZ last r=true then kB es last f (acc++[d]) r.tail else .ok (acc++[d]) r
def qT(r:List Tk):QR Ex:=
 match (aV 10000).ar r with
 |.bad q=>.bad q 2
 |.ok x q=>if 60<aT x\/12<gC x then .bad r 3 else if bJ x=false then .bad r 1 else .ok x q
def nA(r:List Tk):QR Qn:=
 (bT r).q.bind fun n r=>(gB bT r.length [aB n] r).q.bind fun ns r=>(aR [61] r).q.bind fun _ r=>
  (qT r).bind fun x r=>(aR [59] r).q.bind fun _ r=>.ok ⟨ns,x⟩ r
def rE:Nat->List Qn->List Tk->QR (List Qn)
 |0,acc,r=>.ok acc r
 |f+1,acc,r=>if aG mD r=true then .ok acc r.tail else(nA r).bind fun q r=>rE f (acc++[q]) r
def vL(es:List En)(r:List Tk):PR (List Dc):=
 if aG [41] r=true then .ok [] r.tail else(kB es false r.length [] r).bind fun l r=>(aR [41] r).bind fun _ r=>.ok l r
def uZ(es:List En)(r:List Tk):PR (List Dc):=
 if aG xC r=true then(kB es true r.tail.length [] r.tail).bind fun l r=>(aR [59] r).bind fun _ r=>.ok l r else .ok [] r
def mV(es:List En)(r:List Tk):QR Nd:=
 (bT r).q.bind fun n r=>(aR [40] r).q.bind fun _ r=>(vL es r).q.bind fun a r=>(aR aD0 r).q.bind fun _ r=>(aR [40] r).q.bind fun _ r=>
  (kB es false r.length [] r).q.bind fun b r=>(aR [41] r).q.bind fun _ r=>(uZ es r).q.bind fun v r=>(aR gW r).q.bind fun _ r=>
   (rE r.length [] r).bind fun q r=>.ok ⟨aB n,a,b,v,q⟩ r
def qM:Nat->List En->List Tk->QR (List En)
 |0,acc,r=>.ok acc r
 |f+1,acc,r=>if aG lH r=true then(lI r.tail).q.bind fun e r=>qM f (acc++[e]) r else .ok acc r
def wJ(es:List En):Nat->List Nd->List Tk->QR (List Nd)
 |0,acc,r=>.ok acc r
 |f+1,acc,r=>if aG lW r=true then(mV es r.tail).bind fun n r=>wJ es f (acc++[n]) r else .ok acc r
def pQ(r:List Tk):QR Pg:=
 (qM r.length [] r).bind fun es r=>(wJ es r.length [] r).bind fun ns r=>if uX r=6 then .ok ⟨es,ns⟩ r else .bad r 2
abbrev Bp:=List UInt8 × Pc
def eA:List Bp->List UInt8
 |[]=>[]
 |z::L=>z.1++eA L
def jT(T:Ex->List Tk->Prop):List Bp->List UInt8->Prop
 |[],_=>True
 |z::L,u=>aI T z.1 [z.2] (eA L++u)/\jT T L u
section
variable {T:Ex->List Tk->Prop}
theorem rS:∀A B:List Bp,eA (A++B)=eA A++eA B
 |[],B=>rfl
 |z::A,B=>by simp only[Yx,eA,rS A B,Yy]
theorem jT.lex:∀{L:List Bp}{u:LU},jT T L u->aI T (eA L) (L.map (·.2)) u
 |[],u,_=>aI.nil_ u
 |z::L,u,h=>h.1.app (jT.lex h.2)
theorem pH:∀{A B:List Bp}{u:LU},jT T A (eA B++u)->jT T B u->jT T (A++B) u
 |[],B,u,_,h=>h
 |z::A,B,u,h,h2=>⟨by show aI T z.1 [z.2] (eA (A++B)++u);rw[rS,Yy];exact h.1,pH h.2 h2⟩
def eW(s:LU):Bp:=(s,bE s)
def hgB(s:LU):Bp:=(s,.tk 2 s 0)
def fH(s:LU):Bp:=(s,aL s)
def fI:Bp:=([32],.sp)
def qA:Bp:=([10],.sp)
def nuB(n:Int):Bp:=(Lib.itoa n,.tk 3 (Lib.itoa n) n)
def sbB(x:Ex):Bp:=(aK x,.sub x)
theorem aD1(u:LU):aI T [10] [.sp] u:=fun a=>by
 refine⟨[],?_,rfl⟩;have hb:dJ ([10]++u)=1:=by
  show dJ (10::u)=1;unfold dJ;rw[if_neg aC];rfl
 rw[zO aA,hb];rfl
theorem bIk(u:LU):aI T [58] [aL [58]] (32::u):=aI.mark aF (rN aF aF) aF aF aF rfl
theorem aK6(u:LU):aI T [59] [aL [59]] u:=aI.mark aF (rN aF aF) aF aF aF rfl
theorem cCw(u:LU):aI T [123] [aL [123]] u:=aI.mark aF (rN aF aF) aF aF aF rfl
theorem cCx(u:LU):aI T [125] [aL [125]] u:=aI.mark aF (rN aF aF) aF aF aF rfl
theorem n10(u:LU):fX (10::u):=vS _ aF
theorem n44(u:LU):fX (44::u):=vS _ aF
theorem n58(u:LU):fX (58::u):=vS _ aF
theorem n59(u:LU):fX (59::u):=vS _ aF
theorem n91(u:LU):fX (91::u):=vS _ aF
theorem n93(u:LU):fX (93::u):=vS _ aF
def sI(m:UInt8):List (List Bp)->List Bp
 |[]=>[]
 |[x]=>x
 |x::y::l=>x++(fH [m]::fI::sI m (y::l))
theorem aHu(m:UInt8):∀l:List (List Bp),eA (sI m l)=dI m (l.map eA)
 |[]=>rfl
 |[x]=>rfl
 |x::y::l=>by
  simp only[sI,Xl,dI,rS]
  have:=aHu m (y::l)
  simp only[Xl]at this;simp only[eA,fH,fI,this];rfl
theorem aHv{m:UInt8}(hm:∀u,aI T [m] [aL [m]] (32::u))(hn:∀u,fX (m::u)):∀{l:List (List Bp)}{u:LU},(∀x∈l,∀v,fX v->jT T x v)->fX u->jT T (sI m l) u
 |[],_,_,_=>trivial
 |[x],u,h,hu=>h x aC u hu
 |x::y::l,u,h,hu=>by
  simp only[sI];refine pH (h x aC _ ?_) ⟨?_,aI.sp _,aHv hm hn (fun z hz=>h z aDv) hu⟩;· exact hn _
  . exact hm _
def tR(es:List En)(k e:Int):List UInt8:=(oU es k e).data.toList
def tyB(es:List En)(k e l:Int):List Bp:=eW (tR es k e)::(if l=0 then []else [fH [91],nuB l,fH [93]])
theorem bMw{l:Int}(h:0<=l/\l<=8):Lib.itoa l=[(48+l).toNat.toUInt8]:=by
 obtain⟨h0,h8⟩:=h;have hc:l=0\/l=1\/l=2\/l=3\/l=4\/l=5\/l=6\/l=7\/l=8:=aA;rcases hc with rfl|rfl|rfl|rfl|rfl|rfl|rfl|rfl|rfl<;>simp[Lib.itoa,Lib.decDigits]<;>rfl
theorem bXn{es:List En}{k e l:Int}(h:bK es.length k e l=true):eA (tyB es k e l)=(mS es k e l).data.toList:=by
 rw[bN8 h];unfold tyB aRl;by_cases hl:l=0;· simp[hl,eA,eW,tR]
 . simp[hl,eA,eW,fH,nuB,tR,bMw (zK h).1]
theorem aV2{es:List En}(h:cG es=0){k e l:Int}(hr:bK es.length k e l=true):aQ (tR es k e)=true\/bQ (tR es k e)=true:=by
 obtain⟨_,h1⟩:=zK hr;rcases h1 with rfl|rfl|⟨rfl,i,rfl,hi⟩;· exact .inr (by show bQ aK2.data.toList=true;decide)
 . exact .inr (by show bQ aF8.data.toList=true;decide)
 . refine .inl ?_;have h2:oU es 3 (i:Int)=cM es i:=by simp[oU]
   unfold tR;rw[h2];exact bAx h hi
theorem aZx{es:List En}(h:cG es=0){k e l:Int}(hr:bK es.length k e l=true){u:LU}(hu:fX u):jT T (tyB es k e l) u:=by
 unfold tyB;by_cases hl:l=0
 . rw[if_pos hl];exact⟨gJ (aV2 h hr) hu,trivial⟩
 . rw[if_neg hl];have hb:=(zK hr).1;exact⟨gJ (aV2 h hr) (n91 _),aI8 _,aZb hb.1 aA (n93 _),aI9 _,trivial⟩
def onB(s m:LU):List Bp:=if m=eF then [eW s]else if m=dY then [eW iE,fI,eW s]else [hgB m,fH [40],eW s,fH [41]]
theorem bXo(s m:LU):eA (onB s m)=kH s m:=by
 unfold onB kH;split;· simp[eA,eW]
 . split;· simp[eA,eW,fI]
   . simp[eA,eW,hgB,fH]
theorem cA2(s m:LU):(onB s m).map (·.2)=sQ s m:=by
 unfold onB sQ;split;· rfl
 . split<;>rfl
theorem bXp{s m:LU}(hs:aQ s=true)(hm:yL m){u:LU}(hu:fX u):jT T (onB s m) u:=by
 unfold onB;by_cases h1:m=eF
 . rw[if_pos h1];exact⟨gJ (.inl hs) hu,trivial⟩
 rw[if_neg h1];by_cases h2:m=dY
 . rw[if_pos h2];exact⟨gJ (.inr aF) (uB _),aI.sp _,gJ (.inl hs) hu,trivial⟩
 rw[if_neg h2];have hh:dF m=true:=bFv;exact⟨aEz hh (n40 _),mN _,gJ (.inl hs) (n41 _),mO _,trivial⟩
def wR(es:List En)(d:Dc):List Bp:=eW d.nm.data.toList::fH [58]::fI::(tyB es d.k d.e d.l++(if eO d.on then []else fI::eW gR::fI::onB d.on.data.toList d.ct.data.toList))
theorem bPk{es:List En}{d:Dc}(h:lO es.length d):eA (wR es d)=gS (bR es) d:=by
 unfold wR gS;simp only[eA,rS,bXn h];cases eO d.on with
 |true=>simp[eW,fH,fI,bR,eA]
 |false=>simp[eW,fH,fI,bR,eA,bXo,aK3,gR]
theorem aXy{n:Nat}{d:Dc}(h:mU (lO n) d):eO d.on=false->aQ d.on.data.toList=true/\yL d.ct.data.toList:=fun hn=>by
 rcases h.on with⟨h1,_⟩|⟨_,h2,h3⟩;· rw[hn]at h1;cases h1
 . exact⟨h2,by rcases h3 with h|h|h;exact .inr (.inl h);exact .inr (.inr h);exact .inl h⟩
theorem bPl{es:List En}(h:cG es=0){d:Dc}(hd:mU (lO es.length) d){u:LU}(hu:fX u):jT T (wR es d) u:=by
 unfold wR;cases hn:eO d.on with
 |true=>
  rw[if_pos rfl,List.append_nil];exact⟨gJ (.inl hd.low) (n58 _),bIk _,aI.sp _,aZx h hd.ty hu⟩
 |false=>
  rw[if_neg aC];obtain⟨h1,h2⟩:=aXy hd hn;exact⟨gJ (.inl hd.low) (n58 _),bIk _,aI.sp _,pH (aZx h hd.ty (uB _)) ⟨aI.sp _,gJ (.inr aF) (uB _),aI.sp _,bXp h1 h2 hu⟩⟩
end
section
variable {f:Nat}
theorem cCy{x:Ex}(hx:bV x)(hp:∀p∈bP x,qX p)(hs:aT x<=f){u:LU}(hu:pP u):aI (bG f) (aK x) [.sub x] u:=aI.sub fun a=>aXi f x hx hp hs u hu a
def aDi(l:LB):List Bp:=sI 44 (l.map fun s=>[eW s.data.toList])
def aCx(l:LB):List Bp:=sI 44 (l.map fun s=>[hgB s.data.toList])
theorem bPm(l:LB):eA (aDi l)=dI 44 (l.map fun s=>s.data.toList):=by
 rw[aDi,aHu,List.map_map];congr 1;exact List.map_congr_left fun s _=>by simp[eA,eW]
theorem bMx(l:LB):eA (aCx l)=dI 44 (l.map fun s=>s.data.toList):=by
 rw[aCx,aHu,List.map_map];congr 1;exact List.map_congr_left fun s _=>by simp[eA,hgB]
theorem bPn{l:LB}(h:∀s∈l,aQ s.data.toList=true){u:LU}(hu:fX u):jT (bG f) (aDi l) u:=
 aHv (fun u=>aOt _) n44 (fun x hx v hv=>by
  obtain⟨s,hs,rfl⟩:=List.mem_map.1 hx;exact⟨gJ (.inl (h s hs)) hv,trivial⟩) hu
theorem bMy{l:LB}(h:∀s∈l,dF s.data.toList=true){u:LU}(hu:fX u):jT (bG f) (aCx l) u:=
 aHv (fun u=>aOt _) n44 (fun x hx v hv=>by
  obtain⟨s,hs,rfl⟩:=List.mem_map.1 hx;exact⟨aEz (h s hs) hv,trivial⟩) hu
def uP(es:List En)(l:List Dc):List Bp:=sI 59 (l.map (wR es))
theorem aL6{es:List En}{l:List Dc}(h:∀d∈l,lO es.length d):eA (uP es l)=kA (bR es) l:=by
 rw[uP,aHu,List.map_map,kA];congr 1;exact List.map_congr_left fun d hd=>bPk (h d hd)
theorem aL7{es:List En}(h:cG es=0){l:List Dc}(hl:∀d∈l,mU (lO es.length) d){u:LU}(hu:fX u):jT (bG f) (uP es l) u:=
 aHv (fun u=>aK6 _) n59 (fun x hx v hv=>by
  obtain⟨d,hd,rfl⟩:=List.mem_map.1 hx;exact bPl h (hl d hd) hv) hu
structure QnG (f:Nat)(q:Qn):Prop where
 ns:∀s∈q.ns,aQ s.data.toList=true
 x:bV q.x
 num:∀p∈bP q.x,qX p
 size:aT q.x<=f
def aD2(q:Qn):List Bp:=fI::fI::(aDi q.ns++[fI,fH [61],fI,sbB q.x,fH [59],qA])
theorem bXq(q:Qn):eA (aD2 q)=eqT q++[10]:=by
 simp only[aD2,eA,rS,bPm,eqT];simp[fI,fH,sbB,qA]
theorem bXr{q:Qn}(h:QnG f q)(u:LU):jT (bG f) (aD2 q) u:=
 ⟨aI.sp _,aI.sp _,pH (bPn h.ns (uB _)) ⟨aI.sp _,bA6 _,aI.sp _,cCy h.x h.num h.size (.inr ⟨59,_,rfl,by simp⟩),aK6 _,aD1 _,trivial⟩⟩
def yZ(l:List Qn):List Bp:=l.flatMap aD2
theorem aXz:∀l:List Qn,eA (yZ l)=aDy l
 |[]=>rfl
 |q::l=>by
  have:=aXz l
  simp only[yZ,aDy,List.flatMap_cons,rS,bXq]at this⊢;rw[this]
theorem aX0:∀{l:List Qn},(∀q∈l,QnG f q)->∀u:List UInt8,jT (bG f) (yZ l) u
 |[],_,_=>trivial
 |q::l,h,u=>by
  simp only[yZ,List.flatMap_cons];exact pH (bXr (h q aC) _) (aX0 (fun x hx=>h x wX) u)
structure NdG (f n:Nat)(x:Nd):Prop where
 low:aQ x.nm.data.toList=true
 ins:∀d∈x.ins,mU (lO n) d/\eO d.on=true
 outs:∀d∈x.outs,mU (lO n) d/\eO d.on=true
 out1:x.outs≠[]
 vars:∀d∈x.vars,mU (lO n) d
 eqs:∀q∈x.eqs,QnG f q
def aAy(es:List En)(l:List Dc):List Bp:=if l=[]then []else eW xC::fI::(uP es l++[fH [59],qA])
def aAs(es:List En)(x:Nd):List Bp:=
 eW lW::fI::eW x.nm.data.toList::fH [40]::(uP es x.ins++(fH [41]::fI::eW aD0::fI::fH [40]::(uP es x.outs++(fH [41]::qA::(aAy es x.vars++(eW gW::qA::(yZ x.eqs++[eW mD,qA])))))))
theorem bPo{es:List En}{l:List Dc}(h:∀d∈l,lO es.length d):eA (aAy es l)=uW (bR es) l:=by
 unfold aAy uW;split;· rfl
 . simp only[eA,rS,aL6 h];simp[eW,fI,fH,qA,xC,aGo]
theorem bPp{es:List En}{x:Nd}(h:NdG f es.length x):eA (aAs es x)=tM (bR es) x:=by
 unfold aAs tM;simp only[eA,rS,aL6 fun d hd=>(h.ins d hd).1.ty,aL6 fun d hd=>(h.outs d hd).1.ty,bPo fun d hd=>(h.vars d hd).ty,aXz];simp[eW,fI,fH,qA,lW,yJ,aD0,yX,gW,yY,mD,aDx]
theorem bPq{es:List En}(h:cG es=0){l:List Dc}(hl:∀d∈l,mU (lO es.length) d)(u:LU):jT (bG f) (aAy es l) u:=by
 unfold aAy;split;· trivial
 . exact⟨gJ (.inr aF) (uB _),aI.sp _,pH (aL7 h hl (n59 _)) ⟨aK6 _,aD1 _,trivial⟩⟩
theorem bPr{es:List En}(h:cG es=0){x:Nd}(hx:NdG f es.length x)(u:LU):jT (bG f) (aAs es x) u:=
 ⟨gJ (.inr aF) (uB _),aI.sp _,gJ (.inl hx.low) (n40 _),mN _,pH (aL7 h (fun d hd=>(hx.ins d hd).1) (n41 _))
  ⟨mO _,aI.sp _,gJ (.inr aF) (uB _),aI.sp _,mN _,pH (aL7 h (fun d hd=>(hx.outs d hd).1) (n41 _))
   ⟨mO _,aD1 _,pH (bPq h hx.vars _) ⟨gJ (.inr aF) (n10 _),aD1 _,pH (aX0 hx.eqs _) ⟨gJ (.inr aF) (n10 _),aD1 _,trivial⟩⟩⟩⟩⟩
def uJ(es:List En)(l:List Nd):List Bp:=l.flatMap (aAs es)
theorem aT9{es:List En}:∀{l:List Nd},(∀x∈l,NdG f es.length x)->eA (uJ es l)=lS (bR es) l
 |[],_=>rfl
 |x::l,h=>by
  have:=aT9 (l:=l) fun y hy=>h y aFv
  simp only[uJ,lS,List.flatMap_cons,rS,bPp (h x aC)]at this⊢;rw[this]
theorem aUa{es:List En}(h:cG es=0):∀{l:List Nd},(∀x∈l,NdG f es.length x)->∀u:List UInt8,jT (bG f) (uJ es l) u
 |[],_,_=>trivial
 |x::l,hl,u=>by
  simp only[uJ,List.flatMap_cons];exact pH (bPr h (hl x aC) _) (aUa h (fun y hy=>hl y aFv) u)
def aDj(e:En):List Bp:=eW lH::fI::eW e.1.data.toList::fI::fH [123]::fI::(aCx e.2++[fI,fH [125],fH [59],qA])
theorem bPs(e:En):eA (aDj e)=yK e:=by
 unfold aDj yK;simp only[eA,rS,bMx];simp[eW,fI,fH,qA,lH,aKb]
theorem bPt{e:En}(h:EnF e)(u:LU):jT (bG f) (aDj e) u:=
 ⟨gJ (.inr aF) (uB _),aI.sp _,gJ (.inl h.low) (uB _),aI.sp _,cCw _,aI.sp _,pH (bMy h.cs (uB _)) ⟨aI.sp _,cCx _,aK6 _,aD1 _,trivial⟩⟩
def yB(l:List En):List Bp:=l.flatMap aDj
theorem aUb:∀l:List En,eA (yB l)=jP l
 |[]=>rfl
 |e::l=>by
  have:=aUb l
  simp only[yB,jP,List.flatMap_cons,rS,bPs]at this⊢;rw[this]
theorem aUc:∀{l:List En},(∀e∈l,EnF e)->∀u:List UInt8,jT (bG f) (yB l) u
 |[],_,_=>trivial
 |e::l,h,u=>by
  simp only[yB,List.flatMap_cons];exact pH (bPt (h e aC) _) (aUc (fun x hx=>h x wX) u)
structure PgG (f:Nat)(p:Pg):Prop where
 en:cG p.es=0
 es:∀e∈p.es,EnF e
 es1:∀e∈p.es,e.2≠[]
 ns:∀x∈p.ns,NdG f p.es.length x
def aAz(p:Pg):List Bp:=yB p.es++uJ p.es p.ns
theorem bPu{p:Pg}(h:PgG f p):eA (aAz p)=aQi (bR p.es) p:=by
 rw[aAz,rS,aUb,aT9 h.ns];rfl
theorem bT5{p:Pg}(h:PgG f p):∃ts,cK 0 (aQi (bR p.es) p)=(ts,none)/\bB (bG f) ((aAz p).map (·.2)) ts:=by
 obtain⟨ts,e,k⟩:=(jT.lex (pH (aUc h.es _) (aUa h.en h.ns [])):aI (bG f) (eA (aAz p)) ((aAz p).map (·.2)) []) 0;rw[bPu h,List.append_nil,aB6,List.append_nil]at e;exact⟨ts,e,k⟩
end
section
variable {T:Ex->List Tk->Prop}
theorem aHw(m:UInt8):∀(l:List (List Bp))(x:List Bp),(sI m (x::l)).map (·.2)=x.map (·.2)++l.flatMap (fun y=>aL [m]::.sp::y.map (·.2))
 |[],x=>by simp[sI]
 |y::l,x=>by
  simp only[sI,Zt,Xl,List.flatMap_cons,aHw m l y];simp[fH,fI]
theorem oS(s m:LU)(n:Int)(p:Nat)(r:List Tk):aG s (⟨5,m,n,p⟩::r)=(m==s):=aJn
theorem sD(s m:LU)(n:Int)(p:Nat)(r:List Tk):aG s (⟨1,m,n,p⟩::r)=(m==s):=aJn
theorem aN9{s w:LU}(h:aQ s=true)(hw:aQ w=false)(n:Int)(p:Nat)(r:List Tk):aG w (⟨1,s,n,p⟩::r)=false:=by
 rw[sD,Xf];exact aFl h hw
theorem aLt{one:List Tk->PR (List UInt8)}{pc:List UInt8->Pc}{ok:List UInt8->Prop}(Aa:∀s t r,ok s->bB T [pc s] t->one (t++r)=.ok s r/\1<=t.length):
 ∀(l:LB)(acc:LB)(g:Nat)(ts rest:List Tk),(∀s∈l,ok s.data.toList)->bB T (l.flatMap fun s=>[aL [44],.sp,pc s.data.toList]) ts->ts.length<=g->aG [44] rest=false->
  gB one g acc (ts++rest)=.ok (acc++l) rest
 |[],acc,g,ts,rest,_,ht,_,hr=>by
  simp only[List.flatMap_nil,bB]at ht;subst ht;rw[List.append_nil,Zh];cases g with
  |zero=>rfl
  |succ g=>rw[gB,hr,if_neg aC]
 |s::l,acc,g,ts,rest,Ax,ht,hg,hr=>by
  rw[List.flatMap_cons,iA]at ht;obtain⟨a,b,rfl,ha,hb⟩:=ht;simp only[aL,bB]at ha;obtain⟨p,r,rfl,Al⟩:=ha;obtain⟨h1,h2⟩:=Aa s.data.toList r (b++rest) (Ax s aC) Al;simp only[Yx,Yq,Yo]at hg⊢;cases g with
  |zero=>omega
  |succ g=>
   rw[gB,oS,if_pos aC];simp only[Xn,Yy];rw[h1,PR.bind_ok,mH,aLt Aa l (acc++[s]) g b rest (fun x hx=>Ax x wX) hb aA hr];simp
theorem aZy(s:LU)(t r:List Tk)(h:aQ s=true)(ht:bB T [bE s] t):bT (t++r)=.ok s r/\1<=t.length:=by
 simp only[bE,bB]at ht;obtain⟨p,q,rfl,rfl⟩:=ht;exact⟨tF h 0 p r,by simp⟩
theorem aX1(s:LU)(t r:List Tk)(h:dF s=true)(ht:bB T [.tk 2 s 0] t):kT (t++r)=.ok s r/\1<=t.length:=by
 simp only[bB]at ht;obtain⟨p,q,rfl,rfl⟩:=ht;exact⟨by simp[kT],by simp⟩
theorem bPv{l:LB}(hl:l≠[])(h:∀s∈l,aQ s.data.toList=true){ts:List Tk}(ht:bB T ((aDi l).map (·.2)) ts){rest:List Tk}(hr:aG [44] rest=false):
 ∃s r,bT (ts++rest)=.ok s r/\∀g,r.length<=g->gB bT g [aB s] r=.ok l rest:=by
 match l,hl with
 |s::l,_=>
  unfold aDi at ht;rw[Xl,aHw,iA]at ht;obtain⟨a,b,rfl,ha,hb⟩:=ht;obtain⟨h1,_⟩:=aZy s.data.toList a (b++rest) (h s aC) ha;refine⟨s.data.toList,b++rest,by rw[Yy];exact h1,fun g hg=>?_⟩;rw[List.flatMap_map]at hb;rw[mH,aLt (one:=bT) (pc:=bE) (ok:=fun s=>aQ s=true) aZy l [s] g b rest (fun x hx=>h x wX) hb bBz hr];rfl
theorem bMz{l:LB}(hl:l≠[])(h:∀s∈l,dF s.data.toList=true){ts:List Tk}(ht:bB T ((aCx l).map (·.2)) ts){rest:List Tk}(hr:aG [44] rest=false):
 ∃s r,kT (ts++rest)=.ok s r/\∀g,r.length<=g->gB kT g [aB s] r=.ok l rest:=by
 match l,hl with
 |s::l,_=>
  unfold aCx at ht;rw[Xl,aHw,iA]at ht;obtain⟨a,b,rfl,ha,hb⟩:=ht;obtain⟨h1,_⟩:=aX1 s.data.toList a (b++rest) (h s aC) ha;refine⟨s.data.toList,b++rest,by rw[Yy];exact h1,fun g hg=>?_⟩;rw[List.flatMap_map]at hb;rw[mH,aLt (one:=kT) (pc:=fun s=>.tk 2 s 0) (ok:=fun s=>dF s=true) aX1 l [s] g b rest (fun x hx=>h x wX) hb bBz hr];rfl
theorem bPw{es:List En}(h:cG es=0){i:Nat}(hi:i<es.length):aAr es (cM es i).data.toList=(i:Int):=by
 have:=aBt (l:=es) (f:=fun e:En=>e.1.data.toList==(cM es i).data.toList) (k:=i) (i:=0) hi (fun j hj=>by
  rw[enD,Xf];intro e;have h1:=bKd (bV8 h) (show j<es.length by omega) hi (aCm e)
  omega) (by rw[enD];simp)
 rwa[Nat.zero_add]at this
theorem aX2{n:Nat}{k e l:Int}(h:bK n k e l=true)(hk:k=1\/k=2):e=0:=by
 rw[aHb (zK h).1 hk]at h;simpa using h
theorem aZz{es:List En}(h:cG es=0){k e l:Int}(hr:bK es.length k e l=true){ts:List Tk}(ht:bB T ((tyB es k e l).map (·.2)) ts){rest:List Tk}(Ae:aG [91] rest=false):
 rI es (ts++rest)=.ok (k,e,l) rest:=by
 obtain⟨hb,hc⟩:=zK hr;have Et:∀(p:Nat)(r:List Tk),wQ es (⟨1,tR es k e,0,p⟩::r)=.ok (k,e) r:=by
  intro p r;unfold wQ;rcases hc with rfl|rfl|⟨rfl,i,rfl,hi⟩
  . obtain rfl:=aX2 hr (.inl rfl);rw[sD,if_pos (by show(aK2.data.toList==aA9)=true;decide)];rfl
  . obtain rfl:=aX2 hr (.inr rfl);rw[sD,if_neg (by show ¬(aF8.data.toList==aA9)=true;decide),sD,if_pos (by show(aF8.data.toList==aDh)=true;decide)];rfl
  . have h2:tR es 3 (i:Int)=(cM es i).data.toList:=by simp[tR,oU]
    have Aa:=bAx h hi;rw[h2,aN9 Aa aF,if_neg aC,aN9 Aa aF,if_neg aC];simp only[bPw h hi];rw[if_pos ⟨trivial,by omega⟩,tF Aa,PR.bind_ok]
 unfold tyB at ht;by_cases hl:l=0
 . rw[if_pos hl]at ht;simp only[Xl,List.map_nil,eW,bE,bB]at ht;obtain⟨p,q,rfl,rfl⟩:=ht;show rI es (⟨1,tR es k e,0,p⟩::rest)=_;unfold rI;rw[Et,PR.bind_ok,Ae,if_neg aC,hl]
 . rw[if_neg hl]at ht;simp only[Xl,List.map_nil,eW,bE,fH,aL,nuB,bB]at ht;obtain⟨p,q,rfl,p2,q2,rfl,p3,q3,rfl,p4,q4,rfl,rfl⟩:=ht;show rI es (⟨1,tR es k e,0,p⟩::⟨5,[91],0,p2⟩::⟨3,Lib.itoa l,l,p3⟩::⟨5,[93],0,p4⟩::rest)=_;unfold rI;rw[Et,PR.bind_ok,oS,if_pos aC];simp only[Xn];rw[if_pos ⟨trivial,by omega,hb.2⟩,kL,PR.bind_ok]
def aD3(r:List Tk):Prop:=aG [91] r=false/\aG gR r=false
theorem aHx{es:List En}(h:cG es=0){d:Dc}(hd:mU (lO es.length) d){ts:List Tk}(ht:bB T ((wR es d).map (·.2)) ts){rest:List Tk}(hf:aD3 rest):
 fK es (ts++rest)=.ok d rest/\∃p q,ts=⟨1,d.nm.data.toList,0,p⟩::q:=by
 unfold wR at ht;simp only[Xl,Zt,eW,bE,fH,aL,fI,bB]at ht;obtain⟨p,q,rfl,p2,q2,rfl,ht⟩:=ht;rw[iA]at ht;obtain⟨a,b,rfl,ha,hb⟩:=ht;refine⟨?_,p,_,rfl⟩;show fK es (⟨1,d.nm.data.toList,0,p⟩::⟨5,[58],0,p2⟩::(a++b++rest))=_;unfold fK;rw[tF hd.low,PR.bind_ok,kL,PR.bind_ok,Yy];cases hn:eO d.on with
 |true=>
  rw[hn,if_pos rfl]at hb;simp only[List.map_nil,bB]at hb;subst hb;rw[Zh,aZz h hd.ty ha hf.1,PR.bind_ok,hf.2,if_neg aC,mH];have h1:d.on=⟨#[]⟩:=aCm (by simpa[eO]using hn);have h2:d.ct=⟨#[]⟩:=by
   rcases hd.on with⟨_,h2⟩|⟨h2,_⟩;· exact aCm (by simpa[eO]using h2)
   . rw[hn]at h2;cases h2
  obtain⟨nm,k,e,l,on,ct⟩:=d;simp only at h1 h2;subst h1 h2;rfl
 |false=>
  rw[hn,if_neg aC]at hb;obtain⟨g1,g2⟩:=aXy hd hn;simp only[Xl,eW,bE,fI,bB,cA2]at hb;obtain⟨p5,q5,rfl,hb⟩:=hb;rw[<-List.append_nil (sQ _ _)]at hb;obtain⟨z,r,rfl,_,hz,hw⟩:=aY5 g1 g2 hb;simp only[bB]at hz;subst hz;rw[List.append_nil];show((rI es (a++(⟨1,gR,0,p5⟩::(z++rest)))).bind _)=_;rw[aZz h hd.ty ha (by rw[sD];decide),PR.bind_ok,sD,if_pos aC];simp only[Xn];rw[hw,PR.bind_ok,mH,mH,mH]
end
section
variable {f:Nat}
theorem bT6{w s:LU}{r r':List Tk}(h:bT r=.ok s r')(hw:bQ w=true):aG w r=false:=by
 cases r with
 |nil=>cases h
 |cons t q=>
  have e:bT (t::q)=if t.k=1/\bQ t.s=false then .ok t.s q else .bad (t::q):=rfl
  rw[e]at h;by_cases hk:t.k=1/\bQ t.s=false
  . unfold aG;have Bv:(t.s==w)=false:=by
     rw[Xf];intro e;rw[e,hw]at hk;exact absurd hk.2 aC
    simp[Bv]
  . rw[if_neg hk]at h;cases h
theorem aUd{T:Ex->List Tk->Prop}{es:List En}(h:cG es=0){last:Bool}:∀(l:List Dc)(d:Dc)(acc:List Dc)(g:Nat)(ts rest:List Tk),(∀x∈d::l,mU (lO es.length) x)->
 bB T ((wR es d).map (·.2)++l.flatMap (fun y=>aL [59]::.sp::(wR es y).map (·.2))) ts->ts.length<=g->aD3 rest->oZ last rest=false->kB es last g acc (ts++rest)=.ok (acc++d::l) rest
 |[],d,acc,g,ts,rest,hd,ht,hg,hf,hm=>by
  rw[List.flatMap_nil,List.append_nil]at ht;obtain⟨h1,p,q,e⟩:=aHx h (hd d aC) ht hf;cases g with
  |zero=>subst e;simp at hg
  |succ g=>rw[kB,h1,PR.bind_ok,hm,if_neg aC]
 |y::l,d,acc,g,ts,rest,hd,ht,hg,hf,hm=>by
  rw[List.flatMap_cons,iA]at ht;obtain⟨a,b,rfl,ha,hb⟩:=ht;rw[Yx,Yx]at hb;simp only[aL,bB]at hb;obtain⟨p,r,rfl,hb⟩:=hb;have Aq:aD3 (⟨5,[59],0,p⟩::(r++rest)):=⟨by rw[oS];decide,by rw[oS];decide⟩;obtain⟨h1,p1,q1,e1⟩:=aHx h (hd d aC) ha Aq;have Ag:=hb;rw[iA]at Ag;obtain⟨a2,b2,e2,Bs,_⟩:=Ag;obtain⟨_,p3,q3,e3⟩:=aHx h (hd y aC) Bs Aq;have Ae:=(hd y aC).low;have Aa:oZ last (⟨5,[59],0,p⟩::(r++rest))=true:=by
   rw[e2,e3]
   have:(y.nm.data.toList==gW)=false:=by rw[Xf];exact aFl Ae aF
   simp[oZ,this]
  cases g with
  |zero=>subst e1;simp at hg
  |succ g=>
   rw[Yy,Yx,kB,h1,PR.bind_ok,Aa,if_pos rfl];simp only[Xn];rw[aUd h l y (acc++[d]) g r rest (fun x hx=>hd x (by simp at hx⊢;right;exact hx)) hb (by simp at hg;omega) hf hm];simp
theorem aLu{T:Ex->List Tk->Prop}{es:List En}(h:cG es=0){last:Bool}{l:List Dc}(hl:l≠[])(hd:∀x∈l,mU (lO es.length) x){ts rest:List Tk}(ht:bB T ((uP es l).map (·.2)) ts){g:Nat}(hg:ts.length<=g)(hf:aD3 rest)(hm:oZ last rest=false):
 kB es last g [] (ts++rest)=.ok l rest/\∃p q s,ts=⟨1,s,0,p⟩::q/\aQ s=true:=by
 match l,hl with
 |d::l,_=>
  unfold uP at ht;rw[Xl,aHw,List.flatMap_map]at ht;refine⟨by rw[aUd h l d [] g ts rest hd ht hg hf hm];rfl,?_⟩;rw[iA]at ht;obtain⟨a,b,rfl,ha,_⟩:=ht;obtain⟨_,p,q,e⟩:=aHx (rest:=[⟨5,[59],0,0⟩]) h (hd d aC) ha ⟨by rw[oS];decide,by rw[oS];decide⟩;exact⟨p,q++b,_,by rw[e];rfl,(hd d aC).low⟩
theorem cA3(n:Nat):(aV (n+1)).ar=pI (aV n):=rfl
theorem bPx{x:Ex}(hx:bJ x=true){t:List Tk}(ht:bG f x t)(hn:t.length<=10000){p:Nat}(rest:List Tk):qT (t++⟨5,[59],0,p⟩::rest)=.ok x (⟨5,[59],0,p⟩::rest):=by
 have h1:(aV (9999+1)).ar (t++⟨5,[59],0,p⟩::rest)=.ok x (⟨5,[59],0,p⟩::rest):=by
  rw[cA3];exact bW1 (aH7 hx) ht aA ⟨by rw[oS];decide,by rw[oS];decide⟩ (show 8<=iF 5 [59]by decide)
 have h2:¬(60<aT x\/12<gC x):=by
  simp only[bJ,Yu,Bool.not_eq_true',decide_eq_false_iff_not]at hx;omega
 unfold qT;rw[show(10000:Nat)=9999+1 from rfl,h1];simp only[h2,if_false,hx];simp
structure QnH (f:Nat)(q:Qn):Prop where
 g:QnG f q
 ns1:q.ns≠[]
 right:bJ q.x=true
theorem bXs{q:Qn}(h:QnH f q){ts:List Tk}(ht:bB (bG f) ((aD2 q).map (·.2)) ts)(hn:ts.length<=10000)(rest:List Tk):nA (ts++rest)=.ok q rest/\aG mD (ts++rest)=false/\1<=ts.length:=by
 unfold aD2 at ht;simp only[Xl,Zt,fI,bB]at ht;rw[iA]at ht;obtain⟨a,b,rfl,ha,hb⟩:=ht;simp only[List.map_nil,fH,aL,sbB,qA,bB]at hb;obtain⟨p,r,rfl,t,r2,rfl,hx,p2,r3,rfl,rfl⟩:=hb;have Aa:aG [44] (⟨5,[61],0,p⟩::(t++⟨5,[59],0,p2⟩::rest))=false:=by rw[oS];decide
 obtain⟨s,r,h1,h2⟩:=bPv h.ns1 h.g.ns ha Aa;have e:(a++⟨5,[61],0,p⟩::(t++[⟨5,[59],0,p2⟩]))++rest=a++⟨5,[61],0,p⟩::(t++⟨5,[59],0,p2⟩::rest):=aC;rw[e];refine⟨?_,bT6 h1 aF,?_⟩
 . unfold nA;rw[h1,PR.q_ok,QR.bind_ok,h2 _ (Yh _),PR.q_ok,QR.bind_ok,kL,PR.q_ok,QR.bind_ok,bPx h.right hx (by simp at hn;omega),QR.bind_ok,kL,PR.q_ok,QR.bind_ok]
 . rw[Yo,Yq];omega
theorem aX3:∀(l:List Qn)(acc:List Qn)(g:Nat)(ts:List Tk)(p:Nat)(rest:List Tk),(∀q∈l,QnH f q)->bB (bG f) ((yZ l).map (·.2)) ts->ts.length<=10000->ts.length+1<=g->
 rE g acc (ts++⟨1,mD,0,p⟩::rest)=.ok (acc++l) rest
 |[],acc,g,ts,p,rest,_,ht,_,hg=>by
  simp only[yZ,List.flatMap_nil,List.map_nil,bB]at ht;subst ht;cases g with
  |zero=>omega
  |succ g=>
   rw[Zh,rE,sD,if_pos aC];simp
 |q::l,acc,g,ts,p,rest,h,ht,hn,hg=>by
  simp only[yZ,List.flatMap_cons,Zt]at ht;rw[iA]at ht;obtain⟨a,b,rfl,ha,hb⟩:=ht;rw[Yo]at hn hg;obtain⟨h1,h2,h3⟩:=bXs (h q aC) ha aA (b++⟨1,mD,0,p⟩::rest);cases g with
  |zero=>omega
  |succ g=>
   rw[Yy,rE,h2,if_neg aC,h1,QR.bind_ok,aX3 l (acc++[q]) g b p rest (fun x hx=>h x wX) hb aA aA];simp
structure NdH (f n:Nat)(x:Nd):Prop where
 g:NdG f n x
 eqs:∀q∈x.eqs,QnH f q
theorem bBc(p:Nat)(r:List Tk):aD3 (⟨5,[41],0,p⟩::r):=⟨by rw[oS];decide,by rw[oS];decide⟩
theorem cA4(p:Nat)(r:List Tk):aD3 (⟨5,[59],0,p⟩::r):=⟨by rw[oS];decide,by rw[oS];decide⟩
theorem bT7{T:Ex->List Tk->Prop}{es:List En}(h:cG es=0){l:List Dc}(hd:∀x∈l,mU (lO es.length) x){ts:List Tk}(ht:bB T ((uP es l).map (·.2)) ts)(p:Nat)(rest:List Tk):vL es (ts++⟨5,[41],0,p⟩::rest)=.ok l rest:=by
 unfold vL;by_cases hl:l=[]
 . subst hl;simp only[uP,sI,List.map_nil,bB]at ht;subst ht;rw[Zh,oS,if_pos aC];rfl
 . obtain⟨h1,p1,q1,s1,e,hs⟩:=aLu (last:=false) (g:=(ts++⟨5,[41],0,p⟩::rest).length) h hl hd ht aC (bBc p rest) (by simp[oZ]);rw[show aG [41] (ts++⟨5,[41],0,p⟩::rest)=false by rw[e];exact aN9 hs aF 0 p1 _,if_neg aC,h1,PR.bind_ok,kL,PR.bind_ok]
theorem bPy{T:Ex->List Tk->Prop}{es:List En}(h:cG es=0){l:List Dc}(hd:∀x∈l,mU (lO es.length) x){ts:List Tk}(ht:bB T ((aAy es l).map (·.2)) ts)(p:Nat)(rest:List Tk):uZ es (ts++⟨1,gW,0,p⟩::rest)=.ok l (⟨1,gW,0,p⟩::rest):=by
 unfold uZ;unfold aAy at ht;by_cases hl:l=[]
 . rw[if_pos hl]at ht;simp only[List.map_nil,bB]at ht;subst ht hl;rw[Zh,sD,if_neg aF]
 . rw[if_neg hl]at ht;simp only[Xl,Zt,eW,bE,fI,bB]at ht;obtain⟨p1,r,rfl,ht⟩:=ht;rw[iA]at ht;obtain⟨a,b,rfl,ha,hb⟩:=ht;simp only[Xl,List.map_nil,fH,aL,qA,bB]at hb;obtain⟨p2,r2,rfl,rfl⟩:=hb;have e:(⟨1,xC,0,p1⟩::(a++[⟨5,[59],0,p2⟩]):List Tk)++⟨1,gW,0,p⟩::rest=⟨1,xC,0,p1⟩::(a++⟨5,[59],0,p2⟩::⟨1,gW,0,p⟩::rest):=aC;rw[e,sD,if_pos aC];simp only[Xn];obtain⟨h1,_⟩:=aLu (last:=true) (g:=(a++⟨5,[59],0,p2⟩::⟨1,gW,0,p⟩::rest).length) h hl hd ha aC (cA4 p2 (⟨1,gW,0,p⟩::rest)) (by simp[oZ]);rw[h1,PR.bind_ok,kL,PR.bind_ok]
theorem bPz{es:List En}(h:cG es=0){x:Nd}(hx:NdH f es.length x){ts:List Tk}(ht:bB (bG f) ((aAs es x).map (·.2)) ts)(hn:ts.length<=10000)(rest:List Tk):
 ∃p r,ts=⟨1,lW,0,p⟩::r/\mV es (r++rest)=.ok x rest:=by
 unfold aAs at ht;simp only[Xl,Zt,eW,bE,fI,fH,aL,bB]at ht;obtain⟨p,r,rfl,p1,r1,rfl,p2,r2,rfl,ht⟩:=ht;refine⟨p,_,rfl,?_⟩;rw[iA]at ht;obtain⟨a,b,rfl,ha,hb⟩:=ht;simp only[bB]at hb;obtain⟨p3,b1,rfl,p4,b2,rfl,p5,b3,rfl,hb⟩:=hb;rw[iA]at hb;obtain⟨c,d,rfl,hc,hd⟩:=hb;simp only[qA,bB]at hd;obtain⟨p6,d1,rfl,hd⟩:=hd;rw[iA]at hd;obtain⟨v,u,rfl,hv,hu⟩:=hd;simp only[bB]at hu;obtain⟨p7,u1,rfl,hu⟩:=hu;rw[iA]at hu;obtain⟨q,z,rfl,hq,hz⟩:=hu;simp only[List.map_nil,bB]at hz;obtain⟨p8,z1,rfl,rfl⟩:=hz;have e:(⟨1,x.nm.data.toList,0,p1⟩::⟨5,[40],0,p2⟩::(a++⟨5,[41],0,p3⟩::⟨1,aD0,0,p4⟩::⟨5,[40],0,p5⟩::(c++⟨5,[41],0,p6⟩::(v++⟨1,gW,0,p7⟩::(q++[⟨1,mD,0,p8⟩])))):List Tk)++rest =
  ⟨1,x.nm.data.toList,0,p1⟩::⟨5,[40],0,p2⟩::(a++⟨5,[41],0,p3⟩::⟨1,aD0,0,p4⟩::⟨5,[40],0,p5⟩::(c++⟨5,[41],0,p6⟩::(v++⟨1,gW,0,p7⟩::(q++⟨1,mD,0,p8⟩::rest)))):=aC
 rw[e];unfold mV;rw[tF hx.g.low,PR.q_ok,QR.bind_ok,kL,PR.q_ok,QR.bind_ok,bT7 h (fun d hd=>(hx.g.ins d hd).1) ha,PR.q_ok,QR.bind_ok,aN2,PR.q_ok,QR.bind_ok,kL,PR.q_ok,QR.bind_ok];obtain⟨h1,_⟩:=aLu (last:=false) (g:=(c++⟨5,[41],0,p6⟩::(v++⟨1,gW,0,p7⟩::(q++⟨1,mD,0,p8⟩::rest))).length) h hx.g.out1 (fun d hd=>(hx.g.outs d hd).1) hc aC (bBc p6 (v++⟨1,gW,0,p7⟩::(q++⟨1,mD,0,p8⟩::rest))) (by simp[oZ]);rw[h1,PR.q_ok,QR.bind_ok,kL,PR.q_ok,QR.bind_ok,bPy h hx.g.vars hv,PR.q_ok,QR.bind_ok,aN2,PR.q_ok,QR.bind_ok,aX3 x.eqs [] _ q p8 rest hx.eqs hq (by simp at hn;omega) aC,QR.bind_ok,mH];rfl
theorem aUe{es:List En}(h:cG es=0):∀(l:List Nd)(acc:List Nd)(g:Nat)(ts rest:List Tk),(∀x∈l,NdH f es.length x)->bB (bG f) ((uJ es l).map (·.2)) ts->ts.length<=10000->ts.length<=g->aG lW rest=false->
 wJ es g acc (ts++rest)=.ok (acc++l) rest
 |[],acc,g,ts,rest,_,ht,_,hg,hr=>by
  simp only[uJ,List.flatMap_nil,List.map_nil,bB]at ht;subst ht;rw[Zh,List.append_nil];cases g with
  |zero=>rfl
  |succ g=>rw[wJ,hr,if_neg aC]
 |x::l,acc,g,ts,rest,hx,ht,hn,hg,hr=>by
  simp only[uJ,List.flatMap_cons,Zt]at ht;rw[iA]at ht;obtain⟨a,b,rfl,ha,hb⟩:=ht;rw[Yo]at hn hg;obtain⟨p,r,rfl,h1⟩:=bPz h (hx x aC) ha aA (b++rest);simp only[Yq]at hn hg;cases g with
  |zero=>omega
  |succ g=>
   rw[Yy,Yx,wJ,sD,if_pos aC];simp only[Xn];rw[h1,QR.bind_ok,aUe h l (acc++[x]) g b rest (fun y hy=>hx y aFv) hb aA aA hr];simp
theorem bP0{e:En}(h:EnF e)(h1:e.2≠[]){ts:List Tk}(ht:bB (bG f) ((aDj e).map (·.2)) ts)(rest:List Tk):∃p r,ts=⟨1,lH,0,p⟩::r/\lI (r++rest)=.ok e rest:=by
 unfold aDj at ht;simp only[Xl,Zt,eW,bE,fI,fH,aL,bB]at ht;obtain⟨p,r,rfl,p1,r1,rfl,p2,r2,rfl,ht⟩:=ht;refine⟨p,_,rfl,?_⟩;rw[iA]at ht;obtain⟨a,b,rfl,ha,hb⟩:=ht;simp only[List.map_nil,qA,bB]at hb;obtain⟨p3,b1,rfl,p4,b2,rfl,rfl⟩:=hb;have e0:(⟨1,e.1.data.toList,0,p1⟩::⟨5,[123],0,p2⟩::(a++[⟨5,[125],0,p3⟩,⟨5,[59],0,p4⟩]):List Tk)++rest=⟨1,e.1.data.toList,0,p1⟩::⟨5,[123],0,p2⟩::(a++⟨5,[125],0,p3⟩::⟨5,[59],0,p4⟩::rest):=aC;rw[e0];obtain⟨s,q,g1,g2⟩:=bMz (rest:=⟨5,[125],0,p3⟩::⟨5,[59],0,p4⟩::rest) h1 h.cs ha (by rw[oS];decide);unfold lI;rw[tF h.low,PR.bind_ok,kL,PR.bind_ok,g1,PR.bind_ok,g2 _ (Yh _),PR.bind_ok,kL,PR.bind_ok,kL,PR.bind_ok,mH]
theorem aUf:∀(l:List En)(acc:List En)(g:Nat)(ts rest:List Tk),(∀e∈l,EnF e/\e.2≠[])->bB (bG f) ((yB l).map (·.2)) ts->ts.length<=g->aG lH rest=false->qM g acc (ts++rest)=.ok (acc++l) rest
 |[],acc,g,ts,rest,_,ht,hg,hr=>by
  simp only[yB,List.flatMap_nil,List.map_nil,bB]at ht;subst ht;rw[Zh,List.append_nil];cases g with
  |zero=>rfl
  |succ g=>rw[qM,hr,if_neg aC]
 |e::l,acc,g,ts,rest,he,ht,hg,hr=>by
  simp only[yB,List.flatMap_cons,Zt]at ht;rw[iA]at ht;obtain⟨a,b,rfl,ha,hb⟩:=ht;rw[Yo]at hg;obtain⟨p,r,rfl,h1⟩:=bP0 (he e aC).1 (he e aC).2 ha (b++rest);simp only[Yq]at hg;cases g with
  |zero=>omega
  |succ g=>
   rw[Yy,Yx,qM,sD,if_pos aC];simp only[Xn];rw[h1,PR.q_ok,QR.bind_ok,aUf l (acc++[e]) g b rest (fun y hy=>he y aFv) hb aA hr];simp
end
structure PgH (f:Nat)(p:Pg):Prop where
 g:PgG f p
 ns:∀x∈p.ns,NdH f p.es.length x
 ns1:p.ns≠[]
section
variable {f:Nat}
theorem bJ1{T:Ex->List Tk->Prop}{es:List En}{l:List Nd}(hl:l≠[]){ts:List Tk}(ht:bB T ((uJ es l).map (·.2)) ts)(rest:List Tk):aG lH (ts++rest)=false:=by
 match l,hl with
 |x::l,_=>
  simp only[uJ,List.flatMap_cons,aAs,Yx,Xl,eW,bE,bB]at ht;obtain⟨p,r,rfl,_⟩:=ht;rw[Yx,sD];decide
theorem bP1{p:Pg}(h:PgH f p){ts:List Tk}(ht:bB (bG f) ((aAz p).map (·.2)) ts)(hn:ts.length<=10000)(a:Nat):pQ (ts++[⟨6,[],0,a⟩])=.ok p [⟨6,[],0,a⟩]:=by
 unfold aAz at ht;rw[Zt,iA]at ht;obtain⟨u,v,rfl,hu,hv⟩:=ht;rw[Yo]at hn;have h6:aG lW [(⟨6,[],0,a⟩:Tk)]=false:=by simp[aG,lW]
 unfold pQ;rw [Yy,aUf p.es [] _ u (v++[⟨6,[],0,a⟩]) (fun e he=>⟨h.g.es e he,h.g.es1 e he⟩) hu aC (bJ1 h.ns1 hv _),QR.bind_ok,Zh,
  aUe h.g.en p.ns [] _ v [⟨6,[],0,a⟩] h.ns hv aA aC h6,QR.bind_ok,Zh]
 rfl
def aK7(p:Pg):Prop:=∀x∈p.ns,∀q∈x.eqs,∀e∈bP q.x,qX e
theorem bT8{q:Qn}(h:jU bJ q=true)(hn:∀e∈bP q.x,qX e):QnH 60 q:=by
 have hf:=bA4 h;simp only[jU,Yu,decide_eq_true_eq]at h;have hr:=h.1.2;have hs:=hr;simp only[bJ,Yu,Bool.not_eq_true',decide_eq_false_iff_not]at hs;exact⟨⟨hf.ns,hf.x,hn,by omega⟩,fun e=>by rw[e]at h;simp at h,hr⟩
theorem bM0{n:Nat}{x:Nd}(h:jQ n bK bJ x=true)(hn:∀q∈x.eqs,∀e∈bP q.x,qX e):NdH 60 n x:=by
 have hf:=bA5 h;simp only[jQ,Yu,decide_eq_true_eq,Zj]at h;have hq:∀q∈x.eqs,QnH 60 q:=fun q hq=>bT8 (h.1.1.2 q hq) (hn q hq);exact⟨⟨hf.low,hf.ins,hf.outs,fun e=>by rw[e]at h;simp at h,hf.vars,fun q Aa=>(hq q Aa).g⟩,hq⟩
theorem bM1{es:List En}(h:cG es=0):∀e∈es,e.2≠[]:=by
 have h1:lA es=true:=by
  exact bD1
 unfold lA at h1;rw[Yu,Zj]at h1;intro e he hc;have h2:=h1.1 e he;simp[zA,hc]at h2
theorem bKy{p:Pg}(h:eM p=0):∀x∈p.ns,jQ p.es.length bK bJ x=true:=by
 unfold eM at h;split at h
 . split at h;· cases h
   . split at h;· cases h
     . split at h;· cases h
       . split at h
         . rename_i hr;exact fun x hx=>Zj.1 hr x hx
         . cases h
 . rename_i he;exact absurd h he
theorem cA5{p:Pg}(h:eM p=0)(hn:aK7 p):PgH 60 p:=by
 obtain⟨h1,h2,_⟩:=bKm h;have hd:∀x∈p.ns,NdH 60 p.es.length x:=fun x hx=>bM0 (bKy h x hx) (hn x hx);exact⟨⟨h1,cAj h1,bM1 h1,fun x hx=>(hd x hx).g⟩,hd,fun e=>by rw[e]at h2;simp at h2⟩
theorem bP2{p:Pg}(h:eM p=0)(hn:aK7 p):∃ts,cK 0 (jF p)=(ts,none)/\(ts.length<=10000->∀a,pQ (ts++[⟨6,[],0,a⟩])=.ok p [⟨6,[],0,a⟩]):=by
 have hp:=cA5 h hn;obtain⟨ts,h1,h2⟩:=bT5 hp.g;refine⟨ts,?_,fun hl a=>bP1 hp h2 hl a⟩;unfold jF;rw[if_pos h];exact h1
end
theorem aZ0(a:Nat)(l:LU):(cK a l).1.length<=l.length:=by
 refine aE8 (P:=fun a l=>(cK a l).1.length<=l.length) ?_ ?_ ?_ ?_ l.length a l (Yh _)
 . intro a;rw[aB6];exact Yh _
 . intro a l h hb ih;rw[zO hb];simp only[Zv]at ih;omega
 . intro a l h hb ht;rw[aIm h hb ht];exact Ys _
 . intro a l t z h hb ht ih;have hz:=xW ht;have h1:=hz.1;have h2:=hz.2.1;rw[aB7 hb ht];simp only[Yq];simp only[Zv]at ih;omega
def aA0:List Tk->Int
 |t::_=>t.a
 |[]=>0
def vA:Pg:=⟨[],[]⟩
def sJ(s:BA):List Tk:=(cK 0 s.data.toList).1++[⟨6,[],0,s.size⟩]
def sK(s:BA):Pg × Int × Int:=
 if 6000<s.size then(vA,6000,3)
 else match (cK 0 s.data.toList).2 with
  |some p=>(vA,(p:Int),2)
  |none=>match pQ (sJ s)with
   |.bad r e=>(vA,aA0 r,e)
   |.ok p _=>if eM p=0 then(p,(s.size:Int),0)else(vA,(s.size:Int),eM p)
theorem aV3(s:BA):s.data.toList.length=s.size:=by rw[Array.length_toList];rfl
theorem bP3{s:BA}:(sJ s).length<=s.size+1:=by
 have h:=aZ0 0 s.data.toList;rw[aV3]at h;unfold sJ;rw[Yo,List.length_singleton];exact Nat.succ_le_succ h
theorem bP4{p:Pg}(h:eM p=0)(hn:aK7 p)(hl:(jF p).length<=6000):sK (aB (jF p))=(p,((jF p).length:Int),0):=by
 obtain⟨ts,h1,h2⟩:=bP2 h hn;have hs:(aB (jF p)).size=(jF p).length:=by simp[aB,ByteArray.size]
 have hd:(aB (jF p)).data.toList=jF p:=aDu;have hc:=aZ0 0 (jF p);rw[h1]at hc;unfold sK sJ;rw[hs,hd,if_neg aA,h1];simp only;rw[h2 (by simp only at hc;omega)];simp only[h,if_true]
def QE{α:Type}(x:QR α):Prop:=∀r e,x=.bad r e->e=1\/e=2\/e=3
theorem QE.ok{α:Type}(a:α)(r:List Tk):QE (QR.ok a r):=fun r e h=>by cases h
theorem QE.bad2{α:Type}(r:List Tk):QE (QR.bad r 2:QR α):=fun r e h=>by
 injection h with _ h;exact .inr (.inl h.symm)
theorem QE.q{α:Type}(x:PR α):QE x.q:=by
 cases x with
 |ok a r=>exact QE.ok a r
 |bad r=>exact QE.bad2 r
theorem QE.bind{α β:Type}{x:QR α}{f:α->List Tk->QR β}(h:QE x)(g:∀a r,QE (f a r)):QE (x.bind f):=by
 cases x with
 |ok a r=>exact g a r
 |bad r e=>
  intro r' e' h';injection h' with h1 h2;exact h r e' (by rw[h2])
theorem aZ1(r:List Tk):QE (qT r):=by
 unfold qT;split;· exact QE.bad2 _
 . split
   . intro r e h;injection h with _ h;exact .inr (.inr h.symm)
   . split
     . intro r e h;injection h with _ h;exact .inl h.symm
     . exact QE.ok _ _
theorem cCz(r:List Tk):QE (nA r):=by
 unfold nA;exact(QE.q _).bind fun _ _=>(QE.q _).bind fun _ _=>(QE.q _).bind fun _ _=>(aZ1 _).bind fun _ _=>(QE.q _).bind fun _ _=>QE.ok _ _
theorem bBd:∀(g:Nat)(acc:List Qn)(r:List Tk),QE (rE g acc r)
 |0,acc,r=>QE.ok _ _
 |g+1,acc,r=>by
  rw[rE];split;· exact QE.ok _ _
  . exact(cCz r).bind fun _ _=>bBd g _ _
theorem bXt(es:List En)(r:List Tk):QE (mV es r):=by
 unfold mV;exact(QE.q _).bind fun _ _=>(QE.q _).bind fun _ _=>(QE.q _).bind fun _ _=>(QE.q _).bind fun _ _=>(QE.q _).bind fun _ _=>(QE.q _).bind fun _ _=>(QE.q _).bind fun _ _=>(QE.q _).bind fun _ _=>(QE.q _).bind fun _ _=>(bBd _ _ _).bind fun _ _=>QE.ok _ _
theorem aX4:∀(g:Nat)(acc:List En)(r:List Tk),QE (qM g acc r)
 |0,acc,r=>QE.ok _ _
 |g+1,acc,r=>by
  rw[qM];split;· exact(QE.q _).bind fun _ _=>aX4 g _ _
  . exact QE.ok _ _
theorem aX5(es:List En):∀(g:Nat)(acc:List Nd)(r:List Tk),QE (wJ es g acc r)
 |0,acc,r=>QE.ok _ _
 |g+1,acc,r=>by
  rw[wJ];split;· exact(bXt es _).bind fun _ _=>aX5 es g _ _
  . exact QE.ok _ _
theorem bXu(r:List Tk):QE (pQ r):=by
 unfold pQ;refine(aX4 _ _ _).bind fun es r=>(aX5 es _ _ _).bind fun ns r=>?_;split;· exact QE.ok _ _
 . exact QE.bad2 _
theorem bT9{s:BA}{p:Pg}{n:Int}(h:sK s=(p,n,0)):eM p=0/\n=s.size/\s.size<=6000:=by
 unfold sK at h;split at h;· simp at h
 . split at h;· simp at h
   . split at h
     . rename_i r e hb;have h1:=bXu _ _ _ hb;simp only[Prod.mk.injEq]at h;omega
     . split at h
       . rename_i hc;simp only[Prod.mk.injEq]at h;obtain⟨rfl,rfl,_⟩:=h;exact⟨hc,rfl,by omega⟩
       . exact bEq
theorem lD{l:LU}{a z b:Nat}{t:Tk}{r:List Tk}(h1:dJ (l.drop a)=0)(h2:gV (l.drop a)=some (t,z))(hb:b=a+z)(e:cK b (l.drop b)=(r,none)):cK a (l.drop a)=(⟨t.k,t.s,t.n,a⟩::r,none):=by
 rw[aB7 h1 h2,List.drop_drop,<-hb,e]
theorem uQ{l:LU}{a b:Nat}{r:List Tk}(h1:dJ (l.drop a)=1)(hb:b=a+1)(e:cK b (l.drop b)=(r,none)):cK a (l.drop a)=(r,none):=by
 rw[zO (by rw[h1];decide),h1,List.drop_drop,<-hb,e]
def fF:List UInt8:=[110,111,100,101,32,102,40,97,58,32,105,110,116,41,32,114,101,116,117,114,110,115,32,40,98,58,32,105,110,116,41,32,108,101,116,32,98,32,61,32,97,59,32,116,101,108]
def aGb:ByteArray:=⟨#[110,111,100,101,32,102,40,97,58,32,105,110,116,41,32,114,101,116,117,114,110,115,32,40,98,58,32,105,110,116,41,32,108,101,116,32,98,32,61,32,97,59,32,116,101,108]⟩
def bFh:List Tk:=[⟨1,[110,111,100,101],0,0⟩,⟨1,[102],0,5⟩,⟨5,[40],0,6⟩,⟨1,[97],0,7⟩,⟨5,[58],0,8⟩,⟨1,[105,110,116],0,10⟩,⟨5,[41],0,13⟩,⟨1,[114,101,116,117,114,110,115],0,15⟩,⟨5,[40],0,23⟩,⟨1,[98],0,24⟩,⟨5,[58],0,25⟩,⟨1,[105,110,116],0,27⟩,⟨5,[41],0,30⟩,⟨1,[108,101,116],0,32⟩,⟨1,[98],0,36⟩,⟨5,[61],0,38⟩,⟨1,[97],0,40⟩,⟨5,[59],0,41⟩,⟨1,[116,101,108],0,43⟩]
theorem bUa:cK 0 fF=(bFh,none):=by
 have Nl:cK 46 (fF.drop 46)=([],none):=aB6 46;have Nr:=lD (l:=fF) (a:=43) (z:=3) (t:=⟨1,[116,101,108],0,0⟩) aE aE rfl Nl;have Aa:=uQ (l:=fF) (a:=42) aE rfl Nr;have Ni:=lD (l:=fF) (a:=41) (z:=1) (t:=⟨5,[59],0,0⟩) aE aE rfl Aa;have Nh:=lD (l:=fF) (a:=40) (z:=1) (t:=⟨1,[97],0,0⟩) aE aE rfl Ni;have Ct:=uQ (l:=fF) (a:=39) aE rfl Nh;have Nq:=lD (l:=fF) (a:=38) (z:=1) (t:=⟨5,[61],0,0⟩) aE aE rfl Ct;have Nk:=uQ (l:=fF) (a:=37) aE rfl Nq;have Fs:=lD (l:=fF) (a:=36) (z:=1) (t:=⟨1,[98],0,0⟩) aE aE rfl Nk;have Jx:=uQ (l:=fF) (a:=35) aE rfl Fs;have Nn:=lD (l:=fF) (a:=32) (z:=3) (t:=⟨1,[108,101,116],0,0⟩) aE aE rfl Jx;have Ae:=uQ (l:=fF) (a:=31) aE rfl Nn;have Ns:=lD (l:=fF) (a:=30) (z:=1) (t:=⟨5,[41],0,0⟩) aE aE rfl Ae;have No:=lD (l:=fF) (a:=27) (z:=3) (t:=⟨1,[105,110,116],0,0⟩) aE aE rfl Ns;have Nj:=uQ (l:=fF) (a:=26) aE rfl No;have Np:=lD (l:=fF) (a:=25) (z:=1) (t:=⟨5,[58],0,0⟩) aE aE rfl Nj;have Aq:=lD (l:=fF) (a:=24) (z:=1) (t:=⟨1,[98],0,0⟩) aE aE rfl Np;have Nm:=lD (l:=fF) (a:=23) (z:=1) (t:=⟨5,[40],0,0⟩) aE aE rfl Aq;have Hb:=uQ (l:=fF) (a:=22) aE rfl Nm;have Ha:=lD (l:=fF) (a:=15) (z:=7) (t:=⟨1,[114,101,116,117,114,110,115],0,0⟩) aE aE rfl Hb;have Bs:=uQ (l:=fF) (a:=14) aE rfl Ha;have Hc:=lD (l:=fF) (a:=13) (z:=1) (t:=⟨5,[41],0,0⟩) aE aE rfl Bs;have Ng:=lD (l:=fF) (a:=10) (z:=3) (t:=⟨1,[105,110,116],0,0⟩) aE aE rfl Hc;have e9:=uQ (l:=fF) (a:=9) aE rfl Ng;have e8:=lD (l:=fF) (a:=8) (z:=1) (t:=⟨5,[58],0,0⟩) aE aE rfl e9;have e7:=lD (l:=fF) (a:=7) (z:=1) (t:=⟨1,[97],0,0⟩) aE aE rfl e8;have e6:=lD (l:=fF) (a:=6) (z:=1) (t:=⟨5,[40],0,0⟩) aE aE rfl e7;have e5:=lD (l:=fF) (a:=5) (z:=1) (t:=⟨1,[102],0,0⟩) aE aE rfl e6;have e4:=uQ (l:=fF) (a:=4) aE rfl e5;have e0:=lD (l:=fF) (a:=0) (z:=4) (t:=⟨1,[110,111,100,101],0,0⟩) aE aE rfl e4;exact e0
def aKf:Ex:=.mk 3 0 ⟨#[97]⟩ 0 [] []
def cC0:Dc:=⟨⟨#[97]⟩,1,0,0,⟨#[]⟩,⟨#[]⟩⟩
def cC1:Dc:=⟨⟨#[98]⟩,1,0,0,⟨#[]⟩,⟨#[]⟩⟩
def aQr:Qn:=⟨[⟨#[98]⟩],aKf⟩
def aGc:Nd:=⟨⟨#[102]⟩,[cC0],[cC1],[],[aQr]⟩
def pA:Pg:=⟨[],[aGc]⟩
theorem bP5:pQ (bFh++[⟨6,[],0,46⟩])=.ok pA [⟨6,[],0,46⟩]:=aE
theorem bKz:eM pA=0:=aE
theorem bM2:sK aGb=(pA,46,0):=by
 have h1:aGb.data.toList=fF:=rfl;have h2:aGb.size=46:=rfl;unfold sK sJ;rw[h1,bUa,h2,if_neg aF];simp only;rw[bP5];simp only[bKz,if_true];rfl
end Go.Proofs.YtagkcjpoipcpkaaGreatDoor
