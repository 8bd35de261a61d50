/- A part of the proof. Conditions: each theorem's own. -/
import Derived.Test.YtagkcjpoipcpkaaGreatDoorF25
import Derived.Test.YtagkcjpoipcpkaaGreatDoorF26
namespace Go.Proofs.YtagkcjpoipcpkaaGreatDoor
set_option linter.unusedVariables false
set_option linter.unusedSimpArgs false
set_option maxRecDepth 100000
set_option maxHeartbeats 40000000
section
open Go.RowKit Go.Sort
abbrev bN (K:Nat)(cap:AV):Value:=.func (.func K) #[] cap
def aQu(v:Value)(w:World)(Q:Ending->World->Prop):Prop:=∃K a c,v=.func (.func K) a c/\(∀(args:AV)(w:World),(callFunc K args).run Tryz.prog w=.ok (.enter K args) w)/\Calls Tryz.prog K (a++c) w Q
theorem nJ{K:Nat}{cap:AV}{w:World}{Q:Ending->World->Prop}(h:Calls Tryz.prog K cap w Q)(hK:∀(args:AV)(w:World),(callFunc K args).run Tryz.prog w=.ok (.enter K args) w:=by intro args w;rfl):aQu (bN K cap) w Q:=⟨K,#[],cap,rfl,hK,by rw[show(#[]++cap:AV)=cap by simp];exact h⟩
section
variable {τ:Type}{G:GQ}{I:Bool->τ->World->Prop}{w w':World}{r r':List Tk}{N:Nat}
def jG(G:GQ)(I:Bool->τ->World->Prop)(N:Nat)(o:QR τ)(e:Ending)(w':World):Prop:=match o with
 |.ok t r=>e=.returned .nilIface/\G.St w' r/\r.length<=N/\I true t w'
 |.bad r z=>e=.returned (iX r z)/\(∃r',G.St w' r'/\r'.length<=N)/\∃t,I false t w'
def iS(G:GQ)(I:Bool->τ->World->Prop)(f:Value)(F:τ->List Tk->QR τ):Prop:=∀t r w,G.St w r->I true t w->aQu f w (jG G I r.length (F t r))
structure jV (G:GQ)(I:Bool->τ->World->Prop):Prop where
 st:∀t w w' r r',G.St w r->I true t w->At G w r' w'->r'.length<=r.length->I true t w'
 weak:∀t w,I true t w->I false t w
 fb:∀t w w' r,G.St w r->I false t w->Below w.heap.size w w'->I false t w'
def Hs(I:Bool->τ->World->Prop)(p:Nat)(v:Value):Prop:=∀t w,I true t w->w.cell? ⟨p,0,none⟩=some v
def yE(G:GQ)(I:Bool->τ->World->Prop):List Value->List (τ->List Tk->QR τ)->Prop
 |[],[]=>True
 |f::fs,F::Fs=>iS G I f F/\yE G I fs Fs
 |_,_=>False
theorem yE.snoc{f:Value}{F:τ->List Tk->QR τ}:∀{fs:LV}{Fs:List (τ->List Tk->QR τ)},yE G I fs Fs->iS G I f F->yE G I (fs++[f]) (Fs++[F])
 |[],[],_,h=>⟨h,trivial⟩
 |f::fs,F::Fs,⟨h1,h2⟩,h=>⟨h1,h2.snoc h⟩
 |[],F::Fs,h,_=>h.elim
 |f::fs,[],h,_=>h.elim
theorem GQ.St.suf(h:G.St w r):r <:+G.all:=by
 rw[<-h.pre];exact List.drop_suffix _ _
theorem GQ.St.tkg(h:G.St w r)(ha:TkG G.all):TkG r:=ha.suf h.suf h.fin
def sY(G:GQ)(w:World):Nat:=match w.cell? ⟨G.b,1,none⟩with
 |some (.int _ i)=>G.n-i.toNat
 |_=>0
theorem GQ.St.lft_(h:G.St w r):sY G w=r.length:=by
 have h1:=h.cell 1;simp only[zC,List.getElem?_toArray,Ze,Zd]at h1;unfold sY;rw[h1]
 have:=h.len
 show G.n-((G.n-r.length:Nat):Int).toNat=r.length;omega
theorem jV.below(o:jV G I){t:τ}(h:G.St w r)(hi:I true t w)(hb:Below w.heap.size w w'):I true t w':=o.st t w w' r r h hi (At.below h hb) (Yh _)
theorem aNh(fs:LV)(Fs:List (τ->List Tk->QR τ))(sb c:Nat)(hl:fs.length<=1000)(hc:∀t w,I true t w->∀j f,fs[j]?=some f->w.cell? ⟨sb,j,none⟩=some f)(hr:yE G I fs Fs){t:τ}(h:G.St w r)(hi:I true t w):
 Calls Tryz.prog 41 #[.slice (some ⟨sb,0,none⟩) fs.length c] w (jG G I r.length (eV Fs t r)):=by
 have HC:=Hd hc;have HR:=Hd hr;have HH:=Hd h;have HI:=Hd hi;generalize ho:eV Fs t r=o;have HO:=Hd ho;have Nn:=Hd (Yh r.length);generalize Ip:r.length=rn at *;have Np:=Hd Ip;clear hc hr h hi ho Ip;generalize hn:fs.length=n at *;have HN:=Hd hn;clear hn;go_in
 go_wp2_with fail;go_loopw [4,5,8] (fun _ _ i wr=>∃(k:Nat)(t:τ)(r:List Tk)(Jx:LV)(Nk:List (τ->List Tk->QR τ)),k<=n/\i=.int .i64 k/\fs.drop k=Jx/\yE G I Jx Nk/\G.St wr r/\r.length<=rn/\I true t wr/\eV Nk t r=o) (fun _ _ i _=>n-(intOf i).toNat)
 case atStart=>exact⟨0,t,r,fs,Fs,Ys _,rfl,rfl,HR.o,HH.o,by rw[Np.o];exact Nn.o,HI.o,HO.o⟩
 case round=>
  obtain⟨k,t1,r1,No,Ni,hk,rfl,hd,Al,h1,Ae,Aq,Hc⟩:=hrel;have H1:=Hd h1;have Kq:=Hd Aq;have Nh:=Hd Hc;have Ic:=Hd Ae;clear Ae;cases No with
  |nil=>
   have Kl:k=n:=by
    have:=List.drop_eq_nil_iff.1 hd
    have:=HN.o
    omega
   cases Ni with
   |cons F Ct=>exact Al.elim
   |nil=>
    clear hd h1 Aq Hc;go_wp2_with fail;go_ret;rw[<-Nh.o];exact⟨rfl,H1.o,Ic.o,Kq.o⟩
  |cons f Ng=>
   have Ah:k<n:=by
    have:=congrArg List.length hd
    simp only[Zv,Yq]at this
    have:=HN.o
    omega
   cases Ni with
   |nil=>exact Al.elim
   |cons F Ct=>
    have Nj:fs[k]?=some f:=by
     have h2:=congrArg (fun l=>l[0]?) hd;simpa using h2
    have d0:=HC.o t1 wr Aq k f Nj;obtain⟨K,a,c',rfl,hK,Nl⟩:=Al.1 t1 r1 wr h1 Aq;have Bq:=Hd Nl;have Cn:=Hd Al.2;have Nm:=Hd (show fs.drop (k+1)=Ng by
     have h2:=congrArg List.tail hd;simpa using h2)
    clear hd h1 Aq Hc Al Nl Nj;go_wp2_with fail;refine Bq.o.mono ?_;intro e w2 hE;have HS:=Hd (show(F t1 r1).bind (fun t r=>eV Ct t r)=o from Nh.o);generalize F t1 r1=x at *;cases x with
    |ok t2 r2=>
     obtain⟨rfl,h2,Bs,Aa⟩:=hE;have H2:=Hd h2;have Ha:=Hd Aa;have Hb:=Hd (Yr Bs Ic.o);clear h2 Aa Bs;go_wp2_with fail;go_roundw;case rel=>exact⟨k+1,t2,r2,Ng,Ct,by omega,by go_num,Nm.o,Cn.o,H2.o,Hb.o,Ha.o,HS.o⟩
     case measure=>simp[intOf];omega
    |bad r2 z=>
     obtain⟨rfl,⟨r3,h2,Bs⟩,Aa⟩:=hE;have H2:=Hd h2;have Ha:=Hd Aa;have Hb:=Hd (Yr Bs Ic.o);clear h2 Aa Bs;unfold iX;go_wp2_with fail;go_ret;rw[<-HS.o];exact⟨rfl,⟨r3,H2.o,Hb.o⟩,Ha.o⟩
end
end
section
open Go.RowKit Go.Sort
section
variable {τ:Type}{G:GQ}{I:Bool->τ->World->Prop}{w w':World}{r r':List Tk}{N:Nat}
def AtX{α:Type}(x:PR α)(V:α->Value->Prop)(B:Value->Value->Prop)(v:Value)(r1:List Tk):Prop:=match x with
 |.ok a r=>r1=r/\V a v
 |.bad q=>r1=q/\B (iX q 2) v
theorem sX.get{α:Type}{x:PR α}{V:α->Value->Prop}{B:Value->Value->Prop}{e:Ending}(h:sX G w x V B e w'):∃v r1,e=.returned v/\At G w r1 w'/\AtX x V B v r1:=by
 cases x with
 |ok a r=>obtain⟨⟨v,h1,h2⟩,h3⟩:=h;exact⟨v,r,h1,h3,rfl,h2⟩
 |bad q=>obtain⟨⟨v,h1,h2⟩,h3⟩:=h;exact⟨v,q,h1,h3,rfl,h2⟩
theorem Sf.len{α:Type}{x:PR α}(h:Sf r x):match x with
 |.ok _ q=>q.length<=r.length
 |.bad q=>q.length<=r.length:=by
 cases x with
 |ok a q=>exact h.length_le
 |bad q=>exact h.length_le
structure bBm {α:Type}(G:GQ)(I:Bool->τ->World->Prop)(t:τ)(r:List Tk)(x:PR α)(V:α->Value->Prop)(B:Value->Value->Prop)(v:Value)(r1:List Tk)(w':World):Prop where
 st:G.St w' r1
 le:r1.length<=r.length
 hi:I true t w'
 x:AtX x V B v r1
theorem sX.after{α:Type}{x:PR α}{V:α->Value->Prop}{B:Value->Value->Prop}{e:Ending}{w1:World}{t:τ}(o:jV G I)(hs:G.St w r)(hi:I true t w)(hx:Sf r x)(h:sX G w x V B e w'):∃v r1,e=.returned v/\bBm G I t r x V B v r1 w':=by
 obtain⟨v,r1,he,ha,hm⟩:=h.get;clear h;have hl:=hx.len;cases x with
 |ok a q=>
  exact bD3
 |bad q=>
  exact bD3
theorem aV8(ok:G.Ok)(o:jV G I)(s:BA)(p0 p1:Nat)(h0:Hs I p0 (aH G.b))(h1:Hs I p1 (.string s)):iS G I (bN 143 #[aH p0,aH p1]) (dN s.data.toList):=by
 intro t r w h hi;refine nJ ?_;have HT:=Hd fun w1 (b:Below w.heap.size w w1)=>(bBj s ok (h.below b)).mono fun e w' hx=>sX.after (w1:=w1) o (h.below b) (o.below h hi b) (sf_need s.data.toList r) hx;have H0:=Hd h0;have H1:=Hd h1;have OW:=Hd o.weak;have d0:=h0 t w hi;have d1:=h1 t w hi;unfold dN;clear h hi h0 h1 ok o;generalize aR s.data.toList r=x at *;go_in
 go_upto_region 1 with(fail);go_region_held3 (fun W=>W.cell? ⟨p0,0,none⟩=some (aH G.b)/\W.cell? ⟨p1,0,none⟩=some (.string s)) (first|exact⟨d0,d1⟩|exact⟨z0,z1⟩)
  ((go_at_call 144;refine(HT.o _ (eP (Yg _ _) _)).mono ?_;rintro e w1 ⟨v,r1,rfl,ha⟩;have HA:=Hd ha;have z0:=H0.o _ _ ha.hi;have z1:=H1.o _ _ ha.hi;clear ha))
 go_wp2_with fail;go_ret;have hx:=HA.o.x;cases x with
 |ok a q=>
  obtain⟨rfl,rfl⟩:=hx;exact⟨rfl,HA.o.st,HA.o.le,HA.o.hi⟩
 |bad q=>
  obtain⟨rfl,rfl⟩:=hx;exact⟨rfl,⟨_,HA.o.st,HA.o.le⟩,t,OW.o _ _ HA.o.hi⟩
end
end
section
open Go.RowKit Go.Sort
section
variable {τ:Type}{G:GQ}{I:Bool->τ->World->Prop}{w w':World}{r r':List Tk}{N:Nat}
theorem aZ9(z:Int)(r:List Tk):Sf r (iR z r):=by
 unfold iR;exact aJs
def eB{α:Type}(p:List Tk->PR α)(up:α->τ->τ)(t:τ)(r:List Tk):QR τ:=(p r).q.bind fun a r=>.ok (up a t) r
def bIm(I:Bool->τ->World->Prop)(D j:Nat)(up:ByteArray->τ->τ):Prop:=∀t w s,I true t w->(∃Aa,w.cell? ⟨D,j,none⟩=some Aa)/\w.frozen? ⟨D,j,none⟩=false/\I true (up s t) (w.setCell ⟨D,j,none⟩ (.string s))
theorem bUi(ok:G.Ok)(o:jV G I)(D j:Nat)(hD:D≠G.b/\G.W.heap.size<=D)(up:ByteArray->τ->τ)(hw:bIm I D j up)(p0 p1:Nat)(h0:Hs I p0 (aH G.b))(h1:Hs I p1 (.pointer (some ⟨D,j,none⟩))):
 iS G I (bN 145 #[aH p0,aH p1]) (eB bT fun s t=>up (aB s) t):=by
 intro t r w h hi;refine nJ ?_;have HT:=Hd fun w1 (b:Below w.heap.size w w1)=>(bBk 1 aF ok (h.below b)).mono fun e w' hx=>sX.after (w1:=w1) o (h.below b) (o.below h hi b) (aZ9 1 r) hx;rw[aV5]at HT;have H0:=Hd h0;have H1:=Hd h1;have HD:=Hd hD;have HW:=Hd hw;have OI:=Hd o;have d0:=h0 t w hi;have d1:=h1 t w hi;unfold eB;clear h hi h0 h1 ok o hw hD;generalize bT r=x at *;cases x with
 |ok a q=>
  go_in
  go_upto_region 1 with(fail);go_region_held3 (fun W=>W.cell? ⟨p0,0,none⟩=some (aH G.b)/\W.cell? ⟨p1,0,none⟩=some (.pointer (some ⟨D,j,none⟩))) (first|exact⟨d0,d1⟩|exact⟨z0,z1⟩|exact⟨y0,y1⟩)
   ((go_at_call 146;refine(HT.o _ (eP (Yg _ _) _)).mono ?_;rintro e w1 ⟨v,r1,rfl,ha⟩;obtain⟨Gh,rfl⟩:=ha.x;have Aa:=Hd Gh;clear Gh;have HA:=Hd ha;have z0:=H0.o _ _ ha.hi;have z1:=H1.o _ _ ha.hi;obtain⟨⟨Ae,s0⟩,s1,s2⟩:=HW.o t w1 (aB a) ha.hi;have Fl:=Hd s2;have y0:=H0.o _ _ s2;have y1:=H1.o _ _ s2;clear ha s2))
  go_wp2_with fail;go_ret;obtain rfl:=Aa.o;exact⟨rfl,HA.o.st.setCell HD.o.1 HD.o.2,HA.o.le,Fl.o⟩
 |bad q=>
  go_in
  go_upto_region 1 with(fail);go_region_held3 (fun W=>W.cell? ⟨p0,0,none⟩=some (aH G.b)/\W.cell? ⟨p1,0,none⟩=some (.pointer (some ⟨D,j,none⟩))) (first|exact⟨d0,d1⟩|exact⟨z0,z1⟩|exact⟨y0,y1⟩)
   ((go_at_call 146;refine(HT.o _ (eP (Yg _ _) _)).mono ?_;rintro e w1 ⟨v,r1,rfl,ha⟩;obtain⟨Gh,rfl⟩:=ha.x;have Aa:=Hd Gh;clear Gh;have HA:=Hd ha;have z0:=H0.o _ _ ha.hi;have z1:=H1.o _ _ ha.hi;obtain⟨⟨Ae,s0⟩,s1,s2⟩:=HW.o t w1 ⟨#[]⟩ ha.hi;have Fl:=Hd s2;have y0:=H0.o _ _ s2;have y1:=H1.o _ _ s2;clear ha s2))
  go_wp2_with fail;go_ret;obtain rfl:=Aa.o;exact⟨rfl,⟨_,HA.o.st.setCell HD.o.1 HD.o.2,HA.o.le⟩,_,OI.o.weak _ _ Fl.o⟩
def GoV(w:World)(v v':Value):Prop:=v'.ownBlock=v.ownBlock\/∀k,v'.ownBlock=some k->w.heap.size<=k
structure sZ (w:World)(D j:Nat)(v:Value)(w':World)(v':Value):Prop where
 os:w'.os=w.os
 tape:w'.tape=w.tape
 output:w'.output=w.output
 size:w.heap.size<=w'.heap.size
 row:∀cs T,w.heap[D]?=some (.cells cs T)->w'.heap[D]?=some (.cells (cs.setIfInBounds j v') T)
 block:∀k,k<w.heap.size->k≠D->v.ownBlock≠some k->w'.heap[k]?=w.heap[k]?
 goes:GoV w v v'
end
end
section
open Go.RowKit Go.Sort
theorem nK{w w':World}{base:Nat}{e:TypeId}{size:Nat}{v:Value}{n:Nat}{xs:LV}(h:w.ownsRow base e size v n xs)(hb:∀k,v.ownBlock=some k->w'.heap[k]?=w.heap[k]?):w'.ownsRow base e size v n xs:=by
 exact bCc
theorem cE5{w1 wa w4:World}{D j g cap n:Nat}{v:Value}(hb:Below w1.heap.size w1 wa)(Du:wa.grownBy w4 v.ownBlock)(hD:v.ownBlock≠some D)(Ah:D<w1.heap.size)(Ar:v.ownBlock=some g\/g=wa.heap.size):
 sZ w1 D j v (w4.setCell ⟨D,j,none⟩ (.slice (some ⟨g,0,none⟩) n cap)) (.slice (some ⟨g,0,none⟩) n cap):=by
 have hs:=hb.size;have Aa:w4.heap[D]?=w1.heap[D]?:=(Du.block D aA (fun e=>hD e.symm)).trans (hb.block D Ah);refine⟨Du.os.trans hb.os,Du.tape.trans hb.tape,Du.output.trans hb.output,?_,fun cs T h=>?_,fun k hk hn ho=>?_,?_⟩
 . have:=Du.size
   simp;omega
 . have h4:=Aa.trans h;rw[Xi _ _ _ _ _ _ _ h4,Xh _ _ _ _ _ _ h4]
 . rw[Xb _ _ _ _ hn,Du.block k aA (fun e=>ho e.symm),hb.block k hk]
 . rcases Ar with Ar|Ar;· exact .inl Ar.symm
   . refine .inr fun k hk=>?_;have Cb:g=k:=Option.some.inj hk;omega
section
variable {τ α:Type}{G:GQ}{I:Bool->τ->World->Prop}{w w' w1:World}{r r':List Tk}{N:Nat}
theorem GQ.St.apd{D j:Nat}{v v':Value}(h:G.St w r)(a:sZ w D j v w' v')(hD:D≠G.b/\G.W.heap.size<=D)(hv:v.ownBlock≠some G.b)(hn:∀k,v.ownBlock=some k->G.W.heap.size<=k):G.St w' r:=by
 refine⟨by rw[a.block _ h.lt (Ne.symm hD.1) hv];exact h.row,?_,h.len,h.pre,h.fin⟩;have hs:=h.size;refine⟨a.os.trans h.lo.os,a.tape.trans h.lo.tape,a.output.trans h.lo.output,by rw[fC,fC];exact Yr hs a.size,fun k hk=>?_⟩;have h1:=h.lo.block k hk;by_cases hb:k=G.b
 . subst hb;rw[qQ (k:=0),qQ (k:=0)]at h1⊢
   have:=h.lt
   rw[if_pos (Yt this a.size)];rw[if_pos this]at h1;exact h1
 . rw[dH hb,dH hb]at h1⊢;rw[a.block k aA aA (fun e=>by have:=hn k e;omega)];exact h1
def vM(G:GQ)(I:Bool->τ->World->Prop)(D j M:Nat)(P:Nat->Prop)(e:TypeId)(size:Nat)(Nw:α->World->World->List Value->Prop)(up:α->τ->τ):Prop:=∀t w w1 r r1,G.St w r->I true t w->At G w r1 w1->r1.length<=r.length->
 ∃v n xs,w1.cell? ⟨D,j,none⟩=some v/\w1.frozen? ⟨D,j,none⟩=false/\w1.ownsRow M e size v n xs/\n<=1000000/\M<=w1.heap.size/\(∀k,P k->v.ownBlock≠some k)/\
  ∀a cs w' v',Nw a w w1 cs->sZ w1 D j v w' v'->w'.ownsRow M e size v' (n+1) (xs++cs)->I false (up a t) w'/\(r1.length<r.length->I true (up a t) w')
theorem gP{w:World}{B:Nat}{e:TypeId}{size:Nat}{v:Value}{n:Nat}{xs:LV}(h:w.ownsRow B e size v n xs):∀k,v.ownBlock=some k->B<=k:=by
 intro k hk;rcases h.2 with⟨rfl,_⟩|⟨g,cap,cur,rfl,hg,_⟩;· cases hk
 . have Cb:g=k:=Option.some.inj hk;omega
structure Far (G:GQ)(D M:Nat):Prop where
 nb:D≠G.b
 ge:G.W.heap.size<=D
 lt:D<M
 bl:G.b<M
 ws:G.W.heap.size<=M
theorem xP{w1 wa w4:World}{p j:Nat}{v u:Value}(hb:Below w1.heap.size w1 wa)(Du:wa.grownBy w4 v.ownBlock)(ho:v.ownBlock≠some p)(hc:w1.cell? ⟨p,j,none⟩=some u):w4.cell? ⟨p,j,none⟩=some u:=by
 have Ah:p<w1.heap.size:=Yi _ _ hc;have e:=(Du.block p (Yt Ah hb.size) (fun e=>ho e.symm)).trans (hb.block p Ah);unfold World.cell? at hc⊢;rw[e];exact hc
theorem aFq{w1 wa w4:World}{p j:Nat}{v u:Value}(hb:Below w1.heap.size w1 wa)(Du:wa.grownBy w4 v.ownBlock)(ho:v.ownBlock≠some p)(hc:w1.cell? ⟨p,j,none⟩=some u)(hf:w1.frozen? ⟨p,j,none⟩=false):w4.frozen? ⟨p,j,none⟩=false:=by
 have Ah:p<w1.heap.size:=Yi _ _ hc;have e:=(Du.block p (Yt Ah hb.size) (fun e=>ho e.symm)).trans (hb.block p Ah);unfold World.frozen? at hf⊢;rw[e];exact hf
theorem aX8{w4:World}{D j g n B:Nat}{e:TypeId}{size:Nat}{v':Value}{xs:LV}(h:w4.ownsRow B e size v' n xs)(hg:v'.ownBlock=some g)(Bv:g≠D):(w4.setCell ⟨D,j,none⟩ v').ownsRow B e size v' n xs:=by
 refine nK h fun k hk=>Xb _ _ _ _ ?_;rw[hg]at hk;have Cb:g=k:=Option.some.inj hk;show k≠D;omega
def aRq{α:Type}(x:PR α):List Tk:=match x with
 |.ok _ q=>q
 |.bad q=>q
theorem cE6{wa w4:World}{D j M g cap n:Nat}{e:TypeId}{size:Nat}{v:Value}{xs:LV}(Aa:Far G D M)(h:G.St w1 r)(hb:Below w1.heap.size w1 wa)(Du:wa.grownBy w4 v.ownBlock)(ho:∀k,v.ownBlock=some k->M<=k)(hM:M<=w1.heap.size)
 (Ar:v.ownBlock=some g\/g=wa.heap.size)(Ao:w4.ownsRow M e size (.slice (some ⟨g,0,none⟩) n cap) n xs):
 sZ w1 D j v (w4.setCell ⟨D,j,none⟩ (.slice (some ⟨g,0,none⟩) n cap)) (.slice (some ⟨g,0,none⟩) n cap)/\(w4.setCell ⟨D,j,none⟩ (.slice (some ⟨g,0,none⟩) n cap)).ownsRow M e size (.slice (some ⟨g,0,none⟩) n cap) n xs/\G.St (w4.setCell ⟨D,j,none⟩ (.slice (some ⟨g,0,none⟩) n cap)) r:=by
 have Ah:=Aa.lt;have Cl:=Aa.bl;have Ae:=Aa.ws;have hs:=hb.size;have ha:sZ w1 D j v (w4.setCell ⟨D,j,none⟩ (.slice (some ⟨g,0,none⟩) n cap)) (.slice (some ⟨g,0,none⟩) n cap):=cE5 hb Du (fun e=>by have:=ho D e;omega) aA Ar;refine⟨ha,aX8 Ao rfl ?_,h.apd ha ⟨Aa.nb,Aa.ge⟩ (fun e=>by have:=ho _ e;omega) fun k hk=>by have:=ho k hk;omega⟩;show g≠D;rcases Ar with Ar|Ar
 . have:=ho g Ar
   omega
 . omega
theorem bUj:∃i:TypeInfo,Tryz.prog.info? 9=some i/\i.size=1/\i.zero=some (.string ⟨#[]⟩)/\i.bytes=16:=by
 exact bHe
theorem aIw{n:Nat}(z:Int)(hz:z≠6)(h:aU r)(hn:r.length<=n+1):fS n (iR z r):=by
 unfold iR;split
 . split
   . rename_i hk;exact⟨h.tail (by rw[hk.1];exact hz),by simp only[Yq]at hn;omega⟩
   . exact h
 . exact h
theorem bQa(z:Int)(hz:z≠6)(ok:G.Ok)(o:jV G I)(D j M:Nat)(Bs:Far G D M)(up:ByteArray->τ->τ)(P:Nat->Prop)(hw:vM G I D j M P 9 1 (fun a _ _ cs=>cs=[.string a]) up)(p0 p1 p2:Nat)(h0:Hs I p0 (aH G.b))(h1:Hs I p1 (.int .i64 z))(h2:Hs I p2 (.pointer (some ⟨D,j,none⟩)))(Nm:P p2):
 iS G I (bN 149 #[aH p0,aH p1,aH p2]) (eB (iR z) fun s t=>up (aB s) t):=by
 intro t r w h hi;refine nJ ?_;obtain⟨i0,Nn,Cm,Co,Cr⟩:=bUj;have HT:=Hd fun w1 (b:Below w.heap.size w w1)=>(bBk z hz ok (h.below b)).mono fun e w' hx=>(show ∃ v r1,e=.returned v/\At G w r1 w'/\bBm G I t r (iR z r) _ _ v r1 w' from by
  obtain⟨v,r1,he,ha⟩:=sX.after (w1:=w1) o (h.below b) (o.below h hi b) (aZ9 z r) hx;obtain⟨v2,r2,Np,No,Fs⟩:=hx.get;have hr:r2=r1:=by
   have hm:=ha.x;generalize iR z r=x at *;cases x with
   |ok a q=>exact Fs.1.trans hm.1.symm
   |bad q=>exact Fs.1.trans hm.1.symm
  subst hr;exact⟨v,r2,he,⟨ha.st,eD (iQ b) No.2⟩,ha⟩)
 have H0:=Hd h0;have H1:=Hd h1;have H2:=Hd h2;have Hc:=Hd Bs;have HW:=Hd fun w1 r1 ha hl=>hw t w w1 r r1 h hi ha hl;have Ae:=aIw (n:=r.length-1) z hz h.fin aO9;have Be:=h.pos
 have Ha:=Hd (show ∀ a q,iR z r=.ok a q->q.length<r.length from fun a q e=>by
  rw[e]at Ae
  have:=Ae.2
  omega)
 have d0:=h0 t w hi;have d1:=h1 t w hi;unfold eB;clear h hi h0 h1 h2 ok o hw Bs Ae Be;generalize iR z r=x at *;have hx:∃(a:BA)(u:Value)(g:Bool),(x=.ok a.data.toList (aRq x)/\u=.nilIface/\g=true\/(∃q,x=.bad q/\u=iX q 2)/\a=⟨#[]⟩/\g=false):=by
  cases x with
  |ok a q=>exact⟨aB a,_,_,.inl ⟨by simp[aB,aRq],rfl,rfl⟩⟩
  |bad q=>exact⟨_,_,_,.inr ⟨⟨q,rfl,rfl⟩,rfl,rfl⟩⟩
 obtain⟨a,u,g,hx⟩:=hx;have Nj:=Hd fun w1 (b:Below w.heap.size w w1)=>(HT.o w1 b).mono fun e w' Ef=>(show ∃ r1,e=.returned (.tuple #[.string a,u])/\At G w r1 w'/\r1.length<=r.length/\I true t w'/\G.St w' r1/\(g=true->r1.length<r.length)/\r1=aRq x from by
  obtain⟨v,r1,he,ha,hb⟩:=Ef;have hm:=hb.x;rcases hx with⟨e1,rfl,rfl⟩|⟨⟨q,e1,rfl⟩,rfl,rfl⟩
  . cases x with
    |bad q=>cases e1
    |ok a2 q=>
     obtain⟨rfl,rfl⟩:=hm;injection e1 with e1 _;refine⟨_,?_,ha,hb.le,hb.hi,hb.st,fun _=>Ha.o _ _ rfl,rfl⟩;rw[he,e1];rfl
  . cases x with
    |ok a2 q2=>cases e1
    |bad q2=>
     injection e1 with e1;subst e1;obtain⟨rfl,rfl⟩:=hm;exact⟨_,he,ha,hb.le,hb.hi,hb.st,(fun h=>by simp at h),rfl⟩)
 have HX:=Hd hx;clear HT hx Ha;go_in
 go_upto_region 1 with(fail);go_region_held3 (fun W=>W.cell? ⟨p0,0,none⟩=some (aH G.b)/\W.cell? ⟨p1,0,none⟩=some (.int .i64 z)) (first|exact⟨d0,d1⟩|exact⟨z0,z1⟩)
  ((go_at_call 146;refine(Nj.o _ (eP (Yg _ _) _)).mono ?_;rintro e w1 ⟨r1,rfl,Ar,Cz,Aa,Av,Ah,Al⟩;have Ni:=Hd Ar;have Aq:=Hd Cz;have Ho:=Hd Av;have Nh:=Hd Ah;have Bi:=Hd Al;have z0:=H0.o _ _ Aa;have z1:=H1.o _ _ Aa;have z2:=H2.o _ _ Aa;clear Ar Cz Av Ah Aa Al))
 obtain⟨v,n,xs,s0,s1,Ao,hn,hM,hP,Jx⟩:=HW.o w1 r1 Ni.o Aq.o;have Gl:=Hd Ao;have Ct:=Hd (gP Ao);have Ng:=Hd (hP _ Nm);have Hb:=Hd (show v.ownBlock≠some D from fun e=>by have:=Ct.o D e;have:=Hc.o.lt;omega);have Bq:=Hd Jx;have HM:=Hd hM;have Nk:D<w1.heap.size:=Yi _ _ s0;have a2:(w1.alloc (Obj.cells #[Value.string a] 9)).cell? ⟨p2,0,none⟩=some (.pointer (some ⟨D,j,none⟩)):=(Yj _ _ _ (Yi _ _ z2)).trans z2;have aD:(w1.alloc (Obj.cells #[Value.string a] 9)).cell? ⟨D,j,none⟩=some v:=(Yj _ _ _ Nk).trans s0;clear Ao Jx d0 d1;go_upto_region 2 with(fail);go_region_law
  ((refine step_append_lies _ bC _ _ _ bC M 9 i0 _ 1 16 Tryz.underlying62 Nn Co Cm Cr rfl aF v n xs bC (Gl.o.alloc _) ⟨w1.heap.size,0,none⟩ 1 1 [.string a] bC rfl (cell_one_new _ _ _) (fun u hu=>by rw [Yp.1 hu];rfl) aA fZ aA cP _ rfl ?_
    intro g1 Nl w4 Bh As Cw Dt;have y2:=xP mF As Ng.o z2;have yD:=xP mF As Hb.o s0;have yF:=aFq mF As Hb.o s0 s1;have HAL:=Hd (cE6 (j:=j) Hc.o Ho.o mF As Ct.o HM.o Cw Bh);clear Bh As Cw Dt))
 go_wp2_with fail
 all_goals
  go_ret;obtain⟨k1,k2,k3⟩:=HAL.o;obtain⟨m1,m2⟩:=Bq.o a _ _ _ rfl k1 k2;rcases HX.o with⟨e1,rfl,rfl⟩|⟨⟨q,e1,rfl⟩,rfl,rfl⟩
  . have hr:=Bi.o;cases x with
    |bad q=>cases e1
    |ok a2 q=>
     injection e1 with e1 _;obtain rfl:=hr;refine⟨rfl,k3,Aq.o,?_⟩
     have:=m2 (Nh.o rfl)
     rw[e1];exact this
  . have hr:=Bi.o;cases x with
    |ok a2 q2=>cases e1
    |bad q2=>
     injection e1 with e1;subst e1;exact⟨rfl,⟨_,k3,Aq.o⟩,_,m1⟩
end
end
section
open Go.RowKit Go.Sort
theorem aHh{w w':World}{m:Nat}(h:Below (w.drewN m).heap.size (w.drewN m) w'):Below w.heap.size w w':=⟨h.os,h.tape,h.output,h.size,h.block⟩
section
variable {τ:Type}{G:GQ}{I:Bool->τ->World->Prop}{w w':World}{r r':List Tk}{N:Nat}
theorem bQb{s:LU}{t:τ}(o:jV G I)(h:G.St w r)(hi:I true t w)(ha:At G w (if aG s r=true then r.tail else r) w'):I true t w':=by
 refine o.st t w w' r _ h hi ha ?_;split;· simp
 . exact Yh _
theorem bQc(tg:TkG G.all)(ok:G.Ok)(o:jV G I)(s:BA)(f:Value)(F:τ->List Tk->QR τ)(hf:iS G I f F)(hE:pU F)(p0 p1 p2:Nat)(h0:Hs I p0 f)(h1:Hs I p1 (aH G.b))(h2:Hs I p2 (.string s)):
 iS G I (bN 147 #[aH p0,aH p1,aH p2]) (fun t r=>lX F s.data.toList r.length t r):=by
 intro t r w h hi;refine nJ ?_;have HF:=Hd hf;have Nr:=Hd hE;have OK:=Hd ok;have TG:=Hd tg;have OI:=Hd o;have H0:=Hd h0;have H1:=Hd h1;have H2:=Hd h2;have HH:=Hd h;have HI:=Hd hi;show Calls _ _ _ _ (jG G I r.length (lX F s.data.toList r.length t r));generalize ho:lX F s.data.toList r.length t r=Ha;have HO:=Hd ho;have Hc:=Hd (Yh r.length);generalize Ip:r.length=rn at *;have Nk:=Hd Ip;clear h hi h0 h1 h2 ok o hf hE tg ho Ip;go_in
 go_wp2_with fail;go_loopw [4] (fun _ wr=>∃(t:τ)(r:List Tk)(g:Nat),G.St wr r/\r.length<=rn/\r.length<=g/\I true t wr/\lX F s.data.toList g t r=Ha) (fun _ wr=>sY G wr)
 case atStart=>exact⟨t,r,rn,HH.o,by rw[Nk.o];exact Hc.o,by rw[Nk.o];exact Hc.o,HI.o,HO.o⟩
 case round=>
  obtain⟨t1,r1,g,h1,Jx,Ng,Fs,Ni⟩:=hrel;have Nn:=Hd h1.lft_;have Nj:=Hd h1.pos;have Ij:=Hd (h1.tkg TG.o);have Ic:=Hd Jx;have Hb:=Hd Ng;have Ct:=Hd Ni;have d0:=H0.o _ _ Fs;obtain⟨K,a,c',Nl,hK,Nm⟩:=HF.o t1 r1 wr h1 Fs;rw[Nl]at d0;have Bq:=Hd Nm;clear h1 Jx Ng Fs Ni Nm Nl HI HH HO;generalize sY G wr=ms at *;go_wp2_with fail;refine Bq.o.mono ?_;intro e w2 hE;generalize hx:F t1 r1=x at *;have HX:=Hd hx;cases x with
  |bad q z=>
   obtain⟨rfl,⟨r3,h3,Nh⟩,Aa⟩:=hE;have H3:=Hd h3;have Bs:=Hd Aa;have Nq:=Hd (Yr Nh Ic.o);have HV:=Hd (show Ha=.bad q z by
    rw[<-Ct.o];cases g with
    |zero=>exact HX.o
    |succ g=>rw[lX,HX.o];rfl)
   clear h3 Nh Aa hx d0;unfold iX;go_wp2_with fail;go_region;go_wp2_with fail;go_ret;rw[HV.o];obtain⟨t3,Aa⟩:=Bs.o;exact⟨rfl,⟨r3,H3.o.drew,Nq.o⟩,t3,OI.o.fb _ _ _ _ H3.o Aa (eP (Yg _ _) 1)⟩
  |ok t2 r2=>
   obtain⟨rfl,h2,Np,Ae⟩:=hE;have Cg:=Hd fun w1 (b:Below w2.heap.size w2 w1)=>yC s OK.o (h2.below b);have No:=Hd fun w1 w' (b:Below w2.heap.size w2 w1) ha=>bQb (s:=s.data.toList) (w':=w') OI.o (h2.below b) (OI.o.below h2 Ae b) ha;have Aq:=Hd (Nr.o t1 r1 t2 r2 Ij.o HX.o);have d1:=H1.o _ _ Ae;have d2:=H2.o _ _ Ae;clear h2 Np Ae hx d0;generalize hc:aG s.data.toList r2=c at *;have HC:=Hd hc;clear hc;go_upto_region 2 with(fail);go_region_held3 (fun W=>W.cell? ⟨p1,0,none⟩=some (aH G.b)/\W.cell? ⟨p2,0,none⟩=some (.string s)) (first|exact⟨d1,d2⟩|exact⟨z1,z2⟩)
    ((go_at_call 148;refine(Cg.o _ (eP (Yg _ _) _)).mono ?_;rintro e w3 ⟨rfl,ha⟩;have Aa:=No.o _ _ (eP (Yg _ _) _) ha;have Bs:=Hd Aa;have HA:=Hd ha;have z1:=H1.o _ _ Aa;have z2:=H2.o _ _ Aa;clear ha Aa))
   cases c with
   |false=>
    go_wp2_with fail;go_ret;have hv:Ha=.ok t2 r2:=by
     rw[<-Ct.o];cases g with
     |zero=>have:=Nj.o;have:=Hb.o;omega
     |succ g=>rw[lX,HX.o];show(if aG s.data.toList r2=true then _ else _)=_;rw[HC.o];rfl
    rw[hv];exact⟨rfl,HA.o.1,by have:=Aq.o;have:=Ic.o;omega,Bs.o⟩
   |true=>
    go_wp2_with fail;have Ns:=HA.o.1.pos;simp only[if_true]at Ns;go_roundw;case rel=>
     refine⟨t2,r2.tail,g-1,HA.o.1,?_,?_,Bs.o,?_⟩
     . have:=Aq.o;have:=Ic.o;simp only[List.length_tail];omega
     . have:=Aq.o;have:=Hb.o;simp only[List.length_tail];omega
     . rw[<-Ct.o];cases g with
       |zero=>have:=Nj.o;have:=Hb.o;omega
       |succ g=>rw[lX,HX.o];show _=(if aG s.data.toList r2=true then _ else _);rw[HC.o];rfl
    case measure=>
     have e1:sY G w3=r2.tail.length:=HA.o.1.lft_;rw[e1,Nn.o]
     have:=Aq.o
     simp only[List.length_tail];omega
def aK9(G:GQ)(I:Bool->τ->World->Prop)(m:Value)(s:LU)(b:Bool):Prop:=∀t r w,G.St w r->I true t w->aQu m w fun e w'=>e=.returned (.bool (aG s r==b))/\Below w.heap.size w w'
theorem aUi(ok:G.Ok)(s:BA)(p0 p1:Nat)(h0:Hs I p0 (aH G.b))(h1:Hs I p1 (.string s)):aK9 G I (bN 86 #[aH p0,aH p1]) s.data.toList true:=by
 intro t r w h hi;refine nJ ?_;have HT:=Hd fun w1 (b:Below w.heap.size w w1)=>aK8 s ok (h.below b);have d0:=h0 t w hi;have d1:=h1 t w hi;have l0:=Yi _ _ d0;have l1:=Yi _ _ d1;clear h hi h0 h1 ok;generalize aG s.data.toList r=c at *;rw[beq_true];exact bGy
theorem aUj(ok:G.Ok)(s:BA)(p0 p1:Nat)(h0:Hs I p0 (aH G.b))(h1:Hs I p1 (.string s)):aK9 G I (bN 154 #[aH p0,aH p1]) s.data.toList false:=by
 intro t r w h hi;refine nJ ?_;have HT:=Hd fun w1 (b:Below w.heap.size w w1)=>aK8 s ok (h.below b);have d0:=h0 t w hi;have d1:=h1 t w hi;have l0:=Yi _ _ d0;have l1:=Yi _ _ d1;clear h hi h0 h1 ok;generalize aG s.data.toList r=c at *;rw[beq_false];exact bGy
theorem aMz(tg:TkG G.all)(ob:∀t w w' r,G.St w r->I true t w->Below w.heap.size w w'->I true t w')(s:LU)(b:Bool)(m f:Value)(hm:aK9 G I m s b)(F:τ->List Tk->QR τ)(hf:iS G I f F)(hE:pU F)(p0 p1:Nat)(h0:Hs I p0 m)(h1:Hs I p1 f):
 iS G I (bN 142 #[aH p0,aH p1]) (fun t r=>fG F s b r.length t r):=by
 intro t r w h hi;refine nJ ?_;have HF:=Hd hf;have HM:=Hd hm;have Nq:=Hd hE;have TG:=Hd tg;have OB:=Hd ob;have H0:=Hd h0;have H1:=Hd h1;have HH:=Hd h;have HI:=Hd hi;show Calls _ _ _ _ (jG G I r.length (fG F s b r.length t r));generalize ho:fG F s b r.length t r=Jx;have HO:=Hd ho;have Ng:=Hd (Yh r.length);generalize Ip:r.length=rn at *;have Nm:=Hd Ip;clear h hi h0 h1 ob hf hE tg hm ho Ip;go_in
 go_wp2_with fail;go_loopw [3] (fun _ wr=>∃(t:τ)(r:List Tk)(g:Nat),G.St wr r/\r.length<=rn/\r.length<=g/\I true t wr/\fG F s b g t r=Jx) (fun _ wr=>sY G wr)
 case atStart=>exact⟨t,r,rn,HH.o,by rw[Nm.o];exact Ng.o,by rw[Nm.o];exact Ng.o,HI.o,HO.o⟩
 case round=>
  obtain⟨t1,r1,g,h1,Ni,Nj,Bs,Nl⟩:=hrel;have No:=Hd h1.lft_;have Nr:=Hd h1.pos;have Ij:=Hd (h1.tkg TG.o);have Ic:=Hd Ni;have Nn:=Hd Nj;have Nh:=Hd Nl;have d0:=H0.o _ _ Bs;obtain⟨K,a,c',Aa,hK,Aq⟩:=HM.o t1 r1 wr h1 Bs;rw[Aa]at d0;have Bq:=Hd Aq;have Ho:=Hd fun w1 (b:Below wr.heap.size wr w1)=>h1.below b;have Nk:=Hd fun w1 (b:Below wr.heap.size wr w1)=>OB.o _ _ _ _ h1 Bs b;clear h1 Ni Nj Bs Nl Aq Aa HI HH HO;generalize sY G wr=ms at *;generalize hc:(aG s r1==b)=c at *;have HC:=Hd hc;clear hc;cases c with
  |false=>
   go_wp2_with fail;refine Bq.o.mono ?_;rintro e w2 ⟨rfl,Ag⟩;have Ai:=Hd Ag;clear Ag;go_wp2_with fail;go_ret;have hv:Jx=.ok t1 r1:=by
    rw[<-Nh.o];cases g with
    |zero=>rfl
    |succ g=>rw[fG,if_neg (by have:=HC.o;simpa using this)]
   rw[hv];exact⟨rfl,Ho.o _ Ai.o,Ic.o,Nk.o _ Ai.o⟩
  |true=>
   go_wp2_with fail;refine Bq.o.mono ?_;rintro e w2 ⟨rfl,Ag⟩;have h2:=Ho.o _ Ag;have Fs:=Nk.o _ Ag;have d1:=H1.o _ _ Fs;obtain⟨K2,a2,c2,Aa,Ns,Aq⟩:=HF.o t1 r1 w2 h2 Fs;rw [Aa] at d1;have Hc:=Hd Aq;clear Ag h2 Fs Aq Aa d0;go_wp2_with fail;refine Hc.o.mono ?_;intro e w3 hE;generalize hx:F t1 r1=x at *;have HX:=Hd hx;have HS:=Hd (show Jx=x.bind fun t r=>fG F s b (g-1) t r by
    rw[<-Nh.o,<-hx];cases g with
    |zero=>have:=Nr.o;have:=Nn.o;omega
    |succ g=>rw[fG,if_pos (by have:=HC.o;simpa using this)];rfl)
   cases x with
   |bad q z=>
    obtain⟨rfl,⟨r3,h3,Ct⟩,Ae⟩:=hE;have H3:=Hd h3;have Hb:=Hd Ae;have Np:=Hd (Yr Ct Ic.o);clear h3 Ct Ae hx d1;unfold iX;go_wp2_with fail;go_ret;rw[HS.o];exact⟨rfl,⟨r3,H3.o,Np.o⟩,Hb.o⟩
   |ok t2 r2=>
    obtain⟨rfl,h3,Ct,Ae⟩:=hE;have H3:=Hd h3;have Hb:=Hd Ae;have Ha:=Hd (Nq.o t1 r1 t2 r2 Ij.o HX.o);have Cp:=Hd h3.lft_;clear h3 Ct Ae hx d1;go_wp2_with fail;go_roundw;case rel=>exact⟨t2,r2,g-1,H3.o,by have:=Ha.o;have:=Ic.o;omega,by have:=Ha.o;have:=Nn.o;omega,Hb.o,HS.o.symm⟩
    case measure=>
     rw[Cp.o,No.o];exact Ha.o
theorem aX9(tg:TkG G.all)(o:jV G I)(s:LU)(b:Bool)(m f:Value)(hm:aK9 G I m s b)(F:τ->List Tk->QR τ)(hf:iS G I f F)(hE:pU F)(p0 p1:Nat)(h0:Hs I p0 m)(h1:Hs I p1 f):
 iS G I (bN 142 #[aH p0,aH p1]) (fun t r=>fG F s b r.length t r):=
 aMz tg (fun _ _ _ _ h hi hb=>o.below h hi hb) s b m f hm F hf hE p0 p1 h0 h1
theorem bK1(ok:G.Ok)(o:jV G I)(s:BA)(f:Value)(F:τ->List Tk->QR τ)(hf:iS G I f F)(p0 p1 p2:Nat)(h0:Hs I p0 (aH G.b))(h1:Hs I p1 (.string s))(h2:Hs I p2 f):
 iS G I (bN 150 #[aH p0,aH p1,aH p2]) (aCf F s.data.toList):=by
 intro t r w h hi;refine nJ ?_;have HT:=Hd fun w1 (b:Below w.heap.size w w1)=>aK8 s ok (h.below b);have Ho:=Hd fun w1 (b:Below w.heap.size w w1)=>h.below b;have Aa:=Hd fun w1 (b:Below w.heap.size w w1)=>o.below h hi b;have HF:=Hd hf;have H2:=Hd h2;have d0:=h0 t w hi;have d1:=h1 t w hi;have l0:=Yi _ _ d0;have l1:=Yi _ _ d1;unfold aCf;clear h hi h0 h1 h2 ok o hf;generalize aG s.data.toList r=c at *;go_in
 go_upto_region 1 with(fail);go_region_held3 (fun W=>W.cell? ⟨p0,0,none⟩=some (aH G.b)/\W.cell? ⟨p1,0,none⟩=some (.string s)) (first|exact⟨d0,d1⟩|exact⟨z0,z1⟩)
  ((go_at_call 87;refine(HT.o _ (eP (Yg _ _) _)).mono ?_;rintro e w1 ⟨rfl,hb⟩;have HB:=Hd (aHh hb);have z0:=(HB.o.cell l0).trans d0;have z1:=(HB.o.cell l1).trans d1;clear hb))
 cases c with
 |true=>
  go_wp2_with fail;go_ret;exact⟨rfl,Ho.o _ HB.o,Yh _,Aa.o _ HB.o⟩
 |false=>
  have d2:=H2.o _ _ (Aa.o _ HB.o);obtain⟨K2,a2,c2,Aq,Ct,Bs⟩:=HF.o t r w1 (Ho.o _ HB.o) (Aa.o _ HB.o);rw[Aq]at d2;have Ae:=Hd Bs;clear Bs Aq d0 d1 z0 z1;go_wp2_with fail;refine Ae.o.mono ?_;intro e w3 hE;generalize F t r=x at *;cases x with
  |ok t2 r2=>
   exact bE3
  |bad q z=>
   exact bE3
end
end
end Go.Proofs.YtagkcjpoipcpkaaGreatDoor
