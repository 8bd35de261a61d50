/- A part of the proof. Conditions: each theorem's own. -/
import Derived.Test.YtagkcjpoipcpkaaGreatDoorF18
import Derived.Test.YtagkcjpoipcpkaaGreatDoorF27
namespace Go.Proofs.YtagkcjpoipcpkaaGreatDoor
set_option linter.unusedVariables false
set_option linter.unusedSimpArgs false
set_option maxRecDepth 100000
set_option maxHeartbeats 40000000
section
open Go.RowKit Go.Sort
structure Sm (b D:Nat)(w2 w:World):Prop where
 os:w.os=w2.os
 tape:w.tape=w2.tape
 output:w.output=w2.output
 size:w2.heap.size<=w.heap.size
 block:∀k,k<w2.heap.size->k≠b->k≠D->w.heap[k]?=w2.heap[k]?
section
variable {τ α:Type}{G:GQ}{D:Nat}{C:Nat->Nat->τ->World->Prop}{w w' w1 w2:World}{r r':List Tk}{N:Nat}
def eJ(G:GQ)(D:Nat)(C:Nat->Nat->τ->World->Prop)(w2:World)(g:Bool)(t:τ)(w:World):Prop:=
 Sm G.b D w2 w/\∃m,(g=true->sY G w<=m)/\C w2.heap.size m t w
def OkC(G:GQ)(C:Nat->Nat->τ->World->Prop):Prop:=∀M m t w w',C M m t w->G.b<w.heap.size->M<=w.heap.size->Below w.heap.size (bl G.b w) (bl G.b w')->C M m t w'
structure Pf (G:GQ)(D:Nat)(w:World):Prop where
 nb:D≠G.b
 ge:G.W.heap.size<=D
 lt:D<w.heap.size
 bl:G.b<w.heap.size
 ws:G.W.heap.size<=w.heap.size
theorem Pf.below(h:Pf G D w)(hb:w.heap.size<=w'.heap.size):Pf G D w':=⟨h.nb,h.ge,Yt h.lt hb,Yt h.bl hb,Yr h.ws hb⟩
theorem Pf.far(h:Pf G D w):Far G D w.heap.size:=⟨h.nb,h.ge,h.lt,h.bl,h.ws⟩
theorem Sm.kb(h:Sm G.b D w2 w)(hb:Below w.heap.size (Go.Proofs.YtagkcjpoipcpkaaGreatDoor.bl G.b w) (Go.Proofs.YtagkcjpoipcpkaaGreatDoor.bl G.b w')):Sm G.b D w2 w':=by
 have hs:w.heap.size<=w'.heap.size:=wA hb;refine⟨hb.os.trans h.os,hb.tape.trans h.tape,hb.output.trans h.output,Yr h.size hs,fun k hk h1 h2=>?_⟩;have h3:=hb.block k (by have:=h.size;omega);rw[dH h1,dH h1]at h3;exact h3.trans (h.block k hk h1 h2)
theorem rK(hC:OkC G C)(w2:World):jV G (eJ G D C w2) where
 st:=fun t w w' r r' hs ⟨h1,m,h2,h3⟩ ha hl=>by
  refine⟨h1.kb ha.2,m,fun _=>?_,hC _ _ _ _ _ h3 hs.lt h1.size ha.2⟩
  have:=h2 rfl
  rw[hs.lft_]at this;rw[ha.1.lft_];omega
 weak:=fun t w ⟨h1,m,h2,h3⟩=>⟨h1,m,fun h=>by simp at h,h3⟩
 fb:=fun t w w' r hs ⟨h1,m,h2,h3⟩ hb=>⟨h1.kb (iQ hb),m,fun h=>by simp at h,hC _ _ _ _ _ h3 hs.lt h1.size (iQ hb)⟩
theorem cC5{p:Nat}{v:Value}(hp:w2.cell? ⟨p,0,none⟩=some v)(hb:p≠G.b)(hD:p≠D):Hs (eJ G D C w2) p v:=by
 rintro t w ⟨h1,-⟩;have Ah:p<w2.heap.size:=Yi _ _ hp;have e:=h1.block p Ah hb hD;unfold World.cell? at hp⊢;rw[e];exact hp
def iG(G:GQ)(D:Nat)(C:Nat->Nat->τ->World->Prop)(w:World)(f:Value)(F:τ->List Tk->QR τ):Prop:=∀w2,Below w.heap.size w w2->iS G (eJ G D C w2) f F
def pB(G:GQ)(D:Nat)(C:Nat->Nat->τ->World->Prop)(w:World)(fs:LV)(Fs:List (τ->List Tk->QR τ)):Prop:=∀w2,Below w.heap.size w w2->yE G (eJ G D C w2) fs Fs
theorem iG.below{f:Value}{F:τ->List Tk->QR τ}(h:iG G D C w f F)(hb:Below w.heap.size w w'):iG G D C w' f F:=fun w2 h2=>h w2 (hb.tr h2)
theorem pB.nil:pB G D C w [] []:=fun _ _=>trivial
theorem pB.snoc{f:Value}{F:τ->List Tk->QR τ}{fs:LV}{Fs:List (τ->List Tk->QR τ)}(h:pB G D C w fs Fs)(hb:Below w.heap.size w w')(hf:iG G D C w' f F):pB G D C w' (fs++[f]) (Fs++[F]):=fun w2 h2=>(h w2 (hb.tr h2)).snoc (hf w2 h2)
theorem pB.below{fs:LV}{Fs:List (τ->List Tk->QR τ)}(h:pB G D C w fs Fs)(hb:Below w.heap.size w w'):pB G D C w' fs Fs:=fun w2 h2=>h w2 (hb.tr h2)
theorem eG.hs{l:List (Array Value × TypeId)}(h:eG w l w')(hp:Pf G D w)(hb:Below w'.heap.size w' w2)(i:Nat)(v:Value)(T:TypeId)(hi:l[i]?=some (#[v],T)):Hs (eJ G D C w2) (w.heap.size+i) v:=by
 have hc:=h.cell i 0 _ v hi rfl
 have:=hp.bl
 have:=hp.lt
 exact cC5 ((hb.cell (Yi _ _ hc)).trans hc) aA aA
theorem eG.two{x y:Array Value × TypeId}{l:List (Array Value × TypeId)}(h:(w.alloc (.cells x.1 x.2)).alloc (.cells y.1 y.2)=w1)(hn:eG w1 l w'):eG w (x::y::l) w':=by
 have h0:eG w [x,y] w1:=news h;have hs:=h0.size;simp only[Yq,Zg]at hs;refine⟨h0.below.tr hn.below,by rw[hn.size,hs];simp only[Yq];omega,fun i z hz=>?_⟩
 match i,hz with
 |0,hz=>exact(hn.below.block _ aA).trans (h0.at_ 0 z hz)
 |1,hz=>exact(hn.below.block _ aA).trans (h0.at_ 1 z hz)
 |i+2,hz=>
  have:=hn.at_ i z hz
  rw[hs]at this;rw[show w.heap.size+(i+2)=w.heap.size+(0+1+1)+i by omega];exact this
theorem mkf(fn:Fn)(first cap:AV)(w:World):(Instr.makeFunc fn first cap).run Tryz.prog w=.ok (.func fn first cap) w:=rfl
def aGd(D j:Nat)(C:Nat->Nat->τ->World->Prop)(up:ByteArray->τ->τ):Prop:=∀M m t w s,C M m t w->(∃Aa,w.cell? ⟨D,j,none⟩=some Aa)/\w.frozen? ⟨D,j,none⟩=false/\C M m (up s t) (w.setCell ⟨D,j,none⟩ (.string s))
theorem Sm.set{j:Nat}{v:Value}{b:Nat}(h:Sm b D w2 w):Sm b D w2 (w.setCell ⟨D,j,none⟩ v):=⟨h.os,h.tape,h.output,by simpa using h.size,fun k hk h1 h2=>(Xb _ _ _ _ h2).trans (h.block k hk h1 h2)⟩
theorem bAa{j:Nat}{v:Value}(h:D≠G.b):sY G (w.setCell ⟨D,j,none⟩ v)=sY G w:=by
 unfold sY;rw[wK w v (Ne.symm h)]
theorem bX8{j:Nat}{up:ByteArray->τ->τ}(h:aGd D j C up)(hD:D≠G.b):bIm (eJ G D C w2) D j up:=by
 rintro t w s ⟨h1,m,h2,h3⟩;obtain⟨k1,k2,k3⟩:=h _ _ _ _ s h3;exact⟨k1,k2,h1.set,m,fun hg=>by rw[bAa hD];exact h2 hg,k3⟩
def AppsC(G:GQ)(D j:Nat)(e:TypeId)(size:Nat)(Nw:Nat->α->World->World->List Value->Prop)(C:Nat->Nat->τ->World->Prop)(up:α->τ->τ):Prop:=∀M m t w w1,C M (m+1) t w->M<=w.heap.size->G.b<w.heap.size->Below w.heap.size (Go.Proofs.YtagkcjpoipcpkaaGreatDoor.bl G.b w) (Go.Proofs.YtagkcjpoipcpkaaGreatDoor.bl G.b w1)->
 ∃v n xs,w1.cell? ⟨D,j,none⟩=some v/\w1.frozen? ⟨D,j,none⟩=false/\w1.ownsRow M e size v n xs/\n<=1000000/\
  ∀a cs w' v',Nw M a w w1 cs->sZ w1 D j v w' v'->w'.ownsRow M e size v' (n+1) (xs++cs)->C M m (up a t) w'
theorem aIx{j:Nat}{e:TypeId}{size:Nat}{Nw:Nat->α->World->World->List Value->Prop}{up:α->τ->τ}(h:AppsC G D j e size Nw C up)(hp:Pf G D w2):vM G (eJ G D C w2) D j w2.heap.size (fun k=>k<w2.heap.size) e size (Nw w2.heap.size) up:=by
 rintro t w w1 r r1 hs ⟨h1,m,h2,h3⟩ ha hl;have hm:=h2 rfl;rw[hs.lft_]at hm;have Ae:=hs.pos;obtain⟨m,rfl⟩:∃k,m=k+1:=⟨m-1,by omega⟩;have hS:=h1.kb ha.2;obtain⟨v,n,xs,k1,k2,k3,k4,k5⟩:=h _ _ _ _ w1 h3 h1.size hs.lt ha.2;refine⟨v,n,xs,k1,k2,k3,k4,hS.size,fun k hk e=>by have:=gP k3 k e;omega,fun a cs w' v' hn hA ho=>?_⟩;have Ao:=gP k3;have hc:=k5 a cs w' v' hn hA ho;have Aa:Sm G.b D w2 w':=⟨hA.os.trans hS.os,hA.tape.trans hS.tape,hA.output.trans hS.output,Yr hS.size hA.size,fun k hk h1 h2=>(hA.block k (by have:=hS.size;omega) h2 (fun e=>by have:=Ao k e;omega)).trans (hS.block k hk h1 h2)⟩;have Aq:=hp.ws;have Cl:=hp.bl;refine⟨⟨Aa,m,fun h=>by simp at h,hc⟩,fun Ah=>⟨Aa,m,fun _=>?_,hc⟩⟩;rw[(ha.1.apd hA ⟨hp.nb,hp.ge⟩ (fun e=>by have:=Ao _ e;omega) (fun k hk=>by have:=Ao k hk;omega)).lft_];omega
section
variable (ok:G.Ok) (tg:TkG G.all) (hp:Pf G D w) (hC:OkC G C)
theorem aOx(s:BA):Calls Tryz.prog 88 #[aH G.b,.string s] w fun e w'=>(∃T0 T1,(T0=106/\T1=9)/\eG w [(#[aH G.b],T0),(#[.string s],T1)] w')/\e=.returned (bN 143 #[aH w.heap.size,aH (w.heap.size+1)]):=by
 exact bDb
include ok hp hC in
theorem qH(s:BA):Calls Tryz.prog 88 #[aH G.b,.string s] w fun e w'=>∃K fa fc,e=.returned (.func K fa fc)/\Below w.heap.size w w'/\iG G D C w' (.func K fa fc) (dN s.data.toList):=by
 refine(aOx s).mono ?_;rintro e w' ⟨⟨T0,T1,-,hn⟩,rfl⟩;exact⟨_,_,_,rfl,hn.below,fun w2 h2=>aV8 ok (rK hC w2) s _ _ (hn.hs hp h2 0 _ T0 rfl) (hn.hs hp h2 1 _ T1 rfl)⟩
theorem cC6(a:Addr):Calls Tryz.prog 89 #[aH G.b,.pointer (some a)] w fun e w'=>(∃T0 T1,eG w [(#[aH G.b],T0),(#[.pointer (some a)],T1)] w')/\e=.returned (bN 145 #[aH w.heap.size,aH (w.heap.size+1)]):=by
 exact aFx
include ok hp hC in
theorem aOy(j:Nat)(up:ByteArray->τ->τ)(hw:aGd D j C up):Calls Tryz.prog 89 #[aH G.b,.pointer (some ⟨D,j,none⟩)] w fun e w'=>∃K fa fc,e=.returned (.func K fa fc)/\Below w.heap.size w w'/\iG G D C w' (.func K fa fc) (eB bT fun s t=>up (aB s) t):=by
 refine(cC6 _).mono ?_;rintro e w' ⟨⟨T0,T1,hn⟩,rfl⟩;exact⟨_,_,_,rfl,hn.below,fun w2 h2=>bUi ok (rK hC w2) D j ⟨hp.nb,hp.ge⟩ up (bX8 hw hp.nb) _ _ (hn.hs hp h2 0 _ T0 rfl) (hn.hs hp h2 1 _ T1 rfl)⟩
theorem cBg(z:Int)(a:Addr):Calls Tryz.prog 91 #[aH G.b,.int .i64 z,.pointer (some a)] w fun e w'=>(∃T0 T1 T2,eG w [(#[aH G.b],T0),(#[.int .i64 z],T1),(#[.pointer (some a)],T2)] w')/\e=.returned (bN 149 #[aH w.heap.size,aH (w.heap.size+1),aH (w.heap.size+1+1)]):=by
 exact aJr
include ok hp hC in
theorem bAb(z:Int)(hz:z≠6)(j:Nat)(up:ByteArray->τ->τ)(hw:AppsC G D j 9 1 (fun _ a _ _ cs=>cs=[.string a]) C up):Calls Tryz.prog 91 #[aH G.b,.int .i64 z,.pointer (some ⟨D,j,none⟩)] w fun e w'=>∃K fa fc,e=.returned (.func K fa fc)/\Below w.heap.size w w'/\iG G D C w' (.func K fa fc) (eB (iR z) fun s t=>up (aB s) t):=by
 refine(cBg z _).mono ?_;rintro e w' ⟨⟨T0,T1,T2,hn⟩,rfl⟩;refine⟨_,_,_,rfl,hn.below,fun w2 h2=>?_⟩;have Aa:=(hp.below hn.below.size).below h2.size;exact bQa z hz ok (rK hC w2) D j w2.heap.size Aa.far up _ (aIx hw Aa) _ _ _ (hn.hs hp h2 0 _ T0 rfl) (hn.hs hp h2 1 _ T1 rfl) (hn.hs hp h2 2 _ T2 rfl) aQz
theorem cBh(s:BA)(K:Fn)(fa fc:AV):Calls Tryz.prog 90 #[aH G.b,.string s,.func K fa fc] w fun e w'=>(∃T0 T1 T2,eG w [(#[aH G.b],T0),(#[.string s],T1),(#[.func K fa fc],T2)] w')/\e=.returned (bN 147 #[aH (w.heap.size+1+1),aH w.heap.size,aH (w.heap.size+1)]):=by
 exact aJr
include ok tg hp hC in
theorem aNi(s:BA)(K:Fn)(fa fc:AV)(F:τ->List Tk->QR τ)(hf:iG G D C w (.func K fa fc) F)(hE:pU F):Calls Tryz.prog 90 #[aH G.b,.string s,.func K fa fc] w fun e w'=>∃K fa fc,e=.returned (.func K fa fc)/\Below w.heap.size w w'/\iG G D C w' (.func K fa fc) (fun t r=>lX F s.data.toList r.length t r):=by
 refine(cBh s K fa fc).mono ?_;rintro e w' ⟨⟨T0,T1,T2,hn⟩,rfl⟩;exact⟨_,_,_,rfl,hn.below,fun w2 h2=>bQc tg ok (rK hC w2) s _ F (hf.below hn.below w2 h2) hE _ _ _ (hn.hs hp h2 2 _ T2 rfl) (hn.hs hp h2 0 _ T0 rfl) (hn.hs hp h2 1 _ T1 rfl)⟩
theorem bUk(s:BA)(K:Fn)(fa fc:AV):Calls Tryz.prog 92 #[aH G.b,.string s,.func K fa fc] w fun e w'=>(∃T0 T1 T2,eG w [(#[aH G.b],T0),(#[.string s],T1),(#[.func K fa fc],T2)] w')/\e=.returned (bN 150 #[aH w.heap.size,aH (w.heap.size+1),aH (w.heap.size+1+1)]):=by
 exact aJr
include ok hp hC in
theorem bQd(s:BA)(K:Fn)(fa fc:AV)(F:τ->List Tk->QR τ)(hf:iG G D C w (.func K fa fc) F):Calls Tryz.prog 92 #[aH G.b,.string s,.func K fa fc] w fun e w'=>∃K fa fc,e=.returned (.func K fa fc)/\Below w.heap.size w w'/\iG G D C w' (.func K fa fc) (aCf F s.data.toList):=by
 refine(bUk s K fa fc).mono ?_;rintro e w' ⟨⟨T0,T1,T2,hn⟩,rfl⟩;exact⟨_,_,_,rfl,hn.below,fun w2 h2=>bK1 ok (rK hC w2) s _ F (hf.below hn.below w2 h2) _ _ _ (hn.hs hp h2 0 _ T0 rfl) (hn.hs hp h2 1 _ T1 rfl) (hn.hs hp h2 2 _ T2 rfl)⟩
theorem cC7(K1:Fn)(a1 c1:AV)(K:Fn)(fa fc:AV):Calls Tryz.prog 85 #[.func K1 a1 c1,.func K fa fc] w fun e w'=>(∃T0 T1,eG w [(#[.func K1 a1 c1],T0),(#[.func K fa fc],T1)] w')/\e=.returned (bN 142 #[aH w.heap.size,aH (w.heap.size+1)]):=by
 have Jt:=mkf;go_in
 go_wp2_with fail;go_ret;exact⟨⟨_,_,news rfl⟩,rfl⟩
theorem bAc(s:BA)(K:Fn)(fa fc:AV):Calls Tryz.prog 95 #[aH G.b,.string s,.func K fa fc] w fun e w'=>(∃T0 T1 T2 T3,eG w [(#[aH G.b],T0),(#[.string s],T1),(#[bN 154 #[aH w.heap.size,aH (w.heap.size+1)]],T2),(#[.func K fa fc],T3)] w')/\e=.returned (bN 142 #[aH (w.heap.size+2),aH (w.heap.size+3)]):=by
 exact bHb
include ok tg hp hC in
theorem bUl(s:BA)(K:Fn)(fa fc:AV)(F:τ->List Tk->QR τ)(hf:iG G D C w (.func K fa fc) F)(hE:pU F):Calls Tryz.prog 95 #[aH G.b,.string s,.func K fa fc] w fun e w'=>∃K fa fc,e=.returned (.func K fa fc)/\Below w.heap.size w w'/\iG G D C w' (.func K fa fc) (fun t r=>fG F s.data.toList false r.length t r):=by
 refine(bAc s K fa fc).mono ?_;rintro e w' ⟨⟨T0,T1,T2,T3,hn⟩,rfl⟩;exact⟨_,_,_,rfl,hn.below,fun w2 h2=>aX9 tg (rK hC w2) s.data.toList false _ _ (aUj ok s _ _ (hn.hs hp h2 0 _ T0 rfl) (hn.hs hp h2 1 _ T1 rfl)) F (hf.below hn.below w2 h2) hE _ _ (hn.hs hp h2 2 _ T2 rfl) (hn.hs hp h2 3 _ T3 rfl)⟩
theorem bX9(s:BA)(K:Fn)(fa fc:AV):Calls Tryz.prog 42 #[aH G.b,.string s,.func K fa fc] w fun e w'=>(∃T0 T1 T2 T3,eG w [(#[aH G.b],T0),(#[.string s],T1),(#[bN 86 #[aH w.heap.size,aH (w.heap.size+1)]],T2),(#[.func K fa fc],T3)] w')/\e=.returned (bN 142 #[aH (w.heap.size+2),aH (w.heap.size+3)]):=by
 exact bHb
include ok tg hp hC in
end
end
end
section
open Go.RowKit Go.Sort
structure GE (G:GQ)(es:List En):Prop where
 ve:∃E ec,G.ve=.slice E es.length ec/\cQ (bl G.b G.W) E es.length es
 lock:G.lock=true
 nm:∀e∈es,bQ e.1.data.toList=false/\e.1.data.toList∉iD
section
variable {G:GQ}{D:Nat}{es:List En}{w w' w1 w2:World}{r r':List Tk}{N:Nat}
def nS(es:List En)(r:List Tk):Int:=dL (fun e:En=>aG e.1.data.toList r) es 0
theorem bQe(ge:GE G es){t:Tk}{q:List Tk}(ht:iW t):nS es (t::q)=if t.k=1 then aAr es t.s else -1:=by
 have hk:∀(l:List En)(i:Nat),(∀e∈l,e.1.data.toList∉iD)->dL (fun e:En=>aG e.1.data.toList (t::q)) l i=if t.k=1 then dL (fun e:En=>e.1.data.toList==t.s) l i else -1:=by
  intro l;induction l with
  |nil=>intro i _;simp[dL]
  |cons a l ih=>
   intro i hm;rw[dL,dL,ih _ fun e he=>hm e (Zi _ he)];have h1:=hm a Zc;by_cases h:t.k=1
   . rw[if_pos h,if_pos h]
     have:aG a.1.data.toList (t::q)=(a.1.data.toList==t.s):=by
      simp only[aG,h];rw[Bool.beq_comm];simp
     rw[this]
   . rw[if_neg h,if_neg h]
     have:aG a.1.data.toList (t::q)=false:=by
      by_cases h5:t.k=5
      . have h6:=ht.1 h5
        have:(t.s==a.1.data.toList)=false:=by
         rw[Xf];rintro e;rw[e]at h6;exact h1 h6
        simp[aG,this]
      . have e1:(t.k==1)=false:=by simpa using h
        have e5:(t.k==5)=false:=aGl;simp[aG,e1,e5]
     rw[this];rfl
 exact hk es 0 fun e he=>(ge.nm e he).2
theorem aV9{α:Type}{f:α->Bool}:∀{l:List α}{i:Nat},dL f l i≠-1->∃a∈l,f a=true
 |[],i,h=>absurd rfl h
 |a::l,i,h=>by
  rw[dL]at h;by_cases ha:f a=true;· exact⟨a,Zc,ha⟩
  . rw[if_neg ha]at h;obtain⟨b,hb,h2⟩:=aV9 h;exact⟨b,Zi _ hb,h2⟩
theorem aS2{α:Type}{f:α->Bool}:∀(l:List α)(i:Nat),dL f l i=-1\/(0<=dL f l i)
 |[],i=>.inl rfl
 |a::l,i=>by
  rw[dL];split;· exact .inr aA
  . exact aS2 l _
theorem bYa(ok:G.Ok)(h:G.St w r)(nm:BA)(A:OA)(n c:Nat)(p0:Nat)(h0:w.cell? ⟨p0,0,none⟩=some (aH G.b)):
 Calls Tryz.prog 218 #[.agg #[.string nm,.slice A n c],aH p0] w fun e w'=>e=.returned (.bool (aG nm.data.toList r))/\At G w (if aG nm.data.toList r=true then r.tail else r) w':=by
 have HT:=Hd fun w1 (b:Below w.heap.size w w1)=>(yC nm ok (h.below b)).mono fun e w' hx=>(show e=.returned (.bool (aG nm.data.toList r))/\At G w (if aG nm.data.toList r=true then r.tail else r) w'/\(p0≠G.b->w'.cell? ⟨p0,0,none⟩=some (aH G.b))/\(w1.heap.size<=w'.heap.size)/\(∀ k,k<w1.heap.size->k≠G.b->w'.heap[k]?=w1.heap[k]?) from by
  refine⟨hx.1,⟨hx.2.1,eD (iQ b) hx.2.2⟩,fun hn=>?_,wA hx.2.2,fun k hk hb=>?_⟩
  . have Ah:p0<w.heap.size:=Yi _ _ h0;have e:=hx.2.2.block p0 (Yt Ah b.size);rw[dH hn,dH hn]at e;have e2:=b.block p0 Ah;unfold World.cell? at h0⊢;rw[e,e2];exact h0
  . have e:=hx.2.2.block k hk;rwa[dH hb,dH hb]at e)
 have Ah:p0<w.heap.size:=Yi _ _ h0;have Cl:=h.lt;have Aa:p0≠G.b:=by
  rintro rfl
  have:=h.cell 0
  rw[h0]at this;simp[zC]at this
 have Ae:=Hd Aa;clear h ok;generalize (if aG nm.data.toList r=true then r.tail else r)=rr at *;generalize aG nm.data.toList r=cb at *;go_in
 go_upto_region 1 with(fail);generalize Af:w.alloc _=w1;have Ac:=Hd (show Below w.heap.size w w1 by rw[<-Af];exact(Yg _ _).alloc (Yh _) _);have d0:w1.cell? ⟨p0,0,none⟩=some (aH G.b):=(Ac.o.cell Ah).trans h0;have Ad:w1.heap[w.heap.size]?=some (.cells #[.string nm,.slice A n c] 64):=aKn;have d1:=bU Ad 0 (.string nm) rfl;have Dg:w.heap.size<w1.heap.size:=vF;have Aq:w.heap.size≠G.b:=aA;clear Af;go_region_held3 (fun W=>W.cell? ⟨p0,0,none⟩=some (aH G.b)/\W.cell? ⟨w.heap.size,0,none⟩=some (.string nm)) (first|exact⟨d0,d1⟩|exact⟨z0,z1⟩)
  ((go_at_call 148;refine(HT.o _ (eP Ac.o _)).mono ?_;rintro e w3 ⟨rfl,ha,hz,hs,hk⟩;have HA:=Hd ha;have z0:=hz Ae.o;have z1:w3.cell? ⟨w.heap.size,0,none⟩=some (.string nm):=(Yn (a:=⟨w.heap.size,0,none⟩) (hk _ Dg Aq)).trans d1;clear ha hz hs hk))
 go_wp2_with fail;go_ret;exact⟨rfl,HA.o⟩
theorem bYb(ok:G.Ok)(ge:GE G es)(h:G.St w r)(p0:Nat)(h0:w.cell? ⟨p0,0,none⟩=some (aH G.b)):
 Calls Tryz.prog 220 #[G.ve,.func (.func 218) #[] #[aH p0]] w fun e w'=>e=.returned (.int .i64 (nS es r))/\At G w (if 0<=nS es r then r.tail else r) w':=by
 obtain⟨E,ec,Aq,hE⟩:=ge.ve;rw[Aq];have Bs:p0≠G.b:=by
  rintro rfl
  have:=h.cell 0
  rw[h0]at this;simp[zC]at this
 have Ae:p0<w.heap.size:=Yi _ _ h0;have HR:=Hd fun w1 (hb:At G w r w1)=>(show cQ (bl G.b w1) E es.length es from(hE.below (by rw [fC];exact h.lo)).below (by rw [fC];exact hb.2));have HP:=Hd fun w1 (hb:At G w r w1)=>(show w1.cell? ⟨p0,0,none⟩=some (aH G.b) from by
  have e:=hb.2.block p0 Ae;rw[dH Bs,dH Bs]at e;exact(Yn (a:=⟨p0,0,none⟩) e).trans h0)
 have HK:=Hd fun w1 nm A n c (hb:At G w r w1)=>(bYa (r:=r) ok hb.1 nm A n c p0 (HP.o w1 hb)).mono fun e w' hx=>(show e=.returned (.bool (aG nm.data.toList r))/\At G w (if aG nm.data.toList r=true then r.tail else r) w' from⟨hx.1,hb.trans hx.2⟩);have Aa:=Hd (fun(k:Nat) hk hn hy=>show nS es r=(k:Int)by have:=aBt (l:=es) (f:=fun e:En=>aG e.1.data.toList r) (k:=k) (i:=0) hk hn hy;rwa[Nat.zero_add]at this);have Ey:=Hd (fun hn=>show nS es r=-1 from aEo (l:=es) (f:=fun e:En=>aG e.1.data.toList r) (i:=0) hn);have Ha:=Hd (At.refl h);have Ge:=Hd (fun(k:Nat)(hk:nS es r=(k:Int))=>show(if 0<=nS es r then r.tail else r)=r.tail from if_pos aA);have Fs:=Hd (fun(hk:nS es r=-1)=>show(if 0<=nS es r then r.tail else r)=r from if_neg aA);generalize (if 0<=nS es r then r.tail else r)=rr at *;generalize nS es r=Hb at *;have Fk:=Hd (rfl:es.length=es.length);have Ct:=hE.max;generalize Cq:es.length=n at Fk HR Aa Ey Ct⊢;clear h h0 Aq hE ok ge Cq;go_in
 go_wp2_with fail;go_loopw [5,8] (fun _ i wr=>∃k:Nat,k<=n/\i=.int .i64 k/\(∀j,j<k->aG (es[j]?.getD default).1.data.toList r=false)/\At G w r wr) (fun _ i _=>n-(intOf i).toNat)
 case atStart=>exact⟨0,Ys _,rfl,fun j hj=>absurd hj aA,Ha.o⟩
 case round=>
  obtain⟨k,hk,rfl,Ck,An⟩:=hrel;have HT:=Hd Ck;have Bk:=Hd An;clear Ck;by_cases Ah:k<n
  . obtain⟨b0,off,rfl,hb,hc⟩:=(HR.o wr An).at_ Ah;obtain⟨d0,A',n',c',d1,-⟩:=hc k Ah;have d0:=rU d0;have d1:=rU d1;have Bq:=Hd (HK.o wr (cM es k) A' n' c' An);have HH:=Hd (Aa.o k Ah HT.o);have HS:=Hd fun(hf:aG (es[k]?.getD default).1.data.toList r=false)=>qF (P:=fun j=>aG (es[j]?.getD default).1.data.toList r=false) HT.o hf;rw[enD]at HH HS;simp only at HH HS;clear An hc;generalize cM es k=nm at *;cases hq:aG nm.data.toList r with
    |true=>
     have HO:=Hd (HH.o hq);have HV:=Hd (Ge.o k HO.o);rw[hq,if_pos rfl]at Bq;go_wp2_with fail;refine Bq.o.mono ?_;rintro e w3 ⟨rfl,ha⟩;have HA:=Hd ha;clear ha;go_wp2_with fail;go_ret;rw[HV.o];exact⟨iL HO.o.symm,HA.o⟩
    |false=>
     have HO:=Hd (HS.o hq);rw[hq,if_neg aC]at Bq;go_wp2_with fail;refine Bq.o.mono ?_;rintro e w3 ⟨rfl,ha⟩;have HA:=Hd ha;clear ha;go_wp2_with fail;go_roundw;case rel=>exact⟨k+1,by omega,by go_num,HO.o,HA.o⟩
     case measure=>simp[intOf];omega
  . have Kl:k=n:=by omega
    have HN:=Hd (Ey.o fun j hj=>HT.o j aA);have HV:=Hd (Fs.o HN.o);go_wp2_with fail;go_ret;rw[HV.o];exact⟨iL HN.o.symm,Bk.o⟩
end
end
section
open Go.RowKit Go.Sort
section
variable {G:GQ}{D:Nat}{es:List En}{w w' w1 w2:World}{r r':List Tk}{N:Nat}
def CD(D:Nat)(M m:Nat)(d:Dc)(w:World):Prop:=w.heap[D]?=some (.cells (gG d) 130)
theorem aD5(hD:D≠G.b):OkC G (CD D):=fun M m d w w' h hb hM hk=>by
 have Ah:=(Ym.1 h).1;have e:=hk.block D Ah;rw[dH hD,dH hD]at e;exact e.trans h
theorem bBn{d d':Dc}{M m j:Nat}{v:Value}(h:CD D M m d w)(e:(gG d).setIfInBounds j v=gG d'):CD D M m d' (w.setCell ⟨D,j,none⟩ v):=by
 unfold CD at h⊢;exact bEj
theorem bYc{d:Dc}{M m:Nat}(h:CD D M m d w)(j:Nat):w.cell? ⟨D,j,none⟩=(gG d)[j]?:=by
 unfold World.cell?;rw[h];rfl
theorem yO{d:Dc}{M m:Nat}(h:CD D M m d w)(j:Nat):w.frozen? ⟨D,j,none⟩=false:=by
 unfold World.frozen?;rw[h];simp
theorem aC0{g:Bool}{d d':Dc}{j:Nat}{v:Value}(hD:D≠G.b)(h:eJ G D (CD D) w2 g d w)(e:(gG d).setIfInBounds j v=gG d'):eJ G D (CD D) w2 g d' (w.setCell ⟨D,j,none⟩ v):=by
 obtain⟨h1,m,h2,h3⟩:=h;exact⟨h1.set,m,fun hg=>by rw[bAa hD];exact h2 hg,bBn h3 e⟩
theorem pR{g:Bool}{d:Dc}(h:eJ G D (CD D) w2 g d w):w.heap[D]?=some (.cells (gG d) 130):=h.2.choose_spec.2
def aRr{α:Type}(x:PR α):List Tk:=match x with
 |.ok _ q=>q
 |.bad q=>q
theorem cBi{α:Type}{r:List Tk}{x:PR α}(h:Sf r x):(aRr x).length<=r.length:=by
 cases x with
 |ok a q=>exact h.length_le
 |bad q=>exact h.length_le
def yP(es:List En)(d:Dc)(r:List Tk):QR Dc:=
 if aG aA9 r=true then .ok { d with k:=1 } r.tail
 else if aG aDh r=true then .ok { d with k:=2 } r.tail
 else if 0<=nS es r then .ok { d with k:=3,e:=nS es r } r.tail else .bad r 2
def uK(d:Dc)(r:List Tk):QR Dc:=if aG [91] r=true then(ngP r.tail).q.bind fun n r=>(aR [93] r).q.bind fun _ r=>.ok { d with l:=n } r else .ok d r
def yQ(d:Dc)(r:List Tk):QR Dc:=if aG gR r=true then(dU r.tail).q.bind fun z r=>.ok { d with on:=aB z.1,ct:=aB z.2 } r else .ok d r
theorem bQf(ok:G.Ok)(ge:GE G es)(hD:D≠G.b/\G.W.heap.size<=D)(p0 p1 p2 p3:Nat)(h0:Hs (eJ G D (CD D) w2) p0 (aH G.b))(h1:Hs (eJ G D (CD D) w2) p1 (.pointer (some ⟨D,1,none⟩)))(h2:Hs (eJ G D (CD D) w2) p2 (bN 218 #[aH p3]))(h3:Hs (eJ G D (CD D) w2) p3 (aH G.b)):
 iS G (eJ G D (CD D) w2) (bN 219 #[aH p0,aH p1,aH p2]) (yP es):=by
 intro d r w h hi;refine nJ ?_;have o:jV G (eJ G D (CD D) w2):=rK (aD5 hD.1) w2;have Fw:=Hd (yC ⟨#[105,110,116]⟩ ok h);have Aq:=Hd fun w1 (h1:G.St w1 r)=>yC ⟨#[98,111,111,108]⟩ ok h1;have Hc:=Hd fun w1 (h1:G.St w1 r) hc=>bYb (es:=es) ok ge h1 p3 hc;have Nl:=Hd fun w1 (h1:G.St w1 r)=>aCz ok h1;have HI:=Hd fun w' r' ha hl=>o.st d w w' r r' h hi ha hl;have H0:=Hd h0;have H1:=Hd h1;have H2:=Hd h2;have H3:=Hd h3;have HD:=Hd hD;have HO:=Hd o;obtain⟨E,ec,Nm,-⟩:=ge.ve;have Ni:=Hd ge.lock;have d0:=h0 d w hi;have HQ:=Hd (show yP es d r=if aG aA9 r=true then .ok { d with k:=1 } r.tail else if aG aDh r=true then .ok { d with k:=2 } r.tail else if 0<=nS es r then .ok { d with k:=3,e:=nS es r } r.tail else .bad r 2 from rfl);rw[HQ.o];rw[show(⟨#[105,110,116]⟩:BA).data.toList=aA9 from rfl]at Fw;rw[show(⟨#[98,111,111,108]⟩:BA).data.toList=aDh from rfl]at Aq;clear h hi h0 h1 h2 h3 ok ge hD o Nm HQ;cases hc:aG aA9 r with
 |true=>
  rw[hc,if_pos rfl]at Fw;rw[if_pos rfl];go_in
  go_wp2_with fail;refine Fw.o.mono ?_;rintro e w1 ⟨rfl,ha⟩;have HA:=Hd ha;have Aa:=HI.o _ _ ha aC;have Kq:=Hd Aa;have d1:=H1.o _ _ Aa;have c1:w1.cell? ⟨D,1,none⟩=some (.int .i64 d.k):=bU (pR Aa) 1 _ rfl;have f1:w1.frozen? ⟨D,1,none⟩=false:=yO (M:=0) (m:=0) (pR Aa) 1;clear ha Aa;exact bC7
 |false=>
  rw[hc,if_neg aC]at Fw;rw[if_neg aC];cases Nk:aG aDh r with
  |true=>
   have Aq:=Hd fun w1 h1=>Aq.o w1 h1;rw[Nk,if_pos rfl]at Aq;rw[if_pos rfl];go_in
   go_wp2_with fail;refine Fw.o.mono ?_;rintro e w0 ⟨rfl,Ae⟩;have Bs:=Hd Ae;have Fs:=HI.o _ _ Ae aC;have Nh:=H0.o _ _ Fs;clear Ae;go_wp2_with fail;refine(Aq.o w0 Bs.o.1).mono ?_;rintro e w1 ⟨rfl,ha⟩;have HA:=Hd ha;have Aa:=HI.o _ _ (Bs.o.trans ha) aC;have Kq:=Hd Aa;have d1:=H1.o _ _ Aa;have c1:w1.cell? ⟨D,1,none⟩=some (.int .i64 d.k):=bU (pR Aa) 1 _ rfl;have f1:w1.frozen? ⟨D,1,none⟩=false:=yO (M:=0) (m:=0) (pR Aa) 1;clear ha Aa Fs;exact bC7
  |false=>
   have Aq:=Hd fun w1 h1=>Aq.o w1 h1;rw[Nk,if_neg aC]at Aq;rw[if_neg aC];generalize Nn:nS es r=ix at *;by_cases h0:0<=ix
   . have hd:decide (ix<0)=false:=Xd aA;rw[if_pos h0];rw[if_pos h0]at Hc;clear h0;go_in
     go_wp2_with fail;refine Fw.o.mono ?_;rintro e w0 ⟨rfl,Ae⟩;have Bs:=Hd Ae;have Fs:=HI.o _ _ Ae (Yh _);have Nh:=H0.o _ _ Fs;clear Ae Fs;go_wp2_with fail;refine(Aq.o w0 Bs.o.1).mono ?_;rintro e w1 ⟨rfl,ha⟩;have HA:=Hd (Bs.o.trans ha);have Aa:=HI.o _ _ (Bs.o.trans ha) (Yh _);have e0:=H0.o _ _ Aa;have e2:=H2.o _ _ Aa;have e3:w1.cell? ⟨G.b,2,none⟩=some G.ve:=HA.o.1.cellE Ni.o;have Jx:=Hd (H3.o _ _ Aa);have Ha:=Hd fun W (b:Below w1.heap.size w1 W)=>(Hc.o W (HA.o.1.below b) ((b.cell (Yi _ _ Jx.o)).trans Jx.o)).mono fun e w' hx=>(show e=.returned (.int .i64 ix)/\At G w r.tail w'/\eJ G D (CD D) w2 true d w' from by
      have Ar:=HA.o.trans ((At.below HA.o.1 b).trans hx.2);exact⟨hx.1,Ar,HI.o _ _ Ar aC⟩)
     have Nj:=Hd fun W r2 (h:G.St W r2)=>(show W.cell? ⟨G.b,2,none⟩=some G.ve from h.cellE Ni.o);clear ha Aa d0 Nh Hc;go_upto_region 7 with(fail);go_region_held3 (fun W=>W.cell? ⟨p0,0,none⟩=some (aH G.b)/\W.cell? ⟨p2,0,none⟩=some (bN 218 #[aH p3])/\W.cell? ⟨G.b,2,none⟩=some G.ve) (first|exact⟨e0,e2,e3⟩|exact⟨z0,z2,z3⟩)
      ((go_at_call 220;refine(Ha.o _ (eP (Yg _ _) _)).mono ?_;rintro e w3 ⟨rfl,ha,Ct⟩;have Ng:=Hd ha;have Hb:=Hd Ct;have z0:=H0.o _ _ Ct;have z2:=H2.o _ _ Ct;have z3:=Nj.o _ _ ha.1;clear ha Ct))
     clear e0 e2 e3;have x1:=H1.o _ _ Hb.o;have c1:w3.cell? ⟨D,1,none⟩=some (.int .i64 d.k):=bU (pR Hb.o) 1 _ rfl;have c2:w3.cell? ⟨D,2,none⟩=some (.int .i64 d.e):=bU (pR Hb.o) 2 _ rfl;have f1:w3.frozen? ⟨D,1,none⟩=false:=yO (M:=0) (m:=0) (pR Hb.o) 1;have f2:w3.frozen? ⟨D,2,none⟩=false:=yO (M:=0) (m:=0) (pR Hb.o) 2;clear z0 z2 z3;go_upto_region 10 with(fail);go_region;go_wp2_with fail
     all_goals
      go_ret;have Av:=((Ng.o.1.setCell (j:=1) (v:=.int .i64 3) HD.o.1 HD.o.2).setCell (j:=2) (v:=.int .i64 ix) HD.o.1 HD.o.2);have Dw:eJ G D (CD D) w2 true { d with k:=3,e:=ix } ((w3.setCell ⟨D,1,none⟩ (.int .i64 3)).setCell ⟨D,2,none⟩ (.int .i64 ix)):=aC0 (d:={ d with k:=3 }) HD.o.1 (aC0 HD.o.1 Hb.o rfl) rfl;exact⟨rfl,Av.drew,by simp,HO.o.below Av Dw (eP (Yg _ _) 1)⟩
   . have hd:decide (ix<0)=true:=Xc aA;rw[if_neg h0];rw[if_neg h0]at Hc;clear h0;go_in
     go_wp2_with fail;refine Fw.o.mono ?_;rintro e w0 ⟨rfl,Ae⟩;have Bs:=Hd Ae;have Fs:=HI.o _ _ Ae (Yh _);have Nh:=H0.o _ _ Fs;clear Ae Fs;go_wp2_with fail;refine(Aq.o w0 Bs.o.1).mono ?_;rintro e w1 ⟨rfl,ha⟩;have HA:=Hd (Bs.o.trans ha);have Aa:=HI.o _ _ (Bs.o.trans ha) (Yh _);have e0:=H0.o _ _ Aa;have e2:=H2.o _ _ Aa;have e3:w1.cell? ⟨G.b,2,none⟩=some G.ve:=HA.o.1.cellE Ni.o;have Jx:=Hd (H3.o _ _ Aa);have Ha:=Hd fun W (b:Below w1.heap.size w1 W)=>(Hc.o W (HA.o.1.below b) ((b.cell (Yi _ _ Jx.o)).trans Jx.o)).mono fun e w' hx=>(show e=.returned (.int .i64 ix)/\At G w r w'/\eJ G D (CD D) w2 true d w' from by
      have Ar:=HA.o.trans ((At.below HA.o.1 b).trans hx.2);exact⟨hx.1,Ar,HI.o _ _ Ar (Yh _)⟩)
     have Nj:=Hd fun W r2 (h:G.St W r2)=>(show W.cell? ⟨G.b,2,none⟩=some G.ve from h.cellE Ni.o);clear ha Aa d0 Nh Hc;go_upto_region 7 with(fail);go_region_held3 (fun W=>W.cell? ⟨p0,0,none⟩=some (aH G.b)/\W.cell? ⟨p2,0,none⟩=some (bN 218 #[aH p3])/\W.cell? ⟨G.b,2,none⟩=some G.ve) (first|exact⟨e0,e2,e3⟩|exact⟨z0,z2,z3⟩)
      ((go_at_call 220;refine(Ha.o _ (eP (Yg _ _) _)).mono ?_;rintro e w3 ⟨rfl,ha,Ct⟩;have Ng:=Hd ha;have Hb:=Hd Ct;have z0:=H0.o _ _ Ct;have z2:=H2.o _ _ Ct;have z3:=Nj.o _ _ ha.1;clear ha Ct))
     clear e0 e2 e3;go_wp2_with fail;refine(Nl.o w3 Ng.o.1).mono ?_;rintro e w4 ⟨rfl,h4⟩;have H4:=Hd (Ng.o.trans h4);clear h4;go_wp2_with fail;go_ret;exact⟨rfl,⟨_,H4.o.1,Yh _⟩,d,HO.o.weak _ _ (HI.o _ _ H4.o (Yh _))⟩
theorem bK2(ok:G.Ok)(hD:D≠G.b/\G.W.heap.size<=D)(p0 p1:Nat)(h0:Hs (eJ G D (CD D) w2) p0 (aH G.b))(h1:Hs (eJ G D (CD D) w2) p1 (.pointer (some ⟨D,1,none⟩))):
 iS G (eJ G D (CD D) w2) (bN 221 #[aH p0,aH p1]) uK:=by
 intro d r w h hi;refine nJ ?_;have o:jV G (eJ G D (CD D) w2):=rK (aD5 hD.1) w2;have Fw:=Hd (yC ⟨#[91]⟩ ok h);have Eb:=Hd fun w1 r1 (h1:G.St w1 r1)=>(bUe ok h1).mono fun e w' hx=>hx.get;have Cg:=Hd fun w1 r1 (h1:G.St w1 r1)=>(bBj ⟨#[93]⟩ ok h1).mono fun e w' hx=>hx.get;have HI:=Hd fun w' r' ha hl=>o.st d w w' r r' h hi ha hl;have H0:=Hd h0;have H1:=Hd h1;have HD:=Hd hD;have HO:=Hd o;have d0:=h0 d w hi;rw[show(⟨#[91]⟩:BA).data.toList=[91]from rfl]at Fw;rw[show(⟨#[93]⟩:BA).data.toList=[93]from rfl]at Cg;have Fs:uK d r=if aG [91] r=true then(ngP r.tail).q.bind fun n r=>(aR [93] r).q.bind fun _ r=>.ok { d with l:=n } r else .ok d r:=rfl
 rw[Fs];clear h hi h0 h1 ok hD o Fs;cases hc:aG [91] r with
 |false=>
  exact aRg
 |true=>
  rw[hc,if_pos rfl]at Fw;rw[if_pos rfl]
  have Hb:∀q,(aRr (ngP q)).length<=q.length:=fun q=>by
   unfold ngP;cases q with
   |nil=>exact Yh _
   |cons t q=>
    simp only;split;· simp[aRr]
    . exact Yh _
  have Ha:=Hd (Hb r.tail);clear Hb;generalize An:ngP r.tail=x at *;cases x with
  |bad q=>
   show Calls _ _ _ _ (jG G (eJ G D (CD D) w2) r.length (.bad q 2));go_in
   go_wp2_with fail;refine Fw.o.mono ?_;rintro e w1 ⟨rfl,ha⟩;have HA:=Hd ha;have Ae:=HI.o _ _ ha aC;have d1:=H0.o _ _ Ae;have Jm:=Hd (Eb.o w1 _ HA.o.1);rw[An]at Jm;clear ha Ae d0;go_wp2_with fail;refine Jm.o.mono ?_;rintro e w3 ⟨v,r1,rfl,Ar,rfl,hv⟩;obtain rfl:=hv;have Aq:=Hd (HA.o.trans Ar);clear Ar An;unfold iX;go_wp2_with fail;go_ret;have hl:r1.length<=r.length:=Yr Ha.o aC;exact⟨rfl,⟨_,Aq.o.1,hl⟩,d,HO.o.weak _ _ (HI.o _ _ Aq.o hl)⟩
  |ok n q=>
   show Calls _ _ _ _ (jG G (eJ G D (CD D) w2) r.length ((aR [93] q).q.bind fun _ r=>.ok { d with l:=n } r));have Ct:=Hd (show q.length<=r.length from Yr Ha.o aC);have Hc:=Hd fun w1 (h1:G.St w1 q)=>Cg.o w1 q h1;have Iv:=Hd (cBi (sf_need [93] q));generalize aR [93] q=y at *;go_in
   go_wp2_with fail;refine Fw.o.mono ?_;rintro e w1 ⟨rfl,ha⟩;have HA:=Hd ha;have Ae:=HI.o _ _ ha aC;have d1:=H0.o _ _ Ae;have Jm:=Hd (Eb.o w1 _ HA.o.1);rw[An]at Jm;clear ha Ae d0;go_wp2_with fail;refine Jm.o.mono ?_;rintro e w3 ⟨v,r1,rfl,Ar,rfl,rfl⟩;have Aq:=Hd (HA.o.trans Ar);have Aa:=HI.o _ _ (HA.o.trans Ar) Ct.o;have c1:w3.cell? ⟨D,3,none⟩=some (.int .i64 d.l):=bU (pR Aa) 3 _ rfl;have f1:w3.frozen? ⟨D,3,none⟩=false:=yO (M:=0) (m:=0) (pR Aa) 3;have e0:=H0.o _ _ Aa;have e1:=H1.o _ _ Aa;have Dw:eJ G D (CD D) w2 true { d with l:=n } (w3.setCell ⟨D,3,none⟩ (.int .i64 n)):=aC0 HD.o.1 Aa rfl;have Ho:=Hd (Aq.o.1.setCell (j:=3) (v:=.int .i64 n) HD.o.1 HD.o.2);have Cx:=Hd Dw;have y0:=H0.o _ _ Dw;clear Ar An d1 Aa Dw;go_wp2_with fail;refine(Hc.o _ Ho.o).mono ?_;rintro e w4 ⟨v,Jx,rfl,Ar,hx⟩;have Bs:=Hd Ar;have HX:=Hd hx;clear Ar hx;go_wp2_with fail;go_ret;have hx:=HX.o;have hl:=Iv.o;cases y with
   |ok u q2=>
    obtain⟨rfl,rfl⟩:=hx;exact⟨rfl,Bs.o.1,Yr hl Ct.o,HO.o.st _ _ _ _ _ Ho.o Cx.o Bs.o hl⟩
   |bad q2=>
    obtain⟨rfl,rfl⟩:=hx;exact⟨rfl,⟨_,Bs.o.1,Yr hl Ct.o⟩,_,HO.o.weak _ _ (HO.o.st _ _ _ _ _ Ho.o Cx.o Bs.o hl)⟩
end
end
section
variable {G:GQ}{es:List En}{r:List Tk}
theorem bYd(ge:GE G es)(tg:TkG r){d:Dc}(hd:d.e=0):yP es d r=(wQ es r).q.bind fun b r=>.ok { d with k:=b.1,e:=b.2 } r:=by
 unfold yP wQ;split;· simp[hd]
 . split;· simp[hd]
   . obtain⟨t,q,rfl⟩:=tg.end_.cons_;rw[bQe ge (tg.2.1 t Zc)];simp only;by_cases hk:t.k=1
     . rw[if_pos hk];rcases aS2 (f:=fun e:En=>e.1.data.toList==t.s) es 0 with hx|hx
       . have hx:aAr es t.s=-1:=hx;rw[hx,if_neg aA,if_neg aC];rfl
       . have hx:0<=aAr es t.s:=hx;have Bv:aAr es t.s≠-1:=aA;obtain⟨e,he,h2⟩:=aV9 (show dL (fun e:En=>e.1.data.toList==t.s) es 0≠-1 from Bv);have h3:=(ge.nm e he).1;rw[beq_iff_eq]at h2;rw[h2]at h3;rw[if_pos hx,if_pos ⟨hk,Bv⟩];simp[bT,hk,h3]
     . rw[if_neg hk,if_neg aA,if_neg (fun h=>hk h.1)];rfl
theorem bQg{d:Dc}(hd:d.l=0):uK d r=if aG [91] r=true then
 (match r.tail with
 |t::q=>if t.k=3/\1<=t.n/\t.n<=8 then(aR [93] q).q.bind fun _ q=>.ok { d with l:=t.n } q else .bad (t::q) 2
 |[]=>.bad [] 2)
 else .ok { d with l:=0 } r:=by
 unfold uK;split
 . cases r.tail with
   |nil=>rfl
   |cons t q=>
    simp only[ngP];split<;>rfl
 . rw[show d={ d with l:=0 }by rw[<-hd]]
theorem cC8(ge:GE G es)(tg:TkG r){d:Dc}(he:d.e=0)(hl:d.l=0):((yP es d r).bind fun d r=>uK d r)=(rI es r).q.bind fun t r=>.ok { d with k:=t.1,e:=t.2.1,l:=t.2.2 } r:=by
 rw[bYd ge tg he];unfold rI;rw[mP,dV,dV];refine QR.congr fun b q _=>?_;rw[QR.bind_ok,bQg (d:={ d with k:=b.1,e:=b.2 }) hl];split
 . cases q.tail with
   |nil=>rfl
   |cons t z=>
    simp only;exact bEk
 . rfl
def dc0:Dc:=⟨⟨#[]⟩,0,0,0,⟨#[]⟩,⟨#[]⟩⟩
def bFi(es:List En):List (Dc->List Tk->QR Dc):=[eB bT fun s d=>{ d with nm:=aB s },dN [58],yP es,uK,yQ]
theorem bYe(ge:GE G es)(tg:TkG r):eV (bFi es) dc0 r=(fK es r).q:=by
 have s1:=sf_name r;have e1:=wB (n:=r.length) tg.end_ aA;show((eB bT (fun s d=>{ d with nm:=aB s }) dc0 r).bind fun t r=>(dN [58] t r).bind fun t r=>(yP es t r).bind fun t r=>(uK t r).bind fun t r=>(yQ t r).bind fun t r=>.ok t r)=_;unfold eB fK;rw[mP,dV];refine QR.congr fun n q hq=>?_;rw[PR.ofq hq]at s1 e1;have Aa:=tg.suf s1 e1.1;have s2:=sf_need [58] q;have e2:=lR (s:=[58]) (n:=q.length) Aa.end_ aA;rw[QR.bind_ok,mP];unfold dN;rw[dV];refine QR.congr fun u z hz=>?_;rw[PR.ofq hz]at s2 e2;have Ae:=Aa.suf s2 e2.1;rw[QR.bind_ok,mP];have ht:=cC8 ge Ae (d:={ dc0 with nm:=aB n }) rfl rfl
 have:∀(x:QR Dc),(x.bind fun t r=>(uK t r).bind fun t r=>(yQ t r).bind fun t r=>.ok t r)=(x.bind fun d r=>uK d r).bind fun t r=>(yQ t r).bind fun t r=>QR.ok t r:=fun x=>by rw[dV]
 rw[this,ht,dV];refine QR.congr fun t y _=>?_;rw[QR.bind_ok];unfold yQ;exact bEk
end
section
variable {G:GQ}{es:List En}{r:List Tk}
def aC1(q:Qn)(r:List Tk):QR Qn:=(qT r).bind fun x r=>.ok { q with x:=x } r
def aKh:Ex:=.mk 0 0 ⟨#[]⟩ 0 [] []
def qn0:Qn:=⟨[],aKh⟩
def eqF:List (Qn->List Tk->QR Qn):=[fun t r=>lX (eB (iR 1) fun s q=>{ q with ns:=q.ns++[aB s] }) [44] r.length t r,dN [61],aC1,dN [59]]
theorem cC9{τ:Type}(up:ByteArray->τ->τ):eB (iR 1) (fun s t=>up (aB s) t)=fun t r=>(bT r).q.bind fun s r=>.ok (up (aB s) t) r:=by
 funext t r;unfold eB;rw[aV5]
theorem cDa(tg:TkG r):eV eqF qn0 r=nA r:=by
 show((lX (eB (iR 1) fun s q=>{ q with ns:=q.ns++[aB s] }) [44] r.length qn0 r).bind fun t r=>(dN [61] t r).bind fun t r=>(aC1 t r).bind fun t r=>(dN [59] t r).bind fun t r=>.ok t r)=_;unfold qn0;rw[cC9 fun s (q:Qn)=>{ q with ns:=q.ns++[s] }];rw[aLv (fun r n h hl=>wB h hl) (fun s (q:Qn)=>{ q with ns:=q.ns++[s] }) (fun l=>⟨l,aKh⟩) (fun l s=>rfl) r.length [] r tg.end_ (Yh _)];unfold nA;rw[dV];refine QR.congr fun n q _=>?_;rw[dV];refine QR.congr fun l q _=>?_;rw[QR.bind_ok];unfold dN aC1;rw[dV];refine QR.congr fun u q _=>?_;rw[QR.bind_ok,dV];refine QR.congr fun x q _=>?_;rw[QR.bind_ok,dV];exact QR.congr fun u q _=>rfl
theorem aNj{τ α:Type}{p:List Tk->PR α}{up:α->τ->τ}(h:∀r n,aU r->r.length<=n+1->fS n (p r)):pU (eB p up):=by
 intro t r t' r' tg e;have hp:=rO tg.end_;have h1:=h r (r.length-1) tg.end_ aA;unfold eB at e;cases hx:p r with
 |bad q=>rw[hx]at e;cases e
 |ok a q=>
  exact aJx
end
end Go.Proofs.YtagkcjpoipcpkaaGreatDoor
