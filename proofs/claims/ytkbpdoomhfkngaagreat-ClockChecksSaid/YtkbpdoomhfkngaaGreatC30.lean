/- A part of the proof. Conditions: each theorem's own. -/
import Derived.Test.YtkbpdoomhfkngaaGreatC27
import Derived.Test.YtkbpdoomhfkngaaGreatC29
namespace Go.Proofs.YtkbpdoomhfkngaaGreat
set_option linter.unusedVariables false
set_option linter.unusedSimpArgs false
set_option maxRecDepth 100000
set_option maxHeartbeats 40000000
section
open Go.RowKit Go.Sort Go.BigFrame
theorem bEu(p:Pg)(x:Nd)(r:Rm)(y:Ex)(A:Option Addr)(ca:Nat)(B:Option Addr)(cb:Nat)(S:Option Addr)(m sc:Nat)(ts:List T3)(w:World)(h:dF w p x r)(hS:aR w S m ts)(hk:y.k=5\/y.k=6\/y.k=7\/y.k=14\/y.k=15\/y.k=16)(hm:rV y.k<=m):
 Calls Tryz.prog 115 #[.agg (aY p x r),.agg (aE y A ca B cb),.slice S m sc] w (bF w (mK y ts)):=by
 rcases hk with hk|hk|hk|hk|hk|hk;· exact bEm p x r y A ca B cb S m sc ts w h hS hk aAj _ tY
 . exact bEn p x r y A ca B cb S m sc ts w h hS hk aAj _ tY
 . have Aq:3<=m:=by rw[hk]at hm;simp[rV]at hm;omega
   have e:mK y ts=(if(fV (aD ts 0) && decide (aD ts 1=aD ts 2))=true then some (aD ts 1)else none):=tY;cases ht:fV (aD ts 0)with
   |false=>exact bBm p x r y A ca B cb S m sc ts w h hS hk Aq ht _ (by rw[e,ht];rfl)
   |true=>
    refine bBl p x r y A ca B cb S m sc ts w h hS hk Aq ht _ ?_;rw[e,ht,Bool.true_and];by_cases he:aD ts 1=aD ts 2;· rw[if_pos he,if_pos (Zy he)]
    . rw[if_neg he,if_neg sH]
 . exact bBk p x r y A ca B cb S m sc ts w h hS hk aAj _ tY
 . exact bBg p x r y A ca B cb S m sc ts w h hS hk aAj _ tY
 . have Aq:3<=m:=by rw[hk]at hm;simp[rV]at hm;omega
   have e:mK y ts=(if(decide (0<(aD ts 0).2.2) && (lU (aD ts 1) && decide (aD ts 2=kU (aD ts 0))))=true then some (aD ts 0)else none):=tY;rw[<-Bool.and_assoc]at e;rw[show(decide (0<(aD ts 0).2.2) && lU (aD ts 1))=oQ ts from rfl]at e;cases ht:oQ ts with
   |false=>exact aX6 p x r y A ca B cb S m sc ts w h hS hk Aq _ (by rw[e,ht];rfl) ht
   |true=>
    refine aX7 p x r y A ca B cb S m sc ts w h hS hk Aq ht _ ?_;rw[e,ht,Bool.true_and];exact aNk
theorem aVf{x:Ex}(h:bO x=true)(hk:x.k=11):∃a,x.arms=[a]:=by
 have h2:=aBt h;unfold iP at h2;rw[hk]at h2;simp only[Ys]at h2;exact List.length_eq_one_iff.1 (by simpa using h2.2)
theorem aHu{x:Ex}(h:bO x=true)(hk:x.k=12):0<x.arms.length:=by
 have h2:=aBt h;unfold iP at h2;rw[hk]at h2;simp at h2
 have:=h2.2
 omega
theorem bGz(p:Pg)(i:Nat)(r:Rm)(y:Ex)(A:Option Addr)(ca:Nat)(B:Option Addr)(cb:Nat)(S:Option Addr)(m sc:Nat)(ts:List T3)(w:World)(h:dF w p (aB p i) r)(hr:aH w y A B)(hS:aR w S m ts)(hl:qN S m sc)(Bp:9<=y.k)(Aq:y.k<=13)(hm:wC y.k<=m)(hp:bO y=true)(Df:y.k=13->y.n<=m)(he:dB p.es=0)(Fc:∀s d,aZ (aB p i) s=some d->bQ p.es.length d.k d.e d.l=true)(De:∀j,j<p.ns.length->(aB p j).ins.length<=1000/\(aB p j).outs.length<=1000):
 Calls Tryz.prog 115 #[.agg (aY p (aB p i) r),.agg (aE y A ca B cb),.slice S m sc] w (bF w (jK p i y ts)):=by
 rcases(show y.k=9\/y.k=10\/y.k=11\/y.k=12\/y.k=13 by omega)with hk|hk|hk|hk|hk;· exact bEp p (aB p i) r y A ca B cb S m sc ts w h hS hk aAk _ sC
 . exact bBd p (aB p i) r y A ca B cb S m sc ts w h hS hk aAk _ sC
 . refine bBe p (aB p i) r y A ca B cb S m sc ts w h hS hr hk aAk _ ?_;obtain⟨a,ha⟩:=aVf hp hk;have e:jK p i y ts=match aZ (aB p i) y.s with|none=>none|some d=>match bP p.es (y.arms[0]?.getD ByteArray.empty)with|none=>none|some r=>if((r.1,r.2.1,0):T3)=aS d then some (aD ts 0)else none:=sC
   rw[e,ha];unfold fL;rw[List.all_cons,List.all_nil,Bool.and_true];unfold iH gM;simp only[Yz,Yt];cases aZ (aB p i) y.s with
   |none=>cases bP p.es a<;>rfl
   |some d=>
    cases bP p.es a with
    |none=>rfl
    |some q=>
     simp only;by_cases hq:((q.1,q.2.1,0):T3)=aS d;· rw[if_pos hq,if_pos (Zy hq.symm)]
     . rw[if_neg hq,if_neg (by simpa using fun e=>hq e.symm)]
 . refine bBf p (aB p i) r y A ca B cb S m sc ts w h hS hr hk aAk (aHu hp hk) (Fc y.s) _ ?_;have e:jK p i y ts=match aZ (aB p i) y.s with|none=>none|some d=>if(eA ts && kQ p.es (aS d) y.arms)=true then some (aD ts 0)else none:=sC
   rw[e,aX2 he (aHu hp hk) (Fc y.s)];cases aZ (aB p i) y.s with
   |none=>simp
   |some d=>rfl
 . exact bBi p (aB p i) r y A ca B cb S m sc ts w h hS hk hl (vC hp hk) (Df hk) De _ sC
theorem bEv{x:Ex}(hn:x.k=13->x.n=0\/x.n=1):(eV x).2<=8+(x.arms.length:Int):=by
 unfold eV;repeat' split
 all_goals first|(dsimp only;omega)|(rename_i h;have:=hn iI;dsimp only;omega)
theorem aPd(p:Pg)(i:Nat)(r:Rm)(he:dB p.es=0)(Fc:∀s d,aZ (aB p i) s=some d->bQ p.es.length d.k d.e d.l=true)(De:∀j,j<p.ns.length->(aB p j).ins.length<=1000/\(aB p j).outs.length<=1000):
 ∀(y:Ex)(A:Option Addr)(ca:Nat)(B:Option Addr)(cb:Nat)(w:World),dF w p (aB p i) r->aH w y A B->mT y->
  Calls Tryz.prog 76 #[.agg (aY p (aB p i) r),.agg (aE y A ca B cb)] w (bF w (cZ p i y)):=by
 refine nK fun y ih A ca B cb w h hr hg=>?_;obtain⟨Od,Gu⟩:=hg.self;obtain⟨Of,Oe⟩:=aIs Gu;have Oa:y.subs.length<=8+y.arms.length:=by
  exact aNd
 have Jx:y.subs.length<=1000:=by have:=Od.2.2;omega
 have Nw:=aL4 p (aB p i) r B y.subs.length cb y.subs;have Nv:∀w1,Below w.heap.size w w1->Calls Tryz.prog 77 #[.agg (aY p (aB p i) r),.slice B y.subs.length cb] w1 (tG w1 (bV (y.subs.map (cZ p i)))):=fun w1 hb=>
  Nw w1 (h.below hb) (hr.below hb).subs Jx (y.subs.map (cZ p i)) aG _ rfl (fun k hk A' Ob B' Oc w2 Ad Ap=>by
   rw[vI hk];exact ih k hk A' Ob B' Oc w2 (h.below (hb.tr Ad)) Ap (hg.sub hk))
 have Aq:∀ts,bV (y.subs.map (cZ p i))=some ts->ts.length=y.subs.length:=fun ts Bp=>by
  have:=rF Bp
  rwa[List.length_map]at this
 by_cases h1:y.k=1;· exact bGw p (aB p i) r y A ca B cb w h hr h1 hg.1 (fun q hq=>(hg.2 q hq).1) _ (by rw[lP,uW (.inl h1)])
 by_cases h2:y.k=2;· exact bGx p (aB p i) r y A ca B cb w h hr h2 hg.1 (fun q hq=>(hg.2 q hq).1) _ (by rw[lP,uW (.inr (.inl h2))])
 by_cases h4:y.k=4;· exact bGy p (aB p i) r y A ca B cb w h hr h4 hg.1 (fun q hq=>(hg.2 q hq).1) _ (by rw[lP,uW (.inr (.inr h4))])
 by_cases h3:y.k=3;· exact bHs p (aB p i) r y A ca B cb w h h3 _ (by rw[lP,aK1 h3])
 by_cases h8:y.k=8
 . have Nz:y.subs.length=2:=by
    have ha:=rD Gu;have hb:(y.subs.length:Int)<=(eV y).2:=by
     have hq:=Gu;unfold bO at hq;simp only[Ys,decide_eq_true_eq]at hq;exact hq.1.2
    rw[zG h8]at ha hb;simp at ha hb;omega
   refine aAd p (aB p i) r y A ca B cb w h ⟨h1,h2,h3,h4⟩ _ (fun ts=>aA4 (eG p.es (aM y 0)) ts) Nv (fun ts Bp S n c w1 hb Cz Nt=>?_) _ ?_
   . have hn:=Aq ts Bp;have Ny:=Cz.len;exact bEt p (aB p i) r y A ca B cb S n c ts w1 (h.below hb) Cz (hr.below hb) h8 aA aA (hg.sub aA).1 (fun q hq=>((hg.sub aA).2 q hq).1) _ rfl
   . rw[bGu h8 Nz];exact aEq
 by_cases Nx:y.k=17
 . refine aAd p (aB p i) r y A ca B cb w h ⟨h1,h2,h3,h4⟩ _ (fun ts=>none) Nv (fun ts Bp S n c w1 hb Cz Nt=>?_) _ ?_;· exact bBj p (aB p i) r y A ca B cb S n c ts w1 (h.below hb) Cz Nx _ rfl
   . rw[lP,<-aK3 Nx];exact aEq
 by_cases Bx:9<=y.k/\y.k<=13
 . refine aAd p (aB p i) r y A ca B cb w h ⟨h1,h2,h3,h4⟩ _ (fun ts=>jK p i y ts) Nv (fun ts Bp S n c w1 hb Cz Nt=>?_) _ ?_
   . have hn:=Aq ts Bp;have Ny:=Cz.len;refine bGz p i r y A ca B cb S n c ts w1 (h.below hb) (hr.below hb) Cz Nt Bx.1 Bx.2 (by have:=(aIt Gu Bx.1 Bx.2).1;omega) Gu (fun hk=>?_) he Fc De;have ha:=rD Gu;unfold eV at ha;simp[hk]at ha;omega
   . rw[lP];cases hs:bV (y.subs.map (cZ p i))with
     |none=>rw[aCs (.inr Bx) hs];rfl
     |some ts=>rw[aJz Bx.1 Bx.2 hs];rfl
 . have Nu:y.k=5\/y.k=6\/y.k=7\/y.k=14\/y.k=15\/y.k=16:=by omega
   refine aAd p (aB p i) r y A ca B cb w h ⟨h1,h2,h3,h4⟩ _ (fun ts=>mK y ts) Nv (fun ts Bp S n c w1 hb Cz Nt=>?_) _ ?_
   . have hn:=Aq ts Bp;have Ny:=Cz.len;exact bEu p (aB p i) r y A ca B cb S n c ts w1 (h.below hb) Cz Nu (by have:=aHp Gu Nu;omega)
   . rw[lP];cases hs:bV (y.subs.map (cZ p i))with
     |none=>rw[aCs (.inl Nu) hs];rfl
     |some ts=>rw[xS Nu hs];rfl
def aLa(g:Nat)(x0:Value)(f:Qn->Bool)(l:List Qn)(w:World):Prop:=
 ∀x,x∈l->∀(B:Option Addr)(c:Nat)(A:Option Addr)(ca:Nat)(D:Option Addr)(cb:Nat)(W:World),Below w.heap.size w W->aP W B x.ns.length x.ns/\aH W x.x A D->
  Calls Tryz.prog g #[x0,.agg (dW x B c A ca D cb)] W fun e w'=>e=.returned (.bool (f x))/\Below W.heap.size W w'
theorem aVg(g:Nat)(x0:Value)(eg:∀args w,(callFunc g args).run Tryz.prog w=.ok (.enter g args) w)(f:Qn->Bool)(A:Option Addr)(n c:Nat)(l:List Qn)(w:World)(h:gN w A n l)(hf:aLa g x0 f l w):
 Calls Tryz.prog 18 #[.slice A n c,.func (.func g) #[x0] #[]] w fun e w'=>e=.returned (.int .i64 (bR f l 0))/\Below w.heap.size w w':=by
 have HR:=Hd h;have HP:=Hd hf;have Da:=aI.len h;have Aq:=aI.max h;have Cs:=Hd (fun(k:Nat) hk hn hy=>show bR f l 0=(k:Int)by have:=oJ (l:=l) (f:=f) (k:=k) (i:=0) hk hn hy;rwa[Nat.zero_add]at this);have Cj:=Hd (fun hn=>show bR f l 0=-1 from oH (l:=l) (f:=f) (i:=0) hn);generalize bR f l 0=Au at *;have Fa:=Hd Da;clear h hf Da;unfold aLa at HP;go_in
 go_wp2_with fail;go_loopw [5,8] (fun _ i wr=>∃k:Nat,k<=n/\i=.int .i64 k/\(∀j,j<k->f (l[j]?.getD default)=false)/\Below w.heap.size w wr) (fun _ i _=>n-(intOf i).toNat)
 case atStart=>exact⟨0,Yq _,rfl,fun j hj=>absurd hj aA,Yg _ _⟩
 case round=>
  exact aP6
def aL5(g:Nat)(x0:Value)(f:ByteArray->T3->Bool)(w:World):Prop:=
 ∀(s:ByteArray)(a b c:Int)(W:World),Below w.heap.size w W->Calls Tryz.prog g #[x0,.string s,.agg (aF a b c)] W fun e w'=>e=.returned (.bool (f s (a,b,c)))/\Below W.heap.size W w'
def lH(f:ByteArray->T3->Bool)(ss:List ByteArray)(ts:List T3):Bool:=decide (ss.length=ts.length) && (List.range ss.length).all fun k=>f (ss[k]?.getD ByteArray.empty) (aD ts k)
theorem aVh(g:Nat)(x0:Value)(eg:∀args w,(callFunc g args).run Tryz.prog w=.ok (.enter g args) w)(f:ByteArray->T3->Bool)(A B:Option Addr)(n m c d:Nat)(ss:List ByteArray)(ts:List T3)(w:World)(h:aP w A n ss)(h':aR w B m ts)(hf:aL5 g x0 f w):
 Calls Tryz.prog 48 #[.slice A n c,.slice B m d,.func (.func g) #[x0] #[]] w fun e w'=>e=.returned (.bool (lH f ss ts))/\Below w.heap.size w w':=by
 have hl:=h.len;have Nv:=h.max;have Nw:=h'.len;have Nt:=h'.max;have HR:=Hd h;have Jx:=Hd h';have HP:=Hd hf;have Iw:=Hd (show n≠m->lH f ss ts=false from fun An=>by unfold lH;rw[Zz aA,Bool.false_and])
 have Cj:=Hd (show ∀ i,i<n->f (ss[i]?.getD ByteArray.empty) (aD ts i)=false->lH f ss ts=false from fun i hi hn=>by
  unfold lH;rw[aCr (k:=i) aA hn,Bool.and_false])
 have Jv:=Hd (show n=m->(∀ i,i<n->f (ss[i]?.getD ByteArray.empty) (aD ts i)=true)->lH f ss ts=true from fun Df ha=>by
  unfold lH;rw[Zy aA,Bool.true_and];exact aB8 fun k hk=>ha k aA)
 clear h h' hf;unfold aL5 at HP;generalize lH f ss ts=Au at *;go_in
 by_cases Df:n=m
 . subst Df;have hq:((n:Int) !=(n:Int))=false:=aG;go_wp2_with fail;go_loopw [17] (fun i wr=>∃k:Nat,k<=n/\i=.int .i64 k/\(∀j,j<k->f (ss[j]?.getD ByteArray.empty) (aD ts j)=true)/\Below w.heap.size w wr) (fun i _=>n-(intOf i).toNat)
   case atStart=>exact⟨0,Yq _,rfl,fun j hj=>absurd hj aA,Yg _ _⟩
   case round=>
    obtain⟨k,hk,rfl,Bc,Ay⟩:=hrel;have Cg:=Hd Bc;have Cm:=Hd Ay;clear Bc;by_cases Ah:k<n
    . obtain⟨b,off,rfl,hb,hc⟩:=(HR.o.below Ay).at_ Ah;have e0:=hc k Ah;obtain⟨b',Kd,rfl,Ia,Kl⟩:=(Jx.o.below Ay).at_ Ah;obtain⟨d0,d1,d2⟩:=Kl k Ah;have HN:=Hd (Cj.o k Ah);have Dx:=Hd fun e=>dC (P:=fun j=>f (ss[j]?.getD ByteArray.empty) (aD ts j)=true) Cg.o e;clear hc Kl Ay;generalize ss[k]?.getD ByteArray.empty=s at *;generalize aD ts k=y at *;obtain⟨y0,y1,y2⟩:=y;dsimp only at d0 d1 d2;go_upto_region 7 with(fail);generalize Bp:wr.alloc _=w4;obtain⟨Bk,Bx,Nu⟩:=iB Bp;have Be:=Hd (aT Cm.o Bk);obtain⟨f0,f1,f2,-,-,-⟩:=Sx Bx.cell;simp only[aF,List.getElem?_toArray,Yz,Zb]at f0 f1 f2;have Bz:=Hd (HP.o s y0 y1 y2 w4 Be.o);unfold aF at Bz;clear Bp Bk Bx Nu e0 d0 d1 d2;cases Aq:f s (y0,y1,y2)with
      |true=>
       have HO:=Hd (Dx.o Aq);rw[Aq]at Bz;go_wp2_with (go_at_fn g;refine Bz.o.mono ?_;rintro e w5 ⟨rfl,Bv⟩;have Ck:=Hd (aT Be.o Bv);clear Bv);go_roundw;case rel=>exact⟨k+1,by omega,by go_num,HO.o,Ck.o⟩
       case measure=>simp[intOf];omega
      |false=>
       have HO:=Hd (HN.o Aq);rw[Aq]at Bz;go_wp2_with (go_at_fn g;refine Bz.o.mono ?_;rintro e w5 ⟨rfl,Bv⟩;have Ck:=Hd (aT Be.o Bv);clear Bv);go_ret;exact⟨aL HO.o.symm,Ck.o⟩
    . have HY:=Hd (Jv.o gW fun j hj=>Cg.o j aA);go_wp2_with fail;go_ret;exact⟨aL HY.o.symm,Cm.o⟩
 . exact aM0
theorem aX8(p:Pg)(i:Nat)(r:Rm)(y:Ex)(A:Option Addr)(ca:Nat)(B:Option Addr)(cb:Nat)(w:World)(hk:y.k≠13)(o:Option T3)
 (Aq:∀w1,Below w.heap.size w w1->Calls Tryz.prog 76 #[.agg (aY p (aB p i) r),.agg (aE y A ca B cb)] w1 (bF w1 o)):
 Calls Tryz.prog 47 #[.agg (aY p (aB p i) r),.agg (aE y A ca B cb)] w (jF w (o.map fun t=>[t])):=by
 have HF:=Hd fun w0 hw=>lO (w:=w) (w1:=w0) (cs:=aY p (aB p i) r) (ds:=aE y A ca B cb) (T:=69) (U:=52) hw;have HO:=Hd Aq;clear Aq;unfold bF aF at HO;unfold aY aE at *;have Bx:(y.k !=13)=true:=bne_iff_ne.2 hk;generalize y.k=k at *;have HS:=Hd (show ∀t,o=some t->t=((o.getD (0,0,0)).1,(o.getD (0,0,0)).2.1,(o.getD (0,0,0)).2.2)from fun t h=>by subst h;rfl);have Jm:=Hd (show(o.map fun t=>[t]).isSome=o.isSome from Option.isSome_map);generalize (o.getD (0,0,0)).1=x0 at *;generalize (o.getD (0,0,0)).2.1=x1 at *;generalize (o.getD (0,0,0)).2.2=x2 at *;generalize Bp:o.isSome=os at *;clear hk Bp;go_in
 go_upto_region 1 with(fail);generalize Ai:(w.alloc _).alloc _=w0;obtain⟨Ae,Al,Bf,As⟩:=HF.o w0 Ai;have Af:=Hd Ae;obtain⟨q0,q1,q2,q3,q4,q5⟩:=Sx (Bf w0 (Yg _ _));have q6:=Bf w0 (Yg _ _) 6;obtain⟨r0,r1,r2,r3,r4,r5⟩:=Sx (As w0 (Yg _ _));simp only[Ya,Yb,Yc]at q0 q1 q2 q3 q4 q5 q6 r0 r1 r2 r3 r4 r5;clear Ai Ae Al Bf As HF;go_wp2_with fail;refine(HO.o w0 Af.o).mono ?_;rintro e w1 ⟨rfl,Aa⟩;have Ac:=Hd (aT Af.o Aa);clear Aa HO q0 q1 q2 q3 q4 q5 q6 r0 r1 r2 r3 r4 r5;go_upto_region 3 with(fail);generalize Br:w1.alloc _=w2;obtain⟨Ad,Fh,hg2⟩:=iB Br;have Aj:=Hd (aT Ac.o Ad);obtain⟨f0,f1,f2,-,-,-⟩:=Sx Fh.cell;simp only[aF,List.getElem?_toArray,Yz,Zb]at f0 f1 f2;clear Br Ad Fh hg2;go_wp2_with fail;try go_ret2
 exact⟨some ⟨w2.heap.size,0,none⟩,1,1,[(x0,x1,x2)],by rw [Jm.o];rfl,fun rr h=>by
  obtain⟨t,ht,rfl⟩:=Option.map_eq_some_iff.1 h
  have:=HS.o t ht
  subst this;exact⟨rfl,aR.lit w2 x0 x1 x2 41⟩,Aj.o.alloc Aj.o.size _⟩
theorem aVi(p:Pg)(i:Nat)(r:Rm)(y:Ex)(A:Option Addr)(ca:Nat)(B:Option Addr)(cb:Nat)(w:World)(hk:y.k=13)(oo:Option (List T3))(oc:List T3->Option (List T3))
 (Jx:∀w1,Below w.heap.size w w1->Calls Tryz.prog 77 #[.agg (aY p (aB p i) r),.slice B y.subs.length cb] w1 (tG w1 oo))
 (Hv:∀ts,oo=some ts->∀S n c w1,Below w.heap.size w w1->aR w1 S n ts->qN S n c->Calls Tryz.prog 78 #[.agg (aY p (aB p i) r),.agg (aE y A ca B cb),.slice S n c] w1 (jF w1 (oc ts))):
 Calls Tryz.prog 47 #[.agg (aY p (aB p i) r),.agg (aE y A ca B cb)] w (jF w (oo.bind oc)):=by
 have HF:=Hd fun w0 hw=>lO (w:=w) (w1:=w0) (cs:=aY p (aB p i) r) (ds:=aE y A ca B cb) (T:=69) (U:=52) hw;have HE:=Hd Jx;have HC:=Hd Hv;clear Jx Hv;unfold tG at HE;unfold jF at HC;unfold aY aE at *;rw[hk]at *;go_in
 go_upto_region 1 with(fail);generalize Ai:(w.alloc _).alloc _=w0;obtain⟨Ae,Al,Bf,As⟩:=HF.o w0 Ai;have Af:=Hd Ae;have HP:=Hd Bf;have HX:=Hd As;obtain⟨q0,q1,q2,q3,q4,q5⟩:=Sx (Bf w0 (Yg _ _));have q6:=Bf w0 (Yg _ _) 6;obtain⟨r0,r1,r2,r3,r4,r5⟩:=Sx (As w0 (Yg _ _));simp only[Ya,Yb,Yc]at q0 q1 q2 q3 q4 q5 q6 r0 r1 r2 r3 r4 r5;clear Ai Ae Al Bf As HF;go_wp2_with fail;refine(HE.o w0 Af.o).mono ?_;rintro e w1 ⟨S,n,c,us,rfl,Bx,Aa⟩;have Ac:=Hd (aT Af.o Aa);have HU:=Hd Bx;obtain⟨q0,q1,q2,q3,q4,q5⟩:=Sx (HP.o w1 Aa);have q6:=HP.o w1 Aa 6;obtain⟨r0,r1,r2,r3,r4,r5⟩:=Sx (HX.o w1 Aa);simp only[Ya,Yb,Yc]at q0 q1 q2 q3 q4 q5 q6 r0 r1 r2 r3 r4 r5;clear Aa Bx HE HP HX;cases oo with
 |none=>
  go_wp2_with fail;try go_ret2
  exact⟨none,0,0,[],rfl,fun rr h=>mY,Ac.o⟩
 |some ts=>
  obtain⟨h1,h2,h3⟩:=HU.o ts rfl;subst h1;have Bp:=Hd (HC.o ts rfl S n c w1 Ac.o h2 h3);clear h2 h3 HU HC;go_wp2_with fail;refine Bp.o.mono ?_;rintro e w2 ⟨S2,n2,c2,Nt,rfl,Aq,Ad⟩;have Aj:=Hd (aT Ac.o Ad);have Nu:=Hd Aq;clear Ad Aq Bp;go_wp2_with fail;try go_ret2
  exact⟨S2,n2,c2,Nt,rfl,Nu.o,Aj.o⟩
def mL(p:Pg)(i:Nat)(q:Qn):Bool:=match fW p i q.x with|none=>true|some u=>!lH (gM (aB p i)) q.ns u
theorem bEw(p:Pg)(i:Nat)(r:Rm)(q:Qn)(BN:Option Addr)(cN:Nat)(A:Option Addr)(ca:Nat)(B:Option Addr)(cb:Nat)(w:World)(h:dF w p (aB p i) r)(hn:aP w BN q.ns.length q.ns)(hx:aH w q.x A B)
 (Cg:∀w1,Below w.heap.size w w1->aH w1 q.x A B->Calls Tryz.prog 47 #[.agg (aY p (aB p i) r),.agg (aE q.x A ca B cb)] w1 (jF w1 (fW p i q.x))):
 Calls Tryz.prog 29 #[.agg (aY p (aB p i) r),.agg (dW q BN cN A ca B cb)] w fun e w'=>e=.returned (.bool (mL p i q))/\Below w.heap.size w w':=by
 have HF:=Hd fun w0 hw=>lO (w:=w) (w1:=w0) (cs:=aY p (aB p i) r) (ds:=dW q BN cN A ca B cb) (T:=69) (U:=54) hw;have HT:=Hd fun w1 (hb:Below w.heap.size w w1)=>Cg w1 hb (hx.below hb);have HQ:=Hd fun(S:Option Addr)(m d:Nat)(ts:List T3) w1 (hb:Below w.heap.size w w1)(hr:aR w1 S m ts)=>aVh 49 (.agg (aY p (aB p i) r)) (fun _ _=>rfl) (gM (aB p i)) BN S q.ns.length m cN d q.ns ts w1 (hn.below hb) hr
  fun s a b c W hW=>aPb p (aB p i) r s a b c W (h.below (hb.tr hW))
 have Fb:=Hd (show mL p i q=match fW p i q.x with|none=>true|some u=>!lH (gM (aB p i)) q.ns u from rfl);have Bp:∀fn first cap w,(Instr.makeFunc fn first cap).run Tryz.prog w=.ok (.func fn first cap) w:=fun _ _ _ _=>rfl
 clear Cg h hn hx;generalize mL p i q=Au at *;generalize fW p i q.x=o at *;unfold jF at HT;unfold aY dW aE at *;go_in
 go_upto_region 1 with(fail);generalize Ai:(w.alloc _).alloc _=w0;obtain⟨Ae,Al,Bf,As⟩:=HF.o w0 Ai;have Af:=Hd Ae;have HP:=Hd Bf;have HX:=Hd As;obtain⟨q0,q1,q2,q3,q4,q5⟩:=Sx (Bf w0 (Yg _ _));have q6:=Bf w0 (Yg _ _) 6;obtain⟨r0,r1,r2,r3,r4,r5⟩:=Sx (As w0 (Yg _ _));have r6:=As w0 (Yg _ _) 6;simp only[Ya,Yb,Yc]at q0 q1 q2 q3 q4 q5 q6 r0 r1 r2 r3 r4 r5 r6;clear Ai Ae Al Bf As HF;go_wp2_with fail;refine(HT.o w0 Af.o).mono ?_;rintro e w1 ⟨S,n,c,us,rfl,Aq,Aa⟩;have Ac:=Hd (aT Af.o Aa);have HU:=Hd Aq;obtain⟨q0,q1,q2,q3,q4,q5⟩:=Sx (HP.o w1 Aa);have q6:=HP.o w1 Aa 6;have r0:=HX.o w1 Aa 0;simp only[Ya,Yb,Yc]at q0 q1 q2 q3 q4 q5 q6 r0;clear Aa Aq HT HP HX r1 r2 r3 r4 r5 r6;cases o with
 |none=>
  have HO:=Hd (show Au=true from Fb.o);exact aOy
 |some u=>
  obtain⟨h1,h2⟩:=HU.o u rfl;subst h1;have HO:=Hd (show Au=!lH (gM (aB p i)) q.ns u from Fb.o);have Io:=Hd (HQ.o S n c u w1 Ac.o h2);clear h2 HU HQ Fb;generalize lH (gM (aB p i)) q.ns u=eb at *;go_wp2_with fail;refine Io.o.mono ?_;rintro e w2 ⟨rfl,Ad⟩;have Aj:=Hd (aT Ac.o Ad);clear Ad Io;go_wp2_with fail;go_ret;exact⟨fF HO.o.symm,Aj.o⟩
end
end Go.Proofs.YtkbpdoomhfkngaaGreat
