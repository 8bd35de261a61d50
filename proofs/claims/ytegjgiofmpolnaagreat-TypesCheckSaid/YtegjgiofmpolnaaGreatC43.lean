/- Parts of the proof: TrT, TrU. Conditions: each theorem's own. -/
import Derived.Test.YtegjgiofmpolnaaGreatC32
import Derived.Test.YtegjgiofmpolnaaGreatC40
import Derived.Test.YtegjgiofmpolnaaGreatC41
import Derived.Test.YtegjgiofmpolnaaGreatC42
namespace Go.Proofs.YtegjgiofmpolnaaGreat
set_option linter.unusedVariables false
set_option linter.unusedSimpArgs false
set_option maxRecDepth 100000
set_option maxHeartbeats 40000000
section
open Go.RowKit Go.Sort Go.BigFrame
theorem aQ8(p:Pg) (x:Nd) (r:Rm) (y:Ex) (A:Option Addr) (ca:Nat) (B:Option Addr) (cb:Nat) (S:Option Addr) (m sc:Nat) (ts:List T3) (w:World) (h:cY w p x r) (hS:aM w S m ts) (hk:y.k=5\/y.k=6\/y.k=7\/y.k=14\/y.k=15\/y.k=16) (hm:mE y.k<=m):
 Calls Tryz.prog 80 #[.agg (aT p x r),.agg (aE y A ca B cb),.slice S m sc] w (aZ w (fW y ts)):=by
 rcases hk with hk | hk | hk | hk | hk | hk
 . exact aQ3 p x r y A ca B cb S m sc ts w h hS hk (by rw [hk] at hm;simp [mE] at hm;omega) _ (by unfold fW;rw [hk];rfl)
 . exact aQ4 p x r y A ca B cb S m sc ts w h hS hk (by rw [hk] at hm;simp [mE] at hm;omega) _ (by unfold fW;rw [hk];rfl)
 . have Aa:3<=m:=by rw [hk] at hm;simp [mE] at hm;omega
   have e:fW y ts=(if(fD (aB ts 0) && decide (aB ts 1=aB ts 2))=true then some (aB ts 1) else none):=by unfold fW;rw [hk];rfl
   cases ht:fD (aB ts 0) with
   | false=>exact aOm p x r y A ca B cb S m sc ts w h hS hk Aa ht _ (by rw [e,ht];rfl)
   | true=>
    refine aOl p x r y A ca B cb S m sc ts w h hS hk Aa ht _ ?_;rw [e,ht,Bool.true_and]
    by_cases he:aB ts 1=aB ts 2
    . rw [if_pos he,if_pos (Zx he)]
    . rw [if_neg he,if_neg (by simpa using he)]
 . exact aOk p x r y A ca B cb S m sc ts w h hS hk (by rw [hk] at hm;simp [mE] at hm;omega) _ (by unfold fW;rw [hk];rfl)
 . exact aOg p x r y A ca B cb S m sc ts w h hS hk (by rw [hk] at hm;simp [mE] at hm;omega) _ (by unfold fW;rw [hk];rfl)
 . have Aa:3<=m:=by rw [hk] at hm;simp [mE] at hm;omega
   have e:fW y ts=(if(decide (0<(aB ts 0).2.2) && (kM (aB ts 1) && decide (aB ts 2=jG (aB ts 0))))=true then some (aB ts 0) else none):=by unfold fW;rw [hk];rfl
   rw [<- Bool.and_assoc] at e;rw [show(decide (0<(aB ts 0).2.2) && kM (aB ts 1))=mX ts from rfl] at e
   cases ht:mX ts with
   | false=>exact aLl p x r y A ca B cb S m sc ts w h hS hk Aa _ (by rw [e,ht];rfl) ht
   | true=>
    refine aLm p x r y A ca B cb S m sc ts w h hS hk Aa ht _ ?_;rw [e,ht,Bool.true_and]
    by_cases he:aB ts 2=jG (aB ts 0)
    . rw [if_pos he,if_pos (Zx he)]
    . rw [if_neg he,if_neg (by simpa using he)]
theorem aI3{x:Ex}(h:bA x=true) (hk:x.k=11):∃ a,x.arms=[a]:=by
 have h2:=wE h;unfold dS at h2;rw [hk] at h2;simp only [Ys] at h2;exact List.length_eq_one_iff.1 (by simpa using h2.2)
theorem aBr{x:Ex}(h:bA x=true) (hk:x.k=12):0<x.arms.length:=by
 have h2:=wE h;unfold dS at h2;rw [hk] at h2
 simp at h2
 have:=h2.2;omega
theorem aSr(p:Pg) (i:Nat) (r:Rm) (y:Ex) (A:Option Addr) (ca:Nat) (B:Option Addr) (cb:Nat) (S:Option Addr) (m sc:Nat) (ts:List T3) (w:World) (h:cY w p (aA p i) r) (hr:aJ w y A B) (hS:aM w S m ts) (hl:oQ S m sc) (Ad:9<=y.k) (Ae:y.k<=13) (hm:oM y.k<=m) (hp:bA y=true) (Ac:y.k=13->y.n<=m) (he:cV p.es=0) (Ab:∀ s d,aW (aA p i) s=some d->bH p.es.length d.k d.e d.l=true) (Aa:∀ j,j<p.ns.length->(aA p j).ins.length<=1000/\(aA p j).outs.length<=1000):
 Calls Tryz.prog 80 #[.agg (aT p (aA p i) r),.agg (aE y A ca B cb),.slice S m sc] w (aZ w (fO p i y ts)):=by
 rcases(show y.k=9\/y.k=10\/y.k=11\/y.k=12\/y.k=13 by omega) with hk | hk | hk | hk | hk
 . exact aQ6 p (aA p i) r y A ca B cb S m sc ts w h hS hk (by rw [hk] at hm;simp [oM] at hm;omega) _ (by unfold fO;rw [hk];rfl)
 . exact aOd p (aA p i) r y A ca B cb S m sc ts w h hS hk (by rw [hk] at hm;simp [oM] at hm;omega) _ (by unfold fO;rw [hk];rfl)
 . refine aOe p (aA p i) r y A ca B cb S m sc ts w h hS hr hk (by rw [hk] at hm;simp [oM] at hm;omega) _ ?_;obtain⟨a,ha⟩:=aI3 hp hk;have e:fO p i y ts=match aW (aA p i) y.s with | none=>none | some d=>match cU p.es (y.arms[0]?.getD ByteArray.empty) with | none=>none | some r=>if((r.1,r.2.1,0):T3)=aO d then some (aB ts 0) else none:=by unfold fO;rw [hk];rfl
   rw [e,ha];unfold eR;rw [List.all_cons,List.all_nil,Bool.and_true];unfold gO fR;simp only [Yz,Yt]
   cases aW (aA p i) y.s with
   | none=>cases cU p.es a <;> rfl
   | some d=>
    cases cU p.es a with
    | none=>rfl
    | some q=>
     simp only
     by_cases hq:((q.1,q.2.1,0):T3)=aO d
     . rw [if_pos hq,if_pos (Zx hq.symm)]
     . rw [if_neg hq,if_neg (by simpa using fun e=>hq e.symm)]
 . refine aOf p (aA p i) r y A ca B cb S m sc ts w h hS hr hk (by rw [hk] at hm;simp [oM] at hm;omega) (aBr hp hk) (Ab y.s) _ ?_;have e:fO p i y ts=match aW (aA p i) y.s with | none=>none | some d=>if(dH ts && jK p.es (aO d) y.arms)=true then some (aB ts 0) else none:=by unfold fO;rw [hk];rfl
   rw [e,aLh he (aBr hp hk) (Ab y.s)]
   cases aW (aA p i) y.s with
   | none=>simp
   | some d=>rfl
 . exact aOi p (aA p i) r y A ca B cb S m sc ts w h hS hk hl (qG hp hk) (Ac hk) Aa _ (by unfold fO;rw [hk];rfl)
theorem aE1{x:Ex}(hn:x.k=13->x.n=0\/x.n=1):(dA x).2<=8+(x.arms.length:Int):=by
 unfold dA
 repeat' split
 all_goals first | (dsimp only;omega) | (rename_i h;have:=hn (by simpa using h);dsimp only;omega)
theorem zL(p:Pg) (i:Nat) (r:Rm) (he:cV p.es=0) (Ap:∀ s d,aW (aA p i) s=some d->bH p.es.length d.k d.e d.l=true) (Ak:∀ j,j<p.ns.length->(aA p j).ins.length<=1000/\(aA p j).outs.length<=1000):
 ∀ (y:Ex) (A:Option Addr) (ca:Nat) (B:Option Addr) (cb:Nat) (w:World),cY w p (aA p i) r->aJ w y A B->jE y ->
  Calls Tryz.prog 41 #[.agg (aT p (aA p i) r),.agg (aE y A ca B cb)] w (aZ w (cG p i y)):=by
 refine nV fun y ih A ca B cb w h hr hg=>?_;obtain⟨Ao,Ac⟩:=hg.self;obtain⟨Aw,Ax⟩:=aCk Ac
 have Aq:y.subs.length<=8+y.arms.length:=by
  have h2:=aE1 (qG hg.self.2);unfold bA at Ac;simp only [Ys,decide_eq_true_eq] at Ac;have h3:=Ac.1.2;omega
 have Ae:y.subs.length<=1000:=by have:=Ao.2.2;omega
 have Aj:=aFm p (aA p i) r B y.subs.length cb y.subs
 have Ai:∀ w1,Below w.heap.size w w1->Calls Tryz.prog 79 #[.agg (aT p (aA p i) r),.slice B y.subs.length cb] w1 (qN w1 (bK (y.subs.map (cG p i)))):=fun w1 hb=>
  Aj w1 (h.below hb) (hr.below hb).subs Ae (y.subs.map (cG p i)) (by simp) _ rfl (fun k hk A' Av B' As w2 An Au=>by
   rw [rX hk];exact ih k hk A' Av B' As w2 (h.below (hb.trans (An.mono hb.size))) Au (hg.sub hk))
 have Aa:∀ ts,bK (y.subs.map (cG p i))=some ts->ts.length=y.subs.length:=fun ts Ad=>by
  have:=oZ Ad;rwa [List.length_map] at this
 by_cases h1:y.k=1
 . exact aSo p (aA p i) r y A ca B cb w h hr h1 hg.1 (fun q hq=>(hg.2 q hq).1) _ (by rw [kK,rN (.inl h1)])
 by_cases h2:y.k=2
 . exact aSp p (aA p i) r y A ca B cb w h hr h2 hg.1 (fun q hq=>(hg.2 q hq).1) _ (by rw [kK,rN (.inr (.inl h2))])
 by_cases h4:y.k=4
 . exact aSq p (aA p i) r y A ca B cb w h hr h4 hg.1 (fun q hq=>(hg.2 q hq).1) _ (by rw [kK,rN (.inr (.inr h4))])
 by_cases h3:y.k=3
 . exact aTg p (aA p i) r y A ca B cb w h h3 _ (by rw [kK,aEs h3])
 by_cases h8:y.k=8
 . have Ar:y.subs.length=2:=by
    have ha:=oX Ac
    have hb:(y.subs.length:Int)<=(dA y).2:=by
     have hq:=Ac;unfold bA at hq;simp only [Ys,decide_eq_true_eq] at hq;exact hq.1.2
    rw [yP h8] at ha hb
    simp at ha hb
    omega
   refine vF p (aA p i) r y A ca B cb w h ⟨h1,h2,h3,h4⟩ _ (fun ts=>vL (dL p.es (aU y 0)) ts) Ai (fun ts Ad S n c w1 hb Ab Ag=>?_) _ ?_
   . have hn:=Aa ts Ad;have Al:=Ab.len;exact aQ7 p (aA p i) r y A ca B cb S n c ts w1 (h.below hb) Ab (hr.below hb) h8 (by omega) (by omega) (hg.sub (by omega)).1 (fun q hq=>((hg.sub (by omega)).2 q hq).1) _ rfl
   . rw [aSn h8 Ar]
     cases bK (y.subs.map (cG p i)) <;> rfl
 by_cases Am:y.k=17
 . refine vF p (aA p i) r y A ca B cb w h ⟨h1,h2,h3,h4⟩ _ (fun ts=>none) Ai (fun ts Ad S n c w1 hb Ab Ag=>?_) _ ?_
   . exact aOj p (aA p i) r y A ca B cb S n c ts w1 (h.below hb) Ab Am _ rfl
   . rw [kK,<- aEu Am]
     cases bK (y.subs.map (cG p i)) <;> rfl
 by_cases Af:9<=y.k/\y.k<=13
 . refine vF p (aA p i) r y A ca B cb w h ⟨h1,h2,h3,h4⟩ _ (fun ts=>fO p i y ts) Ai (fun ts Ad S n c w1 hb Ab Ag=>?_) _ ?_
   . have hn:=Aa ts Ad;have Al:=Ab.len;refine aSr p i r y A ca B cb S n c ts w1 (h.below hb) (hr.below hb) Ab Ag Af.1 Af.2 (by have:=(aCl Ac Af.1 Af.2).1;omega) Ac (fun hk=>?_) he Ap Ak;have ha:=oX Ac;unfold dA at ha
     simp [hk] at ha
     omega
   . rw [kK]
     cases hs:bK (y.subs.map (cG p i)) with
     | none=>rw [xJ (.inr Af) hs];rfl
     | some ts=>rw [aDr Af.1 Af.2 hs];rfl
 . have Ah:y.k=5\/y.k=6\/y.k=7\/y.k=14\/y.k=15\/y.k=16:=by omega
   refine vF p (aA p i) r y A ca B cb w h ⟨h1,h2,h3,h4⟩ _ (fun ts=>fW y ts) Ai (fun ts Ad S n c w1 hb Ab Ag=>?_) _ ?_
   . have hn:=Aa ts Ad;have Al:=Ab.len;exact aQ8 p (aA p i) r y A ca B cb S n c ts w1 (h.below hb) Ab Ah (by have:=aBh Ac Ah;omega)
   . rw [kK]
     cases hs:bK (y.subs.map (cG p i)) with
     | none=>rw [xJ (.inl Ah) hs];rfl
     | some ts=>rw [tL Ah hs];rfl
end
section
open Go.RowKit Go.Sort Go.BigFrame
def aE2(g:Nat) (x0:Value) (f:Qn->Bool) (l:List Qn) (w:World):Prop:=
 ∀ x,x∈l->∀ (B:Option Addr) (c:Nat) (A:Option Addr) (ca:Nat) (D:Option Addr) (cb:Nat) (W:World),Below w.heap.size w W->aN W B x.ns.length x.ns/\aJ W x.x A D ->
  Calls Tryz.prog g #[x0,.agg (eM x B c A ca D cb)] W fun e w'=>e=.returned (.bool (f x))/\Below W.heap.size W w'
theorem aI4(g:Nat) (x0:Value) (eg:∀ args w,(callFunc g args).run Tryz.prog w=.ok (.enter g args) w) (f:Qn->Bool) (A:Option Addr) (n c:Nat) (l:List Qn) (w:World) (h:gR w A n l) (hf:aE2 g x0 f l w):
 Calls Tryz.prog 25 #[.slice A n c,.func (.func g) #[x0] #[]] w fun e w'=>e=.returned (.int .i64 (bE f l 0))/\Below w.heap.size w w':=by
 have HR:=Hd h;have HP:=Hd hf;have Ah:=aQ.len h;have Ap:=aQ.max h;have Ag:=Hd (fun(k:Nat) hk hn hy=>show bE f l 0=(k:Int) by have:=nR (l:=l) (f:=f) (k:=k) (i:=0) hk hn hy;rwa [Nat.zero_add] at this);have Al:=Hd (fun hn=>show bE f l 0=-1 from nP (l:=l) (f:=f) (i:=0) hn);generalize bE f l 0=Ao at *;have Ae:=Hd Ah;clear h hf Ah;unfold aE2 at HP
 go_enter Tryz.func25,Tryz.ntmps25
 go_wp2_with fail
 go_loopw [5,8] (fun _ i wr=>∃ k:Nat,k<=n/\i=.int .i64 k/\(∀ j,j<k->f (l[j]?.getD default)=false)/\Below w.heap.size w wr) (fun _ i _=>n-(intOf i).toNat)
 case atStart=>exact⟨0,Yq _,rfl,fun j hj=>absurd hj (by omega),Yg _ _⟩
 case round=>
  obtain⟨k,hk,rfl,Aj,Ad⟩:=hrel;have HT:=Hd Aj;have Ab:=Hd Ad;clear Aj
  by_cases Af:k<n
  . obtain⟨b,An,B,cB,A1,ca,D,cb,rfl,hb,Ai,d0,d1,d2,d3,d4,d5,d6⟩:=zF (HR.o.below Ad) Af;have Aa:=Hd (HP.o _ (kY (by rw [Ae.o];exact Af)) B cB A1 ca D cb wr Ad Ai);have HH:=Hd (Ag.o k (by rw [Ae.o];exact Af) HT.o);have HS:=Hd fun(hf:f (l[k]?.getD default)=false)=>dK (P:=fun j=>f (l[j]?.getD default)=false) HT.o hf;clear Ad  Ai;unfold eM at Aa;generalize l[k]?.getD default=x at d0 d1 d2 d3 d4 d5 d6 Aa HH HS
    cases hq:f x with
    | true=>
     have HO:=Hd (HH.o hq);rw [hq] at Aa
     go_wp2_with (go_at_fn g;refine Aa.o.mono ?_;rintro e w3 ⟨rfl,Ac⟩)
     go_ret
     exact⟨cF HO.o.symm,Ab.o.trans (Ac.mono Ab.o.size)⟩
    | false=>
     have HO:=Hd (HS.o hq);rw [hq] at Aa
     go_wp2_with (go_at_fn g;refine Aa.o.mono ?_;rintro e w3 ⟨rfl,Ac⟩;have Ak:=Hd (Ab.o.trans (Ac.mono Ab.o.size));clear Ac)
     go_roundw
     case rel=>exact⟨k+1,by omega,by go_num,HO.o,Ak.o⟩
     case measure=>simp [intOf];omega
  . have Am:k=n:=by omega
    have HN:=Hd (Al.o fun j hj=>HT.o j (by rw [Ae.o] at hj;omega))
    go_wp2_with fail
    go_ret
    exact⟨cF HN.o.symm,Ab.o⟩
def aFn(g:Nat) (x0:Value) (f:ByteArray->T3->Bool) (w:World):Prop:=
 ∀ (s:ByteArray) (a b c:Int) (W:World),Below w.heap.size w W->Calls Tryz.prog g #[x0,.string s,.agg (aC a b c)] W fun e w'=>e=.returned (.bool (f s (a,b,c)))/\Below W.heap.size W w'
def kA(f:ByteArray->T3->Bool) (ss:List ByteArray) (ts:List T3):Bool:=decide (ss.length=ts.length) && (List.range ss.length).all fun k=>f (ss[k]?.getD ByteArray.empty) (aB ts k)
theorem aI5(g:Nat) (x0:Value) (eg:∀ args w,(callFunc g args).run Tryz.prog w=.ok (.enter g args) w) (f:ByteArray->T3->Bool) (A B:Option Addr) (n m c d:Nat) (ss:List ByteArray) (ts:List T3) (w:World) (h:aN w A n ss) (h':aM w B m ts) (hf:aFn g x0 f w):
 Calls Tryz.prog 60 #[.slice A n c,.slice B m d,.func (.func g) #[x0] #[]] w fun e w'=>e=.returned (.bool (kA f ss ts))/\Below w.heap.size w w':=by
 have hl:=h.len;have Ba:=h.max;have Az:=h'.len;have Aq:=h'.max;have HR:=Hd h;have Aw:=Hd h';have HP:=Hd hf;have Ai:=Hd (show n≠m->kA f ss ts=false from fun Bc=>by unfold kA;rw [Zy (by omega),Bool.false_and])
 have Au:=Hd (show ∀ i,i<n->f (ss[i]?.getD ByteArray.empty) (aB ts i)=false->kA f ss ts=false from fun i hi hn=>by
  unfold kA;rw [xI (k:=i) (by omega) hn,Bool.and_false])
 have Ar:=Hd (show n=m->(∀ i,i<n->f (ss[i]?.getD ByteArray.empty) (aB ts i)=true)->kA f ss ts=true from fun Af ha=>by
  unfold kA;rw [Zx (by omega),Bool.true_and];exact wV fun k hk=>ha k (by omega))
 clear h h' hf;unfold aFn at HP;generalize kA f ss ts=Bd at *
 go_enter Tryz.func60,Tryz.ntmps60
 by_cases Af:n=m
 . subst Af;have hq:((n:Int) != (n:Int))=false:=by simp
   go_wp2_with fail
   go_loopw [17] (fun i wr=>∃ k:Nat,k<=n/\i=.int .i64 k/\(∀ j,j<k->f (ss[j]?.getD ByteArray.empty) (aB ts j)=true)/\Below w.heap.size w wr) (fun i _=>n-(intOf i).toNat)
   case atStart=>exact⟨0,Yq _,rfl,fun j hj=>absurd hj (by omega),Yg _ _⟩
   case round=>
    obtain⟨k,hk,rfl,Ap,Ad⟩:=hrel;have Am:=Hd Ap;have Al:=Hd Ad;clear Ap
    by_cases Aa:k<n
    . obtain⟨b,Ay,rfl,hb,hc⟩:=(HR.o.below Ad).at_ Aa;have e0:=hc k Aa;obtain⟨b',Av,rfl,Bb,Ao⟩:=(Aw.o.below Ad).at_ Aa;obtain⟨d0,d1,d2⟩:=Ao k Aa;have HN:=Hd (Au.o k Aa);have As:=Hd fun e=>dK (P:=fun j=>f (ss[j]?.getD ByteArray.empty) (aB ts j)=true) Am.o e;clear hc Ao Ad;generalize ss[k]?.getD ByteArray.empty=s at *;generalize aB ts k=y at *;obtain⟨y0,y1,y2⟩:=y
      dsimp only at d0 d1 d2
      go_upto_region 7 with(fail)
      generalize Ak:wr.alloc _=w4;obtain⟨An,Aj,Ax⟩:=gM Ak;have Ah:=Hd (aR Al.o An);obtain⟨f0,f1,f2,-,-,-⟩:=Sx Aj.cell;simp only [aC,List.getElem?_toArray,Yz,Zb] at f0 f1 f2;have Ab:=Hd (HP.o s y0 y1 y2 w4 Ah.o);unfold aC at Ab;clear Ak An Aj Ax e0 d0 d1 d2
      cases Ae:f s (y0,y1,y2) with
      | true=>
       have HO:=Hd (As.o Ae);rw [Ae] at Ab
       go_wp2_with (go_at_fn g;refine Ab.o.mono ?_;rintro e w5 ⟨rfl,Ac⟩;have Ag:=Hd (aR Ah.o Ac);clear Ac)
       go_roundw
       case rel=>exact⟨k+1,by omega,by go_num,HO.o,Ag.o⟩
       case measure=>simp [intOf];omega
      | false=>
       have HO:=Hd (HN.o Ae);rw [Ae] at Ab
       go_wp2_with (go_at_fn g;refine Ab.o.mono ?_;rintro e w5 ⟨rfl,Ac⟩;have Ag:=Hd (aR Ah.o Ac);clear Ac)
       go_ret
       exact⟨aF HO.o.symm,Ag.o⟩
    . have HY:=Hd (Ar.o (by first | trivial | rfl) fun j hj=>Am.o j (by omega))
      go_wp2_with fail
      go_ret
      exact⟨aF HY.o.symm,Al.o⟩
 . have HO:=Hd (Ai.o Af);have hq:((n:Int) != (m:Int))=true:=by rw [bne_iff_ne];omega
   go_wp2_with fail
   go_ret
   exact⟨aF HO.o.symm,Yg _ _⟩
theorem aLn(p:Pg) (i:Nat) (r:Rm) (y:Ex) (A:Option Addr) (ca:Nat) (B:Option Addr) (cb:Nat) (w:World) (hk:y.k≠13) (o:Option T3)
 (Af:∀ w1,Below w.heap.size w w1->Calls Tryz.prog 41 #[.agg (aT p (aA p i) r),.agg (aE y A ca B cb)] w1 (aZ w1 o)):
 Calls Tryz.prog 59 #[.agg (aT p (aA p i) r),.agg (aE y A ca B cb)] w (iO w (o.map fun t=>[t])):=by
 have HF:=Hd fun w0 hw=>jQ (w:=w) (w1:=w0) (cs:=aT p (aA p i) r) (ds:=aE y A ca B cb) (T:=60) (U:=35) hw;have HO:=Hd Af;clear Af;unfold aZ aC at HO;unfold aT aE at *;have Aq:(y.k != 13)=true:=bne_iff_ne.2 hk;generalize y.k=k at *;have HS:=Hd (show ∀ t,o=some t->t=((o.getD (0,0,0)).1,(o.getD (0,0,0)).2.1,(o.getD (0,0,0)).2.2) from fun t h=>by subst h;rfl);have Am:=Hd (show(o.map fun t=>[t]).isSome=o.isSome from Option.isSome_map);generalize (o.getD (0,0,0)).1=x0 at *;generalize (o.getD (0,0,0)).2.1=x1 at *;generalize (o.getD (0,0,0)).2.2=x2 at *;generalize An:o.isSome=os at *;clear hk An
 go_enter Tryz.func59,Tryz.ntmps59
 go_upto_region 1 with(fail)
 generalize Ac:(w.alloc _).alloc _=w0;obtain⟨Ae,Ao,Ab,Aa⟩:=HF.o w0 Ac;have Aj:=Hd Ae;obtain⟨q0,q1,q2,q3,q4,q5⟩:=Sx (Ab w0 (Yg _ _));have q6:=Ab w0 (Yg _ _) 6;obtain⟨r0,r1,r2,r3,r4,r5⟩:=Sx (Aa w0 (Yg _ _));simp only [Ya,Yb,Yc] at q0 q1 q2 q3 q4 q5 q6 r0 r1 r2 r3 r4 r5;clear Ac Ae Ao Ab Aa HF
 go_wp2_with fail
 refine(HO.o w0 Aj.o).mono ?_;rintro e w1 ⟨rfl,Ah⟩;have Ap:=Hd (aR Aj.o Ah);clear Ah HO q0 q1 q2 q3 q4 q5 q6 r0 r1 r2 r3 r4 r5
 go_upto_region 3 with(fail)
 generalize Ag:w1.alloc _=w2;obtain⟨Ad,Ak,Al⟩:=gM Ag;have Ai:=Hd (aR Ap.o Ad);obtain⟨f0,f1,f2,-,-,-⟩:=Sx Ak.cell;simp only [aC,List.getElem?_toArray,Yz,Zb] at f0 f1 f2;clear Ag Ad Ak Al
 go_wp2_with fail
 try go_ret2
 exact⟨some ⟨w2.heap.size,0,none⟩,1,1,[(x0,x1,x2)],by rw [Am.o];rfl,fun rr h=>by
  obtain⟨t,ht,rfl⟩:=Option.map_eq_some_iff.1 h;have:=HS.o t ht;subst this;exact⟨rfl,aM.lit w2 x0 x1 x2 38⟩,Ai.o.alloc Ai.o.size _⟩
theorem aI6(p:Pg) (i:Nat) (r:Rm) (y:Ex) (A:Option Addr) (ca:Nat) (B:Option Addr) (cb:Nat) (w:World) (hk:y.k=13) (oo:Option (List T3)) (oc:List T3->Option (List T3))
 (Am:∀ w1,Below w.heap.size w w1->Calls Tryz.prog 79 #[.agg (aT p (aA p i) r),.slice B y.subs.length cb] w1 (qN w1 oo))
 (Af:∀ ts,oo=some ts->∀ S n c w1,Below w.heap.size w w1->aM w1 S n ts->oQ S n c->Calls Tryz.prog 102 #[.agg (aT p (aA p i) r),.agg (aE y A ca B cb),.slice S n c] w1 (iO w1 (oc ts))):
 Calls Tryz.prog 59 #[.agg (aT p (aA p i) r),.agg (aE y A ca B cb)] w (iO w (oo.bind oc)):=by
 have HF:=Hd fun w0 hw=>jQ (w:=w) (w1:=w0) (cs:=aT p (aA p i) r) (ds:=aE y A ca B cb) (T:=60) (U:=35) hw;have HE:=Hd Am;have HC:=Hd Af;clear Am Af;unfold qN at HE;unfold iO at HC;unfold aT aE at *;rw [hk] at *
 go_enter Tryz.func59,Tryz.ntmps59
 go_upto_region 1 with(fail)
 generalize Ag:(w.alloc _).alloc _=w0;obtain⟨Aj,Ap,Ad,Aa⟩:=HF.o w0 Ag;have Al:=Hd Aj;have HP:=Hd Ad;have HX:=Hd Aa;obtain⟨q0,q1,q2,q3,q4,q5⟩:=Sx (Ad w0 (Yg _ _));have q6:=Ad w0 (Yg _ _) 6;obtain⟨r0,r1,r2,r3,r4,r5⟩:=Sx (Aa w0 (Yg _ _));simp only [Ya,Yb,Yc] at q0 q1 q2 q3 q4 q5 q6 r0 r1 r2 r3 r4 r5;clear Ag Aj Ap Ad Aa HF
 go_wp2_with fail
 refine(HE.o w0 Al.o).mono ?_;rintro e w1 ⟨S,n,c,us,rfl,Ah,Ac⟩;have Ae:=Hd (aR Al.o Ac);have HU:=Hd Ah;obtain⟨q0,q1,q2,q3,q4,q5⟩:=Sx (HP.o w1 Ac);have q6:=HP.o w1 Ac 6;obtain⟨r0,r1,r2,r3,r4,r5⟩:=Sx (HX.o w1 Ac);simp only [Ya,Yb,Yc] at q0 q1 q2 q3 q4 q5 q6 r0 r1 r2 r3 r4 r5;clear Ac Ah HE HP HX
 cases oo with
 | none=>
  go_wp2_with fail
  try go_ret2
  exact⟨none,0,0,[],rfl,fun rr h=>(by cases h),Ae.o⟩
 | some ts=>
  obtain⟨h1,h2,h3⟩:=HU.o ts rfl;subst h1;have Ak:=Hd (HC.o ts rfl S n c w1 Ae.o h2 h3);clear h2 h3 HU HC
  go_wp2_with fail
  refine Ak.o.mono ?_;rintro e w2 ⟨S2,n2,c2,An,rfl,Ab,Ai⟩;have Aq:=Hd (aR Ae.o Ai);have Ao:=Hd Ab;clear Ai Ab Ak
  go_wp2_with fail
  try go_ret2
  exact⟨S2,n2,c2,An,rfl,Ao.o,Aq.o⟩
def lD(p:Pg) (i:Nat) (q:Qn):Bool:=match fF p i q.x with | none=>true | some u=>!kA (fR (aA p i)) q.ns u
theorem aQ9(p:Pg) (i:Nat) (r:Rm) (q:Qn) (BN:Option Addr) (cN:Nat) (A:Option Addr) (ca:Nat) (B:Option Addr) (cb:Nat) (w:World) (h:cY w p (aA p i) r) (hn:aN w BN q.ns.length q.ns) (hx:aJ w q.x A B)
 (Aj:∀ w1,Below w.heap.size w w1->aJ w1 q.x A B->Calls Tryz.prog 59 #[.agg (aT p (aA p i) r),.agg (aE q.x A ca B cb)] w1 (iO w1 (fF p i q.x))):
 Calls Tryz.prog 26 #[.agg (aT p (aA p i) r),.agg (eM q BN cN A ca B cb)] w fun e w'=>e=.returned (.bool (lD p i q))/\Below w.heap.size w w':=by
 have HF:=Hd fun w0 hw=>jQ (w:=w) (w1:=w0) (cs:=aT p (aA p i) r) (ds:=eM q BN cN A ca B cb) (T:=60) (U:=56) hw;have HT:=Hd fun w1 (hb:Below w.heap.size w w1)=>Aj w1 hb (hx.below hb)
 have HQ:=Hd fun(S:Option Addr) (m d:Nat) (ts:List T3) w1 (hb:Below w.heap.size w w1) (hr:aM w1 S m ts)=>aI5 61 (.agg (aT p (aA p i) r)) (fun _ _=>rfl) (fR (aA p i)) BN S q.ns.length m cN d q.ns ts w1 (hn.below hb) hr
  fun s a b c W hW=>aF2 p (aA p i) r s a b c W (h.below (hb.trans (hW.mono hb.size)))
 have Ad:=Hd (show lD p i q=match fF p i q.x with | none=>true | some u=>!kA (fR (aA p i)) q.ns u from rfl);have Aq:∀ fn first Al w,(Instr.makeFunc fn first Al).run Tryz.prog w=.ok (.func fn first Al) w:=fun _ _ _ _=>rfl
 clear Aj h hn hx;generalize lD p i q=An at *;generalize fF p i q.x=o at *;unfold iO at HT;unfold aT eM aE at *
 go_enter Tryz.func26,Tryz.ntmps26
 go_upto_region 1 with(fail)
 generalize Af:(w.alloc _).alloc _=w0;obtain⟨Am,Ao,Ac,Aa⟩:=HF.o w0 Af;have Ak:=Hd Am;have HP:=Hd Ac;have HX:=Hd Aa;obtain⟨q0,q1,q2,q3,q4,q5⟩:=Sx (Ac w0 (Yg _ _));have q6:=Ac w0 (Yg _ _) 6;obtain⟨r0,r1,r2,r3,r4,r5⟩:=Sx (Aa w0 (Yg _ _));have r6:=Aa w0 (Yg _ _) 6;simp only [Ya,Yb,Yc] at q0 q1 q2 q3 q4 q5 q6 r0 r1 r2 r3 r4 r5 r6;clear Af Am Ao Ac Aa HF
 go_wp2_with fail
 refine(HT.o w0 Ak.o).mono ?_;rintro e w1 ⟨S,n,c,us,rfl,Ag,Ab⟩;have Ae:=Hd (aR Ak.o Ab);have HU:=Hd Ag;obtain⟨q0,q1,q2,q3,q4,q5⟩:=Sx (HP.o w1 Ab);have q6:=HP.o w1 Ab 6;have r0:=HX.o w1 Ab 0;simp only [Ya,Yb,Yc] at q0 q1 q2 q3 q4 q5 q6 r0;clear Ab Ag HT HP HX r1 r2 r3 r4 r5 r6
 cases o with
 | none=>
  have HO:=Hd (show An=true from Ad.o)
  go_wp2_with fail
  go_ret
  exact⟨aF HO.o.symm,Ae.o⟩
 | some u=>
  obtain⟨h1,h2⟩:=HU.o u rfl;subst h1;have HO:=Hd (show An=!kA (fR (aA p i)) q.ns u from Ad.o);have Ah:=Hd (HQ.o S n c u w1 Ae.o h2);clear h2 HU HQ Ad;generalize kA (fR (aA p i)) q.ns u=eb at *
  go_wp2_with fail
  refine Ah.o.mono ?_;rintro e w2 ⟨rfl,Ai⟩;have Ap:=Hd (aR Ae.o Ai);clear Ai Ah
  go_wp2_with fail
  go_ret
  exact⟨cR HO.o.symm,Ap.o⟩
end
end Go.Proofs.YtegjgiofmpolnaaGreat
