/- A part of the proof. Conditions: each theorem's own. -/
import Derived.Test.YtkbpdoomhfkngaaGreatC30
namespace Go.Proofs.YtkbpdoomhfkngaaGreat
set_option linter.unusedVariables false
set_option linter.unusedSimpArgs false
set_option maxRecDepth 100000
set_option maxHeartbeats 40000000
section
open Go.RowKit Go.Sort Go.BigFrame
theorem bBn{p:Pg}(h:eJ p=0):dB p.es=0:=by
 unfold eJ at h;split at h;· assumption
 . exact h
theorem aX9{p:Pg}(ht:gU p):∀j,j<p.ns.length->(aB p j).ins.length<=1000/\(aB p j).outs.length<=1000:=fun j hj=>by
 have h1:=(mH (ht.2.2 j hj)).1;rw[pZ]at h1;unfold aB;omega
theorem uQ{f:Nat->Fl}(h:∀j,(f j).2.2=0->f j=(0,0,0)):∀{n:Nat},(dY ((0,0,0):Fl) f n).2.2=0->dY ((0,0,0):Fl) f n=(0,0,0)
 |0,_=>rfl
 |n+1,hh=>by
  rw[dY]at hh⊢;by_cases h1:dY ((0,0,0):Fl) f n=(0,0,0)
  . rw[if_pos h1]at hh⊢;exact h n hh
  . rw[if_neg h1]at hh;exact absurd (uQ h hh) h1
theorem bEx{p:Pg}{i j:Nat}(h:(hP p i j).2.2=0):hP p i j=(0,0,0):=by
 unfold hP at h⊢;by_cases h1:eZ p i j=0;· rw[if_pos h1]
 . rw[if_neg h1]at h;exact absurd h h1
theorem aYa{p:Pg}{i:Nat}(h:(eN p i).2.2=0):eN p i=(0,0,0):=by
 unfold eN at h⊢;split at h;· simp at h
 rename_i h1;rw[if_neg h1];split at h
 . rename_i h2;rw[if_pos h2];split at h
   . rename_i h3;rw[if_pos h3]
   . simp at h
 . rename_i h2;exact absurd (uQ (fun j=>bEx) h) h2
theorem aHv{p:Pg}(h:(dR p).2.2=0):dR p=(0,0,0):=by
 unfold dR at h⊢;split at h
 . rename_i h1;rw[if_pos h1];exact uQ (fun j=>aYa) h
 . rename_i h1;exact absurd h h1
theorem xN{p:Pg}{i:Nat}(h0:dR p=(0,0,0))(hi:i<p.ns.length):jX (aB p i)=true/\(aB p i).all.all (kV p (aB p i))=true/\∀j,j<(aB p i).eqs.length->∀k,k<((aB p i).eqs[j]?.getD default).ns.length->gA (aB p i) (((aB p i).eqs[j]?.getD default).ns[k]?.getD ByteArray.empty)=true:=by
 have hc:=sZ h0;have hx:aB p i∈p.ns:=by
  exact aEi
 have hn:eN p i=(0,0,0):=by
  unfold dR at h0;rw[if_pos hc]at h0;exact xF h0 i hi
 refine⟨?_,?_,fun j hj k hk=>?_⟩
 . unfold eJ qC at hc;split at hc
   . split at hc<;>try (cases hc;done)
     split at hc<;>try (cases hc;done)
     split at hc<;>try (cases hc;done)
     split at hc
     . rename_i hr;have h1:=Zg.1 hr _ hx;unfold gT at h1;simp only[Ys]at h1;exact h1.1.1.1.2
     . cases hc
   . rename_i he;exact absurd hc he
 . unfold eN at hn;split at hn;· simp at hn
   . rename_i h1;simpa using h1
 . unfold eN at hn;split at hn;· simp at hn
   split at hn
   . rename_i h2;have h3:=xF h2 j hj;unfold hP at h3;have h4:eZ p i j=0:=by
      by_cases h5:eZ p i j=0;· exact h5
      . rw[if_neg h5]at h3;injection h3 with _ h3;injection h3 with _ h3
     unfold eZ at h4;split at h4
     . rename_i h5;have h6:=xF h5 k hk;unfold kZ at h6;split at h6;· cases h6
       . rename_i h7;simpa using h7
     . rename_i h5;exact absurd h4 h5
   . rename_i h2;exact absurd hn h2
theorem bEy{p:Pg}{i:Nat}{d:Dc}(Aq:kV p (aB p i) d=true):nY p.es (aB p i) d=!jR p i d:=by
 unfold nY jR;unfold kV at Aq;cases h1:(d.on.toList==[])with
 |true=>rfl
 |false=>
  rw[h1,Bool.false_or,Ys]at Aq;unfold gA dM at Aq;obtain⟨dd,hd⟩:=Option.isSome_iff_exists.1 Aq.1;obtain⟨r,hr⟩:=Option.isSome_iff_exists.1 Aq.2;rw[hd,hr];unfold fL;rw[List.all_cons,List.all_nil,Bool.and_true];unfold iH gM;rw[hr];simp only;rw[hd];rfl
theorem aCb{α:Type}{f g:α->Bool}:∀{l:List α},(∀a∈l,f a=g a)->l.any f=l.any g
 |[],_=>rfl
 |a::l,h=>by
  rw[List.any_cons,List.any_cons,h a aG,aCb fun b hb=>h b (by simp[hb])]
theorem aYb{p:Pg}{i:Nat}(hp:jX (aB p i)=true)(ho:(aB p i).all.all (kV p (aB p i))=true):(aB p i).vars.any (nY p.es (aB p i))=!(aB p i).all.all (jR p i):=by
 have h1:((aB p i).ins++(aB p i).outs).all (jR p i)=true:=by
  rw[Zg];intro d hd
  have:=Zg.1 hp d hd
  unfold eI at this;unfold jR;rw[Zc,this];rfl
 have h2:(aB p i).vars.any (nY p.es (aB p i))=(aB p i).vars.any fun d=>!jR p i d:=by
  refine aCb fun d hd=>bEy (Zg.1 ho d ?_);unfold Nd.all;exact List.mem_append_right _ hd
 rw[h2];unfold Nd.all;rw[List.all_append,h1,Bool.true_and,List.not_all_eq_any_not]
theorem aIz{f g:Nat->Bool}:∀{l:List Nat},(∀a∈l,f a=g a)->l.all f=l.all g
 |[],_=>rfl
 |a::l,h=>by
  rw[List.all_cons,List.all_cons,h a aG,aIz fun b hb=>h b (by simp[hb])]
theorem bBo{p:Pg}{i:Nat}{q:Qn}(hv:∀k,k<q.ns.length->gA (aB p i) (q.ns[k]?.getD ByteArray.empty)=true):mL p i q=!jB p i q:=by
 unfold mL jB;cases fW p i q.x with
 |none=>rfl
 |some u=>
  simp only;congr 1;unfold lH;by_cases hl:q.ns.length=u.length
  . rw[Zy hl,Zy hl.symm,Bool.true_and,Bool.true_and,hl];refine aIz fun k hk=>?_;have hk:=List.mem_range.1 hk;have h1:=hv k aA;unfold gA at h1;obtain⟨d,hd⟩:=Option.isSome_iff_exists.1 h1;unfold gM;rw[hd];rfl
  . rw[Zz hl,Zz (fun e=>hl e.symm),Bool.false_and,Bool.false_and]
theorem aGp{α:Type}[Inhabited α](f:α->Bool)(l:List α):((∀j,j<l.length->f (l[j]?.getD default)=false)/\bR f l 0=-1)\/∃k:Nat,k<l.length/\(∀j,j<k->f (l[j]?.getD default)=false)/\f (l[k]?.getD default)=true/\bR f l 0=(k:Int):=by
 have Aq:∀n,n<=l.length->(∀j,j<n->f (l[j]?.getD default)=false)\/∃k,k<n/\(∀j,j<k->f (l[j]?.getD default)=false)/\f (l[k]?.getD default)=true:=by
  intro n;induction n with
  |zero=>exact fun _=>.inl fun j hj=>absurd hj aA
  |succ n ih=>
   intro hn;rcases ih aA with h|⟨k,hk,h1,h2⟩
   . cases hf:f (l[n]?.getD default)with
     |false=>exact .inl (dC h hf)
     |true=>exact .inr ⟨n,by omega,h,hf⟩
   . exact .inr ⟨k,by omega,h1,h2⟩
 rcases Aq l.length (Yh _)with h|⟨k,hk,h1,h2⟩;· exact .inl ⟨h,oH h⟩
 . refine .inr ⟨k,hk,h1,h2,?_⟩
   have:=oJ (i:=0) hk h1 h2
   rwa[Nat.zero_add]at this
theorem bEz(p:Pg)(i:Nat)(r:Rm)(he:dB p.es=0)(Fc:∀s d,aZ (aB p i) s=some d->bQ p.es.length d.k d.e d.l=true)(De:∀j,j<p.ns.length->(aB p j).ins.length<=1000/\(aB p j).outs.length<=1000)
 (y:Ex)(A:Option Addr)(ca:Nat)(B:Option Addr)(cb:Nat)(w:World)(h:dF w p (aB p i) r)(hr:aH w y A B)(hg:mT y):
 Calls Tryz.prog 47 #[.agg (aY p (aB p i) r),.agg (aE y A ca B cb)] w (jF w (fW p i y)):=by
 by_cases hk:y.k=13
 . have e:fW p i y=(bV (y.subs.map (cZ p i))).bind fun ts=>(fS p y ts).map fun j=>(aB p j).outs.map aS:=by
    unfold fW;rw[hk];show(match bV (y.subs.map (cZ p i))with|none=>none|some ts=>(fS p y ts).map fun j=>(aB p j).outs.map aS)=_;exact aEq
   rw[e];obtain⟨Nu,Gu⟩:=hg.self;have Bp:y.subs.length<=8+y.arms.length:=by
    exact aNd
   refine aVi p i r y A ca B cb w hk _ _ (fun w1 hb=>?_) (fun ts Nt S n c w1 hb Cz Aq=>?_)
   . exact aL4 p (aB p i) r B y.subs.length cb y.subs w1 (h.below hb) (hr.below hb).subs (by have:=Nu.2.2;omega) (y.subs.map (cZ p i)) aG _ rfl (fun k hk A' Bx B' Jx w2 Ad Ap=>by
      rw[vI hk];exact aPd p i r he Fc De (aM y k) A' Bx B' Jx w2 (h.below (hb.tr Ad)) Ap (hg.sub hk))
   . have hn:=rF Nt;rw[List.length_map]at hn;have hl:=Cz.len;have ha:=rD Gu;unfold eV at ha;simp[hk]at ha;exact aL3 p (aB p i) r y A ca B cb S n c ts w1 (h.below hb) Cz Aq (vC Gu hk) aA De
 . have e:fW p i y=(cZ p i y).map fun t=>[t]:=by
    unfold fW;rw[if_neg kT]
   rw[e];exact aX8 p i r y A ca B cb w hk _ fun w1 hb=>aPd p i r he Fc De y A ca B cb w1 (h.below hb) (hr.below hb) hg
theorem bE0(p:Pg)(E:Option Addr)(ec:Nat)(N:Option Addr)(nc:Nat)(w:World)(h:cJ w p E N)(ht:gU p):
 Calls Tryz.prog 15 #[.agg (aK p E ec N nc)] w fun e w'=>e=.returned (jS (dS p))/\Below w.heap.size w w':=by
 have Df:=aI.max h.2;have HF:=Hd fun w0 hw=>aCv (w:=w) (w1:=w0) (cs:=aK p E ec N nc) (T:=25) (U:=30) hw;have He:=Hd fun w1 (hb:Below w.heap.size w w1)=>bEs p E ec N nc w1 (h.below hb) ht;have Oz:∀fn first cap w,(Instr.makeFunc fn first cap).run Tryz.prog w=.ok (.func fn first cap) w:=fun _ _ _ _=>rfl
 have Eg:=Hd fun w1 (hb:Below w.heap.size w w1)=>(show eX w1 N p.ns.length p.ns from(h.below hb).2);by_cases hz:dR p=(0,0,0)
 . have hc:=sZ hz;have Gp:=Hd (show dS p=dY ((0,0,0):Fl) (fG p) p.ns.length by unfold dS;rw [if_pos hz]);have Cs:=Hd fun k (hk:k<p.ns.length) hn hy=>lN (z:=((0,0,0):Fl)) (f:=fG p) (n:=p.ns.length) hk hn hy;have Cj:=Hd fun hn=>kH (z:=((0,0,0):Fl)) (f:=fG p) (n:=p.ns.length) hn;have Ki:=Hd fun k (hk:k<p.ns.length)=>(show fG p k=if(aB p k).vars.any (nY p.es (aB p k))=true then((k:Int),-1,7) else dY ((0,0,0):Fl) (jP p k) (aB p k).eqs.length by
    obtain⟨h1,h2,_⟩:=xN hz hk;rw[aYb h1 h2];unfold fG;cases (aB p k).all.all (jR p k)<;>rfl)
   have Oj:=Hd fun k (hk:k<p.ns.length)=>(show dY ((0,0,0):Fl) (jP p k) (aB p k).eqs.length=if 0<=bR (mL p k) (aB p k).eqs 0 then((k:Int),bR (mL p k) (aB p k).eqs 0,7) else(0,0,0) by
    obtain⟨_,_,h3⟩:=xN hz hk;have hw:∀j,j<(aB p k).eqs.length->mL p k ((aB p k).eqs[j]?.getD default)=!jB p k ((aB p k).eqs[j]?.getD default):=fun j hj=>bBo (h3 j hj);rcases aGp (mL p k) (aB p k).eqs with⟨h4,h5⟩|⟨m,hm,h4,h5,h6⟩
    . rw[h5,if_neg aA];refine kH fun j hj=>?_
      have:=h4 j hj
      rw[hw j hj]at this;unfold jP;rw[if_pos (by simpa using this)]
    . rw[h6,if_pos aA];have h7:jP p k m=((k:Int),(m:Int),7):=by
       rw[hw m hm]at h5;unfold jP;rw[if_neg pG]
      rw[lN hm (fun j hj=>?_) aPi,h7]
      have:=h4 j hj
      rw[hw j aA]at this;unfold jP;rw[if_pos (by simpa using this)])
   have Ov:=Hd fun k (hk:k<p.ns.length)(r:Rm)(Nw:r.E=E)(Nv:r.N=N) w1 (hb:Below w.heap.size w w1)(Ap:cF w1 (aB p k) r.A1 r.A2 r.A3 r.A4)=>vA 28 (.agg (aY p (aB p k) r)) (fun _ _=>rfl) (nY p.es (aB p k)) r.A3 (aB p k).vars.length r.c3 (aB p k).vars w1 Ap.2.2.1
    fun d hd W hW=>aVc p (aB p k) r d W ⟨by rw[Nw,Nv];exact h.below (hb.tr hW),Ap.below hW⟩
   have Oq:=Hd fun k (hk:k<p.ns.length)(r:Rm)(Nw:r.E=E)(Nv:r.N=N) w1 (hb:Below w.heap.size w w1)(Ap:cF w1 (aB p k) r.A1 r.A2 r.A3 r.A4)=>aVg 29 (.agg (aY p (aB p k) r)) (fun _ _=>rfl) (mL p k) r.A4 (aB p k).eqs.length r.c4 (aB p k).eqs w1 Ap.2.2.2
    fun q hq BN cN A ca B cb W hW Nz=>(by
     obtain⟨j,hj,rfl⟩:=Zj hq;have Oa:dF W p (aB p k) r:=⟨by rw[Nw,Nv];exact h.below (hb.tr hW),Ap.below hW⟩;have Lx:=(yH ht hc hk).2 j hj;rw[Yk hj,Yt]at Lx;exact bEw p k r _ BN cN A ca B cb W Oa Nz.1 Nz.2 fun w2 Ad Gq=>bEz p k r (bBn hc) (yH ht hc hk).1 (aX9 ht) _ A ca B cb w2 (Oa.below Ad) Gq Lx)
   rw[hz]at He;unfold jS aF at He;clear h ht hz hc;generalize dS p=Bu at *;generalize Nx:p.ns.length=pn at *;unfold aK at *;rw[Nx]at HF He⊢;have Ot:=Hd Nx;clear Nx;go_in
   go_upto_region 1 with(fail);generalize Ai:(w.alloc _).alloc _=w0;obtain⟨Ae,Al,Bf,hR⟩:=HF.o w0 Ai;have Af:=Hd Ae;have HR:=Hd hR;have HP:=Hd Bf;have q0:=Bf w0 (Yg _ _) 0;have q1:=Bf w0 (Yg _ _) 1;simp only[Ya,Yb,Yc]at q0 q1;clear Ai Ae Al Bf hR HF;go_wp2_with fail;refine(He.o w0 Af.o).mono ?_;rintro e w1 ⟨rfl,Aa⟩;have Ac:=Hd (aT Af.o Aa);have Ih:=Hd Aa;have Bi:=Hd (HR.o.below Aa);clear Aa q0 q1 He HR;go_upto_region 2 with(fail);generalize Br:w1.alloc _=w2;obtain⟨Ad,Fh,hg2⟩:=iB Br;have Aj:=Hd (aT Ac.o Ad);have Ef:=Hd (aT Ih.o Ad);have Ce:=Hd (Bi.o.below Ad);have f2:=Fh.cell 2;have q1:=HP.o w2 Ef.o 1;simp only[aF,List.getElem?_toArray,Yz,Zb]at f2 q1;clear Br Ad Fh hg2 Bi;go_wp2_with fail;go_loopw [17] (fun c wr=>∃k:Nat,k<=pn/\c=.int .i64 k/\(∀a,a<k->fG p a=(0,0,0))/\Below w2.heap.size w2 wr) (fun c _=>pn-(intOf c).toNat)
   case atStart=>exact⟨0,Yq _,rfl,fun a ha=>absurd ha aA,Yg _ _⟩
   case round=>
    obtain⟨k,hk,rfl,Bc,Ay⟩:=hrel;have Cg:=Hd Bc;have Cm:=Hd (aT Aj.o Ay);have Ig:=Hd (aT Ef.o Ay);have Ji:=Hd Ay;have Db:=Hd (Ce.o.below Ay);clear Bc Ay;by_cases Ah:k<pn
    . obtain⟨b,off,A1,c1,A2,c2,A3,c3,A4,c4,hN,hb,Ap,d0,d1,d2,d3,d4⟩:=iR (Eg.o wr Cm.o) Ah;have Ko:=Hd (Ki.o k Ah);have Oc:=Hd (Oj.o k Ah);have Og:=Hd (Cs.o k Ah Cg.o);have Fr:=Hd fun w1 (hb:Below w.heap.size w w1)(hq:cF w1 (aB p k) A1 A2 A3 A4)=>Ov.o k Ah ⟨E,ec,N,nc,A1,c1,A2,c2,A3,c3,A4,c4⟩ rfl rfl w1 hb hq;have Jx:=Hd fun w1 (hb:Below w.heap.size w w1)(hq:cF w1 (aB p k) A1 A2 A3 A4)=>Oq.o k Ah ⟨E,ec,N,nc,A1,c1,A2,c2,A3,c3,A4,c4⟩ rfl rfl w1 hb hq;have Ed:=Hd (show cF wr (aB p k) A1 A2 A3 A4 from Ap);unfold aY at Fr Jx;dsimp only at Fr Jx;have Eb:p.ns[k]?.getD default=aB p k:=rfl;rw[Eb]at d0 d1 d2 d3 d4;clear Eb Ap;subst hN;rw[Ot.o]at Fr Jx;generalize (aB p k).vars.any (nY p.es (aB p k))=mb at *;generalize dY ((0,0,0):Fl) (jP p k) (aB p k).eqs.length=ff at *;generalize bR (mL p k) (aB p k).eqs 0=fi at *;generalize aB p k=nd at *;go_upto_region 7 with(fail);generalize Ny:wr.alloc _=w4;obtain⟨Bk,Ox,Bp⟩:=lQ Ny;have Be:=Hd (aT Cm.o Bk);have Hi:=Hd (aT Ig.o Bk);have Ou:=Hd (aT Ji.o Bk);have On:=Hd (Db.o.below Bk);have Oo:=Hd (Ed.o.below Bk);have Jc:=Hd Bp;obtain⟨e0,e1,e2,e3,e4,-⟩:=Sx (Bp w4 (Yg _ _));have q0:=HP.o w4 Hi.o 0;have q1:=HP.o w4 Hi.o 1;simp only[Ya,Yb,Yc]at e0 e1 e2 e3 e4 q0 q1;clear Ny Bk Ox Bp d0 d1 d2 d3 d4;go_upto_region 8 with(fail);generalize Od:w4.alloc _=w5;obtain⟨Bv,Oy,Aq⟩:=lQ Od;have Ck:=Hd (aT Be.o Bv);have Ol:=Hd (aT Ou.o Bv);have Oi:=Hd (On.o.below Bv);have Oe:=Hd (Oo.o.below Bv);have Of:=Hd Aq;have Ob:=Hd fun w' (hb:Below w5.heap.size w5 w') j=>Jc.o w' (aT Bv hb) j;have e3:=Ob.o w5 (Yg _ _) 3;obtain⟨f0,f1,f2,f3,f4,f5⟩:=Sx (Aq w5 (Yg _ _));have f6:=Aq w5 (Yg _ _) 6;simp only[Ya,Yb,Yc]at e3 f0 f1 f2 f3 f4 f5 f6;have Nt:=Hd (Fr.o w5 Ck.o Oe.o);clear Od Bv Oy Aq e0 e1 e2 e4 q0 q1;cases mb with
      |true=>
       have Hh:=Hd (show fG p k=((k:Int),-1,7)from Ko.o);have Fe:=Hd (show Bu=((k:Int),-1,7)by rw[Gp.o,Og.o aPg];exact Hh.o);go_wp2_with fail;refine Nt.o.mono ?_;rintro e w6 ⟨rfl,Ci⟩;have Du:=Hd (aT Ck.o Ci);have Bx:=Hd (Oi.o.below Ci);clear Ci Nt;go_wp2_with (refine Zv rfl _ _ _ rfl (w.heap.size+1) _ rfl rfl _ _ Bx.o eT rfl fI ?_);exact Zu (fC (p:=2) rfl _ _ (w.heap.size+1) k (-1) 7 rfl (Bx.o.set _ _ _)) rfl ⟨by rw[Fe.o];rfl,Xc Du.o (Nat.le_succ _) _⟩
      |false=>
       have Hh:=Hd (show fG p k=ff from Ko.o);go_wp2_with fail;refine Nt.o.mono ?_;rintro e w6 ⟨rfl,Ci⟩;have Du:=Hd (aT Ck.o Ci);have Ow:=Hd (aT Ol.o Ci);have Bx:=Hd (Oi.o.below Ci);have Om:=Hd (Oe.o.below Ci);have e4:=Ob.o w6 Ci 4;obtain⟨f0,f1,f2,f3,f4,f5⟩:=Sx (Of.o w6 Ci);have f6:=Of.o w6 Ci 6;simp only[Ya,Yb,Yc]at e4 f0 f1 f2 f3 f4 f5 f6;have Oh:=Hd (Jx.o w6 Du.o Om.o);clear Ci Nt e3;go_wp2_with fail;refine Oh.o.mono ?_;rintro e w7 ⟨rfl,Dw⟩;have Fg:=Hd (aT Du.o Dw);have Np:=Hd (aT Ow.o Dw);have Ik:=Hd (Bx.o.below Dw);clear Dw Oh e4 f0 f1 f2 f3 f4 f5 f6;by_cases Nu:0<=fi
       . have hd:decide (0<=fi)=true:=Zy Nu;have Dg:=Hd (show fG p k=((k:Int),fi,7)by rw[Hh.o,Oc.o,if_pos Nu]);have Fe:=Hd (show Bu=((k:Int),fi,7)by rw[Gp.o,Og.o aPh];exact Dg.o);go_wp2_with (refine Zv rfl _ _ _ rfl (w.heap.size+1) _ rfl rfl _ _ Ik.o eT rfl fI ?_);exact Zu (fC (p:=2) rfl _ _ (w.heap.size+1) k fi 7 rfl (Ik.o.set _ _ _)) rfl ⟨by rw[Fe.o];rfl,Xc Fg.o (Nat.le_succ _) _⟩
       . have hd:decide (0<=fi)=false:=Zz Nu;have Dg:=Hd (show fG p k=(0,0,0)by rw[Hh.o,Oc.o,if_neg Nu]);have Dx:=Hd (dC (P:=fun a=>fG p a=(0,0,0)) Cg.o Dg.o);exact aNq
    . exact aQ1
 . have Gp:=Hd (show dS p=dR p by unfold dS;rw[if_neg hz]);have An:(dR p).2.2≠0:=fun e=>hz (aHv e);have Ok:((dR p).2.2 !=0)=true:=bne_iff_ne.2 An;rw[Gp.o];unfold jS aF at *;clear h ht hz An Gp Eg;unfold aK at *;generalize (dR p).1=a at *;generalize (dR p).2.1=b at *;generalize (dR p).2.2=c at *;exact aQa
end
def iW(p:Pg):Fl:=if dS p=(0,0,0)then dY ((0,0,0):Fl) (fU p) p.ns.length else dS p
def pY(es:List En)(n:Nd)(d:Dc):Bool:=!(cR es n d.nm).isSome
def mM(es:List En)(n:Nd)(q:Qn):Bool:=match cR es n (q.ns[0]?.getD ByteArray.empty)with
 |none=>true
 |some row=>!gX es n q.x row || (q.ns.drop 1).any fun s=>!dO es n s row
theorem aJ6{p:Pg}(h:dS p=(0,0,0)):dR p=(0,0,0):=by
 unfold dS at h;split at h;· assumption
 . rename_i h1;exact absurd h h1
theorem bE1{n:Nd}{s:ByteArray}{d:Dc}(h:aZ n s=some d):d∈n.all/\d.nm=s:=by
 unfold aZ at h;refine⟨List.mem_of_find?_eq_some h,?_⟩
 have:=List.find?_some h
 exact yA (by rw[Zc,Zc];exact this)
theorem aVj{n:Nd}{k:Nat}{s:ByteArray}{Aq:List Dc}{d:Dc}(h:aZ n s=some d)(hn:eI d.on=true):iS n (k+1) s Aq=some Aq:=by
 rw[iS,h];exact if_pos hn
theorem aVk{es:List En}{n:Nd}{s:ByteArray}{d:Dc}(h:aZ n s=some d)(hn:eI d.on=true):cR es n s=some []:=by
 unfold cR jY;rw[aVj h hn];rfl
theorem aYc{es:List En}{n:Nd}(hp:jX n=true){d:Dc}(hd:d∈n.ins++n.outs):cR es n d.nm=some []:=by
 have h1:((n.ins++n.outs).find? fun x=>x.nm.data.toList==d.nm.data.toList).isSome=true:=List.find?_isSome.2 ⟨d,hd,by simp⟩;obtain⟨d',h2⟩:=Option.isSome_iff_exists.1 h1;refine aVk (d:=d') ?_ (Zg.1 hp d' (List.mem_of_find?_eq_some h2));unfold aZ Nd.all;rw[List.find?_append,h2];rfl
theorem aGq{p:Pg}{i:Nat}(hp:jX (aB p i)=true):(aB p i).vars.any (pY p.es (aB p i))=!(aB p i).all.all (jH p i):=by
 have h1:((aB p i).ins++(aB p i).outs).all (jH p i)=true:=by
  rw[Zg];intro d hd;unfold jH;rw[aYc hp hd];rfl
 unfold Nd.all;rw[List.all_append,h1,Bool.true_and,List.not_all_eq_any_not];rfl
theorem aYd{p:Pg}{i:Nat}(ht:(aB p i).all.all (jH p i)=true){s:ByteArray}(hs:gA (aB p i) s=true):(cR p.es (aB p i) s).isSome=true:=by
 unfold gA at hs;obtain⟨d,hd⟩:=Option.isSome_iff_exists.1 hs;obtain⟨h1,h2⟩:=bE1 hd
 have:=Zg.1 ht d h1
 unfold jH at this;rwa[h2]at this
theorem aYe{p:Pg}{i:Nat}{q:Qn}(h0:0<q.ns.length)(hv:∀k,k<q.ns.length->(cR p.es (aB p i) (q.ns[k]?.getD ByteArray.empty)).isSome=true):mM p.es (aB p i) q=!lY p i q:=by
 obtain⟨row,Ao⟩:=Option.isSome_iff_exists.1 (hv 0 h0);unfold mM lY eY;rw[Ao];simp only[Yt]
 have Aq:∀s∈q.ns,dO p.es (aB p i) s row=dD ((cR p.es (aB p i) s).getD []) row:=fun s hs=>by
  obtain⟨k,hk,rfl⟩:=Zj hs;have h1:=hv k hk;rw[Yk hk,Yt]at h1;obtain⟨r,hr⟩:=Option.isSome_iff_exists.1 h1;unfold dO;rw[hr];rfl
 have h2:(q.ns.drop 1).any (fun s=>!dO p.es (aB p i) s row)=!q.ns.all fun s=>dD ((cR p.es (aB p i) s).getD []) row:=by
  match hq:q.ns,h0 with
  |a::l,_=>
   rw[hq]at Ao Aq;simp only[Yz,Yt]at Ao;rw[List.all_cons,Ao,Yt,aG8,Bool.true_and,List.not_all_eq_any_not];show l.any _=_;exact aCb fun s hs=>by rw[Aq s (Zf _ hs)]
 rw[h2,Bool.not_and,Bool.or_comm]
theorem aVl{p:Pg}{i j:Nat}(hj:j<(aB p i).all.length)(h:jH p i ((aB p i).all[j]?.getD default)=false):fU p i=((i:Int),-1,8):=by
 unfold fU;exact aMk
theorem aHw{p:Pg}{i:Nat}(h0:∀a,a<(aB p i).all.length->jH p i ((aB p i).all[a]?.getD default)=true):fU p i=dY ((0,0,0):Fl) (lF p i) (aB p i).eqs.length:=by
 unfold fU;rw[if_neg];refine fun hf=>?_
 have:(aB p i).all.all (jH p i)=true:=Zg.2 fun x hx=>by
  exact aNs
 rw[this]at hf;cases hf
theorem aYf{p:Pg}{i j:Nat}(h0:∀a,a<(aB p i).all.length->jH p i ((aB p i).all[a]?.getD default)=true)(hj:j<(aB p i).eqs.length)(hn:∀a,a<j->lY p i ((aB p i).eqs[a]?.getD default)=true)(h:lY p i ((aB p i).eqs[j]?.getD default)=false):fU p i=((i:Int),(j:Int),8):=by
 rw[aHw h0,lN hj (fun a ha=>by unfold lF;rw[if_pos (hn a ha)])]
 . unfold lF;rw[h];rfl
 . unfold lF;exact aOm
theorem aYg{p:Pg}{i:Nat}(h0:∀a,a<(aB p i).all.length->jH p i ((aB p i).all[a]?.getD default)=true)(h1:∀a,a<(aB p i).eqs.length->lY p i ((aB p i).eqs[a]?.getD default)=true):fU p i=(0,0,0):=by
 rw[aHw h0];exact kH fun a ha=>by unfold lF;rw[if_pos (h1 a ha)]
theorem aVm{p:Pg}{k:Nat}{r:Fl}(h0:dS p=(0,0,0))(hk:k<p.ns.length)(hn:∀a,a<k->fU p a=(0,0,0))(h:fU p k=r)(hr:r.2.2=8):iW p=r:=by
 unfold iW;exact aN4
theorem aYh{p:Pg}(h0:dS p=(0,0,0))(hn:∀a,a<p.ns.length->fU p a=(0,0,0)):iW p=(0,0,0):=by
 unfold iW;rw[if_pos h0];exact kH hn
theorem aVn{p:Pg}(h0:¬dS p=(0,0,0)):iW p=dS p:=by
 unfold iW;rw[if_neg h0]
theorem aCy{p:Pg}{i j:Nat}(h0:eJ p=0)(hi:i<p.ns.length)(hj:j<(aB p i).eqs.length):0<((aB p i).eqs[j]?.getD default).ns.length/\bH ((aB p i).eqs[j]?.getD default).x=true:=by
 have hx:aB p i∈p.ns:=by
  exact aEi
 unfold eJ qC at h0;split at h0<;>try (rename_i he;exact absurd h0 he)
 split at h0<;>try (cases h0;done)
 split at h0<;>try (cases h0;done)
 split at h0<;>try (cases h0;done)
 split at h0<;>try (cases h0;done)
 rename_i hr;have h1:=Zg.1 hr _ hx;unfold gT at h1;simp only[Ys]at h1;have hm:(aB p i).eqs[j]?.getD default∈(aB p i).eqs:=by
  rw[Yk hj];exact Zh hj
 have h3:=Zg.1 h1.1.1.2 _ hm;unfold hM at h3;simp only[Ys,decide_eq_true_eq]at h3;exact⟨h3.1.1.2,h3.1.2⟩
end Go.Proofs.YtkbpdoomhfkngaaGreat
