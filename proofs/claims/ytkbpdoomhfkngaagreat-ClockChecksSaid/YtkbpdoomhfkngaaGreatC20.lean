/- A part of the proof. Conditions: each theorem's own. -/
import Derived.Test.YtkbpdoomhfkngaaGreatC19
namespace Go.Proofs.YtkbpdoomhfkngaaGreat
set_option linter.unusedVariables false
set_option linter.unusedSimpArgs false
set_option maxRecDepth 100000
set_option maxHeartbeats 40000000
section
open Go.RowKit Go.Sort
def uE(oc:Option (List Int × T3))(ou:Option T3):Option T3:=match oc with|none=>none|some c=>match ou with|none=>none|some u=>if c.2=u then some u else none
def aO9(p:Pg)(E:Option Addr)(ec:Nat)(N:Option Addr)(nc:Nat)(i:Nat):Prop:=
 ∀(x:Ex)(A:Option Addr)(ca:Nat)(B:Option Addr)(cb:Nat)(w:World),cJ w p E N->aH w x A B->x.k=8->2<=x.subs.length->bD (aM x 0)<=1000000->(∀q∈bL (aM x 0),cX q)->∀ou:Option T3,
  (∀A' Aq B' Bp w1,Below w.heap.size w w1->aH w (aM x 1) A' B'->Calls Tryz.prog 58 #[.agg (aK p E ec N nc),.int .i64 i,.agg (aE (aM x 1) A' Aq B' Bp)] w1 (bF w1 ou))->
  Calls Tryz.prog 90 #[.agg (aK p E ec N nc),.int .i64 i,.agg (aE x A ca B cb)] w (fO w (uE (eG p.es (aM x 0)) ou))
def mT(x:Ex):Prop:=bD x<=1000000/\∀q∈bL x,cX q/\bO q=true
theorem aBs:∀{l:List Ex}{i:Nat}{q:Ex},i<l.length->q∈bL (l[i]?.getD default)->q∈eC l
 |[],i,q,h,_=>absurd h aG
 |x::l,0,q,_,hq=>by
  exact aNw
 |x::l,i+1,q,h,hq=>by
  simp only[Zb]at hq;simp only[eC];exact List.mem_append_right _ (aBs iI hq)
theorem mT.sub{x:Ex}(h:mT x){k:Nat}(hk:k<x.subs.length):mT (aM x k):=by
 have hm:aM x k∈x.subs:=by unfold aM;rw[Yk hk];exact Zh _
 refine⟨?_,fun q hq=>h.2 q ?_⟩
 . have h1:=h.1;have h2:=aHx hm;rw[mF]at h1;omega
 . rw[qW];exact Zf _ (aBs hk hq)
theorem mT.self{x:Ex}(h:mT x):cX x/\bO x=true:=h.2 x aAi
theorem vI{p:Pg}{i:Nat}{x:Ex}{k:Nat}(hk:k<x.subs.length):(x.subs.map (cZ p i))[k]?.getD none=cZ p i (aM x k):=by
 unfold aM;rw[List.getElem?_map,Yk hk];rfl
theorem rD{x:Ex}(h:bO x=true):(eV x).1<=x.subs.length:=by
 unfold bO at h;simp only[Ys,decide_eq_true_eq]at h;exact h.1.1.2
theorem aIs{x:Ex}(h:bO x=true):1<=x.k/\x.k<=17:=by
 unfold bO at h;simp only[Ys,decide_eq_true_eq]at h;exact⟨h.1.1.1.1.1.1.1,h.1.1.1.1.1.1.2⟩
theorem aBt{x:Ex}(h:bO x=true):iP x=true:=by
 unfold bO at h;simp only[Ys]at h;exact h.1.1.1.2
theorem vC{x:Ex}(h:bO x=true)(hk:x.k=13):x.n=0\/x.n=1:=by
 unfold bO at h;simp only[Ys]at h;exact aGz h.1.1.1.1.1.2 hk
theorem aHp{x:Ex}(h:bO x=true)(hk:x.k=5\/x.k=6\/x.k=7\/x.k=14\/x.k=15\/x.k=16):rV x.k<=x.subs.length:=by
 have h1:=rD h;rcases hk with hk|hk|hk|hk|hk|hk<;>(unfold eV at h1;rw[hk]at h1⊢;simp[rV]at h1⊢;omega)
theorem aIt{x:Ex}(h:bO x=true)(Bp:9<=x.k)(Aq:x.k<=13):wC x.k<=x.subs.length/\(x.k=11->0<x.arms.length):=by
 have h1:=rD h;have h2:=aBt h;rcases(show x.k=9\/x.k=10\/x.k=11\/x.k=12\/x.k=13 by omega)with hk|hk|hk|hk|hk<;>(unfold eV at h1;unfold iP at h2;rw[hk]at h1 h2⊢;(try simp[wC]at h1 h2⊢)<;>(try omega))
theorem bGo{x:Ex}(h:bO x=true)(hk:x.k=8):2<=x.subs.length:=by
 have h1:=rD h;rw[zG hk]at h1;simp at h1;omega
theorem uW{p:Pg}{i:Nat}{x:Ex}{l:List (Option T3)}(hk:x.k=1\/x.k=2\/x.k=4):(eG p.es x).map (·.2)=jQ p i x l:=by rcases hk with hk|hk|hk<;>(unfold jQ;rw[hk];rfl)
theorem aK1{p:Pg}{i:Nat}{x:Ex}{l:List (Option T3)}(hk:x.k=3):(aZ (aB p i) x.s).map aS=jQ p i x l:=by unfold jQ;rw[hk];rfl
theorem aK2{p:Pg}{i:Nat}{x:Ex}{l:List (Option T3)}(hk:x.k=8):jQ p i x l=uE (eG p.es (aM x 0)) (l[1]?.getD none):=by
 unfold jQ uE;rw[hk];rfl
theorem aK3{p:Pg}{i:Nat}{x:Ex}{l:List (Option T3)}(hk:x.k=17):none=jQ p i x l:=by unfold jQ;rw[hk];rfl
theorem aCs{p:Pg}{i:Nat}{x:Ex}{l:List (Option T3)}(hk:(x.k=5\/x.k=6\/x.k=7\/x.k=14\/x.k=15\/x.k=16)\/(9<=x.k/\x.k<=13))(h:bV l=none):jQ p i x l=none:=by
 unfold jQ;rw[h];rcases(show x.k=5\/x.k=6\/x.k=7\/x.k=14\/x.k=15\/x.k=16\/x.k=9\/x.k=10\/x.k=11\/x.k=12\/x.k=13 by omega)with hk|hk|hk|hk|hk|hk|hk|hk|hk|hk|hk<;>(rw[hk];rfl)
theorem aJz{p:Pg}{i:Nat}{x:Ex}{l:List (Option T3)}{ts:List T3}(Bp:9<=x.k)(Aq:x.k<=13)(h:bV l=some ts):jQ p i x l=jK p i x ts:=by
 unfold jQ;rw[h];rcases(show x.k=9\/x.k=10\/x.k=11\/x.k=12\/x.k=13 by omega)with hk|hk|hk|hk|hk<;>(rw[hk];rfl)
theorem xS{p:Pg}{i:Nat}{x:Ex}{l:List (Option T3)}{ts:List T3}(hk:x.k=5\/x.k=6\/x.k=7\/x.k=14\/x.k=15\/x.k=16)(h:bV l=some ts):jQ p i x l=mK x ts:=by
 unfold jQ;rw[h];rcases hk with hk|hk|hk|hk|hk|hk<;>(rw[hk];rfl)
theorem bGp(p:Pg)(E:Option Addr)(ec:Nat)(N:Option Addr)(nc:Nat)(i:Nat)(hi:i<p.ns.length)(Nz:p.ns.length<=9223372036854775807)(Ny:(aB p i).all.length<=1000)(Fc:∀s d,aZ (aB p i) s=some d->bQ p.es.length d.k d.e d.l=true)(H8:aO9 p E ec N nc i):
 ∀(x:Ex)(A:Option Addr)(ca:Nat)(B:Option Addr)(cb:Nat)(w:World),cJ w p E N->aH w x A B->mT x->
  Calls Tryz.prog 90 #[.agg (aK p E ec N nc),.int .i64 i,.agg (aE x A ca B cb)] w (fO w (cZ p i x)):=by
 refine nK fun x ih A ca B cb w h hr hg=>?_;obtain⟨Oa,Gu⟩:=hg.self;obtain⟨Nu,Nt⟩:=aIs Gu
 have Jx:∀k,k<x.subs.length->∀A' Aq B' Bp w1,Below w.heap.size w w1->aH w1 (aM x k) A' B'->Calls Tryz.prog 58 #[.agg (aK p E ec N nc),.int .i64 i,.agg (aE (aM x k) A' Aq B' Bp)] w1 (bF w1 (cZ p i (aM x k))):=
  fun k hk A' Aq B' Bp w1 hb Ap=>aK0 p E ec N nc i (aM x k) A' Aq B' Bp w1 hi Nz _ fun w2 Ad=>ih k hk A' Aq B' Bp w2 (h.below (hb.tr Ad)) (Ap.below Ad) (hg.sub hk)
 have hs:=hr.subs.max;have Nv:x.subs.length<=1000000:=by
  have h1:=aBw x.subs;have h2:=mF x;have h3:=hg.1;omega
 rw[lP];by_cases hc:x.k=1\/x.k=2\/x.k=4;· exact bGk p E ec N nc i x A ca B cb w h hr hc hg.1 (fun q hq=>(hg.2 q hq).1) _ (uW hc)
 by_cases h3:x.k=3;· exact bGn p E ec N nc i x A ca B cb w h hi Ny h3 _ (aK1 h3)
 by_cases h8:x.k=8
 . have h2:=bGo Gu h8;rw[aK2 h8,vI aA];exact H8 x A ca B cb w h hr h8 h2 (hg.sub aA).1 (fun q hq=>((hg.sub aA).2 q hq).1) _ (fun A' Aq B' Bp w1 hb Ap=>Jx 1 aA A' Aq B' Bp w1 hb (Ap.below hb))
 by_cases Nx:x.k=17;· exact bGl p E ec N nc i x A ca B cb w Nx _ (aK3 Nx)
 have hk:(x.k=5\/x.k=6\/x.k=7\/x.k=14\/x.k=15\/x.k=16)\/(9<=x.k/\x.k<=13):=aA;refine bGm p E ec N nc i x A ca B cb w hk (bV (x.subs.map (cZ p i))) _ (fun w1 hb=>?_) (fun hn=>aCs hk hn) (fun Nu Nt ts Bx S n c w1 hb Cz=>?_) (fun Nw ts Bx S n c w1 hb Cz=>?_)
 . exact aIr p E ec N nc i x A ca B cb w1 (hr.below hb) x.subs.length rfl Nv (x.subs.map (cZ p i)) aG _ rfl (fun k hk A' Aq B' Bp w2 Ad Ap=>by
    rw[vI hk];exact Jx k hk A' Aq B' Bp w2 (hb.tr Ad) (Ap.below Ad))
 . obtain⟨hf,ha⟩:=aIt Gu Nu Nt;rw[aJz Nu Nt Bx];have hn:=rF Bx;have hl:=Cz.len;rw[List.length_map]at hn;exact bAy p E ec N nc i x A ca B cb S n c ts w1 (h.below hb) (hr.below hb) Cz Nu Nt aA hi Ny ha (vC Gu) (Fc x.s)
 . rw[xS Nw Bx];have hn:=rF Bx;have hl:=Cz.len;rw[List.length_map]at hn;exact aXn x A ca B cb S n c ts w1 Cz Nw (by have:=aHp Gu Nw;omega)
end
section
open Go.RowKit Go.Sort Go.BigFrame
theorem bGq{w w0:World}{p:Pg}{E:Option Addr}{ec:Nat}{N:Option Addr}{nc:Nat}{cs:Array Value}{T U:TypeId}(h:(w.alloc (.cells (aK p E ec N nc) T)).alloc (.cells cs U)=w0):
 Below w.heap.size w w0/\(∀w',Below w0.heap.size w0 w'->∀j,w'.cell? ⟨w.heap.size,j,none⟩=(aK p E ec N nc)[j]?)/\(∀w',Below w0.heap.size w0 w'->∀j,w'.cell? ⟨w.heap.size+1,j,none⟩=cs[j]?):=by
 subst h;have h1:=Zx w (.cells (aK p E ec N nc) T);have h2:=Zx (w.alloc (.cells (aK p E ec N nc) T)) (.cells cs U);rw[World.size_alloc]at h2;have h3:=(((Yg (w.alloc (.cells (aK p E ec N nc) T)).heap.size _).alloc (Yh _) (.cells cs U)).block w.heap.size aG).trans h1;exact⟨((Yg _ _).alloc (Yh _) _).alloc aG _,pO h3,pO h2⟩
def oY(p:Pg)(i:Nat)(ns:List ByteArray)(ws:List T3):Bool:=decide (ws.length=ns.length) && (List.range ws.length).all fun k=>decide (gZ (aZ (aB p i) (ns[k]?.getD ByteArray.empty))=aD ws k)
theorem bA0{p:Pg}{i:Nat}{q:Qn}{ws:List T3}(h:fW p i q.x=some ws):jB p i q=oY p i q.ns ws:=by unfold jB oY;rw[h]
theorem bA1{p:Pg}{i:Nat}{q:Qn}(h:fW p i q.x=none):jB p i q=false:=by unfold jB;rw[h]
theorem aIu{p:Pg}{i k:Nat}{ns:List ByteArray}{ws:List T3}(hk:k<ws.length)(h:¬gZ (aZ (aB p i) (ns[k]?.getD ByteArray.empty))=aD ws k):oY p i ns ws=false:=by
 unfold oY;rw[Bool.and_eq_false_iff];refine .inr (Bool.eq_false_iff.2 fun ha=>?_)
 have:=Zg.1 ha k (List.mem_range.2 hk)
 exact h (of_decide_eq_true this)
theorem aU4{p:Pg}{i:Nat}{ns:List ByteArray}{ws:List T3}(hl:ws.length=ns.length)(h:∀k,k<ws.length->gZ (aZ (aB p i) (ns[k]?.getD ByteArray.empty))=aD ws k):oY p i ns ws=true:=by
 unfold oY;rw[Ys];exact⟨Zy hl,Zg.2 fun k hk=>Zy (h k (List.mem_range.1 hk))⟩
theorem aHq{p:Pg}{i:Nat}{ns:List ByteArray}{ws:List T3}(hl:¬ws.length=ns.length):oY p i ns ws=false:=by
 unfold oY;rw[Zz hl];rfl
def aPa(p:Pg)(x:Ex)(o:Option (List T3)):Option (List T3):=match o with|none=>none|some ts=>(fS p x ts).map fun j=>(aB p j).outs.map aS
theorem aXr{p:Pg}{i:Nat}{x:Ex}(hk:x.k=13):fW p i x=aPa p x (bV (x.subs.map (cZ p i))):=by
 unfold fW;rw[if_pos (by simp[hk])];cases bV (x.subs.map (cZ p i))<;>rfl
theorem bGr{l:List Dc}{k:Nat}(hk:k<l.length):aD (l.map aS) k=aS (l[k]?.getD default):=by
 unfold aD;rw[List.getElem?_map,Yk hk];rfl
theorem bA2{l:List T3}{k:Nat}(hk:k<l.length):l.take (k+1)=l.take k++[aD l k]:=by
 rw[List.take_add_one,Yk hk];unfold aD;rw[Yk hk];rfl
theorem aCt{o:Option Dc}(ho:o=none->(default:Dc)=default):gZ o=((o.getD default).k,(o.getD default).e,(o.getD default).l):=aAs
theorem bD9(p:Pg)(E:Option Addr)(ec:Nat)(N:Option Addr)(nc:Nat)(i:Nat)(q:Qn)(BN:Option Addr)(cN:Nat)(A:Option Addr)(ca:Nat)(B:Option Addr)(cb:Nat)(w:World)(h:cJ w p E N)(hq:aP w BN q.ns.length q.ns)(hi:i<p.ns.length)(Pf:(aB p i).all.length<=1000)(hn1:q.x.k=13->q.x.n=0\/q.x.n=1)(Qf:q.ns.length<=1000)(Pm:∀j,j<p.ns.length->(aB p j).outs.length<=1000)
 (Ps:∀w1,Below w.heap.size w w1->Calls Tryz.prog 58 #[.agg (aK p E ec N nc),.int .i64 i,.agg (aE q.x A ca B cb)] w1 (bF w1 (cZ p i q.x)))
 (Pk:∀w1,Below w.heap.size w w1->Calls Tryz.prog 56 #[.agg (aK p E ec N nc),.int .i64 i,.agg (aE q.x A ca B cb)] w1 (jF w1 (bV (q.x.subs.map (cZ p i)))))(r:Bool)(hr:jB p i q=r):
 Calls Tryz.prog 36 #[.agg (aK p E ec N nc),.int .i64 i,.agg (dW q BN cN A ca B cb)] w fun e w'=>e=.returned (.bool r)/\Below w.heap.size w w':=by
 have HF:=Hd fun w0 h=>bGq (w:=w) (w0:=w0) (p:=p) (E:=E) (ec:=ec) (N:=N) (nc:=nc) (cs:=dW q BN cN A ca B cb) (T:=25) (U:=54) h;obtain⟨nb,no,A1,c1,A2,c2,A3,c3,A4,c4,rfl,Oc,Ap,d0,d1,d2,d3,d4⟩:=iR h.2 hi;have Dv:=Hd fun s w1 (hb:Below w.heap.size w w1)=>pT (aB p i) A1 c1 A2 c2 A3 c3 A4 c4 s w1 (Ap.below hb) Pf;have Bz:=Hd fun S m sc ts w1 (hb:Below w.heap.size w w1)(hS:aR w1 S m ts)=>aIo p E ec (some ⟨nb,no,none⟩) nc q.x A ca B cb S m sc ts w1 (h.below hb) hS;have Oa:=Hd Ps;have It:=Hd Pk;have HQ:=Hd hq;have Eg:=Hd h.2;have Jx:=Hd hn1;have Od:=Hd (show q.x.k≠13->fW p i q.x=(cZ p i q.x).map fun t=>[t]from fun hk=>by unfold fW;rw[if_neg kT]);have Pn:=Hd (show q.x.k=13->fW p i q.x=aPa p q.x (bV (q.x.subs.map (cZ p i)))from aXr);have Ph:=Hd fun ts j (hj:fS p q.x ts=some j)=>aJx hj;have Pd:=Hd Pm;have Hh:=Hd (show ∀ws,fW p i q.x=some ws->r=oY p i q.ns ws from fun ws hw=>by rw[<-hr];exact bA0 hw);have Cj:=Hd (show fW p i q.x=none->r=false from fun hw=>by rw[<-hr];exact bA1 hw);unfold nL kY at Dv;have Eb:aB p i=p.ns[i]?.getD default:=rfl;rw[Eb]at Dv;generalize Pz:p.ns[i]?.getD default=nd at *;unfold bK at Dv;unfold aU at Dv;unfold bF at Oa;unfold jF at It;unfold aK dW at HF⊢;unfold aK aE at Oa It Bz
 have HD:=Hd (show ∀ w1,Below w.heap.size w w1->w1.cell? ⟨nb,no+i*5,none⟩=some (.string nd.nm)/\w1.cell? ⟨nb,no+i*5+1,none⟩=some (.slice A1 nd.ins.length c1)/\w1.cell? ⟨nb,no+i*5+2,none⟩=some (.slice A2 nd.outs.length c2)/\w1.cell? ⟨nb,no+i*5+3,none⟩=some (.slice A3 nd.vars.length c3)/\w1.cell? ⟨nb,no+i*5+4,none⟩=some (.slice A4 nd.eqs.length c4) from
  fun w1 hb=>⟨(hb.cell (p:=⟨nb,no+i*5,none⟩) Oc).trans d0,(hb.cell (p:=⟨nb,no+i*5+1,none⟩) Oc).trans d1,(hb.cell (p:=⟨nb,no+i*5+2,none⟩) Oc).trans d2,(hb.cell (p:=⟨nb,no+i*5+3,none⟩) Oc).trans d3,(hb.cell (p:=⟨nb,no+i*5+4,none⟩) Oc).trans d4⟩)
 clear d0 d1 d2 d3 d4 Ap h Ps Pk hq hn1 hr Pf Pm;generalize hmm:q.ns.length=m at *;generalize p.es.length=pe at *;generalize Qh:p.ns.length=pn at *;go_in
 go_upto_region 1 with(fail);generalize Ai:(w.alloc _).alloc _=w0;obtain⟨Ae,hp,hx⟩:=HF.o w0 Ai;have Af:=Hd Ae;have HP:=Hd hp;have HX:=Hd hx;have Pi:=World.ownsRow_lit (base:=w0.heap.size) (e:=41) (size:=3) w0 #[] 0 (Yh _) bS rfl;have Fy:=Hd Pi;have Nw:=Hd ((Yg w0.heap.size w0).alloc (Yh _) (.cells #[] 41));clear Ai Ae hp hx HF Pi;go_upto_region 2 with(fail);generalize w0.alloc _=wN at *;have p0:=HP.o wN Nw.o 0;have p1:=HP.o wN Nw.o 1;obtain⟨-,q1,q2,q3,q4,q5⟩:=Sx (HX.o wN Nw.o);have q6:=HX.o wN Nw.o 6;simp only[Ya,Yb,Yc]at p0 p1 q1 q2 q3 q4 q5 q6;have Oh:=Af.o.tr Nw.o;obtain⟨i0,Ot,Oz,Pc,Oo,Cu,Ok⟩:=kG vH;generalize Qc:q.x.k=kk at *;by_cases Og:kk=13
 . subst Og;have Fk:=Hd (It.o wN Oh);have Lj:=Hd (Jx.o rfl);have Ow:=Hd (Pn.o rfl);clear Oa It Jx Od Oh Pn;generalize bV (q.x.subs.map (cZ p i))=o at *;generalize Of:o.isSome=us at *;have Ny:=Hd Of;clear Of;go_wp2_with fail;refine Fk.o.mono ?_;rintro e w1 ⟨S1,sn,sc,ts,rfl,Ip,Aa⟩;have Aq:=Nw.o.tr Aa;have Ac:=Hd Aq;have Nt:=Hd (gE Fy.o Aa);have Db:=Hd Ip;clear Aa Ip p0 p1 q1 q2 q3 q4 q5 q6 Fk Fy Nw;cases us with
   |false=>
    have Ks:=Hd (show r=false from Cj.o (by rw[Ow.o];have h:=Ny.o;cases o with|none=>rfl|some r=>cases h));go_wp2_with fail;go_ret;exact⟨fF Ks.o.symm,Af.o.tr Ac.o⟩
   |true=>
    obtain⟨r0,Ox⟩:∃r,o=some r:=by have h:=Ny.o;cases o with|none=>cases h|some r=>exact⟨r,rfl⟩
    obtain⟨rfl,Cz⟩:=Db.o r0 Ox;have Oi:=Hd (Bz.o S1 sn sc r0 w1 (Af.o.tr Aq) Cz Lj.o);have Jr:=Hd (Ph.o r0);have Dh:=Hd (show fW p i q.x=(fS p q.x r0).map fun j=>(aB p j).outs.map aS by rw[Ow.o,Ox];rfl);rw[aJy]at Oi;clear Db Bz Ph Ow Cz Ox Ny;generalize fS p q.x r0=oj at *;generalize Pj:jN oj=jv at *;generalize Pu:oj.isSome=js at *;have Px:=Hd Pj;have Pr:=Hd Pu;clear Pj Pu;have p0:=HP.o w1 Aq 0;have p1:=HP.o w1 Aq 1;obtain⟨-,q1,q2,q3,q4,q5⟩:=Sx (HX.o w1 Aq);have q6:=HX.o w1 Aq 6;simp only[Ya,Yb,Yc]at p0 p1 q1 q2 q3 q4 q5 q6;clear Aq;go_wp2_with fail;refine Oi.o.mono ?_;rintro e w2 ⟨rfl,Ad⟩;have Ov:=Ac.o.tr Ad;have Aj:=Hd Ov;have Bp:=Hd (gE Nt.o Ad);clear Ad p0 p1 q1 q2 q3 q4 q5 q6 Oi Nt;cases js with
    |false=>
     have Ks:=Hd (show r=false from Cj.o (by rw[Dh.o];have h:=Pr.o;cases oj with|none=>rfl|some r=>cases h));exact aOh
    |true=>
     obtain⟨j,Pw⟩:=aHn Pr.o;subst Pw;have hj:=Jr.o j rfl;obtain rfl:(j:Int)=jv:=Px.o;obtain⟨Qe,Qg,B1,e1,B2,e2,B3,e3,B4,e4,Jd,Oq,Ob,f0,f1,f2,f3,f4⟩:=iR Eg.o hj;injection Jd with Jd;injection Jd with On Om;subst On Om;have Df:p.ns[j]?.getD default=aB p j:=rfl;have Pq:=Hd (show bZ w B2 (aB p j).outs.length (aB p j).outs from Ob.2.1);have Qd:=Pd.o j hj;have Ma:=Hd (show fW p i q.x=some ((aB p j).outs.map aS)from Dh.o);have Fj:=Hd (show((aB p j).outs.map aS).length=(aB p j).outs.length from List.length_map ..);have Ol:=Hd fun k (hk:k<(aB p j).outs.length)=>bGr hk;rw[Df]at f2;have Fd:=Hd fun W (h:Below w.heap.size w W)=>(h.cell (p:=⟨nb,no+j*5+2,none⟩) Oq).trans f2;clear f0 f1 f2 f3 f4 Ob Df Pd Dh Jr;generalize (aB p j).outs.map aS=L at *;generalize (aB p j).outs=ol at *;generalize ol.length=n at *;go_wp2_with fail;go_loopw [7,12] (fun v i' wr=>∃k:Nat,k<=n/\i'=.int .i64 k/\wr.ownsRow w0.heap.size 41 3 v k (gC (L.take k))/\Below w0.heap.size w0 wr) (fun _ i' _=>n-(intOf i').toNat)
     case atStart=>exact⟨0,Yq _,rfl,Bp.o,Aj.o⟩
     case round=>
      obtain⟨k,hk,rfl,Bq,Ay⟩:=hrel;have Nu:=Hd Bq;have Nv:=Hd Ay;have Cb:=Af.o.tr Ay;have Pb:=Hd Cb;have g2:=Fd.o wr Cb;have p1:=HP.o wr Ay 1;have z0:=HX.o wr Ay 0;simp only[Ya,Yb,Yc]at p1 z0;clear Bq;by_cases Ah:k<n
      . obtain⟨ob,oo,Py,Nx,Dk⟩:=zL Pq.o Ah;obtain⟨s0,s1,s2⟩:=Dk k Ah;have t0:=(Cb.cell (p:=⟨ob,oo+k*6+1,none⟩) Nx).trans s0;have t1:=(Cb.cell (p:=⟨ob,oo+k*6+2,none⟩) Nx).trans s1;have t2:=(Cb.cell (p:=⟨ob,oo+k*6+3,none⟩) Nx).trans s2;subst Py;have Pv:=Hd (show L.take (k+1)=L.take k++[aS (ol[k]?.getD default)]by rw[bA2 (by rw[Fj.o];exact Ah),Ol.o k Ah]);clear s0 s1 s2 Dk Cb Ay Ol;generalize aS (ol[k]?.getD default)=ty at *;obtain⟨y0,y1,y2⟩:=ty;dsimp only at t0 t1 t2;have Fm:=Nv.o.size;go_wp2_with (at_builtin;refine wpList_append_own_at _ rfl _ _ 93 rfl w0.heap.size 41 i0 Ot 3 24 Tryz.underlying93 Oz Pc Oo Cu Ok bS u7 k (gC (L.take k)) rfl (gE Nu.o ((Yg wr.heap.size wr).alloc (Yh _) (.cells #[.int .i64 y0,.int .i64 y1,.int .i64 y2] 41))) ⟨wr.heap.size,0,none⟩ 1 1 [.int .i64 y0,.int .i64 y1,.int .i64 y2] rfl rfl (fun j u hu=>World.news_of_block (Zx _ _) j u hu) aQ dP aA dA ?_;intro v' w9 Bb Ar Ec Dy;have Is:=Hd Bb;have Fq:=Hd (show Below w0.heap.size w0 w9 from(Nv.o.alloc Nv.o.size _).grown Ar dA (fun j hj=>(Nu.o.lt j hj).1));clear Bb Ar Ec Dy);go_roundw;case rel=>exact⟨k+1,by omega,by go_num,by rw[Pv.o,yZ,zA];exact Is.o,Fq.o⟩
        case measure=>simp[intOf];omega
      . obtain rfl:n=k:=by omega
        obtain⟨S,cS,Oe,Cz⟩:=aR.of_own (l:=L) (n:=n) (by have:=Nu.o;rw[Yx (by rw[Fj.o];omega)]at this;exact this) aA;subst Oe;have Ew:=Hd Cz;clear Cz Cb Ay;clear Nu Bp Fd Pq Ol;by_cases Nz:n=m
        . subst Nz;have Pa:((n:Int) !=(n:Int))=false:=aG;go_wp2_with fail;generalize wr=wv at *;clear z0;go_loopw [15] (fun i' wr=>∃k:Nat,k<=n/\i'=.int .i64 k/\(∀j,j<k->gZ (aZ nd (q.ns[j]?.getD ByteArray.empty))=aD L j)/\Below wv.heap.size wv wr) (fun i' _=>n-(intOf i').toNat)
          case atStart=>exact⟨0,Yq _,rfl,fun j hj=>absurd hj aA,Yg _ _⟩
          case round=>
           obtain⟨k,hk,rfl,Bc,Ay⟩:=hrel;have Cg:=Hd Bc;have Lr:=Hd Ay;have Ej:=Nv.o.tr Ay;have Cb:=Af.o.tr Ej;have Bo:=Hd Cb;have p1:=HP.o wr Ej 1;have z0:=HX.o wr Ej 0;simp only[Ya,Yb,Yc]at p1 z0;by_cases Ah:k<n
           . obtain⟨d0,d1,d2,d3,d4⟩:=HD.o wr Cb;obtain⟨sb,so,Oj,Az,Bx⟩:=(HQ.o.below Cb).at_ (i:=k) Ah;have s0:=Bx k Ah;have Lz:=Hd (Dv.o (q.ns[k]?.getD ByteArray.empty));have Cf:=Hd (show ¬gZ (aZ nd (q.ns[k]?.getD ByteArray.empty))=aD L k->r=false from fun An=>by rw[Hh.o _ Ma.o];exact aIu (k:=k) (by have:=Fj.o;omega) (by rw[Eb];exact An))
             have Mb:=Hd (show gZ (aZ nd (q.ns[k]?.getD ByteArray.empty))=aD L k->∀ j,j<k+1->gZ (aZ nd (q.ns[j]?.getD ByteArray.empty))=aD L j from fun he j hj=>by
              rcases Nat.lt_or_ge j k with h|h;· exact Cg.o j h
              . rw[show j=k by omega];exact he)
             subst Oj;clear Bc Ay Ej Cb Bx Cg;rw[aCt (fun _=>rfl)]at Cf Mb;generalize q.ns[k]?.getD ByteArray.empty=nm at *;generalize aZ nd nm=od at *;generalize od.isSome=ds at *;generalize od.getD default=dd at *;generalize Lo:aD L k=tw at *;exact fK2
           . exact aR0
        . have Pa:((n:Int) !=(m:Int))=true:=by rw[bne_iff_ne];omega
          have Ou:=Hd (show r=false by rw[Hh.o _ Ma.o];exact aHq (by rw[hmm,Fj.o];exact Nz));clear Nz;go_wp2_with fail;go_ret;exact⟨fF Ou.o.symm,Pb.o⟩
 . have Qb:(kk==13)=false:=Xb.2 Og;have Fk:=Hd (Oa.o wN Oh);have Po:=Hd (Od.o Og);clear Oa It Bz Jx Oh Og;generalize cZ p i q.x=o at *;generalize Pp:(o.getD (0,0,0)).1=oa at *;generalize Nx:(o.getD (0,0,0)).2.1=ob at *;generalize Pe:(o.getD (0,0,0)).2.2=oz at *;generalize Of:o.isSome=us at *;have Qa:=Hd (show ∀r,o=some r->r=(oa,ob,oz)from fun r h=>by subst h Pp Nx Pe;rfl);have Ny:=Hd Of;clear Pp Nx Pe Of;unfold aF at Fk;go_wp2_with fail;refine Fk.o.mono ?_;rintro e w1 ⟨rfl,Aa⟩;have Ac:=Hd (Nw.o.tr Aa);have Nt:=Hd (gE Fy.o Aa);clear Aa p0 p1 q1 q2 q3 q4 q5 q6 Fk Fy Nw;go_upto_region 14 with(fail);generalize Br:w1.alloc _=w2;obtain⟨Ad,Fh,hg2⟩:=iB Br;obtain⟨f0,f1,f2,-,-,-⟩:=Sx Fh.cell;simp only[aF,List.getElem?_toArray,Yz,Zb]at f0 f1 f2;have Aj:=Hd (Ac.o.tr Ad);have Bp:=Hd (gE Nt.o Ad);clear Br Ad Fh hg2;cases us with
   |false=>
    have Ks:=Hd (show r=false from Cj.o (by rw[Po.o];have h:=Ny.o;cases o with|none=>rfl|some r=>cases h));exact aOh
   |true=>
    obtain⟨ru,Oy⟩:∃r,o=some r:=by have h:=Ny.o;cases o with|none=>cases h|some r=>exact⟨r,rfl⟩
    have Ma:=Hd (show fW p i q.x=some [(oa,ob,oz)]by rw[Po.o,Oy,Qa.o ru Oy];rfl);clear Oy;have Fm:=Aj.o.size;obtain⟨n,hn⟩:∃n:Nat,n=1:=⟨1,rfl⟩;have Jx:=Hd hn;clear hn;by_cases Nz:n=m
    . subst Nz;have Pa:((n:Int) !=(n:Int))=false:=aG;go_wp2_with (at_builtin;refine wpList_append_own_at _ rfl _ _ 93 rfl w0.heap.size 41 i0 Ot 3 24 Tryz.underlying93 Oz Pc Oo Cu Ok bS (.slice (some ⟨w0.heap.size,0,none⟩) 0 0) 0 [] rfl (gE Bp.o ((Yg w2.heap.size w2).alloc (Yh _) (.cells #[.int .i64 oa,.int .i64 ob,.int .i64 oz] 41))) ⟨w2.heap.size,0,none⟩ 1 1 [.int .i64 oa,.int .i64 ob,.int .i64 oz] rfl rfl (fun j u hu=>World.news_of_block (Zx _ _) j u hu) aQ dP aA dA ?_;intro v' w9 Bb Ar Ec Dy;have Is:=Hd Bb;have Fq:=Hd (show Below w0.heap.size w0 w9 from(Aj.o.alloc Aj.o.size _).grown Ar dA (fun j hj=>(Bp.o.lt j hj).1));obtain⟨S,cS,Oe,Cz⟩:=aR.of_own (l:=[(oa,ob,oz)]) (n:=n) (by rw[Jx.o];exact Is.o) (by rw[Jx.o];decide);subst Oe;have Ew:=Hd Cz;have z0:=HX.o w9 Fq.o 0;simp only[Ya,Yb,Yc]at z0;clear Cz Bb Ar Ec Dy);have Fj:=Hd (show([(oa,ob,oz)]:List T3).length=n from Jx.o.symm);generalize w9=wv at *;clear z0;go_loopw [15] (fun i' wr=>∃k:Nat,k<=n/\i'=.int .i64 k/\(∀j,j<k->gZ (aZ nd (q.ns[j]?.getD ByteArray.empty))=aD [(oa,ob,oz)] j)/\Below wv.heap.size wv wr) (fun i' _=>n-(intOf i').toNat)
      case atStart=>exact⟨0,Yq _,rfl,fun j hj=>absurd hj aA,Yg _ _⟩
      case round=>
       obtain⟨k,hk,rfl,Bc,Ay⟩:=hrel;have Cg:=Hd Bc;have Lr:=Hd Ay;have Ej:=Fq.o.tr Ay;have Cb:=Af.o.tr Ej;have Bo:=Hd Cb;have p1:=HP.o wr Ej 1;have z0:=HX.o wr Ej 0;simp only[Ya,Yb,Yc]at p1 z0;by_cases Ah:k<n
       . obtain⟨d0,d1,d2,d3,d4⟩:=HD.o wr Cb;obtain⟨sb,so,Oj,Az,Bx⟩:=(HQ.o.below Cb).at_ (i:=k) Ah;have s0:=Bx k Ah;have Lz:=Hd (Dv.o (q.ns[k]?.getD ByteArray.empty));have Cf:=Hd (show ¬gZ (aZ nd (q.ns[k]?.getD ByteArray.empty))=aD [(oa,ob,oz)] k->r=false from fun An=>by rw[Hh.o _ Ma.o];exact aIu (k:=k) (by have:=Fj.o;omega) (by rw[Eb];exact An))
         have Mb:=Hd (show gZ (aZ nd (q.ns[k]?.getD ByteArray.empty))=aD [(oa,ob,oz)] k->∀ j,j<k+1->gZ (aZ nd (q.ns[j]?.getD ByteArray.empty))=aD [(oa,ob,oz)] j from fun he j hj=>by
          rcases Nat.lt_or_ge j k with h|h;· exact Cg.o j h
          . rw[show j=k by omega];exact he)
         subst Oj;clear Bc Ay Ej Cb Bx Cg;rw[aCt (fun _=>rfl)]at Cf Mb;generalize q.ns[k]?.getD ByteArray.empty=nm at *;generalize aZ nd nm=od at *;generalize od.isSome=ds at *;generalize od.getD default=dd at *;generalize Lo:aD [(oa,ob,oz)] k=tw at *;exact fK2
       . exact aR0
    . have Pa:((n:Int) !=(m:Int))=true:=by rw[bne_iff_ne];omega
      have Ou:=Hd (show r=false by rw[Hh.o _ Ma.o];exact aHq (by rw[hmm];have:=Jx.o;simp only[Yo,Zd];omega));clear Nz;go_wp2_with (at_builtin;refine wpList_append_own_at _ rfl _ _ 93 rfl w0.heap.size 41 i0 Ot 3 24 Tryz.underlying93 Oz Pc Oo Cu Ok bS (.slice (some ⟨w0.heap.size,0,none⟩) 0 0) 0 [] rfl (gE Bp.o ((Yg w2.heap.size w2).alloc (Yh _) (.cells #[.int .i64 oa,.int .i64 ob,.int .i64 oz] 41))) ⟨w2.heap.size,0,none⟩ 1 1 [.int .i64 oa,.int .i64 ob,.int .i64 oz] rfl rfl (fun j u hu=>World.news_of_block (Zx _ _) j u hu) aQ dP aA dA ?_;intro v' w9 Bb Ar Ec Dy;have Is:=Hd Bb;have Fq:=Hd (show Below w0.heap.size w0 w9 from(Aj.o.alloc Aj.o.size _).grown Ar dA (fun j hj=>(Bp.o.lt j hj).1));obtain⟨S,cS,Oe,Cz⟩:=aR.of_own (l:=[(oa,ob,oz)]) (n:=n) (by rw[Jx.o];exact Is.o) (by rw[Jx.o];decide);subst Oe;have Ew:=Hd Cz;have z0:=HX.o w9 Fq.o 0;simp only[Ya,Yb,Yc]at z0;clear Cz Bb Ar Ec Dy);go_ret;exact⟨fF Ou.o.symm,Af.o.tr Fq.o⟩
theorem bC{W:World}{g r j:Nat}{x y z:Value}(hn:g≠r):(((W.setCell ⟨r,0,none⟩ x).setCell ⟨r,1,none⟩ y).setCell ⟨r,2,none⟩ z).cell? ⟨g,j,none⟩=W.cell? ⟨g,j,none⟩:=
 Ym (a:=⟨g,j,none⟩) (by rw[Below.heap_setCell _ _ _ _ uB,Below.heap_setCell _ _ _ _ uB,Below.heap_setCell _ _ _ _ uB])
theorem bGs(p:Pg)(E:Option Addr)(ec:Nat)(N:Option Addr)(nc:Nat)(i:Nat)(x:Ex)(A:Option Addr)(ca:Nat)(B:Option Addr)(cb:Nat)(w:World)(h:cJ w p E N)(hr:aH w x A B)(hk:x.k=8)(h2:2<=x.subs.length)(Ok:bD (aM x 0)<=1000000)(Jx:∀q∈bL (aM x 0),cX q)(ou:Option T3)
 (Nu:∀A' Pq B' Pi w1,Below w.heap.size w w1->aH w (aM x 1) A' B'->Calls Tryz.prog 58 #[.agg (aK p E ec N nc),.int .i64 i,.agg (aE (aM x 1) A' Pq B' Pi)] w1 (bF w1 ou))(o:Option T3)(ho:uE (eG p.es (aM x 0)) ou=o):
 Calls Tryz.prog 90 #[.agg (aK p E ec N nc),.int .i64 i,.agg (aE x A ca B cb)] w (fO w o):=by
 have HF:=Hd fun w0 h=>mI (w:=w) (w0:=w0) (p:=p) (E:=E) (ec:=ec) (N:=N) (nc:=nc) (x:=x) (A:=A) (ca:=ca) (B:=B) (cb:=cb) (T:=25) (U:=52) (V:=41) h;obtain⟨b,off,rfl,hb,Ca⟩:=hr.sub (i:=0) aA;obtain⟨A0,Ov,B0,Pa,Nw,Nv⟩:=Ca 0 aA;obtain⟨A1,Pj,B1,Ph,Nt,Bx⟩:=Ca 1 aA;have HC:=Hd fun w1 (hb:Below w.heap.size w w1)=>aHo E p.es.length ec p.es (aM x 0) A0 Ov B0 Pa w1 (h.1.below hb) (Nv.below hb) Ok Jx;have HU:=Hd fun w1 (hb:Below w.heap.size w w1)=>Nu A1 Pj B1 Ph w1 hb Bx;have Oi:=Hd fun w1 (Cb:Below w.heap.size w w1)=>dT (fT Nw hb fun p hp=>Cb.cell hp);have Ox:=Hd fun w1 (Cb:Below w.heap.size w w1)=>dT (fT Nt hb fun p hp=>Cb.cell hp);unfold kL aF at HC;unfold bF aF at HU;generalize Dk:eG p.es (aM x 0)=oc at *;clear Ca Nw Nt Nv Bx Nu Ok Jx h hr Dk;generalize aM x 0=y at *;generalize aM x 1=z at *;unfold aK aE at HF⊢;unfold aK aE at HU;unfold aE at HC;rw[hk]at HF⊢;generalize p.es.length=pe at *;generalize p.ns.length=pn at *;generalize x.subs.length=m at *;go_in
 go_upto_region 1 with(fail);generalize Ai:((w.alloc _).alloc _).alloc _=w0;obtain⟨Ae,Al,hp,hx,hR⟩:=HF.o w0 Ai;have Af:=Hd Ae;have HR:=Hd hR;have HP:=Hd hp;have HX:=Hd hx;have p0:=hp w0 (Yg _ _) 0;have p1:=hp w0 (Yg _ _) 1;obtain⟨q0,q1,q2,q3,q4,q5⟩:=Sx (hx w0 (Yg _ _));simp only[Ya,Yb,Yc]at p0 p1 q0 q1 q2 q3 q4 q5;clear Ai Al hp hx hR HF;obtain⟨c0,c1,c2,c3,c4,c5⟩:=Oi.o w0 Ae;simp only[Nat.zero_mul,Nat.add_zero]at c0 c1 c2 c3 c4 c5;have Pr:0<m:=aA;have Ps:1<m:=aA;have Aq:b<w0.heap.size:=Yi _ _ c0;have Pc:w.heap.size<w0.heap.size:=Yi _ _ p0;have Oj:w.heap.size+1<w0.heap.size:=Yi _ _ q5;have Kf:=Hd (show Below w.heap.size w (w0.drewN 1)from Af.o.trans ((bG (Yg w0.heap.size w0) 1).mono Af.o.size));have Ld:=Hd (show Below w.heap.size w ((w0.drewN 1).alloc (.cells (aF 0 0 0) 41))from Kf.o.alloc Kf.o.size _);clear Ae q1 q2 q3 q4 p1;go_upto_region 11 with(fail);go_cut [13,14,15] (fun Pd Pp Pe wx=>Pe=.bool oc.isSome/\∃S n c g,Pd=.slice S n c/\Pp=.pointer (some ⟨g,0,none⟩)/\w0.heap.size<=g/\(∃a1 a2 a3 vs,F3 41 wx g a1 a2 a3/\∀r,oc=some r->r=(vs,(a1,a2,a3)))/\Below w0.heap.size w0 wx)
 case first=>
  go_region_held3 (fun W=>W.cell? ⟨w.heap.size,0,none⟩=some (.slice E pe ec)/\W.cell? ⟨w.heap.size+1,5,none⟩=some (.slice (some ⟨b,off,none⟩) m cb)/\W.cell? ⟨b,off,none⟩=some (.int .i64 y.k)/\W.cell? ⟨b,off+1,none⟩=some (.int .i64 y.n)/\W.cell? ⟨b,off+2,none⟩=some (.string y.s)/\W.cell? ⟨b,off+3,none⟩=some (.int .i64 y.op)/\W.cell? ⟨b,off+4,none⟩=some (.slice A0 y.arms.length Ov)/\W.cell? ⟨b,off+5,none⟩=some (.slice B0 y.subs.length Pa)) (first|exact⟨p0,q5,c0,c1,c2,c3,c4,c5⟩|exact⟨Oy,Oc,Og,Pb,Oe,Om,Od,Of⟩|exact⟨(bC (Nat.ne_of_lt Pc)).trans Oy,(bC (Nat.ne_of_lt Oj)).trans Oc,(bC (Nat.ne_of_lt Aq)).trans Og,(bC (Nat.ne_of_lt Aq)).trans Pb,(bC (Nat.ne_of_lt Aq)).trans Oe,(bC (Nat.ne_of_lt Aq)).trans Om,(bC (Nat.ne_of_lt Aq)).trans Od,(bC (Nat.ne_of_lt Aq)).trans Of⟩|go_keep)
   ((first
     |(go_at_call 127;refine(HC.o _ aPr).mono ?_;rintro r Wa ⟨S,n,c,a1,a2,a3,vs,rfl,-,-,-,⟨hv,-⟩,Fz⟩;have HV:=Hd hv;have Bp:Below w0.heap.size w0 Wa:=(by first|exact(bG (Yg w0.heap.size w0) 1).trans (Fz.mono (Yh _))|exact((bG (Yg w0.heap.size w0) 1).alloc (Yh _) (.cells (aF 0 0 0) 41)).trans (Fz.mono aG));have Nx:=Hd Bp;have Oy:=(Bp.cell (p:=⟨w.heap.size,0,none⟩) Pc).trans p0;have Oc:=(Bp.cell (p:=⟨w.heap.size+1,5,none⟩) Oj).trans q5;have Og:=(Bp.cell (p:=⟨b,off,none⟩) Aq).trans c0;have Pb:=(Bp.cell (p:=⟨b,off+1,none⟩) Aq).trans c1;have Oe:=(Bp.cell (p:=⟨b,off+2,none⟩) Aq).trans c2;have Om:=(Bp.cell (p:=⟨b,off+3,none⟩) Aq).trans c3;have Od:=(Bp.cell (p:=⟨b,off+4,none⟩) Aq).trans c4;have Of:=(Bp.cell (p:=⟨b,off+5,none⟩) Aq).trans c5;(first|(have FZ:F3 41 Wa w0.heap.size 0 0 0:=(Fz.block w0.heap.size aG).trans (Zx (w0.drewN 1) _);have z0:=FZ.cell 0;have z1:=FZ.cell 1;have z2:=FZ.cell 2;have fz:∀j,Wa.frozen? ⟨w0.heap.size,j,none⟩=false:=(fun j=>frozen_of_row Wa _ j _ _ FZ);simp only[aF,List.getElem?_toArray,Yz,Zb]at z0 z1 z2)|skip);clear hv Fz Bp)))
  all_goals
   go_wp2_with fail;go_meet
   case rel=>first|exact⟨rfl,S,n,c,Wa.heap.size,rfl,rfl,Nx.o.size,⟨a1,a2,a3,vs,Zx _ _,HV.o⟩,Nx.o.alloc Nx.o.size _⟩|exact⟨rfl,S,n,c,w0.heap.size,rfl,rfl,Yh _,⟨a1,a2,a3,vs,by rw[kN FZ];exact FZ.set _ _ _,HV.o⟩,by rw[kN FZ];exact Xc Nx.o (Yh _) _⟩
 case rest=>
  obtain⟨rfl,S,n,c,g,rfl,rfl,hg,⟨a1,a2,a3,vs,hf,hv⟩,Cp⟩:=hcut;generalize wc=wx at *;have HF:=Hd hf;have HV:=Hd hv;have HG:=Hd hg;have Bt:=Hd Cp;have Cb:=Af.o.tr Cp;have Bo:=Hd Cb;have r0:=HP.o wx Cp 0;have r1:=HP.o wx Cp 1;have r5:=HX.o wx Cp 5;simp only[Ya,Yb,Yc]at r0 r1 r5;obtain⟨d0,d1,d2,d3,d4,d5⟩:=Ox.o wx Cb;simp only[Nat.one_mul]at d0 d1 d2 d3 d4 d5;have Pf:=Hd (HR.o.below Cp);have HO:=Hd ho;clear hf hv hg Cp Cb ho p0 q0 q5 c0 c1 c2 c3 c4 c5 HC Oi Ox HP HX Kf Ld;generalize Ot:(ou.getD (0,0,0)).1=oa at *;generalize Ol:(ou.getD (0,0,0)).2.1=ob at *;generalize Oh:(ou.getD (0,0,0)).2.2=oz at *;generalize Oz:ou.isSome=us at *;generalize hcs:oc.isSome=cs at *;have Po:=Hd (show ∀r,ou=some r->r=(oa,ob,oz)from fun r h=>by subst h Ot Ol Oh;rfl);have Oq:=Hd Oz;have Ou:=Hd hcs;clear Ot Ol Oh Oz hcs;go_upto_region 12 with(fail);refine kF (l:=[_,_,_,_,_,_,_,_,_,_,_,_,_]) 10 11 _ _ (d:=16) (tx:=73) (T:=41) (zc:=aF 0 0 0) aC rfl rfl aC rfl aG (fun a W=>by rfl) rfl aC ?_
  repeat
   first
   |refine kJ rfl ?_
   | (apply kI rfl rfl aG
      case h1=>
       intro wb hb;have Bn:=cU hb;have l0:=fun d os=>Zs ((Bn.cell (Yi _ _ r0)).trans r0) d os;have l1:=fun d os=>Zs ((Bn.cell (Yi _ _ r1)).trans r1) d os;have l2:=fun d os=>Zs ((Bn.cell (Yi _ _ r5)).trans r5) d os;have m0:=fun d os=>Zs ((Bn.cell (Yi _ _ d0)).trans d0) d os;have m1:=fun d os=>Zs ((Bn.cell (Yi _ _ d1)).trans d1) d os;have m2:=fun d os=>Zs ((Bn.cell (Yi _ _ d2)).trans d2) d os;have m3:=fun d os=>Zs ((Bn.cell (Yi _ _ d3)).trans d3) d os;have m4:=fun d os=>Zs ((Bn.cell (Yi _ _ d4)).trans d4) d os;have m5:=fun d os=>Zs ((Bn.cell (Yi _ _ d5)).trans d5) d os;have h3:=Bo.o.tr Bn;have cA:=fun d os=>Zi (HU.o (grow (redrawn wb d) os) (h3.trans ((Zt wb d os).mono h3.size)));exact tO
      simp only[Act.put,Yd,Ye,Yf])
  refine⟨aF oa ob oz,rfl,rfl,by simp[aF,Value.oneCell'],fun W g2 hW hg2 hz=>?_⟩;have Ny:=cU hW;have On:=HF.o.below Ny;obtain⟨f0,f1,f2,-,-,-⟩:=Sx On.cell;have Nz:F3 41 W g2 oa ob oz:=hz;have g0:=Nz.cell 0;have g1:=Nz.cell 1;have Nb:=Nz.cell 2;simp only[aF,List.getElem?_toArray,Yz,Zb]at f0 f1 f2 g0 g1 Nb;have Ce:=Hd (Pf.o.below Ny);have Jn:=Hd (Bo.o.tr Ny);have Ig:=Hd (show w.heap.size<=w.heap.size+1+1 by omega);have Pn:=HR.o.lt;have hn1:g≠w.heap.size+1+1:=aFi;have Lm:g2≠w.heap.size+1+1:=by have:=Bt.o.size;omega
  clear Ny On Nz hW hz r0 r1 r5 d0 d1 d2 d3 d4 d5 HU Pn hg2;show Exit.then _ _ .normal _ W;simp only[Act.put,Yd,Ye,Yf];go_upto_region 13 with(fail);cases cs with
  |false=>
   have Ee:=Hd (show o=none by rw[<-HO.o];have h:=Ou.o;cases oc with|none=>rfl|some r=>cases h);exact aFm
  |true=>
   obtain⟨rc,Oa⟩:∃r,oc=some r:=by have h:=Ou.o;cases oc with|none=>cases h|some r=>exact⟨r,rfl⟩
   have Pm:=Hd (HV.o rc Oa);have Ow:=Hd Oa;clear Oa;cases us with
   |false=>
    have Ee:=Hd (show o=none by rw[<-HO.o,Ow.o];have h:=Oq.o;cases ou with|none=>rfl|some r=>cases h);exact aFm
   |true=>
    obtain⟨ru,Ob⟩:∃r,ou=some r:=by have h:=Oq.o;cases ou with|none=>cases h|some r=>exact⟨r,rfl⟩
    have Pk:=Hd (Po.o ru Ob);have Bm:=Hd Ob;have Oo:=Hd (show(if((a1,a2,a3):T3)=(oa,ob,oz)then some ((oa,ob,oz):T3)else none)=o by rw[<-HO.o,Ow.o,Bm.o,Pm.o,Pk.o];rfl);clear Ob;rcases jD a1 a2 a3 oa ob oz with⟨rfl,rfl,rfl,he⟩|⟨h1,he⟩|⟨rfl,h1,he⟩|⟨rfl,rfl,h1,he⟩
    . have Ee:=Hd (show o=some _ by rw[<-Oo.o,if_pos rfl]);clear he;refine dL (l1:=[_,_,_,_,_,_,_,_,_,_]) (os:=_) (l2:=[_]) (p:=6) (tx:=75) (r:=w.heap.size+1+1) (T:=41) (zc:=aF 0 0 0) aC aC rfl Ce.o rfl dI ?_
      repeat
       apply dH rfl aG;case h1=>
        exact aFo
       simp only[Act.put,Yd,Ye,Yf]
      refine⟨aF a1 a2 a3,rfl,rfl,by simp[aF,Value.oneCell'],fun W2 hB Cu=>?_⟩;have Be:=Hd (dG hB Jn.o (Yh _) Ig.o);have Dq:=Hd Cu;clear hB Cu;go_wp2_with fail;exact Zu (bA (p:=6) (u:=7) rfl _ _ (w.heap.size+1+1) a1 a2 a3 rfl Dq.o) rfl ⟨a1,a2,a3,mX,fun t ht=>aAh,Be.o⟩
    all_goals
     have Ee:=Hd (show o=none by rw[<-Oo.o,if_neg he]);have Kk:=h1;simp only[Xb,ne_eq]at Kk;clear he
     skip
    . exact aFm
    . refine dL (l1:=[_,_,_,_,_,_,_,_,_,_]) (os:=_) (l2:=[_]) (p:=6) (tx:=75) (r:=w.heap.size+1+1) (T:=41) (zc:=aF 0 0 0) aC aC rfl Ce.o rfl dI ?_
      repeat
       apply dH rfl aG;case h1=>
        exact aFo
       simp only[Act.put,Yd,Ye,Yf]
      refine⟨aF a1 ob oz,rfl,rfl,by simp[aF,Value.oneCell'],fun W2 hB Cu=>?_⟩;have Be:=Hd (dG hB Jn.o (Yh _) Ig.o);have Dq:=Hd Cu;clear hB Cu;go_wp2_with fail;exact Zu (bA (p:=6) (u:=7) rfl _ _ (w.heap.size+1+1) a1 ob oz rfl Dq.o) rfl ⟨a1,ob,oz,mX,fun t ht=>aAh,Be.o⟩
    . refine dL (l1:=[_,_,_,_,_,_,_,_,_,_]) (os:=_) (l2:=[_]) (p:=6) (tx:=75) (r:=w.heap.size+1+1) (T:=41) (zc:=aF 0 0 0) aC aC rfl Ce.o rfl dI ?_
      repeat
       apply dH rfl aG;case h1=>
        exact aFo
       simp only[Act.put,Yd,Ye,Yf]
      refine⟨aF a1 a2 oz,rfl,rfl,by simp[aF,Value.oneCell'],fun W2 hB Cu=>?_⟩;have Be:=Hd (dG hB Jn.o (Yh _) Ig.o);have Dq:=Hd Cu;clear hB Cu;go_wp2_with fail;exact Zu (bA (p:=6) (u:=7) rfl _ _ (w.heap.size+1+1) a1 a2 oz rfl Dq.o) rfl ⟨a1,a2,oz,mX,fun t ht=>aAh,Be.o⟩
theorem bHo(p:Pg)(E:Option Addr)(ec:Nat)(N:Option Addr)(nc:Nat)(i:Nat):aO9 p E ec N nc i:=fun x A ca B cb w h hr hk h2 Bx Aq ou Bp=>bGs p E ec N nc i x A ca B cb w h hr hk h2 Bx Aq ou Bp _ rfl
end
end Go.Proofs.YtkbpdoomhfkngaaGreat
