/- A part of the proof. Conditions: each theorem's own. -/
import Derived.Test.YtagkcjpoipcpkaaGreatDoorF28
import Derived.Test.YtagkcjpoipcpkaaGreatDoorF31
namespace Go.Proofs.YtagkcjpoipcpkaaGreatDoor
set_option linter.unusedVariables false
set_option linter.unusedSimpArgs false
set_option maxRecDepth 100000
set_option maxHeartbeats 40000000
section
open Go.RowKit Go.Sort
section
variable {G:GQ}{D:Nat}{es:List En}{w w' w1 w2:World}{r r':List Tk}{N:Nat}
theorem GQ.Ok.len(ok:G.Ok):G.all.length=G.n:=ok.rd.1
theorem GQ.St.begins(h:G.St w r)(ok:G.Ok)(tg:TkG G.all):iM G.all ((G.n-r.length:Nat):Int)=true/\G.all.drop ((G.n-r.length:Nat):Int).toNat=r:=by
 have hp:=h.pos;have hl:=h.len;have ha:=ok.len;obtain⟨q,z,hq,hz⟩:=tg.end_;refine⟨?_,by rw[Int.toNat_natCast];exact h.pre⟩;have e:G.all[G.all.length-1]?.getD default=z:=by
  rw[hq];simp
 simp only[iM,Yu,decide_eq_true_eq,e,beq_iff_eq];exact⟨by omega,by omega,hz⟩
theorem GQ.St.gotoS(h:G.St w r)(ok:G.Ok)(hs:r' <:+r)(he:aU r'):At G w r' (w.setCell ⟨G.b,1,none⟩ (.int .i64 ((G.n-r'.length:Nat):Int))):=by
 have ha:=ok.len;have h2:=List.suffix_iff_eq_drop.1 (hs.trans h.suf);have hl:=(hs.trans h.suf).length_le;exact⟨h.goto aA (by rw[<-ha];exact h2.symm) he,by rw[aCu];exact Yg _ _⟩
theorem bUv(h:G.St w r)(ok:G.Ok)(tg:TkG G.all):sL G.all ((G.n-r.length:Nat):Int)=match dU r with
 |.bad q=>(⟨#[]⟩,⟨#[]⟩,((G.n-q.length:Nat):Int),false)
 |.ok z r1=>(aB z.1,aB z.2,((G.n-r1.length:Nat):Int),true):=by
 obtain⟨h1,h2⟩:=h.begins ok tg;unfold sL;rw[if_pos h1,h2,ok.len];cases dU r<;>rfl
theorem bBo(h:G.St w r)(ok:G.Ok):eI w G.A G.n G.all:=(h.rd ok).up bB8 fun p v hv=>rU hv
theorem bQq(ok:G.Ok)(tg:TkG G.all)(hD:D≠G.b/\G.W.heap.size<=D)(p0 p1:Nat)(h0:Hs (eJ G D (CD D) w2) p0 (aH G.b))(h1:Hs (eJ G D (CD D) w2) p1 (.pointer (some ⟨D,0,none⟩))):
 iS G (eJ G D (CD D) w2) (bN 223 #[aH p0,aH p1]) yQ:=by
 intro d r w h hi;refine nJ ?_;have o:jV G (eJ G D (CD D) w2):=rK (aD5 hD.1) w2;have Fw:=Hd (yC ⟨#[119,104,101,110]⟩ ok h);have Nn:=Hd fun w1 r1 (h1:G.St w1 r1)=>aCz ok h1;have Nl:=Hd fun w1 r1 (h1:G.St w1 r1)=>(cBn (c:=G.c) ((G.n-r1.length:Nat):Int) (bBo h1 ok) ok.tks (by have:=ok.rd.2.1;omega)).mono fun e w' hx=>(show Below w1.heap.size w1 w'/\aA1 _ e from bUv h1 ok tg ▸ hx);have Jx:=Hd fun w1 r1 r2 (h1:G.St w1 r1) hs he=>h1.gotoS (r':=r2) ok hs he;have HI:=Hd fun w' r' ha hl=>o.st d w w' r r' h hi ha hl;have No:=Hd (show aG gR r=true->aU r.tail from fun hc=>(dE h.fin hc).1);have H0:=Hd h0;have H1:=Hd h1;have HD:=Hd hD;have HO:=Hd o;have d0:=h0 d w hi;rw[show(⟨#[119,104,101,110]⟩:BA).data.toList=gR from rfl]at Fw;have Nk:yQ d r=if aG gR r=true then(dU r.tail).q.bind fun z r=>.ok { d with on:=aB z.1,ct:=aB z.2 } r else .ok d r:=rfl
 rw[Nk];clear h hi h0 h1 ok hD o Nk tg;cases hc:aG gR r with
 |false=>
  exact aRg
 |true=>
  rw[hc,if_pos rfl]at Fw;rw[if_pos rfl];have Bs:=Hd fun w1 (h1:G.St w1 r.tail)=>Nl.o w1 _ h1;have Hc:=Hd (sf_when r.tail);have Ng:=Hd (aZ6 (n:=r.tail.length) (No.o hc) aA);have Ih:r.tail.length<=r.length:=aC;have Ni:=Hd Ih;clear Nl Ih;generalize dU r.tail=x at *;cases x with
  |bad q=>
   have Aa:q <:+r.tail:=Hc.o;have Ha:aU q:=Ng.o;have Kr:=Hd fun w1 (h1:G.St w1 r.tail)=>Jx.o w1 _ q h1 Aa Ha;have Hb:q.length<=r.length:=Yr Aa.length_le Ni.o;have Gr:=Hd Hb;show Calls _ _ _ _ (jG G (eJ G D (CD D) w2) r.length (.bad q 2));clear Aa Ha Hb Hc Ng Jx;unfold aA1 at Bs;simp only at Bs;generalize ((G.n-q.length:Nat):Int)=aq at *;go_in
   go_wp2_with fail;refine Fw.o.mono ?_;rintro e w1 ⟨rfl,ha⟩;have HA:=Hd ha;have Ct:=HI.o _ _ ha Ni.o;have e0:=H0.o _ _ Ct;have e1:w1.cell? ⟨G.b,0,none⟩=some (.slice G.A G.n G.c):=ha.1.cell 0;have e2:w1.cell? ⟨G.b,1,none⟩=some (.int .i64 ((G.n-r.tail.length:Nat):Int)):=ha.1.cell 1;clear ha Ct d0;generalize ((G.n-r.tail.length:Nat):Int)=Io at *;go_upto_region 3 with(fail);go_region_held3 (fun W=>W.cell? ⟨p0,0,none⟩=some (aH G.b)/\W.cell? ⟨G.b,0,none⟩=some (.slice G.A G.n G.c)/\W.cell? ⟨G.b,1,none⟩=some (.int .i64 Io)) (first|exact⟨e0,e1,e2⟩|exact⟨z0,z1,z2⟩)
    ((go_at_call 224;refine(Bs.o _ HA.o.1.drew).mono ?_;rintro e w3 ⟨hb,rfl⟩;have Aj:=Hd (aHh hb);have z0:=(Aj.o.cell (Yi _ _ e0)).trans e0;have z1:=(Aj.o.cell (Yi _ _ e1)).trans e1;have z2:=(Aj.o.cell (Yi _ _ e2)).trans e2;clear hb))
   have Fs:=Hd (HA.o.1.below Aj.o);have f2:w3.frozen? ⟨G.b,1,none⟩=false:=Fs.o.fz 1;have Aq:=Hd (HA.o.trans ((At.below HA.o.1 Aj.o).trans (Kr.o _ Fs.o)));have y0:=H0.o _ _ (HI.o _ _ Aq.o Gr.o);clear e0 e1 e2;go_wp2_with fail;refine(Nn.o _ _ Aq.o.1).mono ?_;rintro e w4 ⟨rfl,h4⟩;have H4:=Hd (Aq.o.trans h4);clear h4;go_wp2_with fail;go_ret;exact⟨rfl,⟨_,H4.o.1,Gr.o⟩,d,HO.o.weak _ _ (HI.o _ _ H4.o Gr.o)⟩
  |ok zz q=>
   have Aa:q <:+r.tail:=Hc.o;have Ha:aU q:=Ng.o.1;have Kr:=Hd fun w1 (h1:G.St w1 r.tail)=>Jx.o w1 _ q h1 Aa Ha;have Hb:q.length<=r.length:=Yr Aa.length_le Ni.o;have Gr:=Hd Hb;show Calls _ _ _ _ (jG G (eJ G D (CD D) w2) r.length (.ok { d with on:=aB zz.1,ct:=aB zz.2 } q));clear Aa Ha Hb Hc Ng Jx;unfold aA1 at Bs;simp only at Bs;generalize ((G.n-q.length:Nat):Int)=aq at *;generalize aB zz.1=Nh at *;generalize aB zz.2=Nj at *;go_in
   go_wp2_with fail;refine Fw.o.mono ?_;rintro e w1 ⟨rfl,ha⟩;have HA:=Hd ha;have Ct:=HI.o _ _ ha Ni.o;have e0:=H0.o _ _ Ct;have e1:w1.cell? ⟨G.b,0,none⟩=some (.slice G.A G.n G.c):=ha.1.cell 0;have e2:w1.cell? ⟨G.b,1,none⟩=some (.int .i64 ((G.n-r.tail.length:Nat):Int)):=ha.1.cell 1;clear ha Ct d0;generalize ((G.n-r.tail.length:Nat):Int)=Io at *;go_upto_region 3 with(fail);go_region_held3 (fun W=>W.cell? ⟨p0,0,none⟩=some (aH G.b)/\W.cell? ⟨G.b,0,none⟩=some (.slice G.A G.n G.c)/\W.cell? ⟨G.b,1,none⟩=some (.int .i64 Io)) (first|exact⟨e0,e1,e2⟩|exact⟨z0,z1,z2⟩)
    ((go_at_call 224;refine(Bs.o _ HA.o.1.drew).mono ?_;rintro e w3 ⟨hb,rfl⟩;have Aj:=Hd (aHh hb);have z0:=(Aj.o.cell (Yi _ _ e0)).trans e0;have z1:=(Aj.o.cell (Yi _ _ e1)).trans e1;have z2:=(Aj.o.cell (Yi _ _ e2)).trans e2;clear hb))
   have Fs:=Hd (HA.o.1.below Aj.o);have f2:w3.frozen? ⟨G.b,1,none⟩=false:=Fs.o.fz 1;have Aq:=Hd (HA.o.trans ((At.below HA.o.1 Aj.o).trans (Kr.o _ Fs.o)));clear e0 e1 e2;go_upto_region 7 with(fail);generalize w3.setCell _ _=w4 at *;have Ae:=HI.o _ _ Aq.o Gr.o;have Nm:=Hd Ae;have x1:=H1.o _ _ Ae;have c4:w4.cell? ⟨D,4,none⟩=some (.string d.on):=bU (pR Ae) 4 _ rfl;have c5:w4.cell? ⟨D,5,none⟩=some (.string d.ct):=bU (pR Ae) 5 _ rfl;have f4:w4.frozen? ⟨D,4,none⟩=false:=yO (M:=0) (m:=0) (pR Ae) 4;have f5:w4.frozen? ⟨D,5,none⟩=false:=yO (M:=0) (m:=0) (pR Ae) 5;clear Ae;go_region;go_wp2_with fail
   all_goals
    go_ret;have Av:=((Aq.o.1.setCell (j:=4) (v:=.string Nh) HD.o.1 HD.o.2).setCell (j:=5) (v:=.string Nj) HD.o.1 HD.o.2);have Dw:eJ G D (CD D) w2 true { d with on:=Nh,ct:=Nj } ((w4.setCell ⟨D,4,none⟩ (.string Nh)).setCell ⟨D,5,none⟩ (.string Nj)):=aC0 (d:={ d with on:=Nh }) HD.o.1 (aC0 HD.o.1 Nm.o rfl) rfl;exact⟨rfl,Av.drew,Gr.o,HO.o.below Av Dw (eP (Yg _ _) 1)⟩
end
end
section
open Go.RowKit Go.Sort
section
variable {τ:Type}{G:GQ}{D:Nat}{es:List En}{I:Bool->τ->World->Prop}{w w' w1 w2:World}{r r':List Tk}{N:Nat}
theorem cBo(a:Addr):Calls Tryz.prog 189 #[aH G.b,.pointer (some a)] w fun e w'=>(∃T0 T1 T2,eG w [(#[aH G.b],T0),(#[.pointer (some a)],T1),(#[bN 218 #[aH w.heap.size]],T2)] w')/\e=.returned (bN 219 #[aH w.heap.size,aH (w.heap.size+1),aH (w.heap.size+1+1)]):=by
 exact aJr
theorem bYp(ok:G.Ok)(ge:GE G es)(hp:Pf G D w):Calls Tryz.prog 189 #[aH G.b,.pointer (some ⟨D,1,none⟩)] w fun e w'=>∃K fa fc,e=.returned (.func K fa fc)/\Below w.heap.size w w'/\iG G D (CD D) w' (.func K fa fc) (yP es):=by
 refine(cBo _).mono ?_;rintro e w' ⟨⟨T0,T1,T2,hn⟩,rfl⟩;exact⟨_,_,_,rfl,hn.below,fun w2 h2=>bQf ok ge ⟨hp.nb,hp.ge⟩ _ _ _ _ (hn.hs hp h2 0 _ T0 rfl) (hn.hs hp h2 1 _ T1 rfl) (hn.hs hp h2 2 _ T2 rfl) (hn.hs hp h2 0 _ T0 rfl)⟩
theorem bUw(a:Addr):Calls Tryz.prog 190 #[aH G.b,.pointer (some a)] w fun e w'=>(∃T0 T1,eG w [(#[aH G.b],T0),(#[.pointer (some a)],T1)] w')/\e=.returned (bN 221 #[aH w.heap.size,aH (w.heap.size+1)]):=by
 exact aFx
theorem bQr(ok:G.Ok)(hp:Pf G D w):Calls Tryz.prog 190 #[aH G.b,.pointer (some ⟨D,1,none⟩)] w fun e w'=>∃K fa fc,e=.returned (.func K fa fc)/\Below w.heap.size w w'/\iG G D (CD D) w' (.func K fa fc) uK:=by
 refine(bUw _).mono ?_;rintro e w' ⟨⟨T0,T1,hn⟩,rfl⟩;exact⟨_,_,_,rfl,hn.below,fun w2 h2=>bK2 ok ⟨hp.nb,hp.ge⟩ _ _ (hn.hs hp h2 0 _ T0 rfl) (hn.hs hp h2 1 _ T1 rfl)⟩
theorem cBp(a:Addr):Calls Tryz.prog 191 #[aH G.b,.pointer (some a)] w fun e w'=>(∃T0 T1,eG w [(#[aH G.b],T0),(#[.pointer (some a)],T1)] w')/\e=.returned (bN 223 #[aH w.heap.size,aH (w.heap.size+1)]):=by
 exact aFx
theorem bYq(ok:G.Ok)(tg:TkG G.all)(hp:Pf G D w):Calls Tryz.prog 191 #[aH G.b,.pointer (some ⟨D,0,none⟩)] w fun e w'=>∃K fa fc,e=.returned (.func K fa fc)/\Below w.heap.size w w'/\iG G D (CD D) w' (.func K fa fc) yQ:=by
 refine(cBp _).mono ?_;rintro e w' ⟨⟨T0,T1,hn⟩,rfl⟩;exact⟨_,_,_,rfl,hn.below,fun w2 h2=>bQq ok tg ⟨hp.nb,hp.ge⟩ _ _ (hn.hs hp h2 0 _ T0 rfl) (hn.hs hp h2 1 _ T1 rfl)⟩
theorem bYr:aGd D 0 (CD D) fun s d=>{ d with nm:=s }:=fun M m d w s h=>⟨⟨_,bYc h 0⟩,yO h 0,bBn h rfl⟩
theorem aUp{o:QR τ}{e:Ending}(h:jG G I N o e w'):∃u r1 t g,e=.returned u/\G.St w' r1/\r1.length<=N/\I g t w'/\(o=.ok t r1/\u=.nilIface/\g=true\/(∃q z,o=.bad q z/\u=iX q z)/\g=false):=by
 cases o with
 |ok t r1=>exact⟨_,r1,t,true,h.1,h.2.1,h.2.2.1,h.2.2.2,.inl ⟨rfl,rfl,rfl⟩⟩
 |bad q z=>
  obtain⟨h1,⟨r1,h2,h3⟩,t,h4⟩:=h;exact⟨_,r1,t,false,h1,h2,h3,h4,.inr ⟨⟨q,z,rfl,rfl⟩,rfl⟩⟩
theorem aKi{w6 w7:World}{r1:List Tk}(hb:Below w.heap.size w w6)(hD:w.heap.size<=D)(hs:Sm G.b D w6 w7)(h:G.St w7 r1):At G w r1 w7:=by
 refine⟨h,hs.os.trans hb.os,hs.tape.trans hb.tape,hs.output.trans hb.output,by rw[fC,fC];exact Yr hb.size hs.size,fun k hk=>?_⟩;have Ae:=hb.size;by_cases Aa:k=G.b
 . subst Aa
   have:=hs.size
   rw[qQ (k:=0),qQ (k:=0),if_pos hk,if_pos aA]
 . rw[dH Aa,dH Aa,hs.block k aA Aa aA,hb.block k hk]
theorem aIf{σ:Type}{C:Nat->Nat->σ->World->Prop}(hC:OkC G C){w5:World}(hp:Pf G D w5)(fs:LV)(Fs:List (σ->List Tk->QR σ))(T:TypeId)(c:Nat)(hl:fs.length<=1000)(pl:pB G D C w5 fs Fs)(h:G.St w5 r){t:σ}{m:Nat}(hm:r.length<=m)(hc:C (w5.heap.size+1) m t (w5.alloc (.cells fs.toArray T))):
 Calls Tryz.prog 41 #[.slice (some ⟨w5.heap.size,0,none⟩) fs.length c] (w5.alloc (.cells fs.toArray T)) fun e w'=>∃u r1 t' m',e=.returned u/\G.St w' r1/\r1.length<=r.length/\Sm G.b D (w5.alloc (.cells fs.toArray T)) w'/\C (w5.heap.size+1) m' t' w'/\
  (eV Fs t r=.ok t' r1/\u=.nilIface\/∃q z,eV Fs t r=.bad q z/\u=iX q z):=by
 generalize Hi:w5.alloc (.cells fs.toArray T)=w6 at *;have hb:Below w5.heap.size w5 w6:=bFx;have hs:w6.heap.size=w5.heap.size+1:=by rw[<-Hi];simp
 have Ad:w6.heap[w5.heap.size]?=some (.cells fs.toArray T):=bB1;have h6:=h.below hb;have Aa:eJ G D C w6 true t w6:=⟨⟨rfl,rfl,rfl,Yh _,fun _ _ _ _=>rfl⟩,m,fun _=>by rw[h6.lft_];exact hm,by rw[hs];exact hc⟩;refine(aNh fs Fs w5.heap.size c hl ?_ (pl w6 hb) h6 Aa).mono ?_
 . rintro t w ⟨hS,-⟩ j f hf;have Ka:=hp.bl;have Ae:=hp.lt;have e:=hS.block w5.heap.size aA aA aA;exact bU (e.trans Ad) j f wW
 . intro e w' he;obtain⟨u,r1,t',g,h1,h2,h3,⟨h4,m',-,h5⟩,h7⟩:=aUp he;refine⟨u,r1,t',m',h1,h2,h3,h4,by rw[hs]at h5;exact h5,?_⟩;rcases h7 with⟨k1,k2,-⟩|⟨k1,-⟩;· exact .inl ⟨k1,k2⟩
   . exact .inr k1
theorem aWc(ok:G.Ok)(tg:TkG G.all)(ge:GE G es)(o:jV G I)(D j M:Nat)(Fs:Far G D M)(up:Dc->τ->τ)(P:Nat->Prop)(hw:vM G I D j M P 130 6 (fun d _ _ cs=>cs=dcL d) up)(p0 p1:Nat)(h0:Hs I p0 (aH G.b))(h1:Hs I p1 (.pointer (some ⟨D,j,none⟩)))(Oa:P p1):
 iS G I (bN 188 #[aH p0,aH p1]) (eB (fK es) up):=by
 intro t r w h hi;refine nJ ?_;obtain⟨i0,z0,Nz,Co,Cm,Cr,Nm⟩:=zM aH3;have H1:=Hd h1;have Ni:=Hd Fs;have HW:=Hd fun w1 r1 ha hl=>hw t w w1 r r1 h hi ha hl;have OI:=Hd o;have HS:=Hd h;have HI:=Hd hi;have Gy:=Hd (bYe ge (h.tkg tg));have Aq:=aCe es (n:=r.length-1) h.fin aO9;have Be:=h.pos
 have Nu:=Hd (show ∀ d q,fK es r=.ok d q->q.length<r.length from fun d q e=>by
  rw[e]at Aq
  have:=Aq.2
  omega)
 have Nr:=Hd fun w1 (hp:Pf G w.heap.size w1)=>aOy ok hp (aD5 hp.nb) 0 _ bYr;have Nn:=Hd fun w1 (hp:Pf G w.heap.size w1)=>qH ok hp (aD5 hp.nb) ⟨#[58]⟩;have Nk:=Hd fun w1 (hp:Pf G w.heap.size w1)=>bYp ok ge hp;have Ob:=Hd fun w1 (hp:Pf G w.heap.size w1)=>bQr ok hp;have Od:=Hd fun w1 (hp:Pf G w.heap.size w1)=>bYq ok tg hp;have Ah:=h.lt;have Au:=h.size;have d0:=h0 t w hi;have l0:=Yi _ _ d0;have Nv:=Hd (show p0≠G.b from by
  rintro rfl
  have:=h.cell 0
  rw[d0]at this;simp[zC]at this)
 have l0:p0<w.heap.size:=l0;unfold eB;clear h hi h0 h1 ok o hw Fs Aq Be ge tg;go_in
 go_upto_region 2 with(fail);generalize Ae:w.alloc _=wa;have Ew:=Hd (show Below w.heap.size w wa by rw[<-Ae];exact(Yg _ _).alloc (Yh _) _);have Of:=Hd (show wa.heap[w.heap.size]?=some (.cells (gG dc0) 130)by rw[<-Ae];exact Xa _ _);have Aa:=Hd (show Pf G w.heap.size wa from⟨by omega,Au,by rw[<-Ae];simp,by rw[<-Ae];simp;omega,by rw[<-Ae];simp;omega⟩);have a0:=(Ew.o.cell l0).trans d0;clear Ae;go_region_held3 (fun W=>W.cell? ⟨p0,0,none⟩=some (aH G.b)) (first|exact a0|exact z1|exact z2|exact z3|exact z4|exact z5|exact z6|exact z7)
  ((first
    |(go_at_call 89;refine(Nr.o wa.drew (Aa.o.below (w':=wa.drew) (Yh _))).mono ?_;rintro e w1 ⟨K1,f1,c1,rfl,hb,hp⟩;have Ac:=Hd (show Below wa.heap.size wa w1 from⟨hb.os,hb.tape,hb.output,hb.size,hb.block⟩);have Oc:=Hd hp;have z1:=(Ac.o.cell (Yi _ _ a0)).trans a0;clear hb hp)
    |(go_at_call 88;refine(Nn.o _ (Aa.o.below Ac.o.size)).mono ?_;rintro e w2 ⟨K2,f2,c2,rfl,hb,hp⟩;have Ai:=Hd hb;have No:=Hd hp;have z2:=(Ai.o.cell (Yi _ _ z1)).trans z1;clear hb hp)
    |(go_at_call 189;refine(Nk.o _ (Aa.o.below (Yr Ac.o.size Ai.o.size))).mono ?_;rintro e w3 ⟨K3,f3,c3,rfl,hb,hp⟩;have Aj:=Hd hb;have Np:=Hd hp;have z3:=(Aj.o.cell (Yi _ _ z2)).trans z2;clear hb hp)
    |(go_at_call 190;refine(Ob.o _ (Aa.o.below (Yr Ac.o.size (Yr Ai.o.size Aj.o.size)))).mono ?_;rintro e w4 ⟨K4,f4,c4,rfl,hb,hp⟩;have Bd:=Hd hb;have Nq:=Hd hp;have z4:=(Bd.o.cell (Yi _ _ z3)).trans z3;clear hb hp)
    |(go_at_call 191;refine(Od.o _ (Aa.o.below (Yr Ac.o.size (Yr Ai.o.size (Yr Aj.o.size Bd.o.size))))).mono ?_;rintro e w5 ⟨K5,f5,c5,rfl,hb,hp⟩;have Bl:=Hd hb;have Ny:=Hd hp;have z5:=(Bl.o.cell (Yi _ _ z4)).trans z4;have z6:=(Yj _ (.cells #[.func K1 f1 c1,.func K2 f2 c2,.func K3 f3 c3,.func K4 f4 c4,.func K5 f5 c5] 108) _ (Yi _ _ z5)).trans z5;have Fa:=Hd (show Below wa.heap.size wa w5 from Ac.o.trans ((Ai.o.trans ((Aj.o.trans ((Bd.o.tr Bl.o).mono Aj.o.size)).mono Ai.o.size)).mono Ac.o.size));clear hb hp)
    |(go_at_call 41;refine(aIf (aD5 Aa.o.nb) (Aa.o.below Fa.o.size) [.func K1 f1 c1,.func K2 f2 c2,.func K3 f3 c3,.func K4 f4 c4,.func K5 f5 c5] (bFi es) 108 5 aC (((((pB.nil (w:=w1)).snoc (Yg _ _) Oc.o).snoc Ai.o No.o).snoc Aj.o Np.o).snoc Bd.o Nq.o |>.snoc Bl.o Ny.o) (HS.o.below (Ew.o.tr Fa.o)) (t:=dc0) (m:=r.length) (Yh _) (show CD w.heap.size _ _ dc0 _ from((((Yg _ _).alloc (Yh _) _:Below w5.heap.size w5 _).block _ (Yt Aa.o.lt Fa.o.size)).trans (Fa.o.block _ Aa.o.lt)).trans Of.o)).mono ?_;rintro e w7 ⟨u,r1,d,m7,rfl,h7,Ng,Ct,Ha,Jx⟩;have H7:=Hd h7;have Bs:=Hd Ng;have Oe:=Hd Ct;have Nl:=Hd Ha;have Ns:=Hd Jx;have z7:w7.cell? ⟨p0,0,none⟩=some (aH G.b):=(Yn (a:=⟨p0,0,none⟩) (Ct.block p0 bF0 Nv.o (Nat.ne_of_lt l0))).trans z6;clear h7 Ng Ct Ha Jx)))
 have Db:=Hd (show Below w.heap.size w (w5.alloc (.cells #[.func K1 f1 c1,.func K2 f2 c2,.func K3 f3 c3,.func K4 f4 c4,.func K5 f5 c5] 108))from(Ew.o.tr Fa.o).alloc (Yr Ew.o.size Fa.o.size) _);have Hb:=Hd (aKi Db.o (Yh _) Oe.o H7.o);obtain⟨v,n,xs,s0,s1,Ao,hn,hM,hP,Nj⟩:=HW.o w7 r1 Hb.o Bs.o;have x1:=H1.o _ _ (OI.o.st t w w7 r r1 HS.o HI.o Hb.o Bs.o);have Ad:w7.heap[w.heap.size]?=some (.cells (gG d) 130):=Nl.o;have Gl:=Hd Ao;have Hc:=Hd (gP Ao);have Nx:=Hd (hP _ Oa);have Nh:=Hd (show v.ownBlock≠some D from fun e=>by have:=Hc.o D e;have:=Ni.o.lt;omega);have Bq:=Hd Nj;have Nt:D<w7.heap.size:=Yi _ _ s0;have b0:=bU Ad 0 (.string d.nm) rfl;have b1:=bU Ad 1 (.int .i64 d.k) rfl;have b2:=bU Ad 2 (.int .i64 d.e) rfl;have b3:=bU Ad 3 (.int .i64 d.l) rfl;have b4:=bU Ad 4 (.string d.on) rfl;have b5:=bU Ad 5 (.string d.ct) rfl;have a2:(w7.alloc (Obj.cells #[.string d.nm,.int .i64 d.k,.int .i64 d.e,.int .i64 d.l,.string d.on,.string d.ct] 130)).cell? ⟨p1,0,none⟩=some (.pointer (some ⟨D,j,none⟩)):=(Yj _ _ _ (Yi _ _ x1)).trans x1;have aD:(w7.alloc (Obj.cells #[.string d.nm,.int .i64 d.k,.int .i64 d.e,.int .i64 d.l,.string d.on,.string d.ct] 130)).cell? ⟨D,j,none⟩=some v:=(Yj _ _ _ Nt).trans s0;have e0:=(Yj w7 (Obj.cells #[.string d.nm,.int .i64 d.k,.int .i64 d.e,.int .i64 d.l,.string d.on,.string d.ct] 130) _ (Yi _ _ x1));clear Ao Nj d0 a0 z1 z2 z3 z4 z5 z6 z7 Ad e0;go_upto_region 3 with(fail);go_region_law
  ((refine step_append_lies _ bC _ _ _ bC M 130 i0 z0 6 72 Tryz.underlying66 Nz Co Cm Cr Nm aF v n xs bC (Gl.o.alloc _) ⟨w7.heap.size,0,none⟩ 1 1 (dcL d) bC rfl (fun j u hu=>World.news_of_block (Xa _ _) j u hu) (fun u hu=>by simp [dcL] at hu;rcases hu with rfl | rfl | rfl | rfl | rfl | rfl <;> rfl) aA fZ aA cP _ rfl ?_
    intro g1 Nw w8 Bh As Cw Dt;have y2:=xP mF As Nx.o x1;have yD:=xP mF As Nh.o s0;have yF:=aFq mF As Nh.o s0 s1;have HAL:=Hd (cE6 (j:=j) Ni.o H7.o mF As Hc.o hM Cw Bh);clear Bh As Cw Dt))
 go_wp2_with fail
 all_goals
  go_ret;obtain⟨k1,k2,k3⟩:=HAL.o;obtain⟨m1,m2⟩:=Bq.o d _ _ _ rfl k1 k2;have ho:=Ns.o;rw[Gy.o]at ho;have Aq:=Nu.o;generalize fK es r=x at *;rcases ho with⟨k4,rfl⟩|⟨q,z,k4,rfl⟩
  . have k5:=PR.ofq k4;rw[k4];exact⟨rfl,k3,Bs.o,m2 (Aq _ _ k5)⟩
  . rw[k4];exact⟨rfl,⟨_,k3,Bs.o⟩,_,m1⟩
end
end
section
open Go.RowKit Go.Sort
section
variable {τ:Type}{G:GQ}{D:Nat}{es:List En}{C:Nat->Nat->τ->World->Prop}{I:Bool->τ->World->Prop}{w w' w1 w2:World}{r r':List Tk}{N:Nat}
theorem aWd(up:Dc->τ->τ):pU (eB (fK es) up):=aNj fun r n h hn=>aCe es h hn
theorem aO0(a:Addr):Calls Tryz.prog 151 #[aH G.b,.pointer (some a)] w fun e w'=>(∃T0 T1,(T0=106/\T1=161)/\eG w [(#[aH G.b],T0),(#[.pointer (some a)],T1)] w')/\e=.returned (bN 188 #[aH w.heap.size,aH (w.heap.size+1)]):=by
 exact bDb
section
variable (ok:G.Ok) (tg:TkG G.all) (ge:GE G es) (hp:Pf G D w) (hC:OkC G C) (j:Nat) (up:Dc->τ->τ) (hw:AppsC G D j 130 6 (fun _ d _ _ cs=>cs=dcL d) C up)
include ok tg ge hp hC hw in
theorem bYs:Calls Tryz.prog 151 #[aH G.b,.pointer (some ⟨D,j,none⟩)] w fun e w'=>∃K fa fc,e=.returned (.func K fa fc)/\Below w.heap.size w w'/\iG G D C w' (.func K fa fc) (eB (fK es) up):=by
 refine(aO0 _).mono ?_;rintro e w' ⟨⟨T0,T1,-,hn⟩,rfl⟩;refine⟨_,_,_,rfl,hn.below,fun w2 h2=>?_⟩;have Aa:=(hp.below hn.below.size).below h2.size;exact aWc ok tg ge (rK hC w2) D j w2.heap.size Aa.far up _ (aIx hw Aa) _ _ (hn.hs hp h2 0 _ T0 rfl) (hn.hs hp h2 1 _ T1 rfl) aQz
include ok tg ge hp hC hw in
theorem aYa:Calls Tryz.prog 93 #[aH G.b,.pointer (some ⟨D,j,none⟩)] w fun e w'=>∃K fa fc,e=.returned (.func K fa fc)/\Below w.heap.size w w'/\iG G D C w' (.func K fa fc) (fun t r=>lX (eB (fK es) up) [59] r.length t r):=by
 have HD:=Hd (bYs ok tg ge hp hC j up hw);have HL:=Hd fun w1 K fa fc (hb:Below w.heap.size w w1)(hf:iG G D C w1 (.func K fa fc) (eB (fK es) up))=>aNi ok tg (hp.below hb.size) hC ⟨#[59]⟩ K fa fc _ hf (aWd up);clear ok tg ge hp hC hw;go_in
 go_wp2_with fail;refine HD.o.mono ?_;rintro e w1 ⟨K1,f1,c1,rfl,hb,Aa⟩;have Ac:=Hd hb;have Aq:=Hd Aa;clear hb Aa;go_wp2_with fail;refine(HL.o _ _ _ _ Ac.o Aq.o).mono ?_;rintro e w2 ⟨K2,f2,c2,rfl,hb,Ae⟩;have Ai:=Hd hb;have Bs:=Hd Ae;clear hb Ae;go_wp2_with fail;go_ret;exact⟨K2,f2,c2,rfl,Ac.o.tr Ai.o,Bs.o⟩
end
end
end
section
open Go.RowKit Go.Sort
section
variable {τ α:Type}{G:GQ}{D:Nat}{es:List En}{C:Nat->Nat->τ->World->Prop}{I:Bool->τ->World->Prop}{w w' w0 w1 w2 w6:World}{r r':List Tk}{N:Nat}
def IR(I:Bool->τ->World->Prop)(B:Nat->Prop)(w6:World)(g:Bool)(t:τ)(w:World):Prop:=I g t w/\w6.heap.size<=w.heap.size/\∀k,B k->w.heap[k]?=w6.heap[k]?
variable {B P:Nat->Prop}
theorem cDt(o:jV G I)(hb:∀k,B k->k≠G.b/\k<w6.heap.size):jV G (IR I B w6) where
 st:=fun t w w' r r' hs ⟨h1,h2,h3⟩ ha hl=>⟨o.st t w w' r r' hs h1 ha hl,Yr h2 (wA ha.2),fun k hk=>by
  obtain⟨Ae,Cb⟩:=hb k hk;have e:=ha.2.block k (Yt Cb h2);rw[dH Ae,dH Ae]at e;exact e.trans (h3 k hk)⟩
 weak:=fun t w ⟨h1,h2⟩=>⟨o.weak t w h1,h2⟩
 fb:=fun t w w' r hs ⟨h1,h2,h3⟩ Aa=>⟨o.fb t w w' r hs h1 Aa,Yr h2 Aa.size,fun k hk=>(Aa.block k (Yt (hb k hk).2 h2)).trans (h3 k hk)⟩
theorem hsR{p:Nat}{v:Value}(hp:w6.cell? ⟨p,0,none⟩=some v)(h0:B p):Hs (IR I B w6) p v:=by
 rintro t w ⟨-,h2,h3⟩;exact(Yn (a:=⟨p,0,none⟩) (h3 p h0)).trans hp
theorem hsI{p:Nat}{v:Value}{J:Bool->τ->World->Prop}(h:Hs I p v)(hJ:∀g t w,J g t w->I g t w):Hs J p v:=fun t w hj=>h t w (hJ _ _ _ hj)
theorem cDe{D j M:Nat}{e:TypeId}{size:Nat}{Nw:α->World->World->List Value->Prop}{up:α->τ->τ}(h:vM G I D j M P e size Nw up)(hB:∀k,B k->k≠G.b/\k<w6.heap.size/\k≠D/\(P k\/∃cs T,w6.heap[k]?=some (.cells cs T)/\T≠e)):
 vM G (IR I B w6) D j M (fun k=>P k\/B k) e size Nw up:=by
 rintro t w w1 r r1 hs ⟨h1,h2,h3⟩ Ar hl;obtain⟨v,n,xs,k1,k2,k3,k4,k5,k6,k7⟩:=h t w w1 r r1 hs h1 Ar hl
 have Bs:∀k,B k->w1.heap[k]?=w6.heap[k]?:=fun k hk=>by
  obtain⟨Aq,Cb,_⟩:=hB k hk;have e:=Ar.2.block k (Yt Cb h2);rw[dH Aq,dH Aq]at e;exact e.trans (h3 k hk)
 have Ae:∀k,B k->v.ownBlock≠some k:=fun k hk he=>by
  obtain⟨-,-,-,Aa⟩:=hB k hk;rcases Aa with Aa|⟨cs,T,h4,h5⟩;· exact k6 k Aa he
  . rcases k3.2 with⟨rfl,_⟩|⟨g,cap,cur,rfl,hg,hh,_⟩;· cases he
    . have Ct:g=k:=Option.some.inj he;subst Ct;rw[Bs g hk,h4]at hh;injection hh with hh;injection hh with _ hh;exact h5 hh
 have Au:w6.heap.size<=w1.heap.size:=Yr h2 (wA Ar.2);refine⟨v,n,xs,k1,k2,k3,k4,k5,fun k hk=>?_,fun a cs w' v' hn hA ho=>?_⟩
 . rcases hk with hk|hk;· exact k6 k hk
   . exact Ae k hk
 . obtain⟨m1,m2⟩:=k7 a cs w' v' hn hA ho;have hr:w6.heap.size<=w'.heap.size/\∀k,B k->w'.heap[k]?=w6.heap[k]?:=⟨Yr Au hA.size,fun k hk=>(hA.block k (by have:=(hB k hk).2.1;omega) (hB k hk).2.2.1 (Ae k hk)).trans (Bs k hk)⟩;exact⟨⟨m1,hr⟩,fun Ah=>⟨m2 Ah,hr⟩⟩
def vD(e:TypeId)(w0 w6:World):Prop:=∀k,w0.heap.size<=k->k<w6.heap.size->∃cs T,w6.heap[k]?=some (.cells cs T)/\T≠e
theorem cBq{o:QR τ}{e:Ending}(h:jG G (IR I B w6) N o e w'):∃u,e=.returned u/\jG G I N o (.returned u) w'/\∀k,B k->w'.heap[k]?=w6.heap[k]?:=by
 cases o with
 |ok t r=>exact⟨_,h.1,⟨rfl,h.2.1,h.2.2.1,h.2.2.2.1⟩,h.2.2.2.2.2⟩
 |bad q z=>
  obtain⟨h1,h2,t,h3,h4⟩:=h;exact⟨_,h1,⟨rfl,h2,t,h3⟩,h4.2⟩
theorem eG.alien{e:TypeId}{l:List (Array Value × TypeId)}(h:eG w l w')(ha:∀x∈l,x.2≠e):vD e w w':=fun k hk Cb=>by
 have hs:=h.size;obtain⟨i,rfl⟩:∃i,k=w.heap.size+i:=⟨k-w.heap.size,by omega⟩;have hi:i<l.length:=aA;have e1:l[i]?=some l[i]:=Yk hi;exact⟨_,_,h.at_ i _ e1,ha _ (Zk hi)⟩
theorem ne2{A B e:TypeId}{x y:AV}(hA:A≠e)(hB:B≠e):∀z∈[(x,A),(y,B)],z.2≠e:=by
 intro z hz;simp only[Yw,Yl,or_false]at hz;rcases hz with rfl|rfl;· exact hA
 . exact hB
theorem vD.trans{e:TypeId}(h:vD e w w1)(k:vD e w1 w2)(hb:Below w1.heap.size w1 w2):vD e w w2:=fun j hj Aa=>by
 by_cases Ah:j<w1.heap.size
 . obtain⟨cs,T,h1,h2⟩:=h j hj Ah;exact⟨cs,T,(hb.block j Ah).trans h1,h2⟩
 . exact k j aA Aa
theorem vD.alloc{e T:TypeId}{cs:AV}(h:vD e w w1)(hT:T≠e):vD e w (w1.alloc (.cells cs T)):=
 h.trans (eG.alien (l:=[(cs,T)]) (news rfl) (by simpa using hT)) ((Yg _ _).alloc (Yh _) _)
def vN(es:List En)(up:Dc->τ->τ):List (τ->List Tk->QR τ):=[eB (fK es) up,dN [59]]
theorem aWe(ok:G.Ok)(tg:TkG G.all)(ge:GE G es)(o:jV G I)(D j M:Nat)(Ae:Far G D M)(up:Dc->τ->τ)(P:Nat->Prop)(hw:vM G I D j M P 130 6 (fun d _ _ cs=>cs=dcL d) up)(Ct:M<=w.heap.size){t:τ}(h:G.St w r)(hi:I true t w)
 (ps:LN)(Be:∀p∈ps,P p/\p≠D/\p≠G.b/\p<w.heap.size)
 {w3 w4:World}(n3:eG w [(#[aH G.b],106),(#[.pointer (some ⟨D,j,none⟩)],161)] w3)(n4:eG w3 [(#[aH G.b],106),(#[.string ⟨#[59]⟩],9)] w4)(fr:LV)(Fr:List (τ->List Tk->QR τ))(c:Nat)(Fs:fr.length<=900)
 (hr:∀(J:Bool->τ->World->Prop)(P':Nat->Prop),jV G J->(∀g t w,J g t w->I g t w)->vM G J D j M P' 130 6 (fun d _ _ cs=>cs=dcL d) up->(∀k,P k->P' k)->yE G J fr Fr):
 Calls Tryz.prog 41 #[.slice (some ⟨w4.heap.size,0,none⟩) (fr.length+1+1) c] (w4.alloc (.cells (bN 188 #[aH w.heap.size,aH (w.heap.size+1)]::bN 143 #[aH w3.heap.size,aH (w3.heap.size+1)]::fr).toArray 108)) fun e w'=>∃u,e=.returned u/\jG G I r.length (eV (eB (fK es) up::dN [59]::Fr) t r) (.returned u) w'/\∀p∈ps,w'.heap[p]?=w.heap[p]?:=by
 generalize Kx:(bN 188 #[aH w.heap.size,aH (w.heap.size+1)]::bN 143 #[aH w3.heap.size,aH (w3.heap.size+1)]::fr)=fs;have hl:fs.length=fr.length+1+1:=by rw[<-Kx];rfl
 generalize Hi:w4.alloc (.cells fs.toArray 108)=w6;have b3:=n3.below;have b4:=n4.below;have s3:=n3.size;have s4:=n4.size;simp only[Yq,Zg]at s3 s4;have b6:Below w4.heap.size w4 w6:=bFx;have Bs:w6.heap.size=w4.heap.size+1:=by rw[<-Hi];simp
 have Ad:w6.heap[w4.heap.size]?=some (.cells fs.toArray 108):=bB1;have hb:Below w.heap.size w w6:=b3.trans ((b4.tr b6).mono b3.size);have Cc:vD 130 w w6:=by
  rw[<-Hi];exact(vD.trans (n3.alien (ne2 aF aF)) (n4.alien (ne2 aF aF)) b4).alloc aF
 have c0:w6.cell? ⟨w.heap.size,0,none⟩=some (aH G.b):=by
  have e:=n3.cell 0 0 _ (aH G.b) rfl rfl;exact(b6.cell (by show w.heap.size+0<_;omega)).trans ((b4.cell (Yi _ _ e)).trans e)
 have c1:w6.cell? ⟨w.heap.size+1,0,none⟩=some (.pointer (some ⟨D,j,none⟩)):=by
  have e:=n3.cell 1 0 _ _ rfl rfl;exact(b6.cell (by show w.heap.size+1<_;omega)).trans ((b4.cell (Yi _ _ e)).trans e)
 have c2:w6.cell? ⟨w3.heap.size,0,none⟩=some (aH G.b):=by
  have e:=n4.cell 0 0 _ (aH G.b) rfl rfl;exact(b6.cell (Yi _ _ e)).trans e
 have c3:w6.cell? ⟨w3.heap.size+1,0,none⟩=some (.string ⟨#[59]⟩):=by
  have e:=n4.cell 1 0 _ _ rfl rfl;exact(b6.cell (Yi _ _ e)).trans e
 have Ah:=Ae.lt;have Cl:=h.lt;have hB:∀k,(k∈ps\/(w.heap.size<=k/\k<w6.heap.size))->k≠G.b/\k<w6.heap.size/\k≠D/\(P k\/∃cs T,w6.heap[k]?=some (.cells cs T)/\T≠130):=by
  rintro k (hk|⟨hk,Cb⟩)
  . obtain⟨h1,h2,h3,h4⟩:=Be k hk;exact⟨h3,by omega,h2,.inl h1⟩
  . exact⟨by omega,Cb,by omega,.inr (Cc k hk Cb)⟩
 have Aa:=cDt (w6:=w6) o fun k hk=>⟨(hB k hk).1,(hB k hk).2.1⟩;have Aq:=cDe hw hB;have r1:=aWc (I:=IR I _ w6) ok tg ge Aa D j M Ae up _ Aq _ _ (hsR c0 (.inr ⟨Yh _,by omega⟩)) (hsR c1 (.inr ⟨by omega,by omega⟩)) (.inr (.inr ⟨by omega,by omega⟩));have r2:=aV8 (I:=IR I _ w6) ok Aa ⟨#[59]⟩ _ _ (hsR c2 (.inr ⟨by omega,by omega⟩)) (hsR c3 (.inr ⟨by omega,by omega⟩));have h6:=aNh (I:=IR I _ w6) fs (eB (fK es) up::dN [59]::Fr) w4.heap.size c aA ?_ (by rw[<-Kx];exact⟨r1,r2,hr _ _ Aa (fun g t w h=>h.1) Aq fun k hk=>.inl hk⟩) (h.below hb) (t:=t) ⟨o.below h hi hb,Yh _,fun _ _=>rfl⟩
 . rw[hl]at h6;refine h6.mono fun e w' he=>?_;obtain⟨u,e1,e2,e3⟩:=cBq he;exact⟨u,e1,e2,fun p hp=>(e3 p (.inl hp)).trans (hb.block p (Be p hp).2.2.2)⟩
 . rintro t w' ⟨-,h2,h3⟩ i f hf;exact bU ((h3 w4.heap.size (.inr ⟨by omega,by omega⟩)).trans Ad) i f wW
theorem bNa(ok:G.Ok)(tg:TkG G.all)(ge:GE G es)(o:jV G I)(D j M:Nat)(Bs:Far G D M)(up:Dc->τ->τ)(P:Nat->Prop)(hw:vM G I D j M P 130 6 (fun d _ _ cs=>cs=dcL d) up)(Ct:∀t w,I true t w->M<=w.heap.size)(p0 p1:Nat)(h0:Hs I p0 (aH G.b))(h1:Hs I p1 (.pointer (some ⟨D,j,none⟩)))
 (Ep:P p0/\p0≠D/\p0≠G.b)(Aa:P p1/\p1≠D/\p1≠G.b):
 iS G I (bN 152 #[aH p0,aH p1]) (eV (vN es up)):=by
 intro t r w h hi;refine nJ ?_;have d0:=h0 t w hi;have d1:=h1 t w hi;have l0:=Yi _ _ d0;have l1:=Yi _ _ d1;have Fs:=Hd fun w1=>aO0 (G:=G) (w:=w1) ⟨D,j,none⟩;have Jp:=Hd fun w1=>aOx (G:=G) (w:=w1) ⟨#[59]⟩;have Ha:=Hd fun w3 w4 n3 n4=>aWe (w3:=w3) (w4:=w4) ok tg ge o D j M Bs up P hw (Ct t w hi) h hi [p0,p1] (by intro p hp;simp at hp;rcases hp with rfl|rfl;exact⟨Ep.1,Ep.2.1,Ep.2.2,l0⟩;exact⟨Aa.1,Aa.2.1,Aa.2.2,l1⟩) n3 n4 [] [] 2 aC (fun _ _ _ _ _ _=>trivial);clear h hi h0 h1 ok o tg ge hw Ct Bs Ep Aa;show Calls _ _ _ _ (jG G I r.length (eV [eB (fK es) up,dN [59]] t r));generalize jG G I r.length (eV [eB (fK es) up,dN [59]] t r)=Hb at *;go_in
 go_upto_region 1 with(fail);go_region_held3 (fun W=>W.cell? ⟨p0,0,none⟩=some (aH G.b)/\W.cell? ⟨p1,0,none⟩=some (.pointer (some ⟨D,j,none⟩))) (first|exact⟨d0,d1⟩|exact⟨z0,z1⟩|exact⟨y0,y1⟩|exact⟨x0,x1⟩|exact⟨u0,u1⟩)
  ((first
    |(go_at_call 151;refine(Fs.o w.drew).mono ?_;rintro e w3 ⟨⟨T0,T1,⟨rfl,rfl⟩,hn⟩,rfl⟩;have Aq:=Hd (show eG w _ w3 from⟨⟨hn.below.os,hn.below.tape,hn.below.output,hn.below.size,hn.below.block⟩,hn.size,hn.at_⟩);have z0:=(Aq.o.below.cell l0).trans d0;have z1:=(Aq.o.below.cell l1).trans d1;clear hn)
    |(go_at_call 88;refine(Jp.o w3).mono ?_;rintro e w4 ⟨⟨T0,T1,⟨rfl,rfl⟩,hn⟩,rfl⟩;have Ae:=Hd hn;have y0:=(Ae.o.below.cell (Yi _ _ z0)).trans z0;have y1:=(Ae.o.below.cell (Yi _ _ z1)).trans z1;have x0:=(Yj w4 (.cells #[bN 188 #[aH w.heap.size,aH (w.heap.size+1)],bN 143 #[aH w3.heap.size,aH (w3.heap.size+1)]] 108) _ (Yi _ _ y0)).trans y0;have x1:=(Yj w4 (.cells #[bN 188 #[aH w.heap.size,aH (w.heap.size+1)],bN 143 #[aH w3.heap.size,aH (w3.heap.size+1)]] 108) _ (Yi _ _ y1)).trans y1;clear hn)
    |(go_at_call 41;refine(Ha.o w3 w4 Aq.o Ae.o).mono ?_;rintro e w7 ⟨u,rfl,hE,hk⟩;have HE:=Hd hE;have u0:=(Yn (a:=⟨p0,0,none⟩) (hk p0 aC)).trans d0;have u1:=(Yn (a:=⟨p1,0,none⟩) (hk p1 aC)).trans d1;clear hE hk)))
 go_wp2_with fail;exact HE.o
theorem jG.le{M:Nat}{o:QR τ}{e:Ending}(h:jG G I N o e w')(hl:N<=M):jG G I M o e w':=by
 cases o with
 |ok t r=>exact⟨h.1,h.2.1,Yr h.2.2.1 hl,h.2.2.2⟩
 |bad q z=>
  obtain⟨h1,⟨r,h2,h3⟩,h4⟩:=h;exact⟨h1,⟨r,h2,Yr h3 hl⟩,h4⟩
theorem bUx{F:τ->List Tk->QR τ}(h:pU F)(s:LU):pU (eV [F,dN s]):=by
 intro t r t' r' hg he;have h2:(F t r).bind (fun t r=>(dN s t r).bind fun t r=>.ok t r)=.ok t' r':=he;cases e:F t r with
 |bad q z=>rw[e]at h2;cases h2
 |ok t1 r1=>
  rw[e]at h2;have h3:=h _ _ _ _ hg e;have h4:((aR s r1).q.bind fun _ r=>.ok t1 r).bind (fun t r=>.ok t r)=QR.ok t' r':=h2;have h5:=sf_need s r1;cases e2:aR s r1 with
  |bad q=>rw[e2]at h4;cases h4
  |ok u q=>
   rw[e2]at h4 h5;injection h4 with _ h4;subst h4;exact Nat.lt_of_le_of_lt (List.IsSuffix.length_le h5) h3
def aDk(es:List En)(up:Dc->τ->τ)(t:τ)(r:List Tk):QR τ:=if aG xC r=true then eV (eB (fK es) up::dN [59]::[fun t r=>fG (eV (vN es up)) gW false r.length t r]) t r.tail else .ok t r
theorem bNb(ok:G.Ok)(tg:TkG G.all)(ge:GE G es)(o:jV G I)(D j M:Nat)(Fs:Far G D M)(up:Dc->τ->τ)(P:Nat->Prop)(hw:vM G I D j M P 130 6 (fun d _ _ cs=>cs=dcL d) up)(Hb:∀t w,I true t w->M<=w.heap.size)(p0 p1 p2 q0 q1 s0 s1:Nat)(h0:Hs I p0 (aH G.b))(h1:Hs I p1 (.pointer (some ⟨D,j,none⟩)))
 (h2:Hs I p2 (bN 142 #[aH q0,aH q1]))(Jx:Hs I q0 (bN 154 #[aH s0,aH s1]))(Bz:Hs I q1 (bN 152 #[aH p0,aH p1]))(Fo:Hs I s0 (aH G.b))(Dg:Hs I s1 (.string ⟨#[108,101,116]⟩))
 (Ep:P p0/\p0≠D/\p0≠G.b)(Ae:P p1/\p1≠D/\p1≠G.b)(Ct:P p2/\p2≠D/\p2≠G.b):
 iS G I (bN 153 #[aH p0,aH p1,aH p2]) (aDk es up):=by
 intro t r w h hi;refine nJ ?_;have d0:=h0 t w hi;have Fw:=Hd (yC ⟨#[118,97,114]⟩ ok h);have HI:=Hd fun w' r' ha hl=>o.st t w w' r r' h hi ha hl;have Nm:=Hd fun w1=>aO0 (G:=G) (w:=w1) ⟨D,j,none⟩;have Jp:=Hd fun w1=>aOx (G:=G) (w:=w1) ⟨#[59]⟩
 have Nh:=Hd fun w1 w3 w4 (Ha:G.St w1 r.tail) (Aa:I true t w1) n3 n4=>aWe (w:=w1) (w3:=w3) (w4:=w4) ok tg ge o D j M Fs up P hw (Hb t w1 Aa) Ha Aa [p0,p1,p2] (by
  intro p hp;simp only[Yw,Yl,or_false]at hp;rcases hp with rfl|rfl|rfl;· exact⟨Ep.1,Ep.2.1,Ep.2.2,Yi _ _ (h0 _ _ Aa)⟩
  . exact⟨Ae.1,Ae.2.1,Ae.2.2,Yi _ _ (h1 _ _ Aa)⟩
  . exact⟨Ct.1,Ct.2.1,Ct.2.2,Yi _ _ (h2 _ _ Aa)⟩) n3 n4 [bN 142 #[aH q0,aH q1]] [fun t r=>fG (eV (vN es up)) gW false r.length t r] 3 aC (fun J P' oJ hJ hA hP=>
    ⟨aX9 tg oJ gW false _ _ (aUj ok ⟨#[108,101,116]⟩ s0 s1 (hsI Fo hJ) (hsI Dg hJ)) (eV (vN es up)) (bNa ok tg ge oJ D j M Fs up P' hA (fun t w h=>Hb t w (hJ _ _ _ h)) p0 p1 (hsI h0 hJ) (hsI h1 hJ) ⟨hP _ Ep.1,Ep.2⟩ ⟨hP _ Ae.1,Ae.2⟩) (bUx (aWd up) _) q0 q1 (hsI Jx hJ) (hsI Bz hJ),trivial⟩)
 have H0:=Hd h0;have H1:=Hd h1;have H2:=Hd h2;rw[show(⟨#[118,97,114]⟩:BA).data.toList=xC from rfl]at Fw;have Ng:aDk es up t r=if aG xC r=true then eV (eB (fK es) up::dN [59]::[fun t r=>fG (eV (vN es up)) gW false r.length t r]) t r.tail else .ok t r:=rfl
 rw[Ng];clear h hi h0 h1 h2 Jx Bz Fo Dg ok o tg ge hw Hb Fs Ep Ae Ct Ng;cases hc:aG xC r with
 |false=>
  exact aRg
 |true=>
  rw[hc,if_pos rfl]at Fw;rw[if_pos rfl];have Ih:r.tail.length<=r.length:=aC;have Nl:=Hd Ih;have Nj:=Hd fun(o:QR τ)(e:Ending)(w':World)(h:jG G I r.tail.length o e w')=>h.le Ih;clear Ih;generalize eV (eB (fK es) up::dN [59]::[fun t r=>fG (eV (vN es up)) gW false r.length t r]) t r.tail=Ni at *;go_in
  go_wp2_with fail;refine Fw.o.mono ?_;rintro e w1 ⟨rfl,ha⟩;have Aa:=HI.o _ _ ha Nl.o;have e0:=H0.o _ _ Aa;have e1:=H1.o _ _ Aa;have e2:=H2.o _ _ Aa;have Hc:=Hd fun w3 w4 n3 n4=>(Nh.o w1 w3 w4 ha.1 Aa n3 n4).mono (R':=fun e w'=>∃u,e=.returned u/\jG G I r.length Ni (.returned u) w'/\∀p∈[p0,p1,p2],w'.heap[p]?=w1.heap[p]?) fun e w' ⟨u,h1,h2,h3⟩=>⟨u,h1,Nj.o _ _ _ h2,h3⟩;clear ha Aa d0 Nh Nj HI;generalize jG G I r.length Ni=Nk at *;go_upto_region 3 with(fail);go_region_held3 (fun W=>W.cell? ⟨p0,0,none⟩=some (aH G.b)/\W.cell? ⟨p1,0,none⟩=some (.pointer (some ⟨D,j,none⟩))/\W.cell? ⟨p2,0,none⟩=some (bN 142 #[aH q0,aH q1])) (first|exact⟨e0,e1,e2⟩|exact⟨z0,z1,z2⟩|exact⟨y0,y1,y2⟩|exact⟨x0,x1,x2⟩|exact⟨u0,u1,u2⟩)
   ((first
     |(go_at_call 151;refine(Nm.o w1.drew).mono ?_;rintro e w3 ⟨⟨T0,T1,⟨rfl,rfl⟩,hn⟩,rfl⟩;have Bs:=Hd (show eG w1 _ w3 from⟨⟨hn.below.os,hn.below.tape,hn.below.output,hn.below.size,hn.below.block⟩,hn.size,hn.at_⟩);have z0:=(Bs.o.below.cell (Yi _ _ e0)).trans e0;have z1:=(Bs.o.below.cell (Yi _ _ e1)).trans e1;have z2:=(Bs.o.below.cell (Yi _ _ e2)).trans e2;clear hn)
     |(go_at_call 88;refine(Jp.o w3).mono ?_;rintro e w4 ⟨⟨T0,T1,⟨rfl,rfl⟩,hn⟩,rfl⟩;have Aq:=Hd hn;have y0:=(Aq.o.below.cell (Yi _ _ z0)).trans z0;have y1:=(Aq.o.below.cell (Yi _ _ z1)).trans z1;have y2:=(Aq.o.below.cell (Yi _ _ z2)).trans z2;have x0:=(Yj w4 (.cells #[bN 188 #[aH w1.heap.size,aH (w1.heap.size+1)],bN 143 #[aH w3.heap.size,aH (w3.heap.size+1)],bN 142 #[aH q0,aH q1]] 108) _ (Yi _ _ y0)).trans y0;have x1:=(Yj w4 (.cells #[bN 188 #[aH w1.heap.size,aH (w1.heap.size+1)],bN 143 #[aH w3.heap.size,aH (w3.heap.size+1)],bN 142 #[aH q0,aH q1]] 108) _ (Yi _ _ y1)).trans y1;have x2:=(Yj w4 (.cells #[bN 188 #[aH w1.heap.size,aH (w1.heap.size+1)],bN 143 #[aH w3.heap.size,aH (w3.heap.size+1)],bN 142 #[aH q0,aH q1]] 108) _ (Yi _ _ y2)).trans y2;clear hn)
     |(go_at_call 41;refine(Hc.o w3 w4 Bs.o Aq.o).mono ?_;rintro e w7 ⟨u,rfl,hE,hk⟩;have HE:=Hd hE;have u0:=(Yn (a:=⟨p0,0,none⟩) (hk p0 aC)).trans e0;have u1:=(Yn (a:=⟨p1,0,none⟩) (hk p1 aC)).trans e1;have u2:=(Yn (a:=⟨p2,0,none⟩) (hk p2 aC)).trans e2;clear hE hk)))
  go_wp2_with fail;exact HE.o
theorem cBr(a:Addr):Calls Tryz.prog 94 #[aH G.b,.pointer (some a)] w fun e w'=>∃w1 w2 T0 T1 T2 T3 T4 T5 T6,eG w [(#[aH G.b],T0),(#[.pointer (some a)],T1)] w1/\eG w1 [(#[aH G.b],T2),(#[.string ⟨#[108,101,116]⟩],T3),(#[bN 154 #[aH w1.heap.size,aH (w1.heap.size+1)]],T4),(#[bN 152 #[aH w.heap.size,aH (w.heap.size+1)]],T5)] w2/\
 eG w2 [(#[bN 142 #[aH (w1.heap.size+2),aH (w1.heap.size+3)]],T6)] w'/\e=.returned (bN 153 #[aH w.heap.size,aH (w.heap.size+1),aH w2.heap.size]):=by
 have Jt:=mkf;have HU:=Hd fun w1=>bAc (G:=G) (w:=w1) ⟨#[108,101,116]⟩ (.func 152) #[] #[aH w.heap.size,aH (w.heap.size+1)];generalize G.b=b at *;go_in
 go_wp2_with fail;generalize Af:(w.alloc _).alloc _=w1;refine(HU.o w1).mono ?_;rintro e w2 ⟨⟨T2,T3,T4,T5,hn⟩,rfl⟩;have HN:=Hd hn;clear hn;go_wp2_with fail;go_ret;exact⟨w1,w2,_,_,T2,T3,T4,T5,_,news Af,HN.o,news rfl,rfl⟩
theorem bYt(ok:G.Ok)(tg:TkG G.all)(ge:GE G es)(hp:Pf G D w)(hC:OkC G C)(j:Nat)(up:Dc->τ->τ)(hw:AppsC G D j 130 6 (fun _ d _ _ cs=>cs=dcL d) C up):Calls Tryz.prog 94 #[aH G.b,.pointer (some ⟨D,j,none⟩)] w fun e w'=>∃K fa fc,e=.returned (.func K fa fc)/\Below w.heap.size w w'/\iG G D C w' (.func K fa fc) (aDk es up):=by
 refine(cBr _).mono ?_;rintro e w' ⟨w1,w2,T0,T1,T2,T3,T4,T5,T6,n1,n2,n3,rfl⟩;have b1:=n1.below;have b2:=n2.below;have b3:=n3.below;have z1:=n1.size;have z2:=n2.size;have z3:=n3.size;simp only[Yq,Zg]at z1 z2 z3;refine⟨_,_,_,rfl,b1.trans ((b2.tr b3).mono b1.size),fun wz hz=>?_⟩;have Aa:=hp.below b1.size;have Aq:=Aa.below b2.size;have Ae:=(Aq.below b3.size).below hz.size;have c2:Below w2.heap.size w2 wz:=b3.tr hz;have c1:Below w1.heap.size w1 wz:=b2.tr c2;have l0:=hp.lt;have l1:=hp.bl;have l2:=hz.size;exact bNb ok tg ge (rK hC wz) D j wz.heap.size Ae.far up _ (aIx hw Ae) (fun t w h=>h.1.size) _ _ _ _ _ _ _ (n1.hs hp c1 0 _ T0 rfl) (n1.hs hp c1 1 _ T1 rfl) (n3.hs Aq hz 0 _ T6 rfl) (n2.hs Aa c2 2 _ T4 rfl) (n2.hs Aa c2 3 _ T5 rfl) (n2.hs Aa c2 0 _ T2 rfl) (n2.hs Aa c2 1 _ T3 rfl)
  ⟨by show _<_;omega,by omega,by omega⟩ ⟨by show _<_;omega,by omega,by omega⟩ ⟨by show _<_;omega,by omega,by omega⟩
end
end
section
open Go.RowKit Go.Sort
section
variable {τ α:Type}{G:GQ}{es:List En}{r q:List Tk}{s:LU}{n:Nat}
theorem TkG.pr{x:PR α}{a:α}(tg:TkG r)(hs:Sf r x)(he:fS n x)(e:x=.ok a q):TkG q/\q.length<=n:=by
 subst e;exact⟨tg.suf hs he.1,he.2⟩
theorem TkG.pos(tg:TkG r):1<=r.length:=rO tg.end_
theorem TkG.qr{x:QR α}{a:α}(tg:TkG r)(hs:Sq r x)(he:rJ n x)(e:x=.ok a q):TkG q/\q.length<=n:=by
 subst e;exact⟨tg.suf hs he.1,he.2⟩
theorem TkG.tail(tg:TkG r)(hi:aG s r=true):TkG r.tail:=tg.suf (List.tail_suffix r) (dE tg.end_ hi).1
theorem nO{u:Unit}(tg:TkG r)(e:(aR s r).q=.ok u q):TkG q:=(tg.pr (n:=r.length) (sf_need s r) (lR tg.end_ aA) (PR.ofq e)).1
theorem aOa{u:LU}(tg:TkG r)(e:(bT r).q=.ok u q):TkG q:=(tg.pr (n:=r.length) (sf_name r) (wB tg.end_ aA) (PR.ofq e)).1
theorem aE3(es:List En)(last:Bool):∀f acc r n,aU r->r.length<=n->fS n (kB es last f acc r)
 |0,acc,r,n,h,hn=>⟨h,hn⟩
 |f+1,acc,r,n,h,hn=>by
  rw[kB];have hp:=rO h;refine(aCe es (n:=n) h aA).bind fun d q e hq hl=>?_;split
  . rename_i hm;obtain⟨t,z,rfl⟩:=hq.cons_;simp only[oZ,Yu,beq_iff_eq]at hm;have hk:t.k=5:=hm.1.1;simp only[Yq]at hl;exact aE3 es last f _ z n (hq.tail aA) aA
  . exact⟨hq,hl⟩
theorem aYb{last:Bool}{f:Nat}{acc u:List Dc}(tg:TkG r)(e:(kB es last f acc r).q=.ok u q):TkG q:=(tg.pr (n:=r.length) (sf_decls es last f acc r) (aE3 es last f acc r _ tg.end_ (Yh _)) (PR.ofq e)).1
theorem bAg(es:List En)(h:aU r)(hn:r.length<=n):fS n (uZ es r):=by
 unfold uZ;split
 . rename_i hi;obtain⟨h1,h2⟩:=dE h hi;exact(aE3 es true _ _ r.tail n h1 aA).bind fun l q _ hq hl=>(lR (n:=n) hq aA).bind fun _ q _ hq hl=>⟨hq,hl⟩
 . exact⟨h,hn⟩
theorem bAh{u:List Dc}(tg:TkG r)(e:(uZ es r).q=.ok u q):TkG q:=(tg.pr (n:=r.length) (aZ4 es r) (bAg es tg.end_ (Yh _)) (PR.ofq e)).1
theorem bBp(es:List En)(h:aU r)(hn:r.length<=n):fS n (vL es r):=by
 unfold vL;split;· exact aP8
 . exact(aE3 es false _ _ r n h aA).bind fun l q _ hq hl=>(lR (n:=n) hq aA).bind fun _ q _ hq hl=>⟨hq,hl⟩
theorem bBq{u:List Dc}(tg:TkG r)(e:(vL es r).q=.ok u q):TkG q:=(tg.pr (n:=r.length) (bBh es r) (bBp es tg.end_ (Yh _)) (PR.ofq e)).1
theorem bNc(tg:TkG r):oZ true r=(aG [59] r && !aG gW r.tail):=by
 obtain⟨t,z,rfl⟩:=tg.end_.cons_;rw[aNc (tg.2.1 t Zc) aF];cases z with
 |nil=>rfl
 |cons u z=>
  rw[Xn,aXj (tg.2.1 u aC) aF];rfl
theorem aKj(x:QR α):(x.bind fun t r=>.ok t r)=x:=aPg
theorem bQs(F H K:τ->List Tk->QR τ)(t:τ)(r:List Tk):(eV [F,H] t r).bind K=eV [F,H,K] t r:=by
 show((F t r).bind fun t r=>(H t r).bind fun t r=>.ok t r).bind K=(F t r).bind fun t r=>(H t r).bind fun t r=>(K t r).bind fun t r=>.ok t r;rw[dV];refine QR.congr fun a q _=>?_;rw[dV];refine QR.congr fun a q _=>?_;rw[aKj];rfl
theorem aYc(F:τ->List Tk->QR τ)(f:Nat)(t:τ)(h:aG s r=true):fG F s false f t r=.ok t r:=by
 exact bEv
theorem aCi(h:aG s r=true):aR s r=.ok () r.tail:=by rw[aR,if_pos h]
theorem bAi(h:aG s r=false):aR s r=.bad r:=by rw[aR,if_neg (by rw[h];simp)]
theorem aUq(es:List En)(up:Dc->τ->τ)(Aa:List Dc->τ)(hu:∀l d,up d (Aa l)=Aa (l++[d])):
 ∀f acc r (g:List Tk->Nat),TkG r->r.length<=f->(∀q:List Tk,q.length<r.length->q.length<=g q)->eV (eB (fK es) up::dN [59]::[fun t r=>fG (eV (vN es up)) gW false (g r) t r]) (Aa acc) r =
  (kB es true f acc r).q.bind fun l r=>(aR [59] r).q.bind fun _ r=>.ok (Aa l) r
 |0,acc,r,g,tg,hf,hg=>by have:=tg.pos;omega
 |f+1,acc,r,g,tg,hf,hg=>by
  have hp:=tg.pos;rw[kB,mP,dV];show((fK es r).q.bind fun a r=>.ok (up a (Aa acc)) r).bind (fun t r=>(dN [59] t r).bind fun t r=>(fG (eV (vN es up)) gW false (g r) t r).bind fun t r=>.ok t r)=_;rw[dV];refine QR.congr fun d q e=>?_;obtain⟨hq,hl⟩:=tg.pr (n:=r.length-1) (sf_decl es r) (aCe es tg.end_ aA) (PR.ofq e);show((aR [59] q).q.bind fun _ r=>.ok (up d (Aa acc)) r).bind (fun t r=>(fG (eV (vN es up)) gW false (g r) t r).bind fun t r=>.ok t r)=_;rw[hu,bNc hq];cases hi:aG [59] q with
  |false=>
   rw[bAi hi];simp only[Bool.false_and,Zb,if_false];show _=(aR [59] q).q.bind _;rw[bAi hi];rfl
  |true=>
   have hz:=hq.tail hi;have Aq:=(dE hq.end_ hi).2;rw[aCi hi];show(fG (eV (vN es up)) gW false (g q.tail) (Aa (acc++[d])) q.tail).bind (fun t r=>.ok t r)=_;rw[aKj];cases hj:aG gW q.tail with
   |true=>
    rw[aYc _ _ _ hj];simp only[Bool.not_true,Bool.and_false,Zb,if_false];show _=(aR [59] q).q.bind _;rw[aCi hi];rfl
   |false=>
    simp only[Bool.not_false,Bool.and_true,if_true];have Bs:=hg q.tail aA;have Ae:=hz.pos;obtain⟨k,hk⟩:∃k,g q.tail=k+1:=⟨g q.tail-1,by omega⟩;rw[hk,fG,hj,if_pos rfl];show(eV [eB (fK es) up,dN [59]] (Aa (acc++[d])) q.tail).bind _=_;rw[bQs];exact aUq es up Aa hu f _ q.tail (fun _=>k) hz aA fun y hy=>by omega
theorem bYu(es:List En)(up:Dc->τ->τ)(Aa:List Dc->τ)(hu:∀l d,up d (Aa l)=Aa (l++[d]))(tg:TkG r):aDk es up (Aa []) r=(uZ es r).q.bind fun l r=>.ok (Aa l) r:=by
 unfold aDk uZ;split
 . rename_i hi;have hz:=tg.tail hi;rw[aUq es up Aa hu r.tail.length [] r.tail (fun r=>r.length) hz (Yh _) (fun q _=>Yh _),mP,dV];exact bD2
 . rfl
def zD(up:Qn->τ->τ)(t:τ)(r:List Tk):QR τ:=(nA r).bind fun q r=>.ok (up q t) r
theorem bYv(up:Qn->τ->τ):pU (zD up):=by
 intro t r t' r' tg e;have hp:=tg.pos;have h1:=aKg (n:=r.length-1) tg aA;unfold zD at e;cases hx:nA r with
 |bad q z=>rw[hx]at e;cases e
 |ok a q=>
  exact aJx
theorem aYd(up:Qn->τ->τ)(Aa:List Qn->τ)(hu:∀l d,up d (Aa l)=Aa (l++[d])):
 ∀f acc r g,TkG r->r.length<=f->r.length<=g->(fG (zD up) mD false g (Aa acc) r).bind (fun t r=>dN mD t r)=(rE f acc r).bind fun l r=>.ok (Aa l) r
 |0,acc,r,g,tg,hf,hg=>by have:=tg.pos;omega
 |f+1,acc,r,0,tg,hf,hg=>by have:=tg.pos;omega
 |f+1,acc,r,g+1,tg,hf,hg=>by
  have hp:=tg.pos;rw[rE];cases hi:aG mD r with
  |true=>
   rw[aYc _ _ _ hi,if_pos rfl];show(aR mD r).q.bind _=_;rw[aCi hi];rfl
  |false=>
   rw[fG,hi,if_pos rfl,if_neg aC,dV,dV];unfold zD;rw[dV];refine QR.congr fun q z e=>?_;obtain⟨hz,hl⟩:=tg.qr (n:=r.length-1) (aQt r) (aKg tg aA) e;show(fG (zD up) mD false g (up q (Aa acc)) z).bind (fun t r=>dN mD t r)=_;rw[hu];exact aYd up Aa hu f _ z g hz aA aA
def nd0:Nd:=⟨⟨#[]⟩,[],[],[],[]⟩
def upI(d:Dc)(n:Nd):Nd:={ n with ins:=n.ins++[d] }
def upO(d:Dc)(n:Nd):Nd:={ n with outs:=n.outs++[d] }
def upV(d:Dc)(n:Nd):Nd:={ n with vars:=n.vars++[d] }
def upE(q:Qn)(n:Nd):Nd:={ n with eqs:=n.eqs++[q] }
def aFs(es:List En)(up:Dc->τ->τ)(t:τ)(r:List Tk):QR τ:=lX (eB (fK es) up) [59] r.length t r
def bFk(up:Qn->τ->τ)(t:τ)(r:List Tk):QR τ:=fG (zD up) mD false r.length t r
def aKk(es:List En):List (Nd->List Tk->QR Nd):=[dN lW,eB bT fun s n=>{ n with nm:=aB s },dN [40],aCf (aFs es upI) [41],dN [41],dN aD0,dN [40],aFs es upO,dN [41],aDk es upV,dN gW,bFk upE,dN mD]
theorem aYe(es:List En)(up:Dc->τ->τ)(Aa:List Dc->τ)(hu:∀l d,up d (Aa l)=Aa (l++[d]))(tg:TkG r):aFs es up (Aa []) r=(kB es false r.length [] r).q.bind fun l r=>.ok (Aa l) r:=
 aUh es up Aa hu r.length [] r tg (Yh _)
theorem cBs(es:List En)(up:Dc->τ->τ)(Aa:List Dc->τ)(hu:∀l d,up d (Aa l)=Aa (l++[d]))(tg:TkG r):(aCf (aFs es up) [41] (Aa []) r).bind (fun t r=>dN [41] t r)=(vL es r).q.bind fun l r=>.ok (Aa l) r:=by
 unfold aCf vL;cases hi:aG [41] r with
 |true=>
  rw[if_pos rfl,if_pos rfl];show(aR [41] r).q.bind _=_;rw[aCi hi];rfl
 |false=>
  rw[if_neg aC,if_neg aC,aYe es up Aa hu tg,dV,mP,dV];exact bD2
theorem uR(s:LU)(t:τ)(r:List Tk)(K:τ->List Tk->QR α):(dN s t r).bind K=(aR s r).q.bind fun _ r=>K t r:=by
 unfold dN;rw[dV];exact QR.congr fun _ q _=>rfl
theorem bYw(tg:TkG r):eV (aKk es) nd0 r=(aR lW r).q.bind fun _ r=>mV es r:=by
 unfold aKk;simp only[eV];rw[uR];refine QR.congr fun _ r1 e=>?_;have tg:=nO tg e;clear e;unfold eB mV;rw[dV];refine QR.congr fun s r1 e=>?_;have tg:=aOa tg e;clear e;show(dN [40] _ _).bind _=_;rw[uR];refine QR.congr fun _ r1 e=>?_;have tg:=nO tg e;clear e;have h:=fun K:Nd->List Tk->QR Nd=>(dV _ _ _).symm.trans (congrArg (fun x=>x.bind K) (cBs es upI (fun l=>⟨aB s,l,[],[],[]⟩) (fun l d=>rfl) tg));refine(h _).trans ?_;rw[dV];refine QR.congr fun a r1 e=>?_;have tg:=bBq tg e;clear e h;rw[QR.bind_ok,uR];refine QR.congr fun _ r1 e=>?_;have tg:=nO tg e;clear e;rw[uR];refine QR.congr fun _ r1 e=>?_;have tg:=nO tg e;clear e;rw[aYe es upO (fun l=>⟨aB s,a,l,[],[]⟩) (fun l d=>rfl) tg,dV];refine QR.congr fun b r1 e=>?_;have tg:=aYb tg e;clear e;rw[QR.bind_ok,uR];refine QR.congr fun _ r1 e=>?_;have tg:=nO tg e;clear e;rw[bYu es upV (fun l=>⟨aB s,a,b,l,[]⟩) (fun l d=>rfl) tg,dV];refine QR.congr fun v r1 e=>?_;have tg:=bAh tg e;clear e;rw[QR.bind_ok,uR];refine QR.congr fun _ r1 e=>?_;have tg:=nO tg e;clear e;have h:=aYd upE (fun l=>⟨aB s,a,b,v,l⟩) (fun l d=>rfl) r1.length [] r1 r1.length tg (Yh _) (Yh _);refine Eq.trans ?_ h;unfold bFk;refine QR.congr fun n r1 e=>?_;rw[aKj]
end
end
end Go.Proofs.YtagkcjpoipcpkaaGreatDoor
