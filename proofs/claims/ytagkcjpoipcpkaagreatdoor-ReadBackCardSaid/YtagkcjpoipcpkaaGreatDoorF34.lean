/- A part of the proof. Conditions: each theorem's own. -/
import Derived.Test.YtagkcjpoipcpkaaGreatDoorF33
namespace Go.Proofs.YtagkcjpoipcpkaaGreatDoor
set_option linter.unusedVariables false
set_option linter.unusedSimpArgs false
set_option maxRecDepth 100000
set_option maxHeartbeats 40000000
section
open Go.RowKit Go.Sort
section
variable {τ:Type}{G:GQ}{D:Nat}{es:List En}{w w' w1 w2 w7:World}{r r' q:List Tk}{n:Nat}
structure CEv (G:GQ)(D:Nat)(M m:Nat)(e:En)(v:Value)(w:World):Prop where
 lt:D<M
 row:w.heap[D]?=some (.cells #[.string e.1,v] 64)
 own:w.ownsRow M 9 1 v e.2.length (e.2.map Value.string)
 few:e.2.length+m<=100000
def CE(G:GQ)(D:Nat)(M m:Nat)(e:En)(w:World):Prop:=∃v,CEv G D M m e v w
theorem xD(hb:G.b<D):OkC G (CE G D):=by
 rintro M m e w w' ⟨v,h⟩ Aa Ae hk;have hM:=h.lt;refine⟨v,h.lt,?_,nK h.own fun k Cb=>?_,h.few⟩;· exact aPi
 . exact bCy
theorem bY3:aGd D 0 (CE G D) fun s e=>(s,e.2):=by
 rintro M m e w s ⟨v,h⟩;have hM:=h.lt;exact⟨⟨_,bU h.row 0 _ rfl⟩,lF h.row,v,h.lt,uL h.row,nK h.own fun k Cb=>Xb _ _ _ _ (by have:=gP h.own k Cb;show k≠D;omega),h.few⟩
theorem bY4(hb:G.b<D):AppsC G D 1 9 1 (fun _ a _ _ cs=>cs=[.string a]) (CE G D) fun s e=>(e.1,e.2++[s]):=by
 intro M m e w w1 hc Ae Aa hk;obtain⟨v,h⟩:=xD hb _ _ _ _ _ hc Aa Ae hk;have hf:=h.few;refine⟨v,_,_,bU h.row 1 v rfl,lF h.row,h.own,by omega,?_⟩;rintro s cs w' v' rfl hA ho;exact⟨v',h.lt,hA.row _ _ h.row,by simpa using ho,by show(e.2++[s]).length+m<=_;simp;omega⟩
theorem cDx(h:G.St w r)(hl:r.length<=100000){wa w5:World}{T:TypeId}{cs:AV}(hb:Below w.heap.size w wa)(Cs:Below wa.heap.size wa w5)(hp:Pf G w.heap.size wa)(hr:wa.heap[w.heap.size]?=some (.cells #[.string ⟨#[]⟩,.slice none 0 0] 64)):
 CE G w.heap.size (w5.heap.size+1) r.length (⟨#[]⟩,[]) (w5.alloc (.cells cs T)):=by
 have Aa:=Cs.size;have Ah:=hp.lt;have e:(w5.alloc (.cells cs T)).heap[w.heap.size]?=w5.heap[w.heap.size]?:=((Yg _ _).alloc (Yh _) _:Below w5.heap.size w5 _).block _ aA;exact⟨.slice none 0 0,by omega,e.trans ((Cs.block _ Ah).trans hr),⟨rfl,.inl ⟨rfl,rfl⟩⟩,by show 0+r.length<=_;omega⟩
theorem aYf{F:Nat->Prop}{ve vn v':Value}{b:Nat}(hA:sZ w7 b 2 ve w' v'){k:Nat}(hk:k<w7.heap.size)(hf:¬F k)(hb:k≠b)(he:ve.ownBlock≠some k)(hn:vn.ownBlock≠some k):¬PT F b v' vn k/\w'.heap[k]?=w7.heap[k]?:=by
 refine⟨?_,hA.block k hk hb he⟩;rintro (h|h|h|h);· exact hf h
 . exact hb h
 . rcases hA.goes with hg|hg;· exact he (hg ▸ h)
   . have:=hg k h
     omega
 . exact hn h
theorem cDh{F:Nat->Prop}{M m:Nat}{e:En}{v:Value}{ve vn v':Value}(hb:G.b<D)(h:CEv G D M m e v w7)(hA:sZ w7 G.b 2 ve w' v')(he:∀k,ve.ownBlock=some k->k<D)(hn:∀k,vn.ownBlock=some k->k<D)(hF:∀k,F k->k<=D):zE (bp (PT F G.b v' vn) w') e [.string e.1,v]:=by
 have hM:=h.lt;have hf:=h.few;obtain⟨A,c,rfl⟩:=nG h.own;refine⟨A,c,rfl,?_⟩;refine⟨rfl,by omega,fun hp=>?_⟩;rcases h.own.2 with⟨h1,h2⟩|⟨g,cap,cur,h1,hg,hh,h2,h3,h4,h5⟩;· exact aJ1
 . simp only[Value.slice.injEq]at h1;obtain⟨rfl,-,rfl⟩:=h1;have Aa:=(Ym.1 hh).1;obtain⟨k1,k2⟩:=aYf (F:=F) (vn:=vn) hA Aa (fun x=>by have:=hF g x;omega) aA (fun x=>by have:=he g x;omega) (fun x=>by have:=hn g x;omega);refine⟨g,0,rfl,by rw[wC];exact Yt Aa hA.size,fun i hi=>?_⟩;rw[aCg k1,Nat.zero_add];refine(Yn (a:=⟨g,i,none⟩) k2).trans ((h.own.cellAt i aA).trans ?_);exact bEy
def aKl:List (En->List Tk->QR En):=[dN lH,eB bT fun s e=>(aB s,e.2),dN [123],fun t r=>lX (eB (iR 2) fun s e=>(e.1,e.2++[aB s])) [44] r.length t r,dN [125],dN [59]]
theorem bQu:pU (eB (iR 2) fun s (e:En)=>(e.1,e.2++[aB s])):=aNj fun r n h hn=>aIw 2 aF h hn
theorem aS3:∀f acc (r:List Tk),(∀t∈r,t.k=2->bQ t.s=false)->gB (iR 2) f acc r=gB kT f acc r
 |0,acc,r,h=>rfl
 |f+1,acc,r,h=>by
  rw[gB,gB];split
  . have ht:∀t∈r.tail,t.k=2->bQ t.s=false:=fun t hm=>h t (List.mem_of_mem_tail hm);rw[aV6 ht];have hs:=sf_high r.tail;cases e:kT r.tail with
    |bad q=>rfl
    |ok y q=>
     rw[e]at hs;show gB (iR 2) f _ q=gB kT f _ q;exact aS3 f _ q fun t hm=>ht t (List.IsSuffix.subset hs hm)
  . rfl
theorem bY5(tg:TkG r)(hw:∀t∈r,t.k=2->bQ t.s=false):eV aKl (⟨#[]⟩,[]) r=(aR lH r).q.bind fun _ r=>(lI r).q:=by
 unfold aKl;simp only[eV];rw[uR];refine QR.congr fun _ r1 e=>?_;have Fs:=nO tg e;have Dg:=sf_need lH r;rw[PR.ofq e]at Dg;have Af:∀t∈r1,t.k=2->bQ t.s=false:=fun t hm=>hw t (List.IsSuffix.subset Dg hm);clear e Dg hw tg;unfold lI;rw[mP];unfold eB;rw[dV];refine QR.congr fun s r2 e=>?_;have Aq:=aOa Fs e;have Ae:=sf_name r1;rw[PR.ofq e]at Ae;have Bs:∀t∈r2,t.k=2->bQ t.s=false:=fun t hm=>Af t (List.IsSuffix.subset Ae hm);clear e Ae Af Fs;rw[mP];show(dN [123] _ _).bind _=_;rw[uR];refine QR.congr fun _ r3 e=>?_;have Hb:=nO Aq e;have Aa:=sf_need [123] r2;rw[PR.ofq e]at Aa;have Em:∀t∈r3,t.k=2->bQ t.s=false:=fun t hm=>Bs t (List.IsSuffix.subset Aa hm);clear e Aa Bs Aq;have h:=aLv (one:=iR 2) (fun r n h hl=>aIw 2 aF h hl) (fun s (e:En)=>(e.1,e.2++[s])) (fun l=>(aB s,l)) (fun l s=>rfl) r3.length [] r3 Hb.end_ (Yh _);refine(congrArg (fun x=>x.bind fun t r=>(dN [125] t r).bind fun t r=>(dN [59] t r).bind fun t r=>.ok t r) h).trans ?_;rw[dV,mP,aV6 Em];refine QR.congr fun c r4 e=>?_;have Ct:=sf_high r3;rw[PR.ofq e]at Ct;have Ha:∀t∈r4,t.k=2->bQ t.s=false:=fun t hm=>Em t (List.IsSuffix.subset Ct hm);rw[aS3 _ _ _ Ha,dV,mP];refine QR.congr fun cs r5 e=>?_;rw[QR.bind_ok,uR,mP];refine QR.congr fun _ r6 e=>?_;rw[uR,mP];exact QR.congr fun _ r7 e=>rfl
theorem bY6{e:En}(tg:TkG r)(h:lI r=.ok e q):bQ e.1.data.toList=false/\e.1.data.toList∉iD:=by
 unfold lI at h;obtain⟨t,z,rfl⟩:=tg.end_.cons_;have ht:=tg.2.1 t Zc;rw[bT]at h;by_cases hk:t.k=1/\bQ t.s=false
 . rw[if_pos hk]at h;have Aa:e.1=aB t.s:=by
    have h:(aR [123] z).bind _=_:=h;cases h1:aR [123] z with
    |bad _=>rw[h1]at h;cases h
    |ok _ z1=>
    rw[h1]at h;have h:(kT z1).bind _=_:=h;cases h2:kT z1 with
    |bad _=>rw[h2]at h;cases h
    |ok c z2=>
    rw[h2]at h;have h:(gB kT z2.length [aB c] z2).bind _=_:=h;cases h3:gB kT z2.length [aB c] z2 with
    |bad _=>rw[h3]at h;cases h
    |ok cs z3=>
    rw[h3]at h;have h:(aR [125] z3).bind _=_:=h;cases h4:aR [125] z3 with
    |bad _=>rw[h4]at h;cases h
    |ok _ z4=>
    rw[h4]at h;have h:(aR [59] z4).bind _=_:=h;cases h5:aR [59] z4 with
    |bad _=>rw[h5]at h;cases h
    |ok _ z5=>
    rw[h5]at h;injection h with h;rw[<-h]
   rw[Aa];exact⟨hk.2,ht.2 hk.1⟩
 . rw[if_neg hk]at h;cases h
end
end
section
open Go.RowKit Go.Sort
theorem cBz:(Tryz.prog.info? 64).map (fun i=>(i.size,i.bytes,i.zero.map fun z=>z.cells.size))=some (2,40,some 2):=aE
section
variable {G:GQ}{w w':World}{r:List Tk}
def bFn(F:Nat->Prop)(G:GQ)(M n:Nat)(xs:LV)(w:World)(r:List Tk)(e:Ending)(w':World):Prop:=
 ∃u en r1 v' cs w7,e=.returned u/\r1.length<=r.length/\(((aR lH r).q.bind fun _ r=>(lI r).q)=.ok en r1/\u=.nilIface\/∃q z,((aR lH r).q.bind fun _ r=>(lI r).q)=.bad q z/\u=iX q z)/\At G w r1 w7/\
  sZ w7 G.b 2 G.ve w' v'/\w'.ownsRow M 64 2 v' (n+1) (xs++cs)/\zE (bp (PT F G.b v' G.vn) w') en cs
theorem cB1(F:Nat->Prop)(ok:G.Ok)(tg:TkG G.all)(Np:G.lock=true)(h:G.St w r)(M n:Nat)(xs:LV)(Ao:w.ownsRow M 64 2 G.ve n xs)(hn:n<=100000)(hM:G.b<M)(No:M<=w.heap.size)(he:∀k,G.vn.ownBlock=some k->k<w.heap.size)(hF:∀k,F k->k<=w.heap.size):
 Calls Tryz.prog 43 #[aH G.b] w (bFn F G M n xs w r):=by
 obtain⟨i0,z0,Om,Co,Cm,Cr,Od⟩:=zM cBz;have Aa:=h.lt;have Nr:=Hd Aa;have HS:=Hd h;have Gy:=Hd (bY5 (h.tkg tg) fun t ht=>ok.nwd t (h.suf.subset ht));have Og:=Hd (show r.length<=100000 from by have:=(h.tkg tg).2.2;omega);have Ng:=Hd fun w1 (hp:Pf G w.heap.size w1)=>qH ok hp (xD Aa) ⟨#[101,110,117,109]⟩;have Ct:=Hd fun w1 (hp:Pf G w.heap.size w1)=>qH ok hp (xD Aa) ⟨#[123]⟩;have Jx:=Hd fun w1 (hp:Pf G w.heap.size w1)=>qH ok hp (xD Aa) ⟨#[125]⟩;have Bs:=Hd fun w1 (hp:Pf G w.heap.size w1)=>qH ok hp (xD Aa) ⟨#[59]⟩;have Fs:=Hd fun w1 (hp:Pf G w.heap.size w1)=>aOy ok hp (xD Aa) 0 _ bY3;have Hb:=Hd fun w1 (hp:Pf G w.heap.size w1)=>bAb ok hp (xD Aa) 2 aF 1 _ (bY4 Aa);have Hc:=Hd fun w1 K fa fc (hp:Pf G w.heap.size w1)(hf:iG G w.heap.size (CE G w.heap.size) w1 (.func K fa fc) (eB (iR 2) fun s (e:En)=>(e.1,e.2++[aB s])))=>aNi ok tg hp (xD Aa) ⟨#[44]⟩ K fa fc _ hf bQu;have Ah:=h.lt;have Au:=h.size;have Ol:=Hd Np;have Hj:=Hd Ao;have HM:=Hd hM;have Oc:=Hd No;have HN:=Hd hn;have Nh:=Hd (fun k hk=>(Ao.lt k hk).2);have Ob:=Hd he;have Oe:=Hd hF;clear h ok tg Np Ao he hn hM No hF;go_in
 go_upto_region 2 with(fail);generalize Aq:w.alloc _=wa;have Ew:=Hd (show Below w.heap.size w wa by rw[<-Aq];exact(Yg _ _).alloc (Yh _) _);have Oa:=Hd (show wa.heap[w.heap.size]?=some (.cells #[.string ⟨#[]⟩,.slice none 0 0] 64)by rw[<-Aq];exact Xa _ _);have Ae:=Hd (show Pf G w.heap.size wa from⟨by omega,Au,by rw[<-Aq];simp,by rw[<-Aq];simp;omega,by rw[<-Aq];simp;omega⟩);clear Aq Aa;go_wp2_with fail;refine(Ng.o wa Ae.o).mono ?_;rintro e w1 ⟨K1,f1,c1,rfl,hb,hp⟩;have Ac:=Hd hb;have Nz:=Hd hp;have Bn:=Hd (Ac.o.size);clear hb hp;go_wp2_with fail;refine(Fs.o w1 (Ae.o.below Bn.o)).mono ?_;rintro e w2 ⟨K2,f2,c2,rfl,hb,hp⟩;have Ai:=Hd hb;have Nq:=Hd hp;have Da:=Hd (Yr Bn.o Ai.o.size);clear hb hp;go_wp2_with fail;refine(Ct.o w2 (Ae.o.below Da.o)).mono ?_;rintro e w3 ⟨K3,f3,c3,rfl,hb,hp⟩;have Aj:=Hd hb;have Ns:=Hd hp;have Nm:=Hd (Yr Da.o Aj.o.size);clear hb hp;go_wp2_with fail;refine(Hb.o w3 (Ae.o.below Nm.o)).mono ?_;rintro e w4 ⟨K4,f4,c4,rfl,hb,hp⟩;have Bd:=Hd hb;have Nt:=Hd hp;have Nj:=Hd (Yr Nm.o Bd.o.size);clear hb hp;go_wp2_with fail;refine(Hc.o w4 K4 f4 c4 (Ae.o.below Nj.o) Nt.o).mono ?_;rintro e w5 ⟨K5,f5,c5,rfl,hb,hp⟩;have Bl:=Hd hb;have Ny:=Hd hp;have Dz:=Hd (Yr Nj.o Bl.o.size);clear hb hp;go_wp2_with fail;refine(Jx.o w5 (Ae.o.below Dz.o)).mono ?_;rintro e w6 ⟨K6,f6,c6,rfl,hb,hp⟩;have Db:=Hd hb;have Nu:=Hd hp;have Ie:=Hd (Yr Dz.o Db.o.size);clear hb hp;go_wp2_with fail;refine(Bs.o w6 (Ae.o.below Ie.o)).mono ?_;rintro e w7 ⟨K7,f7,c7,rfl,hb,hp⟩;have Gi:=Hd hb;have Nn:=Hd hp;clear hb hp;have Cx:=Hd (show Below wa.heap.size wa w7 from Ac.o.trans ((Ai.o.trans ((Aj.o.trans ((Bd.o.trans ((Bl.o.trans ((Db.o.trans ((Gi.o).mono Db.o.size)).mono Bl.o.size)).mono Bd.o.size)).mono Aj.o.size)).mono Ai.o.size)).mono Ac.o.size));have Nw:=Hd (show pB G w.heap.size (CE G w.heap.size) w7 [.func K1 f1 c1,.func K2 f2 c2,.func K3 f3 c3,.func K5 f5 c5,.func K6 f6 c6,.func K7 f7 c7] aKl from((((((pB.nil (w:=w1)).snoc (Yg _ _) Nz.o).snoc (Ai.o) Nq.o).snoc (Aj.o) Ns.o).snoc (Bd.o.trans ((Bl.o).mono Bd.o.size)) Ny.o).snoc (Db.o) Nu.o).snoc (Gi.o) Nn.o);clear Ac Nz Bn Ai Nq Da Aj Ns Nm Bd Nt Nj Bl Ny Dz Db Nu Ie Gi Nn Hc Fs Hb Ct Jx Ng Bs;go_wp2_with fail;refine(aIf (xD Nr.o) (Ae.o.below Cx.o.size) [.func K1 f1 c1,.func K2 f2 c2,.func K3 f3 c3,.func K5 f5 c5,.func K6 f6 c6,.func K7 f7 c7] aKl 108 6 aC Nw.o (HS.o.below (Ew.o.tr Cx.o)) (t:=(⟨#[]⟩,[])) (m:=r.length) (Yh _) (cDx HS.o Og.o Ew.o Cx.o Ae.o Oa.o)).mono ?_;rintro e w9 ⟨u,r1,en,m7,rfl,h7,Nx,Ni,⟨v1,Ev⟩,Nv⟩;have Db:=Hd (show Below w.heap.size w (w7.alloc (.cells ([.func K1 f1 c1,.func K2 f2 c2,.func K3 f3 c3,.func K5 f5 c5,.func K6 f6 c6,.func K7 f7 c7]:LV).toArray 108))from(Ew.o.tr Cx.o).alloc (Yr Ew.o.size Cx.o.size) _);have Ar:=aKi Db.o (Yh _) Ni h7;have Gl:=Hd (nK Hj.o fun k hk=>(Ni.block k (Yt (Nh.o k hk) Db.o.size) bF7 (Nat.ne_of_lt (Nh.o k hk))).trans (Db.o.block k (Nh.o k hk)));have c3:=Ar.1.cellE Ol.o;have x0:=Ar.1.fz 2;obtain⟨A1,c1,rfl⟩:=nG Ev.own;have Ad:=Ev.row;have Oh:=Hd Ev;have Of:=Hd Ar;have On:=Hd Nx;have Oi:=Hd Nv;have Nl:=Hd (show G.ve.ownBlock≠some G.b from fun e=>by have:=gP Hj.o _ e;have:=HM.o;omega);have Ha:G.b<w9.heap.size:=Yi _ _ c3;have Ot:=HN.o;have Oq:M<=w9.heap.size:=Yr Oc.o (Yr Db.o.size Ni.size);have b0:=bU Ad 0 (.string en.1) rfl;have b1:=bU Ad 1 (.slice A1 en.2.length c1) rfl
 have aD:(w9.alloc (Obj.cells #[.string en.1,.slice A1 en.2.length c1] 64)).cell? ⟨G.b,2,none⟩=some G.ve:=(Yj _ _ _ Ha).trans c3;clear h7 Nx Ni Ev Nv Ar Ad Db Nw Cx Oa Ae Ew;go_upto_region 3 with(fail);go_region_law
  ((refine step_append_lies _ bC _ _ _ bC M 64 i0 z0 2 40 Tryz.underlying23 Om Co Cm Cr Od aF G.ve n xs bC (Gl.o.alloc _) ⟨w9.heap.size,0,none⟩ 1 1 [.string en.1,.slice A1 en.2.length c1] bC rfl (fun j u hu=>World.news_of_block (Xa _ _) j u hu) (fun u hu=>by simp at hu;rcases hu with rfl | rfl <;> rfl) aA fZ aA cP _ rfl ?_
    intro g1 Nk w8 Bh As Cw Dt;have yD:=xP mF As Nl.o c3;have yF:=aFq mF As Nl.o c3 x0;have HAL:=Hd (cE5 (j:=2) (cap:=Nk) (n:=n+1) mF As Nl.o Ha Cw);have Oj:=Hd Bh;have Oo:=Hd (show g1≠G.b from by
     rcases Cw with e|e
     . have:=gP Hj.o _ e;have:=HM.o;omega
     . simp at e;omega)
    clear Bh As Cw Dt))
 go_wp2_with fail
 all_goals
  go_ret;have ho:=Oi.o;rw[Gy.o]at ho;exact⟨u,en,r1,_,_,w9,rfl,On.o,ho,Of.o,HAL.o,aX8 Oj.o rfl Oo.o,cDh Nr.o Oh.o HAL.o Nh.o Ob.o Oe.o⟩
end
end
section
variable {G:GQ}{es:List En}{r q:List Tk}{n:Nat}
theorem bBs:∀f acc r n,TkG r->r.length<=n->rJ n (rE f acc r)
 |0,acc,r,n,tg,hn=>⟨tg.end_,hn⟩
 |f+1,acc,r,n,tg,hn=>by
  have hp:=tg.pos;rw[rE];split
  . rename_i hi;obtain⟨h1,h2⟩:=dE tg.end_ hi;exact⟨h1,by omega⟩
  . have h:=aKg (n:=n) tg aA;exact h.bind fun q z e _ hl=>bBs f _ z n (tg.qr (aQt r) h e).1 hl
theorem bY7(tg:TkG r)(hn:r.length<=n+1):rJ n (mV es r):=by
 unfold mV;refine(wB (n:=n) tg.end_ hn).q.bind fun a r e _ hl=>?_;have tg:=aOa tg e;clear e;refine(lR (n:=n) tg.end_ aA).q.bind fun _ r e _ hl=>?_;have tg:=nO tg e;clear e;refine(bBp es (n:=n) tg.end_ hl).q.bind fun _ r e _ hl=>?_;have tg:=bBq tg e;clear e;refine(lR (n:=n) tg.end_ aA).q.bind fun _ r e _ hl=>?_;have tg:=nO tg e;clear e;refine(lR (n:=n) tg.end_ aA).q.bind fun _ r e _ hl=>?_;have tg:=nO tg e;clear e;refine(aE3 es false _ _ r n tg.end_ hl).q.bind fun _ r e _ hl=>?_;have tg:=aYb tg e;clear e;refine(lR (n:=n) tg.end_ aA).q.bind fun _ r e _ hl=>?_;have tg:=nO tg e;clear e;refine(bAg es (n:=n) tg.end_ hl).q.bind fun _ r e _ hl=>?_;have tg:=bAh tg e;clear e;refine(lR (n:=n) tg.end_ aA).q.bind fun _ r e _ hl=>?_;have tg:=nO tg e;clear e;exact(bBs _ _ r n tg hl).bind fun q r e he hl=>⟨he,hl⟩
def qU(r:List Tk):QR En:=(aR lH r).q.bind fun _ r=>(lI r).q
def vE(es:List En)(r:List Tk):QR Nd:=(aR lW r).q.bind fun _ r=>mV es r
theorem aYg(r:List Tk):Sq r (qU r):=by
 have h1:=sf_need lH r;unfold qU;cases e:aR lH r with
 |bad q=>rw[e]at h1;exact h1
 |ok u q=>
  rw[e]at h1;have h2:=aZ3 q;show Sq r (lI q).q;cases e2:lI q with
  |bad z=>rw[e2]at h2;exact List.IsSuffix.trans h2 h1
  |ok a z=>rw[e2]at h2;exact List.IsSuffix.trans h2 h1
theorem bU5(r:List Tk):Sq r (vE es r):=by
 have h1:=sf_need lW r;unfold vE;cases e:aR lW r with
 |bad q=>rw[e]at h1;exact h1
 |ok u q=>
  rw[e]at h1;have h2:=bXw es q;show Sq r (mV es q);cases e2:mV es q with
  |bad z y=>rw[e2]at h2;exact List.IsSuffix.trans h2 h1
  |ok a z=>rw[e2]at h2;exact List.IsSuffix.trans h2 h1
theorem aIg(tg:TkG r)(hn:r.length<=n+1):rJ n (qU r):=by
 unfold qU;refine(lR (n:=n) tg.end_ hn).q.bind fun _ r e _ hl=>?_;exact(bXx (n:=n) (nO tg e).end_ aA).q
theorem aNm(tg:TkG r)(hn:r.length<=n+1):rJ n (vE es r):=by
 unfold vE;refine(lR (n:=n) tg.end_ hn).q.bind fun _ r e _ hl=>?_;exact bY7 (nO tg e) aA
theorem bU6{e:En}(tg:TkG r)(h:qU r=.ok e q):bQ e.1.data.toList=false/\e.1.data.toList∉iD:=by
 unfold qU at h;cases e1:aR lH r with
 |bad z=>rw[e1]at h;cases h
 |ok u z=>
  have Aa:TkG z:=nO (u:=u) tg (by rw[e1];rfl);rw[e1]at h;exact bY6 Aa (PR.ofq (show(lI z).q=.ok e q from h))
def tT(p:Pg)(r:List Tk):QR Pg:=(qU r).bind fun e r=>.ok ⟨p.es++[e],p.ns⟩ r
def tU(p:Pg)(r:List Tk):QR Pg:=(vE p.es r).bind fun n r=>.ok ⟨p.es,p.ns++[n]⟩ r
def aGp(p:Pg)(r:List Tk):QR Pg:=if uX r=6 then .ok p r else .bad r 2
def aO2(p:Pg)(r:List Tk):QR Pg:=fG tT lH true r.length p r
def aJe(p:Pg)(r:List Tk):QR Pg:=fG tU lW true r.length p r
def bFo:List (Pg->List Tk->QR Pg):=[aO2,aJe,aGp]
theorem bNe:pU tT:=by
 intro t r t' r' tg e;have hp:=tg.pos;have h1:=aIg (n:=r.length-1) tg aA;unfold tT at e;cases hx:qU r with
 |bad q z=>rw[hx]at e;cases e
 |ok a q=>
  exact aJx
theorem bNf:pU tU:=by
 intro t r t' r' tg e;have hp:=tg.pos;have h1:=aNm (es:=t.es) (n:=r.length-1) tg aA;unfold tU at e;cases hx:vE t.es r with
 |bad q z=>rw[hx]at e;cases e
 |ok a q=>
  exact aJx
theorem bBt{τ:Type}(F:τ->List Tk->QR τ)(f:Nat)(s:LU)(t:τ)(h:aG s r=false):fG F s true f t r=.ok t r:=by
 exact bEv
theorem aUr(ns:List Nd):∀f acc r g,TkG r->r.length<=f->r.length<=g->fG tT lH true g ⟨acc,ns⟩ r=(qM f acc r).bind fun l r=>.ok ⟨l,ns⟩ r
 |0,acc,r,g,tg,hf,hg=>by have:=tg.pos;omega
 |f+1,acc,r,0,tg,hf,hg=>by have:=tg.pos;omega
 |f+1,acc,r,g+1,tg,hf,hg=>by
  have hp:=tg.pos;rw[qM];cases hi:aG lH r with
  |false=>rw[bBt _ _ _ _ hi,if_neg aC];rfl
  |true=>
   rw[fG,hi,if_pos rfl,if_pos rfl];have hw:qU r=(lI r.tail).q:=bB9;unfold tT;rw[hw,dV,dV];refine QR.congr fun e z he=>?_;obtain⟨hz,hl⟩:=tg.qr (n:=r.length-1) (aYg r) (aIg tg aA) (hw.trans he);exact aUr ns f _ z g hz aA aA
theorem aUs(es:List En):∀f acc r g,TkG r->r.length<=f->r.length<=g->fG tU lW true g ⟨es,acc⟩ r=(wJ es f acc r).bind fun l r=>.ok ⟨es,l⟩ r
 |0,acc,r,g,tg,hf,hg=>by have:=tg.pos;omega
 |f+1,acc,r,0,tg,hf,hg=>by have:=tg.pos;omega
 |f+1,acc,r,g+1,tg,hf,hg=>by
  have hp:=tg.pos;rw[wJ];cases hi:aG lW r with
  |false=>rw[bBt _ _ _ _ hi,if_neg aC];rfl
  |true=>
   rw[fG,hi,if_pos rfl,if_pos rfl];have hw:vE es r=mV es r.tail:=by unfold vE;rw[aCi hi];rfl
   unfold tU;rw[hw,dV,dV];refine QR.congr fun e z he=>?_;obtain⟨hz,hl⟩:=tg.qr (n:=r.length-1) (bU5 r) (aNm tg aA) (hw.trans he);exact aUs es f _ z g hz aA aA
theorem aYh:∀f acc r n,TkG r->r.length<=n->rJ n (qM f acc r)
 |0,acc,r,n,tg,hn=>⟨tg.end_,hn⟩
 |f+1,acc,r,n,tg,hn=>by
  have hp:=tg.pos;rw[qM];split
  . rename_i hi;have hw:qU r=(lI r.tail).q:=bB9;have h:=aIg (n:=n) tg aA;rw[<-hw];exact h.bind fun q z e _ hl=>aYh f _ z n (tg.qr (aYg r) h e).1 hl
  . exact⟨tg.end_,hn⟩
theorem bY8(tg:TkG r):eV bFo ⟨[],[]⟩ r=pQ r:=by
 show(aO2 ⟨[],[]⟩ r).bind (fun t r=>(aJe t r).bind fun t r=>(aGp t r).bind fun t r=>.ok t r)=_;unfold aO2 pQ;rw[aUr [] r.length [] r r.length tg (Yh _) (Yh _),dV];refine QR.congr fun es r1 e=>?_;have Aa:TkG r1:=(tg.qr (aX6 _ _ r) (aYh r.length [] r r.length tg (Yh _)) e).1;show(aJe ⟨es,[]⟩ r1).bind _=_;unfold aJe;rw[aUs es r1.length [] r1 r1.length Aa (Yh _) (Yh _),dV];refine QR.congr fun ns r2 e2=>?_;show(aGp ⟨es,ns⟩ r2).bind (fun t r=>.ok t r)=_;rw[aKj];rfl
end
section
open Go.RowKit Go.Sort
section
variable {G:GQ}{w w' w1 w7:World}{r r':List Tk}{ve vn:Value}
def GQ.at(G:GQ)(w:World)(ve vn:Value):GQ:={ G with W:=w,ve:=ve,vn:=vn,lock:=true }
theorem GQ.St.okAt(h:G.St w r)(ok:G.Ok)(ve vn:Value):(G.at w ve vn).Ok:=⟨h.rd ok,ok.tks,ok.nwd,h.lt⟩
theorem GQ.St.stAt(h:G.St w r)(h2:w.cell? ⟨G.b,2,none⟩=some ve)(h3:w.cell? ⟨G.b,3,none⟩=some vn):(G.at w ve vn).St w r:=by
 obtain⟨Ae,Aa,h1,-⟩:=h.row;have e2:Ae=ve:=by
  have:=bU h1 2 Ae rfl
  rw[h2]at this;exact(Option.some.inj this).symm
 have e3:Aa=vn:=by
  have:=bU h1 3 Aa rfl
  rw[h3]at this;exact(Option.some.inj this).symm
 exact⟨⟨Ae,Aa,h1,fun _=>⟨e2,e3⟩⟩,Yg _ _,h.len,h.pre,h.fin⟩
theorem GQ.St.ofAt(hl:G.lock=false)(h:G.St w r)(h1:(G.at w ve vn).St w' r'):G.St w' r':=by
 obtain⟨Ae,Aa,h2,-⟩:=h1.row;exact⟨⟨Ae,Aa,h2,fun e=>by rw[hl]at e;cases e⟩,h.lo.trans (h1.lo.mono h.size),h1.len,h1.pre,h1.fin⟩
theorem bY9(ok:G.Ok)(h:G.St w r):dS G.A<G.W.heap.size:=by
 have h1:=h.pos;have h2:=h.len;obtain⟨b0,off,hA,Aa,-⟩:=ok.rd.2.2 aA;rw[hA];rwa[fC]at Aa
theorem bBu{b j M:Nat}{v v':Value}(hA:sZ w7 b j v w' v')(hM:M<=w7.heap.size)(ho:∀k,v.ownBlock=some k->M<=k):Below M (bl b w7) (bl b w'):=by
 refine⟨hA.os,hA.tape,hA.output,by rw[fC,fC];exact hA.size,fun k hk=>?_⟩;have hs:=hA.size;by_cases hb:k=b
 . subst hb;rw[qQ (k:=0),qQ (k:=0),if_pos aA,if_pos aA]
 . rw[dH hb,dH hb];exact hA.block k aA hb fun e=>by have:=ho k e;omega
def kX(G:GQ)(k:Nat):Prop:=k<G.W.heap.size/\k≠dS G.A
structure kI (G:GQ)(p:Pg)(m:Nat)(ve vn:Value)(cE cN:LV)(w:World):Prop where
 c2:w.cell? ⟨G.b,2,none⟩=some ve
 c3:w.cell? ⟨G.b,3,none⟩=some vn
 lo:Below G.W.heap.size (bl G.b G.W) (bl G.b w)
 oE:w.ownsRow G.W.heap.size 64 2 ve p.es.length cE
 oN:w.ownsRow G.W.heap.size 69 5 vn p.ns.length cN
 fE:p.es.length+m<=100000
 fN:p.ns.length+m<=100000
 lE:nF (zE (bp (PT (kX G) G.b ve vn) w)) p.es cE
 lN:nF (NdC (bp (PT (kX G) G.b ve vn) w)) p.ns cN
def cDy(p:Pg):Prop:=∀e∈p.es,bQ e.1.data.toList=false/\e.1.data.toList∉iD
def IP(G:GQ)(g:Bool)(p:Pg)(w:World):Prop:=∃m ve vn cE cN,kI G p m ve vn cE cN w/\(g=true->sY G w<=m/\cDy p)
section
variable {p:Pg}{m:Nat}{cE cN:LV}
theorem kI.kp(hv:kI G p m ve vn cE cN w)(Fb:G.b<G.W.heap.size)(hk:Below w.heap.size (bl G.b w) (bl G.b w'))(h2:w'.cell? ⟨G.b,2,none⟩=some ve)(h3:w'.cell? ⟨G.b,3,none⟩=some vn):kI G p m ve vn cE cN w':=by
 have hW:G.W.heap.size<=w.heap.size:=by have:=hv.lo.size;rwa[fC,fC]at this
 have ho:∀{e:TypeId}{size:Nat}{v:Value}{n:Nat}{xs:LV},w.ownsRow G.W.heap.size e size v n xs->w'.ownsRow G.W.heap.size e size v n xs:=fun h2=>nK h2 fun k Cb=>by
  exact bC3
 have Aa:gN (PT (kX G) G.b ve vn) w (PT (kX G) G.b ve vn) w':=aO1 (.inr (.inl rfl)) hk;exact⟨h2,h3,hv.lo.trans (hk.mono hW),ho hv.oE,ho hv.oN,hv.fE,hv.fN,hv.lE.mono Aa.en,hv.lN.mono Aa.nd⟩
theorem kI.at_(hv:kI G p m ve vn cE cN w)(ok:G.Ok)(Ar:At (G.at w ve vn) w r' w'):kI G p m ve vn cE cN w':=
 hv.kp ok.lb Ar.2 (Ar.1.cellE rfl) (Ar.1.cellN rfl)
theorem kI.le{m':Nat}(hv:kI G p m ve vn cE cN w)(hm:m'<=m):kI G p m' ve vn cE cN w:=
 ⟨hv.c2,hv.c3,hv.lo,hv.oE,hv.oN,by have:=hv.fE;omega,by have:=hv.fN;omega,hv.lE,hv.lN⟩
theorem bFp(ok:G.Ok):∀(t:Pg)(w w':World)(r:List Tk),G.St w r->IP G true t w->Below w.heap.size w w'->IP G true t w':=by
 rintro t w w' r h ⟨m,ve,vn,cE,cN,hv,hm⟩ hb;refine⟨m,ve,vn,cE,cN,hv.kp ok.lb (iQ hb) ((hb.cell h.lt).trans hv.c2) ((hb.cell h.lt).trans hv.c3),fun hg=>?_⟩;obtain⟨h1,h2⟩:=hm hg;rw[h.lft_]at h1;rw[(h.below hb).lft_];exact⟨h1,h2⟩
theorem bZa{e:En}{v':Value}{cs:LV}(ok:G.Ok)(hl:G.lock=false)(h:G.St w r)(hv:kI G p (m+1) ve vn cE cN w)(Ar:At (G.at w ve vn) w r' w7)(hA:sZ w7 G.b 2 ve w' v')(ho:w'.ownsRow G.W.heap.size 64 2 v' (p.es.length+1) (cE++cs))(he:zE (bp (PT (kX G) G.b v' vn) w') e cs):
 G.St w' r'/\kI G ⟨p.es++[e],p.ns⟩ m v' vn (cE++cs) cN w':=by
 have hW:G.W.heap.size<=w.heap.size:=h.size;have h7:=h.ofAt hl Ar.1;have Aq:w.heap.size<=w7.heap.size:=wA Ar.2;have Fb:=ok.lb;have Df:Below G.W.heap.size (bl G.b G.W) (bl G.b w'):=h7.lo.trans (bBu hA h7.size fun k hk=>gP hv.oE k hk);obtain⟨Hb,Ae,Ad,Ct⟩:=Ar.1.row;obtain⟨e2,e3⟩:=Ct rfl;have Aa:=hA.row _ _ Ad;have Av:G.St w' r':=⟨⟨v',Ae,Aa,fun e=>by rw[hl]at e;cases e⟩,Df,h7.len,h7.pre,h7.fin⟩
 have Dr:∀k,k<w.heap.size->k≠G.b->w7.heap[k]?=w.heap[k]?:=fun k hk hb=>by
  exact bDc
 have Bs:gN (PT (kX G) G.b ve vn) w (PT (kX G) G.b v' vn) w':=⟨Yr Aq hA.size,fun k hk hn=>by
  have hb:k≠G.b:=fun e=>hn (.inr (.inl e));obtain⟨h1,h2⟩:=aYf (vn:=vn) hA (Yt hk Aq) (fun e=>hn (.inl e)) hb (fun e=>hn (.inr (.inr (.inl e)))) (fun e=>hn (.inr (.inr (.inr e))));exact⟨h1,h2.trans (Dr k hk hb)⟩⟩
 have Fs:=hv.fE;have Ha:=hv.fN;refine⟨Av,bU Aa 2 v' rfl,bU Aa 3 vn (by rw[<-show Ae=vn from e3];rfl),Df,by simpa using ho,nK hv.oN fun k hk=>?_,by simp;omega,by show p.ns.length+m<=_;omega,(hv.lE.mono Bs.en).snoc he,hv.lN.mono Bs.nd⟩;have h1:=gP hv.oN k hk;have h2:=(hv.oN.lt k hk).2;exact(hA.block k aA aA (aB3 hv.oN hv.oE aF hk)).trans (Dr k h2 aA)
theorem bZb{x:Nd}{v':Value}{cs:LV}(ok:G.Ok)(hl:G.lock=false)(h:G.St w r)(hv:kI G p (m+1) ve vn cE cN w)(Ar:At (G.at w ve vn) w r' w7)(hA:sZ w7 G.b 3 vn w' v')(ho:w'.ownsRow G.W.heap.size 69 5 v' (p.ns.length+1) (cN++cs))(he:NdC (bp (PT (kX G) G.b ve v') w') x cs):
 G.St w' r'/\kI G ⟨p.es,p.ns++[x]⟩ m ve v' cE (cN++cs) w':=by
 have hW:G.W.heap.size<=w.heap.size:=h.size;have h7:=h.ofAt hl Ar.1;have Aq:w.heap.size<=w7.heap.size:=wA Ar.2;have Fb:=ok.lb;have Df:Below G.W.heap.size (bl G.b G.W) (bl G.b w'):=h7.lo.trans (bBu hA h7.size fun k hk=>gP hv.oN k hk);obtain⟨Ae,Hb,Ad,Ct⟩:=Ar.1.row;obtain⟨e2,e3⟩:=Ct rfl;have Aa:=hA.row _ _ Ad;have Av:G.St w' r':=⟨⟨Ae,v',Aa,fun e=>by rw[hl]at e;cases e⟩,Df,h7.len,h7.pre,h7.fin⟩
 have Dr:∀k,k<w.heap.size->k≠G.b->w7.heap[k]?=w.heap[k]?:=fun k hk hb=>by
  exact bDc
 have Bs:gN (PT (kX G) G.b ve vn) w (PT (kX G) G.b ve v') w':=⟨Yr Aq hA.size,fun k hk hn=>by
  have hb:k≠G.b:=fun e=>hn (.inr (.inl e));obtain⟨h1,h2⟩:=aOb (ve:=ve) hA (Yt hk Aq) (fun e=>hn (.inl e)) hb (fun e=>hn (.inr (.inr (.inl e)))) (fun e=>hn (.inr (.inr (.inr e))));exact⟨h1,h2.trans (Dr k hk hb)⟩⟩
 have Fs:=hv.fE;have Ha:=hv.fN;refine⟨Av,bU Aa 2 ve (by rw[<-show Ae=ve from e2];rfl),bU Aa 3 v' rfl,Df,nK hv.oE fun k hk=>?_,by simpa using ho,by show p.es.length+m<=_;omega,by simp;omega,hv.lE.mono Bs.en,(hv.lN.mono Bs.nd).snoc he⟩;have h1:=gP hv.oE k hk;have h2:=(hv.oE.lt k hk).2;exact(hA.block k aA aA (aB3 hv.oE hv.oN aF hk)).trans (Dr k h2 aA)
theorem bBv{wz:World}{M n c:Nat}{A:OA}{es:List En}{cs:LV}(ho:w.ownsRow M 64 2 (.slice A n c) n cs)(hf:nF (zE wz) es cs)(hn:es.length=n)(Ae:n<=9223372036854775807)(hs:w.heap.size<=w'.heap.size)(hw:∀g,(Value.slice A n c).ownBlock=some g->∀o,w'.cell? ⟨g,o,none⟩=w.cell? ⟨g,o,none⟩)
 (hz:∀q v,wz.cell? q=some v->w'.cell? q=some v)(Kd:wz.heap.size<=w'.heap.size):cQ w' A n es:=by
 have Cb:∀(e:En)(c:LV),zE wz e c->c.length=2:=by
  rintro e c ⟨A,c0,rfl,-⟩;rfl
 refine⟨hn,Ae,fun hp=>?_⟩;rcases ho.2 with⟨h1,h2⟩|⟨g,cap,cur,h1,hg,hh,h2,h3,h4,h5⟩;· exact aJ1
 . simp only[Value.slice.injEq]at h1;obtain⟨rfl,-,rfl⟩:=h1;refine⟨g,0,rfl,Yt (Ym.1 hh).1 hs,fun i hi=>?_⟩;have Aa:es[i]?=some (es[i]' aA):=Yk aA;obtain⟨c1,⟨A',c',rfl,hT⟩,h7⟩:=hf.get Cb i _ Aa
   have hcell:∀j v,([.string (es[i]' aA).1,.slice A' (es[i]' aA).2.length c']:LV)[j]?=some v->w'.cell? ⟨g,0+i*2+j,none⟩=some v:=fun j v hv=>by
    have h8:=h7 j v hv;have hl:=hf.len Cb;have Ah:=(List.getElem?_eq_some_iff.1 h8).1;rw[hw g rfl,Nat.zero_add];exact(ho.cellAt (i*2+j) (by rw[<-hn,<-hl];exact Ah)).trans h8
   have en:cM es i=(es[i]' aA).1:=by unfold cM;rw[Aa];rfl
   have ec:cH es i=(es[i]' aA).2:=by unfold cH;rw[Aa];rfl
   rw[en,ec];exact⟨hcell 0 _ rfl,A',_,c',hcell 1 _ rfl,hT.up Kd hz⟩
theorem kI.rdE{E:OA}{c:Nat}(ok:G.Ok)(hv:kI G p m (.slice E p.es.length c) vn cE cN w):cQ (bl G.b w) E p.es.length p.es:=by
 have Fb:=ok.lb;have hf:=hv.fE;refine bBv (w:=w) hv.oE hv.lE rfl aA bB8 (fun g hg o=>?_) (fun q v hq=>?_) (by rw[wC,fC];exact Yh _)
 . have:=gP hv.oE g hg
   exact Yn (a:=⟨g,o,none⟩) (dH (show g≠G.b by omega))
 . obtain⟨h1,h2⟩:=aFg hq;have hb:q.block≠G.b:=fun e=>h2 (.inr (.inl e));exact(Yn (a:=q) (dH hb)).trans h1
theorem cB2{n:Nd}{A1 A2 A3 A4:OA}(hs:w.heap.size<=w'.heap.size)(hz:∀q v,w.cell? q=some v->w'.cell? q=some v)(hr:gA w n A1 A2 A3 A4):gA w' n A1 A2 A3 A4:=by
 have up:∀ {α:Type} [Inhabited α] {k:Nat}{At:World->Nat->Nat->α->Prop}{A:OA}{n:Nat}{l:List α}(hm:∀ b o x,At w b o x->At w' b o x),aY k At w A n l->aY k At w' A n l:=fun hm hr=>⟨hr.1,hr.2.1,fun hn=>by
  obtain⟨b,off,e,hb,hc⟩:=hr.2.2 hn;exact⟨b,off,e,Yt hb hs,fun i hi=>hm _ _ _ (hc i hi)⟩⟩
 obtain⟨h1,h2,h3,h4⟩:=hr;have hd:∀b o x,oC w b o x->oC w' b o x:=fun b o x hx=>aHi hz hx;refine⟨up hd h1,up hd h2,up hd h3,up (fun b o q hq=>?_) h4⟩;obtain⟨A,c,A',ca,B',cb,g1,g2,g3,g4⟩:=hq;exact⟨A,c,A',ca,B',cb,hz _ _ g1,g2.up hs hz,aHi hz g3,oP hs hz q.x A' B' g4⟩
theorem kI.rdP{E N:OA}{ec nc:Nat}(ok:G.Ok)(hv:kI G p m (.slice E p.es.length ec) (.slice N p.ns.length nc) cE cN w)(hs:w.heap.size<=w'.heap.size)(hk:∀k,k<w.heap.size->¬kX G k->k≠G.b->w'.heap[k]?=w.heap[k]?):Go.Proofs.YtagkcjpoipcpkaaGreatDoor.lM w' p E N:=by
 have hf:=hv.fE;have Aq:=hv.fN;have Fb:=ok.lb;have Au:(bp (PT (kX G) G.b (.slice E p.es.length ec) (.slice N p.ns.length nc)) w).heap.size<=w'.heap.size:=by rw[wC];exact hs
 have hz:∀q v,(bp (PT (kX G) G.b (.slice E p.es.length ec) (.slice N p.ns.length nc)) w).cell? q=some v->w'.cell? q=some v:=fun q v hq=>by
  obtain⟨h1,h2⟩:=aFg hq;have Ah:q.block<w.heap.size:=Yi _ _ h1;exact(Yn (a:=q) (hk q.block Ah (fun e=>h2 (.inl e)) (fun e=>h2 (.inr (.inl e))))).trans h1
 have Aa:∀{e:TypeId}{size:Nat}{v:Value}{n:Nat}{xs:LV},w.ownsRow G.W.heap.size e size v n xs->∀g,v.ownBlock=some g->∀o,w'.cell? ⟨g,o,none⟩=w.cell? ⟨g,o,none⟩:=fun ho g hg o=>by
  have h1:=gP ho g hg;exact Yn (a:=⟨g,o,none⟩) (hk g (ho.lt g hg).2 (fun e=>by have:=e.1;omega) aA)
 refine⟨bBv (w:=w) hv.oE hv.lE rfl aA hs (Aa hv.oE) hz Au,?_⟩;refine aFr (At:=xA) (Ct:=NdC (bp (PT (kX G) G.b (.slice E p.es.length ec) (.slice N p.ns.length nc)) w)) (fun x c hc=>?_) aF hv.oN hv.lN rfl aA hs (Aa hv.oN) (fun b o x c hc Ae=>?_)
 . obtain⟨A1,c1,A2,c2,A3,c3,A4,c4,rfl,-⟩:=hc;rfl
 . obtain⟨A1,c1,A2,c2,A3,c3,A4,c4,rfl,h1⟩:=hc;exact⟨A1,c1,A2,c2,A3,c3,A4,c4,fun j v hv=>Ae j v hv,cB2 Au hz h1⟩
end
end
end
section
open Go.RowKit Go.Sort
section
variable {G:GQ}{w w' w1 w7:World}{r r':List Tk}{ve vn:Value}{b:Nat}
theorem bNg(ok:G.Ok)(tg:TkG G.all)(hl:G.lock=false):iS G (IP G) (.func (.func 43) #[aH G.b] #[]) tT:=by
 rintro t r w h ⟨m,ve,vn,cE,cN,hv,hm⟩;obtain⟨hm,Ha⟩:=hm rfl;rw[h.lft_]at hm;have Bs:=h.pos;obtain⟨m,rfl⟩:∃k,m=k+1:=⟨m-1,by omega⟩;have Hb:=hv.fE;refine⟨_,#[aH G.b],#[],rfl,fun args w=>rfl,?_⟩;have Fs:=cB1 (kX G) (G:=G.at w ve vn) (h.okAt ok ve vn) tg rfl (h.stAt hv.c2 hv.c3) G.W.heap.size _ cE hv.oE aA ok.lb h.size (fun k hk=>(hv.oN.lt k hk).2) (fun k hk=>Yr (Nat.le_of_lt hk.1) h.size);refine Calls.mono (show Calls Tryz.prog 43 #[aH G.b] w (bFn (kX G) (G.at w ve vn) G.W.heap.size t.es.length cE w r)from Fs) ?_;rintro e w' ⟨u,en,r1,v',cs,w7,rfl,Ae,ho,Ar,hA,Ao,Ct⟩;obtain⟨Av,Aa⟩:=bZa (e:=en) ok hl h hv Ar hA Ao Ct;rcases ho with⟨ho,rfl⟩|⟨q,z,ho,rfl⟩
 . have ho:qU r=.ok en r1:=ho;have Aq:=aIg (n:=r.length-1) (h.tkg tg) aA;rw[ho]at Aq;have Ah:=Aq.2;have he:tT t r=.ok ⟨t.es++[en],t.ns⟩ r1:=by unfold tT;rw[ho];rfl
   rw[he];refine⟨rfl,Av,Ae,m,v',vn,_,_,Aa,fun _=>⟨by rw[Av.lft_];omega,fun x hx=>?_⟩⟩;rcases Zr.1 hx with hx|hx;· exact Ha x hx
   . rw[Yp.1 hx];exact bU6 (h.tkg tg) ho
 . have ho:qU r=.bad q z:=ho;have he:tT t r=.bad q z:=by unfold tT;rw[ho];rfl
   rw[he];exact⟨rfl,⟨r1,Av,Ae⟩,_,m,v',vn,_,_,Aa,fun hg=>by cases hg⟩
theorem bNh(ok:G.Ok)(tg:TkG G.all)(hl:G.lock=false):iS G (IP G) (.func (.func 44) #[aH G.b] #[]) tU:=by
 rintro t r w h ⟨m,ve,vn,cE,cN,hv,hm⟩;obtain⟨hm,Bs⟩:=hm rfl;rw[h.lft_]at hm;have Hb:=h.pos;obtain⟨m,rfl⟩:∃k,m=k+1:=⟨m-1,by omega⟩;have Ng:=hv.fE;have Nh:=hv.fN;refine⟨_,#[aH G.b],#[],rfl,fun args w=>rfl,?_⟩;have Ha:=bY9 ok h;have Fs:GE (G.at w ve vn) t.es:=by
  obtain⟨E,ec,hE⟩:=nG hv.oE;have Aa:=hv;rw[hE]at Aa;exact⟨⟨E,ec,hE,show cQ (bl G.b w) E t.es.length t.es from kI.rdE (G:=G) ok Aa⟩,rfl,Bs⟩
 have Jx:=cBy (kX G) (G:=G.at w ve vn) (h.okAt ok ve vn) tg Fs (h.stAt hv.c2 hv.c3) G.W.heap.size _ cN hv.oN aA ok.lb h.size Ha (fun k hk=>⟨(hv.oE.lt k hk).2,by have:=gP hv.oE k hk;show k≠dS G.A;omega⟩) (fun k hk=>⟨Yr (Nat.le_of_lt hk.1) h.size,hk.2⟩);refine Calls.mono (show Calls Tryz.prog 44 #[aH G.b] w (bFm (kX G) (G.at w ve vn) t.es G.W.heap.size t.ns.length cN w r)from Jx) ?_;rintro e w' ⟨u,nd,r1,v',cs,w7,rfl,Aq,ho,Ar,hA,Ao,Hc⟩;obtain⟨Av,Ae⟩:=bZb (x:=nd) ok hl h hv Ar hA Ao Hc;rcases ho with⟨ho,rfl⟩|⟨q,z,ho,rfl⟩
 . have ho:vE t.es r=.ok nd r1:=ho;have Ct:=aNm (es:=t.es) (n:=r.length-1) (h.tkg tg) aA;rw[ho]at Ct;have Ah:=Ct.2;have he:tU t r=.ok ⟨t.es,t.ns++[nd]⟩ r1:=by unfold tU;rw[ho];rfl
   rw[he];exact⟨rfl,Av,Aq,m,ve,v',_,_,Ae,fun _=>⟨by rw[Av.lft_];omega,Bs⟩⟩
 . have ho:vE t.es r=.bad q z:=ho;have he:tU t r=.bad q z:=by unfold tU;rw[ho];rfl
   rw[he];exact⟨rfl,⟨r1,Av,Aq⟩,_,m,ve,v',_,_,Ae,fun hg=>by cases hg⟩
theorem bQv(ok:G.Ok)(hl:G.lock=false):iS G (IP G) (.func (.func 45) #[aH G.b] #[]) aGp:=by
 rintro t r w h ⟨m,ve,vn,cE,cN,hv,hm⟩;obtain⟨hm,Bs⟩:=hm rfl;rw[h.lft_]at hm;refine⟨_,#[aH G.b],#[],rfl,fun args w=>rfl,?_⟩;have Aq:=cC3 (G:=G.at w ve vn) (h.okAt ok ve vn) (h.stAt hv.c2 hv.c3);refine Calls.mono (show Calls Tryz.prog 45 #[aH G.b] w _ from Aq) ?_;rintro e w' ⟨⟨v,rfl,Aa⟩,Ar⟩;have Av:=h.ofAt hl Ar.1;have Ae:=hv.at_ ok Ar;unfold aGp;by_cases hk:uX r=6
 . rw[if_pos hk]at Aa;rw[if_pos hk,Aa];exact⟨rfl,Av,Yh _,m,ve,vn,_,_,Ae,fun _=>⟨by rw[Av.lft_];exact hm,Bs⟩⟩
 . rw[if_neg hk]at Aa;rw[if_neg hk,Aa];exact⟨rfl,⟨r,Av,Yh _⟩,t,m,ve,vn,_,_,Ae,fun hg=>by cases hg⟩
theorem hsP{p:Nat}{v:Value}(hp:G.W.cell? ⟨p,0,none⟩=some v)(hb:p≠G.b):Hs (IP G) p v:=by
 rintro t w ⟨m,ve,vn,cE,cN,hv,-⟩;have Ah:p<G.W.heap.size:=Yi _ _ hp;have e:=hv.lo.block p Ah;rw[dH hb,dH hb]at e;exact(Yn (a:=⟨p,0,none⟩) e).trans hp
theorem aYi(s:BA)(K:Fn)(fa fc:AV):Calls Tryz.prog 42 #[aH b,.string s,.func K fa fc] w fun e w'=>(∃T0 T1 T2 T3,eG w [(#[aH b],T0),(#[.string s],T1),(#[bN 86 #[aH w.heap.size,aH (w.heap.size+1)]],T2),(#[.func K fa fc],T3)] w')/\e=.returned (bN 142 #[aH (w.heap.size+2),aH (w.heap.size+3)]):=
 bX9 (G:=⟨w,b,none,0,0,[],.nilIface,.nilIface,false⟩) s K fa fc
def G0(w:World)(b:Nat)(A:OA)(n c:Nat)(all:List Tk):GQ:=⟨w,b,A,n,c,all,.slice none 0 0,.slice none 0 0,false⟩
def rq0(A:OA)(n c:Nat):Array Value:=#[.slice A n c,.int .i64 0,.slice none 0 0,.slice none 0 0]
def yR(w:World)(b:Nat)(A:OA)(n c:Nat)(all:List Tk)(e:Ending)(w':World):Prop:=∃w6,Below w.heap.size w w6/\∃u,e=.returned u/\jG (G0 w6 b A n c all) (IP (G0 w6 b A n c all)) all.length (pQ all) (.returned u) w'
theorem bQw(A:OA)(n c:Nat)(all:List Tk)(Ad:w.heap[b]?=some (.cells (rq0 A n c) 44))(Fs:eI (bl b w) A n all)(Aa:TkG all)(Ha:∀t∈all,t.k=2->bQ t.s=false){w1 w2:World}{T0 T1 T2 T3 U0 U1 U2 U3:TypeId}
 (n1:eG w [(#[aH b],T0),(#[.string ⟨#[101,110,117,109]⟩],T1),(#[bN 86 #[aH w.heap.size,aH (w.heap.size+1)]],T2),(#[.func (.func 43) #[aH b] #[]],T3)] w1)
 (n2:eG w1 [(#[aH b],U0),(#[.string ⟨#[110,111,100,101]⟩],U1),(#[bN 86 #[aH w1.heap.size,aH (w1.heap.size+1)]],U2),(#[.func (.func 44) #[aH b] #[]],U3)] w2):
 Calls Tryz.prog 41 #[.slice (some ⟨w2.heap.size,0,none⟩) 3 3] (w2.alloc (.cells #[bN 142 #[aH (w.heap.size+2),aH (w.heap.size+3)],bN 142 #[aH (w1.heap.size+2),aH (w1.heap.size+3)],.func (.func 45) #[aH b] #[]] 108)) (yR w b A n c all):=by
 generalize Kx:([bN 142 #[aH (w.heap.size+2),aH (w.heap.size+3)],bN 142 #[aH (w1.heap.size+2),aH (w1.heap.size+3)],.func (.func 45) #[aH b] #[]]:LV)=fs;have hl:fs.length=3:=by rw[<-Kx];rfl
 have Aq:∃w6,w6=w2.alloc (.cells fs.toArray 108):=⟨_,rfl⟩;obtain⟨w6,Hi⟩:=Aq;have Ah:b<w.heap.size:=(Ym.1 Ad).1;have b1:=n1.below;have b2:=n2.below;have z1:=n1.size;have z2:=n2.size;simp only[Yq,Zg]at z1 z2;have b6:Below w2.heap.size w2 w6:=by rw[Hi];exact(Yg _ _).alloc (Yh _) _
 have Hc:w6.heap.size=w2.heap.size+1:=by rw[Hi];simp
 have Ct:Below w1.heap.size w1 w6:=b2.tr b6;have hb:Below w.heap.size w w6:=b1.tr Ct;have Ae:w6.heap[w2.heap.size]?=some (.cells fs.toArray 108):=by rw[Hi];exact Xa _ _
 have Bs:w6.heap[b]?=some (.cells (rq0 A n c) 44):=(hb.block b Ah).trans Ad;have hn:all.length=n:=Fs.1;have ok:(G0 w6 b A n c all).Ok:=⟨Fs.below bF9,Aa.2.1,Ha,Yt Ah hb.size⟩
 have Av:(G0 w6 b A n c all).St w6 all:=⟨⟨.slice none 0 0,.slice none 0 0,by
  show w6.heap[b]?=some (.cells (zC (.slice A n c) ((n-all.length:Nat):Int) (.slice none 0 0) (.slice none 0 0)) _);rw[hn,Nat.sub_self]
  exact Bs,fun e=>by cases e⟩,Yg _ _,Xm hn,by
  show all.drop (n-all.length)=all;rw[hn,Nat.sub_self]
  rfl,Aa.end_⟩
 have Hb:kI (G0 w6 b A n c all) ⟨[],[]⟩ all.length (.slice none 0 0) (.slice none 0 0) [] [] w6:=
  ⟨bU Bs 2 _ rfl,bU Bs 3 _ rfl,Yg _ _,⟨rfl,.inl ⟨rfl,rfl⟩⟩,⟨rfl,.inl ⟨rfl,rfl⟩⟩,by have:=Aa.2.2;show 0+all.length<=_;omega,by have:=Aa.2.2;show 0+all.length<=_;omega,rfl,rfl⟩
 have hi:IP (G0 w6 b A n c all) true ⟨[],[]⟩ w6:=⟨all.length,_,_,_,_,Hb,fun _=>⟨by rw[Av.lft_];exact Yh _,fun e he=>by simp at he⟩⟩
 have s1:∀i v T,([(#[aH b],T0),(#[.string ⟨#[101,110,117,109]⟩],T1),(#[bN 86 #[aH w.heap.size,aH (w.heap.size+1)]],T2),(#[.func (.func 43) #[aH b] #[]],T3)]:List (Array Value × TypeId))[i]?=some (#[v],T)->Hs (IP (G0 w6 b A n c all)) (w.heap.size+i) v:=fun i v T hi=>by
  have e:=n1.cell i 0 _ v hi rfl;exact hsP ((Ct.cell (Yi _ _ e)).trans e) (by show w.heap.size+i≠b;omega)
 have s2:∀i v T,([(#[aH b],U0),(#[.string ⟨#[110,111,100,101]⟩],U1),(#[bN 86 #[aH w1.heap.size,aH (w1.heap.size+1)]],U2),(#[.func (.func 44) #[aH b] #[]],U3)]:List (Array Value × TypeId))[i]?=some (#[v],T)->Hs (IP (G0 w6 b A n c all)) (w1.heap.size+i) v:=fun i v T hi=>by
  have e:=n2.cell i 0 _ v hi rfl;exact hsP ((b6.cell (Yi _ _ e)).trans e) (by show w1.heap.size+i≠b;omega)
 have r1:=aMz (G:=G0 w6 b A n c all) Aa (bFp ok) lH true _ _ (aUi ok ⟨#[101,110,117,109]⟩ _ _ (s1 0 _ _ rfl) (s1 1 _ _ rfl)) tT (bNg ok Aa rfl) bNe _ _ (s1 2 _ _ rfl) (s1 3 _ _ rfl);have r2:=aMz (G:=G0 w6 b A n c all) Aa (bFp ok) lW true _ _ (aUi ok ⟨#[110,111,100,101]⟩ _ _ (s2 0 _ _ rfl) (s2 1 _ _ rfl)) tU (bNh ok Aa rfl) bNf _ _ (s2 2 _ _ rfl) (s2 3 _ _ rfl);have r3:=bQv (G:=G0 w6 b A n c all) ok rfl;have h6:=aNh (G:=G0 w6 b A n c all) (I:=IP (G0 w6 b A n c all)) fs bFo w2.heap.size 3 aA ?_ (by rw[<-Kx];exact⟨r1,r2,r3,trivial⟩) Av hi
 . rw[hl,bY8 Aa]at h6;rw[<-Hi];refine h6.mono fun e w' he=>?_;obtain⟨u,_,_,_,rfl,-⟩:=aUp he;exact⟨w6,hb,u,rfl,he⟩
 . rintro t w' ⟨m,ve,vn,cE,cN,hv,-⟩ i f hf;have e:=hv.lo.block w2.heap.size (by show _<w6.heap.size;omega);rw[show(G0 w6 b A n c all).b=b from rfl,dH aA,dH aA]at e;exact bU (e.trans Ae) i f wW
theorem bQx(A:OA)(n c:Nat)(all:List Tk)(Ad:w.heap[b]?=some (.cells (rq0 A n c) 44))(Aq:eI (bl b w) A n all)(Aa:TkG all)(Ae:∀t∈all,t.k=2->bQ t.s=false):
 Calls Tryz.prog 16 #[aH b] w (yR w b A n c all):=by
 have Jt:=mkf;have Gm:=Hd fun w1=>aYi (w:=w1) (b:=b) ⟨#[101,110,117,109]⟩ (.func 43) #[aH b] #[];have Cj:=Hd fun w1=>aYi (w:=w1) (b:=b) ⟨#[110,111,100,101]⟩ (.func 44) #[aH b] #[];have Ah:b<w.heap.size:=(Ym.1 Ad).1;have Bs:=Hd fun w1 w2 T0 T1 T2 T3 U0 U1 U2 U3 n1 n2=>bQw (w1:=w1) (w2:=w2) (T0:=T0) (T1:=T1) (T2:=T2) (T3:=T3) (U0:=U0) (U1:=U1) (U2:=U2) (U3:=U3) A n c all Ad Aq Aa Ae n1 n2 |>.mono fun(e:Ending)(w':World)(hx:yR w b A n c all e w')=>(show ∃u,e=Ending.returned u/\yR w b A n c all (Ending.returned u) w' from by obtain⟨w6,hb,u,rfl,he⟩:=hx;exact⟨u,rfl,w6,hb,u,rfl,he⟩)
 generalize Ct:yR w b A n c all=Fs at *;clear Ad Aq Aa Ae Ct;go_in
 go_upto_region 1 with(fail);go_region_held3 (fun _=>True) (exact trivial)
  ((first
    |(go_at_call 42;refine(Gm.o w.drew).mono ?_;clear Gm;rintro e w1 ⟨⟨T0,T1,T2,T3,hn⟩,rfl⟩;have Gz:=Hd (show eG w _ w1 from⟨⟨hn.below.os,hn.below.tape,hn.below.output,hn.below.size,hn.below.block⟩,hn.size,hn.at_⟩);clear hn)
    |(go_at_call 42;refine(Cj.o w1).mono ?_;clear Cj;rintro e w2 ⟨⟨U0,U1,U2,U3,hn⟩,rfl⟩;have Di:=Hd hn;clear hn)
    |(go_at_call 41;refine(Bs.o w1 w2 T0 T1 T2 T3 U0 U1 U2 U3 Gz.o Di.o).mono ?_;rintro e w7 ⟨u,rfl,hE⟩;have HE:=Hd hE;clear hE)))
 all_goals go_wp2_with fail
 all_goals exact HE.o
end
end
end Go.Proofs.YtagkcjpoipcpkaaGreatDoor
