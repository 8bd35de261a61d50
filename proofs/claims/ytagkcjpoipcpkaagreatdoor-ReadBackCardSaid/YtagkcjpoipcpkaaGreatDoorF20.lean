/- A part of the proof. Conditions: each theorem's own. -/
import Derived.Test.YtagkcjpoipcpkaaGreatDoorF19
namespace Go.Proofs.YtagkcjpoipcpkaaGreatDoor
set_option linter.unusedVariables false
set_option linter.unusedSimpArgs false
set_option maxRecDepth 100000
set_option maxHeartbeats 40000000
section
open Go.RowKit Go.Sort
theorem bW9:∃i:TypeInfo,Tryz.prog.info? 9=some i/\i.size=1/\i.zero=some (.string ⟨#[]⟩)/\i.bytes=16:=by
 exact bHe
section
variable {w w1 w2 w':World}{b:Nat}{A:OA}{n c:Nat}{all r r' r2:List Tk}{va va1 vp:Value}{st:LV}{ps:List Ex}{sz:Nat}{L L1 L2 S ft:LN}
theorem aNf(h:aP w b A n c all r va st vp ps sz L){eb:Nat}{x:Ex}{Aa B:OA}{ca cb:Nat}(k:aX w eb x Aa ca B cb):eb≠b/\va.ownBlock≠some eb:=by
 refine⟨?_,oQ h.oa k aF⟩;rintro rfl;have h2:=h.row;rw[show w.heap[eb]?=_ from k]at h2;exact bEc
theorem bMj(x:Ex)(a:LU)(Aa A2:OA)(ca c2:Nat)(hx:x.subs=[]):(aJ x Aa ca none 0).setIfInBounds 4 (.slice A2 (x.arms.length+1) c2)=aJ (rZ x a) A2 c2 none 0:=by
 cases x;simp only[Ex.subs]at hx;subst hx;simp[aJ,rZ,Ex.arms,Ex.k,Ex.n,Ex.s,Ex.op,Ex.subs]
theorem aS0(x:Ex)(a:LU):(rZ x a).arms=x.arms++[aB a]/\(rZ x a).subs=x.subs:=by
 cases x;exact⟨rfl,rfl⟩
theorem aXl{eb g cap ca:Nat}{x:Ex}{a:LU}{Aa:OA}{w4:World}(h:aP w b A n c all r va st vp ps sz L)(hx:x.subs=[])(Ad:aX w eb x Aa ca none 0)
 (Ao:w.ownsRow 0 9 1 (.slice Aa x.arms.length ca) x.arms.length (x.arms.map Value.string))(hL:∀k∈eb::(Value.slice Aa x.arms.length ca).ownBlock.toList,k∈L)(hv:vp.ownBlock≠some eb)
 (hb:Below w.heap.size w w1)(Du:w1.grownBy w4 (Value.slice Aa x.arms.length ca).ownBlock)
 (Bh:w4.ownsRow 0 9 1 (.slice (some ⟨g,0,none⟩) (x.arms.length+1) cap) (x.arms.length+1) (x.arms.map Value.string++[.string (aB a)]))(Ar:(Value.slice Aa x.arms.length ca).ownBlock=some g\/g=w1.heap.size)(Ah:g<w4.heap.size):
 aP (w4.setCell ⟨eb,4,none⟩ (.slice (some ⟨g,0,none⟩) (x.arms.length+1) cap)) b A n c all r va st vp ps sz (g::L)/\
  vP (g::L) (w4.setCell ⟨eb,4,none⟩ (.slice (some ⟨g,0,none⟩) (x.arms.length+1) cap)) eb (rZ x a) [eb,g]/\
  Tn (eb::(Value.slice Aa x.arms.length ca).ownBlock.toList) L (g::L) w (w4.setCell ⟨eb,4,none⟩ (.slice (some ⟨g,0,none⟩) (x.arms.length+1) cap))/\(g∈(Value.slice Aa x.arms.length ca).ownBlock.toList\/w.heap.size<=g)/\g≠eb:=by
 obtain⟨Dg,Jx⟩:=aNf h Ad;have Ct:(Value.slice Aa x.arms.length ca).ownBlock≠some eb:=oQ Ao Ad aF;have Bs:eb<w.heap.size:=Ad.lt;have Ae:w4.heap[eb]?=some (.cells (aJ x Aa ca none 0) 79):=(Du.block eb (Yt Bs hb.size) (fun e=>Ct e.symm)).trans ((hb.block eb Bs).trans Ad);have Hb:g≠eb:=by
  rintro rfl;exact oQ Bh Ae aF rfl
 generalize Fs:Value.slice (some ⟨g,0,none⟩) (x.arms.length+1) cap=v' at *;generalize hW:w4.setCell ⟨eb,4,none⟩ v'=W;have Dd:∀k,k≠eb->W.heap[k]?=w4.heap[k]?:=fun k hk=>by rw[<-hW];exact Xb _ _ _ _ hk
 have Au:W.heap.size=w4.heap.size:=aPh;have Ha:g∈(Value.slice Aa x.arms.length ca).ownBlock.toList\/w.heap.size<=g:=by
  rcases Ar with Ar|Ar;· exact .inl (by rw[Ar];simp)
  . exact .inr aO7
 have hS:∀k∈eb::(Value.slice Aa x.arms.length ca).ownBlock.toList,k∈L:=hL;have ht:Tn (eb::(Value.slice Aa x.arms.length ca).ownBlock.toList) L (g::L) w W:=by
  refine⟨by rw[<-hW];exact Du.os.trans hb.os,by rw[<-hW];exact Du.tape.trans hb.tape,by rw[<-hW];exact Du.output.trans hb.output,by rw[Au];exact Yr hb.size Du.size,fun k hk hn=>?_,fun k hk=>?_,fun k hk _=>Zi _ hk⟩;· exact bIc
  . rcases Yw.1 hk with rfl|hk
    . rcases Ha with h1|h1;· exact .inl (hL _ (Zi _ h1))
      . exact .inr h1
    . exact .inl hk
 have Aq:∀ k,k<w.heap.size->k≠eb->(Value.slice Aa x.arms.length ca).ownBlock≠some k->W.heap[k]?=w.heap[k]?:=fun k hk h1 h2=>ht.block k hk (by
  simp only[Yw,Option.mem_toList,not_or];exact⟨h1,h2⟩)
 have Hc:(Value.slice Aa x.arms.length ca).ownBlock≠some b:=oQ Ao h.row aF;obtain⟨cs,h4,h5⟩:=h.op;refine⟨⟨(Aq b h.lt (Ne.symm Dg) Hc).trans h.row,h.rd.up ht.ups (ht.up hS),h.len,h.pre,h.fin,h.tks,jM h.oa fun k hk=>Aq k (h.lv k (h.la k hk)) (fun e=>Jx (e ▸ hk)) (fun e=>aAf h.oa Ao aF hk e),⟨cs,jM h4 fun k hk=>Aq k (h.lv k (h.lp k hk)) (fun e=>hv (e ▸ hk)) (fun e=>aAf h4 Ao aF hk e),sB ht.ups (ht.up hS) h5⟩,Zi _ h.lb,fun k hk=>Zi _ (h.la k hk),fun k hk=>Zi _ (h.lp k hk),fun k hk=>?_⟩,⟨(aS0 x a).2.trans hx,some ⟨g,0,none⟩,cap,?_,?_,?_,fun k hk=>?_⟩,ht,Ha,Hb⟩
 . rw[Au];exact bC8
 . unfold aX;rw[<-hW,Xi _ _ _ _ _ _ _ Ae,Xh _ _ _ _ _ _ Ae,<-Fs,bMj x a _ _ _ _ hx]
 . rw[(aS0 x a).1];simp only[Yo,Yq,Zg,Zt,Xl,List.map_nil,Nat.zero_add];rw[Fs];exact jM Bh fun k hk=>Dd k (by rw[<-Fs]at hk;simp[Value.ownBlock]at hk;omega)
 . rfl
 . simp only[Yw,Yl,or_false]at hk;rcases hk with rfl|rfl;· exact Zi _ (hL k Zc)
   . exact aC6
theorem aZk(h:aP w b A n c all r va st vp ps sz L){eb:Nat}{x:Ex}(k:vP L w eb x ft)(hv:vp.ownBlock≠some eb):∀k∈ft,k≠b/\va.ownBlock≠some k/\vp.ownBlock≠some k/\k<w.heap.size:=by
 obtain⟨hx,Aa,ca,h1,h2,h3,h4⟩:=k;obtain⟨s1,s2⟩:=aNf h h1;obtain⟨cs,h5,h6⟩:=h.op;intro k hk;rw[h3]at hk;rcases Yw.1 hk with rfl|hk;· exact⟨s1,s2,hv,h1.lt⟩
 . rw[Option.mem_toList]at hk;exact⟨fun e=>oQ h2 h.row aF (e ▸ hk),fun e=>aAf h.oa h2 aF e hk,fun e=>aAf h5 h2 aF e hk,(h2.lt k hk).2⟩
theorem aIu:fQ [45,62]:=.inr aF
theorem aZl(x:Ex)(f eb p0 p1 p2 p3 p4:Nat)(vm:Value)(h:aP w b A n c all r va st vp ps sz L)(Av:st.length<=900000)(Hc:vP L w eb x ft)(Ng:x.arms.length<=1000000)(hv:vp.ownBlock≠some eb)(h0:Fz L w p0 (rp b))(h1:Fz L w p1 (aN 319 #[rp p0,rp p3,rp p4]))(h2:Fz L w p2 vm)(Ha:oR L w b eb f vm)(h3:Fz L w p3 (rp eb))(h4:Fz L w p4 (aN 318 #[rp p0,rp p1,rp p2])):
 Calls Tryz.prog 319 #[rp p0,rp p3,rp p4] w (bF w b A n c all va st vp L ft (rC x f ps sz r)):=by
 have Nh:=eX;obtain⟨i0,hi,Cm,Co,Cr⟩:=bW9;have HM:=Hd h;have HZ:=Hd (bH h0 (bH h3 (bH h4 (jA L w))));have Mp:=Hd (show aFo L w b eb f (aN 318 #[rp p0,rp p1,rp p2])from⟨p0,p1,p2,p3,p4,vm,rfl,h0,h1,h2,Ha,h3,h4⟩);obtain⟨Hv,Aa,ca,Ad,Ao,Jk,Gn⟩:=Hc;rw[Jk]at Gn;obtain⟨Dg,Jx⟩:=aNf h Ad;have Fs:(Value.slice Aa x.arms.length ca).ownBlock≠some b:=oQ Ao h.row aF;have Lx:(Value.slice Aa x.arms.length ca).ownBlock≠some eb:=oQ Ao Ad aF;have Mj:(Value.slice Aa x.arms.length ca).ownBlock≠some p0:=fun e=>HZ.o.ne 0 p0 _ rfl (Gn p0 yW) rfl;have Mv:(Value.slice Aa x.arms.length ca).ownBlock≠some p3:=fun e=>HZ.o.ne 1 p3 _ rfl (Gn p3 yW) rfl;have Mx:p0≠eb:=HZ.o.ne 0 p0 _ rfl (Gn eb aC);have Mo:p3≠eb:=HZ.o.ne 1 p3 _ rfl (Gn eb aC);have HR:=Hd Ad;have HO:=Hd Ao;have c0:=h0.get;have Cg:=Hd (show Calls Tryz.prog 261 #[rp b,.string ⟨#[40]⟩] w (cW w b A n c all va vp sz (aR [40] r) fun _ e=>e=.returned (.tuple #[]))from pJ ⟨#[40]⟩ pK h.q);clear h h0 h1 h2 h3 h4 Ha Ad Ao;show Calls _ _ _ _ (bF w b A n c all va st vp L ft ((aR [40] r).bind fun _ r=>aGa x f ps sz r));cases Bs:aR [40] r with
 |bad q=>
  have HN:=Hd (cW.bad_ Cg.o Bs);clear Cg Bs;go_in
  go_wp2_with fail;refine HN.o.mono ?_;exact bCh
 |ok u q1=>
  have HN:=Hd (cW.ok_ Cg.o Bs);clear Cg Bs;show Calls _ _ _ _ (bF w b A n c all va st vp L ft ((fO q1).bind fun a r=>(aR [45,62] r).bind fun _ r=>.ok ([.m .arrow,.sign [41],.more (rZ x a) f],ps,sz) r));cases ha:fO q1 with
  |bad q=>
   go_in
   go_wp2_with fail;refine HN.o.mono ?_;rintro e w1 ⟨rfl,Bz,Ab⟩;have Hg:=Hd fun w2 (hb:Below w1.heap.size w1 w2)=>cW.bad_ (aDg (Bz.below hb)) ha;obtain⟨Bt,Bf⟩:=HM.o.move Bz Ab;have Ac:=Hd Ab;have Bn:=Hd (HZ.o.up Bf (cV HM.o));have d0:=Bn.o.at_ 0 p0 _ rfl;have d3:=Bn.o.at_ 1 p3 _ rfl;have v4:=(HR.o.stay Bf aDt).cells.2.2.2.2.1;clear Bz Ab Bt Bf c0 HN HZ ha;go_upto_region 1 with(fail);refine wp_region_held_drew (S:=(fun W=>W.cell? ⟨p0,0,none⟩=some (rp b)/\W.cell? ⟨p3,0,none⟩=some (rp eb))) aE ?_ (fun hHeld=>?_);· exact⟨d0,d3⟩
   refine dM (i:=0) (v:=rp eb) hHeld ?_
   (try simp only[Act.put,Yd,Ye,Yf])
   refine dM (i:=1) (v:=rp eb) hHeld ?_
   (try simp only[Act.put,Yd,Ye,Yf])
   refine dM (i:=2) (v:=rp eb) hHeld ?_
   (try simp only[Act.put,Yd,Ye,Yf])
   refine dM (i:=3) (v:=.pointer (some ⟨eb,4,none⟩)) hHeld ?_
   (try simp only[Act.put,Yd,Ye,Yf])
   refine dM (i:=5) (v:=rp b) hHeld ?_
   (try simp only[Act.put,Yd,Ye,Yf])
   refine Xj (rs:=[4,6]) aE aC ?_;refine Zn bC (fun K hK=>?_) ?_
   . go_simp;refine hK.out _ _ ?_ (fun hHeld=>?_);· exact⟨d0,d3⟩
     clear hK K
     (try simp only[Act.put,Yd,Ye,Yf])
     refine Xj (rs:=[6]) aE aC ?_;exact bHn
   exact bHn
  |ok a q2=>
   show Calls _ _ _ _ (bF w b A n c all va st vp L ft ((aR [45,62] q2).bind fun _ r=>.ok ([.m .arrow,.sign [41],.more (rZ x a) f],ps,sz) r));go_in
   go_wp2_with fail;refine HN.o.mono ?_;rintro e w1 ⟨rfl,Bz,Ab⟩;have Hg:=Hd fun w2 (hb:Below w1.heap.size w1 w2)=>cW.ok_ (aDg (Bz.below hb)) ha;obtain⟨Bt,Bf⟩:=HM.o.move Bz Ab;have Bc:=Hd Bt;have Hb:=Hd Bf;have Bn:=Hd (HZ.o.up Bf (cV HM.o));have Bi:=Hd (HR.o.stay Bf aDt);have Ct:=Hd (jM HO.o fun k hk=>Bf.block k (HO.o.lt k hk).2 (fun e=>by rw[Yp.1 e]at hk;exact Fs hk));have d0:=Bn.o.at_ 0 p0 _ rfl;have d3:=Bn.o.at_ 1 p3 _ rfl;have v4:=Bi.o.cells.2.2.2.2.1;clear Bz Ab Bt Bf c0 HN HZ ha HR HO;go_upto_region 1 with(fail);refine wp_region_held_drew (S:=(fun W=>W.cell? ⟨p0,0,none⟩=some (rp b)/\W.cell? ⟨p3,0,none⟩=some (rp eb))) aE ?_ (fun hHeld=>?_);· exact⟨d0,d3⟩
   refine dM (i:=0) (v:=rp eb) hHeld ?_
   (try simp only[Act.put,Yd,Ye,Yf])
   refine dM (i:=1) (v:=rp eb) hHeld ?_
   (try simp only[Act.put,Yd,Ye,Yf])
   refine dM (i:=2) (v:=rp eb) hHeld ?_
   (try simp only[Act.put,Yd,Ye,Yf])
   refine dM (i:=3) (v:=.pointer (some ⟨eb,4,none⟩)) hHeld ?_
   (try simp only[Act.put,Yd,Ye,Yf])
   refine dM (i:=5) (v:=rp b) hHeld ?_
   (try simp only[Act.put,Yd,Ye,Yf])
   refine Xj (rs:=[4,6]) aE aC ?_;refine Zn bC (fun K hK=>?_) ?_
   . go_simp;refine hK.out _ _ ?_ (fun hHeld=>?_);· exact⟨d0,d3⟩
     clear hK K
     (try simp only[Act.put,Yd,Ye,Yf])
     refine Xj (rs:=[6]) aE aC ?_;refine Zn bC (fun K hK=>?_) ?_
     . go_simp;go_at_call 260
       refine(Hg.o _ (eP (Yg _ _) 1)).mono ?_;rintro e w2 ⟨rfl,Ci,Ag⟩;obtain⟨Aq,Ae⟩:=Bc.o.move Ci (aMp Ag);have Cf:=Hd Aq;have Da:=Hd (Bn.o.up Ae (cV Bc.o));have Cn:=Hd (Bi.o.stay Ae aDt);have Je:=Hd fun w' (hb:Below w2.heap.size w2 w')=>rM (jM Ct.o fun k hk=>Ae.block k (Ct.o.lt k hk).2 (fun e=>by rw[Yp.1 e]at hk;exact Fs hk)) hb;have e0:=Da.o.at_ 0 p0 _ rfl;have e3:=Da.o.at_ 1 p3 _ rfl;have v4:=Cn.o.cells.2.2.2.2.1;have l0:=Yi _ _ e0;have l3:=Yi _ _ e3;have le:=Cn.o.lt;have Hz:=Hd (Hb.o.trans Ae HM.o.lv (fun k hk=>.inl hk));clear Ci Ag Aq Ae;exact fK1
     exact Zo
   refine Zn bC (fun K hK=>?_) ?_
   . go_simp;go_at_call 260
     refine(Hg.o _ (eP (Yg _ _) 1)).mono ?_;rintro e w2 ⟨rfl,Ci,Ag⟩;obtain⟨Aq,Ae⟩:=Bc.o.move Ci (aMp Ag);have Cf:=Hd Aq;have Da:=Hd (Bn.o.up Ae (cV Bc.o));have Cn:=Hd (Bi.o.stay Ae aDt);have Je:=Hd fun w' (hb:Below w2.heap.size w2 w')=>rM (jM Ct.o fun k hk=>Ae.block k (Ct.o.lt k hk).2 (fun e=>by rw[Yp.1 e]at hk;exact Fs hk)) hb;have e0:=Da.o.at_ 0 p0 _ rfl;have e3:=Da.o.at_ 1 p3 _ rfl;have v4:=Cn.o.cells.2.2.2.2.1;have l0:=Yi _ _ e0;have l3:=Yi _ _ e3;have le:=Cn.o.lt;have Hz:=Hd (Hb.o.trans Ae HM.o.lv (fun k hk=>.inl hk));clear Ci Ag Aq Ae;refine hK.out _ _ ?_ (fun hHeld=>?_);· exact⟨e0,e3⟩
     clear hK K
     (try simp only[Act.put,Yd,Ye,Yf])
     refine Xj (rs:=[4,7]) aE aC ?_;refine Zn bC (fun K hK=>?_) ?_
     . go_simp;exact fK1
     refine Zn bC (fun K hK=>?_) ?_
     . go_simp;refine hK.out _ _ ?_ (fun hHeld=>?_);· exact bDq
       clear hK K
       (try simp only[Act.put,Yd,Ye,Yf])
       refine Xj (rs:=[4]) aE aC ?_;refine Zn bC (fun K hK=>?_) ?_
       . go_simp;refine hK.out _ _ ?_ (fun hHeld=>?_);· exact bDq
         clear hK K
         (try simp only[Act.put,Yd,Ye,Yf])
         refine Xj (rs:=[8]) aE aC ?_;refine Zn bC (fun K hK=>?_) ?_
         . refine step_append_lies _ bC _ _ _ bC 0 9 i0 (.string ⟨#[]⟩) 1 16 Tryz.underlying62 hi Co Cm Cr rfl aF (.slice Aa x.arms.length ca) x.arms.length (x.arms.map Value.string) bC (Je.o _ mF) ⟨w2.heap.size,0,none⟩ 1 1 [.string (aB a)] bC rfl (cell_one_new _ _ _) (fun u hu=>by rw[Yp.1 hu];rfl) aA fZ aA (Ys _) _ rfl ?_;intro g4 c4 w4 Bh As Cw Dt;have Ga:=Hd Bh;have Ks:=Hd As;have Hu:=Hd Cw;have Fy:∀k,k<w2.heap.size->(Value.slice Aa x.arms.length ca).ownBlock≠some k->w4.heap[k]?=w2.heap[k]?:=fun k hk hn=>(As.block k cP (fun e=>hn e.symm)).trans (heap_alloc_old w2 _ hk);have y0:=(Yn (Fy p0 l0 Mj)).trans e0;have y3:=(Yn (Fy p3 l3 Mv)).trans e3;have y4:=(Yn (Fy eb le Lx)).trans v4;have Md:w4.frozen? ⟨eb,4,none⟩=false:=(World.frozen?_of_block (Fy eb le Lx)).trans (Cn.o.fz 4);clear Bh As Cw Fy;refine hK.out _ _ ?_ (fun hHeld=>?_);· exact⟨y0,y3⟩
           clear hK K
           (try simp only[Act.put,Yd,Ye,Yf])
           refine dM (i:=9) (v:=rp eb) hHeld ?_
           (try simp only[Act.put,Yd,Ye,Yf])
           refine dM (i:=10) (v:=.pointer (some ⟨eb,4,none⟩)) hHeld ?_
           (try simp only[Act.put,Yd,Ye,Yf])
           refine Xj (rs:=[11]) aE aC ?_;refine Zn bC (fun K hK=>?_) ?_
           . go_simp;refine hK.out _ _ ?_ (fun hHeld=>?_);· exact⟨(iC _ _ Mx).trans y0,(iC _ _ Mo).trans y3⟩
             clear hK K
             (try simp only[Act.put,Yd,Ye,Yf])
             refine wpAnyH_done aE ?_ _;go_upto_region 2 with(fail);have Bh:=Ga.o;obtain⟨Hr,Ls,Ez,Kc,Iw⟩:=aXl (a:=a) Cf.o Hv Cn.o (Je.o w2 (Yg _ _)) Gn hv mF Ks.o Bh Hu.o Dt;have Ea:=Hd Hr;have He:=Hd Ls;have Me:=Hd Iw;have Ht:=Hd ((Hz.o.mono (eZ (va:=va) (vp:=vp) (ft:=ft))).trans Ez HM.o.lv (fun k hk=>.inl (aCc k (by rw[Jk];exact hk))));have Mc:g4∈ft\/w.heap.size<=g4:=Kc.elim (fun h=>.inl (by rw[Jk];exact Zi _ h)) (fun h=>.inr (Yr Hz.o.size h));have Ja:∀k∈eb::(Value.slice Aa x.arms.length ca).ownBlock.toList,k∈L:=Gn;have Dz:=Hd (Da.o.up Ez Ja);have Jd:=Hd ((Mp.o.up Hz.o (cV HM.o)).up Ez Ja);have Jc:=Hd (aZk Ea.o He.o hv);clear Hr Ls Ez Kc Iw Ja e0 e3 v4 y0 y3 y4 Md l0 l3 le Ga Ks Hu Cn Je Cf Da Bh;generalize w4.setCell _ _=w5 at *;have d0:=Dz.o.at_ 0 p0 _ rfl;cases Gu:aR [45,62] q2 with
             |bad q=>
              have Jl:=Hd (cW.bad_ (show Calls Tryz.prog 261 #[rp b,.string ⟨#[45,62]⟩] w5 (cW w5 b A n c all va vp sz (aR [45,62] q2) fun _ e=>e=.returned (.tuple #[]))from pJ ⟨#[45,62]⟩ aIu Ea.o.q) Gu);have Hx:=Hd Gu;clear Gu;go_wp2_with fail;refine Jl.o.mono ?_;rintro e w6 ⟨rfl,Gp,Bo⟩;obtain⟨Ft,Ds⟩:=Ea.o.move Gp Bo;have Kt:=Hd Gp;have Hl:=Hd (Ht.o.trans Ds HM.o.lv (fun k hk=>.inl (eZ k hk)));clear Gp Bo Ft Ds;go_wp2_with fail;refine⟨rfl,?_⟩;rw[Hx.o];exact⟨rfl,⟨_,Hl.o⟩,va,vp,sz,Kt.o.row⟩
             |ok u5 q3=>
              have Jl:=Hd (cW.ok_ (show Calls Tryz.prog 261 #[rp b,.string ⟨#[45,62]⟩] w5 (cW w5 b A n c all va vp sz (aR [45,62] q2) fun _ e=>e=.returned (.tuple #[]))from pJ ⟨#[45,62]⟩ aIu Ea.o.q) Gu);have Hx:=Hd Gu;clear Gu;go_wp2_with fail;refine Jl.o.mono ?_;rintro e w6 ⟨rfl,Gp,Bo⟩;obtain⟨Ft,Ds⟩:=Ea.o.move Gp Bo;have Dn:=Hd Ft;have Hl:=Hd (Ht.o.trans Ds HM.o.lv (fun k hk=>.inl (eZ k hk)));have Ka:∀k∈[eb,g4],k∉[b]:=fun k hk hb=>(Jc.o k hk).1 (Yp.1 hb);have Mh:=Hd (He.o.up Ds Ka);have Kn:=Hd (Jd.o.up Ds (cV Ea.o));have Ie:=Hd (Dz.o.up Ds (cV Ea.o));have d0:=Ie.o.at_ 0 p0 _ rfl;have d1:=Ie.o.at_ 2 p4 _ rfl;have l0:=Yi _ _ d0;have l1:=Yi _ _ d1;have Is:w5.heap.size<=w6.heap.size:=Ds.size;clear Gp Bo Ft Ds Dz He Jd Ht;go_upto_region 3 with(fail);go_region_held3 (fun W=>W.cell? ⟨p0,0,none⟩=some (rp b)/\W.cell? ⟨p4,0,none⟩=some (aN 318 #[rp p0,rp p1,rp p2])) (first|exact⟨d0,d1⟩|exact⟨e0,e1⟩|exact⟨(Yj _ _ _ m0).trans e0,(Yj _ _ _ m1).trans e1⟩|exact⟨f0,f1⟩)
               ((first
                 |(go_at_call 312;refine(uO (b:=b) ⟨#[41]⟩ _).mono ?_;rintro e Ws ⟨s0,s1,rfl,Cv,Be,Ca,Ce⟩;have Jf:Hid (Below w6.heap.size w6 Ws):=Hd (by first|exact Cv|exact aG3 (m:=1) Cv);have Lp:Hid (w6.heap.size<=s0/\w6.heap.size<=s1):=Hd Be;have Kv:=Hd Ca;have Gs:=Hd Ce;have Ku:=Hd (Ie.o.up (Tn.of_below (S:=[]) Jf.o) bS);have e0:=Ku.o.at_ 0 p0 _ rfl;have e1:=Ku.o.at_ 2 p4 _ rfl;have m0:=Yi _ _ e0;have m1:=Yi _ _ e1;clear Cv Be Ca Ce)
                 |(go_at_call 246;refine(kQ [bA b .arrow,aN 317 #[rp s0,rp s1],aN 318 #[rp p0,rp p1,rp p2]] 1 aC (Dn.o.below Jf.o) aA (cJ (cJ (cJ iB)))).mono ?_;rintro e Wb ⟨rfl,hx⟩;have HX:=Hd hx;obtain⟨Kw,L3,Er,Ec,Ib⟩:=hx;have Hq:=Hd ((Ku.o.up (gI _) bS).up Ec (mJ (Dn.o.below Jf.o)));have f0:=Hq.o.at_ 0 p0 _ rfl;have f1:=Hq.o.at_ 2 p4 _ rfl;clear Er Ec Ib)))
              all_goals
               go_wp2_with fail;go_end0
               have Cc:=(Tn.of_below (S:=[]) (L:=g4::L) Jf.o).trans (gI (L:=g4::L) (w:=Ws) (.cells #[bA b .arrow,aN 317 #[rp s0,rp s1],aN 318 #[rp p0,rp p1,rp p2]] 1)) Dn.o.lv (fun k hk=>absurd hk Yl);have Dp:∀s,w6.heap.size<=s->s∉g4::L:=fun s hs hk=>by have:=Dn.o.lv s hk;omega
               have hcs:∀s v,Ws.cell? ⟨s,0,none⟩=some v->w6.heap.size<=s->Fz (g4::L) (Ws.alloc (.cells #[bA b .arrow,aN 317 #[rp s0,rp s1],aN 318 #[rp p0,rp p1,rp p2]] 1)) s v:=fun s v hv hs=>Fz.new ((Yj _ _ _ (Yi _ _ hv)).trans hv) (Dp s hs);rw[Hx.o];refine zQ (new:=[.m .arrow,.sign [41],.more (rZ x a) f]) (vt:=[bA b .arrow,aN 317 #[rp s0,rp s1],aN 318 #[rp p0,rp p1,rp p2]]) (fts:=[eb,g4]) HM.o (Hl.o.trans Cc HM.o.lv (fun k hk=>absurd hk Yl)) ((Dn.o.below Jf.o).alloc _) (dQ.refl _ _) ?_ ?_ (fun k hk=>?_) (fun k hk=>?_) ⟨rfl,HX.o⟩;· exact⟨[],[eb,g4],rfl,⟨rfl,rfl⟩,[],[eb,g4],rfl,⟨rfl,aCv,s0,s1,rfl,hcs _ _ Kv.o Lp.o.1,hcs _ _ Gs.o Lp.o.2⟩,[eb,g4],[],rfl,⟨eb,Mh.o.up Cc (fun k hk=>Yl),Kn.o.up Cc bS⟩,rfl⟩
               . simp[Ne.symm Me.o]
               . simp only[Yw,Yl,or_false]at hk;rcases hk with rfl|rfl;· exact .inl (by rw[Jk];exact Zc)
                 . exact Mc
               . obtain⟨t1,t2,t3,t4⟩:=Jc.o k hk;exact⟨t1,t2,t3,Yt t4 (Yr Is Cc.size)⟩
           exact Zo
         exact Zo
       exact Zo
     exact Zo
   exact Zo
end
end
section
open Go.RowKit Go.Sort
section
variable {w w1 w2 w':World}{b:Nat}{A:OA}{n c:Nat}{all r r' r2:List Tk}{va va1 vp:Value}{st:LV}{ps:List Ex}{sz:Nat}{L L1 L2 S ft:LN}
theorem aE0{o:jK}{e:Ending}(h:bF w b A n c all va st vp L ft o e w'):e=.returned (.tuple #[])\/e=zB:=by
 cases o with
 |ok z r3=>exact .inl h.1
 |bad q=>exact .inr h.1
theorem bXa(h:aP w b A n c all r va st vp ps sz L){eb:Nat}{x:Ex}(k:vP L w eb x ft)(Ha:x.arms.length<=1000000):
 ∃L2,aP w b A n c all r va st vp ps sz L2/\jL L2 w eb x/\Tn ft L L2 w w/\eb∈ft/\∀j∈ft,j∈L:=by
 obtain⟨hx,Aa,ca,h1,h2,h3,h4⟩:=k;have Bs:(Value.slice Aa x.arms.length ca).ownBlock≠some b:=oQ h2 h.row aF;have Fs:(Value.slice Aa x.arms.length ca).ownBlock≠some eb:=oQ h2 h1 aF;obtain⟨cs,h5,h6⟩:=h.op;have Ae:∀j,j∈L.filter (fun j=>decide ((Value.slice Aa x.arms.length ca).ownBlock≠some j))↔j∈L/\(Value.slice Aa x.arms.length ca).ownBlock≠some j:=fun j=>by simp
 have ht:Tn ft L (L.filter fun j=>decide ((Value.slice Aa x.arms.length ca).ownBlock≠some j)) w w:=
  ⟨rfl,rfl,rfl,Yh _,fun _ _ _=>rfl,fun j hj=>.inl ((Ae j).1 hj).1,fun j hj hn=>(Ae j).2 ⟨hj,fun e=>hn (by rw[h3];simp[e])⟩⟩
 have hS:∀j∈ft,j∈L:=h4;refine⟨L.filter fun j=>decide ((Value.slice Aa x.arms.length ca).ownBlock≠some j),⟨h.row,h.rd.up ht.ups (ht.up hS),h.len,h.pre,h.fin,h.tks,h.oa,⟨cs,h5,sB ht.ups (ht.up hS) h6⟩,(Ae b).2 ⟨h.lb,Bs⟩,fun j hj=>(Ae j).2 ⟨h.la j hj,fun e=>aAf h.oa h2 aF hj e⟩,fun j hj=>(Ae j).2 ⟨h.lp j hj,fun e=>aAf h5 h2 aF hj e⟩,fun j hj=>h.lv j ((Ae j).1 hj).1⟩,⟨(Ae eb).2 ⟨h4 eb (by rw[h3];simp),Fs⟩,hx,Aa,ca,h1,?_⟩,ht,by rw[h3];simp,h4⟩;refine⟨rfl,by omega,fun hn=>?_⟩;rcases h2.2 with⟨h7,h8⟩|⟨g,cap,cur,h7,hg,hh,h8,h9,h10,h11⟩;· omega
 . injection h7 with h7 Cy Aq;subst h7 Aq;have Ct:g∉L.filter (fun j=>decide ((Value.slice (some ⟨g,0,none⟩) x.arms.length ca).ownBlock≠some j)):=fun hk=>((Ae g).1 hk).2 rfl;refine⟨g,0,rfl,by rw[xM];exact(Ym.1 hh).1,fun i hi=>?_⟩;rw[rR (p:=⟨g,0+i,none⟩) Ct,Nat.zero_add,h2.cellAt i aA];simp[Yk hi]
theorem bTu(x:Ex)(f eb p0 p1 p2 p3 p4 q0 q1 q2:Nat)(h:aP w b A n c all r va st vp ps sz L)(Av:st.length<=900000)(hf:f<=ps.length)(Be:ps.length<=1000000)(Au:sz<=1000000)(Bs:vP L w eb x ft)(Aq:x.arms.length<=1000000)(hv:vp.ownBlock≠some eb)(h0:Fz L w p0 (rp b))(h1:Fz L w p1 (aN 319 #[rp p0,rp p3,rp p4]))(h2:Fz L w p2 (aN 273 #[rp q0,rp q1,rp q2]))(h3:Fz L w p3 (rp eb))(h4:Fz L w p4 (aN 318 #[rp p0,rp p1,rp p2]))(k0:Fz L w q0 (rp b))(k1:Fz L w q1 (rp eb))(k2:Fz L w q2 (.int .i64 (f:Int))):
 Calls Tryz.prog 318 #[rp p0,rp p1,rp p2] w (bF w b A n c all va st vp L ft (dG (.more x f) ps sz r)):=by
 have Ng:=eX;have HM:=Hd h;have HZ:=Hd (bH h0 (bH h1 (bH h2 (bH h3 (bH h4 (bH k0 (bH k1 (bH k2 (jA L w)))))))));have HA:=Hd Bs;have HV:=Hd hv;have HI:=Hd (aA8 ⟨#[40]⟩ pK h.q);rw[show(⟨#[40]⟩:BA).data.toList=[40]from rfl]at HI;have c0:=h0.get;clear h h0 h1 h2 h3 h4 k0 k1 k2 Bs hv;show Calls _ _ _ _ (bF w b A n c all va st vp L ft (if aG [40] r=true then rC x f ps sz r else jR x f ps sz r));cases hi:aG [40] r with
 |true=>
  rw[if_pos rfl];rw[hi]at HI;obtain⟨u0,hn⟩:∃r1,aR [40] r=.ok () r1:=⟨r.tail,by simp[aR,hi]⟩;clear hi;go_in
  go_wp2_with fail;refine HI.o.mono ?_;rintro e w1 ⟨rfl,Ab⟩;have Bc:=Hd (HM.o.below Ab);have Bf:Tn [] L L w w1:=Tn.of_below Ab;have Bn:=Hd (HZ.o.up Bf bS);have Hb:=Hd (HA.o.up Bf (fun k _=>Yl));have Hc:=Hd Bf;have d1:=Bn.o.at_ 1 p1 _ rfl;clear Ab Bf c0;go_wp2_with fail;refine(aZl x f eb p0 p1 p2 p3 p4 (aN 273 #[rp q0,rp q1,rp q2]) Bc.o Av Hb.o Aq HV.o (Bn.o (p0,rp b) aC) (Bn.o (p1,aN 319 #[rp p0,rp p3,rp p4]) aC) (Bn.o (p2,aN 273 #[rp q0,rp q1,rp q2]) aC) ⟨q0,q1,q2,rfl,Bn.o (q0,rp b) aC,Bn.o (q1,rp eb) aC,Bn.o (q2,.int .i64 (f:Int)) aC⟩ (Bn.o (p3,rp eb) aC) (Bn.o (p4,aN 318 #[rp p0,rp p1,rp p2]) aC)).mono ?_;intro e w3 hx;have HX:=Hd (kJ (ft:=ft) HM.o (Hc.o.mono (fun k hk=>absurd hk Yl)) (fun k hk=>.inl hk) hx);clear hx;exact bCt
 |false=>
  rw[if_neg aC];rw[hi]at HI;clear hi;go_in
  go_wp2_with fail;refine HI.o.mono ?_;rintro e w1 ⟨rfl,Ab⟩;have Bc:=Hd (HM.o.below Ab);have Bf:Tn [] L L w w1:=Tn.of_below Ab;have Ae:=HZ.o.up Bf bS;obtain⟨L2,Fs,Ha,Aa,Jx,Ct⟩:=bXa Bc.o (HA.o.up Bf (fun k _=>Yl)) Aq;have Da:=Hd (Ae.up Aa Ct);have Cf:=Hd Fs;have Fm:=Hd Ha;have De:=Hd ((Bf.mono (S1:=cU b va vp ft) (fun k hk=>absurd hk Yl)).trans Aa HM.o.lv (fun k hk=>.inl (aCc k hk)));have d2:=Ae.at_ 2 p2 _ rfl;clear Ab Bf c0 Ae Fs Ha Aa Ct;go_wp2_with fail;refine(vX x f eb q0 q1 q2 Cf.o hf Be Au Fm.o HV.o (Da.o (q0,rp b) aC) (Da.o (q1,rp eb) aC) (Da.o (q2,.int .i64 (f:Int)) aC)).mono ?_;intro e w3 hx;have HX:=Hd (kJ (ft:=ft) HM.o De.o (fun k hk=>.inl (by rw[Yp.1 hk];exact Jx)) hx);obtain rfl:=xG hx;clear hx;exact aF3
end
end
section
open Go.RowKit Go.Sort
section
variable {w w1 w2 w':World}{b:Nat}{A:OA}{n c:Nat}{all r r' r2:List Tk}{va va1 vp:Value}{st:LV}{ps:List Ex}{sz:Nat}{L L1 L2 S ft:LN}
theorem bXb(h:aP w b A n c all r va st vp ps sz L)(Av:st.length<=900000)(Be:ps.length<=1000000):
 Calls Tryz.prog 313 #[rp b] w (bF w b A n c all va st vp L [] (aAn ps sz r)):=by
 have Nn:=eX;have HM:=Hd h;have Eb:=Hd fun w1 (hb:Below w.heap.size w w1)=>wI (h.q.below hb);clear h;show Calls _ _ _ _ (bF w b A n c all va st vp L [] ((bT r).bind fun s r=>rC (.mk 12 0 (aB s) 0 [] []) ps.length ps sz r));cases hn:bT r with
 |bad q=>
  go_in
  go_wp2_with fail;refine(cW.bad_ (Eb.o _ ((Yg _ _).alloc (Yh _) _)) hn).mono ?_;rintro e w1 ⟨rfl,Bz,Ab⟩;have Iz:=Hd Bz;have Ac:=Hd Ab;clear Bz Ab;go_wp2_with fail;refine⟨rfl,zW HM.o Iz.o (eD (iQ ((Yg _ _).alloc (Yh _) _)) Ac.o)⟩
 |ok s q=>
  have Ng:=Hd fun w1 (hb:Below w.heap.size w w1)=>cW.ok_ (Eb.o w1 hb) hn;show Calls _ _ _ _ (bF w b A n c all va st vp L [] (rC (.mk 12 0 (aB s) 0 [] []) ps.length ps sz q));clear Eb hn;generalize aB s=ss at *;go_in
  go_wp2_with fail;refine(Ng.o _ ((Yg _ _).alloc (Yh _) _)).mono ?_;rintro e w1 ⟨rfl,Bz,Ab⟩;have Nl:=Hd (show(w.alloc (.cells #[rp b] 254)).cell? ⟨w.heap.size,0,none⟩=some (rp b)by simp);obtain⟨Bt,Bf⟩:=(HM.o.alloc (.cells #[rp b] 254)).move Bz Ab;have Bc:=Hd Bt;have Nh:=Hd ((gI (.cells #[rp b] 254)).mono (S1:=[b]) (fun k hk=>absurd hk Yl) |>.trans Bf HM.o.lv (fun k hk=>.inl hk));have Bn:=Hd ((bH (Fz.new Nl.o (lT HM.o.lv 0)) (jA L (w.alloc (.cells #[rp b] 254)))).up Bf (cV HM.o));have d0:=Bn.o.at_ 0 _ _ rfl;generalize w.heap.size=p0 at d0 Bn⊢;have l0:=Yi _ _ d0;clear Bz Ab Bt Bf;go_wp2_with fail;refine(lC (b:=b) (L:=L) 0 w1.heap.size ((Bc.o.alloc _).alloc _) (Ys _) Be).mono ?_;rintro e W3 ⟨q0,q1,q2,rfl,Aq,Ni,Ca,Ce,Jx⟩;have hN:=news (w:=w1) (l:=[(aJ (Ex.mk 12 0 ss 0 [] []) none 0 none 0,79),(#[rp w1.heap.size],197)]) rfl;have Aa:=Hd (qC (x:=Ex.mk 12 0 ss 0 [] []) (f:=ps.length) Bc.o rfl rfl hN.below (Yh _) (hN.at_ 0 _ rfl) Aq Ni Ca Ce Jx (Yg _ _));have Fs:=Hd (show W3.cell? ⟨w1.heap.size+1,0,none⟩=some (rp w1.heap.size)from(Aq.cell aC).trans (hN.cell 1 0 _ _ rfl rfl))
  have Hc:=Hd (show w1.heap.size+1∉w1.heap.size::L from fun hk=>by
   rcases Yw.1 hk with hk|hk;· omega
   . have:=Bc.o.lv _ hk;omega)
  have Nk:=Hd (bH (Fz.new Fs.o Hc.o) (Bn.o.up Aa.o.2.1 bS));have Ji:=Hd (show w.heap.size<=w1.heap.size from Nh.o.size);have No:=Aa.o.2.2.1;have Bg:=Hd (show W3.heap[w1.heap.size]?=some (.cells (aJ (Ex.mk 12 0 ss 0 [] []) none 0 none 0) 79)from(Aq.block w1.heap.size cP).trans (hN.at_ 0 _ rfl));clear Aq Ni Ca Ce Jx hN Fs Hc d0 l0 Ng;generalize Nj:w1.heap.size+1=pe at *;generalize Np:w1.heap.size=eb at *;clear Nj;go_wp2_with fail;have Ae:=news (w:=W3) (l:=[(#[aN 273 #[rp q0,rp q1,rp q2]],1),(#[aN 319 #[rp p0,rp pe,rp (W3.heap.size+2)]],1),(#[aN 318 #[rp p0,rp (W3.heap.size+1),rp W3.heap.size]],1)]) rfl;have Bs:Tn [] (eb::L) (eb::L) W3 _:=Tn.of_below Ae.below;have Ha:=Aa.o.1.below Ae.below;have Ct:=Nk.o.up Bs bS;have Dp:∀i,W3.heap.size+i∉eb::L:=lT Aa.o.1.lv;have Hb:vP (eb::L) _ eb (Ex.mk 12 0 ss 0 [] []) [eb]:=⟨rfl,none,0,(Ae.below.block eb Aa.o.2.2.2.2.1).trans Bg.o,⟨rfl,.inl ⟨rfl,rfl⟩⟩,rfl,fun k hk=>by rw[Yp.1 hk];exact Zc⟩;have Nm:vp.ownBlock≠some eb:=fun hv=>by have:=Bc.o.lv eb (Bc.o.lp eb hv);omega
  refine(aZl (Ex.mk 12 0 ss 0 [] []) ps.length eb p0 W3.heap.size.succ W3.heap.size pe (W3.heap.size+2) (aN 273 #[rp q0,rp q1,rp q2]) Ha Av Hb (Ys _) Nm (Ct (p0,rp b) aC) (Fz.new (Ae.cell 1 0 _ _ rfl rfl) (Dp 1)) (Fz.new (Ae.cell 0 0 _ _ rfl rfl) (Dp 0)) (Aa.o.2.2.2.1.up Bs bS) (Ct (pe,rp eb) aC) (Fz.new (Ae.cell 2 0 _ _ rfl rfl) (Dp 2))).mono ?_;intro e w3 hx;have HX:=Hd (kJ (ft:=[]) HM.o ((Nh.o.mono (S1:=cU b va vp []) eZ).trans ((Aa.o.2.1.trans Bs Bc.o.lv (fun k hk=>.inl hk)).mono (fun k hk=>absurd hk Yl)) HM.o.lv (fun k hk=>.inl hk)) (fun k hk=>.inr bGb) hx);clear hx Ae Bs Ha Ct Dp Hb;exact bCt
end
end
section
open Go.RowKit Go.Sort
section
variable {w w1 w2 w':World}{b:Nat}{A:OA}{n c:Nat}{all r r' r2:List Tk}{va va1 vp:Value}{st:LV}{ps:List Ex}{sz:Nat}{L L1 L2 S ft:LN}
theorem aZm:fQ oD:=.inl aF
theorem cCt(h:aP w b A n c all r va st vp ps sz L)(Av:st.length<=1000000)(Be:ps.length<=1000000):
 Calls Tryz.prog 300 #[rp b] w (bF w b A n c all va st vp L [] (gL .un ps sz r)):=by
 have Ng:=eX;have HM:=Hd h;have HP:=Hd Be
 have HO:=Hd fun w1 (hN:eG w [(#[.int .i64 1,.int .i64 2],3)] w1)=>aRm zUn w.heap.size 2 (h.q.below hN.below) cCq (fun i hi=>by
  refine(aIr (p:=⟨w.heap.size,i,none⟩) (show w.heap.size≠b from fun hk=>by have:=h.lt;omega)).trans ?_
  match i,hi with
  |0,_=>exact hN.cell 0 0 _ _ rfl rfl
  |1,_=>exact hN.cell 0 1 _ _ rfl rfl)
 show Calls _ _ _ _ (bF w b A n c all va st vp L [] (sW ps sz r));unfold sW;rw[show aDe=gY zUn from rfl];generalize Jx:cR (gY zUn) r=op at *;have HR:=Hd (show opR (gY zUn) r=if op=0 then r else r.tail from by rw[<-Jx];rfl);clear h Be Jx;cases Jw:(op !=0)with
 |true=>
  have Ei:¬op=0:=aJf;rw[HR.o,if_neg Ei]at HO;rw[if_pos Ei];clear HR Ei;go_in
  go_wp2_with fail;generalize hW:w.alloc _=W;have HN:=Hd (news (w:=w) (l:=[(#[.int .i64 1,.int .i64 2],3)]) hW);clear hW;refine(HO.o _ HN.o).mono ?_;rintro e w1 ⟨rfl,hq,hb⟩;obtain⟨Bt,Bf⟩:=(HM.o.below HN.o.below).move hq hb;have Bc:=Hd Bt;have Ae:=Hd ((Tn.of_below (S:=[b]) HN.o.below).trans Bf HM.o.lv (fun k hk=>.inl hk));clear hq hb Bt Bf;go_wp2_with fail;refine(lC (b:=b) (L:=L) 0 w1.heap.size (Bc.o.alloc _) (Ys _) HP.o).mono ?_;rintro e Wa ⟨a0,a1,a2,rfl,Aq,Ha,Ca,Ce,Ct⟩;have Aa:=Hd (qC (x:=jI 5 op) Bc.o rfl rfl ((Yg _ _).alloc (Yh _) _) (Yh _) yU Aq Ha Ca Ce Ct (Yg _ _));clear Aq Ha Ca Ce Ct;go_wp2_with fail;refine(kQ [bA b .un,aN 273 #[rp a0,rp a1,rp a2]] 1 aC Aa.o.1 Av (cJ (cJ iB))).mono ?_;rintro e Wb ⟨rfl,hx⟩;have HX:=Hd hx;clear hx;go_wp2_with fail;go_end0
  have Cc:=(gI (L:=w1.heap.size::L) (w:=Wa) (.cells #[bA b .un,aN 273 #[rp a0,rp a1,rp a2]] 1));have hE:=Aa.o.2.2.1.up Cc bS Yl;exact vT (eb:=w1.heap.size) (x:=jI 5 op) (new:=[.m .un,.made (jI 5 op) ps.length]) (vt:=[bA b .un,aN 273 #[rp a0,rp a1,rp a2]]) HM.o Bc.o Ae.o (Aa.o.1.alloc _) (Aa.o.2.1.trans Cc Bc.o.lv (fun k hk=>.inl hk)) hE Ae.o.size ⟨[],[w1.heap.size],rfl,⟨rfl,rfl⟩,[w1.heap.size],[],rfl,⟨w1.heap.size,rfl,hE,Aa.o.2.2.2.1.up Cc bS⟩,rfl⟩ ⟨rfl,HX.o⟩
 |false=>
  have Ei:op=0:=aJf;rw[HR.o,if_pos Ei]at HO;rw[if_neg (by simpa using Ei)];clear HR Ei;cases hi:aG oD r with
  |true=>
   have HT:=Hd fun w1 (hq:bM w1 b A n c all r va vp sz)=>mG ⟨#[112,114,101]⟩ aZm hq hi;clear hi;rw[if_pos rfl];go_in
   go_wp2_with fail;generalize hW:w.alloc _=W;have HN:=Hd (news (w:=w) (l:=[(#[.int .i64 1,.int .i64 2],3)]) hW);clear hW;refine(HO.o _ HN.o).mono ?_;rintro e w0 ⟨rfl,hq,hb⟩;obtain⟨Bs,Fs⟩:=(HM.o.below HN.o.below).move hq hb;have Hc:=Hd Bs;have Hb:=Hd ((Tn.of_below (S:=[b]) HN.o.below).trans Fs HM.o.lv (fun k hk=>.inl hk));have Cg:=Hd (HT.o w0 hq);clear hq hb Bs Fs;go_wp2_with fail;refine Cg.o.mono ?_;rintro e w1 ⟨rfl,hq,hb⟩;obtain⟨Bt,Bf⟩:=Hc.o.move hq hb;have Bc:=Hd Bt;have Ae:=Hd (Hb.o.trans Bf HM.o.lv (fun k hk=>.inl hk));clear hq hb Bt Bf;go_wp2_with fail;refine(lC (b:=b) (L:=L) 0 w1.heap.size (Bc.o.alloc _) (Ys _) HP.o).mono ?_;rintro e Wa ⟨a0,a1,a2,rfl,Aq,Ha,Ca,Ce,Ct⟩;have Aa:=Hd (qC (x:=dX 10) Bc.o rfl rfl ((Yg _ _).alloc (Yh _) _) (Yh _) yU Aq Ha Ca Ce Ct (Yg _ _));clear Aq Ha Ca Ce Ct;go_wp2_with fail;refine(kQ [bA b .un,aN 273 #[rp a0,rp a1,rp a2]] 1 aC Aa.o.1 Av (cJ (cJ iB))).mono ?_;rintro e Wb ⟨rfl,hx⟩;have HX:=Hd hx;clear hx;go_wp2_with fail;go_end0
   have Cc:=(gI (L:=w1.heap.size::L) (w:=Wa) (.cells #[bA b .un,aN 273 #[rp a0,rp a1,rp a2]] 1));have hE:=Aa.o.2.2.1.up Cc bS Yl;exact vT (eb:=w1.heap.size) (x:=dX 10) (new:=[.m .un,.made (dX 10) ps.length]) (vt:=[bA b .un,aN 273 #[rp a0,rp a1,rp a2]]) HM.o Bc.o Ae.o (Aa.o.1.alloc _) (Aa.o.2.1.trans Cc Bc.o.lv (fun k hk=>.inl hk)) hE Ae.o.size ⟨[],[w1.heap.size],rfl,⟨rfl,rfl⟩,[w1.heap.size],[],rfl,⟨w1.heap.size,rfl,hE,Aa.o.2.2.2.1.up Cc bS⟩,rfl⟩ ⟨rfl,HX.o⟩
  |false=>
   have HT:=Hd fun w1 (hq:bM w1 b A n c all r va vp sz)=>gO ⟨#[112,114,101]⟩ aZm hq hi;clear hi;rw[if_neg aC];go_in
   go_wp2_with fail;generalize hW:w.alloc _=W;have HN:=Hd (news (w:=w) (l:=[(#[.int .i64 1,.int .i64 2],3)]) hW);clear hW;refine(HO.o _ HN.o).mono ?_;rintro e w0 ⟨rfl,hq,hb⟩;obtain⟨Bs,Fs⟩:=(HM.o.below HN.o.below).move hq hb;have Hc:=Hd Bs;have Hb:=Hd ((Tn.of_below (S:=[b]) HN.o.below).trans Fs HM.o.lv (fun k hk=>.inl hk));have Cg:=Hd (HT.o w0 hq);clear hq hb Bs Fs;go_wp2_with fail;refine Cg.o.mono ?_;rintro e w1 ⟨rfl,hq,hb⟩;obtain⟨Bt,Bf⟩:=Hc.o.move hq hb;have Bc:=Hd Bt;have Ae:=Hd (Hb.o.trans Bf HM.o.lv (fun k hk=>.inl hk));clear hq hb Bt Bf;go_wp2_with fail;refine(kQ [bA b .post] 1 aC Bc.o Av (cJ iB)).mono ?_;rintro e Wb ⟨rfl,hx⟩;have HX:=Hd (aBu (ft:=[]) (new:=[.m .post]) (vt:=[bA b .post]) Bc.o ((Yg _ _).alloc (Yh _) _) ⟨[],[],rfl,⟨rfl,rfl⟩,rfl⟩ ⟨rfl,hx⟩);clear hx;go_wp2_with fail;go_end0
   exact kJ HM.o (Ae.o.mono eZ) (fun k hk=>absurd hk Yl) HX.o
end
end
section
open Go.RowKit Go.Sort
section
variable {w w1 w2 w':World}{b:Nat}{A:OA}{n c:Nat}{all r r' r2:List Tk}{va va1 vp:Value}{st:LV}{ps:List Ex}{sz:Nat}{L L1 L2 S ft:LN}
theorem aAp:fQ [91]:=.inr aF
theorem aXm:fQ gR:=.inl aF
theorem bPc{eb p0 p1 p2 f:Nat}{w3:World}{x:Ex}{Aa:OA}{ca:Nat}(h:aP w b A n c all r va st vp ps sz L)(hx:x.subs=[])(Ab:Below w.heap.size w w1)(Bs:w.heap.size<=eb)(Ad:w1.heap[eb]?=some (.cells (aJ x Aa ca none 0) 79))(Fs:aS (fR (eb::L) w1) Aa x.arms.length x.arms)
 (Ag:Below w1.heap.size w1 w2)(hp:w1.heap.size<=p0/\w1.heap.size<=p1/\w1.heap.size<=p2)(h0:w2.cell? ⟨p0,0,none⟩=some (rp b))(h1:w2.cell? ⟨p1,0,none⟩=some (rp eb))(h2:w2.cell? ⟨p2,0,none⟩=some (.int .i64 (f:Int)))(Ak:Below w2.heap.size w2 w3):
 aP w3 b A n c all r va st vp ps sz (eb::L)/\Tn [] L (eb::L) w w3/\jL (eb::L) w3 eb x/\oR (eb::L) w3 b eb f (aN 273 #[rp p0,rp p1,rp p2])/\eb<w3.heap.size/\Below w.heap.size w w3:=by
 have hb:Below w.heap.size w w3:=(Ab.tr Ag).trans (Ak.mono (Yr Ab.size Ag.size));have Ah:eb<w1.heap.size:=(Ym.1 Ad).1;have Ae:eb<w3.heap.size:=Yt Ah (Yr Ag.size Ak.size);have hM:=h.use hb Bs Ae
 have Dp:∀p,w1.heap.size<=p->p∉eb::L:=fun p hp hk=>by
  exact bDt
 have Aq:∀p v,w1.heap.size<=p->w2.cell? ⟨p,0,none⟩=some v->Fz (eb::L) w3 p v:=fun p v hp hv=>Fz.new ((Ak.cell (Yi _ _ hv)).trans hv) (Dp p hp);have Ct:jL (eb::L) w1 eb x:=⟨Zc,hx,Aa,ca,Ad,Fs⟩;exact⟨hM,(Tn.of_below hb).use Bs,Ct.up (Tn.of_below (S:=[]) (Ag.tr Ak)) bS Yl,⟨p0,p1,p2,rfl,Aq _ _ hp.1 h0,Aq _ _ hp.2.1 h1,Aq _ _ hp.2.2 h2⟩,Ae,hb⟩
theorem bPd(h:aP w b A n c all r va st vp ps sz L)(Av:st.length<=1000000)(Be:1<=ps.length/\ps.length<=1000000):
 Calls Tryz.prog 309 #[rp b] w (bF w b A n c all va st vp L [] (gL .behind ps sz r)):=by
 have Nu:=eX;have HM:=Hd h;have HP:=Hd Be;show Calls _ _ _ _ (bF w b A n c all va st vp L [] (qG ps sz r));unfold qG;cases hi:aG [91] r with
 |true=>
  have HT:=Hd (mG ⟨#[91]⟩ aAp h.q hi);clear h Be hi;rw[if_pos rfl];go_in
  go_wp2_with fail;refine HT.o.mono ?_;rintro e w1 ⟨rfl,hq,hb⟩;obtain⟨Bt,Bf⟩:=HM.o.move hq hb;have Bc:=Hd Bt;have Ns:=Hd Bf;clear hq hb Bt Bf;go_wp2_with fail;refine(uO (b:=b) ⟨#[93]⟩ w1).mono ?_;rintro e Aq ⟨Jx,Nh,rfl,Nm,Ep,Bs,Ng⟩;have Ae:=Hd (Bc.o.below Nm);have Ha:=Hd (Ns.o.trans (Tn.of_below (S:=[]) Nm) HM.o.lv (fun k hk=>absurd hk Yl));have Nn:=Hd (bH (Fz.new (L:=L) Bs (fun hh=>by have:=Bc.o.lv _ hh;omega)) (bH (Fz.new (L:=L) Ng (fun hh=>by have:=Bc.o.lv _ hh;omega)) (jA L Aq)));clear Nm Ep Bs Ng;go_wp2_with fail;refine(lC (b:=b) (L:=L) 1 Aq.heap.size (Ae.o.alloc _) HP.o.1 HP.o.2).mono ?_;rintro e Wa ⟨a0,a1,a2,rfl,Fs,Hc,Ca,Ce,Hb⟩;have Aa:=Hd (qC (x:=dX 15) Ae.o rfl rfl ((Yg _ _).alloc (Yh _) _) (Yh _) yU Fs Hc Ca Ce Hb (Yg _ _));have Nr:=Hd (Nn.o.up Aa.o.2.1 bS);clear Fs Hc Ca Ce Hb;go_wp2_with fail;refine(kQ [bA b .arrow,aN 317 #[rp Jx,rp Nh],aN 273 #[rp a0,rp a1,rp a2],bA b .behind] 1 aC Aa.o.1 Av (cJ (cJ (cJ (cJ iB))))).mono ?_;rintro e Wb ⟨rfl,hx⟩;have HX:=Hd hx;clear hx;go_wp2_with fail;go_end0
  have Cc:=(gI (L:=Aq.heap.size::L) (w:=Wa) (.cells #[bA b .arrow,aN 317 #[rp Jx,rp Nh],aN 273 #[rp a0,rp a1,rp a2],bA b .behind] 1));have hE:=Aa.o.2.2.1.up Cc bS Yl;have hz:=Nr.o.up Cc bS;exact vT (eb:=Aq.heap.size) (x:=dX 15) (new:=[.m .arrow,.sign [93],.made (dX 15) (ps.length-1),.m .behind]) (vt:=[bA b .arrow,aN 317 #[rp Jx,rp Nh],aN 273 #[rp a0,rp a1,rp a2],bA b .behind]) HM.o Ae.o Ha.o (Aa.o.1.alloc _) (Aa.o.2.1.trans Cc Ae.o.lv (fun k hk=>.inl hk)) hE Ha.o.size ⟨[],[Aq.heap.size],rfl,⟨rfl,rfl⟩,⟨[],[Aq.heap.size],rfl,⟨rfl,(.inr aF),Jx,Nh,rfl,hz (Jx,rp b) aC,hz (Nh,.string ⟨#[93]⟩) aC⟩,⟨[Aq.heap.size],[],rfl,⟨Aq.heap.size,rfl,hE,Aa.o.2.2.2.1.up Cc bS⟩,⟨[],[],rfl,⟨rfl,rfl⟩,rfl⟩⟩⟩⟩ ⟨rfl,HX.o⟩
 |false=>
  rw[if_neg aC];have HT:=Hd (gO ⟨#[91]⟩ aAp h.q hi);clear hi;cases hw:aG gR r with
  |false=>
   rw[if_neg aC];have De:=Hd fun w1 (hq:bM w1 b A n c all r va vp sz)=>gO ⟨#[119,104,101,110]⟩ aXm hq hw;clear h Be hw;go_in
   go_wp2_with fail;refine HT.o.mono ?_;rintro e w0 ⟨rfl,hq,hb⟩;have Ni:=Hd (De.o w0 hq);have HB:=Hd hb;clear hq hb;go_wp2_with fail;refine Ni.o.mono ?_;rintro e w1 ⟨rfl,hq,hb⟩;have HQ:=Hd hq;have Ai:=Hd (eD HB.o hb);clear hq hb;go_wp2_with fail;go_end0
   exact aMs HM.o HQ.o Ai.o
  |true=>
   rw[if_pos rfl];have De:=Hd fun w1 (hq:bM w1 b A n c all r va vp sz)=>mG ⟨#[119,104,101,110]⟩ aXm hq hw;clear h Be hw;cases Nk:dU r.tail with
   |bad q=>
    have HW:=Hd fun w1 (hq:bM w1 b A n c all r.tail va vp sz)=>cW.bad_ (aOv hq) Nk;clear Nk;show Calls _ _ _ _ (bF w b A n c all va st vp L [] (.bad q));go_in
    go_wp2_with fail;refine HT.o.mono ?_;rintro e w0 ⟨rfl,hq,hb⟩;have Ni:=Hd (De.o w0 hq);have HB:=Hd hb;clear hq hb;go_wp2_with fail;refine Ni.o.mono ?_;rintro e w1 ⟨rfl,hq,hb⟩;have Dm:=Hd (HW.o w1 hq);have Ai:=Hd (eD HB.o hb);clear hq hb;go_wp2_with fail;refine Dm.o.mono ?_;rintro e w2 ⟨rfl,hq,hb⟩;have HQ:=Hd hq;have Aj:=Hd (eD Ai.o hb);clear hq hb;go_wp2_with fail;exact⟨rfl,zW HM.o HQ.o Aj.o⟩
   |ok z q=>
    have HW:=Hd fun w1 (hq:bM w1 b A n c all r.tail va vp sz)=>cW.ok_ (aOv hq) Nk;clear Nk;show Calls _ _ _ _ (bF w b A n c all va st vp L [] (.ok ([.made (Ex.mk 11 0 (aB z.1) 0 [aB z.2] []) (ps.length-1),.m .behind],ps,sz) q));unfold aQk at HW;generalize aB z.1=Nj at *;generalize aB z.2=Ct at *;go_in
    go_wp2_with fail;refine HT.o.mono ?_;rintro e w0 ⟨rfl,hq,hb⟩;have Ni:=Hd (De.o w0 hq);have HB:=Hd hb;clear hq hb;go_wp2_with fail;refine Ni.o.mono ?_;rintro e w1 ⟨rfl,hq,hb⟩;have Dm:=Hd (HW.o w1 hq);have Ai:=Hd (eD HB.o hb);clear hq hb;go_wp2_with fail;refine Dm.o.mono ?_;rintro e w2 ⟨rfl,hq,hb⟩;obtain⟨Np,No⟩:=HM.o.move hq (eD Ai.o hb);have Cf:=Hd Np;have Nq:=Hd No;clear hq hb Np No;go_wp2_with fail;have hN:=news (w:=w2) (l:=[(#[.string Ct],9),(aJ (Ex.mk 11 0 Nj 0 [Ct] []) (some ⟨w2.heap.size,0,none⟩) 1 none 0,79)]) rfl;refine(lC (b:=b) (L:=L) 1 (w2.heap.size+1) (Cf.o.below hN.below) HP.o.1 HP.o.2).mono ?_;rintro e Wa ⟨a0,a1,a2,rfl,Fs,Hc,Ca,Ce,Hb⟩
    have Aa:=Hd (bPc (x:=Ex.mk 11 0 Nj 0 [Ct] []) Cf.o rfl hN.below aA (hN.at_ 1 _ rfl) ⟨rfl,by show 1<=_;omega,fun _=>⟨w2.heap.size,0,rfl,by rw [xM];have:=hN.size;simp at this;omega,fun i hi=>by
     have Nt:i=0:=by have Nv:i<1:=hi;omega
     subst Nt;refine(rR (p:=⟨w2.heap.size,0+0,none⟩) fun hk=>?_).trans (hN.cell 0 0 _ _ rfl rfl);rcases Yw.1 hk with hk|hk;· simp at hk
     . have:=Cf.o.lv _ hk
       simp at this⟩⟩ Fs Hc Ca Ce Hb (Yg _ _))
    clear Fs Hc Ca Ce Hb hN;generalize Nl:w2.heap.size+1=eb at *;have Ji:=Hd (show w.heap.size<=eb from by have:=Nq.o.size;omega);clear Nl;go_wp2_with fail;refine(kQ [aN 273 #[rp a0,rp a1,rp a2],bA b .behind] 1 aC Aa.o.1 Av (cJ (cJ iB))).mono ?_;rintro e Wb ⟨rfl,hx⟩;have HX:=Hd hx;clear hx;go_wp2_with fail;go_end0
    have Cc:=(gI (L:=eb::L) (w:=Wa) (.cells #[aN 273 #[rp a0,rp a1,rp a2],bA b .behind] 1));have hE:=Aa.o.2.2.1.up Cc bS Yl;exact vT (eb:=eb) (x:=Ex.mk 11 0 Nj 0 [Ct] []) (new:=[.made (Ex.mk 11 0 Nj 0 [Ct] []) (ps.length-1),.m .behind]) (vt:=[aN 273 #[rp a0,rp a1,rp a2],bA b .behind]) HM.o Cf.o Nq.o (Aa.o.1.alloc _) (Aa.o.2.1.trans Cc Cf.o.lv (fun k hk=>.inl hk)) hE Ji.o ⟨[eb],[],rfl,⟨eb,rfl,hE,Aa.o.2.2.2.1.up Cc bS⟩,[],[],rfl,⟨rfl,rfl⟩,rfl⟩ ⟨rfl,HX.o⟩
end
end
section
open Go.RowKit Go.Sort
section
variable {w w1 w2 w':World}{b:Nat}{A:OA}{n c:Nat}{all r r' r2:List Tk}{va va1 vp:Value}{st:LV}{ps:List Ex}{sz:Nat}{L L1 L2 S ft:LN}
theorem aXn:fQ qO:=.inl aF
theorem kC.append{L:LN}{w:World}{b:Nat}{gs:List Fr}{us:LV}{g:LN}(k:kC L w b gs us g):∀{fs:List Fr}{vs:LV}{f:LN},kC L w b fs vs f->kC L w b (fs++gs) (vs++us) (f++g)
 |[],[],f,h=>by
  rw[show f=[]from h];exact k
 |x::fs,v::vs,f,⟨f1,f2,e,h1,h2⟩=>⟨f1,f2++g,by rw[e,Yy],h1,kC.append k h2⟩
 |[],v::vs,f,h=>h.elim
 |x::fs,[],f,h=>h.elim
theorem aMu(h:aP w b A n c all r va st vp ps sz L)(hf:∀k∈ft,k∈L):∀k∈cU b va vp ft,k∈L:=fun k hk=>by
 simp only[cU,Yw,Zr,Option.mem_toList]at hk;rcases hk with rfl|hk|hk|hk;· exact h.lb
 . exact h.la k hk
 . exact h.lp k hk
 . exact hf k hk
theorem bTv{new new0:List Fr}{v0:LV}{ps2:List Ex}{sz2:Nat}{r3:List Tk}{e:Ending}(h:aP w b A n c all r va st vp ps sz L)(hT:Tn (cU b va vp ft) L L1 w w1)(h1:aP w1 b A n c all r2 va1 (v0++st) vp ps sz L1)(hg:dQ w va va1)(hF:kC L1 w1 b new0 v0 [])
 (hx:bF w1 b A n c all va1 (v0++st) vp L1 [] (.ok (new,ps2,sz2) r3) e w'):bF w b A n c all va st vp L ft (.ok (new++new0,ps2,sz2) r3) e w':=by
 obtain⟨e1,Bs,Aq,L',vt,fts,hM,Ct,Ae,hn,hf,Gw,g1,g2⟩:=hx;have Aa:=(hF.up Ae (aMu h1 (fun k hk=>absurd hk Yl)) (fun k hk=>absurd hk Yl)).append Ct;rw[List.append_nil]at Aa;refine⟨e1,Bs,Aq,L',vt++v0,fts,by rw[Yy];exact hM,Aa,hT.trans Ae h.lv fun k hk=>?_,hn,fun k hk=>?_,Gw,hg.trans g1 hT.size,(dQ.refl w vp).trans g2 hT.size⟩
 . simp only[cU,Yw,Zr,Yl,or_false]at hk;rcases hk with hk|hk|hk;· exact .inl (by simp[cU,hk])
   . rcases aL4 hg k (by simp only[dZ,Yw];exact .inr hk)with hk|hk;· exact .inl (aBn k hk)
     . exact .inr hk
   . exact .inl (by simp only[cU,Yw,Zr];exact .inr (.inr (.inl hk)))
 . rcases hf k hk with hk|hk;· exact absurd hk Yl
   . exact .inr (Yr hT.size hk)
theorem cAx(h:aP w b A n c all r va st vp ps sz L)(Av:st.length<=900000)(Be:1<=ps.length/\ps.length<=1000000):
 Calls Tryz.prog 310 #[rp b] w (bF w b A n c all va st vp L [] (gL .brk ps sz r)):=by
 have Oo:=eX;have HM:=Hd h;have HP:=Hd Be;clear h Be;show Calls _ _ _ _ (bF w b A n c all va st vp L [] (tX ps sz r));unfold tX;cases hi:aG qO r with
 |false=>
  rw[if_neg aC];go_in
  go_wp2_with fail;refine(uO (b:=b) ⟨#[41]⟩ w).mono ?_;rintro e w0 ⟨z0,z1,rfl,hb,hp,Nh,No⟩;have Hb:=Hd (HM.o.below hb);have Ni:=Hd (Tn.of_below (S:=dZ b va) (L:=L) hb);have Nr:=Hd (bH (Fz.new Nh (fun hh=>by have:=HM.o.lv _ hh;omega)) (bH (Fz.new No (fun hh=>by have:=HM.o.lv _ hh;omega)) (jA L w0)));clear hb hp Nh No;go_wp2_with fail;refine(kQ [aN 317 #[rp z0,rp z1]] 1 aC Hb.o aA (cJ iB)).mono ?_;rintro e w1 ⟨rfl,va1,L1,Bt,Bf,Aa⟩;have Ae:=Ni.o.trans (((gI (L:=L) (w:=w0) (.cells #[aN 317 #[rp z0,rp z1]] 1)).mono (S1:=dZ b va) (fun k hk=>absurd hk Yl)).trans Bf Hb.o.lv (fun k hk=>.inl hk)) HM.o.lv (fun k hk=>.inl hk);have Bn:=Hd (((Nr.o.up (gI (.cells #[aN 317 #[rp z0,rp z1]] 1)) bS).up Bf (mJ Hb.o)));have Bc:=Hd Bt;have Oc:=Hd Ae;have Of:=Hd (show dQ w va va1 by
   have:=Ni.o.size
   rcases Aa with Aa|Aa;· exact .inl Aa
   . exact .inr fun k hk=>by have:=Aa k hk;simp at this;omega)
  clear Bt Bf Ae Aa Nr;go_wp2_with fail;refine(gO ⟨#[119,105,116,104]⟩ aXn Bc.o.q hi).mono ?_;rintro e w2 ⟨rfl,Ci,Ag⟩;obtain⟨Nq,Ct⟩:=Bc.o.move Ci Ag;have Cf:=Hd Nq;have Da:=Hd (Bn.o.up Ct (cV Bc.o));have De:=Hd ((Oc.o.mono (S1:=cU b va vp []) aBn).trans Ct HM.o.lv (fun k hk=>.inl (eZ k hk)));clear Ci Ag Nq Ct;go_wp2_with fail;go_end0
  exact⟨rfl,va1,vp,L1,[aN 317 #[rp z0,rp z1]],[],Cf.o,⟨[],[],rfl,⟨rfl,(.inr aF),z0,z1,rfl,Da.o (z0,rp b) aC,Da.o (z1,.string ⟨#[41]⟩) aC⟩,rfl⟩,De.o,List.nodup_nil,fun k hk=>absurd hk Yl,fun k hk=>absurd hk Yl,Of.o,dQ.refl _ _⟩
 |true=>
  rw[if_pos rfl];go_in
  go_wp2_with fail;refine(uO (b:=b) ⟨#[41]⟩ w).mono ?_;rintro e w0 ⟨z0,z1,rfl,hb,hp,Nh,No⟩;have Hb:=Hd (HM.o.below hb);have Ni:=Hd (Tn.of_below (S:=dZ b va) (L:=L) hb);have Nr:=Hd (bH (Fz.new Nh (fun hh=>by have:=HM.o.lv _ hh;omega)) (bH (Fz.new No (fun hh=>by have:=HM.o.lv _ hh;omega)) (jA L w0)));clear hb hp Nh No;go_wp2_with fail;refine(kQ [aN 317 #[rp z0,rp z1]] 1 aC Hb.o aA (cJ iB)).mono ?_;rintro e w1 ⟨rfl,va1,L1,Bt,Bf,Aa⟩;have Ae:=Ni.o.trans (((gI (L:=L) (w:=w0) (.cells #[aN 317 #[rp z0,rp z1]] 1)).mono (S1:=dZ b va) (fun k hk=>absurd hk Yl)).trans Bf Hb.o.lv (fun k hk=>.inl hk)) HM.o.lv (fun k hk=>.inl hk);have Bn:=Hd (((Nr.o.up (gI (.cells #[aN 317 #[rp z0,rp z1]] 1)) bS).up Bf (mJ Hb.o)));have Bc:=Hd Bt;have Oc:=Hd Ae;have Of:=Hd (show dQ w va va1 by
   have:=Ni.o.size
   rcases Aa with Aa|Aa;· exact .inl Aa
   . exact .inr fun k hk=>by have:=Aa k hk;simp at this;omega)
  clear Bt Bf Ae Aa Nr;go_wp2_with fail;refine(mG ⟨#[119,105,116,104]⟩ aXn Bc.o.q hi).mono ?_;rintro e w2 ⟨rfl,Ci,Ag⟩;obtain⟨Nq,Ct⟩:=Bc.o.move Ci Ag;have Cf:=Hd Nq;have Da:=Hd (Bn.o.up Ct (cV Bc.o));have De:=Hd ((Oc.o.mono (S1:=cU b va vp []) aBn).trans Ct HM.o.lv (fun k hk=>.inl (eZ k hk)));clear Ci Ag Nq Ct;have Av:=(show([aN 317 #[rp z0,rp z1]]++st).length<=1000000 by simp;omega);have Oe:=Hd (Tn.of_below (S:=[b]) (L:=L1) (Yg w2.heap.size w2));go_wp2_with fail;refine(uO (b:=b) ⟨#[91]⟩ w2).mono ?_;rintro e Og ⟨Nv,Nn,rfl,Nz,Ep,Nk,Nw⟩;have Ha:=Hd (Cf.o.below Nz);have Oa:=Hd (Oe.o.trans (Tn.of_below (S:=[]) Nz) Cf.o.lv (fun k hk=>absurd hk Yl));have Ob:=Hd (bH (Fz.new (L:=L1) Nk (fun hh=>by have:=Cf.o.lv _ hh;omega)) (bH (Fz.new (L:=L1) Nw (fun hh=>by have:=Cf.o.lv _ hh;omega)) (jA L1 Og)));clear Nz Ep Nk Nw;go_wp2_with fail;refine(uO (b:=b) ⟨#[93]⟩ Og).mono ?_;rintro e Ol ⟨Ns,Nu,rfl,Ab,On,Ng,Np⟩;have Fs:=Hd (Ha.o.below Ab);have Nx:=Hd (Oa.o.trans (Tn.of_below (S:=[]) Ab) Cf.o.lv (fun k hk=>absurd hk Yl));have Od:=Hd (bH (Fz.new (L:=L1) Ng (fun hh=>by have:=Ha.o.lv _ hh;omega)) (bH (Fz.new (L:=L1) Np (fun hh=>by have:=Ha.o.lv _ hh;omega)) (Ob.o.up (Tn.of_below (S:=[]) Ab) bS)));clear Ab On Ng Np;go_wp2_with fail;refine(uO (b:=b) ⟨#[61]⟩ Ol).mono ?_;rintro e Aq ⟨Nj,Nl,rfl,Ag,Om,Nt,Nm⟩;have Bs:=Hd (Fs.o.below Ag);have Jx:=Hd (Nx.o.trans (Tn.of_below (S:=[]) Ag) Cf.o.lv (fun k hk=>absurd hk Yl));have Ny:=Hd (bH (Fz.new (L:=L1) Nt (fun hh=>by have:=Fs.o.lv _ hh;omega)) (bH (Fz.new (L:=L1) Nm (fun hh=>by have:=Fs.o.lv _ hh;omega)) (Od.o.up (Tn.of_below (S:=[]) Ag) bS)));clear Ag Om Nt Nm;go_wp2_with fail;refine(lC (b:=b) (L:=L1) 1 Aq.heap.size (Bs.o.alloc _) HP.o.1 HP.o.2).mono ?_;rintro e Wa ⟨a0,a1,a2,rfl,Oi,Oj,Ca,Ce,Oh⟩;have Hc:=Hd (qC (x:=dX 16) Bs.o rfl rfl ((Yg _ _).alloc (Yh _) _) (Yh _) yU Oi Oj Ca Ce Oh (Yg _ _));have Ok:=Hd (Ny.o.up Hc.o.2.1 bS);clear Oi Oj Ca Ce Oh;go_wp2_with fail;refine(kQ [aN 317 #[rp Nv,rp Nn],bA b .arrow,aN 317 #[rp Ns,rp Nu],aN 317 #[rp Nj,rp Nl],bA b .arrow,aN 273 #[rp a0,rp a1,rp a2]] 1 aC Hc.o.1 Av (cJ (cJ (cJ (cJ (cJ (cJ iB))))))).mono ?_;rintro e Wb ⟨rfl,hx⟩;have HX:=Hd hx;clear hx;go_wp2_with fail;go_end0
  have Cc:=(gI (L:=Aq.heap.size::L1) (w:=Wa) (.cells #[aN 317 #[rp Nv,rp Nn],bA b .arrow,aN 317 #[rp Ns,rp Nu],aN 317 #[rp Nj,rp Nl],bA b .arrow,aN 273 #[rp a0,rp a1,rp a2]] 1));have hE:=Hc.o.2.2.1.up Cc bS Yl;have hz:=Ok.o.up Cc bS;exact bTv (new0:=[.sign [41]]) (v0:=[aN 317 #[rp z0,rp z1]]) HM.o De.o Cf.o Of.o ⟨[],[],rfl,⟨rfl,(.inr aF),z0,z1,rfl,Da.o (z0,rp b) aC,Da.o (z1,.string ⟨#[41]⟩) aC⟩,rfl⟩ (vT (eb:=Aq.heap.size) (x:=dX 16) (new:=[.sign [91],.m .arrow,.sign [93],.sign [61],.m .arrow,.made (dX 16) (ps.length-1)]) (vt:=[aN 317 #[rp Nv,rp Nn],bA b .arrow,aN 317 #[rp Ns,rp Nu],aN 317 #[rp Nj,rp Nl],bA b .arrow,aN 273 #[rp a0,rp a1,rp a2]]) Cf.o Bs.o Jx.o (Hc.o.1.alloc _) (Hc.o.2.1.trans Cc Bs.o.lv (fun k hk=>.inl hk)) hE Jx.o.size ⟨[],[Aq.heap.size],rfl,⟨rfl,(.inr aF),Nv,Nn,rfl,hz (Nv,rp b) aC,hz (Nn,.string ⟨#[91]⟩) aC⟩,⟨[],[Aq.heap.size],rfl,⟨rfl,rfl⟩,⟨[],[Aq.heap.size],rfl,⟨rfl,(.inr aF),Ns,Nu,rfl,hz (Ns,rp b) aC,hz (Nu,.string ⟨#[93]⟩) aC⟩,⟨[],[Aq.heap.size],rfl,⟨rfl,(.inr aF),Nj,Nl,rfl,hz (Nj,rp b) aC,hz (Nl,.string ⟨#[61]⟩) aC⟩,⟨[],[Aq.heap.size],rfl,⟨rfl,rfl⟩,⟨[Aq.heap.size],[],rfl,⟨Aq.heap.size,rfl,hE,Hc.o.2.2.2.1.up Cc bS⟩,rfl⟩⟩⟩⟩⟩⟩ ⟨rfl,HX.o⟩)
end
end
end Go.Proofs.YtagkcjpoipcpkaaGreatDoor
