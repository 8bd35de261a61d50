/- A part of the proof. Conditions: each theorem's own. -/
import Derived.Test.YtagkcjpoipcpkaaGreatDoorF21
import Derived.Test.YtagkcjpoipcpkaaGreatDoorF22
namespace Go.Proofs.YtagkcjpoipcpkaaGreatDoor
set_option linter.unusedVariables false
set_option linter.unusedSimpArgs false
set_option maxRecDepth 100000
set_option maxHeartbeats 40000000
section
open Go.RowKit Go.Sort
section
variable {w w1 w2 w':World}{b:Nat}{A:OA}{n c:Nat}{all r r' r2:List Tk}{va va1 vp:Value}{st:LV}{ps:List Ex}{sz:Nat}{L L1 L2 S ft:LN}
theorem bT1(h:aP w b A n c all r va st vp ps sz L)(Av:st.length<=900000)(Be:ps.length<=1000000)(Au:sz<=1000000):
 Calls Tryz.prog 315 #[rp b] w (bF w b A n c all va st vp L [] (uI ps sz r)):=by
 have HM:=Hd h;have Ae:=Hd fun w1 (h1:Below w.heap.size w w1)=>aA8 ⟨#[116,114,117,101]⟩ aNe (h.q.below h1);have Aq:=Hd fun w1 (h1:Below w.heap.size w w1)=>aA8 ⟨#[102,97,108,115,101]⟩ aMr (h.q.below h1);rw[show(⟨#[116,114,117,101]⟩:BA).data.toList=eF from rfl]at Ae;rw[show(⟨#[102,97,108,115,101]⟩:BA).data.toList=dY from rfl]at Aq;obtain⟨t,r',b0,off,i,j,rfl,Aa⟩:=h.q.tokQ;have Cg:Hid (∀w1,Below w.heap.size w w1->t.k≠6->Calls Tryz.prog 270 #[rp b] w1 fun e w'=>e=.returned (.agg #[.int .i64 t.k,.string (aB t.s),.int .i64 t.n,.int .i64 (t.a:Int)])/\bM w' b A n c all r' va vp sz/\Below w1.heap.size (bl b w1) (bl b w')):=Hd fun w1 (h1:Below w.heap.size w w1)(hk:t.k≠6)=>aIt (h.q.below h1) hk;obtain rfl:=Aa.a;have hi:=Aa.lt;have Ha:(0:Int)<=(i:Int):=aA;have Fs:(i:Int)<(n:Int):=aA;have ht:=aXo (r':=r') aNe aF Aa.ok;have hf:=aXo (r':=r') aMr aF Aa.ok;unfold uI;cases Hc:aG eF (t::r')with
 |true=>
  rw[Hc]at Ae;rw[Hc]at ht;have Bs:=ht.symm;simp only[Yu,beq_iff_eq]at Bs;rw[show dK (t::r')=some (Ex.mk 2 1 ByteArray.empty 0 [] [],r')by simp[dK,Bs.1,Bs.2]];exact bKs HM Ae Aq Cg Av Be Au Aa.q0 Aa.q1 Aa.lb Aa.l0 Aa.mx Aa.t0 Aa.t1 Aa.t2 Aa.t3 Ha Fs Bs.1
 |false=>
  rw[Hc]at Ae;rw[Hc]at ht;have Bs:=ht.symm;simp only[Bool.and_eq_false_iff,Xf]at Bs;cases Hb:aG dY (t::r')with
  |true=>
   rw[Hb]at Aq;rw[Hb]at hf;have Ct:=hf.symm;simp only[Yu,beq_iff_eq]at Ct;rw[show dK (t::r')=some (Ex.mk 2 0 ByteArray.empty 0 [] [],r')by simp[dK,Ct.1,Ct.2,show ¬(dY=eF)by decide]];exact bJ0 (bf:=true) HM Ae Aq Cg Av Be Au Aa.q0 Aa.q1 Aa.lb Aa.l0 Aa.mx Aa.t0 Aa.t1 Aa.t2 Aa.t3 Ha Fs Ct.1
  |false=>
   rw[Hb]at Aq;rw[Hb]at hf;have Ct:=hf.symm;simp only[Bool.and_eq_false_iff,Xf]at Ct;by_cases h3:t.k=3
   . rw[show dK (t::r')=some (Ex.mk 1 t.n ByteArray.empty 0 [] [],r')by simp[dK,h3]];exact bMk (bf:=true) HM Ae Aq Cg Av Be Au Aa.q0 Aa.q1 Aa.lb Aa.l0 Aa.mx Aa.t0 Aa.t1 Aa.t2 Aa.t3 Ha Fs h3
   . by_cases h2:t.k=2
     . rw[show dK (t::r')=some (Ex.mk 4 0 (aB t.s) 0 [] [],r')by simp[dK,h2]];exact bKt (bf:=true) HM Ae Aq Cg Av Be Au Aa.q0 Aa.q1 Aa.lb Aa.l0 Aa.mx Aa.t0 Aa.t1 Aa.t2 Aa.t3 Ha Fs h2
     . by_cases h4:t.k=4
       . rw[show dK (t::r')=some (Ex.mk 17 0 (aB t.s) 0 [] [],r')by simp[dK,h4]];exact bKu (bf:=true) HM Ae Aq Cg Av Be Au Aa.q0 Aa.q1 Aa.lb Aa.l0 Aa.mx Aa.t0 Aa.t1 Aa.t2 Aa.t3 Ha Fs h4
       . rw [show dK (t::r')=none by
          simp only[dK,h3,h2,h4,if_false];rw[if_neg (fun e=>Bs.elim (fun k=>k e.1) (fun k=>k e.2)),if_neg (fun e=>Ct.elim (fun k=>k e.1) (fun k=>k e.2))]]
         exact bMl (bf:=true) HM Ae Aq Cg Av Be Au Aa.q0 Aa.q1 Aa.lb Aa.l0 Aa.mx Aa.t0 Aa.t1 Aa.t2 Aa.t3 Ha Fs (by simpa using h3) aGk (by simpa using h4)
theorem aJc:fQ kO:=.inl aF
theorem aMx:fQ jO:=.inl aF
theorem bMr(h:aP w b A n c all r va st vp ps sz L)(Av:st.length<=900000)(Be:ps.length<=1000000)(Au:sz<=1000000)(h0:aG [40] r=true):
 Calls Tryz.prog 308 #[rp b] w (bF w b A n c all va st vp L [] (PR.ok ([.m .arrow,.m .brk],ps,sz) r.tail)):=by
 have Ae:=eX;have HM:=Hd h;clear h;go_in
 go_wp2_with fail;refine(mG ⟨#[40]⟩ pK HM.o.q h0).mono ?_;rintro e w1 ⟨rfl,hq,hb⟩;obtain⟨Bt,Bf⟩:=HM.o.move hq hb;have Bc:=Hd Bt;have Aa:=Hd Bf;clear hq hb Bt Bf;go_wp2_with fail;refine(kQ [bA b .arrow,bA b .brk] 1 aC Bc.o aA (cJ (cJ iB))).mono ?_;rintro e w9 ⟨rfl,hx⟩;have HX:=Hd (kJ (ft:=[]) HM.o (Aa.o.mono (S1:=cU b va vp []) eZ) (fun k hk=>absurd hk Yl) (aBu (ft:=[]) (new:=[.m .arrow,.m .brk]) (vt:=[bA b .arrow,bA b .brk]) Bc.o ((Yg _ _).alloc (Yh _) _) ⟨[],[],rfl,⟨rfl,rfl⟩,[],[],rfl,⟨rfl,rfl⟩,rfl⟩ ⟨rfl,hx⟩));clear hx;go_wp2_with fail;go_end0
 exact HX.o
theorem bKv(h:aP w b A n c all r va st vp ps sz L)(Av:st.length<=900000)(Be:ps.length<=1000000)(Au:sz<=1000000)(h0:aG [40] r=false)(h1:aG [91] r=true):
 Calls Tryz.prog 308 #[rp b] w (bF w b A n c all va st vp L [] (PR.ok ([.m .arrow,.list [93] false (dX 14) ps.length],ps,sz) r.tail)):=by
 have Hb:=eX;have HM:=Hd h;clear h;go_in
 go_wp2_with fail;refine(gO ⟨#[40]⟩ pK HM.o.q h0).mono ?_;rintro e w1 ⟨rfl,hq,hb⟩;obtain⟨Bt,Bf⟩:=HM.o.move hq hb;have Bc:=Hd Bt;have Ha:=Hd Bf;clear hq hb Bt Bf;go_wp2_with fail;refine(mG ⟨#[91]⟩ aAp Bc.o.q h1).mono ?_;rintro e w2 ⟨rfl,hq,hb⟩;obtain⟨Ct,Ae⟩:=Bc.o.move hq hb;have Cf:=Hd Ct;have De:=Hd (Ha.o.trans Ae HM.o.lv (fun k hk=>.inl hk));clear hq hb Ct Ae;go_wp2_with fail;refine(lC (b:=b) (L:=L) 0 w2.heap.size (Cf.o.alloc _) (Ys _) Be).mono ?_;rintro e Wa ⟨a0,a1,a2,rfl,Aq,Fs,Ca,Ce,Bs⟩;have Aa:=Hd (qC (x:=dX 14) Cf.o rfl rfl ((Yg _ _).alloc (Yh _) _) (Yh _) yU Aq Fs Ca Ce Bs (Yg _ _));clear Aq Fs Ca Ce Bs;have HV:=Hd (show vp.ownBlock≠some w2.heap.size from fun hv=>by have:=Cf.o.lv _ (Cf.o.lp _ hv);omega);have Ji:=Hd (show w.heap.size<=w2.heap.size from De.o.size);generalize w2.heap.size=eb at *;go_wp2_with fail;refine(bA8 [93] false (dX 14) ps.length eb (.func 273) #[] #[rp a0,rp a1,rp a2] (.inr aF) Aa.o.1 aA Aa.o.2.2.1 HV.o Aa.o.2.2.2.1).mono ?_;intro e w9 hx;have HX:=Hd (kJ (ft:=[]) HM.o ((De.o.mono (S1:=cU b va vp []) eZ).trans (Aa.o.2.1.mono (S1:=cU b va vp []) (fun k hk=>absurd hk Yl)) HM.o.lv (fun k hk=>.inl hk)) (fun k hk=>.inr bGb) hx);have hr:=hx.1;clear hx;subst hr;go_wp2_with fail;go_end0
 exact HX.o
theorem bXi(h:aP w b A n c all r va st vp ps sz L)(Av:st.length<=900000)(Be:ps.length<=1000000)(Au:sz<=1000000)(h0:aG [40] r=false)(h1:aG [91] r=false)(h2:aG kO r=true):
 Calls Tryz.prog 308 #[rp b] w (bF w b A n c all va st vp L [] (PR.ok ([.m .arrow,.sign sF,.m .arrow,.sign pO,.m .arrow,.made (dX 7) ps.length],ps,sz) r.tail)):=by
 have Ny:=eX;have HM:=Hd h;clear h;go_in
 go_wp2_with fail;refine(gO ⟨#[40]⟩ pK HM.o.q h0).mono ?_;rintro e w1 ⟨rfl,hq,hb⟩;obtain⟨Bt,Bf⟩:=HM.o.move hq hb;have Bc:=Hd Bt;have Nw:=Hd Bf;clear hq hb Bt Bf;go_wp2_with fail;refine(gO ⟨#[91]⟩ aAp Bc.o.q h1).mono ?_;rintro e w2 ⟨rfl,hq,hb⟩;obtain⟨Ns,No⟩:=Bc.o.move hq hb;have Cf:=Hd Ns;have De:=Hd (Nw.o.trans No HM.o.lv (fun k hk=>.inl hk));clear hq hb Ns No;go_wp2_with fail;refine(mG ⟨#[105,102]⟩ aJc Cf.o.q h2).mono ?_;rintro e w3 ⟨rfl,hq,hb⟩;obtain⟨Er,Ec⟩:=Cf.o.move hq hb;have Nl:=Hd Er;have Nx:=Hd (De.o.trans Ec HM.o.lv (fun k hk=>.inl hk));clear hq hb Er Ec;have Av:=(show st.length<=1000000 by omega);go_wp2_with fail;refine(uO (b:=b) ⟨#[116,104,101,110]⟩ w3).mono ?_;rintro e Nq ⟨Ng,Ni,rfl,Nm,Ep,Ct,Nh⟩;have Aq:=Hd (Nl.o.below Nm);have Nk:=Hd (Nx.o.trans (Tn.of_below (S:=[]) Nm) HM.o.lv (fun k hk=>absurd hk Yl));have Nn:=Hd (bH (Fz.new (L:=L) Ct (fun hh=>by have:=Nl.o.lv _ hh;omega)) (bH (Fz.new (L:=L) Nh (fun hh=>by have:=Nl.o.lv _ hh;omega)) (jA L Nq)));clear Nm Ep Ct Nh;go_wp2_with fail;refine(uO (b:=b) ⟨#[101,108,115,101]⟩ Nq).mono ?_;rintro e Aa ⟨Hc,Jx,rfl,Ab,Nu,Hb,Fs⟩;have Ae:=Hd (Aq.o.below Ab);have Ha:=Hd (Nk.o.trans (Tn.of_below (S:=[]) Ab) HM.o.lv (fun k hk=>absurd hk Yl));have Nj:=Hd (bH (Fz.new (L:=L) Hb (fun hh=>by have:=Aq.o.lv _ hh;omega)) (bH (Fz.new (L:=L) Fs (fun hh=>by have:=Aq.o.lv _ hh;omega)) (Nn.o.up (Tn.of_below (S:=[]) Ab) bS)));clear Ab Nu Hb Fs;go_wp2_with fail;refine(lC (b:=b) (L:=L) 0 Aa.heap.size (Ae.o.alloc _) (Ys _) Be).mono ?_;rintro e Wa ⟨a0,a1,a2,rfl,Np,Nt,Ca,Ce,Nr⟩;have Bs:=Hd (qC (x:=dX 7) Ae.o rfl rfl ((Yg _ _).alloc (Yh _) _) (Yh _) yU Np Nt Ca Ce Nr (Yg _ _));have Nv:=Hd (Nj.o.up Bs.o.2.1 bS);clear Np Nt Ca Ce Nr;go_wp2_with fail;refine(kQ [bA b .arrow,aN 317 #[rp Ng,rp Ni],bA b .arrow,aN 317 #[rp Hc,rp Jx],bA b .arrow,aN 273 #[rp a0,rp a1,rp a2]] 1 aC Bs.o.1 Av (cJ (cJ (cJ (cJ (cJ (cJ iB))))))).mono ?_;rintro e Wb ⟨rfl,hx⟩;have HX:=Hd hx;clear hx;go_wp2_with fail;go_end0
 have Cc:=(gI (L:=Aa.heap.size::L) (w:=Wa) (.cells #[bA b .arrow,aN 317 #[rp Ng,rp Ni],bA b .arrow,aN 317 #[rp Hc,rp Jx],bA b .arrow,aN 273 #[rp a0,rp a1,rp a2]] 1));have hE:=Bs.o.2.2.1.up Cc bS Yl;have hz:=Nv.o.up Cc bS;exact vT (eb:=Aa.heap.size) (x:=dX 7) (new:=[.m .arrow,.sign [116,104,101,110],.m .arrow,.sign [101,108,115,101],.m .arrow,.made (dX 7) (ps.length)]) (vt:=[bA b .arrow,aN 317 #[rp Ng,rp Ni],bA b .arrow,aN 317 #[rp Hc,rp Jx],bA b .arrow,aN 273 #[rp a0,rp a1,rp a2]]) HM.o Ae.o Ha.o (Bs.o.1.alloc _) (Bs.o.2.1.trans Cc Ae.o.lv (fun k hk=>.inl hk)) hE Ha.o.size ⟨[],[Aa.heap.size],rfl,⟨rfl,rfl⟩,⟨[],[Aa.heap.size],rfl,⟨rfl,(.inl aF),Ng,Ni,rfl,hz (Ng,rp b) aC,hz (Ni,.string ⟨#[116,104,101,110]⟩) aC⟩,⟨[],[Aa.heap.size],rfl,⟨rfl,rfl⟩,⟨[],[Aa.heap.size],rfl,⟨rfl,(.inl aF),Hc,Jx,rfl,hz (Hc,rp b) aC,hz (Jx,.string ⟨#[101,108,115,101]⟩) aC⟩,⟨[],[Aa.heap.size],rfl,⟨rfl,rfl⟩,⟨[Aa.heap.size],[],rfl,⟨Aa.heap.size,rfl,hE,Bs.o.2.2.2.1.up Cc bS⟩,rfl⟩⟩⟩⟩⟩⟩ ⟨rfl,HX.o⟩
theorem bMs(h:aP w b A n c all r va st vp ps sz L)(Av:st.length<=900000)(Be:ps.length<=1000000)(Au:sz<=1000000)(h0:aG [40] r=false)(h1:aG [91] r=false)(h2:aG kO r=false)(h3:aG jO r=true):
 Calls Tryz.prog 308 #[rp b] w (bF w b A n c all va st vp L [] (aAn ps sz r.tail)):=by
 have Jx:=eX;have HM:=Hd h;clear h;go_in
 go_wp2_with fail;refine(gO ⟨#[40]⟩ pK HM.o.q h0).mono ?_;rintro e w1 ⟨rfl,hq,hb⟩;obtain⟨Bt,Bf⟩:=HM.o.move hq hb;have Bc:=Hd Bt;have Ha:=Hd Bf;clear hq hb Bt Bf;go_wp2_with fail;refine(gO ⟨#[91]⟩ aAp Bc.o.q h1).mono ?_;rintro e w2 ⟨rfl,hq,hb⟩;obtain⟨Ct,Ae⟩:=Bc.o.move hq hb;have Cf:=Hd Ct;have De:=Hd (Ha.o.trans Ae HM.o.lv (fun k hk=>.inl hk));clear hq hb Ct Ae;go_wp2_with fail;refine(gO ⟨#[105,102]⟩ aJc Cf.o.q h2).mono ?_;rintro e w3 ⟨rfl,hq,hb⟩;obtain⟨Er,Ec⟩:=Cf.o.move hq hb;have Aq:=Hd Er;have Hc:=Hd (De.o.trans Ec HM.o.lv (fun k hk=>.inl hk));clear hq hb Er Ec;go_wp2_with fail;refine(mG ⟨#[109,101,114,103,101]⟩ aMx Aq.o.q h3).mono ?_;rintro e w4 ⟨rfl,hq,hb⟩;obtain⟨Aa,Bs⟩:=Aq.o.move hq hb;have Fs:=Hd Aa;have Hb:=Hd (Hc.o.trans Bs HM.o.lv (fun k hk=>.inl hk));clear hq hb Aa Bs;go_wp2_with fail;refine(bXb Fs.o Av Be).mono ?_;intro e w9 hx;have HX:=Hd (kJ (ft:=[]) HM.o (Hb.o.mono (S1:=cU b va vp []) eZ) (fun k hk=>absurd hk Yl) hx);clear hx;rcases aE0 HX.o with rfl|rfl;· exact aF3
 . exact aJ3
theorem bMt(h:aP w b A n c all r va st vp ps sz L)(Av:st.length<=900000)(Be:ps.length<=1000000)(Au:sz<=1000000)(h0:aG [40] r=false)(h1:aG [91] r=false)(h2:aG kO r=false)(h3:aG jO r=false)(hn:oM r=true):
 Calls Tryz.prog 308 #[rp b] w (bF w b A n c all va st vp L [] (xY ps sz r)):=by
 have Nh:=eX;have HM:=Hd h;clear h;go_in
 go_wp2_with fail;refine(gO ⟨#[40]⟩ pK HM.o.q h0).mono ?_;rintro e w1 ⟨rfl,hq,hb⟩;obtain⟨Bt,Bf⟩:=HM.o.move hq hb;have Bc:=Hd Bt;have Hb:=Hd Bf;clear hq hb Bt Bf;go_wp2_with fail;refine(gO ⟨#[91]⟩ aAp Bc.o.q h1).mono ?_;rintro e w2 ⟨rfl,hq,hb⟩;obtain⟨Fs,Ae⟩:=Bc.o.move hq hb;have Cf:=Hd Fs;have De:=Hd (Hb.o.trans Ae HM.o.lv (fun k hk=>.inl hk));clear hq hb Fs Ae;go_wp2_with fail;refine(gO ⟨#[105,102]⟩ aJc Cf.o.q h2).mono ?_;rintro e w3 ⟨rfl,hq,hb⟩;obtain⟨Er,Ec⟩:=Cf.o.move hq hb;have Bs:=Hd Er;have Ng:=Hd (De.o.trans Ec HM.o.lv (fun k hk=>.inl hk));clear hq hb Er Ec;go_wp2_with fail;refine(gO ⟨#[109,101,114,103,101]⟩ aMx Bs.o.q h3).mono ?_;rintro e w4 ⟨rfl,hq,hb⟩;obtain⟨Aa,Ct⟩:=Bs.o.move hq hb;have Aq:=Hd Aa;have Hc:=Hd (Ng.o.trans Ct HM.o.lv (fun k hk=>.inl hk));clear hq hb Aa Ct;have Eb:=Hd (aNd Aq.o.q);rw[hn]at Eb;go_wp2_with fail;refine Eb.o.mono ?_;rintro e w8 ⟨rfl,hb⟩;have Jx:=Hd (Aq.o.below hb);have Ha:=Hd (Hc.o.trans (Tn.of_below (S:=[]) hb) HM.o.lv (fun k hk=>absurd hk Yl));clear hb;go_wp2_with fail;refine(bXc Jx.o Av Be Au).mono ?_;intro e w9 hx;have HX:=Hd (kJ (ft:=[]) HM.o (Ha.o.mono (S1:=cU b va vp []) eZ) (fun k hk=>absurd hk Yl) hx);clear hx;rcases aE0 HX.o with rfl|rfl;· exact aF3
 . exact aJ3
theorem bKw(h:aP w b A n c all r va st vp ps sz L)(Av:st.length<=900000)(Be:ps.length<=1000000)(Au:sz<=1000000)(h0:aG [40] r=false)(h1:aG [91] r=false)(h2:aG kO r=false)(h3:aG jO r=false)(hn:oM r=false):
 Calls Tryz.prog 308 #[rp b] w (bF w b A n c all va st vp L [] (uI ps sz r)):=by
 have Nh:=eX;have HM:=Hd h;clear h;go_in
 go_wp2_with fail;refine(gO ⟨#[40]⟩ pK HM.o.q h0).mono ?_;rintro e w1 ⟨rfl,hq,hb⟩;obtain⟨Bt,Bf⟩:=HM.o.move hq hb;have Bc:=Hd Bt;have Hb:=Hd Bf;clear hq hb Bt Bf;go_wp2_with fail;refine(gO ⟨#[91]⟩ aAp Bc.o.q h1).mono ?_;rintro e w2 ⟨rfl,hq,hb⟩;obtain⟨Fs,Ae⟩:=Bc.o.move hq hb;have Cf:=Hd Fs;have De:=Hd (Hb.o.trans Ae HM.o.lv (fun k hk=>.inl hk));clear hq hb Fs Ae;go_wp2_with fail;refine(gO ⟨#[105,102]⟩ aJc Cf.o.q h2).mono ?_;rintro e w3 ⟨rfl,hq,hb⟩;obtain⟨Er,Ec⟩:=Cf.o.move hq hb;have Bs:=Hd Er;have Ng:=Hd (De.o.trans Ec HM.o.lv (fun k hk=>.inl hk));clear hq hb Er Ec;go_wp2_with fail;refine(gO ⟨#[109,101,114,103,101]⟩ aMx Bs.o.q h3).mono ?_;rintro e w4 ⟨rfl,hq,hb⟩;obtain⟨Aa,Ct⟩:=Bs.o.move hq hb;have Aq:=Hd Aa;have Hc:=Hd (Ng.o.trans Ct HM.o.lv (fun k hk=>.inl hk));clear hq hb Aa Ct;have Eb:=Hd (aNd Aq.o.q);rw[hn]at Eb;go_wp2_with fail;refine Eb.o.mono ?_;rintro e w8 ⟨rfl,hb⟩;have Jx:=Hd (Aq.o.below hb);have Ha:=Hd (Hc.o.trans (Tn.of_below (S:=[]) hb) HM.o.lv (fun k hk=>absurd hk Yl));clear hb;go_wp2_with fail;refine(bT1 Jx.o Av Be Au).mono ?_;intro e w9 hx;have HX:=Hd (kJ (ft:=[]) HM.o (Ha.o.mono (S1:=cU b va vp []) eZ) (fun k hk=>absurd hk Yl) hx);clear hx;rcases aE0 HX.o with rfl|rfl;· exact aF3
 . exact aJ3
theorem bXj(h:aP w b A n c all r va st vp ps sz L)(Av:st.length<=900000)(Be:ps.length<=1000000)(Au:sz<=1000000):
 Calls Tryz.prog 308 #[rp b] w (bF w b A n c all va st vp L [] (gL .atom ps sz r)):=by
 show Calls _ _ _ _ (bF w b A n c all va st vp L [] (oY ps sz r));unfold oY;cases h0:aG [40] r with
 |true=>rw[if_pos rfl];exact bMr h Av Be Au h0
 |false=>
  rw[if_neg aC];cases h1:aG [91] r with
  |true=>rw[if_pos rfl];exact bKv h Av Be Au h0 h1
  |false=>
   rw[if_neg aC];cases h2:aG kO r with
   |true=>rw[if_pos rfl];exact bXi h Av Be Au h0 h1 h2
   |false=>
    rw[if_neg aC];cases h3:aG jO r with
    |true=>rw[if_pos rfl];exact bMs h Av Be Au h0 h1 h2 h3
    |false=>
     rw[if_neg aC];cases hn:oM r with
     |true=>rw[if_pos rfl];exact bMt h Av Be Au h0 h1 h2 h3 hn
     |false=>rw[if_neg aC];exact bKw h Av Be Au h0 h1 h2 h3 hn
end
end
section
open Go.RowKit Go.Sort
section
variable {w w1 w2 w':World}{b:Nat}{A:OA}{n c:Nat}{all r r' r2:List Tk}{va va1 vp:Value}{st:LV}{ps:List Ex}{sz:Nat}{L L1 L2 S ft:LN}
def aAx(v:Value)(w:World)(Q:Ending->World->Prop):Prop:=∃K a c,v=.func (.func K) a c/\(∀(args:AV)(w:World),(callFunc K args).run Tryz.prog w=.ok (.enter K args) w)/\Calls Tryz.prog K (a++c) w Q
theorem vY{K:Nat}{cap:AV}{Q:Ending->World->Prop}(h:Calls Tryz.prog K cap w Q)(hK:∀(args:AV)(w:World),(callFunc K args).run Tryz.prog w=.ok (.enter K args) w:=by intro args w;rfl):aAx (aN K cap) w Q:=⟨K,#[],cap,rfl,hK,by rw[show(#[]++cap:AV)=cap by simp];exact h⟩
theorem bPi(l:Lv)(args:AV)(w:World):(callFunc (lvF l) args).run Tryz.prog w=.ok (.enter (lvF l) args) w:=by cases l<;>rfl
theorem bT2{l:Lv}{Q:Ending->World->Prop}(h:Calls Tryz.prog (lvF l) #[rp b] w Q):aAx (bA b l) w Q:=⟨lvF l,#[rp b],#[],rfl,bPi l,by simpa using h⟩
theorem bT3{K:Nat}{f:Fr}{v:Value}(h:aP w b A n c all r va st vp ps sz L)(Av:st.length<=900000)(Be:ps.length<=1000000)(Au:sz<=1000000)(hK:K<=1000000)(hn:wP K f ps.length r.length)(hF:sS L w b f v ft)(hv:∀k∈ft,vp.ownBlock≠some k):
 aAx v w (bF w b A n c all va st vp L ft (dG f ps sz r)):=by
 cases f with
 |m l=>
  obtain⟨rfl,rfl⟩:=hF;have Aa:st.length<=1000000:=aA;refine bT2 ?_;cases l with
  |arrow=>exact bTp h Aa
  |fby=>exact cAq h Aa
  |or=>exact cCs h Aa
  |and=>exact cAs h Aa
  |cmp=>exact cAw h Aa
  |sum=>exact cAu h Aa
  |prod=>exact bW7 h Aa
  |un=>exact cCt h Aa Be
  |post=>exact bW8 h Aa
  |atom=>exact bXj h Av Be Au
  |behind=>exact bPd h Aa ⟨hn,Be⟩
  |brk=>exact cAx h Av ⟨hn,Be⟩
 |sign s=>
  obtain⟨rfl,ha,p0,p1,rfl,h0,h1⟩:=hF;exact vY (bTq s p0 p1 ha h h0 h1)
 |made x f=>
  obtain⟨eb,rfl,he,p0,p1,p2,rfl,h0,h1,h2⟩:=hF;exact vY (vX x f eb p0 p1 p2 h hn Be Au he (hv eb Zc) h0 h1 h2)
 |right s k o=>
  obtain⟨rfl,ha,p0,p1,p2,p3,rfl,h0,h1,h2,h3⟩:=hF;exact vY (bO7 s k o p0 p1 p2 p3 ha h aA ⟨hn,Be⟩ h0 h1 h2 h3)
 |left Ha Ae=>
  obtain⟨rfl,zs,rfl,hz,p0,p1,p2,p3,g,c1,rfl,h0,h1,h2,h3,h4⟩:=hF;exact vY (bTr zs Ae p0 p1 p2 p3 g c1 hz h aA ⟨hn,Be⟩ h0 h1 h2 h3 h4)
 |once Ha Ae=>
  obtain⟨rfl,zs,rfl,hz,p0,p1,p2,g,c1,rfl,h0,h1,h2,h3⟩:=hF;exact vY (bTs zs Ae p0 p1 p2 g c1 hz h aA ⟨hn,Be⟩ h0 h1 h2 h3)
 |list Aq ev x f=>
  obtain⟨eb,rfl,he,ha,p0,p1,p2,p3,vt,rfl,h0,h1,h2,h3,ht⟩:=hF;cases ev with
  |false=>
   obtain⟨q0,q1,q2,rfl,k0,k1,k2⟩:=(show oR L w b eb f vt from ht);exact vY (bJl Aq x f eb p0 p1 p2 p3 q0 q1 q2 ha h Av hn Be Au he (hv eb Zc) h0 h1 h2 h3 k0 k1 k2)
  |true=>
   obtain⟨a0,a1,a2,vm,rfl,j0,j1,hm,j2⟩:=(show aFb L w b eb f vt from ht);have Fs:=hm;obtain⟨q0,q1,q2,rfl,k0,k1,k2⟩:=hm;exact vY (bJd Aq x f eb p0 p1 p2 p3 q0 q1 q2 a0 a1 a2 ha h Av hn Be Au he (hv eb Zc) h0 h1 h2 h3 j0 j1 j2 Fs)
 |more x f=>
  obtain⟨eb,Bs,p0,p1,p2,p3,p4,vm,rfl,h0,h1,h2,hm,h3,h4⟩:=hF;obtain⟨q0,q1,q2,rfl,k0,k1,k2⟩:=hm;have Ct:x.arms.length<=1000000:=by have:=hn.2;omega
  have Hb:eb∈ft:=by
   obtain⟨_,_,_,_,_,h5,_⟩:=Bs;rw[h5];exact aC6
  exact vY (bTu x f eb p0 p1 p2 p3 p4 q0 q1 q2 h Av hn.1 Be Au Bs Ct (hv eb Hb) h0 h1 h2 h3 h4 k0 k1 k2)
end
end
section
open Go.RowKit Go.Sort
section
variable {w w1 w2 w':World}{b:Nat}{A:OA}{n c:Nat}{all r r' r2:List Tk}{va va1 vp:Value}{st:LV}{ps:List Ex}{sz:Nat}{L L1 L2 S ft:LN}
theorem bXk{v:Value}(h:aP w b A n c all r va (v::st) vp ps sz L):∃g cap,va=.slice (some ⟨g,0,none⟩) (st.length+1) cap/\w.cell? ⟨g,st.length,none⟩=some v/\st.length+1<=cap/\
 aP (w.setCell ⟨b,2,none⟩ (.slice (some ⟨g,0,none⟩) st.length cap)) b A n c all r (.slice (some ⟨g,0,none⟩) st.length cap) st vp ps sz L/\Tn [b] L L w (w.setCell ⟨b,2,none⟩ (.slice (some ⟨g,0,none⟩) st.length cap)):=by
 have Aa:=h.oa;rcases Aa.2 with⟨_,h2⟩|⟨g,cap,cur,h1,hg,hh,h2,h3,h4,h5⟩;· simp at h2
 . have hcell:w.cell? ⟨g,st.length,none⟩=some v:=by
    have hb:va=.slice (some ⟨g,0,none⟩) (st.length+1) cap:=h1;rw[hb]at Aa
    have:=Aa.cellAt st.length aC
    simpa using this
   have Dd:∀k,k≠b->(w.setCell ⟨b,2,none⟩ (.slice (some ⟨g,0,none⟩) st.length cap)).heap[k]?=w.heap[k]?:=fun k hk=>Xb _ _ _ _ hk;have ht:Tn [b] L L w (w.setCell ⟨b,2,none⟩ (.slice (some ⟨g,0,none⟩) st.length cap)):=⟨rfl,rfl,rfl,by simp,fun k _ hn=>Dd k (fun e=>hn yW),fun k hk=>.inl hk,fun k hk _=>hk⟩;obtain⟨cs,k1,k2⟩:=h.op;have Ae:g≠b:=fun e=>h.va_ne (by rw[h1,e];rfl);have Ao:w.ownsRow 0 1 1 (.slice (some ⟨g,0,none⟩) st.length cap) st.length st.reverse:=by
    refine⟨by simp,.inr ⟨g,cap,cur,rfl,hg,hh,by simp at h2;omega,h3,h4,?_⟩⟩
    have:cur.toList.take (st.length*1)=(cur.toList.take ((v::st).length*1)).take (st.length*1):=by
     rw[List.take_take];congr 1;simp
    rw[this,h5];simp
   refine⟨g,cap,h1,hcell,by simpa using h2,⟨?_,h.rd.up ht.ups (ht.up (cV h)),h.len,h.pre,h.fin,h.tks,jM Ao fun k hk=>Dd k fun e=>Ae ?_,⟨cs,jM k1 fun k hk=>Dd k fun e=>h.vp_ne (e ▸ hk),sB ht.ups (ht.up (cV h)) k2⟩,h.lb,fun k hk=>h.la k (by rw[h1];exact hk),h.lp,fun k hk=>by simpa using h.lv k hk⟩,ht⟩;· exact aPv
   . rw[e]at hk;injection hk
theorem bMu(p:Nat)(x:Bool)(u:TypeId)(pv:Value)(Aa:List PanicEntry)(w:World)(hc:w.cell? ⟨p,0,none⟩=some (.bool x))(hz:w.frozen? ⟨p,0,none⟩=false):
 CallsD Tryz.prog 245 #[rp p] (.panicking ({ v:=.iface u pv,recovered:=false }::Aa)) w fun e u' w'=>
  e=.returned (.tuple #[])/\u'=.panicking ({ v:=.iface u pv,recovered:=true }::Aa)/\w'=w.setCell ⟨p,0,none⟩ (.bool false):=by
 refine callsD_of_wpS Tryz.func245 rfl fun c₀ cs hu=>?_;apply wpS_region;simp[wpOpsS,go_sem,recoverD,hu,Tryz.ntmps245,Exit.thenS,hc,hz,bodyPostS,results,Tryz.results245]
theorem bKx(p:Nat)(x:Bool)(w:World)(hc:w.cell? ⟨p,0,none⟩=some (.bool x))(hz:w.frozen? ⟨p,0,none⟩=false):
 CallsD Tryz.prog 245 #[rp p] .returning w fun e u' w'=>e=.returned (.tuple #[])/\u'=.returning/\w'=w.setCell ⟨p,0,none⟩ (.bool true):=by
 refine callsD_of_wpS Tryz.func245 rfl fun c₀ cs hu=>?_;apply wpS_region;simp[wpOpsS,go_sem,recoverD,hu,Tryz.ntmps245,Exit.thenS,hc,hz,bodyPostS,results,Tryz.results245];rw[<-hu]
def Bx(L:LN)(w:World)(p:Nat)(cs:AV)(T:TypeId):Prop:=p∉L/\w.heap[p]?=some (.cells cs T)
theorem Bx.up{p:Nat}{cs:AV}{T:TypeId}(k:Bx L w p cs T)(h:Tn S L L1 w w1)(hS:∀k∈S,k∈L):Bx L1 w1 p cs T:=by
 have Ah:=(Ym.1 k.2).1;refine⟨fun hp=>?_,(h.block p Ah fun hp=>k.1 (hS p hp)).trans k.2⟩;rcases h.live p hp with h1|h1;· exact k.1 h1
 . omega
theorem Bx.cell{p:Nat}{v:Value}{T:TypeId}(k:Bx L w p #[v] T):w.cell? ⟨p,0,none⟩=some v:=by
 unfold World.cell?;rw[k.2];rfl
theorem Bx.fz{p:Nat}{cs:AV}{T:TypeId}(k:Bx L w p cs T)(j:Nat):w.frozen? ⟨p,j,none⟩=false:=by
 unfold World.frozen?;rw[k.2];rfl
theorem bFg{P:Nat->Prop}(h:∃k,P k):∃m,P m/\∀k,P k->m<=k:=by
 obtain⟨k,hk⟩:=h;induction k using Nat.strongRecOn with
 |ind k ih=>
  by_cases hx:∃j,j<k/\P j
  . obtain⟨j,hj,hp⟩:=hx;exact ih j hj hp
  . exact⟨k,hk,fun j hj=>Nat.le_of_not_lt fun hl=>hx ⟨j,hl,hj⟩⟩
open Classical in
noncomputable def lst (P:Nat->Prop):Nat:=if h:∃k,P k then Classical.choose (bFg h)else 0
theorem aXw{P:Nat->Prop}(h:∃k,P k):P (lst P)/\∀k,P k->lst P<=k:=by
 unfold lst;rw[dif_pos h];exact Classical.choose_spec (bFg h)
end
end
section
open Go.RowKit Go.Sort
section
variable {w w1 w2 w':World}{b:Nat}{A:OA}{n c:Nat}{all r r' r2:List Tk}{va va1 vp:Value}{st:LV}{ps:List Ex}{sz:Nat}{L L1 L2 S ft:LN}
structure aQq (b:Nat)(A:OA)(n c:Nat)(all:List Tk)(I:Nat->List Nat->World->Prop)(Done:List Nat->World->Prop)(Bad:World->Prop):Prop where
 at_:∀k L w,I k L w->∃r va st vp ps sz,aP w b A n c all r va st vp ps sz L/\st.length<=900000/\(st=[]->Done L w)/\
  ∀v st',st=v::st'->∀g cap,va=.slice (some ⟨g,0,none⟩) (st'.length+1) cap->∀w',w'=w.setCell ⟨b,2,none⟩ (.slice (some ⟨g,0,none⟩) st'.length cap)->aP w' b A n c all r (.slice (some ⟨g,0,none⟩) st'.length cap) st' vp ps sz L->Tn [b] L L w w'->
   aAx v w' (fun e w2=>(e=.returned (.tuple #[])/\∃k' L',k' < k/\I k' L' w2/\∃S,Tn S L L' w' w2/\∀j∈S,j∈L)\/(e=zB/\Bad w2/\∃S L',Tn S L L' w' w2/\∀j∈S,j∈L))
theorem Bx.set{p:Nat}{x:Value}{T:TypeId}(k:Bx L w p #[x] T)(v:Value):Bx L (w.setCell ⟨p,0,none⟩ v) p #[v] T:=⟨k.1,by
 rw[Xi _ _ _ _ _ _ _ k.2,Xh _ _ _ _ _ _ k.2]
 rfl⟩
structure aAq (p:Nat)(w w':World):Prop where
 os:w'.os=w.os
 tape:w'.tape=w.tape
 output:w'.output=w.output
 size:w'.heap.size=w.heap.size
 block:∀k,k≠p->w'.heap[k]?=w.heap[k]?
theorem aL5(p:Nat)(v:Value)(w:World):aAq p w (w.setCell ⟨p,0,none⟩ v):=⟨rfl,rfl,rfl,by simp,fun k hk=>Xb _ _ _ _ hk⟩
theorem aAq.trans{p:Nat}(h:aAq p w w1)(k:aAq p w1 w2):aAq p w w2:=⟨k.os.trans h.os,k.tape.trans h.tape,k.output.trans h.output,k.size.trans h.size,fun j hj=>(k.block j hj).trans (h.block j hj)⟩
theorem aZu{I:Nat->List Nat->World->Prop}{Ct:List Nat->World->Prop}{Nm:World->Prop}(HT:aQq b A n c all I Ct Nm)(ff:Fn)(fa fc:AV)(h:aP w b A n c all r va [] vp ps sz L)
 (h0:∀w0 w1 va1 L1,Below w.heap.size w w0->aP w1 b A n c all r va1 [.func ff fa fc] vp ps sz L1->Tn (dZ b va) L L1 w0 w1->dQ w0 va va1->∃k,I k L1 w1):
 Calls Tryz.prog 226 #[rp b,.func ff fa fc] w fun e w'=>∃w2,aAq w.heap.size w2 w'/\((e=.returned (.bool true)/\∃L',Ct L' w2/\w2.heap[w.heap.size]?=some (.cells #[.bool false] 4))\/(e=.returned (.bool false)/\Nm w2)):=by
 have Nw:=eX;have HM:=Hd h;have H0:=Hd h0;have HT:=Hd HT;clear h h0;go_enter_defers Tryz.func226,Tryz.ntmps226;go_wp2_with fail;have hN:=news (w:=w) (l:=[(#[.bool false],4),(#[.func ff fa fc],1)]) rfl;refine(aAg [.func ff fa fc] _ 1 _ aC HM.o aC hN rfl (cJ iB) (HM.o.below hN.below) (lT HM.o.lv 1)).mono ?_;rintro e w1 ⟨rfl,va1,L1,Bt,Bf,Nk⟩;have Kq:=Hd (H0.o _ w1 va1 L1 hN.below Bt Bf Nk);have Bn:=Hd (Bx.up (L:=L) ⟨lT HM.o.lv 0,hN.at_ 0 _ rfl⟩ Bf (mJ HM.o));clear Bt Bf Nk hN;generalize Hb:w.heap.size=Aa at *;simp only[Nat.add_zero]at Bn;go_wp2_with fail;go_loopw [] (fun wr=>∃k L,I k L wr/\Bx L wr Aa #[.bool false] 4) (fun wr=>lst (fun k=>∃L,I k L wr/\Bx L wr Aa #[.bool false] 4))
 case atStart=>
  obtain⟨k,hk⟩:=Kq.o;exact⟨k,L1,hk,Bn.o⟩
 case round=>
  have No:=aXw hrel;obtain⟨L2,Nn,Nj⟩:=No.1;clear No hrel;generalize Nu:lst (fun k=>∃L,I k L wr/\Bx L wr Aa #[.bool false] 4)=m at *;clear Nu;have Da:=Hd Nj;obtain⟨r2,Kw,Nr,Nv,ps2,sz2,Aq,Fs,Jx,Nh⟩:=HT.o.at_ m L2 wr Nn;clear Nj Nn Kq Bn H0;cases Nr with
  |nil=>
   have HD:=Hd (Jx rfl);obtain⟨A2,c2,rfl⟩:∃A2 c2,Kw=.slice A2 0 c2:=by
    rcases Aq.oa.2 with⟨h1,_⟩|⟨g,cap,cur,h1,_⟩;· exact⟨_,_,h1⟩
    . exact⟨_,_,h1⟩
   have q2:wr.cell? ⟨b,2,none⟩=some (.slice A2 0 c2):=Aq.cell 2;have z0:=Da.o.cell;have z1:=Da.o.fz 0;clear Aq Nh Jx Fs;go_wp2_with fail;have y0:(wr.setCell ⟨Aa,0,none⟩ (.bool true)).cell? ⟨Aa,0,none⟩=some (.bool true):=(Da.o.set _).cell;have y1:(wr.setCell ⟨Aa,0,none⟩ (.bool true)).frozen? ⟨Aa,0,none⟩=false:=(Da.o.set _).fz 0;have y2:((wr.setCell ⟨Aa,0,none⟩ (.bool true)).setCell ⟨Aa,0,none⟩ (.bool true)).cell? ⟨Aa,0,none⟩=some (.bool true):=((Da.o.set _).set _).cell;refine leaves_cons (f:=245) (args:=#[rp Aa]) aC (by simp[go_sem]) ?_;refine(bKx Aa true _ y0 y1).mono ?_;rintro e u' Ns ⟨rfl,rfl,rfl⟩;simp[Leaves,settle,results,Tryz.results226,go_sem,y2];exact⟨wr,by rw[Hb];exact(aL5 _ _ _).trans (aL5 _ _ _),⟨L2,HD.o⟩,by rw[Hb];exact Da.o.2⟩
  |cons v Hc=>
   obtain⟨g,cap,rfl,hc,Np,Nl,Ha⟩:=bXk Aq;obtain⟨K,a,c',rfl,hK,Ae⟩:=Nh v Hc rfl g cap rfl _ rfl Nl Ha;have q2:wr.cell? ⟨b,2,none⟩=some (.slice (some ⟨g,0,none⟩) (Hc.length+1) cap):=Aq.cell 2;have f2:=Aq.q.fz 2;have Nq:=Hd Ae;have Ni:=Hd (Da.o.up Ha (cV Aq));clear Aq Nh Jx Nl Ae Ha;simp only[Yq]at Fs;generalize Hc.length=m' at *;go_wp2_with fail;refine Nq.o.mono ?_;rintro e w2 (⟨rfl,k',L',hk,hI,S,hT,hS⟩|⟨rfl,hB,S,L',hT,hS⟩)
   . have Ng:=Hd hI;have Bs:=Hd (Ni.o.up hT hS);have Nt:=Hd hk;clear hI hT hS hk;go_wp2_with fail;go_roundw;case rel=>exact⟨k',L',Ng.o,Bs.o⟩
     case measure=>
      exact Nat.lt_of_le_of_lt ((aXw (P:=fun k=>∃L,I k L w2/\Bx L w2 Aa #[.bool false] 4) ⟨k',L',Ng.o,Bs.o⟩).2 k' ⟨L',Ng.o,Bs.o⟩) Nt.o
   . have HB:=Hd hB;have Bs:=Hd (Ni.o.up hT hS);clear hB hT hS;go_wp2_with fail;have y2:(w2.setCell ⟨Aa,0,none⟩ (.bool false)).cell? ⟨Aa,0,none⟩=some (.bool false):=(Bs.o.set _).cell;refine leaves_cons (f:=245) (args:=#[rp Aa]) aC (by simp[go_sem]) ?_;refine(bMu Aa false _ _ [] w2 Bs.o.cell (Bs.o.fz 0)).mono ?_;rintro e u' Ns ⟨rfl,rfl,rfl⟩;simp[Leaves,settle,results,Tryz.results226,go_sem,y2];exact⟨w2,by rw[Hb];exact aL5 _ _ _,HB.o⟩
end
end
section
open Go.RowKit Go.Sort
section
variable {w w0 w1 w2 w':World}{b:Nat}{A:OA}{n c:Nat}{all r r' r2:List Tk}{va va1 vp:Value}{st:LV}{ps:List Ex}{sz:Nat}{L L1 L2 S ft:LN}
theorem aAx.mono{v:Value}{Q Q':Ending->World->Prop}(h:aAx v w Q)(k:∀e w1,Q e w1->Q' e w1):aAx v w Q':=by
 obtain⟨K,a,c,h1,h2,h3⟩:=h;exact⟨K,a,c,h1,h2,h3.mono k⟩
theorem sS.sub{f:Fr}{v:Value}(h:sS L w b f v ft):∀k∈ft,k∈L:=by
 intro k hk;cases f with
 |m l=>rw[h.1]at hk;exact absurd hk Yl
 |sign s=>rw[h.1]at hk;exact absurd hk Yl
 |made x f=>
  exact bD7
 |right s k o=>rw[h.1]at hk;exact absurd hk Yl
 |left Ae Aa=>rw[h.1]at hk;exact absurd hk Yl
 |once Ae Aa=>rw[h.1]at hk;exact absurd hk Yl
 |list Aq ev x f=>
  exact bD7
 |more x f=>
  obtain⟨eb,⟨_,_,_,_,_,_,h3⟩,_⟩:=h;exact h3 k hk
theorem kC.sub:∀{fs:List Fr}{vs:LV}{ft:LN},kC L w b fs vs ft->∀k∈ft,k∈L
 |[],[],ft,h,k,hk=>by
  rw[show ft=[]from h]at hk;exact absurd hk Yl
 |f::fs,v::vs,ft,⟨f1,f2,e,h1,h2⟩,k,hk=>by
  rw[e,Zr]at hk;exact hk.elim (h1.sub k) (kC.sub h2 k)
 |[],v::vs,ft,h,k,hk=>h.elim
 |f::fs,[],ft,h,k,hk=>h.elim
theorem kC.len:∀{fs:List Fr}{vs:LV}{ft:LN},kC L w b fs vs ft->fs.length=vs.length
 |[],[],ft,h=>rfl
 |f::fs,v::vs,ft,⟨f1,f2,e,h1,h2⟩=>by simp[kC.len h2]
 |[],v::vs,ft,h=>h.elim
 |f::fs,[],ft,h=>h.elim
theorem bT4{f:Fr}{fs:List Fr}{res:PR (List Ex × Nat)->Prop}(h:gF (f::fs) ps sz r res):sR (dG f ps sz r) fs res:=by
 obtain⟨k,h⟩:=h;cases k with
 |zero=>cases h.1
 |succ k=>
  unfold sR;simp only[rD]at h;split at h;· exact⟨k,h⟩
  . exact h
theorem bPj{res:PR (List Ex × Nat)->Prop}(h:gF [] ps sz r res):res (.ok (ps,sz) r):=by
 obtain⟨k,h⟩:=h;cases k with
 |zero=>exact h.2
 |succ k=>exact h.elim
theorem xN{m:Nat}(h:Below m w0 w)(ht:Tn S L L1 w w1)(hS:∀j∈S,m<=j)(hm:m<=w0.heap.size):Below m w0 w1:=
 ⟨ht.os.trans h.os,ht.tape.trans h.tape,ht.output.trans h.output,Yr h.size ht.size,fun k hk=>(ht.block k (Yt hk (Yr hm h.size)) fun hs=>by have:=hS k hs;omega).trans (h.block k hk)⟩
def IM(b:Nat)(A:OA)(n c:Nat)(all:List Tk)(m:Nat)(w0:World)(b0:Nat)(res:PR (List Ex × Nat)->Prop)(K B:Nat)(k:Nat)(L:LN)(w:World):Prop:=
 ∃r va st vp ps sz fs fts,aP w b A n c all r va st vp ps sz L/\kC L w b fs st fts/\fts.Nodup/\(∀j∈fts,j≠b/\va.ownBlock≠some j/\vp.ownBlock≠some j)/\gF fs ps sz r res/\lL K fs ps.length r.length/\
  k=pZ fs+64*r.length/\k+ps.length<=B/\k+sz<=B/\r.length<=K/\(∀j∈cU b va vp fts,m<=j)/\(∀j,j<m->j≠b0->j∈L)/\Below m w0 w
def cCv(b:Nat)(A:OA)(n c:Nat)(all:List Tk)(m:Nat)(w0:World)(b0:Nat)(res:PR (List Ex × Nat)->Prop)(B:Nat)(L:LN)(w:World):Prop:=
 ∃r va vp ps sz,aP w b A n c all r va [] vp ps sz L/\res (.ok (ps,sz) r)/\ps.length<=B/\sz<=B/\(∀j,j<m->j≠b0->j∈L)/\Below m w0 w
def cDp(b:Nat)(A:OA)(n c:Nat)(m:Nat)(w0:World)(res:PR (List Ex × Nat)->Prop)(w:World):Prop:=
 ∃q,res (.bad q)/\Below m w0 w/\∃Aa Aq Ae,w.heap[b]?=some (.cells (nE (.slice A n c) ((n-q.length:Nat):Int) Aa Aq Ae) 257)
theorem bJm{m b0 K B:Nat}{res:PR (List Ex × Nat)->Prop}(hm:m<=w0.heap.size)(hB:B<=900000)(hK:K<=1000000):
 aQq b A n c all (IM b A n c all m w0 b0 res K B) (cCv b A n c all m w0 b0 res B) (cDp b A n c m w0 res) where
 at_:=by
  intro k L w ⟨r,va,st,vp,ps,sz,fs,fts,hM,hF,Og,Ni,hE,Eu,hk,Ab,Ag,Oa,Np,Nu,Cl⟩;have Hc:=hF.len;have Of:=aZn fs;refine⟨r,va,st,vp,ps,sz,hM,by omega,fun Av=>?_,?_⟩
  . subst Av
    have:fs=[]:=Zu Hc
    subst this;exact⟨r,va,vp,ps,sz,hM,bPj hE,by omega,by omega,Nu,Cl⟩
  . intro v Jx Av g cap Oe w' Ch Nh Nk;subst Av;cases fs with
    |nil=>exact hF.elim
    |cons f Nt=>
     obtain⟨f1,f2,he,Ns,Gw⟩:=hF;subst he;have Cv:=cV hM;have Ka:∀j∈f1++f2,j∉[b]:=fun j hj Od=>(Ni j hj).1 (Yp.1 Od);have Nq:=Ns.up Nk Cv (fun j hj=>Ka j (List.mem_append_left _ hj));have Nl:=Gw.up Nk Cv (fun j hj=>Ka j (List.mem_append_right _ hj));have Ha:=List.nodup_append.1 Og;simp only[Yq]at Hc Of;refine(bT3 (K:=K) Nh aA aA aA hK Eu.1 Nq (fun j hj=>(Ni j (List.mem_append_left _ hj)).2.2)).mono fun e w2 hT=>?_;have Ng:=bT4 hE;have Ax:=aN6 (sz:=sz) (K:=K) f hM.fin Oa Eu.1;have Ny:m<=b:=Np b Zc;have Fs:Below m w0 w':=xN Cl Nk (fun j hj=>by rw[Yp.1 hj];exact Ny) hm;have Js:va.ownBlock=some g:=by rw[Oe];rfl
     have Aa:∀ j∈cU b (.slice (some ⟨g,0,none⟩) Jx.length cap) vp f1,m<=j:=fun j hj=>Np j (by
      simp only[cU,Yw,Zr,Option.mem_toList,Js]at hj⊢;rcases hj with hj|hj|hj|hj;· exact .inl hj
      . exact .inr (.inl hj)
      . exact .inr (.inr (.inl hj))
      . exact .inr (.inr (.inr (.inl hj))))
     cases ho:dG f ps sz r with
     |bad q=>
      rw[ho]at hT Ng;obtain⟨h1,⟨L',Ct⟩,Ad⟩:=hT;have hS:∀j∈cU b (.slice (some ⟨g,0,none⟩) Jx.length cap) vp f1,j∈L:=aMu Nh Ns.sub;exact .inr ⟨h1,⟨q,Ng,xN Fs Ct Aa hm,Ad⟩,_,L',Ct,hS⟩
     |ok z r2=>
      rw[ho]at hT Ng Ax;obtain⟨h1,Nw,Nz,L',vt,Hb,Oh,Oj,Ct,Bm,Nx,Nr,Ae,hg2⟩:=hT;obtain⟨o1,o2,o3,o4,o5,o6⟩:=Ax;have hS:∀j∈cU b (.slice (some ⟨g,0,none⟩) Jx.length cap) vp f1,j∈L:=aMu Nh Ns.sub;have Bs:∀j∈f2,j<w'.heap.size:=fun j hj=>Nh.lv j (Gw.sub j hj)
      have Nm:∀j∈f2,j∉cU b (.slice (some ⟨g,0,none⟩) Jx.length cap) vp f1:=fun j hj Aq=>by
       obtain⟨s1,s2,s3⟩:=Ni j (List.mem_append_right _ hj);simp only[cU,Yw,Zr,Option.mem_toList]at Aq;rcases Aq with Aq|Aq|Aq|Aq;· exact s1 Aq
       . exact s2 (Js.trans Aq)
       . exact s3 Aq
       . exact Ha.2.2 j Aq j hj rfl
      have No:=Nl.up Ct hS Nm
      have Oi:∀j,j<m->j≠b0->j∈L':=fun j hj Ob=>Ct.stay j (Nu j hj Ob) fun hs=>by
       have:=Aa j hs
       omega
      have Nn:m<=w'.heap.size:=Yr hm Fs.size
      have Nj:∀j∈cU b Nw Nz (Hb++f2),m<=j:=fun j hj=>by
       simp only[cU,Yw,Zr,Option.mem_toList]at hj;rcases hj with hj|hj|hj|hj|hj;· rw[hj];exact Ny
       . rcases Ae with Ae|Ae;· exact Aa j (by rw[Ae]at hj;simp[cU,hj])
         . exact Yr Nn (Ae j hj)
       . rcases hg2 with hg2|hg2;· exact Aa j (by rw[hg2]at hj;simp[cU,hj])
         . exact Yr Nn (hg2 j hj)
       . rcases Nx j hj with hj|hj;· exact Aa j (aCc j hj)
         . exact Yr Nn hj
       . exact Np j (aCc j (List.mem_append_right _ hj))
      refine .inl ⟨h1,pZ (z.1++Nt)+64*r2.length,L',?_,⟨r2,Nw,vt++Jx,Nz,z.2.1,z.2.2,z.1++Nt,Hb++f2,Oh,No.append Oj,?_,?_,Ng,lL.append o5 ?_,rfl,?_,?_,by omega,Nj,Oi,xN Fs Ct Aa hm⟩,_,Ct,hS⟩
      . rw[aHg,hk];simp only[pZ];omega
      . refine List.nodup_append.2 ⟨Bm,Ha.2.1,fun i hi j hj Oc=>?_⟩;subst Oc;rcases Nx i hi with Nv|Nv;· exact Ha.2.2 i Nv i hj rfl
        . have:=Bs i hj
          omega
      . intro j hj;rcases Zr.1 hj with hj|hj;· exact Nr j hj
        . obtain⟨s1,s2,s3⟩:=Ni j (List.mem_append_right _ hj);have Ah:=Bs j hj;refine⟨s1,fun hh=>?_,fun hh=>?_⟩
          . rcases Ae with Ae|Ae;· exact s2 (by rw[Js,<-hh,Ae];rfl)
            . have:=Ae j hh
              omega
          . rcases hg2 with hg2|hg2;· exact s3 (by rw[<-hh,hg2])
            . have:=hg2 j hh
              omega
      . rw[o6];exact lL.mono o4 Eu.2
      . rw[aHg];rw[hk]at Ab;simp only[pZ]at Ab;omega
      . rw[aHg];rw[hk]at Ag;simp only[pZ]at Ag;omega
end
end
section
open Go.RowKit Go.Sort
section
variable {w w':World}
theorem bXl{A:OA}{n:Nat}{ss:LB}(h:aS w A n ss)(hs:w.heap.size<=w'.heap.size)(hk:∀p v,(∀t,v≠.bool t)->w.cell? p=some v->w'.cell? p=some v):aS w' A n ss:=
 ⟨h.1,h.2.1,fun hn=>by
  obtain⟨b,off,e,hb,hc⟩:=h.2.2 hn;exact⟨b,off,e,by omega,fun i hi=>hk _ _ (fun t e=>by cases e) (hc i hi)⟩⟩
theorem aT7{x:Ex}{A B:OA}{ca cb:Nat}{j:Nat}{v:Value}(h:(dB x A ca B cb)[j]?=some v)(t:Bool):v≠.bool t:=by
 intro e;subst e
 match j,h with
 |0,h=>simp[dB]at h
 |1,h=>simp[dB]at h
 |2,h=>simp[dB]at h
 |3,h=>simp[dB]at h
 |4,h=>simp[dB]at h
 |5,h=>simp[dB]at h
 |k+6,h=>simp[dB]at h
mutual
theorem aZv(hs:w.heap.size<=w'.heap.size)(hk:∀p v,(∀t,v≠.bool t)->w.cell? p=some v->w'.cell? p=some v):∀(x:Ex)(A B:OA),aM w x A B->aM w' x A B
 |.mk _ _ _ _ Ae Aa,A,B,h=>by
  simp only[aM]at h⊢;refine⟨bXl h.1 hs hk,h.2.1,fun hn=>?_⟩;obtain⟨b,off,e,hb,hr⟩:=h.2.2 hn;exact⟨b,off,e,by omega,aXx hs hk Aa b off hr⟩
theorem aXx(hs:w.heap.size<=w'.heap.size)(hk:∀p v,(∀t,v≠.bool t)->w.cell? p=some v->w'.cell? p=some v):∀(l:List Ex)(b off:Nat),iT w l b off->iT w' l b off
 |[],_,_,_=>by simp only[iT]
 |x::l,b,off,h=>by
  simp only[iT]at h⊢;obtain⟨⟨A,ca,B,cb,h1,h2⟩,h3⟩:=h;exact⟨⟨A,ca,B,cb,fun j v hv=>hk _ _ (aT7 hv) (h1 j v hv),aZv hs hk x A B h2⟩,aXx hs hk l b (off+6) h3⟩
end
end
section
variable {w w0 w1 w2 w':World}{b:Nat}{A:OA}{n c:Nat}{all r r' r2:List Tk}{va va1 vp:Value}{st:LV}{ps:List Ex}{sz:Nat}{L L1 L2 S ft:LN}
def gZ(m b0:Nat)(w:World):World:={ w with heap:=w.heap.mapIdx fun i o=>if i<m/\i≠b0 then .cells #[] 0 else o }
theorem qD{m b0:Nat}{w:World}:(gZ m b0 w).heap.size=w.heap.size:=by simp[gZ]
theorem xO{m b0:Nat}{w:World}{p:Addr}(h:¬(p.block<m/\p.block≠b0)):(gZ m b0 w).cell? p=w.cell? p:=by
 unfold World.cell? gZ;exact bCu
theorem zX{m b0:Nat}{w:World}{p:Addr}{v:Value}(h:(gZ m b0 w).cell? p=some v):w.cell? p=some v/\¬(p.block<m/\p.block≠b0):=by
 by_cases hp:p.block<m/\p.block≠b0
 . unfold World.cell? gZ at h;exact aRh
 . exact⟨by rwa[xO hp]at h,hp⟩
theorem aN8{m b0:Nat}{x:Ex}{A B:OA}{w w':World}(h:aM (gZ m b0 w) x A B)(hs:w.heap.size<=w'.heap.size)(hk:∀k,¬(k<m/\k≠b0)->k<w.heap.size->w'.heap[k]?=w.heap[k]?):aM (gZ m b0 w') x A B:=
 oP (by rw [qD,qD];exact hs) (fun p v hc=>by
  obtain⟨h1,h2⟩:=zX hc;rw[xO h2];have h3:=hk p.block h2 (Yi _ _ h1);unfold World.cell? at h1⊢;rw[h3];exact h1) x A B h
theorem aT8{m b0:Nat}{x:Ex}{A B:OA}{w:World}(h:aM (gZ m b0 w) x A B):aM w x A B:=oP bB5 (fun p v hc=>(zX hc).1) x A B h
theorem bMv{m m' b0:Nat}{x:Ex}{A B:OA}{w:World}(h:aM (gZ m b0 w) x A B)(hm:m'<=m):aM (gZ m' b0 w) x A B:=
 oP (by rw [qD,qD];exact Yh _) (fun p v hc=>by
  obtain⟨h1,h2⟩:=zX hc;rw[xO (fun h3=>h2 ⟨by omega,h3.2⟩)];exact h1) x A B h
def aZw(m b0:Nat)(w':World)(b:Nat)(A:OA)(n c:Nat)(x:Ex)(r1:List Tk):Prop:=
 ∃va g cp x1 A1 ca B1 cb,w'.heap[b]?=some (.cells (nE (.slice A n c) ((n-r1.length:Nat):Int) va (.slice (some ⟨g,0,none⟩) 1 cp) (aT x)) 257)/\
  w'.rangeAt g 0 (dB x1 A1 ca B1 cb)/\aM (gZ m b0 w') x1 A1 B1/\(aT x<=60->x1=x)
def aIc(w':World)(b:Nat)(A:OA)(n c:Nat)(q:List Tk):Prop:=
 ∃va vp sz,w'.heap[b]?=some (.cells (nE (.slice A n c) ((n-q.length:Nat):Int) va vp sz) 257)
theorem bXm{m b0 N:Nat}(hN:r.length<=N)(h:aP w b A n c all r va [] vp [] 0 L)(hr:r.length<=10000)(Ni:m<=b)(Nh:va.ownBlock=none)(Nq:vp.ownBlock=none)(No:∀j,j<m->j≠b0->j∈L)(Bs:m<=w.heap.size):
 Calls Tryz.prog 226 #[rp b,bA b .arrow] w fun e w'=>Below m w w'/\match (aV N).ar r with
  |.ok x r1=>e=.returned (.bool true)/\aU r1/\r1.length<r.length/\aZw m b0 w' b A n c x r1
  |.bad q=>e=.returned (.bool false)/\aIc w' b A n c q:=by
 have Nk:∀{w2 w':World},Below m w w2->aAq w.heap.size w2 w'->Below m w w':=fun h1 h2=>
  ⟨h2.os.trans h1.os,h2.tape.trans h1.tape,h2.output.trans h1.output,Yr h1.size (Xm h2.size.symm),fun k hk=>(h2.block k aA).trans (h1.block k hk)⟩
 have Nv:=h.lt;refine(aZu (bJm (b0:=b0) (all:=all) (c:=c) (A:=A) (n:=n) (b:=b) (m:=m) (K:=10000) (B:=700000) (w0:=w) (res:=fun res=>match (aV N).ar r with
  |.ok x r1=>∃x1,res=.ok ([x1],aT x) r1/\aU r1/\r1.length<r.length/\(aT x<=60->x1=x)
  |.bad r1=>res=.bad r1) Bs aF aF) (.func (lvF .arrow)) #[rp b] #[] h ?_).mono ?_
 . intro w0 w1 va1 L1 Ng Bt Bf Aq
   have hS:∀j∈dZ b va,m<=j:=fun j hj=>by
    simp only[dZ,Yw,Nh,Option.toList_none,Yl,or_false]at hj;rw[hj];exact Ni
   have Ab:Below m w w0:=Ng.mono Bs;have Fs:m<=w0.heap.size:=Yr Bs Ng.size;refine⟨_,r,va1,_,vp,[],0,[.m .arrow],[],Bt,⟨[],[],rfl,⟨rfl,rfl⟩,rfl⟩,List.nodup_nil,fun j hj=>absurd hj Yl,aG4 h.fin hN,⟨trivial,trivial⟩,rfl,?_,?_,hr,fun j hj=>?_,fun j hj Nn=>Bf.stay j (No j hj Nn) fun hs=>by have:=hS j hs;omega,xN Ab Bf hS Bs⟩
   . show 18+0+64*r.length+0<=700000;omega
   . show 18+0+64*r.length+0<=700000;omega
   . simp only[cU,Yw,Zr,Option.mem_toList,Nq,Option.toList_none,Yl,or_false]at hj;rcases hj with hj|hj;· rw[hj];exact Ni
     . rcases Aq with Aq|Aq
       . rw[Aq,Nh]at hj;cases hj
       . exact Yr Fs (Aq j hj)
 . rintro e w' ⟨w2,Cv,⟨rfl,L',⟨r1,Ct,Ha,Nw,Jx,hM,Aa,_,_,Nl,Cl⟩,Hb⟩|⟨rfl,q,Aa,Cl,Ct,Ha,Jx,Ad⟩⟩
   . refine⟨Nk Cl Cv,?_⟩;cases hp:(aV N).ar r with
     |bad q=>
      simp only[hp]at Aa;cases Aa
     |ok x r2=>
      simp only[hp]at Aa;obtain⟨x1,he,h1,h2,h3⟩:=Aa;injection he with Nm Nt;injection Nm with Np Ns;subst Nt Np Ns;refine⟨rfl,h1,h2,?_⟩;obtain⟨cs,ho,hf⟩:=hM.op
      have Nj:∀p v,(∀t,v≠.bool t)->w2.cell? p=some v->w'.cell? p=some v:=fun p v hv hc=>by
       by_cases Hc:p.block=w.heap.size
       . exfalso;unfold World.cell? at hc;rw[Hc,Hb]at hc;simp only at hc;split at hc;· cases hc
         . cases Ae:p.off with
           |zero=>
            rw[Ae]at hc;simp at hc;exact hv _ hc.symm
           |succ j=>
            rw[Ae]at hc;simp at hc
       . unfold World.cell? at hc⊢;rw[Cv.block _ Hc];exact hc
      obtain⟨A1,ca,B1,cb,Nu,hcs,hx,_⟩:=hf
      have Nr:aM (gZ m b0 w') x1 A1 B1:=aZv (by rw [xM,qD,Cv.size];exact Yh _) (fun p v hv hc=>by
       obtain⟨h8,h9⟩:=zV hc;rw[xO fun hh=>h9 (Nl _ hh.1 hh.2)];exact Nj p v hv h8) x1 A1 B1 hx
      rcases ho.2 with⟨_,h9⟩|⟨g,cap,cur,h5,_,hh,_,_,_,_⟩;· cases h9
      . have hv:Ha=.slice (some ⟨g,0,none⟩) 1 cap:=h5;subst hv;refine⟨Ct,g,cap,x1,A1,ca,B1,cb,(Cv.block b aA).trans hM.row,fun j v hv=>?_,Nr,h3⟩;refine Nj _ _ (aT7 hv) ?_;have hj:j<6:=by
         have:=(List.getElem?_eq_some_iff.1 hv).1
         simpa[dB]using this
        have:=ho.cellAt j (by show j<1*6;omega)
        rw[Nat.zero_add,this,hcs,List.getElem?_append_left (by simpa[dB]using hj)];exact hv
   . refine⟨Nk Cl Cv,?_⟩;cases hp:(aV N).ar r with
     |ok x r2=>
      simp only[hp]at Aa;obtain⟨_,he,_⟩:=Aa;cases he
     |bad q2=>
      simp only[hp]at Aa;injection Aa with Aa;subst Aa;exact⟨rfl,Ct,Ha,Jx,(Cv.block b aA).trans Ad⟩
end
end
section
open Go.RowKit Go.Sort
def iM(all:List Tk)(at_:Int):Bool:=decide (0<=at_) && (decide (at_<(all.length:Int)) && ((all[all.length-1]?.getD default).k==6))
section
variable {w w':World}{A:OA}{n c:Nat}{all:List Tk}
theorem aB1(at_:Int)(h:eI w A n all)(ha:-9223372036854775808<=at_/\at_<=9223372036854775807):
 Calls Tryz.prog 225 #[.slice A n c,.int .i64 at_] w fun e w'=>e=.returned (.bool (iM all at_))/\Below w.heap.size w w':=by
 obtain⟨hl,Bs,hc⟩:=h;have hb:iM all at_=(decide (0<=at_) && (decide (at_<(n:Int)) && ((all[n-1]?.getD default).k==6))):=by rw[<-hl];rfl
 rw[hb];clear hb;by_cases h0:0<=at_
 . by_cases h1:at_<(n:Int)
   . have hn:0<n:=by omega
     obtain⟨b0,off,rfl,Ah,Aa⟩:=hc hn;have t0:=(Aa (n-1) aA).1;have Dy:(0:Int)<=(n:Int)-1:=aA;have Aq:(n:Int)-1<(n:Int):=aA;have hw:IntKind.i64.wrap ((n:Int)-1)=((n-1:Nat):Int):=aGh;have Bm:((n-1:Nat):Int)<(n:Int):=aA;have Ct:(0:Int)<=((n-1:Nat):Int):=aA;have Ae:n-1<n:=aA;generalize hm:n-1=m at *;generalize (all[m]?.getD default).k=k at *;clear hc Aa hm;have l0:=fun d os=>Zw t0 d os;go_in
     go_wp2_with fail;go_ret;rw[Xc h0,Xc h1];exact⟨by simp,Yg _ _⟩
   . clear hc;have H1:=Hd h1;go_in
     go_wp2_with fail;go_ret;refine⟨?_,Yg _ _⟩;rw[show decide (at_<(n:Int))=false from Xd (by have:=H1.o;omega)];simp
 . clear hc;have H0:=Hd h0;go_in
   go_wp2_with fail;go_ret;refine⟨?_,Yg _ _⟩;rw[show decide (0<=at_)=false from Xd (by have:=H0.o;omega)];simp
end
end
end Go.Proofs.YtagkcjpoipcpkaaGreatDoor
