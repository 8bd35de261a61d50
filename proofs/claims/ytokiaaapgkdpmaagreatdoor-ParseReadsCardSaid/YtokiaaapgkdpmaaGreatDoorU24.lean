/- Parts: PcC, PcD. Conditions: each theorem's own. -/
import Derived.Test.YtokiaaapgkdpmaaGreatDoorU23
namespace Go.Proofs.YtokiaaapgkdpmaaGreatDoor
set_option linter.unusedVariables false
set_option linter.unusedSimpArgs false
set_option maxRecDepth 100000
set_option maxHeartbeats 40000000
section
open Go.RowKit Go.Sort
section
variable {w:World}{b:Nat}{A:Option Addr}{n c:Nat}{all r:List Tk}{bad:Bool}{m:Nat}
theorem isP_need{s:List UInt8}{r:List Tk}(h:isP s r=true):1≤r.length:=by
 obtain⟨t,r',rfl,_⟩:=isP_cons h
 simp
theorem PostX_any{F:Nat}{args:Array Value}{g0:PR Ex}(H:Calls Tryz.prog F args w (PostX w b A n c all g0)):Calls Tryz.prog F args w fun e w' =>
 ∃ e0 A' ca B' cb bd r1,e=.returned (.agg (exA e0 A' ca B' cb))∧PSt w' b A n c all r1 bd∧Below w.heap.size (bl b w) (bl b w')∧(bd=false∧g0=.ok e0 r1∧rdX (fr w.heap.size w') e0 A' B'∨bd=true∧g0=.bad r1):=
 H.mono fun e w' k=>by
  cases hg:g0 with
  | ok e0 r1=>
   rw[hg] at k;obtain⟨k1,k2,A',ca,B',cb,k3,k4⟩:=k;exact⟨e0,A',ca,B',cb,false,r1,k3,k2,k1,.inl ⟨rfl,rfl,k4⟩⟩
  | bad r1=>
   rw[hg] at k;obtain⟨k1,k2,y,A',ca,B',cb,k3⟩:=k;exact⟨y,A',ca,B',cb,true,r1,k3,k2,k1,.inr ⟨rfl,rfl⟩⟩
theorem if_lit{V:World}{B0:Nat}{x y z:Ex}{A1:Option Addr}{ca1:Nat}{B1:Option Addr}{cb1:Nat}{A2:Option Addr}{ca2:Nat}{B2:Option Addr}{cb2:Nat}{A3:Option Addr}{ca3:Nat}{B3:Option Addr}{cb3:Nat}(hB:B0≤V.heap.size)
 (hx:rdX (fr B0 V) x A1 B1) (hy:rdX (fr B0 V) y A2 B2) (hz:rdX (fr B0 V) z A3 B3) (T:TypeId):
 rdX (fr B0 (V.alloc (.cells (exA3 x A1 ca1 B1 cb1 y A2 ca2 B2 cb2 z A3 ca3 B3 cb3) T))) (.mk 7 0 ByteArray.empty 0 [] [x,y,z]) none (some ⟨V.heap.size,0,none⟩):=by
 rw[rdX_eq];refine⟨RdT.nil_ _,rfl,(show(3:Nat)≤9223372036854775807 by omega),fun _=>⟨V.heap.size,0,rfl,by rw[fr_size,World.size_alloc];omega,three_in (ca1:=ca1) (cb1:=cb1) (ca2:=ca2) (cb2:=cb2) (ca3:=ca3) (cb3:=cb3) (fun j=>?_) ((Kp.alloc B0 V _).tree hx) ((Kp.alloc B0 V _).tree hy) ((Kp.alloc B0 V _).tree hz)⟩⟩;rw[fr_cell hB];exact World.cell?_alloc_new V _ _ j
theorem keep_box{W:World}{g h o:Nat}{cs:Array Value}{O:Obj}{v:Value}(hn:h≠g)(hl:h<W.heap.size)(hv:W.cell? ⟨h,o,none⟩=some v):((W.setRow g cs).alloc O).cell? ⟨h,o,none⟩=some v:=by
 rw[World.cell?_alloc_lt _ _ _ (by rw[setRow_size];exact hl),cell_setRow_other _ _ _ _ hn];exact hv
theorem if_end{w14:World}{g0:PR Ex}{x y z zo:Ex}{Az:Option Addr}{caz:Nat}{Bo:Option Addr}{cbz:Nat}{A1:Option Addr}{ca1:Nat}{B1:Option Addr}{cb1:Nat}{A2:Option Addr}{ca2:Nat}{B2:Option Addr}{cb2:Nat}{A3:Option Addr}{ca3:Nat}{B3:Option Addr}{cb3:Nat}{bd:Bool}{r9:List Tk}{B0:Nat}
 (hb:Below w.heap.size (bl b w) (bl b w14)) (hp:PSt w14 b A n c all r9 bd) (hr:RowX w14 w.heap.size zo Az caz Bo cbz) (hgb:w.heap.size≠b) (hA:∀ b0 off,A=some ⟨b0,off,none⟩→b0<w.heap.size) (hB:w.heap.size<B0) (hB2:B0≤w14.heap.size)
 (hG:bd=false∧g0=.ok (.mk 7 0 ByteArray.empty 0 [] [x,y,z]) r9∧rdX (fr B0 w14) x A1 B1∧rdX (fr B0 w14) y A2 B2∧rdX (fr B0 w14) z A3 B3∨bd=true∧g0=.bad r9):
 PostX w b A n c all g0 (.returned (.agg (exA (.mk 7 0 ⟨#[]⟩ 0 [] [x,y,z]) none 0 (some ⟨w14.heap.size,0,none⟩) 3))) ((w14.setRow w.heap.size (exA (.mk 7 0 ⟨#[]⟩ 0 [] [x,y,z]) none 0 (some ⟨w14.heap.size,0,none⟩) 3)).alloc (.cells (exA3 x A1 ca1 B1 cb1 y A2 ca2 B2 cb2 z A3 ca3 B3 cb3) 26)) ∧
  RowX ((w14.setRow w.heap.size (exA (.mk 7 0 ⟨#[]⟩ 0 [] [x,y,z]) none 0 (some ⟨w14.heap.size,0,none⟩) 3)).alloc (.cells (exA3 x A1 ca1 B1 cb1 y A2 ca2 B2 cb2 z A3 ca3 B3 cb3) 26)) w.heap.size (.mk 7 0 ⟨#[]⟩ 0 [] [x,y,z]) none 0 (some ⟨w14.heap.size,0,none⟩) 3:=by
 have hp1:PSt (w14.setRow w.heap.size (exA (.mk 7 0 ⟨#[]⟩ 0 [] [x,y,z]) none 0 (some ⟨w14.heap.size,0,none⟩) 3)) b A n c all r9 bd:=hp.setRow hgb (fun b0 off e=>by have:=hA b0 off e;omega) _;have hb1:=kb_alloc (kb_setRow hb hgb (Nat.le_refl _) (exA (.mk 7 0 ⟨#[]⟩ 0 [] [x,y,z]) none 0 (some ⟨w14.heap.size,0,none⟩) 3)) hp1.lt (.cells (exA3 x A1 ca1 B1 cb1 y A2 ca2 B2 cb2 z A3 ca3 B3 cb3) 26);refine⟨?_,hr.set.alloc _⟩;rcases hG with⟨rfl,h2,h3,h4,h5⟩|⟨rfl,h2⟩
 · rw[h2];refine⟨hb1,hp1.alloc _,none,0,some ⟨w14.heap.size,0,none⟩,3,rfl,tree_down (B2:=B0) ?_ (Nat.le_of_lt hB)⟩;have hk:Kp B0 w14 (w14.setRow w.heap.size (exA (.mk 7 0 ⟨#[]⟩ 0 [] [x,y,z]) none 0 (some ⟨w14.heap.size,0,none⟩) 3)):=Kp.setRow _ _ hB;have h6:=if_lit (V:=w14.setRow w.heap.size (exA (.mk 7 0 ⟨#[]⟩ 0 [] [x,y,z]) none 0 (some ⟨w14.heap.size,0,none⟩) 3)) (B0:=B0) (ca1:=ca1) (cb1:=cb1) (ca2:=ca2) (cb2:=cb2) (ca3:=ca3) (cb3:=cb3) (by rw[setRow_size];exact hB2) (hk.tree h3) (hk.tree h4) (hk.tree h5) 26;rw[setRow_size] at h6;exact h6
 · rw[h2];exact⟨hb1,hp1.alloc _,_,none,0,some ⟨w14.heap.size,0,none⟩,3,rfl⟩
theorem prAtom(ar po:Psr)(HAR:SpecX 30 ar m)(hla:Less ar)(HPO:SpecX 172 po m)(hm:m≤1000000):SpecX 179 (atomP ar po) (m+1):=by
 intro w b A n c all r h hr;have hA:=Hd h.home;have hlt:=h.lt
 go_enter Tryz.func179,Tryz.ntmps179
 go_upto_region 1 with(fail)
 generalize hw1:w.alloc _=w1;obtain⟨hP1,hR1,hB1,hgb,hg1⟩:=res_box h hw1;have HP1:=Hd hP1;have HR1:=Hd hR1;have HB1:=Hd hB1;have p2:w1.cell? ⟨b,2,none⟩=some (.bool false):=hP1.cell 2;have htl:∀ s,isP s r=true→r.tail.length≤m:=fun s hs=>tail_le hs hr;have HTL:=Hd htl;clear hP1 hR1 hB1 hw1 h htl
 go_wp2_with fail
 refine(prPlain HP1.out).mono ?_;rintro x w2 ⟨hB,px,bo,r2,rfl,hpx,hP,hT⟩;have HP2:=Hd hP;have HB2:=Hd (kb_trans HB1.out hB);have HR2:=Hd (HR1.out.kb hgb hB);have hs2:=kb_size hB;clear hP hB p2;unfold exA
 go_upto_region 4 with(fail)
 generalize hw3:w2.alloc _=w3;obtain⟨hP,hE,hB,hgb3,hg3,_⟩:=ex_box (x:=px) (A1:=none) (ca1:=0) (B1:=none) (cb1:=0) HP2.out hw3;have HP3:=Hd hP;have HE3:=Hd hE;have HB3:=Hd (kb_trans HB2.out hB);have HR3:=Hd (HR2.out.kb hgb hB);have hs3:=kb_size hB;clear hP hE hB hw3 HP2 HB2 HR2;generalize hhb:w2.heap.size=hb at *
 cases bo with
 | true=>
  have hpl:plainP r=some (px,r2):=by simpa using hT
  go_wp2_with (first | (refine wpList_load_row rfl _ _ rfl (hb) rfl _ _ _ _ (HE3.out) Tryz.underlying26 rfl ex_info ?_) | (refine wpList_store_row rfl _ _ _ rfl (w.heap.size) _ rfl rfl _ _ (HR3.out) ex_info rfl (by simp[exA,Value.oneCell']) ?_))
  obtain⟨f1,f3⟩:=ex_end (x:=px) (A1:=none) (ca1:=0) (B1:=none) (cb1:=0) (B0:=w1.heap.size) (g0:=atomP ar po r) HB3.out HP3.out HR3.out hgb hA.out (by omega) (.inl ⟨rfl,by simp only[atomP,hpl],hpx _⟩);exact bodyPost_ret (res_ex rfl _ _ (w.heap.size) _ rfl rfl f3) rfl f1
 | false=>
  have hpl:plainP r=none∧r2=r:=by simpa using hT
  obtain⟨hpl,rfl⟩:=hpl;have HPL:=Hd hpl;clear hT hpl HE3
  cases h1:isP [91] r2 with
  | true=>
   have HAT:=Hd (show atomP ar po r2=(listP ar [93] r2.tail).bind fun l r=>.ok (Ex.mk 14 0 ByteArray.empty 0 [] l) r from by simp only[atomP,HPL.out,h1,if_true])
   go_wp2_with fail
   refine(take_yes ⟨#[91]⟩ HP3.out h1).mono ?_;rintro x w4 ⟨rfl,hP,hB⟩;have HP4:=Hd hP;have HB4:=Hd (kb_trans HB3.out hB);have HR4:=Hd (HR3.out.kb hgb hB);have hs4:=kb_size hB;clear hP hB
   go_wp2_with fail
   refine(prList ar ⟨#[93]⟩ HAR hla hm HP4.out (HTL.out _ h1)).mono ?_;rintro x w5 ⟨kk,g4,c4,cs,bd,r5,rfl,hO,hkk,hP,hB,hT0⟩
   obtain⟨l,rfl,hT⟩:∃ l:List Ex,l.length=kk∧(bd=false∧atomP ar po r2=.ok (.mk 14 0 ByteArray.empty 0 [] l) r5∧flX (fx w4.heap.size [g4] w5) l cs∨bd=true∧atomP ar po r2=.bad r5):=by
    rcases hT0 with⟨h1,l,h2,h3,h4⟩|⟨h1,h2⟩
    · exact⟨l,h3,.inl ⟨h1,by rw[HAT.out,show listP ar [93] r2.tail=.ok l r5 from h2];rfl,h4⟩⟩
    · exact⟨List.replicate kk zX,by simp,.inr ⟨h1,by rw[HAT.out,show listP ar [93] r2.tail=.bad r5 from h2];rfl⟩⟩
   have HO5:=Hd hO;have HP5:=Hd hP;have HB5:=Hd (kb_trans HB4.out hB);have HR5:=Hd (HR4.out.kb hgb hB);have HT5:=Hd hT;clear hO hP hB hT hT0
   go_wp2_with (refine wpList_store_row rfl _ _ _ rfl (w.heap.size) _ rfl rfl _ _ (HR5.out) ex_info rfl (by simp[exA,Value.oneCell']) ?_)
   have hG:bd=false∧atomP ar po r2=.ok (.mk 14 0 ByteArray.empty 0 [] l) r5∧rdX (fr w4.heap.size w5) (.mk 14 0 ByteArray.empty 0 [] l) none (some ⟨g4,0,none⟩)∨bd=true∧atomP ar po r2=.bad r5:=by
    rcases HT5.out with⟨a1,a2,a3⟩ | a1
    · refine .inl ⟨a1,a2,?_⟩;rw[rdX_eq];exact⟨RdT.nil_ _,row_rd (B2:=w4.heap.size) HO5.out rfl a3 (Nat.le_refl _) (by show l.length≤_;omega)⟩
    · exact .inr a1
   obtain⟨f1,f3⟩:=ex_end (ca1:=0) (cb1:=c4) HB5.out HP5.out HR5.out hgb hA.out (by omega) hG;exact bodyPost_ret (res_ex rfl _ _ (w.heap.size) _ rfl rfl f3) rfl f1
  | false=>
   go_wp2_with fail
   refine(take_no ⟨#[91]⟩ HP3.out (show(!false && isP _ _)=false by rw[Bool.not_false,Bool.true_and];exact h1)).mono ?_;rintro x w4 ⟨rfl,hP,hB⟩;have HP4:=Hd hP;have HB4:=Hd (kb_trans HB3.out hB);have HR4:=Hd (HR3.out.kb hgb hB);have hs4:=kb_size hB;clear hP hB;clear HP3 HB3 HR3
   cases h2:isP [40] r2 with
   | true=>
    go_wp2_with fail
    refine(take_yes ⟨#[40]⟩ HP4.out h2).mono ?_;rintro x w5 ⟨rfl,hP,hB⟩;have HP5:=Hd hP;have HB5:=Hd (kb_trans HB4.out hB);have HR5:=Hd (HR4.out.kb hgb hB);have hs5:=kb_size hB;clear hP hB
    go_wp2_with fail
    refine(SpecX.any (prRound ar HAR hla) HP5.out (HTL.out _ h2)).mono ?_;rintro x w9 ⟨e0,A9,ca9,B9,cb9,bd,r9,rfl,hP,hB,hT⟩;have HP9:=Hd hP;have HB9:=Hd (kb_trans HB5.out hB);have HR9:=Hd (HR5.out.kb hgb hB);have HT9:=Hd hT;clear hP hB hT;unfold exA
    go_wp2_with (refine wpList_store_row rfl _ _ _ rfl (w.heap.size) _ rfl rfl _ _ (HR9.out) ex_info rfl (by simp[exA,Value.oneCell']) ?_)
    obtain⟨f1,f3⟩:=ex_end (x:=e0) (A1:=A9) (ca1:=ca9) (B1:=B9) (cb1:=cb9) (B0:=w5.heap.size) (g0:=atomP ar po r2) HB9.out HP9.out HR9.out hgb hA.out (by omega) (by rw[show atomP ar po r2=roundP ar r2.tail from by simp only[atomP,HPL.out,h1,h2,if_true,Bool.false_eq_true,if_false]];exact HT9.out);exact bodyPost_ret (res_ex rfl _ _ (w.heap.size) _ rfl rfl f3) rfl f1
   | false=>
    go_wp2_with fail
    refine(take_no ⟨#[40]⟩ HP4.out (show(!false && isP _ _)=false by rw[Bool.not_false,Bool.true_and];exact h2)).mono ?_;rintro x w5 ⟨rfl,hP,hB⟩;have HP5:=Hd hP;have HB5:=Hd (kb_trans HB4.out hB);have HR5:=Hd (HR4.out.kb hgb hB);have hs5:=kb_size hB;clear hP hB;clear HP4 HB4 HR4
    cases h3:isP mergeL r2 with
    | true=>
     go_wp2_with fail
     refine(take_yes ⟨#[109,101,114,103,101]⟩ HP5.out h3).mono ?_;rintro x w6 ⟨rfl,hP,hB⟩;have HP6:=Hd hP;have HB6:=Hd (kb_trans HB5.out hB);have HR6:=Hd (HR5.out.kb hgb hB);have hs6:=kb_size hB;clear hP hB
     go_wp2_with fail
     refine(PostX_any (prMerge ar HAR hla hm HP6.out (HTL.out _ h3))).mono ?_;rintro x w9 ⟨e0,A9,ca9,B9,cb9,bd,r9,rfl,hP,hB,hT⟩;have HP9:=Hd hP;have HB9:=Hd (kb_trans HB6.out hB);have HR9:=Hd (HR6.out.kb hgb hB);have HT9:=Hd hT;clear hP hB hT;unfold exA
     go_wp2_with (refine wpList_store_row rfl _ _ _ rfl (w.heap.size) _ rfl rfl _ _ (HR9.out) ex_info rfl (by simp[exA,Value.oneCell']) ?_)
     obtain⟨f1,f3⟩:=ex_end (x:=e0) (A1:=A9) (ca1:=ca9) (B1:=B9) (cb1:=cb9) (B0:=w6.heap.size) (g0:=atomP ar po r2) HB9.out HP9.out HR9.out hgb hA.out (by omega) (by rw[show atomP ar po r2=mergeP ar r2.tail from by simp only[atomP,HPL.out,h1,h2,h3,if_true,Bool.false_eq_true,if_false]];exact HT9.out);exact bodyPost_ret (res_ex rfl _ _ (w.heap.size) _ rfl rfl f3) rfl f1
    | false=>
     go_wp2_with fail
     refine(take_no ⟨#[109,101,114,103,101]⟩ HP5.out (show(!false && isP _ _)=false by rw[Bool.not_false,Bool.true_and];exact h3)).mono ?_;rintro x w6 ⟨rfl,hP,hB⟩;have HP6:=Hd hP;have HB6:=Hd (kb_trans HB5.out hB);have HR6:=Hd (HR5.out.kb hgb hB);have hs6:=kb_size hB;clear hP hB;clear HP5 HB5 HR5
     cases h4:isP ifL r2 with
     | true=>
      go_wp2_with fail
      refine(take_yes ⟨#[105,102]⟩ HP6.out h4).mono ?_;rintro x w7 ⟨rfl,hP,hB⟩;have HP7:=Hd hP;have HB7:=Hd (kb_trans HB6.out hB);have HR7:=Hd (HR6.out.kb hgb hB);have hs7:=kb_size hB;clear hP hB;have HG0:=Hd (show atomP ar po r2=(ar r2.tail).bind fun a r=>(needP thenL r).bind fun _ r=>(ar r).bind fun b r=>(needP elseL r).bind fun _ r=>(ar r).bind fun c r=>.ok (Ex.mk 7 0 ByteArray.empty 0 [] [a,b,c]) r from by simp only[atomP,ifP,HPL.out,h1,h2,h3,h4,if_true,Bool.false_eq_true,if_false]);have hl7:=HTL.out _ h4;generalize atomP ar po r2=g0 at *
      go_wp2_with fail
      refine(arrowAny HAR hla HP7.out (fun _=>hl7)).mono ?_;rintro x w8 ⟨e0,A8,ca8,B8,cb8,bd8,r8,rfl,hP,hB,hT⟩;have HP8:=Hd hP;have HB8:=Hd (kb_trans HB7.out hB);have HR8:=Hd (HR7.out.kb hgb hB);have hs8:=kb_size hB;have HI8:=Hd (show bd8=false∧g0=(needP thenL r8).bind _∧(r8.length≤m∧rdX (fr w1.heap.size w8) e0 A8 B8)∨bd8=true∧g0=.bad r8 from(inv_step (X:=True) (.inl ⟨rfl,HG0.out,trivial⟩) hT).imp (fun⟨a1,⟨u,⟨y1,y2,y3⟩,e⟩,_⟩=>⟨a1,(by subst y1;exact e),by omega,tree_down y3 (by omega)⟩) id);clear hP hB hT;unfold exA
      go_upto_region 14 with(fail)
      generalize hw9:w8.alloc _=w9;obtain⟨hP,hE,hB,hgx,hg9,_⟩:=ex_box HP8.out hw9;have HP9:=Hd hP;have HX9:=Hd hE;have HB9:=Hd (kb_trans HB8.out hB);have HR9:=Hd (HR8.out.kb hgb hB);have HK9:=Hd (Kp.of_kb (B:=w1.heap.size) hB (by omega));have hs9:=kb_size hB;have hnx:w8.heap.size≠w.heap.size:=by omega
      have hx1:w1.heap.size≤w8.heap.size:=by omega
      clear hP hE hB hw9;generalize hhx:w8.heap.size=hx at *
      go_wp2_with fail
      refine(needStep ⟨#[116,104,101,110]⟩ HP9.out).mono ?_;rintro x w10 ⟨rfl,bd10,r10,hP,hB,hN⟩;have HP10:=Hd hP;have HB10:=Hd (kb_trans HB9.out hB);have HR10:=Hd (HR9.out.kb hgb hB);have HX10:=Hd (HX9.out.kb hgx hB);have HK10:=Hd (HK9.out.trans (Kp.of_kb (B:=w1.heap.size) hB (by omega)));have hs10:=kb_size hB;have HI10:=Hd (show bd10=false∧g0=(ar r10).bind _∧(r10.length≤m∧rdX (fr w1.heap.size w10) e0 A8 B8)∨bd10=true∧g0=.bad r10 from(inv_step HI8.out hN).imp (fun⟨a1,⟨u,y,e⟩,x1,x2⟩=>⟨a1,e,by omega,HK10.out.tree x2⟩) id);clear hP hB hN HI8
      go_wp2_with fail
      refine(arrowAny HAR hla HP10.out (fun hq=>(HI10.out.resolve_right (by rintro ⟨h,_⟩;rw[hq] at h;cases h)).2.2.1)).mono ?_;rintro x w11 ⟨e1,A11,ca11,B11,cb11,bd11,r11,rfl,hP,hB,hT⟩;have HP11:=Hd hP;have HB11:=Hd (kb_trans HB10.out hB);have HR11:=Hd (HR10.out.kb hgb hB);have HX11:=Hd (HX10.out.kb hgx hB);have HK11:=Hd (Kp.of_kb (B:=w1.heap.size) hB (by omega));have hs11:=kb_size hB;have HI11:=Hd (show bd11=false∧g0=(needP elseL r11).bind _∧(r11.length≤m∧rdX (fr w1.heap.size w11) e0 A8 B8∧rdX (fr w1.heap.size w11) e1 A11 B11)∨bd11=true∧g0=.bad r11 from(inv_step HI10.out hT).imp (fun⟨a1,⟨u,⟨y1,y2,y3⟩,e⟩,x1,x2⟩=>⟨a1,(by subst y1;exact e),by omega,HK11.out.tree x2,tree_down y3 (by omega)⟩) id);clear hP hB hT HI10;unfold exA
      go_upto_region 16 with(fail)
      generalize hw12:w11.alloc _=w12;obtain⟨hP,hE,hB,hgy,hg12,_⟩:=ex_box HP11.out hw12;have HP12:=Hd hP;have HY12:=Hd hE;have HB12:=Hd (kb_trans HB11.out hB);have HR12:=Hd (HR11.out.kb hgb hB);have HX12:=Hd (HX11.out.kb hgx hB);have HK12:=Hd (Kp.of_kb (B:=w1.heap.size) hB (by omega));have hs12:=kb_size hB;have hny:w11.heap.size≠w.heap.size:=by omega
      clear hP hE hB hw12;generalize hhy:w11.heap.size=hy at *
      go_wp2_with fail
      refine(needStep ⟨#[101,108,115,101]⟩ HP12.out).mono ?_;rintro x w13 ⟨rfl,bd13,r13,hP,hB,hN⟩;have HP13:=Hd hP;have HB13:=Hd (kb_trans HB12.out hB);have HR13:=Hd (HR12.out.kb hgb hB);have HX13:=Hd (HX12.out.kb hgx hB);have HY13:=Hd (HY12.out.kb hgy hB);have HK13:=Hd (HK12.out.trans (Kp.of_kb (B:=w1.heap.size) hB (by omega)));have hs13:=kb_size hB;have HI13:=Hd (show bd13=false∧g0=(ar r13).bind _∧(r13.length≤m∧rdX (fr w1.heap.size w13) e0 A8 B8∧rdX (fr w1.heap.size w13) e1 A11 B11)∨bd13=true∧g0=.bad r13 from(inv_step HI11.out hN).imp (fun⟨a1,⟨u,y,e⟩,x1,x2,x3⟩=>⟨a1,e,by omega,HK13.out.tree x2,HK13.out.tree x3⟩) id);clear hP hB hN HI11;have HNX:=Hd (show hx≠b∧hy≠b∧hx≠w.heap.size∧hy≠w.heap.size from⟨hgx,hgy,hnx,hny⟩);obtain⟨q0,q1,q2,q3,q4,q5⟩:=HX13.out.cells;obtain⟨p0,p1,p2,p3,p4,p5⟩:=HY13.out.cells
      go_upto_region 17 with(fail)
      refine wp_region_held_drew (S:=(fun W=>W.cell? ⟨hx,0,none⟩=some (.int .i64 e0.k)∧W.cell? ⟨hx,1,none⟩=some (.int .i64 e0.n)∧W.cell? ⟨hx,2,none⟩=some (.string e0.s)∧W.cell? ⟨hx,3,none⟩=some (.int .i64 e0.op)∧W.cell? ⟨hx,4,none⟩=some (.slice A8 e0.arms.length ca8)∧W.cell? ⟨hx,5,none⟩=some (.slice B8 e0.subs.length cb8)∧W.cell? ⟨hy,0,none⟩=some (.int .i64 e1.k)∧W.cell? ⟨hy,1,none⟩=some (.int .i64 e1.n)∧W.cell? ⟨hy,2,none⟩=some (.string e1.s)∧W.cell? ⟨hy,3,none⟩=some (.int .i64 e1.op)∧W.cell? ⟨hy,4,none⟩=some (.slice A11 e1.arms.length ca11)∧W.cell? ⟨hy,5,none⟩=some (.slice B11 e1.subs.length cb11))) (by kernel_rfl) ?_ (fun hHeld=>?_)
      · exact⟨q0,q1,q2,q3,q4,q5,p0,p1,p2,p3,p4,p5⟩
      refine wpAnyH_take (i:=0) (oi:=?oi1) (v:=.agg #[.int .i64 e0.k,.int .i64 e0.n,.string e0.s,.int .i64 e0.op,.slice A8 e0.arms.length ca8,.slice B8 e0.subs.length cb8]) ?h1x1 (by kernel_rfl) ?h3x1 (by kernel_rfl) ?h5x1 (Or.inl ⟨?h6x1,?h7x1⟩) hHeld ?h8x1
      case h1x1=>
       simp only[Ya,Yb,Yc];rfl
      case h3x1=>kernel_rfl
      case h5x1=>exact fun _ _ _ h=>h
      case h6x1=>rfl
      case h7x1=>
       intro W hSW
       (try dsimp only at hSW)
       go_split_ands
       first | (go_simp;done) | (go_simp;with_reducible rfl)
      (try simp only[Act.put,Yd,Ye,Yf])
      refine wpAnyH_take (i:=1) (oi:=?oi2) (v:=.agg #[.int .i64 e1.k,.int .i64 e1.n,.string e1.s,.int .i64 e1.op,.slice A11 e1.arms.length ca11,.slice B11 e1.subs.length cb11]) ?h1x2 (by kernel_rfl) ?h3x2 (by kernel_rfl) ?h5x2 (Or.inl ⟨?h6x2,?h7x2⟩) hHeld ?h8x2
      case h1x2=>
       simp only[Ya,Yb,Yc];rfl
      case h3x2=>kernel_rfl
      case h5x2=>exact fun _ _ _ h=>h
      case h6x2=>rfl
      case h7x2=>
       intro W hSW
       (try dsimp only at hSW)
       go_split_ands
       first | (go_simp;done) | (go_simp;with_reducible rfl)
      (try simp only[Act.put,Yd,Ye,Yf])
      refine wpAnyH_take (i:=2) (oi:=?oi3) (v:=.pointer (some ⟨b,0,none⟩)) ?h1x3 (by kernel_rfl) ?h3x3 (by kernel_rfl) ?h5x3 (Or.inl ⟨?h6x3,?h7x3⟩) hHeld ?h8x3
      case h1x3=>
       simp only[Ya,Yb,Yc];rfl
      case h3x3=>kernel_rfl
      case h5x3=>exact fun _ _ _ h=>h
      case h6x3=>rfl
      case h7x3=>
       intro W hSW
       (try dsimp only at hSW)
       go_split_ands
       first | (go_simp;done) | (go_simp;with_reducible rfl)
      (try simp only[Act.put,Yd,Ye,Yf])
      refine wpAnyH_ready (rs:=[3]) (by kernel_rfl) (by simp) ?_;refine AllReadyH.cons (by rfl) (fun K hK=>?_) ?_
      · go_simp
        go_at_call 30
        refine(arrowAnyD HAR hla HP13.out (fun hq=>(HI13.out.resolve_right (by rintro ⟨h,_⟩;rw[hq] at h;cases h)).2.2.1)).mono ?_;rintro x w14 ⟨e2,A14,ca14,B14,cb14,bd14,r14,rfl,hP,hB,hT⟩;have HP14:=Hd hP;have HB14:=Hd (kb_trans HB13.out hB);have HR14:=Hd (HR13.out.kb hgb hB);have HX14:=Hd (HX13.out.kb HNX.out.1 hB);have HY14:=Hd (HY13.out.kb HNX.out.2.1 hB);have HK14:=Hd (Kp.of_kb (B:=w1.heap.size) hB (by omega));have HT14:=Hd hT;have hs14:=kb_size hB;have hyc:=HY14.out.cells;have lx14:=HX14.out.lt;have ly14:=HY14.out.lt;have lr14:=HR14.out.lt;obtain⟨d0,d1,d2,d3,d4,d5⟩:=HR14.out.cells;have f0:=HR14.out.fz 0;have f1:=HR14.out.fz 1;have f2:=HR14.out.fz 2;have f3:=HR14.out.fz 3;have f4:=HR14.out.fz 4;have f5:=HR14.out.fz 5;clear q0 q1 q2 q3 q4 q5 p0 p1 p2 p3 p4 p5;obtain⟨q0,q1,q2,q3,q4,q5⟩:=HX14.out.cells;obtain⟨p0,p1,p2,p3,p4,p5⟩:=HY14.out.cells;clear hP hB hT;have hsx:=six_set HR14.out (.mk 7 0 ⟨#[]⟩ 0 [] [e0,e1,e2]) none 0 (some ⟨w14.heap.size,0,none⟩) 3;simp only[Ex.k,Ex.n,Ex.s,Ex.op,Ex.arms,Ex.subs,List.length_nil,List.length_cons] at hsx;have HSX:=Hd hsx;clear hsx;unfold exA;refine hK.out _ _ ?_ (fun hHeld=>?_)
        · exact⟨q0,q1,q2,q3,q4,q5,p0,p1,p2,p3,p4,p5⟩
        clear hK K
        (try simp only[Act.put,Yd,Ye,Yf])
        refine wpAnyH_ready (rs:=[4]) (by kernel_rfl) (by simp) ?_;refine AllReadyH.cons (by rfl) (fun K hK=>?_) ?_
        · go_simp
          refine hK.out _ _ ?_ (fun hHeld=>?_)
          · exact⟨(World.cell?_alloc_lt _ _ _ lx14).trans q0,(World.cell?_alloc_lt _ _ _ lx14).trans q1,(World.cell?_alloc_lt _ _ _ lx14).trans q2,(World.cell?_alloc_lt _ _ _ lx14).trans q3,(World.cell?_alloc_lt _ _ _ lx14).trans q4,(World.cell?_alloc_lt _ _ _ lx14).trans q5,(World.cell?_alloc_lt _ _ _ ly14).trans p0,(World.cell?_alloc_lt _ _ _ ly14).trans p1,(World.cell?_alloc_lt _ _ _ ly14).trans p2,(World.cell?_alloc_lt _ _ _ ly14).trans p3,(World.cell?_alloc_lt _ _ _ ly14).trans p4,(World.cell?_alloc_lt _ _ _ ly14).trans p5⟩
          clear hK K
          (try simp only[Act.put,Yd,Ye,Yf])
          refine wpAnyH_take (i:=5) (oi:=?oi4) (v:=?v4) ?h1x4 (by kernel_rfl) ?h3x4 (by kernel_rfl) ?h5x4 (Or.inl ⟨?h6x4,?h7x4⟩) hHeld ?h8x4
          case h1x4=>
           simp only[Ya,Yb,Yc];rfl
          case h3x4=>kernel_rfl
          case h5x4=>exact fun _ _ _ h=>h
          case h6x4=>rfl
          case h7x4=>
           intro W hSW
           (try dsimp only at hSW)
           go_split_ands
           first | (go_simp;done) | (go_simp;with_reducible rfl)
          (try simp only[Act.put,Yd,Ye,Yf])
          refine wpAnyH_ready (rs:=[6]) (by kernel_rfl) (by simp) ?_;refine AllReadyH.cons (by rfl) (fun K hK=>?_) ?_
          · go_simp
            refine hK.out _ _ ?_ (fun hHeld=>?_)
            · (rw[HSX.out];exact⟨keep_box HNX.out.2.2.1 lx14 q0,keep_box HNX.out.2.2.1 lx14 q1,keep_box HNX.out.2.2.1 lx14 q2,keep_box HNX.out.2.2.1 lx14 q3,keep_box HNX.out.2.2.1 lx14 q4,keep_box HNX.out.2.2.1 lx14 q5,keep_box HNX.out.2.2.2 ly14 p0,keep_box HNX.out.2.2.2 ly14 p1,keep_box HNX.out.2.2.2 ly14 p2,keep_box HNX.out.2.2.2 ly14 p3,keep_box HNX.out.2.2.2 ly14 p4,keep_box HNX.out.2.2.2 ly14 p5⟩)
            clear hK K
            (try simp only[Act.put,Yd,Ye,Yf])
            refine wpAnyH_done (by kernel_rfl) ?_ _;rw[HSX.out]
            go_wp2_with fail
            obtain⟨z1,z3⟩:=if_end (ca1:=ca8) (cb1:=cb8) (ca2:=ca11) (cb2:=cb11) (ca3:=ca14) (cb3:=cb14) (B0:=w1.heap.size) (g0:=g0) HB14.out HP14.out HR14.out hgb hA.out (by omega) (by omega) ((inv_step HI13.out HT14.out).imp (fun⟨a1,⟨u,⟨y1,y2,y3⟩,e⟩,x1,x2,x3⟩=>⟨a1,(by subst y1;exact e),HK14.out.tree x2,HK14.out.tree x3,tree_down y3 (by omega)⟩) id);exact bodyPost_ret (res_ex rfl _ _ (w.heap.size) _ rfl rfl z3) rfl z1
          exact AllReadyH.nil
        exact AllReadyH.nil
      exact AllReadyH.nil
     | false=>
      go_wp2_with fail
      refine(take_no ⟨#[105,102]⟩ HP6.out (show(!false && isP _ _)=false by rw[Bool.not_false,Bool.true_and];exact h4)).mono ?_;rintro x w7 ⟨rfl,hP,hB⟩;have HP7:=Hd hP;have HB7:=Hd (kb_trans HB6.out hB);have HR7:=Hd (HR6.out.kb hgb hB);have hs7:=kb_size hB;clear hP hB;clear HP6 HB6 HR6;have HAT:=Hd (show atomP ar po r2=(nameP r2).bind fun s r=>if isP [40] r=true then callP ar po s r.tail else .ok (Ex.mk 3 0 (ofB s) 0 [] []) r from by simp only[atomP,HPL.out,h1,h2,h3,h4,Bool.false_eq_true,if_false])
      go_wp2_with fail
      refine(nameAny HP7.out).mono ?_;rintro x w8 ⟨sv,bd8,r8,rfl,hP,hB,hT⟩;have HP8:=Hd hP;have HB8:=Hd (kb_trans HB7.out hB);have HR8:=Hd (HR7.out.kb hgb hB);have HT8:=Hd hT;have hs8:=kb_size hB;clear hP hB hT
      cases h5:(!bd8 && isP [40] r8) with
      | true=>
       have hi:isP [40] r8=true:=by revert h5;cases bd8 <;> simp
       have hbd:bd8=false:=by revert h5;cases bd8 <;> simp
       obtain⟨_,_,a,ha,hsv,hl8⟩:=HT8.out.resolve_right (by rintro ⟨h,_⟩;rw[hbd] at h;cases h);subst hsv;have HE8:=Hd (show atomP ar po r2=callP ar po a r8.tail from by rw[HAT.out,ha,PR.bind_ok,if_pos hi])
       have hl9:r8.tail.length≤m:=by
        have:=isP_need hi;have h6:r8.tail.length=r8.length-1:=by simp
        omega
       go_wp2_with fail
       refine(take_yes ⟨#[40]⟩ (hbd ▸ HP8.out) hi).mono ?_;rintro x w10 ⟨rfl,hP,hB⟩;have HP10:=Hd hP;have HB10:=Hd (kb_trans HB8.out hB);have HR10:=Hd (HR8.out.kb hgb hB);have hs10:=kb_size hB;clear hP hB ha
       go_wp2_with fail
       refine(PostX_any (prCall ar po a HAR hla HPO hm HP10.out hl9)).mono ?_;rintro x w9 ⟨e0,A9,ca9,B9,cb9,bd,r9,rfl,hP,hB,hT⟩;have HP9:=Hd hP;have HB9:=Hd (kb_trans HB10.out hB);have HR9:=Hd (HR10.out.kb hgb hB);have HT9:=Hd hT;clear hP hB hT;unfold exA
       go_wp2_with (refine wpList_store_row rfl _ _ _ rfl (w.heap.size) _ rfl rfl _ _ (HR9.out) ex_info rfl (by simp[exA,Value.oneCell']) ?_)
       obtain⟨f1,f3⟩:=ex_end (x:=e0) (A1:=A9) (ca1:=ca9) (B1:=B9) (cb1:=cb9) (B0:=w10.heap.size) (g0:=atomP ar po r2) HB9.out HP9.out HR9.out hgb hA.out (by omega) (by rw[HE8.out];exact HT9.out);exact bodyPost_ret (res_ex rfl _ _ (w.heap.size) _ rfl rfl f3) rfl f1
      | false=>
       go_wp2_with fail
       refine(take_no ⟨#[40]⟩ HP8.out h5).mono ?_;rintro x w10 ⟨rfl,hP,hB⟩;have HP10:=Hd hP;have HB10:=Hd (kb_trans HB8.out hB);have HR10:=Hd (HR8.out.kb hgb hB);have hs10:=kb_size hB;clear hP hB
       go_wp2_with (refine wpList_store_row rfl _ _ _ rfl (w.heap.size) _ rfl rfl _ _ (HR10.out) ex_info rfl (by simp[exA,Value.oneCell']) ?_)
       obtain⟨f1,f3⟩:=ex_end (x:=.mk 3 0 sv 0 [] []) (A1:=none) (ca1:=0) (B1:=none) (cb1:=0) (B0:=w1.heap.size) (g0:=atomP ar po r2) HB10.out HP10.out HR10.out hgb hA.out (by omega) (by
        rcases HT8.out with⟨a1,_,a,a2,a3,a4⟩|⟨a1,a2⟩
        · have hi:isP [40] r8=false:=by rw[a1] at h5;simpa using h5
          exact .inl ⟨a1,by rw[HAT.out,a2,PR.bind_ok,if_neg (by rw[hi];simp),a3],rdX_nil _ _ _ _ _⟩
        · exact .inr ⟨a1,by rw[HAT.out,show nameP r2=.bad r8 from a2];rfl⟩)
       exact bodyPost_ret (res_ex rfl _ _ (w.heap.size) _ rfl rfl f3) rfl f1
end
end
section
open Go.RowKit Go.Sort
structure AllS (n:Nat):Prop where
 ar:SpecX 30 (psN n).ar n
 fb:SpecX 60 (psN n).fb n
 un:SpecX 169 (psN n).un n
 po:SpecX 172 (psN n).po n
theorem specX_zero(F:Nat)(g:Psr):SpecX F g 0:=fun w b A n c all r h hr=>by
 have:=h.pos;omega
theorem allS:∀ n,n≤1000000→AllS n
 | 0,_=>⟨specX_zero _ _,specX_zero _ _,specX_zero _ _,specX_zero _ _⟩
 | n+1,hn=>by
  have H:=allS n (by omega);have hl:=ps_less n;have hat:=prAtom (psN n).ar (psN n).po H.ar hl.ar H.po (by omega:n≤1000000);have hpo:=prPost (psN n).ar (psN n).po hat (atom_less hl.ar hl.po) H.ar hl.ar;have hun:=prUn (psN n) H.un hpo;have hprod:=prProd (psN n) hun (un_less hl);have hsum:=prSum (psN n) hprod (prod_less hl);have hcmp:=prCmp (psN n) hsum (sum_less hl);have hand:=prAnd (psN n) hcmp (cmp_less hl);have hor:=prOr (psN n) hand (and_less hl);have hfb:=prFby (psN n) H.fb hor (or_less hl);exact⟨prArrow (psN n) H.ar hfb (fby_less hl),hfb,hun,hpo⟩
theorem refArrow{N:Nat}(hN:N≤1000000):SpecX 30 (psN N).ar N:=(allS N hN).ar
end
end Go.Proofs.YtokiaaapgkdpmaaGreatDoor
