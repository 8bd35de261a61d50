/- Parts: PaX, PaY. Conditions: each theorem's own. -/
import Derived.Deep.RegionWith
import Derived.Test.YtokiaaapgkdpmaaGreatDoorU12
namespace Go.Proofs.YtokiaaapgkdpmaaGreatDoor
set_option linter.unusedVariables false
set_option linter.unusedSimpArgs false
set_option maxRecDepth 100000
set_option maxHeartbeats 40000000
section
open Go.RowKit Go.Sort
section
variable {w:World}{b:Nat}{A:Option Addr}{n c:Nat}{all r:List Tk}{bad:Bool}{m:Nat}
theorem res_box{w1:World}(h:PSt w b A n c all r bad)(hw:w.alloc (.cells (exA zX none 0 none 0) 26)=w1):
 PSt w1 b A n c all r bad∧RowX w1 w.heap.size zX none 0 none 0∧Below w.heap.size (bl b w) (bl b w1)∧w.heap.size≠b∧w.heap.size<w1.heap.size:=by
 subst hw;refine⟨h.alloc _,?_,bl_of ((Below.refl _ _).alloc (Nat.le_refl _) _),by have:=h.lt;omega,by simp⟩;exact heap_alloc_new _ _
theorem fin_any{w0 w3:World}{g:Nat}{old x:Ex}{Ao:Option Addr}{cao:Nat}{Bo:Option Addr}{cbo:Nat}{cs:Array Value}{T:TypeId}{A1:Option Addr}{ca1:Nat}{B1:Option Addr}{cb1:Nat}{bd:Bool}
 (hb:Below w0.heap.size (bl b w0) (bl b w3)) (hp:PSt w3 b A n c all r bd) (hr:RowX w3 g old Ao cao Bo cbo) (hg:g≠b) (hw:w0.heap.size≤g) (hA:∀ b0 off,A=some ⟨b0,off,none⟩→b0<w0.heap.size):
 let W:=(w3.alloc (.cells cs T)).setRow g (exA x A1 ca1 B1 cb1)
 Below w0.heap.size (bl b w0) (bl b W)∧PSt W b A n c all r bd∧RowX W g x A1 ca1 B1 cb1:=
 ⟨kb_setRow (kb_alloc hb hp.lt _) hg hw _,(hp.alloc _).setRow hg (fun b0 off e=>by have:=hA b0 off e;omega) _,(hr.alloc _).set⟩
theorem fin_same{w0 w3:World}{g:Nat}{old x:Ex}{Ao:Option Addr}{cao:Nat}{Bo:Option Addr}{cbo:Nat}{A1:Option Addr}{ca1:Nat}{B1:Option Addr}{cb1:Nat}{bd:Bool}
 (hb:Below w0.heap.size (bl b w0) (bl b w3)) (hp:PSt w3 b A n c all r bd) (hr:RowX w3 g old Ao cao Bo cbo) (hg:g≠b) (hw:w0.heap.size≤g) (hA:∀ b0 off,A=some ⟨b0,off,none⟩→b0<w0.heap.size):
 let W:=w3.setRow g (exA x A1 ca1 B1 cb1)
 Below w0.heap.size (bl b w0) (bl b W)∧PSt W b A n c all r bd∧RowX W g x A1 ca1 B1 cb1:=
 ⟨kb_setRow hb hg hw _,hp.setRow hg (fun b0 off e=>by have:=hA b0 off e;omega) _,hr.set⟩
theorem tree_one{w3:World}{g B B0:Nat}{y:Ex}{A':Option Addr}{ca:Nat}{B':Option Addr}{cb:Nat}(k n2:Int)(s:ByteArray)(op:Int)(cs:Array Value)(hgB:g<B)(hB:B≤w3.heap.size)(h0:B0≤B)(hy:rdX (fr B w3) y A' B'):
 rdX (fr B0 ((w3.alloc (.cells (exA y A' ca B' cb) 26)).setRow g cs)) (.mk k n2 s op [] [y]) none (some ⟨w3.heap.size,0,none⟩):=by
 refine tree_down ?_ h0;refine(Kp.setRow _ cs hgB).tree ?_;rw[rdX_eq];exact⟨RdT.nil_ _,RdX.in_fr (l:=[y]) hB (show(1:Nat)≤9223372036854775807 by omega) (by rw[World.size_alloc];omega) (lit_one hB hy _)⟩
theorem prUn(P:Ps)(HU:SpecX 169 P.un m)(HPO:SpecX 172 (postP P.ar P.po) (m+1)):SpecX 169 (unP P) (m+1):=by
 intro w b A n c all r h hm;have hA:=h.home;have hlt:=h.lt
 have htl:∀ s,isP s r=true→r.tail.length≤m:=fun s hs=>by
  obtain⟨t,r',rfl,_⟩:=isP_cons hs
  simp at hm ⊢
  omega
 cases h1:isP [45] r with
 | true=>
  cases hq:P.un r.tail with
  | ok y r2=>
   rw[show unP P r=.ok (Ex.mk 5 0 ByteArray.empty 1 [] [y]) r2 by simp[unP,h1,hq]];have hE:=hq;clear hq
   go_enter Tryz.func169,Tryz.ntmps169
   go_upto_region 1 with(fail)
   generalize hw1:w.alloc _=w1;obtain⟨hP1,hR1,hB1,hgb,hg1⟩:=res_box h hw1;have HP1:=Hd hP1;have HR1:=Hd hR1;have HB1:=Hd hB1;clear hP1 hR1 hB1 hw1
   go_wp2_with fail
   refine(take_yes ⟨#[45]⟩ HP1.out h1).mono ?_;rintro e w2 ⟨rfl,hP,hB⟩;have HP2:=Hd hP;have HB2:=Hd (kb_trans HB1.out hB);have HR2:=Hd (HR1.out.kb hgb hB);have hs2:=kb_size hB;clear hP hB
   go_wp2_with fail
   refine(PPost.ok_ (HU w2 b A n c all _ HP2.out (htl _ h1)) hE).mono ?_;rintro e w3 ⟨⟨A3,ca3,B3,cb3,rfl,hy⟩,hP,hB⟩;have HY3:=Hd hy;have HP3:=Hd hP;have HB3:=Hd (kb_trans HB2.out hB);have HR3:=Hd (HR2.out.kb hgb hB);have hs3:=kb_size hB;clear hP hB hy;unfold exA
   go_wp2_with (refine wpList_store_row rfl _ _ _ rfl (w.heap.size) _ rfl rfl _ _ (HR3.out.alloc _) ex_info rfl (by simp[Value.oneCell']) ?_)
   obtain⟨f1,f2,f3⟩:=(fin_any (x:=(.mk 5 0 ByteArray.empty 1 [] [y])) (A1:=none) (ca1:=0) (B1:=some ⟨w3.heap.size,0,none⟩) (cb1:=1) (cs:=exA y A3 ca3 B3 cb3) (T:=26) HB3.out HP3.out HR3.out hgb (Nat.le_refl _) hA);exact bodyPost_ret (res_ex rfl _ _ (w.heap.size) _ rfl rfl f3) rfl ⟨f1,f2,_,_,_,_,rfl,tree_one 5 0 ByteArray.empty 1 _ (by omega) hs3 (by omega) HY3.out⟩
  | bad r2=>
   rw[show unP P r=.bad r2 by simp[unP,h1,hq]];have hE:=hq;clear hq
   go_enter Tryz.func169,Tryz.ntmps169
   go_upto_region 1 with(fail)
   generalize hw1:w.alloc _=w1;obtain⟨hP1,hR1,hB1,hgb,hg1⟩:=res_box h hw1;have HP1:=Hd hP1;have HR1:=Hd hR1;have HB1:=Hd hB1;clear hP1 hR1 hB1 hw1
   go_wp2_with fail
   refine(take_yes ⟨#[45]⟩ HP1.out h1).mono ?_;rintro e w2 ⟨rfl,hP,hB⟩;have HP2:=Hd hP;have HB2:=Hd (kb_trans HB1.out hB);have HR2:=Hd (HR1.out.kb hgb hB);have hs2:=kb_size hB;clear hP hB
   go_wp2_with fail
   refine(PPost.bad_ (HU w2 b A n c all _ HP2.out (htl _ h1)) hE).mono ?_;rintro e w3 ⟨⟨y,A3,ca3,B3,cb3,rfl⟩,hP,hB⟩;have HP3:=Hd hP;have HB3:=Hd (kb_trans HB2.out hB);have HR3:=Hd (HR2.out.kb hgb hB);have hs3:=kb_size hB;clear hP hB;unfold exA
   go_wp2_with (refine wpList_store_row rfl _ _ _ rfl (w.heap.size) _ rfl rfl _ _ (HR3.out.alloc _) ex_info rfl (by simp[Value.oneCell']) ?_)
   obtain⟨f1,f2,f3⟩:=(fin_any (x:=(.mk 5 0 ByteArray.empty 1 [] [y])) (A1:=none) (ca1:=0) (B1:=some ⟨w3.heap.size,0,none⟩) (cb1:=1) (cs:=exA y A3 ca3 B3 cb3) (T:=26) HB3.out HP3.out HR3.out hgb (Nat.le_refl _) hA);exact bodyPost_ret (res_ex rfl _ _ (w.heap.size) _ rfl rfl f3) rfl ⟨f1,f2,(.mk 5 0 ByteArray.empty 1 [] [y]),_,_,_,_,rfl⟩
 | false=>
  cases h2:isP notL r with
  | true=>
   cases hq:P.un r.tail with
   | ok y r2=>
    rw[show unP P r=.ok (Ex.mk 5 0 ByteArray.empty 2 [] [y]) r2 by simp[unP,h1,h2,hq]];have hE:=hq;clear hq
    go_enter Tryz.func169,Tryz.ntmps169
    go_upto_region 1 with(fail)
    generalize hw1:w.alloc _=w1;obtain⟨hP1,hR1,hB1,hgb,hg1⟩:=res_box h hw1;have HP1:=Hd hP1;have HR1:=Hd hR1;have HB1:=Hd hB1;clear hP1 hR1 hB1 hw1
    go_wp2_with fail
    refine(take_no ⟨#[45]⟩ HP1.out (show(!false && isP _ _)=false by rw[Bool.not_false,Bool.true_and];exact h1)).mono ?_;rintro e w2 ⟨rfl,hP,hB⟩;have HP2:=Hd hP;have HB2:=Hd (kb_trans HB1.out hB);have HR2:=Hd (HR1.out.kb hgb hB);have hs2:=kb_size hB;clear hP hB
    go_wp2_with fail
    refine(take_yes ⟨#[110,111,116]⟩ HP2.out h2).mono ?_;rintro e w3 ⟨rfl,hP,hB⟩;have HP3:=Hd hP;have HB3:=Hd (kb_trans HB2.out hB);have HR3:=Hd (HR2.out.kb hgb hB);have hs3:=kb_size hB;clear hP hB
    go_wp2_with fail
    refine(PPost.ok_ (HU w3 b A n c all _ HP3.out (htl _ h2)) hE).mono ?_;rintro e w4 ⟨⟨A4,ca4,B4,cb4,rfl,hy⟩,hP,hB⟩;have HY4:=Hd hy;have HP4:=Hd hP;have HB4:=Hd (kb_trans HB3.out hB);have HR4:=Hd (HR3.out.kb hgb hB);have hs4:=kb_size hB;clear hP hB hy;unfold exA
    go_wp2_with (refine wpList_store_row rfl _ _ _ rfl (w.heap.size) _ rfl rfl _ _ (HR4.out.alloc _) ex_info rfl (by simp[Value.oneCell']) ?_)
    obtain⟨f1,f2,f3⟩:=(fin_any (x:=(.mk 5 0 ByteArray.empty 2 [] [y])) (A1:=none) (ca1:=0) (B1:=some ⟨w4.heap.size,0,none⟩) (cb1:=1) (cs:=exA y A4 ca4 B4 cb4) (T:=26) HB4.out HP4.out HR4.out hgb (Nat.le_refl _) hA);exact bodyPost_ret (res_ex rfl _ _ (w.heap.size) _ rfl rfl f3) rfl ⟨f1,f2,_,_,_,_,rfl,tree_one 5 0 ByteArray.empty 2 _ (by omega) hs4 (by omega) HY4.out⟩
   | bad r2=>
    rw[show unP P r=.bad r2 by simp[unP,h1,h2,hq]];have hE:=hq;clear hq
    go_enter Tryz.func169,Tryz.ntmps169
    go_upto_region 1 with(fail)
    generalize hw1:w.alloc _=w1;obtain⟨hP1,hR1,hB1,hgb,hg1⟩:=res_box h hw1;have HP1:=Hd hP1;have HR1:=Hd hR1;have HB1:=Hd hB1;clear hP1 hR1 hB1 hw1
    go_wp2_with fail
    refine(take_no ⟨#[45]⟩ HP1.out (show(!false && isP _ _)=false by rw[Bool.not_false,Bool.true_and];exact h1)).mono ?_;rintro e w2 ⟨rfl,hP,hB⟩;have HP2:=Hd hP;have HB2:=Hd (kb_trans HB1.out hB);have HR2:=Hd (HR1.out.kb hgb hB);have hs2:=kb_size hB;clear hP hB
    go_wp2_with fail
    refine(take_yes ⟨#[110,111,116]⟩ HP2.out h2).mono ?_;rintro e w3 ⟨rfl,hP,hB⟩;have HP3:=Hd hP;have HB3:=Hd (kb_trans HB2.out hB);have HR3:=Hd (HR2.out.kb hgb hB);have hs3:=kb_size hB;clear hP hB
    go_wp2_with fail
    refine(PPost.bad_ (HU w3 b A n c all _ HP3.out (htl _ h2)) hE).mono ?_;rintro e w4 ⟨⟨y,A4,ca4,B4,cb4,rfl⟩,hP,hB⟩;have HP4:=Hd hP;have HB4:=Hd (kb_trans HB3.out hB);have HR4:=Hd (HR3.out.kb hgb hB);have hs4:=kb_size hB;clear hP hB;unfold exA
    go_wp2_with (refine wpList_store_row rfl _ _ _ rfl (w.heap.size) _ rfl rfl _ _ (HR4.out.alloc _) ex_info rfl (by simp[Value.oneCell']) ?_)
    obtain⟨f1,f2,f3⟩:=(fin_any (x:=(.mk 5 0 ByteArray.empty 2 [] [y])) (A1:=none) (ca1:=0) (B1:=some ⟨w4.heap.size,0,none⟩) (cb1:=1) (cs:=exA y A4 ca4 B4 cb4) (T:=26) HB4.out HP4.out HR4.out hgb (Nat.le_refl _) hA);exact bodyPost_ret (res_ex rfl _ _ (w.heap.size) _ rfl rfl f3) rfl ⟨f1,f2,(.mk 5 0 ByteArray.empty 2 [] [y]),_,_,_,_,rfl⟩
  | false=>
   cases h3:isP preL r with
   | true=>
    cases hq:P.un r.tail with
    | ok y r2=>
     rw[show unP P r=.ok (Ex.mk 10 0 ByteArray.empty 0 [] [y]) r2 by simp[unP,h1,h2,h3,hq]];have hE:=hq;clear hq
     go_enter Tryz.func169,Tryz.ntmps169
     go_upto_region 1 with(fail)
     generalize hw1:w.alloc _=w1;obtain⟨hP1,hR1,hB1,hgb,hg1⟩:=res_box h hw1;have HP1:=Hd hP1;have HR1:=Hd hR1;have HB1:=Hd hB1;clear hP1 hR1 hB1 hw1
     go_wp2_with fail
     refine(take_no ⟨#[45]⟩ HP1.out (show(!false && isP _ _)=false by rw[Bool.not_false,Bool.true_and];exact h1)).mono ?_;rintro e w2 ⟨rfl,hP,hB⟩;have HP2:=Hd hP;have HB2:=Hd (kb_trans HB1.out hB);have HR2:=Hd (HR1.out.kb hgb hB);have hs2:=kb_size hB;clear hP hB
     go_wp2_with fail
     refine(take_no ⟨#[110,111,116]⟩ HP2.out (show(!false && isP _ _)=false by rw[Bool.not_false,Bool.true_and];exact h2)).mono ?_;rintro e w3 ⟨rfl,hP,hB⟩;have HP3:=Hd hP;have HB3:=Hd (kb_trans HB2.out hB);have HR3:=Hd (HR2.out.kb hgb hB);have hs3:=kb_size hB;clear hP hB
     go_wp2_with fail
     refine(take_yes ⟨#[112,114,101]⟩ HP3.out h3).mono ?_;rintro e w4 ⟨rfl,hP,hB⟩;have HP4:=Hd hP;have HB4:=Hd (kb_trans HB3.out hB);have HR4:=Hd (HR3.out.kb hgb hB);have hs4:=kb_size hB;clear hP hB
     go_wp2_with fail
     refine(PPost.ok_ (HU w4 b A n c all _ HP4.out (htl _ h3)) hE).mono ?_;rintro e w5 ⟨⟨A5,ca5,B5,cb5,rfl,hy⟩,hP,hB⟩;have HY5:=Hd hy;have HP5:=Hd hP;have HB5:=Hd (kb_trans HB4.out hB);have HR5:=Hd (HR4.out.kb hgb hB);have hs5:=kb_size hB;clear hP hB hy;unfold exA
     go_wp2_with (refine wpList_store_row rfl _ _ _ rfl (w.heap.size) _ rfl rfl _ _ (HR5.out.alloc _) ex_info rfl (by simp[Value.oneCell']) ?_)
     obtain⟨f1,f2,f3⟩:=(fin_any (x:=(.mk 10 0 ByteArray.empty 0 [] [y])) (A1:=none) (ca1:=0) (B1:=some ⟨w5.heap.size,0,none⟩) (cb1:=1) (cs:=exA y A5 ca5 B5 cb5) (T:=26) HB5.out HP5.out HR5.out hgb (Nat.le_refl _) hA);exact bodyPost_ret (res_ex rfl _ _ (w.heap.size) _ rfl rfl f3) rfl ⟨f1,f2,_,_,_,_,rfl,tree_one 10 0 ByteArray.empty 0 _ (by omega) hs5 (by omega) HY5.out⟩
    | bad r2=>
     rw[show unP P r=.bad r2 by simp[unP,h1,h2,h3,hq]];have hE:=hq;clear hq
     go_enter Tryz.func169,Tryz.ntmps169
     go_upto_region 1 with(fail)
     generalize hw1:w.alloc _=w1;obtain⟨hP1,hR1,hB1,hgb,hg1⟩:=res_box h hw1;have HP1:=Hd hP1;have HR1:=Hd hR1;have HB1:=Hd hB1;clear hP1 hR1 hB1 hw1
     go_wp2_with fail
     refine(take_no ⟨#[45]⟩ HP1.out (show(!false && isP _ _)=false by rw[Bool.not_false,Bool.true_and];exact h1)).mono ?_;rintro e w2 ⟨rfl,hP,hB⟩;have HP2:=Hd hP;have HB2:=Hd (kb_trans HB1.out hB);have HR2:=Hd (HR1.out.kb hgb hB);have hs2:=kb_size hB;clear hP hB
     go_wp2_with fail
     refine(take_no ⟨#[110,111,116]⟩ HP2.out (show(!false && isP _ _)=false by rw[Bool.not_false,Bool.true_and];exact h2)).mono ?_;rintro e w3 ⟨rfl,hP,hB⟩;have HP3:=Hd hP;have HB3:=Hd (kb_trans HB2.out hB);have HR3:=Hd (HR2.out.kb hgb hB);have hs3:=kb_size hB;clear hP hB
     go_wp2_with fail
     refine(take_yes ⟨#[112,114,101]⟩ HP3.out h3).mono ?_;rintro e w4 ⟨rfl,hP,hB⟩;have HP4:=Hd hP;have HB4:=Hd (kb_trans HB3.out hB);have HR4:=Hd (HR3.out.kb hgb hB);have hs4:=kb_size hB;clear hP hB
     go_wp2_with fail
     refine(PPost.bad_ (HU w4 b A n c all _ HP4.out (htl _ h3)) hE).mono ?_;rintro e w5 ⟨⟨y,A5,ca5,B5,cb5,rfl⟩,hP,hB⟩;have HP5:=Hd hP;have HB5:=Hd (kb_trans HB4.out hB);have HR5:=Hd (HR4.out.kb hgb hB);have hs5:=kb_size hB;clear hP hB;unfold exA
     go_wp2_with (refine wpList_store_row rfl _ _ _ rfl (w.heap.size) _ rfl rfl _ _ (HR5.out.alloc _) ex_info rfl (by simp[Value.oneCell']) ?_)
     obtain⟨f1,f2,f3⟩:=(fin_any (x:=(.mk 10 0 ByteArray.empty 0 [] [y])) (A1:=none) (ca1:=0) (B1:=some ⟨w5.heap.size,0,none⟩) (cb1:=1) (cs:=exA y A5 ca5 B5 cb5) (T:=26) HB5.out HP5.out HR5.out hgb (Nat.le_refl _) hA);exact bodyPost_ret (res_ex rfl _ _ (w.heap.size) _ rfl rfl f3) rfl ⟨f1,f2,(.mk 10 0 ByteArray.empty 0 [] [y]),_,_,_,_,rfl⟩
   | false=>
    cases hq:postP P.ar P.po r with
    | ok y r2=>
     rw[show unP P r=.ok y r2 by simp[unP,h1,h2,h3,hq]];have hE:=hq;clear hq
     go_enter Tryz.func169,Tryz.ntmps169
     go_upto_region 1 with(fail)
     generalize hw1:w.alloc _=w1;obtain⟨hP1,hR1,hB1,hgb,hg1⟩:=res_box h hw1;have HP1:=Hd hP1;have HR1:=Hd hR1;have HB1:=Hd hB1;clear hP1 hR1 hB1 hw1
     go_wp2_with fail
     refine(take_no ⟨#[45]⟩ HP1.out (show(!false && isP _ _)=false by rw[Bool.not_false,Bool.true_and];exact h1)).mono ?_;rintro e w2 ⟨rfl,hP,hB⟩;have HP2:=Hd hP;have HB2:=Hd (kb_trans HB1.out hB);have HR2:=Hd (HR1.out.kb hgb hB);have hs2:=kb_size hB;clear hP hB
     go_wp2_with fail
     refine(take_no ⟨#[110,111,116]⟩ HP2.out (show(!false && isP _ _)=false by rw[Bool.not_false,Bool.true_and];exact h2)).mono ?_;rintro e w3 ⟨rfl,hP,hB⟩;have HP3:=Hd hP;have HB3:=Hd (kb_trans HB2.out hB);have HR3:=Hd (HR2.out.kb hgb hB);have hs3:=kb_size hB;clear hP hB
     go_wp2_with fail
     refine(take_no ⟨#[112,114,101]⟩ HP3.out (show(!false && isP _ _)=false by rw[Bool.not_false,Bool.true_and];exact h3)).mono ?_;rintro e w4 ⟨rfl,hP,hB⟩;have HP4:=Hd hP;have HB4:=Hd (kb_trans HB3.out hB);have HR4:=Hd (HR3.out.kb hgb hB);have hs4:=kb_size hB;clear hP hB
     go_wp2_with fail
     refine(PPost.ok_ (HPO w4 b A n c all _ HP4.out hm) hE).mono ?_;rintro e w5 ⟨⟨A5,ca5,B5,cb5,rfl,hy⟩,hP,hB⟩;have HY5:=Hd hy;have HP5:=Hd hP;have HB5:=Hd (kb_trans HB4.out hB);have HR5:=Hd (HR4.out.kb hgb hB);have hs5:=kb_size hB;clear hP hB hy;unfold exA
     go_wp2_with (refine wpList_store_row rfl _ _ _ rfl (w.heap.size) _ rfl rfl _ _ (HR5.out) ex_info rfl (by simp[Value.oneCell']) ?_)
     obtain⟨f1,f2,f3⟩:=(fin_same (x:=y) (A1:=A5) (ca1:=ca5) (B1:=B5) (cb1:=cb5) HB5.out HP5.out HR5.out hgb (Nat.le_refl _) hA);exact bodyPost_ret (res_ex rfl _ _ (w.heap.size) _ rfl rfl f3) rfl ⟨f1,f2,_,_,_,_,rfl,tree_down ((Kp.setRow _ _ (by omega)).tree HY5.out) (show w.heap.size≤w4.heap.size by omega)⟩
    | bad r2=>
     rw[show unP P r=.bad r2 by simp[unP,h1,h2,h3,hq]];have hE:=hq;clear hq
     go_enter Tryz.func169,Tryz.ntmps169
     go_upto_region 1 with(fail)
     generalize hw1:w.alloc _=w1;obtain⟨hP1,hR1,hB1,hgb,hg1⟩:=res_box h hw1;have HP1:=Hd hP1;have HR1:=Hd hR1;have HB1:=Hd hB1;clear hP1 hR1 hB1 hw1
     go_wp2_with fail
     refine(take_no ⟨#[45]⟩ HP1.out (show(!false && isP _ _)=false by rw[Bool.not_false,Bool.true_and];exact h1)).mono ?_;rintro e w2 ⟨rfl,hP,hB⟩;have HP2:=Hd hP;have HB2:=Hd (kb_trans HB1.out hB);have HR2:=Hd (HR1.out.kb hgb hB);have hs2:=kb_size hB;clear hP hB
     go_wp2_with fail
     refine(take_no ⟨#[110,111,116]⟩ HP2.out (show(!false && isP _ _)=false by rw[Bool.not_false,Bool.true_and];exact h2)).mono ?_;rintro e w3 ⟨rfl,hP,hB⟩;have HP3:=Hd hP;have HB3:=Hd (kb_trans HB2.out hB);have HR3:=Hd (HR2.out.kb hgb hB);have hs3:=kb_size hB;clear hP hB
     go_wp2_with fail
     refine(take_no ⟨#[112,114,101]⟩ HP3.out (show(!false && isP _ _)=false by rw[Bool.not_false,Bool.true_and];exact h3)).mono ?_;rintro e w4 ⟨rfl,hP,hB⟩;have HP4:=Hd hP;have HB4:=Hd (kb_trans HB3.out hB);have HR4:=Hd (HR3.out.kb hgb hB);have hs4:=kb_size hB;clear hP hB
     go_wp2_with fail
     refine(PPost.bad_ (HPO w4 b A n c all _ HP4.out hm) hE).mono ?_;rintro e w5 ⟨⟨y,A5,ca5,B5,cb5,rfl⟩,hP,hB⟩;have HP5:=Hd hP;have HB5:=Hd (kb_trans HB4.out hB);have HR5:=Hd (HR4.out.kb hgb hB);have hs5:=kb_size hB;clear hP hB;unfold exA
     go_wp2_with (refine wpList_store_row rfl _ _ _ rfl (w.heap.size) _ rfl rfl _ _ (HR5.out) ex_info rfl (by simp[Value.oneCell']) ?_)
     obtain⟨f1,f2,f3⟩:=(fin_same (x:=y) (A1:=A5) (ca1:=ca5) (B1:=B5) (cb1:=cb5) HB5.out HP5.out HR5.out hgb (Nat.le_refl _) hA);exact bodyPost_ret (res_ex rfl _ _ (w.heap.size) _ rfl rfl f3) rfl ⟨f1,f2,y,_,_,_,_,rfl⟩
end
end
section
open Go.RowKit Go.Sort
section
variable {w:World}{b:Nat}{A:Option Addr}{n c:Nat}{all r:List Tk}{bad:Bool}{m:Nat}
theorem ex_box{w w1:World}{x:Ex}{A1:Option Addr}{ca1:Nat}{B1:Option Addr}{cb1:Nat}(h:PSt w b A n c all r bad)(hw:w.alloc (.cells (exA x A1 ca1 B1 cb1) 26)=w1):
 PSt w1 b A n c all r bad∧RowX w1 w.heap.size x A1 ca1 B1 cb1∧Below w.heap.size (bl b w) (bl b w1)∧w.heap.size≠b∧w.heap.size<w1.heap.size∧∀ B,Kp B w w1:=by
 subst hw;refine⟨h.alloc _,heap_alloc_new _ _,bl_of ((Below.refl _ _).alloc (Nat.le_refl _) _),by have:=h.lt;omega,by simp,fun B=>Kp.alloc B w _⟩
theorem RowX.cells{w:World}{g:Nat}{x:Ex}{A1:Option Addr}{ca1:Nat}{B1:Option Addr}{cb1:Nat}(h:RowX w g x A1 ca1 B1 cb1):
 w.cell? ⟨g,0,none⟩=some (.int .i64 x.k)∧w.cell? ⟨g,1,none⟩=some (.int .i64 x.n)∧w.cell? ⟨g,2,none⟩=some (.string x.s)∧w.cell? ⟨g,3,none⟩=some (.int .i64 x.op) ∧
  w.cell? ⟨g,4,none⟩=some (.slice A1 x.arms.length ca1)∧w.cell? ⟨g,5,none⟩=some (.slice B1 x.subs.length cb1):=by
 have hc:∀ j,w.cell? ⟨g,j,none⟩=(exA x A1 ca1 B1 cb1)[j]?:=fun j=>by
  unfold World.cell?;rw[show w.heap[(⟨g,j,none⟩:Addr).block]?=_ from h];rfl
 exact⟨hc 0,hc 1,hc 2,hc 3,hc 4,hc 5⟩
theorem RowX.fz{w:World}{g:Nat}{x:Ex}{A1:Option Addr}{ca1:Nat}{B1:Option Addr}{cb1:Nat}(h:RowX w g x A1 ca1 B1 cb1)(j:Nat):w.frozen? ⟨g,j,none⟩=false:=by
 unfold World.frozen?;rw[show w.heap[(⟨g,j,none⟩:Addr).block]?=_ from h]
 simp
theorem RowX.other{g h:Nat}{x:Ex}{A1:Option Addr}{ca1:Nat}{B1:Option Addr}{cb1:Nat}(k:RowX w g x A1 ca1 B1 cb1)(hn:g≠h)(cs:Array Value):RowX (w.setRow h cs) g x A1 ca1 B1 cb1:=(setRow_other _ _ _ _ hn).trans k
theorem RowX.drew{g:Nat}{x:Ex}{A1:Option Addr}{ca1:Nat}{B1:Option Addr}{cb1:Nat}(k:RowX w g x A1 ca1 B1 cb1):RowX w.drew g x A1 ca1 B1 cb1:=k
theorem six_set{w:World}{g:Nat}{x:Ex}{A1:Option Addr}{ca1:Nat}{B1:Option Addr}{cb1:Nat}(h:RowX w g x A1 ca1 B1 cb1)(y:Ex)(A2:Option Addr)(ca2:Nat)(B2:Option Addr)(cb2:Nat):
 (((((w.setCell ⟨g,0,none⟩ (.int .i64 y.k)).setCell ⟨g,1,none⟩ (.int .i64 y.n)).setCell ⟨g,2,none⟩ (.string y.s)).setCell ⟨g,3,none⟩ (.int .i64 y.op)).setCell ⟨g,4,none⟩ (.slice A2 y.arms.length ca2)).setCell ⟨g,5,none⟩ (.slice B2 y.subs.length cb2)=w.setRow g (exA y A2 ca2 B2 cb2):=by
 have h0:w.heap[g]?=some (.cells (exA x A1 ca1 B1 cb1) 26 (0,0)):=h;rw[setCell_eq_setRow _ _ _ _ _ _ _ h0];have h1:=setRow_heap _ _ _ ((exA x A1 ca1 B1 cb1).setIfInBounds 0 (.int .i64 y.k)) _ _ h0;rw[setCell_eq_setRow _ _ _ _ _ _ _ h1,setRow_setRow];have h2:=setRow_heap _ _ _ (((exA x A1 ca1 B1 cb1).setIfInBounds 0 (.int .i64 y.k)).setIfInBounds 1 (.int .i64 y.n)) _ _ h0;rw[setCell_eq_setRow _ _ _ _ _ _ _ h2,setRow_setRow];have h3:=setRow_heap _ _ _ ((((exA x A1 ca1 B1 cb1).setIfInBounds 0 (.int .i64 y.k)).setIfInBounds 1 (.int .i64 y.n)).setIfInBounds 2 (.string y.s)) _ _ h0;rw[setCell_eq_setRow _ _ _ _ _ _ _ h3,setRow_setRow];have h4:=setRow_heap _ _ _ (((((exA x A1 ca1 B1 cb1).setIfInBounds 0 (.int .i64 y.k)).setIfInBounds 1 (.int .i64 y.n)).setIfInBounds 2 (.string y.s)).setIfInBounds 3 (.int .i64 y.op)) _ _ h0;rw[setCell_eq_setRow _ _ _ _ _ _ _ h4,setRow_setRow];have h5:=setRow_heap _ _ _ ((((((exA x A1 ca1 B1 cb1).setIfInBounds 0 (.int .i64 y.k)).setIfInBounds 1 (.int .i64 y.n)).setIfInBounds 2 (.string y.s)).setIfInBounds 3 (.int .i64 y.op)).setIfInBounds 4 (.slice A2 y.arms.length ca2)) _ _ h0;rw[setCell_eq_setRow _ _ _ _ _ _ _ h5,setRow_setRow];rfl
theorem tail_le{s:List UInt8}{r1:List Tk}{m:Nat}(h:isP s r1=true)(hm:r1.length≤m+1):r1.tail.length≤m:=by
 obtain⟨t,r',rfl,_⟩:=isP_cons h
 simp at hm ⊢
 omega
theorem kb_undrew{w w':World}(h:Below w.drew.heap.size (bl b w.drew) (bl b w')):Below w.heap.size (bl b w) (bl b w'):=⟨h.os,h.tape,h.output,h.size,h.block⟩
theorem kb_drew{w w':World}(h:Below w.heap.size (bl b w) (bl b w')):Below w.heap.size (bl b w) (bl b w'.drew):=⟨h.os,h.tape,h.output,h.size,h.block⟩
theorem SpecX.drew{F:Nat}{g:Psr}(H:SpecX F g m)(h:PSt w b A n c all r false)(hr:r.length≤m):Calls Tryz.prog F #[.pointer (some ⟨b,0,none⟩)] w.drew (PostX w b A n c all (g r)):=
 (H w.drew b A n c all r (h.below (below_drewN (Below.refl _ _) 1)) hr).mono fun e w' h=>⟨kb_undrew h.1,h.2⟩
theorem PSt.drew(h:PSt w b A n c all r bad):PSt w.drew b A n c all r bad:=h.below (below_drewN (Below.refl _ _) 1)
theorem Kp.new{B g:Nat}{w2 w5:World}(K:Kp B w2 w5)(hg:w2.heap.size≤g)(cs:Array Value):Kp B w2 (w5.setRow g cs):=⟨by rw[setRow_size];exact K.1,fun p v hp hv=>by
 have hlt:=World.block_lt_of_cell? w2 p hv;rw[cell_setRow_other _ _ _ _ (by omega)];exact K.2 p v hp hv⟩
theorem two_box{w0 w5:World}{g h:Nat}{e0 y zo:Ex}{Az:Option Addr}{caz:Nat}{Bo:Option Addr}{cbz:Nat}{A1:Option Addr}{ca1:Nat}{B1:Option Addr}{cb1:Nat}{A2:Option Addr}{ca2:Nat}{B2:Option Addr}{cb2:Nat}(k op:Int){bd:Bool}
 (hb:Below w0.heap.size (bl b w0) (bl b w5)) (hp:PSt w5 b A n c all r bd) (hr:RowX w5 g zo Az caz Bo cbz) (he:RowX w5 h e0 A1 ca1 B1 cb1) (hg:g≠b) (hh:h≠b) (hgh:g≠h) (hw:w0.heap.size≤h) (hA:∀ b0 off,A=some ⟨b0,off,none⟩→b0<w0.heap.size):
 let W:=(w5.setRow h (exA (.mk k 0 ByteArray.empty op [] [e0,y]) none 0 (some ⟨w5.heap.size,0,none⟩) 2)).alloc (.cells (exA2 e0 A1 ca1 B1 cb1 y A2 ca2 B2 cb2) 26)
 Below w0.heap.size (bl b w0) (bl b W)∧PSt W b A n c all r bd∧RowX W g zo Az caz Bo cbz∧RowX W h (.mk k 0 ByteArray.empty op [] [e0,y]) none 0 (some ⟨w5.heap.size,0,none⟩) 2 ∧
  (∀ (B B4:Nat) (w2:World),Kp B w2 w5→w2.heap.size≤h→B≤w5.heap.size→rdX (fr B w2) e0 A1 B1→h<B4→B≤B4→rdX (fr B4 w5) y A2 B2→rdX (fr B W) (.mk k 0 ByteArray.empty op [] [e0,y]) none (some ⟨w5.heap.size,0,none⟩)):=by
 intro W;have hp1:PSt (w5.setRow h (exA (.mk k 0 ByteArray.empty op [] [e0,y]) none 0 (some ⟨w5.heap.size,0,none⟩) 2)) b A n c all r bd:=hp.setRow hh (fun b0 off e=>by have:=hA b0 off e;omega) _;refine⟨kb_alloc (kb_setRow hb hh hw _) hp1.lt _,hp1.alloc _,(hr.other hgh _).alloc _,he.set.alloc _,fun B B4 w2 K h1 h2 t1 h3 h4 t2=>?_⟩;have hs:(w5.setRow h (exA (.mk k 0 ByteArray.empty op [] [e0,y]) none 0 (some ⟨w5.heap.size,0,none⟩) 2)).heap.size=w5.heap.size:=setRow_size _ _ _;have l1:=lit_two (ca1:=ca1) (cb1:=cb1) (ca2:=ca2) (cb2:=cb2) (by rw[hs];exact h2) ((K.new h1 _).tree t1) (tree_down ((Kp.setRow w5 _ h3).tree t2) h4) 26;rw[hs] at l1;rw[rdX_eq];exact⟨RdT.nil_ _,RdX.in_fr (l:=[e0,y]) h2 (show(2:Nat)≤9223372036854775807 by omega) (by rw[World.size_alloc,hs];omega) l1⟩
theorem prFby(P:Ps)(HFB:SpecX 60 P.fb m)(HOR:SpecX 99 (orP P) (m+1))(hle:∀ r y r1,orP P r=.ok y r1→r1.length≤r.length):SpecX 60 (fbyP P) (m+1):=by
 intro w b A n c all r h hm;have hA:=h.home;have hlt:=h.lt
 cases hq:orP P r with
 | ok e0 r1=>
  cases h1:isP fbyL r1 with
  | true=>
   cases hq2:P.fb r1.tail with
   | ok y r2=>
    rw[show fbyP P r=.ok (Ex.mk 8 0 ByteArray.empty 0 [] [e0,y]) r2 by simp[fbyP,hq,h1,hq2]];have hE:=hq;have hE2:=hq2;clear hq hq2
    go_enter Tryz.func60,Tryz.ntmps60
    go_upto_region 1 with(fail)
    generalize hw1:w.alloc _=w1;obtain⟨hP1,hR1,hB1,hgb,hg1⟩:=res_box h hw1;have HP1:=Hd hP1;have HR1:=Hd hR1;have HB1:=Hd hB1;clear hP1 hR1 hB1 hw1
    go_wp2_with fail
    refine(PPost.ok_ (HOR w1 b A n c all _ HP1.out hm) hE).mono ?_;rintro e w2 ⟨⟨A2,ca2,B2,cb2,rfl,hy⟩,hP,hB⟩;have HY2:=Hd hy;have HP2:=Hd hP;have HB2:=Hd (kb_trans HB1.out hB);have HR2:=Hd (HR1.out.kb hgb hB);have hs2:=kb_size hB;clear hP hB hy;unfold exA
    go_upto_region 2 with(fail)
    generalize hwb:w2.alloc _=w3;obtain⟨hP3,hR3,hB3,hgb3,hg3,hK3⟩:=ex_box HP2.out hwb;have HP3:=Hd hP3;have HE3:=Hd hR3;have HB3:=Hd (kb_trans HB2.out hB3);have HR3:=Hd (HR2.out.kb hgb hB3);have HK3:=Hd (hK3 w1.heap.size);clear hP3 hR3 hB3 hwb hK3
    go_wp2_with fail
    refine(take_yes ⟨#[102,98,121]⟩ HP3.out h1).mono ?_;rintro e w4 ⟨rfl,hP,hB⟩;have HP4:=Hd hP;have HB4:=Hd (kb_trans HB3.out hB);have HR4:=Hd (HR3.out.kb hgb hB);have hs4:=kb_size hB;have HE4:=Hd (HE3.out.kb hgb3 hB);have HK4:=Hd (HK3.out.trans (Kp.of_kb hB (by omega)));clear hP hB;obtain⟨q0,q1,q2,q3,q4,q5⟩:=HE4.out.cells;have hlr:r1.tail.length≤m:=tail_le h1 (by have:=hle _ _ _ hE;omega);have HF:=Hd (PPost.ok_ (HFB.drew HP4.out hlr) hE2)
    go_wp2_with fail
    go_region_with (first | (go_at_call 60;refine HF.out.mono ?_;rintro e w5 ⟨⟨A5,ca5,B5,cb5,rfl,hy⟩,hP,hB⟩;have HP5:=Hd hP;have HB5:=Hd (kb_trans HB4.out hB);have HE5:=Hd (HE4.out.kb hgb3 hB);have HR5:=Hd (HR4.out.kb hgb hB);have hs5:=kb_size hB;have HY5:=Hd hy;have HK5:=Hd (HK4.out.trans (Kp.of_kb hB (by omega)));clear hy;obtain⟨d0,d1,d2,d3,d4,d5⟩:=HE5.out.cells;have hl5:=HE5.out.lt;have f0:=HE5.out.fz 0;have f1:=HE5.out.fz 1;have f2:=HE5.out.fz 2;have f3:=HE5.out.fz 3;have f4:=HE5.out.fz 4;have f5:=HE5.out.fz 5;clear hP hB;unfold exA))
    all_goals (
     obtain⟨z1,z2,z3,z4,z5⟩:=two_box (A2:=A5) (ca2:=ca5) (B2:=B5) (cb2:=cb5) (y:=y) 8 0 HB5.out HP5.out HR5.out HE5.out hgb hgb3 (by omega) (by omega) hA;have hsx:=six_set HE5.out (.mk 8 0 ByteArray.empty 0 [] [e0,y]) none 0 (some ⟨w5.heap.size,0,none⟩) 2;simp only[Ex.k,Ex.n,Ex.s,Ex.op,Ex.arms,Ex.subs,List.length_nil,List.length_cons] at hsx;have hsy:(⟨#[]⟩:ByteArray)=ByteArray.empty:=rfl;simp only[hsy] at *;rw[hsx];clear hsx;have HZ1:=Hd z1;have HZ2:=Hd z2;have HZ3:=Hd z3;have HZ4:=Hd z4;have HZ5:=Hd z5;clear z1 z2 z3 z4 z5 d0 d1 d2 d3 d4 d5 f0 f1 f2 f3 f4 f5 q0 q1 q2 q3 q4 q5;unfold exA2 at HZ1 HZ2 HZ3 HZ4 HZ5;generalize hW:World.alloc _ _=W at *;clear hW
     go_wp2_with (first | (refine wpList_load_row rfl _ _ rfl (w2.heap.size) rfl _ _ _ _ (HZ4.out) Tryz.underlying26 rfl ex_info ?_) | (refine wpList_store_row rfl _ _ _ rfl (w.heap.size) _ rfl rfl _ _ (HZ3.out) ex_info rfl (by simp[exA,Value.oneCell']) ?_))
     obtain⟨f1,f2,f3⟩:=(fin_same (x:=.mk 8 0 ByteArray.empty 0 [] [e0,y]) (A1:=none) (ca1:=0) (B1:=some ⟨w5.heap.size,0,none⟩) (cb1:=2) HZ1.out HZ2.out HZ3.out hgb (Nat.le_refl _) hA);exact bodyPost_ret (res_ex rfl _ _ (w.heap.size) _ rfl rfl f3) rfl ⟨f1,f2,_,_,_,_,rfl,tree_down ((Kp.setRow (B:=w1.heap.size) _ _ (by omega)).tree (HZ5.out w1.heap.size w4.heap.size w2 HK5.out (Nat.le_refl _) (by omega) HY2.out (by omega) (by omega) HY5.out)) (show w.heap.size≤w1.heap.size by omega)⟩
    )
   | bad r2=>
    rw[show fbyP P r=.bad r2 by simp[fbyP,hq,h1,hq2]];have hE:=hq;have hE2:=hq2;clear hq hq2
    go_enter Tryz.func60,Tryz.ntmps60
    go_upto_region 1 with(fail)
    generalize hw1:w.alloc _=w1;obtain⟨hP1,hR1,hB1,hgb,hg1⟩:=res_box h hw1;have HP1:=Hd hP1;have HR1:=Hd hR1;have HB1:=Hd hB1;clear hP1 hR1 hB1 hw1
    go_wp2_with fail
    refine(PPost.ok_ (HOR w1 b A n c all _ HP1.out hm) hE).mono ?_;rintro e w2 ⟨⟨A2,ca2,B2,cb2,rfl,hy⟩,hP,hB⟩;have HY2:=Hd hy;have HP2:=Hd hP;have HB2:=Hd (kb_trans HB1.out hB);have HR2:=Hd (HR1.out.kb hgb hB);have hs2:=kb_size hB;clear hP hB hy;unfold exA
    go_upto_region 2 with(fail)
    generalize hwb:w2.alloc _=w3;obtain⟨hP3,hR3,hB3,hgb3,hg3,hK3⟩:=ex_box HP2.out hwb;have HP3:=Hd hP3;have HE3:=Hd hR3;have HB3:=Hd (kb_trans HB2.out hB3);have HR3:=Hd (HR2.out.kb hgb hB3);have HK3:=Hd (hK3 w1.heap.size);clear hP3 hR3 hB3 hwb hK3
    go_wp2_with fail
    refine(take_yes ⟨#[102,98,121]⟩ HP3.out h1).mono ?_;rintro e w4 ⟨rfl,hP,hB⟩;have HP4:=Hd hP;have HB4:=Hd (kb_trans HB3.out hB);have HR4:=Hd (HR3.out.kb hgb hB);have hs4:=kb_size hB;have HE4:=Hd (HE3.out.kb hgb3 hB);have HK4:=Hd (HK3.out.trans (Kp.of_kb hB (by omega)));clear hP hB;obtain⟨q0,q1,q2,q3,q4,q5⟩:=HE4.out.cells;have hlr:r1.tail.length≤m:=tail_le h1 (by have:=hle _ _ _ hE;omega);have HF:=Hd (PPost.bad_ (HFB.drew HP4.out hlr) hE2)
    go_wp2_with fail
    go_region_with (first | (go_at_call 60;refine HF.out.mono ?_;rintro e w5 ⟨⟨y,A5,ca5,B5,cb5,rfl⟩,hP,hB⟩;have HP5:=Hd hP;have HB5:=Hd (kb_trans HB4.out hB);have HE5:=Hd (HE4.out.kb hgb3 hB);have HR5:=Hd (HR4.out.kb hgb hB);have hs5:=kb_size hB;obtain⟨d0,d1,d2,d3,d4,d5⟩:=HE5.out.cells;have hl5:=HE5.out.lt;have f0:=HE5.out.fz 0;have f1:=HE5.out.fz 1;have f2:=HE5.out.fz 2;have f3:=HE5.out.fz 3;have f4:=HE5.out.fz 4;have f5:=HE5.out.fz 5;clear hP hB;unfold exA))
    all_goals (
     obtain⟨z1,z2,z3,z4,z5⟩:=two_box (A2:=A5) (ca2:=ca5) (B2:=B5) (cb2:=cb5) (y:=y) 8 0 HB5.out HP5.out HR5.out HE5.out hgb hgb3 (by omega) (by omega) hA;have hsx:=six_set HE5.out (.mk 8 0 ByteArray.empty 0 [] [e0,y]) none 0 (some ⟨w5.heap.size,0,none⟩) 2;simp only[Ex.k,Ex.n,Ex.s,Ex.op,Ex.arms,Ex.subs,List.length_nil,List.length_cons] at hsx;have hsy:(⟨#[]⟩:ByteArray)=ByteArray.empty:=rfl;simp only[hsy] at *;rw[hsx];clear hsx;have HZ1:=Hd z1;have HZ2:=Hd z2;have HZ3:=Hd z3;have HZ4:=Hd z4;have HZ5:=Hd z5;clear z1 z2 z3 z4 z5 d0 d1 d2 d3 d4 d5 f0 f1 f2 f3 f4 f5 q0 q1 q2 q3 q4 q5;unfold exA2 at HZ1 HZ2 HZ3 HZ4 HZ5;generalize hW:World.alloc _ _=W at *;clear hW
     go_wp2_with (first | (refine wpList_load_row rfl _ _ rfl (w2.heap.size) rfl _ _ _ _ (HZ4.out) Tryz.underlying26 rfl ex_info ?_) | (refine wpList_store_row rfl _ _ _ rfl (w.heap.size) _ rfl rfl _ _ (HZ3.out) ex_info rfl (by simp[exA,Value.oneCell']) ?_))
     obtain⟨f1,f2,f3⟩:=(fin_same (x:=.mk 8 0 ByteArray.empty 0 [] [e0,y]) (A1:=none) (ca1:=0) (B1:=some ⟨w5.heap.size,0,none⟩) (cb1:=2) HZ1.out HZ2.out HZ3.out hgb (Nat.le_refl _) hA);exact bodyPost_ret (res_ex rfl _ _ (w.heap.size) _ rfl rfl f3) rfl ⟨f1,f2,_,_,_,_,_,rfl⟩
    )
  | false=>
   rw[show fbyP P r=.ok e0 r1 by simp[fbyP,hq,h1]];have hE:=hq;clear hq
   go_enter Tryz.func60,Tryz.ntmps60
   go_upto_region 1 with(fail)
   generalize hw1:w.alloc _=w1;obtain⟨hP1,hR1,hB1,hgb,hg1⟩:=res_box h hw1;have HP1:=Hd hP1;have HR1:=Hd hR1;have HB1:=Hd hB1;clear hP1 hR1 hB1 hw1
   go_wp2_with fail
   refine(PPost.ok_ (HOR w1 b A n c all _ HP1.out hm) hE).mono ?_;rintro e w2 ⟨⟨A2,ca2,B2,cb2,rfl,hy⟩,hP,hB⟩;have HY2:=Hd hy;have HP2:=Hd hP;have HB2:=Hd (kb_trans HB1.out hB);have HR2:=Hd (HR1.out.kb hgb hB);have hs2:=kb_size hB;clear hP hB hy;unfold exA
   go_upto_region 2 with(fail)
   generalize hwb:w2.alloc _=w3;obtain⟨hP3,hR3,hB3,hgb3,hg3,hK3⟩:=ex_box HP2.out hwb;have HP3:=Hd hP3;have HE3:=Hd hR3;have HB3:=Hd (kb_trans HB2.out hB3);have HR3:=Hd (HR2.out.kb hgb hB3);have HK3:=Hd (hK3 w1.heap.size);clear hP3 hR3 hB3 hwb hK3
   go_wp2_with fail
   refine(take_no ⟨#[102,98,121]⟩ HP3.out (show(!false && isP _ _)=false by rw[Bool.not_false,Bool.true_and];exact h1)).mono ?_;rintro e w4 ⟨rfl,hP,hB⟩;have HP4:=Hd hP;have HB4:=Hd (kb_trans HB3.out hB);have HR4:=Hd (HR3.out.kb hgb hB);have hs4:=kb_size hB;have HE4:=Hd (HE3.out.kb hgb3 hB);have HK4:=Hd (HK3.out.trans (Kp.of_kb hB (by omega)));clear hP hB
   go_wp2_with (first | (refine wpList_load_row rfl _ _ rfl (w2.heap.size) rfl _ _ _ _ (HE4.out) Tryz.underlying26 rfl ex_info ?_) | (refine wpList_store_row rfl _ _ _ rfl (w.heap.size) _ rfl rfl _ _ (HR4.out) ex_info rfl (by simp[exA,Value.oneCell']) ?_))
   obtain⟨f1,f2,f3⟩:=(fin_same (x:=e0) (A1:=A2) (ca1:=ca2) (B1:=B2) (cb1:=cb2) HB4.out HP4.out HR4.out hgb (Nat.le_refl _) hA);exact bodyPost_ret (res_ex rfl _ _ (w.heap.size) _ rfl rfl f3) rfl ⟨f1,f2,_,_,_,_,rfl,tree_down ((Kp.setRow _ _ (by omega)).tree (HK4.out.tree HY2.out)) (show w.heap.size≤w1.heap.size by omega)⟩
 | bad r1=>
  rw[show fbyP P r=.bad r1 by simp[fbyP,hq]];have hE:=hq;clear hq
  go_enter Tryz.func60,Tryz.ntmps60
  go_upto_region 1 with(fail)
  generalize hw1:w.alloc _=w1;obtain⟨hP1,hR1,hB1,hgb,hg1⟩:=res_box h hw1;have HP1:=Hd hP1;have HR1:=Hd hR1;have HB1:=Hd hB1;clear hP1 hR1 hB1 hw1
  go_wp2_with fail
  refine(PPost.bad_ (HOR w1 b A n c all _ HP1.out hm) hE).mono ?_;rintro e w2 ⟨⟨y,A2,ca2,B2,cb2,rfl⟩,hP,hB⟩;have HP2:=Hd hP;have HB2:=Hd (kb_trans HB1.out hB);have HR2:=Hd (HR1.out.kb hgb hB);have hs2:=kb_size hB;clear hP hB;unfold exA
  go_upto_region 2 with(fail)
  generalize hwb:w2.alloc _=w3;obtain⟨hP3,hR3,hB3,hgb3,hg3,hK3⟩:=ex_box HP2.out hwb;have HP3:=Hd hP3;have HE3:=Hd hR3;have HB3:=Hd (kb_trans HB2.out hB3);have HR3:=Hd (HR2.out.kb hgb hB3);clear hP3 hR3 hB3 hwb hK3
  go_wp2_with fail
  refine(take_no ⟨#[102,98,121]⟩ HP3.out rfl).mono ?_;rintro e w4 ⟨rfl,hP,hB⟩;have HP4:=Hd hP;have HB4:=Hd (kb_trans HB3.out hB);have HR4:=Hd (HR3.out.kb hgb hB);have HE4:=Hd (HE3.out.kb hgb3 hB);clear hP hB
  go_wp2_with (first | (refine wpList_load_row rfl _ _ rfl (w2.heap.size) rfl _ _ _ _ (HE4.out) Tryz.underlying26 rfl ex_info ?_) | (refine wpList_store_row rfl _ _ _ rfl (w.heap.size) _ rfl rfl _ _ (HR4.out) ex_info rfl (by simp[exA,Value.oneCell']) ?_))
  obtain⟨f1,f2,f3⟩:=(fin_same (x:=y) (A1:=A2) (ca1:=ca2) (B1:=B2) (cb1:=cb2) HB4.out HP4.out HR4.out hgb (Nat.le_refl _) hA);exact bodyPost_ret (res_ex rfl _ _ (w.heap.size) _ rfl rfl f3) rfl ⟨f1,f2,_,_,_,_,_,rfl⟩
theorem prArrow(P:Ps)(HAR:SpecX 30 P.ar m)(HFB:SpecX 60 (fbyP P) (m+1))(hle:∀ r y r1,fbyP P r=.ok y r1→r1.length≤r.length):SpecX 30 (arrowP P) (m+1):=by
 intro w b A n c all r h hm;have hA:=h.home;have hlt:=h.lt
 cases hq:fbyP P r with
 | ok e0 r1=>
  cases h1:isP arrL r1 with
  | true=>
   cases hq2:P.ar r1.tail with
   | ok y r2=>
    rw[show arrowP P r=.ok (Ex.mk 9 0 ByteArray.empty 0 [] [e0,y]) r2 by simp[arrowP,hq,h1,hq2]];have hE:=hq;have hE2:=hq2;clear hq hq2
    go_enter Tryz.func30,Tryz.ntmps30
    go_upto_region 1 with(fail)
    generalize hw1:w.alloc _=w1;obtain⟨hP1,hR1,hB1,hgb,hg1⟩:=res_box h hw1;have HP1:=Hd hP1;have HR1:=Hd hR1;have HB1:=Hd hB1;clear hP1 hR1 hB1 hw1;have p2:w1.cell? ⟨b,2,none⟩=some (.bool false):=HP1.out.cell 2
    go_wp2_with fail
    refine(PPost.ok_ (HFB w1 b A n c all _ HP1.out hm) hE).mono ?_;rintro e w2 ⟨⟨A2,ca2,B2,cb2,rfl,hy⟩,hP,hB⟩;have HY2:=Hd hy;have HP2:=Hd hP;have HB2:=Hd (kb_trans HB1.out hB);have HR2:=Hd (HR1.out.kb hgb hB);have hs2:=kb_size hB;clear hP hB hy;unfold exA
    go_upto_region 4 with(fail)
    generalize hwb:w2.alloc _=w3;obtain⟨hP3,hR3,hB3,hgb3,hg3,hK3⟩:=ex_box HP2.out hwb;have HP3:=Hd hP3;have HE3:=Hd hR3;have HB3:=Hd (kb_trans HB2.out hB3);have HR3:=Hd (HR2.out.kb hgb hB3);have HK3:=Hd (hK3 w1.heap.size);clear hP3 hR3 hB3 hwb hK3
    go_wp2_with fail
    refine(take_yes ⟨#[45,62]⟩ HP3.out h1).mono ?_;rintro e w4 ⟨rfl,hP,hB⟩;have HP4:=Hd hP;have HB4:=Hd (kb_trans HB3.out hB);have HR4:=Hd (HR3.out.kb hgb hB);have hs4:=kb_size hB;have HE4:=Hd (HE3.out.kb hgb3 hB);have HK4:=Hd (HK3.out.trans (Kp.of_kb hB (by omega)));clear hP hB;obtain⟨q0,q1,q2,q3,q4,q5⟩:=HE4.out.cells;have hlr:r1.tail.length≤m:=tail_le h1 (by have:=hle _ _ _ hE;omega);have HF:=Hd (PPost.ok_ (HAR.drew HP4.out hlr) hE2)
    go_wp2_with fail
    go_region_with (first | (go_at_call 30;refine HF.out.mono ?_;rintro e w5 ⟨⟨A5,ca5,B5,cb5,rfl,hy⟩,hP,hB⟩;have HP5:=Hd hP;have HB5:=Hd (kb_trans HB4.out hB);have HE5:=Hd (HE4.out.kb hgb3 hB);have HR5:=Hd (HR4.out.kb hgb hB);have hs5:=kb_size hB;have HY5:=Hd hy;have HK5:=Hd (HK4.out.trans (Kp.of_kb hB (by omega)));clear hy;obtain⟨d0,d1,d2,d3,d4,d5⟩:=HE5.out.cells;have hl5:=HE5.out.lt;have f0:=HE5.out.fz 0;have f1:=HE5.out.fz 1;have f2:=HE5.out.fz 2;have f3:=HE5.out.fz 3;have f4:=HE5.out.fz 4;have f5:=HE5.out.fz 5;clear hP hB;unfold exA))
    all_goals (
     obtain⟨z1,z2,z3,z4,z5⟩:=two_box (A2:=A5) (ca2:=ca5) (B2:=B5) (cb2:=cb5) (y:=y) 9 0 HB5.out HP5.out HR5.out HE5.out hgb hgb3 (by omega) (by omega) hA;have hsx:=six_set HE5.out (.mk 9 0 ByteArray.empty 0 [] [e0,y]) none 0 (some ⟨w5.heap.size,0,none⟩) 2;simp only[Ex.k,Ex.n,Ex.s,Ex.op,Ex.arms,Ex.subs,List.length_nil,List.length_cons] at hsx;have hsy:(⟨#[]⟩:ByteArray)=ByteArray.empty:=rfl;simp only[hsy] at *;rw[hsx];clear hsx;have HZ1:=Hd z1;have HZ2:=Hd z2;have HZ3:=Hd z3;have HZ4:=Hd z4;have HZ5:=Hd z5;clear z1 z2 z3 z4 z5 d0 d1 d2 d3 d4 d5 f0 f1 f2 f3 f4 f5 q0 q1 q2 q3 q4 q5;unfold exA2 at HZ1 HZ2 HZ3 HZ4 HZ5;generalize hW:World.alloc _ _=W at *;clear hW
     go_wp2_with (first | (refine wpList_load_row rfl _ _ rfl (w2.heap.size) rfl _ _ _ _ (HZ4.out) Tryz.underlying26 rfl ex_info ?_) | (refine wpList_store_row rfl _ _ _ rfl (w.heap.size) _ rfl rfl _ _ (HZ3.out) ex_info rfl (by simp[exA,Value.oneCell']) ?_))
     obtain⟨f1,f2,f3⟩:=(fin_same (x:=.mk 9 0 ByteArray.empty 0 [] [e0,y]) (A1:=none) (ca1:=0) (B1:=some ⟨w5.heap.size,0,none⟩) (cb1:=2) HZ1.out HZ2.out HZ3.out hgb (Nat.le_refl _) hA);exact bodyPost_ret (res_ex rfl _ _ (w.heap.size) _ rfl rfl f3) rfl ⟨f1,f2,_,_,_,_,rfl,tree_down ((Kp.setRow (B:=w1.heap.size) _ _ (by omega)).tree (HZ5.out w1.heap.size w4.heap.size w2 HK5.out (Nat.le_refl _) (by omega) HY2.out (by omega) (by omega) HY5.out)) (show w.heap.size≤w1.heap.size by omega)⟩
    )
   | bad r2=>
    rw[show arrowP P r=.bad r2 by simp[arrowP,hq,h1,hq2]];have hE:=hq;have hE2:=hq2;clear hq hq2
    go_enter Tryz.func30,Tryz.ntmps30
    go_upto_region 1 with(fail)
    generalize hw1:w.alloc _=w1;obtain⟨hP1,hR1,hB1,hgb,hg1⟩:=res_box h hw1;have HP1:=Hd hP1;have HR1:=Hd hR1;have HB1:=Hd hB1;clear hP1 hR1 hB1 hw1;have p2:w1.cell? ⟨b,2,none⟩=some (.bool false):=HP1.out.cell 2
    go_wp2_with fail
    refine(PPost.ok_ (HFB w1 b A n c all _ HP1.out hm) hE).mono ?_;rintro e w2 ⟨⟨A2,ca2,B2,cb2,rfl,hy⟩,hP,hB⟩;have HY2:=Hd hy;have HP2:=Hd hP;have HB2:=Hd (kb_trans HB1.out hB);have HR2:=Hd (HR1.out.kb hgb hB);have hs2:=kb_size hB;clear hP hB hy;unfold exA
    go_upto_region 4 with(fail)
    generalize hwb:w2.alloc _=w3;obtain⟨hP3,hR3,hB3,hgb3,hg3,hK3⟩:=ex_box HP2.out hwb;have HP3:=Hd hP3;have HE3:=Hd hR3;have HB3:=Hd (kb_trans HB2.out hB3);have HR3:=Hd (HR2.out.kb hgb hB3);have HK3:=Hd (hK3 w1.heap.size);clear hP3 hR3 hB3 hwb hK3
    go_wp2_with fail
    refine(take_yes ⟨#[45,62]⟩ HP3.out h1).mono ?_;rintro e w4 ⟨rfl,hP,hB⟩;have HP4:=Hd hP;have HB4:=Hd (kb_trans HB3.out hB);have HR4:=Hd (HR3.out.kb hgb hB);have hs4:=kb_size hB;have HE4:=Hd (HE3.out.kb hgb3 hB);have HK4:=Hd (HK3.out.trans (Kp.of_kb hB (by omega)));clear hP hB;obtain⟨q0,q1,q2,q3,q4,q5⟩:=HE4.out.cells;have hlr:r1.tail.length≤m:=tail_le h1 (by have:=hle _ _ _ hE;omega);have HF:=Hd (PPost.bad_ (HAR.drew HP4.out hlr) hE2)
    go_wp2_with fail
    go_region_with (first | (go_at_call 30;refine HF.out.mono ?_;rintro e w5 ⟨⟨y,A5,ca5,B5,cb5,rfl⟩,hP,hB⟩;have HP5:=Hd hP;have HB5:=Hd (kb_trans HB4.out hB);have HE5:=Hd (HE4.out.kb hgb3 hB);have HR5:=Hd (HR4.out.kb hgb hB);have hs5:=kb_size hB;obtain⟨d0,d1,d2,d3,d4,d5⟩:=HE5.out.cells;have hl5:=HE5.out.lt;have f0:=HE5.out.fz 0;have f1:=HE5.out.fz 1;have f2:=HE5.out.fz 2;have f3:=HE5.out.fz 3;have f4:=HE5.out.fz 4;have f5:=HE5.out.fz 5;clear hP hB;unfold exA))
    all_goals (
     obtain⟨z1,z2,z3,z4,z5⟩:=two_box (A2:=A5) (ca2:=ca5) (B2:=B5) (cb2:=cb5) (y:=y) 9 0 HB5.out HP5.out HR5.out HE5.out hgb hgb3 (by omega) (by omega) hA;have hsx:=six_set HE5.out (.mk 9 0 ByteArray.empty 0 [] [e0,y]) none 0 (some ⟨w5.heap.size,0,none⟩) 2;simp only[Ex.k,Ex.n,Ex.s,Ex.op,Ex.arms,Ex.subs,List.length_nil,List.length_cons] at hsx;have hsy:(⟨#[]⟩:ByteArray)=ByteArray.empty:=rfl;simp only[hsy] at *;rw[hsx];clear hsx;have HZ1:=Hd z1;have HZ2:=Hd z2;have HZ3:=Hd z3;have HZ4:=Hd z4;have HZ5:=Hd z5;clear z1 z2 z3 z4 z5 d0 d1 d2 d3 d4 d5 f0 f1 f2 f3 f4 f5 q0 q1 q2 q3 q4 q5;unfold exA2 at HZ1 HZ2 HZ3 HZ4 HZ5;generalize hW:World.alloc _ _=W at *;clear hW
     go_wp2_with (first | (refine wpList_load_row rfl _ _ rfl (w2.heap.size) rfl _ _ _ _ (HZ4.out) Tryz.underlying26 rfl ex_info ?_) | (refine wpList_store_row rfl _ _ _ rfl (w.heap.size) _ rfl rfl _ _ (HZ3.out) ex_info rfl (by simp[exA,Value.oneCell']) ?_))
     obtain⟨f1,f2,f3⟩:=(fin_same (x:=.mk 9 0 ByteArray.empty 0 [] [e0,y]) (A1:=none) (ca1:=0) (B1:=some ⟨w5.heap.size,0,none⟩) (cb1:=2) HZ1.out HZ2.out HZ3.out hgb (Nat.le_refl _) hA);exact bodyPost_ret (res_ex rfl _ _ (w.heap.size) _ rfl rfl f3) rfl ⟨f1,f2,_,_,_,_,_,rfl⟩
    )
  | false=>
   rw[show arrowP P r=.ok e0 r1 by simp[arrowP,hq,h1]];have hE:=hq;clear hq
   go_enter Tryz.func30,Tryz.ntmps30
   go_upto_region 1 with(fail)
   generalize hw1:w.alloc _=w1;obtain⟨hP1,hR1,hB1,hgb,hg1⟩:=res_box h hw1;have HP1:=Hd hP1;have HR1:=Hd hR1;have HB1:=Hd hB1;clear hP1 hR1 hB1 hw1;have p2:w1.cell? ⟨b,2,none⟩=some (.bool false):=HP1.out.cell 2
   go_wp2_with fail
   refine(PPost.ok_ (HFB w1 b A n c all _ HP1.out hm) hE).mono ?_;rintro e w2 ⟨⟨A2,ca2,B2,cb2,rfl,hy⟩,hP,hB⟩;have HY2:=Hd hy;have HP2:=Hd hP;have HB2:=Hd (kb_trans HB1.out hB);have HR2:=Hd (HR1.out.kb hgb hB);have hs2:=kb_size hB;clear hP hB hy;unfold exA
   go_upto_region 4 with(fail)
   generalize hwb:w2.alloc _=w3;obtain⟨hP3,hR3,hB3,hgb3,hg3,hK3⟩:=ex_box HP2.out hwb;have HP3:=Hd hP3;have HE3:=Hd hR3;have HB3:=Hd (kb_trans HB2.out hB3);have HR3:=Hd (HR2.out.kb hgb hB3);have HK3:=Hd (hK3 w1.heap.size);clear hP3 hR3 hB3 hwb hK3
   go_wp2_with fail
   refine(take_no ⟨#[45,62]⟩ HP3.out (show(!false && isP _ _)=false by rw[Bool.not_false,Bool.true_and];exact h1)).mono ?_;rintro e w4 ⟨rfl,hP,hB⟩;have HP4:=Hd hP;have HB4:=Hd (kb_trans HB3.out hB);have HR4:=Hd (HR3.out.kb hgb hB);have hs4:=kb_size hB;have HE4:=Hd (HE3.out.kb hgb3 hB);have HK4:=Hd (HK3.out.trans (Kp.of_kb hB (by omega)));clear hP hB
   go_wp2_with (first | (refine wpList_load_row rfl _ _ rfl (w2.heap.size) rfl _ _ _ _ (HE4.out) Tryz.underlying26 rfl ex_info ?_) | (refine wpList_store_row rfl _ _ _ rfl (w.heap.size) _ rfl rfl _ _ (HR4.out) ex_info rfl (by simp[exA,Value.oneCell']) ?_))
   obtain⟨f1,f2,f3⟩:=(fin_same (x:=e0) (A1:=A2) (ca1:=ca2) (B1:=B2) (cb1:=cb2) HB4.out HP4.out HR4.out hgb (Nat.le_refl _) hA);exact bodyPost_ret (res_ex rfl _ _ (w.heap.size) _ rfl rfl f3) rfl ⟨f1,f2,_,_,_,_,rfl,tree_down ((Kp.setRow _ _ (by omega)).tree (HK4.out.tree HY2.out)) (show w.heap.size≤w1.heap.size by omega)⟩
 | bad r1=>
  rw[show arrowP P r=.bad r1 by simp[arrowP,hq]];have hE:=hq;clear hq
  go_enter Tryz.func30,Tryz.ntmps30
  go_upto_region 1 with(fail)
  generalize hw1:w.alloc _=w1;obtain⟨hP1,hR1,hB1,hgb,hg1⟩:=res_box h hw1;have HP1:=Hd hP1;have HR1:=Hd hR1;have HB1:=Hd hB1;clear hP1 hR1 hB1 hw1;have p2:w1.cell? ⟨b,2,none⟩=some (.bool false):=HP1.out.cell 2
  go_wp2_with fail
  refine(PPost.bad_ (HFB w1 b A n c all _ HP1.out hm) hE).mono ?_;rintro e w2 ⟨⟨y,A2,ca2,B2,cb2,rfl⟩,hP,hB⟩;have HP2:=Hd hP;have HB2:=Hd (kb_trans HB1.out hB);have HR2:=Hd (HR1.out.kb hgb hB);have hs2:=kb_size hB;clear hP hB;unfold exA
  go_upto_region 4 with(fail)
  generalize hwb:w2.alloc _=w3;obtain⟨hP3,hR3,hB3,hgb3,hg3,hK3⟩:=ex_box HP2.out hwb;have HP3:=Hd hP3;have HE3:=Hd hR3;have HB3:=Hd (kb_trans HB2.out hB3);have HR3:=Hd (HR2.out.kb hgb hB3);clear hP3 hR3 hB3 hwb hK3
  go_wp2_with fail
  refine(take_no ⟨#[45,62]⟩ HP3.out rfl).mono ?_;rintro e w4 ⟨rfl,hP,hB⟩;have HP4:=Hd hP;have HB4:=Hd (kb_trans HB3.out hB);have HR4:=Hd (HR3.out.kb hgb hB);have HE4:=Hd (HE3.out.kb hgb3 hB);clear hP hB
  go_wp2_with (first | (refine wpList_load_row rfl _ _ rfl (w2.heap.size) rfl _ _ _ _ (HE4.out) Tryz.underlying26 rfl ex_info ?_) | (refine wpList_store_row rfl _ _ _ rfl (w.heap.size) _ rfl rfl _ _ (HR4.out) ex_info rfl (by simp[exA,Value.oneCell']) ?_))
  obtain⟨f1,f2,f3⟩:=(fin_same (x:=y) (A1:=A2) (ca1:=ca2) (B1:=B2) (cb1:=cb2) HB4.out HP4.out HR4.out hgb (Nat.le_refl _) hA);exact bodyPost_ret (res_ex rfl _ _ (w.heap.size) _ rfl rfl f3) rfl ⟨f1,f2,_,_,_,_,_,rfl⟩
theorem prArrow_bad(h:PSt w b A n c all r true):Calls Tryz.prog 30 #[.pointer (some ⟨b,0,none⟩)] w (PostX w b A n c all (.bad r)):=by
 have hA:=h.home;have hlt:=h.lt
 go_enter Tryz.func30,Tryz.ntmps30
 go_upto_region 1 with(fail)
 generalize hw1:w.alloc _=w1;obtain⟨hP1,hR1,hB1,hgb,hg1⟩:=res_box h hw1;have HP1:=Hd hP1;have HR1:=Hd hR1;have HB1:=Hd hB1;clear hP1 hR1 hB1 hw1;have p2:w1.cell? ⟨b,2,none⟩=some (.bool true):=HP1.out.cell 2
 go_wp2_with (refine wpList_store_row rfl _ _ _ rfl (w.heap.size) _ rfl rfl _ _ (HR1.out) ex_info rfl (by simp[Value.oneCell']) ?_)
 obtain⟨f1,f2,f3⟩:=(fin_same (x:=zX) (A1:=none) (ca1:=0) (B1:=none) (cb1:=0) HB1.out HP1.out HR1.out hgb (Nat.le_refl _) hA);exact bodyPost_ret (res_ex rfl _ _ (w.heap.size) _ rfl rfl f3) rfl ⟨f1,f2,_,_,_,_,_,rfl⟩
end
end
end Go.Proofs.YtokiaaapgkdpmaaGreatDoor
