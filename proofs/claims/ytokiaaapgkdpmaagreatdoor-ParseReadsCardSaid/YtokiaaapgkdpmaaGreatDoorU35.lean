/- Parts: PsA. Conditions: each theorem's own. -/
import Derived.Test.YtokiaaapgkdpmaaGreatDoorU34
namespace Go.Proofs.YtokiaaapgkdpmaaGreatDoor
set_option linter.unusedVariables false
set_option linter.unusedSimpArgs false
set_option maxRecDepth 100000
set_option maxHeartbeats 40000000
section
open Go.RowKit Go.Sort
section
variable {w w1 w2 w':World}{b:Nat}{A:Option Addr}{n c:Nat}{all r r' r2:List Tk}{va va1 vp:Value}{st:List Value}{ps:List Ex}{sz:Nat}{L L1 L2 S ft:List Nat}
theorem RowX.setN{eb j:Nat}{x y:Ex}{v:Value}(h:RowX w eb x none 0 none 0)(e:(exA x none 0 none 0).setIfInBounds j v=exA y none 0 none 0):RowX (w.setCell ⟨eb,j,none⟩ v) eb y none 0 none 0:=by
 unfold RowX at h ⊢;rw[setCell_eq_setRow _ _ _ _ _ _ _ h,setRow_heap _ _ _ _ _ _ h,e]
theorem below_set{m eb j:Nat}{v:Value}(h:Below m w w1)(hm:m≤eb):Below m w (w1.setCell ⟨eb,j,none⟩ v):=
 ⟨h.os,h.tape,h.output,by simpa using h.size,fun k hk=>(heap_setCell_other _ _ _ _ (show k≠eb by omega)).trans (h.block k hk)⟩
theorem word_isP{s:List UInt8}{t:Tk}{r':List Tk}(hs:Ask s)(hw:wordB s=true)(ht:TkOK t):isP s (t::r')=(t.k==1 && (t.s==s)):=by
 obtain⟨k,hk,h⟩:=hs.kind;rw[h t r' ht];rcases hk with⟨e,_⟩|⟨_,e⟩
 · rw[e]
 · rw[hw] at e
   cases e
theorem cell_of{g:Nat}{cs:Array Value}{T:TypeId}(h:w.heap[g]?=some (.cells cs T))(j:Nat)(v:Value)(hv:cs[j]?=some v):w.cell? ⟨g,j,none⟩=some v:=by
 unfold World.cell?;rw[h]
 simpa using hv
theorem single_true{t:Tk}{bf:Bool}{b0 off i:Nat}{k tn ta:Int}{bs:ByteArray}
 (HM:Hid (Mem w b (some ⟨b0,off,none⟩) n c all (t::r') va st vp ps sz L))
 (HIT:Hid (∀ w1,Below w.heap.size w w1→Calls Tryz.prog 95 #[rp b,.string ⟨#[116,114,117,101]⟩] w1 fun e w'=>e=.returned (.bool true)∧Below w1.heap.size w1 w'))
 (HIF:Hid (∀ w1,Below w.heap.size w w1→Calls Tryz.prog 95 #[rp b,.string ⟨#[102,97,108,115,101]⟩] w1 fun e w'=>e=.returned (.bool bf)∧Below w1.heap.size w1 w'))
 (HTK:Hid (∀ w1,Below w.heap.size w w1→k≠6→Calls Tryz.prog 96 #[rp b] w1 fun e w'=>e=.returned (.agg #[.int .i64 k,.string bs,.int .i64 tn,.int .i64 ta])∧QSt w' b (some ⟨b0,off,none⟩) n c all r' va vp sz∧Below w1.heap.size (bl b w1) (bl b w')))
 (hst:st.length≤900000) (hps:ps.length≤1000000) (hsz:sz≤1000000)
 (q0:w.cell? ⟨b,0,none⟩=some (.slice (some ⟨b0,off,none⟩) n c)) (q1:w.cell? ⟨b,1,none⟩=some (.int .i64 (i:Int))) (hbl:b<w.heap.size) (hb0:b0<w.heap.size) (hmx:n≤9223372036854775807)
 (t0:w.cell? ⟨b0,off+i*4,none⟩=some (.int .i64 k)) (t1:w.cell? ⟨b0,off+i*4+1,none⟩=some (.string bs)) (t2:w.cell? ⟨b0,off+i*4+2,none⟩=some (.int .i64 tn)) (t3:w.cell? ⟨b0,off+i*4+3,none⟩=some (.int .i64 ta))
 (hi0:(0:Int)≤(i:Int)) (hi1:(i:Int)<(n:Int)) (hk:k=1):
 Calls Tryz.prog 190 #[rp b] w (Turn w b (some ⟨b0,off,none⟩) n c all va st vp L [] (madeO (Ex.mk 2 1 ByteArray.empty 0 [] []) ps.length ps sz r')):=by
 have HK6:=Hd (show k≠6 by omega);clear hk
 go_enter Tryz.func190,Tryz.ntmps190
 go_upto_region 1 with(fail)
 generalize hw1:w.alloc _=w1;have HB1:=Hd (show Below w.heap.size w w1 by rw[← hw1];exact(Below.refl _ _).alloc (Nat.le_refl _) _);have HE1:=Hd (show RowX w1 w.heap.size (Ex.mk 0 0 ByteArray.empty 0 [] []) none 0 none 0 by rw[← hw1];exact heap_alloc_new _ _);have hsz1:w1.heap.size=w.heap.size+1:=by rw[← hw1];simp
 clear hw1;have l0:∀ {p:Addr}{v:Value},w.cell? p=some v→w1.cell? p=some v:=fun h=>(HB1.out.cell (World.block_lt_of_cell? _ _ h)).trans h;have q0:=l0 q0;have q1:=l0 q1;have t0:=l0 t0;have t1:=l0 t1;have t2:=l0 t2;have t3:=l0 t3;clear l0;have la:∀ {p:Addr}{v:Value}(o:Obj),w1.cell? p=some v→(w1.alloc o).cell? p=some v:=fun o h=>(World.cell?_alloc_lt _ _ _ (World.block_lt_of_cell? _ _ h)).trans h;have k0:=World.block_lt_of_cell? _ _ q0;have k1:=World.block_lt_of_cell? _ _ t0;generalize hgg:w.heap.size=eb at HE1 hsz1 ⊢;have HGG:=Hd hgg;clear hgg
 go_region_held3 (fun W=>W.cell? ⟨b,0,none⟩=some (.slice (some ⟨b0,off,none⟩) n c)∧W.cell? ⟨b,1,none⟩=some (.int .i64 (i:Int))∧W.cell? ⟨b0,off+i*4,none⟩=some (.int .i64 k)∧W.cell? ⟨b0,off+i*4+1,none⟩=some (.string bs)∧W.cell? ⟨b0,off+i*4+2,none⟩=some (.int .i64 tn)∧W.cell? ⟨b0,off+i*4+3,none⟩=some (.int .i64 ta)) (first | exact⟨q0,q1,t0,t1,t2,t3⟩ | exact⟨la _ q0,la _ q1,la _ t0,la _ t1,la _ t2,la _ t3⟩) (fail)
 generalize hw2:(w1.alloc _).drew=w2;have HB2:=Hd (show Below w.heap.size w w2 by rw[← hw2];exact(HB1.out.alloc HB1.out.size _).drew);have HE2:=Hd (show RowX w2 eb (Ex.mk 0 0 ByteArray.empty 0 [] []) none 0 none 0 by rw[← hw2];exact(((Below.refl w1.heap.size w1).alloc (Nat.le_refl _) _).block eb (by omega)).trans HE1.out);have HC2:=Hd (show w2.heap[eb+1]?=some (.cells #[.int .i64 k,.string bs,.int .i64 tn,.int .i64 ta] 41) by rw[← hw2,← hsz1];exact heap_alloc_new _ _);clear hw2 la k0 k1 q0 q1 t0 t1 t2 t3 HB1 HE1 hsz1
 go_wp2_with fail
 refine(HIT.out w2 HB2.out).mono ?_;rintro e w3 ⟨rfl,hb3⟩;have HB3:=Hd (HB2.out.trans (hb3.mono HB2.out.size));have HE3:=Hd (show RowX w3 eb (Ex.mk 0 0 ByteArray.empty 0 [] []) none 0 none 0 from(hb3.block eb HE2.out.lt).trans HE2.out);have HC3:=Hd ((hb3.block (eb+1) (Array.getElem?_eq_some_iff.1 HC2.out).1).trans HC2.out);clear hb3;have e0:=HE3.out.cells.1;have e1:=HE3.out.cells.2.1;have e2:=HE3.out.cells.2.2.1;have g0:=HE3.out.fz 0;have g1:=HE3.out.fz 1;have g2:=HE3.out.fz 2;have c0:=cell_of HC3.out 0 _ rfl;have c1:=cell_of HC3.out 1 _ rfl;have c2:=cell_of HC3.out 2 _ rfl
 go_upto_region 13 with(fail)
 clear e0 e1 e2 g0 g1 g2 c0 c1 c2;generalize hw5:(w3.setCell ⟨eb,0,none⟩ (.int .i64 2)).setCell ⟨eb,1,none⟩ (.int .i64 1)=w5;have HB5:=Hd (show Below w.heap.size w w5 by rw[← hw5];exact(below_set (below_set HB3.out (Nat.le_of_eq HGG.out)) (Nat.le_of_eq HGG.out)));have HE5:=Hd (show RowX w5 eb (Ex.mk 2 1 ByteArray.empty 0 [] []) none 0 none 0 by rw[← hw5];exact(RowX.setN (y:=Ex.mk 2 1 ByteArray.empty 0 [] []) (RowX.setN (y:=Ex.mk 2 0 ByteArray.empty 0 [] []) HE3.out rfl) rfl));clear hw5
 go_wp2_with fail
 refine(HTK.out w5 HB5.out HK6.out).mono ?_;rintro e w6 ⟨rfl,hq,hb⟩;obtain⟨hM6,hT6⟩:=(HM.out.use HB5.out (Nat.le_of_eq HGG.out) HE5.out.lt).move hq hb;have hE5:EAt (eb::L) w5 eb (Ex.mk 2 1 ByteArray.empty 0 [] []):=⟨List.mem_cons_self,rfl,none,0,HE5.out,RdT.nil_ _⟩;have hne5:eb∉[b]:=fun hk=>by rw[List.mem_singleton] at hk;have:=HGG.out;omega
 have HE6:=Hd (hE5.up hT6 (b_sub (HM.out.use HB5.out (Nat.le_of_eq HGG.out) HE5.out.lt)) hne5);have HM6:=Hd hM6;have HT6:=Hd (((Tn.of_below HB5.out).use (Nat.le_of_eq HGG.out)).mono (S1:=[b]) (fun k hk=>absurd hk List.not_mem_nil) |>.trans hT6 HM.out.lv (fun k hk=>.inl hk));clear hq hb hM6 hT6 hE5 hne5
 go_wp2_with fail
 refine(rrMade (b:=b) (L:=eb::L) 0 eb HM6.out (Nat.zero_le _) hps).mono ?_;rintro e w7 ⟨s0,s1,s2,rfl,hba,hpa,hc0,hc1,hc2⟩;have HM7:=Hd (HM6.out.below hba);have HE7:=Hd (HE6.out.up (Tn.of_below (S:=[]) hba) nil_sub List.not_mem_nil);have HT7:=Hd (HT6.out.trans (Tn.of_below (S:=[]) hba) HM.out.lv (fun k hk=>absurd hk List.not_mem_nil));have HZ7:=Hd (fzs_cons (Fz.new hc0 (fun hh=>by have:=HM6.out.lv _ hh;omega)) (fzs_cons (Fz.new hc1 (fun hh=>by have:=HM6.out.lv _ hh;omega)) (fzs_cons (Fz.new hc2 (fun hh=>by have:=HM6.out.lv _ hh;omega)) (fzs_nil (eb::L) w7))));have HV:=Hd (show vp.ownBlock≠some eb from fun hv=>by have:=HM.out.lv _ (HM.out.lp _ hv);have:=HGG.out;omega);clear hba hpa hc0 hc1 hc2
 go_wp2_with fail
 refine(trn_made (Ex.mk 2 1 ByteArray.empty 0 [] []) ps.length eb s0 s1 s2 HM7.out (Nat.le_refl _) hps hsz HE7.out HV.out (HZ7.out (s0,rp b) (by simp)) (HZ7.out (s1,rp eb) (by simp)) (HZ7.out (s2,.int .i64 ((ps.length-0:Nat):Int)) (by simp))).mono ?_;intro e w8 hx;have HX:=Hd (turn_into (ft:=[]) HM.out (HT7.out.mono (S1:=turnS b va vp []) turnS_b) (fun k hk=>.inr (by rw[List.mem_singleton.1 hk];exact Nat.le_of_eq HGG.out)) hx);have hr:=turn_made_ret hx;clear hx;subst hr
 go_wp2_with fail
 go_end0
 exact HX.out
theorem single_false{t:Tk}{bf:Bool}{b0 off i:Nat}{k tn ta:Int}{bs:ByteArray}
 (HM:Hid (Mem w b (some ⟨b0,off,none⟩) n c all (t::r') va st vp ps sz L))
 (HIT:Hid (∀ w1,Below w.heap.size w w1→Calls Tryz.prog 95 #[rp b,.string ⟨#[116,114,117,101]⟩] w1 fun e w'=>e=.returned (.bool false)∧Below w1.heap.size w1 w'))
 (HIF:Hid (∀ w1,Below w.heap.size w w1→Calls Tryz.prog 95 #[rp b,.string ⟨#[102,97,108,115,101]⟩] w1 fun e w'=>e=.returned (.bool true)∧Below w1.heap.size w1 w'))
 (HTK:Hid (∀ w1,Below w.heap.size w w1→k≠6→Calls Tryz.prog 96 #[rp b] w1 fun e w'=>e=.returned (.agg #[.int .i64 k,.string bs,.int .i64 tn,.int .i64 ta])∧QSt w' b (some ⟨b0,off,none⟩) n c all r' va vp sz∧Below w1.heap.size (bl b w1) (bl b w')))
 (hst:st.length≤900000) (hps:ps.length≤1000000) (hsz:sz≤1000000)
 (q0:w.cell? ⟨b,0,none⟩=some (.slice (some ⟨b0,off,none⟩) n c)) (q1:w.cell? ⟨b,1,none⟩=some (.int .i64 (i:Int))) (hbl:b<w.heap.size) (hb0:b0<w.heap.size) (hmx:n≤9223372036854775807)
 (t0:w.cell? ⟨b0,off+i*4,none⟩=some (.int .i64 k)) (t1:w.cell? ⟨b0,off+i*4+1,none⟩=some (.string bs)) (t2:w.cell? ⟨b0,off+i*4+2,none⟩=some (.int .i64 tn)) (t3:w.cell? ⟨b0,off+i*4+3,none⟩=some (.int .i64 ta))
 (hi0:(0:Int)≤(i:Int)) (hi1:(i:Int)<(n:Int)) (hk:k=1):
 Calls Tryz.prog 190 #[rp b] w (Turn w b (some ⟨b0,off,none⟩) n c all va st vp L [] (madeO (Ex.mk 2 0 ByteArray.empty 0 [] []) ps.length ps sz r')):=by
 have HK6:=Hd (show k≠6 by omega);clear hk
 go_enter Tryz.func190,Tryz.ntmps190
 go_upto_region 1 with(fail)
 generalize hw1:w.alloc _=w1;have HB1:=Hd (show Below w.heap.size w w1 by rw[← hw1];exact(Below.refl _ _).alloc (Nat.le_refl _) _);have HE1:=Hd (show RowX w1 w.heap.size (Ex.mk 0 0 ByteArray.empty 0 [] []) none 0 none 0 by rw[← hw1];exact heap_alloc_new _ _);have hsz1:w1.heap.size=w.heap.size+1:=by rw[← hw1];simp
 clear hw1;have l0:∀ {p:Addr}{v:Value},w.cell? p=some v→w1.cell? p=some v:=fun h=>(HB1.out.cell (World.block_lt_of_cell? _ _ h)).trans h;have q0:=l0 q0;have q1:=l0 q1;have t0:=l0 t0;have t1:=l0 t1;have t2:=l0 t2;have t3:=l0 t3;clear l0;have la:∀ {p:Addr}{v:Value}(o:Obj),w1.cell? p=some v→(w1.alloc o).cell? p=some v:=fun o h=>(World.cell?_alloc_lt _ _ _ (World.block_lt_of_cell? _ _ h)).trans h;have k0:=World.block_lt_of_cell? _ _ q0;have k1:=World.block_lt_of_cell? _ _ t0;generalize hgg:w.heap.size=eb at HE1 hsz1 ⊢;have HGG:=Hd hgg;clear hgg
 go_region_held3 (fun W=>W.cell? ⟨b,0,none⟩=some (.slice (some ⟨b0,off,none⟩) n c)∧W.cell? ⟨b,1,none⟩=some (.int .i64 (i:Int))∧W.cell? ⟨b0,off+i*4,none⟩=some (.int .i64 k)∧W.cell? ⟨b0,off+i*4+1,none⟩=some (.string bs)∧W.cell? ⟨b0,off+i*4+2,none⟩=some (.int .i64 tn)∧W.cell? ⟨b0,off+i*4+3,none⟩=some (.int .i64 ta)) (first | exact⟨q0,q1,t0,t1,t2,t3⟩ | exact⟨la _ q0,la _ q1,la _ t0,la _ t1,la _ t2,la _ t3⟩) (fail)
 generalize hw2:(w1.alloc _).drew=w2;have HB2:=Hd (show Below w.heap.size w w2 by rw[← hw2];exact(HB1.out.alloc HB1.out.size _).drew);have HE2:=Hd (show RowX w2 eb (Ex.mk 0 0 ByteArray.empty 0 [] []) none 0 none 0 by rw[← hw2];exact(((Below.refl w1.heap.size w1).alloc (Nat.le_refl _) _).block eb (by omega)).trans HE1.out);have HC2:=Hd (show w2.heap[eb+1]?=some (.cells #[.int .i64 k,.string bs,.int .i64 tn,.int .i64 ta] 41) by rw[← hw2,← hsz1];exact heap_alloc_new _ _);clear hw2 la k0 k1 q0 q1 t0 t1 t2 t3 HB1 HE1 hsz1
 go_wp2_with fail
 refine(HIT.out w2 HB2.out).mono ?_;rintro e w3 ⟨rfl,hb3⟩;have HB3:=Hd (HB2.out.trans (hb3.mono HB2.out.size));have HE3:=Hd (show RowX w3 eb (Ex.mk 0 0 ByteArray.empty 0 [] []) none 0 none 0 from(hb3.block eb HE2.out.lt).trans HE2.out);have HC3:=Hd ((hb3.block (eb+1) (Array.getElem?_eq_some_iff.1 HC2.out).1).trans HC2.out);clear hb3
 go_wp2_with fail
 refine(HIF.out w3 HB3.out).mono ?_;rintro e w4 ⟨rfl,hb4⟩;have HB4:=Hd (HB3.out.trans (hb4.mono HB3.out.size));have HE4:=Hd (show RowX w4 eb (Ex.mk 0 0 ByteArray.empty 0 [] []) none 0 none 0 from(hb4.block eb HE3.out.lt).trans HE3.out);have HC4:=Hd ((hb4.block (eb+1) (Array.getElem?_eq_some_iff.1 HC3.out).1).trans HC3.out);clear hb4;have e0:=HE4.out.cells.1;have e1:=HE4.out.cells.2.1;have e2:=HE4.out.cells.2.2.1;have g0:=HE4.out.fz 0;have g1:=HE4.out.fz 1;have g2:=HE4.out.fz 2;have c0:=cell_of HC4.out 0 _ rfl;have c1:=cell_of HC4.out 1 _ rfl;have c2:=cell_of HC4.out 2 _ rfl
 go_upto_region 13 with(fail)
 clear e0 e1 e2 g0 g1 g2 c0 c1 c2;generalize hw5:w4.setCell ⟨eb,0,none⟩ (.int .i64 2)=w5;have HB5:=Hd (show Below w.heap.size w w5 by rw[← hw5];exact(below_set HB4.out (Nat.le_of_eq HGG.out)));have HE5:=Hd (show RowX w5 eb (Ex.mk 2 0 ByteArray.empty 0 [] []) none 0 none 0 by rw[← hw5];exact(RowX.setN (y:=Ex.mk 2 0 ByteArray.empty 0 [] []) HE4.out rfl));clear hw5
 go_wp2_with fail
 refine(HTK.out w5 HB5.out HK6.out).mono ?_;rintro e w6 ⟨rfl,hq,hb⟩;obtain⟨hM6,hT6⟩:=(HM.out.use HB5.out (Nat.le_of_eq HGG.out) HE5.out.lt).move hq hb;have hE5:EAt (eb::L) w5 eb (Ex.mk 2 0 ByteArray.empty 0 [] []):=⟨List.mem_cons_self,rfl,none,0,HE5.out,RdT.nil_ _⟩;have hne5:eb∉[b]:=fun hk=>by rw[List.mem_singleton] at hk;have:=HGG.out;omega
 have HE6:=Hd (hE5.up hT6 (b_sub (HM.out.use HB5.out (Nat.le_of_eq HGG.out) HE5.out.lt)) hne5);have HM6:=Hd hM6;have HT6:=Hd (((Tn.of_below HB5.out).use (Nat.le_of_eq HGG.out)).mono (S1:=[b]) (fun k hk=>absurd hk List.not_mem_nil) |>.trans hT6 HM.out.lv (fun k hk=>.inl hk));clear hq hb hM6 hT6 hE5 hne5
 go_wp2_with fail
 refine(rrMade (b:=b) (L:=eb::L) 0 eb HM6.out (Nat.zero_le _) hps).mono ?_;rintro e w7 ⟨s0,s1,s2,rfl,hba,hpa,hc0,hc1,hc2⟩;have HM7:=Hd (HM6.out.below hba);have HE7:=Hd (HE6.out.up (Tn.of_below (S:=[]) hba) nil_sub List.not_mem_nil);have HT7:=Hd (HT6.out.trans (Tn.of_below (S:=[]) hba) HM.out.lv (fun k hk=>absurd hk List.not_mem_nil));have HZ7:=Hd (fzs_cons (Fz.new hc0 (fun hh=>by have:=HM6.out.lv _ hh;omega)) (fzs_cons (Fz.new hc1 (fun hh=>by have:=HM6.out.lv _ hh;omega)) (fzs_cons (Fz.new hc2 (fun hh=>by have:=HM6.out.lv _ hh;omega)) (fzs_nil (eb::L) w7))));have HV:=Hd (show vp.ownBlock≠some eb from fun hv=>by have:=HM.out.lv _ (HM.out.lp _ hv);have:=HGG.out;omega);clear hba hpa hc0 hc1 hc2
 go_wp2_with fail
 refine(trn_made (Ex.mk 2 0 ByteArray.empty 0 [] []) ps.length eb s0 s1 s2 HM7.out (Nat.le_refl _) hps hsz HE7.out HV.out (HZ7.out (s0,rp b) (by simp)) (HZ7.out (s1,rp eb) (by simp)) (HZ7.out (s2,.int .i64 ((ps.length-0:Nat):Int)) (by simp))).mono ?_;intro e w8 hx;have HX:=Hd (turn_into (ft:=[]) HM.out (HT7.out.mono (S1:=turnS b va vp []) turnS_b) (fun k hk=>.inr (by rw[List.mem_singleton.1 hk];exact Nat.le_of_eq HGG.out)) hx);have hr:=turn_made_ret hx;clear hx;subst hr
 go_wp2_with fail
 go_end0
 exact HX.out
theorem single_num{t:Tk}{bf:Bool}{b0 off i:Nat}{k tn ta:Int}{bs:ByteArray}
 (HM:Hid (Mem w b (some ⟨b0,off,none⟩) n c all (t::r') va st vp ps sz L))
 (HIT:Hid (∀ w1,Below w.heap.size w w1→Calls Tryz.prog 95 #[rp b,.string ⟨#[116,114,117,101]⟩] w1 fun e w'=>e=.returned (.bool false)∧Below w1.heap.size w1 w'))
 (HIF:Hid (∀ w1,Below w.heap.size w w1→Calls Tryz.prog 95 #[rp b,.string ⟨#[102,97,108,115,101]⟩] w1 fun e w'=>e=.returned (.bool false)∧Below w1.heap.size w1 w'))
 (HTK:Hid (∀ w1,Below w.heap.size w w1→k≠6→Calls Tryz.prog 96 #[rp b] w1 fun e w'=>e=.returned (.agg #[.int .i64 k,.string bs,.int .i64 tn,.int .i64 ta])∧QSt w' b (some ⟨b0,off,none⟩) n c all r' va vp sz∧Below w1.heap.size (bl b w1) (bl b w')))
 (hst:st.length≤900000) (hps:ps.length≤1000000) (hsz:sz≤1000000)
 (q0:w.cell? ⟨b,0,none⟩=some (.slice (some ⟨b0,off,none⟩) n c)) (q1:w.cell? ⟨b,1,none⟩=some (.int .i64 (i:Int))) (hbl:b<w.heap.size) (hb0:b0<w.heap.size) (hmx:n≤9223372036854775807)
 (t0:w.cell? ⟨b0,off+i*4,none⟩=some (.int .i64 k)) (t1:w.cell? ⟨b0,off+i*4+1,none⟩=some (.string bs)) (t2:w.cell? ⟨b0,off+i*4+2,none⟩=some (.int .i64 tn)) (t3:w.cell? ⟨b0,off+i*4+3,none⟩=some (.int .i64 ta))
 (hi0:(0:Int)≤(i:Int)) (hi1:(i:Int)<(n:Int)) (hk:k=3):
 Calls Tryz.prog 190 #[rp b] w (Turn w b (some ⟨b0,off,none⟩) n c all va st vp L [] (madeO (Ex.mk 1 tn ByteArray.empty 0 [] []) ps.length ps sz r')):=by
 have HK6:=Hd (show k≠6 by omega);have HK:=Hd hk;clear hk
 go_enter Tryz.func190,Tryz.ntmps190
 go_upto_region 1 with(fail)
 generalize hw1:w.alloc _=w1;have HB1:=Hd (show Below w.heap.size w w1 by rw[← hw1];exact(Below.refl _ _).alloc (Nat.le_refl _) _);have HE1:=Hd (show RowX w1 w.heap.size (Ex.mk 0 0 ByteArray.empty 0 [] []) none 0 none 0 by rw[← hw1];exact heap_alloc_new _ _);have hsz1:w1.heap.size=w.heap.size+1:=by rw[← hw1];simp
 clear hw1;have l0:∀ {p:Addr}{v:Value},w.cell? p=some v→w1.cell? p=some v:=fun h=>(HB1.out.cell (World.block_lt_of_cell? _ _ h)).trans h;have q0:=l0 q0;have q1:=l0 q1;have t0:=l0 t0;have t1:=l0 t1;have t2:=l0 t2;have t3:=l0 t3;clear l0;have la:∀ {p:Addr}{v:Value}(o:Obj),w1.cell? p=some v→(w1.alloc o).cell? p=some v:=fun o h=>(World.cell?_alloc_lt _ _ _ (World.block_lt_of_cell? _ _ h)).trans h;have k0:=World.block_lt_of_cell? _ _ q0;have k1:=World.block_lt_of_cell? _ _ t0;generalize hgg:w.heap.size=eb at HE1 hsz1 ⊢;have HGG:=Hd hgg;clear hgg
 go_region_held3 (fun W=>W.cell? ⟨b,0,none⟩=some (.slice (some ⟨b0,off,none⟩) n c)∧W.cell? ⟨b,1,none⟩=some (.int .i64 (i:Int))∧W.cell? ⟨b0,off+i*4,none⟩=some (.int .i64 k)∧W.cell? ⟨b0,off+i*4+1,none⟩=some (.string bs)∧W.cell? ⟨b0,off+i*4+2,none⟩=some (.int .i64 tn)∧W.cell? ⟨b0,off+i*4+3,none⟩=some (.int .i64 ta)) (first | exact⟨q0,q1,t0,t1,t2,t3⟩ | exact⟨la _ q0,la _ q1,la _ t0,la _ t1,la _ t2,la _ t3⟩) (fail)
 generalize hw2:(w1.alloc _).drew=w2;have HB2:=Hd (show Below w.heap.size w w2 by rw[← hw2];exact(HB1.out.alloc HB1.out.size _).drew);have HE2:=Hd (show RowX w2 eb (Ex.mk 0 0 ByteArray.empty 0 [] []) none 0 none 0 by rw[← hw2];exact(((Below.refl w1.heap.size w1).alloc (Nat.le_refl _) _).block eb (by omega)).trans HE1.out);have HC2:=Hd (show w2.heap[eb+1]?=some (.cells #[.int .i64 k,.string bs,.int .i64 tn,.int .i64 ta] 41) by rw[← hw2,← hsz1];exact heap_alloc_new _ _);clear hw2 la k0 k1 q0 q1 t0 t1 t2 t3 HB1 HE1 hsz1;have hk:=HK.out;clear HK;subst hk
 go_wp2_with fail
 refine(HIT.out w2 HB2.out).mono ?_;rintro e w3 ⟨rfl,hb3⟩;have HB3:=Hd (HB2.out.trans (hb3.mono HB2.out.size));have HE3:=Hd (show RowX w3 eb (Ex.mk 0 0 ByteArray.empty 0 [] []) none 0 none 0 from(hb3.block eb HE2.out.lt).trans HE2.out);have HC3:=Hd ((hb3.block (eb+1) (Array.getElem?_eq_some_iff.1 HC2.out).1).trans HC2.out);clear hb3
 go_wp2_with fail
 refine(HIF.out w3 HB3.out).mono ?_;rintro e w4 ⟨rfl,hb4⟩;have HB4:=Hd (HB3.out.trans (hb4.mono HB3.out.size));have HE4:=Hd (show RowX w4 eb (Ex.mk 0 0 ByteArray.empty 0 [] []) none 0 none 0 from(hb4.block eb HE3.out.lt).trans HE3.out);have HC4:=Hd ((hb4.block (eb+1) (Array.getElem?_eq_some_iff.1 HC3.out).1).trans HC3.out);clear hb4;have e0:=HE4.out.cells.1;have e1:=HE4.out.cells.2.1;have e2:=HE4.out.cells.2.2.1;have g0:=HE4.out.fz 0;have g1:=HE4.out.fz 1;have g2:=HE4.out.fz 2;have c0:=cell_of HC4.out 0 _ rfl;have c1:=cell_of HC4.out 1 _ rfl;have c2:=cell_of HC4.out 2 _ rfl
 have ko:∀ {u:World}{p:Addr}{v x:Value}{j:Nat},p.block=eb+1→u.cell? p=some v→(u.setCell ⟨eb,j,none⟩ x).cell? p=some v:=fun hp hc=>by
  unfold World.cell? at hc ⊢;rw[heap_setCell_other _ _ _ _ (by show _≠eb;omega)];exact hc
 go_upto_region 8 with(fail)
 go_region_held3 (fun W=>W.cell? ⟨eb+1,2,none⟩=some (.int .i64 tn)) (first | exact c2 | exact ko rfl c2 | exact ko rfl (ko rfl c2)) (fail)
 go_upto_region 13 with(fail)
 clear e0 e1 e2 g0 g1 g2 c0 c1 c2;clear ko;generalize hw5:((w4.setCell ⟨eb,0,none⟩ (.int .i64 1)).setCell ⟨eb,1,none⟩ (.int .i64 tn)).drew=w5;have HB5:=Hd (show Below w.heap.size w w5 by rw[← hw5];exact(below_set (below_set HB4.out (Nat.le_of_eq HGG.out)) (Nat.le_of_eq HGG.out)).drew);have HE5:=Hd (show RowX w5 eb (Ex.mk 1 tn ByteArray.empty 0 [] []) none 0 none 0 by rw[← hw5];exact(RowX.setN (y:=Ex.mk 1 tn ByteArray.empty 0 [] []) (RowX.setN (y:=Ex.mk 1 0 ByteArray.empty 0 [] []) HE4.out rfl) rfl));clear hw5
 go_wp2_with fail
 refine(HTK.out w5 HB5.out HK6.out).mono ?_;rintro e w6 ⟨rfl,hq,hb⟩;obtain⟨hM6,hT6⟩:=(HM.out.use HB5.out (Nat.le_of_eq HGG.out) HE5.out.lt).move hq hb;have hE5:EAt (eb::L) w5 eb (Ex.mk 1 tn ByteArray.empty 0 [] []):=⟨List.mem_cons_self,rfl,none,0,HE5.out,RdT.nil_ _⟩;have hne5:eb∉[b]:=fun hk=>by rw[List.mem_singleton] at hk;have:=HGG.out;omega
 have HE6:=Hd (hE5.up hT6 (b_sub (HM.out.use HB5.out (Nat.le_of_eq HGG.out) HE5.out.lt)) hne5);have HM6:=Hd hM6;have HT6:=Hd (((Tn.of_below HB5.out).use (Nat.le_of_eq HGG.out)).mono (S1:=[b]) (fun k hk=>absurd hk List.not_mem_nil) |>.trans hT6 HM.out.lv (fun k hk=>.inl hk));clear hq hb hM6 hT6 hE5 hne5
 go_wp2_with fail
 refine(rrMade (b:=b) (L:=eb::L) 0 eb HM6.out (Nat.zero_le _) hps).mono ?_;rintro e w7 ⟨s0,s1,s2,rfl,hba,hpa,hc0,hc1,hc2⟩;have HM7:=Hd (HM6.out.below hba);have HE7:=Hd (HE6.out.up (Tn.of_below (S:=[]) hba) nil_sub List.not_mem_nil);have HT7:=Hd (HT6.out.trans (Tn.of_below (S:=[]) hba) HM.out.lv (fun k hk=>absurd hk List.not_mem_nil));have HZ7:=Hd (fzs_cons (Fz.new hc0 (fun hh=>by have:=HM6.out.lv _ hh;omega)) (fzs_cons (Fz.new hc1 (fun hh=>by have:=HM6.out.lv _ hh;omega)) (fzs_cons (Fz.new hc2 (fun hh=>by have:=HM6.out.lv _ hh;omega)) (fzs_nil (eb::L) w7))));have HV:=Hd (show vp.ownBlock≠some eb from fun hv=>by have:=HM.out.lv _ (HM.out.lp _ hv);have:=HGG.out;omega);clear hba hpa hc0 hc1 hc2
 go_wp2_with fail
 refine(trn_made (Ex.mk 1 tn ByteArray.empty 0 [] []) ps.length eb s0 s1 s2 HM7.out (Nat.le_refl _) hps hsz HE7.out HV.out (HZ7.out (s0,rp b) (by simp)) (HZ7.out (s1,rp eb) (by simp)) (HZ7.out (s2,.int .i64 ((ps.length-0:Nat):Int)) (by simp))).mono ?_;intro e w8 hx;have HX:=Hd (turn_into (ft:=[]) HM.out (HT7.out.mono (S1:=turnS b va vp []) turnS_b) (fun k hk=>.inr (by rw[List.mem_singleton.1 hk];exact Nat.le_of_eq HGG.out)) hx);have hr:=turn_made_ret hx;clear hx;subst hr
 go_wp2_with fail
 go_end0
 exact HX.out
theorem single_high{t:Tk}{bf:Bool}{b0 off i:Nat}{k tn ta:Int}{bs:ByteArray}
 (HM:Hid (Mem w b (some ⟨b0,off,none⟩) n c all (t::r') va st vp ps sz L))
 (HIT:Hid (∀ w1,Below w.heap.size w w1→Calls Tryz.prog 95 #[rp b,.string ⟨#[116,114,117,101]⟩] w1 fun e w'=>e=.returned (.bool false)∧Below w1.heap.size w1 w'))
 (HIF:Hid (∀ w1,Below w.heap.size w w1→Calls Tryz.prog 95 #[rp b,.string ⟨#[102,97,108,115,101]⟩] w1 fun e w'=>e=.returned (.bool false)∧Below w1.heap.size w1 w'))
 (HTK:Hid (∀ w1,Below w.heap.size w w1→k≠6→Calls Tryz.prog 96 #[rp b] w1 fun e w'=>e=.returned (.agg #[.int .i64 k,.string bs,.int .i64 tn,.int .i64 ta])∧QSt w' b (some ⟨b0,off,none⟩) n c all r' va vp sz∧Below w1.heap.size (bl b w1) (bl b w')))
 (hst:st.length≤900000) (hps:ps.length≤1000000) (hsz:sz≤1000000)
 (q0:w.cell? ⟨b,0,none⟩=some (.slice (some ⟨b0,off,none⟩) n c)) (q1:w.cell? ⟨b,1,none⟩=some (.int .i64 (i:Int))) (hbl:b<w.heap.size) (hb0:b0<w.heap.size) (hmx:n≤9223372036854775807)
 (t0:w.cell? ⟨b0,off+i*4,none⟩=some (.int .i64 k)) (t1:w.cell? ⟨b0,off+i*4+1,none⟩=some (.string bs)) (t2:w.cell? ⟨b0,off+i*4+2,none⟩=some (.int .i64 tn)) (t3:w.cell? ⟨b0,off+i*4+3,none⟩=some (.int .i64 ta))
 (hi0:(0:Int)≤(i:Int)) (hi1:(i:Int)<(n:Int)) (hk:k=2):
 Calls Tryz.prog 190 #[rp b] w (Turn w b (some ⟨b0,off,none⟩) n c all va st vp L [] (madeO (Ex.mk 4 0 bs 0 [] []) ps.length ps sz r')):=by
 have HK6:=Hd (show k≠6 by omega);have HK:=Hd hk;clear hk
 go_enter Tryz.func190,Tryz.ntmps190
 go_upto_region 1 with(fail)
 generalize hw1:w.alloc _=w1;have HB1:=Hd (show Below w.heap.size w w1 by rw[← hw1];exact(Below.refl _ _).alloc (Nat.le_refl _) _);have HE1:=Hd (show RowX w1 w.heap.size (Ex.mk 0 0 ByteArray.empty 0 [] []) none 0 none 0 by rw[← hw1];exact heap_alloc_new _ _);have hsz1:w1.heap.size=w.heap.size+1:=by rw[← hw1];simp
 clear hw1;have l0:∀ {p:Addr}{v:Value},w.cell? p=some v→w1.cell? p=some v:=fun h=>(HB1.out.cell (World.block_lt_of_cell? _ _ h)).trans h;have q0:=l0 q0;have q1:=l0 q1;have t0:=l0 t0;have t1:=l0 t1;have t2:=l0 t2;have t3:=l0 t3;clear l0;have la:∀ {p:Addr}{v:Value}(o:Obj),w1.cell? p=some v→(w1.alloc o).cell? p=some v:=fun o h=>(World.cell?_alloc_lt _ _ _ (World.block_lt_of_cell? _ _ h)).trans h;have k0:=World.block_lt_of_cell? _ _ q0;have k1:=World.block_lt_of_cell? _ _ t0;generalize hgg:w.heap.size=eb at HE1 hsz1 ⊢;have HGG:=Hd hgg;clear hgg
 go_region_held3 (fun W=>W.cell? ⟨b,0,none⟩=some (.slice (some ⟨b0,off,none⟩) n c)∧W.cell? ⟨b,1,none⟩=some (.int .i64 (i:Int))∧W.cell? ⟨b0,off+i*4,none⟩=some (.int .i64 k)∧W.cell? ⟨b0,off+i*4+1,none⟩=some (.string bs)∧W.cell? ⟨b0,off+i*4+2,none⟩=some (.int .i64 tn)∧W.cell? ⟨b0,off+i*4+3,none⟩=some (.int .i64 ta)) (first | exact⟨q0,q1,t0,t1,t2,t3⟩ | exact⟨la _ q0,la _ q1,la _ t0,la _ t1,la _ t2,la _ t3⟩) (fail)
 generalize hw2:(w1.alloc _).drew=w2;have HB2:=Hd (show Below w.heap.size w w2 by rw[← hw2];exact(HB1.out.alloc HB1.out.size _).drew);have HE2:=Hd (show RowX w2 eb (Ex.mk 0 0 ByteArray.empty 0 [] []) none 0 none 0 by rw[← hw2];exact(((Below.refl w1.heap.size w1).alloc (Nat.le_refl _) _).block eb (by omega)).trans HE1.out);have HC2:=Hd (show w2.heap[eb+1]?=some (.cells #[.int .i64 k,.string bs,.int .i64 tn,.int .i64 ta] 41) by rw[← hw2,← hsz1];exact heap_alloc_new _ _);clear hw2 la k0 k1 q0 q1 t0 t1 t2 t3 HB1 HE1 hsz1;have hk:=HK.out;clear HK;subst hk
 go_wp2_with fail
 refine(HIT.out w2 HB2.out).mono ?_;rintro e w3 ⟨rfl,hb3⟩;have HB3:=Hd (HB2.out.trans (hb3.mono HB2.out.size));have HE3:=Hd (show RowX w3 eb (Ex.mk 0 0 ByteArray.empty 0 [] []) none 0 none 0 from(hb3.block eb HE2.out.lt).trans HE2.out);have HC3:=Hd ((hb3.block (eb+1) (Array.getElem?_eq_some_iff.1 HC2.out).1).trans HC2.out);clear hb3
 go_wp2_with fail
 refine(HIF.out w3 HB3.out).mono ?_;rintro e w4 ⟨rfl,hb4⟩;have HB4:=Hd (HB3.out.trans (hb4.mono HB3.out.size));have HE4:=Hd (show RowX w4 eb (Ex.mk 0 0 ByteArray.empty 0 [] []) none 0 none 0 from(hb4.block eb HE3.out.lt).trans HE3.out);have HC4:=Hd ((hb4.block (eb+1) (Array.getElem?_eq_some_iff.1 HC3.out).1).trans HC3.out);clear hb4;have e0:=HE4.out.cells.1;have e1:=HE4.out.cells.2.1;have e2:=HE4.out.cells.2.2.1;have g0:=HE4.out.fz 0;have g1:=HE4.out.fz 1;have g2:=HE4.out.fz 2;have c0:=cell_of HC4.out 0 _ rfl;have c1:=cell_of HC4.out 1 _ rfl;have c2:=cell_of HC4.out 2 _ rfl
 have ko:∀ {u:World}{p:Addr}{v x:Value}{j:Nat},p.block=eb+1→u.cell? p=some v→(u.setCell ⟨eb,j,none⟩ x).cell? p=some v:=fun hp hc=>by
  unfold World.cell? at hc ⊢;rw[heap_setCell_other _ _ _ _ (by show _≠eb;omega)];exact hc
 go_upto_region 10 with(fail)
 go_region_held3 (fun W=>W.cell? ⟨eb+1,1,none⟩=some (.string bs)) (first | exact c1 | exact ko rfl c1 | exact ko rfl (ko rfl c1)) (fail)
 go_upto_region 13 with(fail)
 clear e0 e1 e2 g0 g1 g2 c0 c1 c2;clear ko;generalize hw5:((w4.setCell ⟨eb,0,none⟩ (.int .i64 4)).setCell ⟨eb,2,none⟩ (.string bs)).drew=w5;have HB5:=Hd (show Below w.heap.size w w5 by rw[← hw5];exact(below_set (below_set HB4.out (Nat.le_of_eq HGG.out)) (Nat.le_of_eq HGG.out)).drew);have HE5:=Hd (show RowX w5 eb (Ex.mk 4 0 bs 0 [] []) none 0 none 0 by rw[← hw5];exact(RowX.setN (y:=Ex.mk 4 0 bs 0 [] []) (RowX.setN (y:=Ex.mk 4 0 ByteArray.empty 0 [] []) HE4.out rfl) rfl));clear hw5
 go_wp2_with fail
 refine(HTK.out w5 HB5.out HK6.out).mono ?_;rintro e w6 ⟨rfl,hq,hb⟩;obtain⟨hM6,hT6⟩:=(HM.out.use HB5.out (Nat.le_of_eq HGG.out) HE5.out.lt).move hq hb;have hE5:EAt (eb::L) w5 eb (Ex.mk 4 0 bs 0 [] []):=⟨List.mem_cons_self,rfl,none,0,HE5.out,RdT.nil_ _⟩;have hne5:eb∉[b]:=fun hk=>by rw[List.mem_singleton] at hk;have:=HGG.out;omega
 have HE6:=Hd (hE5.up hT6 (b_sub (HM.out.use HB5.out (Nat.le_of_eq HGG.out) HE5.out.lt)) hne5);have HM6:=Hd hM6;have HT6:=Hd (((Tn.of_below HB5.out).use (Nat.le_of_eq HGG.out)).mono (S1:=[b]) (fun k hk=>absurd hk List.not_mem_nil) |>.trans hT6 HM.out.lv (fun k hk=>.inl hk));clear hq hb hM6 hT6 hE5 hne5
 go_wp2_with fail
 refine(rrMade (b:=b) (L:=eb::L) 0 eb HM6.out (Nat.zero_le _) hps).mono ?_;rintro e w7 ⟨s0,s1,s2,rfl,hba,hpa,hc0,hc1,hc2⟩;have HM7:=Hd (HM6.out.below hba);have HE7:=Hd (HE6.out.up (Tn.of_below (S:=[]) hba) nil_sub List.not_mem_nil);have HT7:=Hd (HT6.out.trans (Tn.of_below (S:=[]) hba) HM.out.lv (fun k hk=>absurd hk List.not_mem_nil));have HZ7:=Hd (fzs_cons (Fz.new hc0 (fun hh=>by have:=HM6.out.lv _ hh;omega)) (fzs_cons (Fz.new hc1 (fun hh=>by have:=HM6.out.lv _ hh;omega)) (fzs_cons (Fz.new hc2 (fun hh=>by have:=HM6.out.lv _ hh;omega)) (fzs_nil (eb::L) w7))));have HV:=Hd (show vp.ownBlock≠some eb from fun hv=>by have:=HM.out.lv _ (HM.out.lp _ hv);have:=HGG.out;omega);clear hba hpa hc0 hc1 hc2
 go_wp2_with fail
 refine(trn_made (Ex.mk 4 0 bs 0 [] []) ps.length eb s0 s1 s2 HM7.out (Nat.le_refl _) hps hsz HE7.out HV.out (HZ7.out (s0,rp b) (by simp)) (HZ7.out (s1,rp eb) (by simp)) (HZ7.out (s2,.int .i64 ((ps.length-0:Nat):Int)) (by simp))).mono ?_;intro e w8 hx;have HX:=Hd (turn_into (ft:=[]) HM.out (HT7.out.mono (S1:=turnS b va vp []) turnS_b) (fun k hk=>.inr (by rw[List.mem_singleton.1 hk];exact Nat.le_of_eq HGG.out)) hx);have hr:=turn_made_ret hx;clear hx;subst hr
 go_wp2_with fail
 go_end0
 exact HX.out
theorem single_path{t:Tk}{bf:Bool}{b0 off i:Nat}{k tn ta:Int}{bs:ByteArray}
 (HM:Hid (Mem w b (some ⟨b0,off,none⟩) n c all (t::r') va st vp ps sz L))
 (HIT:Hid (∀ w1,Below w.heap.size w w1→Calls Tryz.prog 95 #[rp b,.string ⟨#[116,114,117,101]⟩] w1 fun e w'=>e=.returned (.bool false)∧Below w1.heap.size w1 w'))
 (HIF:Hid (∀ w1,Below w.heap.size w w1→Calls Tryz.prog 95 #[rp b,.string ⟨#[102,97,108,115,101]⟩] w1 fun e w'=>e=.returned (.bool false)∧Below w1.heap.size w1 w'))
 (HTK:Hid (∀ w1,Below w.heap.size w w1→k≠6→Calls Tryz.prog 96 #[rp b] w1 fun e w'=>e=.returned (.agg #[.int .i64 k,.string bs,.int .i64 tn,.int .i64 ta])∧QSt w' b (some ⟨b0,off,none⟩) n c all r' va vp sz∧Below w1.heap.size (bl b w1) (bl b w')))
 (hst:st.length≤900000) (hps:ps.length≤1000000) (hsz:sz≤1000000)
 (q0:w.cell? ⟨b,0,none⟩=some (.slice (some ⟨b0,off,none⟩) n c)) (q1:w.cell? ⟨b,1,none⟩=some (.int .i64 (i:Int))) (hbl:b<w.heap.size) (hb0:b0<w.heap.size) (hmx:n≤9223372036854775807)
 (t0:w.cell? ⟨b0,off+i*4,none⟩=some (.int .i64 k)) (t1:w.cell? ⟨b0,off+i*4+1,none⟩=some (.string bs)) (t2:w.cell? ⟨b0,off+i*4+2,none⟩=some (.int .i64 tn)) (t3:w.cell? ⟨b0,off+i*4+3,none⟩=some (.int .i64 ta))
 (hi0:(0:Int)≤(i:Int)) (hi1:(i:Int)<(n:Int)) (hk:k=4):
 Calls Tryz.prog 190 #[rp b] w (Turn w b (some ⟨b0,off,none⟩) n c all va st vp L [] (madeO (Ex.mk 17 0 bs 0 [] []) ps.length ps sz r')):=by
 have HK6:=Hd (show k≠6 by omega);have HK:=Hd hk;clear hk
 go_enter Tryz.func190,Tryz.ntmps190
 go_upto_region 1 with(fail)
 generalize hw1:w.alloc _=w1;have HB1:=Hd (show Below w.heap.size w w1 by rw[← hw1];exact(Below.refl _ _).alloc (Nat.le_refl _) _);have HE1:=Hd (show RowX w1 w.heap.size (Ex.mk 0 0 ByteArray.empty 0 [] []) none 0 none 0 by rw[← hw1];exact heap_alloc_new _ _);have hsz1:w1.heap.size=w.heap.size+1:=by rw[← hw1];simp
 clear hw1;have l0:∀ {p:Addr}{v:Value},w.cell? p=some v→w1.cell? p=some v:=fun h=>(HB1.out.cell (World.block_lt_of_cell? _ _ h)).trans h;have q0:=l0 q0;have q1:=l0 q1;have t0:=l0 t0;have t1:=l0 t1;have t2:=l0 t2;have t3:=l0 t3;clear l0;have la:∀ {p:Addr}{v:Value}(o:Obj),w1.cell? p=some v→(w1.alloc o).cell? p=some v:=fun o h=>(World.cell?_alloc_lt _ _ _ (World.block_lt_of_cell? _ _ h)).trans h;have k0:=World.block_lt_of_cell? _ _ q0;have k1:=World.block_lt_of_cell? _ _ t0;generalize hgg:w.heap.size=eb at HE1 hsz1 ⊢;have HGG:=Hd hgg;clear hgg
 go_region_held3 (fun W=>W.cell? ⟨b,0,none⟩=some (.slice (some ⟨b0,off,none⟩) n c)∧W.cell? ⟨b,1,none⟩=some (.int .i64 (i:Int))∧W.cell? ⟨b0,off+i*4,none⟩=some (.int .i64 k)∧W.cell? ⟨b0,off+i*4+1,none⟩=some (.string bs)∧W.cell? ⟨b0,off+i*4+2,none⟩=some (.int .i64 tn)∧W.cell? ⟨b0,off+i*4+3,none⟩=some (.int .i64 ta)) (first | exact⟨q0,q1,t0,t1,t2,t3⟩ | exact⟨la _ q0,la _ q1,la _ t0,la _ t1,la _ t2,la _ t3⟩) (fail)
 generalize hw2:(w1.alloc _).drew=w2;have HB2:=Hd (show Below w.heap.size w w2 by rw[← hw2];exact(HB1.out.alloc HB1.out.size _).drew);have HE2:=Hd (show RowX w2 eb (Ex.mk 0 0 ByteArray.empty 0 [] []) none 0 none 0 by rw[← hw2];exact(((Below.refl w1.heap.size w1).alloc (Nat.le_refl _) _).block eb (by omega)).trans HE1.out);have HC2:=Hd (show w2.heap[eb+1]?=some (.cells #[.int .i64 k,.string bs,.int .i64 tn,.int .i64 ta] 41) by rw[← hw2,← hsz1];exact heap_alloc_new _ _);clear hw2 la k0 k1 q0 q1 t0 t1 t2 t3 HB1 HE1 hsz1;have hk:=HK.out;clear HK;subst hk
 go_wp2_with fail
 refine(HIT.out w2 HB2.out).mono ?_;rintro e w3 ⟨rfl,hb3⟩;have HB3:=Hd (HB2.out.trans (hb3.mono HB2.out.size));have HE3:=Hd (show RowX w3 eb (Ex.mk 0 0 ByteArray.empty 0 [] []) none 0 none 0 from(hb3.block eb HE2.out.lt).trans HE2.out);have HC3:=Hd ((hb3.block (eb+1) (Array.getElem?_eq_some_iff.1 HC2.out).1).trans HC2.out);clear hb3
 go_wp2_with fail
 refine(HIF.out w3 HB3.out).mono ?_;rintro e w4 ⟨rfl,hb4⟩;have HB4:=Hd (HB3.out.trans (hb4.mono HB3.out.size));have HE4:=Hd (show RowX w4 eb (Ex.mk 0 0 ByteArray.empty 0 [] []) none 0 none 0 from(hb4.block eb HE3.out.lt).trans HE3.out);have HC4:=Hd ((hb4.block (eb+1) (Array.getElem?_eq_some_iff.1 HC3.out).1).trans HC3.out);clear hb4;have e0:=HE4.out.cells.1;have e1:=HE4.out.cells.2.1;have e2:=HE4.out.cells.2.2.1;have g0:=HE4.out.fz 0;have g1:=HE4.out.fz 1;have g2:=HE4.out.fz 2;have c0:=cell_of HC4.out 0 _ rfl;have c1:=cell_of HC4.out 1 _ rfl;have c2:=cell_of HC4.out 2 _ rfl
 have ko:∀ {u:World}{p:Addr}{v x:Value}{j:Nat},p.block=eb+1→u.cell? p=some v→(u.setCell ⟨eb,j,none⟩ x).cell? p=some v:=fun hp hc=>by
  unfold World.cell? at hc ⊢;rw[heap_setCell_other _ _ _ _ (by show _≠eb;omega)];exact hc
 go_upto_region 12 with(fail)
 go_region_held3 (fun W=>W.cell? ⟨eb+1,1,none⟩=some (.string bs)) (first | exact c1 | exact ko rfl c1 | exact ko rfl (ko rfl c1)) (fail)
 go_upto_region 13 with(fail)
 clear e0 e1 e2 g0 g1 g2 c0 c1 c2;clear ko;generalize hw5:((w4.setCell ⟨eb,0,none⟩ (.int .i64 17)).setCell ⟨eb,2,none⟩ (.string bs)).drew=w5;have HB5:=Hd (show Below w.heap.size w w5 by rw[← hw5];exact(below_set (below_set HB4.out (Nat.le_of_eq HGG.out)) (Nat.le_of_eq HGG.out)).drew);have HE5:=Hd (show RowX w5 eb (Ex.mk 17 0 bs 0 [] []) none 0 none 0 by rw[← hw5];exact(RowX.setN (y:=Ex.mk 17 0 bs 0 [] []) (RowX.setN (y:=Ex.mk 17 0 ByteArray.empty 0 [] []) HE4.out rfl) rfl));clear hw5
 go_wp2_with fail
 refine(HTK.out w5 HB5.out HK6.out).mono ?_;rintro e w6 ⟨rfl,hq,hb⟩;obtain⟨hM6,hT6⟩:=(HM.out.use HB5.out (Nat.le_of_eq HGG.out) HE5.out.lt).move hq hb;have hE5:EAt (eb::L) w5 eb (Ex.mk 17 0 bs 0 [] []):=⟨List.mem_cons_self,rfl,none,0,HE5.out,RdT.nil_ _⟩;have hne5:eb∉[b]:=fun hk=>by rw[List.mem_singleton] at hk;have:=HGG.out;omega
 have HE6:=Hd (hE5.up hT6 (b_sub (HM.out.use HB5.out (Nat.le_of_eq HGG.out) HE5.out.lt)) hne5);have HM6:=Hd hM6;have HT6:=Hd (((Tn.of_below HB5.out).use (Nat.le_of_eq HGG.out)).mono (S1:=[b]) (fun k hk=>absurd hk List.not_mem_nil) |>.trans hT6 HM.out.lv (fun k hk=>.inl hk));clear hq hb hM6 hT6 hE5 hne5
 go_wp2_with fail
 refine(rrMade (b:=b) (L:=eb::L) 0 eb HM6.out (Nat.zero_le _) hps).mono ?_;rintro e w7 ⟨s0,s1,s2,rfl,hba,hpa,hc0,hc1,hc2⟩;have HM7:=Hd (HM6.out.below hba);have HE7:=Hd (HE6.out.up (Tn.of_below (S:=[]) hba) nil_sub List.not_mem_nil);have HT7:=Hd (HT6.out.trans (Tn.of_below (S:=[]) hba) HM.out.lv (fun k hk=>absurd hk List.not_mem_nil));have HZ7:=Hd (fzs_cons (Fz.new hc0 (fun hh=>by have:=HM6.out.lv _ hh;omega)) (fzs_cons (Fz.new hc1 (fun hh=>by have:=HM6.out.lv _ hh;omega)) (fzs_cons (Fz.new hc2 (fun hh=>by have:=HM6.out.lv _ hh;omega)) (fzs_nil (eb::L) w7))));have HV:=Hd (show vp.ownBlock≠some eb from fun hv=>by have:=HM.out.lv _ (HM.out.lp _ hv);have:=HGG.out;omega);clear hba hpa hc0 hc1 hc2
 go_wp2_with fail
 refine(trn_made (Ex.mk 17 0 bs 0 [] []) ps.length eb s0 s1 s2 HM7.out (Nat.le_refl _) hps hsz HE7.out HV.out (HZ7.out (s0,rp b) (by simp)) (HZ7.out (s1,rp eb) (by simp)) (HZ7.out (s2,.int .i64 ((ps.length-0:Nat):Int)) (by simp))).mono ?_;intro e w8 hx;have HX:=Hd (turn_into (ft:=[]) HM.out (HT7.out.mono (S1:=turnS b va vp []) turnS_b) (fun k hk=>.inr (by rw[List.mem_singleton.1 hk];exact Nat.le_of_eq HGG.out)) hx);have hr:=turn_made_ret hx;clear hx;subst hr
 go_wp2_with fail
 go_end0
 exact HX.out
theorem single_bad{t:Tk}{bf:Bool}{b0 off i:Nat}{k tn ta:Int}{bs:ByteArray}
 (HM:Hid (Mem w b (some ⟨b0,off,none⟩) n c all (t::r') va st vp ps sz L))
 (HIT:Hid (∀ w1,Below w.heap.size w w1→Calls Tryz.prog 95 #[rp b,.string ⟨#[116,114,117,101]⟩] w1 fun e w'=>e=.returned (.bool false)∧Below w1.heap.size w1 w'))
 (HIF:Hid (∀ w1,Below w.heap.size w w1→Calls Tryz.prog 95 #[rp b,.string ⟨#[102,97,108,115,101]⟩] w1 fun e w'=>e=.returned (.bool false)∧Below w1.heap.size w1 w'))
 (HTK:Hid (∀ w1,Below w.heap.size w w1→k≠6→Calls Tryz.prog 96 #[rp b] w1 fun e w'=>e=.returned (.agg #[.int .i64 k,.string bs,.int .i64 tn,.int .i64 ta])∧QSt w' b (some ⟨b0,off,none⟩) n c all r' va vp sz∧Below w1.heap.size (bl b w1) (bl b w')))
 (hst:st.length≤900000) (hps:ps.length≤1000000) (hsz:sz≤1000000)
 (q0:w.cell? ⟨b,0,none⟩=some (.slice (some ⟨b0,off,none⟩) n c)) (q1:w.cell? ⟨b,1,none⟩=some (.int .i64 (i:Int))) (hbl:b<w.heap.size) (hb0:b0<w.heap.size) (hmx:n≤9223372036854775807)
 (t0:w.cell? ⟨b0,off+i*4,none⟩=some (.int .i64 k)) (t1:w.cell? ⟨b0,off+i*4+1,none⟩=some (.string bs)) (t2:w.cell? ⟨b0,off+i*4+2,none⟩=some (.int .i64 tn)) (t3:w.cell? ⟨b0,off+i*4+3,none⟩=some (.int .i64 ta))
 (hi0:(0:Int)≤(i:Int)) (hi1:(i:Int)<(n:Int)) (h3:(k==3)=false) (h2:(k==2)=false) (h4:(k==4)=false):
 Calls Tryz.prog 190 #[rp b] w (Turn w b (some ⟨b0,off,none⟩) n c all va st vp L [] (PR.bad (t::r'))):=by
 have H3:=Hd h3;have H2:=Hd h2;have H4:=Hd h4;clear h3 h2 h4
 go_enter Tryz.func190,Tryz.ntmps190
 go_upto_region 1 with(fail)
 generalize hw1:w.alloc _=w1;have HB1:=Hd (show Below w.heap.size w w1 by rw[← hw1];exact(Below.refl _ _).alloc (Nat.le_refl _) _);have HE1:=Hd (show RowX w1 w.heap.size (Ex.mk 0 0 ByteArray.empty 0 [] []) none 0 none 0 by rw[← hw1];exact heap_alloc_new _ _);have hsz1:w1.heap.size=w.heap.size+1:=by rw[← hw1];simp
 clear hw1;have l0:∀ {p:Addr}{v:Value},w.cell? p=some v→w1.cell? p=some v:=fun h=>(HB1.out.cell (World.block_lt_of_cell? _ _ h)).trans h;have q0:=l0 q0;have q1:=l0 q1;have t0:=l0 t0;have t1:=l0 t1;have t2:=l0 t2;have t3:=l0 t3;clear l0;have la:∀ {p:Addr}{v:Value}(o:Obj),w1.cell? p=some v→(w1.alloc o).cell? p=some v:=fun o h=>(World.cell?_alloc_lt _ _ _ (World.block_lt_of_cell? _ _ h)).trans h;have k0:=World.block_lt_of_cell? _ _ q0;have k1:=World.block_lt_of_cell? _ _ t0;generalize hgg:w.heap.size=eb at HE1 hsz1 ⊢;have HGG:=Hd hgg;clear hgg
 go_region_held3 (fun W=>W.cell? ⟨b,0,none⟩=some (.slice (some ⟨b0,off,none⟩) n c)∧W.cell? ⟨b,1,none⟩=some (.int .i64 (i:Int))∧W.cell? ⟨b0,off+i*4,none⟩=some (.int .i64 k)∧W.cell? ⟨b0,off+i*4+1,none⟩=some (.string bs)∧W.cell? ⟨b0,off+i*4+2,none⟩=some (.int .i64 tn)∧W.cell? ⟨b0,off+i*4+3,none⟩=some (.int .i64 ta)) (first | exact⟨q0,q1,t0,t1,t2,t3⟩ | exact⟨la _ q0,la _ q1,la _ t0,la _ t1,la _ t2,la _ t3⟩) (fail)
 generalize hw2:(w1.alloc _).drew=w2;have HB2:=Hd (show Below w.heap.size w w2 by rw[← hw2];exact(HB1.out.alloc HB1.out.size _).drew);have HE2:=Hd (show RowX w2 eb (Ex.mk 0 0 ByteArray.empty 0 [] []) none 0 none 0 by rw[← hw2];exact(((Below.refl w1.heap.size w1).alloc (Nat.le_refl _) _).block eb (by omega)).trans HE1.out);have HC2:=Hd (show w2.heap[eb+1]?=some (.cells #[.int .i64 k,.string bs,.int .i64 tn,.int .i64 ta] 41) by rw[← hw2,← hsz1];exact heap_alloc_new _ _);clear hw2 la k0 k1 q0 q1 t0 t1 t2 t3 HB1 HE1 hsz1
 go_wp2_with fail
 refine(HIT.out w2 HB2.out).mono ?_;rintro e w3 ⟨rfl,hb3⟩;have HB3:=Hd (HB2.out.trans (hb3.mono HB2.out.size));have HE3:=Hd (show RowX w3 eb (Ex.mk 0 0 ByteArray.empty 0 [] []) none 0 none 0 from(hb3.block eb HE2.out.lt).trans HE2.out);have HC3:=Hd ((hb3.block (eb+1) (Array.getElem?_eq_some_iff.1 HC2.out).1).trans HC2.out);clear hb3
 go_wp2_with fail
 refine(HIF.out w3 HB3.out).mono ?_;rintro e w4 ⟨rfl,hb4⟩;have HB4:=Hd (HB3.out.trans (hb4.mono HB3.out.size));have HE4:=Hd (show RowX w4 eb (Ex.mk 0 0 ByteArray.empty 0 [] []) none 0 none 0 from(hb4.block eb HE3.out.lt).trans HE3.out);have HC4:=Hd ((hb4.block (eb+1) (Array.getElem?_eq_some_iff.1 HC3.out).1).trans HC3.out);clear hb4;have c0:=cell_of HC4.out 0 _ rfl;have h3:=H3.out;have h2:=H2.out;have h4:=H4.out;clear H3 H2 H4
 go_wp2_with fail
 refine(rrStop (rp b) w4).mono ?_;rintro e w5 ⟨rfl,rfl⟩;have HQ:=Hd (HM.out.q.below HB4.out);clear h3 h2 h4 c0
 go_wp2_with fail
 exact⟨rfl,turn_bad HM.out HQ.out (bl_of HB4.out)⟩
end
end
end Go.Proofs.YtokiaaapgkdpmaaGreatDoor
