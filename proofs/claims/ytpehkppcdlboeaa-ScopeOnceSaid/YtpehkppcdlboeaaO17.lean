/- Parts of the proof: ScH, ScJ, ScV, ScW, ScY. Conditions: each theorem's own. -/
import Derived.Test.YtpehkppcdlboeaaO16
namespace Go.Proofs.Ytpehkppcdlboeaa
set_option linter.unusedVariables false
set_option linter.unusedSimpArgs false
set_option maxRecDepth 100000
set_option maxHeartbeats 40000000
section
open Go.RowKit Go.Sort Go.BigFrame
def GoodN(p:Pg) (i:Nat):Prop:=TinyN (ndAt p i)∧portsB (ndAt p i)=true∧onceS (namesD (ndAt p i).all)=true∧∀ k,k<(ndAt p i).eqs.length→∀ z∈partsX ((ndAt p i).eqs[k]?.getD default).x,partX z=true
theorem good_of{p:Pg}{i:Nat}(ht:TinyP p) (h0:checkN p=0) (hi:i<p.ns.length):GoodN p i:=by
 have hx:ndAt p i∈p.ns:=getD_memA hi;unfold checkN rightN onceN at h0
 split at h0 <;> try (rename_i he;exact absurd h0 he)
 split at h0 <;> try (cases h0;done)
 split at h0 <;> try (cases h0;done)
 split at h0 <;> try (cases h0;done)
 split at h0 <;> try (cases h0;done)
 rename_i hr
 split at h0 <;> try (cases h0;done)
 rename_i ho
 have h1:=List.all_eq_true.1 hr _ hx;simp only [Bool.and_eq_true] at ho;have h2:=List.all_eq_true.1 ho.1 _ hx;unfold nodeB at h1;simp only [Bool.and_eq_true] at h1;refine⟨ht.2.2 i hi,h1.1.1.1.2,h2,fun k hk z hz=>?_⟩;have h3:=List.all_eq_true.1 h1.1.1.2 _ (getD_memA (l:=(ndAt p i).eqs) hk);unfold eqB at h3;simp only [Bool.and_eq_true] at h3;have h4:=h3.1.2;unfold rightX at h4;simp only [Bool.and_eq_true] at h4;exact List.all_eq_true.1 h4.2 z hz
def NodeP(p:Pg) (i bd:Nat) (w:World) (e:Ending) (w':World):Prop:=∃ a er:Int,e=.returned (.tuple #[.int .i64 a,.int .i64 er])∧NodeR p i a er∧Gd bd w w'
theorem scNode(p:Pg) (i:Nat) (E:Option Addr) (ec bn bv bd mn mv:Nat) (A1:Option Addr) (c1:Nat) (A2:Option Addr) (c2:Nat) (A3:Option Addr) (c3:Nat) (A4:Option Addr) (c4:Nat) (w0 w:World)
 (hb0:Below w0.heap.size w0 w) (hbd:w0.heap.size≤bd) (hE:RdE w0 E p.es.length p.es) (hr:rdN w0 (ndAt p i) A1 A2 A3 A4) (hN:SetAt w bn mn ((p.ns.take i).map Nd.nm)) (hV:SetAt w bv mv (namesD (ndAt p i).all)) (hD:SetAt w bd 1000 (namesD (ndAt p i).ins)) (hnd:bn≠bd) (hvd:bv≠bd) (hg:GoodN p i):
 Calls Try.prog 22 #[.agg (rmA E p.es.length ec bn bv bd),.agg (ndA (ndAt p i) A1 c1 A2 c2 A3 c3 A4 c4)] w (NodeP p i bd w):=by
 have hmk:∀ fn first cap w,(Instr.makeFunc fn first cap).run Try.prog w=.ok (.func fn first cap) w:=fun _ _ _ _=>rfl
 have hok:=hg.1.ok;have HB0:=Hd hb0;have HR:=Hd hr;have HD:=Hd hD;have HF:=Hd fun w1 hw=>box_new (w:=w) (w1:=w1) (o:=.cells (rmA E p.es.length ec bn bv bd) 66) hw;have HF2:=Hd fun w w1 hw=>box_new (w:=w) (w1:=w1) (o:=.cells (ndA (ndAt p i) A1 c1 A2 c2 A3 c3 A4 c4) 41) hw
 have HU:=Hd fun w1 (a:Below w.heap.size w w1)=>slHasDcF 37 (.agg (rmA E p.es.length ec bn bv bd)) (fun _ _=>rfl) (offB (namesD (ndAt p i).all) p.es) A3 (ndAt p i).vars.length c3 (ndAt p i).vars w1 (hr.2.2.1.below (hb0.trans (a.mono hb0.size)))
  (fun d hd W hW=>scUntimed E p.es.length ec bn bv bd mv p.es (namesD (ndAt p i).all) d W (hE.below (hb0.trans ((a.trans (hW.mono a.size)).mono hb0.size))) (hV.below (a.trans (hW.mono a.size))) (hok.2.1 d (by unfold Nd.all;exact List.mem_append_right _ hd)).2.1)
 have HEQ:=Hd fun w1 (a:Below w.heap.size w w1)=>scEqs E p.es.length ec bn bv bd mn mv p.es ((p.ns.take i).map Nd.nm) (namesD (ndAt p i).all) (ndAt p i).eqs (dsTo (ndAt p i)) (eqS p i) (partS p i) A4 c4 w0 w1 (hb0.trans (a.mono hb0.size)) hbd hE hr.2.2.2 (hN.below a) (hV.below a) (by rw [dsTo_zero];exact hD.below a) hnd hvd
  hg.1.2.2.2.1 (fun k hk=>⟨(hg.1.2.2.2.2.2 k hk).1,fun j hj=>(Nat.le_trans ((hg.1.2.2.2.2.2 k hk).2.2 j hj) (by unfold maxLen;omega))⟩)
  (fun k hk z hz=>⟨Nat.le_trans (tiny_shortX (hg.1.2.2.2.2.2 k hk).2.1 z hz).1 (by unfold maxLen;omega),leads_eq (hg.2.2.2 k hk z hz)⟩)
  (fun k hk=>dsTo_succ hk)
  (fun k hk j hj hn he=>by
   have hq:∀ a,nameS (ndAt p i) k ((ndAt p i).eqs[k]?.getD default).ns a=nmS (namesD (ndAt p i).all) (dsTo (ndAt p i)) (ndAt p i).eqs k a:=fun a=>nameS_eq _ _ _ _;rw [← hq];exact eqS_hit hj (fun a ha=>(hq a).trans (hn a ha)) (by rw [hq];exact he))
  (fun k hk hn=>by
   have hq:∀ a,nameS (ndAt p i) k ((ndAt p i).eqs[k]?.getD default).ns a=nmS (namesD (ndAt p i).all) (dsTo (ndAt p i)) (ndAt p i).eqs k a:=fun a=>nameS_eq _ _ _ _;exact eqS_parts (fun a ha=>(hq a).trans (hn a ha)))
 have HO:=Hd fun w1 (b:Below w0.heap.size w0 w1) (hs:SetAt w1 bd 10000 (dsTo (ndAt p i) (ndAt p i).eqs.length))=>slHasDcF 39 (.agg (rmA E p.es.length ec bn bv bd)) (fun _ _=>rfl) (fun d=>!(dsTo (ndAt p i) (ndAt p i).eqs.length).any (nmB d.nm)) A2 (ndAt p i).outs.length c2 (ndAt p i).outs w1 (hr.2.1.below b)
  (fun d hd W hW=>scUndefined E p.es.length ec bn bv bd 10000 _ d W (hs.below hW) (hok.2.1 d (by unfold Nd.all;exact List.mem_append_left _ (List.mem_append_right _ hd))).1)
 have HO2:=Hd fun w1 (b:Below w0.heap.size w0 w1) (hs:SetAt w1 bd 10000 (dsTo (ndAt p i) (ndAt p i).eqs.length))=>slHasDcF 39 (.agg (rmA E p.es.length ec bn bv bd)) (fun _ _=>rfl) (fun d=>!(dsTo (ndAt p i) (ndAt p i).eqs.length).any (nmB d.nm)) A3 (ndAt p i).vars.length c3 (ndAt p i).vars w1 (hr.2.2.1.below b)
  (fun d hd W hW=>scUndefined E p.es.length ec bn bv bd 10000 _ d W (hs.below hW) (hok.2.1 d (by unfold Nd.all;exact List.mem_append_right _ hd)).1)
 have HOFF:=Hd fun h=>nodeR_off (p:=p) (i:=i) h;have HEQR:=Hd fun k h hk hn he=>nodeR_eq (p:=p) (i:=i) (k:=k) hg.2.1 h hk hn he;have HEND:=Hd fun b h hn hb=>nodeR_end (p:=p) (i:=i) hg.2.1 hg.2.2.1 h hn (b:=b) hb;have HNP:=Hd (show ∀ (a er:Int) w',NodeR p i a er→Gd bd w w'→NodeP p i bd w (.returned (.tuple #[.int .i64 a,.int .i64 er])) w' from fun a er w' h1 h2=>⟨a,er,rfl,h1,h2⟩);have hbw:=hD.lt;clear hb0 hE hr hN hV hD hg hok;unfold EqsP at HEQ;generalize NodeP p i bd w=NP at *;generalize NodeR p i=NR at *;generalize eqS p i=eS at *;generalize hoff:(ndAt p i).vars.any (offB (namesD (ndAt p i).all) p.es)=boff at *;generalize ho1:((ndAt p i).outs.any fun d=>!(dsTo (ndAt p i) (ndAt p i).eqs.length).any (nmB d.nm))=b1 at *;generalize ho2:((ndAt p i).vars.any fun d=>!(dsTo (ndAt p i) (ndAt p i).eqs.length).any (nmB d.nm))=b2 at *;generalize dsTo (ndAt p i) (ndAt p i).eqs.length=ds at *;clear hoff ho1 ho2;unfold rmA at HF HU HEQ HO HO2 ⊢;unfold ndA at HF2 ⊢;generalize p.es.length=ne at *;generalize ndAt p i=x at *;generalize x.ins.length=n1 at *;generalize x.outs.length=n2 at *;generalize x.vars.length=n3 at *;generalize x.eqs.length=n4 at *
 go_enter Try.func22,Try.ntmps22
 go_upto_region 1 with(fail)
 generalize hw1:w.alloc _=w1;obtain⟨hb1,hg1,hz1⟩:=HF.out w1 hw1;generalize hw2:w1.alloc _=w2;obtain⟨hb2,hg2,hz2⟩:=HF2.out w1 w2 hw2;rw [hg1] at hz2;have hz12:=(hb2.block w.heap.size (by omega)).trans hz1;have HZ1:=Hd hz12;have HZ2:=Hd hz2;have HB2:=Hd (hb1.trans (hb2.mono hb1.size));have HG2:=Hd (show w.heap.size+1<w2.heap.size by omega);have q0:=blk_cell hz12 0;have q1:=blk_cell hz12 1;have q2:=blk_cell hz12 2;have q3:=blk_cell hz12 3;have d3:=blk_cell hz2 3;simp only [Ya,Yb,Yc] at q0 q1 q2 q3 d3;have HU2:=Hd (HU.out w2 HB2.out);clear hw1 hw2 hb1 hb2 hz1 hz2 hz12 HF HF2 HU hg1 hg2
 cases boff with
 | true=>
  go_wp2_with fail
  refine HU2.out.mono ?_;rintro e w3 ⟨rfl,hb3⟩;have HB3:=Hd (HB2.out.trans (hb3.mono HB2.out.size));clear hb3 HU2 q0 q1 q2 q3 d3
  go_wp2_with fail
  exact HNP.out _ _ _ (HOFF.out (by first | trivial | rfl)) (Gd.of_below HB3.out)
 | false=>
  go_wp2_with fail
  refine HU2.out.mono ?_;rintro e w3 ⟨rfl,hb3⟩;have HB3:=Hd (HB2.out.trans (hb3.mono HB2.out.size));have z1:=(hb3.block w.heap.size (by have:=HG2.out;omega)).trans HZ1.out;have z2:=(hb3.block (w.heap.size+1) HG2.out).trans HZ2.out;have HG3:=Hd (Nat.lt_of_lt_of_le HG2.out hb3.size);have HZ13:=Hd z1;have HZ23:=Hd z2;have r0:=blk_cell z1 0;have r1:=blk_cell z1 1;have r2:=blk_cell z1 2;have r3:=blk_cell z1 3;have e4:=blk_cell z2 4;simp only [Ya,Yb,Yc] at r0 r1 r2 r3 e4;have HE3:=Hd (HEQ.out w3 HB3.out);clear hb3 HU2 q0 q1 q2 q3 d3 z1 z2 HEQ HZ1 HZ2
  go_wp2_with fail
  refine HE3.out.mono ?_;rintro e w4 ⟨a,er,rfl,hg4,hres⟩;have HG4:=Hd ((Gd.of_below HB3.out).trans hg4);rcases hres with⟨k,hk,hto,hne,rfl,rfl⟩|⟨hto,rfl,hs4⟩
  · have hvb:(eS k != 0)=true:=bne_iff_ne.2 hne;have HRR:=Hd (HEQR.out k (by first | trivial | rfl) hk hto hne);clear hg4 hto hne r0 r1 r2 r3 e4 HE3;generalize eS k=v at *
    go_wp2_with fail
    exact HNP.out _ _ _ HRR.out HG4.out
  · have z1:=hg4.blk HZ13.out (by omega);have z2:=hg4.blk HZ23.out (by omega);have hbw4:=Gd.below HB0.out HG4.out HB0.out.size hbd;have HBW4:=Hd hbw4;have HS4:=Hd hs4;have HTO:=Hd hto;have s0:=blk_cell z1 0;have s1:=blk_cell z1 1;have s2:=blk_cell z1 2;have s3:=blk_cell z1 3;have f2:=blk_cell z2 2;have HZ14:=Hd z1;have HZ24:=Hd z2;have HSZ:=Hd (Nat.lt_of_lt_of_le HG3.out hg4.size);simp only [Ya,Yb,Yc] at s0 s1 s2 s3 f2;have HO4:=Hd (HO.out w4 hbw4 hs4);clear hg4 hto hs4 z1 z2 hbw4 r0 r1 r2 r3 e4 HE3 HO
    cases b1 with
    | true=>
     have HRR:=Hd (HEND.out true (by first | trivial | rfl) HTO.out (by first | trivial | rfl))
     go_wp2_with fail
     refine HO4.out.mono ?_;rintro e w5 ⟨rfl,hb5⟩;have HG5:=Hd (HG4.out.trans (Gd.of_below hb5));clear hb5 s0 s1 s2 s3 f2 HO4
     go_wp2_with fail
     exact HNP.out _ _ _ HRR.out HG5.out
    | false=>
     go_wp2_with fail
     refine HO4.out.mono ?_;rintro e w5 ⟨rfl,hb5⟩;have HG5:=Hd (HG4.out.trans (Gd.of_below hb5));have z1:=(hb5.block w.heap.size (by have:=HSZ.out;omega)).trans HZ14.out;have z2:=(hb5.block (w.heap.size+1) HSZ.out).trans HZ24.out;have t0:=blk_cell z1 0;have t1:=blk_cell z1 1;have t2:=blk_cell z1 2;have t3:=blk_cell z1 3;have g3:=blk_cell z2 3;simp only [Ya,Yb,Yc] at t0 t1 t2 t3 g3;have HO5:=Hd (HO2.out w5 (HBW4.out.trans (hb5.mono HBW4.out.size)) (HS4.out.below hb5));clear hb5 s0 s1 s2 s3 f2 HO4 z1 z2 HO2
     cases b2 with
     | true=>
      have HRR:=Hd (HEND.out true (by first | trivial | rfl) HTO.out (by first | trivial | rfl))
      go_wp2_with fail
      refine HO5.out.mono ?_;rintro e w6 ⟨rfl,hb6⟩;have HG6:=Hd (HG5.out.trans (Gd.of_below hb6));clear hb6 t0 t1 t2 t3 g3 HO5
      go_wp2_with fail
      exact HNP.out _ _ _ HRR.out HG6.out
     | false=>
      have HRR:=Hd (HEND.out false (by first | trivial | rfl) HTO.out (by first | trivial | rfl))
      go_wp2_with fail
      refine HO5.out.mono ?_;rintro e w6 ⟨rfl,hb6⟩;have HG6:=Hd (HG5.out.trans (Gd.of_below hb6));clear hb6 t0 t1 t2 t3 g3 HO5
      go_wp2_with fail
      exact HNP.out _ _ _ HRR.out HG6.out
end
section
open Go.RowKit Go.Sort Go.BigFrame
theorem nodeR_zero{p:Pg}{i:Nat}{a:Int}(h:NodeR p i a 0):nodeS p i=(0,0,0):=by unfold NodeR at h;rw [h,if_pos rfl]
theorem nodeR_bad{p:Pg}{i:Nat}{a e:Int}(h:NodeR p i a e) (he:e≠0):nodeS p i=((i:Int),a,e)∧nodeS p i≠(0,0,0):=by
 unfold NodeR at h;rw [if_neg he] at h;exact⟨h,fun h'=>by rw [h] at h';injection h' with _ h';injection h' with _ h';exact he h'⟩
theorem nm_snoc{l:List Nd}{k:Nat}(h:k<l.length):(l.take (k+1)).map Nd.nm=(l.take k).map Nd.nm++[(l[k]?.getD default).nm]:=by
 rw [List.map_take,List.map_take,nms_succ h]
theorem scCheck(p:Pg) (E:Option Addr) (ec:Nat) (N:Option Addr) (nc:Nat) (w:World) (h:rdP w p E N) (ht:TinyP p):
 Calls Try.prog 10 #[.agg (pgA p E ec N nc)] w fun e w'=>e=.returned (flV (checkS p))∧Below w.heap.size w w':=by
 have hmm:=@run_makeMap Try.prog;have HF:=Hd fun w1 hw=>box_new (w:=w) (w1:=w1) (o:=.cells (pgA p E ec N nc) 32) hw;have HH:=Hd h;have HCK:=Hd fun w1 (a:Below w.heap.size w w1)=>pgCheck p E ec N nc w1 (h.below a) ht;have HWI:=Hd fun i (hi:i<p.ns.length) bn A1 c1 A2 c2 A3 c3 A4 c4 w1 (a:rdN w1 (ndAt p i) A1 A2 A3 A4)=>scWithin E p.es.length ec bn (ndAt p i) A1 c1 A2 c2 A3 c3 A4 c4 w1 a (tiny_few (ht.2.2 i hi)).1 (fun d hd=>((ht.2.2 i hi:TinyN (ndAt p i)).ok.2.1 d hd).1);have HNO:=Hd fun(h0:checkN p=0) i (hi:i<p.ns.length) bn bv bd mn mv A1 c1 A2 c2 A3 c3 A4 c4 w1 hb hbd hr hN hV hD hnd hvd=>scNode p i E ec bn bv bd mn mv A1 c1 A2 c2 A3 c3 A4 c4 w w1 hb hbd h.1 hr hN hV hD hnd hvd (good_of ht h0 hi);have HHIT:=Hd fun k h0 hk hn h=>checkS_hit (p:=p) (k:=k) h0 hk hn h;have HEND:=Hd fun h0 hn=>checkS_no (p:=p) h0 hn;have HBADC:=Hd fun(h0:¬ checkN p=0)=>(show checkS p=(0,-1,checkN p) by unfold checkS;rw [if_neg h0]);have HSN:=Hd fun k (hk:k<p.ns.length)=>nm_snoc (l:=p.ns) (k:=k) hk;have HTN:=Hd fun i (hi:i<p.ns.length)=>(show TinyN (ndAt p i) from ht.2.2 i hi);have hmx:=RdS.max h.2;have hns:=ht.2.1;clear h ht;generalize checkS p=res at *;generalize checkN p=ck at *;unfold RoomP at HWI;unfold NodeP at HNO;unfold pgA at HF HCK ⊢;generalize hpn:p.ns.length=pn at *;generalize hpe:p.es.length=ne at *;have HPN:=Hd hpn;clear hpn hpe
 go_enter Try.func10,Try.ntmps10
 go_upto_region 1 with(fail)
 generalize hw1:w.alloc _=w1;obtain⟨hb1,hg1,hz1⟩:=HF.out w1 hw1;generalize hw2:w1.alloc _=w2;obtain⟨hb2,hR2,hg2⟩:=f3_box hw2;simp only [hg1] at hR2;have hz12:=(hb2.block w.heap.size (by omega)).trans hz1;have HZ:=Hd hz12;have HR2:=Hd hR2;have HB2:=Hd (hb1.trans (hb2.mono hb1.size));have HG2:=Hd (show w.heap.size+1<w2.heap.size by omega);have y0:=blk_cell hz12 0;have y1:=blk_cell hz12 1;simp only [Ya,Yb,Yc] at y0 y1;have HCW:=Hd (HCK.out w2 HB2.out);clear hw1 hw2 hb1 hb2 HF hg2 hg1 hR2 hz1 hz12 HCK
 go_wp2_with fail
 refine HCW.out.mono ?_;rintro e w3 ⟨rfl,hb3⟩;have HB3:=Hd (HB2.out.trans (hb3.mono HB2.out.size));have HR3:=Hd (HR2.out.below hb3);have HZ3:=Hd ((hb3.block w.heap.size (by have:=HG2.out;omega)).trans HZ.out);have HG3:=Hd (Nat.lt_of_lt_of_le HG2.out hb3.size);clear hb3 y0 y1 HCW HR2 HZ
 by_cases h0:ck=0
 · have h0b:(ck != 0)=false:=by rw [h0];rfl
   have HNO0:=Hd (HNO.out h0);have HHIT0:=Hd fun k=>HHIT.out k h0;have HEND0:=Hd (HEND.out h0);clear HNO HHIT HEND HBADC;have z1:=blk_cell HZ3.out 1;simp only [Ya,Yb,Yc] at z1
   go_upto_region 5 with(fail)
   generalize hw4:w3.alloc _=w4;obtain⟨hb4,hg4,-⟩:=box_new hw4;have hs4:=set_new hw4;have HS4:=Hd hs4;have HB4:=Hd (HB3.out.trans (hb4.mono HB3.out.size));have HR4:=Hd (HR3.out.below hb4);have HZ4:=Hd ((hb4.block w.heap.size (by have:=HG3.out;omega)).trans HZ3.out);have HG4:=Hd (Nat.lt_of_lt_of_le HG3.out hb4.size);have z4:=(hb4.cell (p:=⟨w.heap.size,1,none⟩) (by have:=HG3.out;show w.heap.size<w3.heap.size;omega)).trans z1;clear hw4 hs4 hb4 z1 HR3 HZ3;generalize hbn:w3.heap.size=bn at *;clear hbn hg4;have hbnw:w.heap.size+1<bn:=HG3.out;have HBN:=Hd hbnw
   go_wp2_with fail
   go_loopw [19] (fun c wr=>∃ k:Nat,k≤pn∧c=.int .i64 k∧(∀ a,a<k→nodeS p a=(0,0,0))∧SetAt wr bn k ((p.ns.take k).map Nd.nm)∧Gd bn w4 wr) (fun c _=>pn-(intOf c).toNat)
   case atStart=>exact⟨0,Nat.zero_le _,rfl,fun a ha=>absurd ha (by omega),HS4.out,Gd.refl _⟩
   case round=>
    obtain⟨k,hk,rfl,hto,hset,hgd⟩:=hrel;have HTO:=Hd hto;have HS:=Hd hset;have HGD:=Hd hgd;have hbr:=Gd.below HB4.out hgd HB4.out.size (by omega);have HBR:=Hd hbr;have HRR:=Hd (show F3 36 wr (w.heap.size+1) 0 0 0 from hgd.blk HR4.out (by omega));have hzr:=hgd.blk HZ4.out (by omega);have HZR:=Hd hzr;clear hto hset hgd
    by_cases hlt:k<pn
    · obtain⟨b,off,A1,c1,A2,c2,A3,c3,A4,c4,rfl,hb,hrd,f0,f1,f2,f3,f4⟩:=nd_at HH.out.2 (i:=k) (by rw [HPN.out];exact hlt);have d0:=(hbr.cell (p:=⟨b,off+k*5,none⟩) hb).trans f0;have d1:=(hbr.cell (p:=⟨b,off+k*5+1,none⟩) hb).trans f1;have d2:=(hbr.cell (p:=⟨b,off+k*5+2,none⟩) hb).trans f2;have d3:=(hbr.cell (p:=⟨b,off+k*5+3,none⟩) hb).trans f3;have d4:=(hbr.cell (p:=⟨b,off+k*5+4,none⟩) hb).trans f4;have HTK:=Hd (HTN.out k hlt);have HSK:=Hd (HSN.out k hlt);have HHK:=Hd fun h=>HHIT0.out k hlt HTO.out h;have HRD:=Hd (show rdN w (ndAt p k) A1 A2 A3 A4 from hrd);have HWK:=Hd fun w1 (a:rdN w1 (ndAt p k) A1 A2 A3 A4)=>HWI.out k hlt bn A1 c1 A2 c2 A3 c3 A4 c4 w1 a;have HNK:=Hd fun bv bd w1 hb hbd hN hV hD hnd hvd=>HNO0.out k hlt bn bv bd k (ndAt p k).all.length A1 c1 A2 c2 A3 c3 A4 c4 w1 hb hbd hrd hN hV hD hnd hvd;have hnm:p.ns[k]?.getD default=ndAt p k:=rfl;have HINS:=Hd (show(ndAt p k).ins.length≤1000 by have:=(HTK.out).len;rw [all_len] at this;omega);have HNMS:=Hd (show(ndAt p k).nm.size≤maxLen from(HTK.out).ok.1);rw [hnm] at d0 d1 d2 d3 d4;have HNM:=Hd hnm;rw [hnm] at HSK;unfold ndA at HWK HNK;clear hnm f0 f1 f2 f3 f4 hrd
      go_upto_region 8 with(fail)
      generalize hw6:wr.alloc _=w6;obtain⟨hb6,hg6,hz6⟩:=box_new hw6;have HB6:=Hd (hbr.trans (hb6.mono hbr.size));have HG6:=Hd (HGD.out.trans (Gd.of_below hb6));have HS6:=Hd (HS.out.below hb6);have HR6:=Hd (HRR.out.below hb6);have hzr6:=(hb6.block w.heap.size (by have:=HBR.out.size;have:=HGD.out.size;have:=HG4.out;omega)).trans hzr;have a0:=blk_cell hzr6 0;have x0:=blk_cell hz6 0;have x1:=blk_cell hz6 1;have x2:=blk_cell hz6 2;have x3:=blk_cell hz6 3;have x4:=blk_cell hz6 4;simp only [Ya,Yb,Yc] at a0 x0 x1 x2 x3 x4;have HL1:=Hd (show w.heap.size<w6.heap.size by have:=HB6.out.size;have:=hg6;have:=HBR.out.size;omega);have HL2:=Hd (show wr.heap.size<w6.heap.size by omega);clear hw6 hb6 hg6 hz6 hzr6 hzr hbr d0 d1 d2 d3 d4;generalize wr.heap.size=g6 at *
      go_region_held3 (fun W=>W.cell? ⟨w.heap.size,0,none⟩=some (.slice E ne ec)∧W.cell? ⟨g6,0,none⟩=some (.string (ndAt p k).nm)∧W.cell? ⟨g6,1,none⟩=some (.slice A1 (ndAt p k).ins.length c1)∧W.cell? ⟨g6,2,none⟩=some (.slice A2 (ndAt p k).outs.length c2)∧W.cell? ⟨g6,3,none⟩=some (.slice A3 (ndAt p k).vars.length c3)∧W.cell? ⟨g6,4,none⟩=some (.slice A4 (ndAt p k).eqs.length c4)) (first | exact⟨a0,x0,x1,x2,x3,x4⟩ | exact⟨a0a,x0a,x1a,x2a,x3a,x4a⟩ | exact⟨a0d,x0d,x1d,x2d,x3d,x4d⟩)
       ((first
         | (go_at_call 21;refine(HWK.out _ (HRD.out.below (HB6.out.trans ((below_drewN (Below.refl w6.heap.size w6) 1).mono HB6.out.size)))).mono ?_;rintro r Wa ⟨bv,bd,rfl,hsv,hsd,hba,hle,hlt2⟩;have HBa:=Hd ((below_drewN (Below.refl w6.heap.size w6) 1).trans (hba.mono (below_drewN (Below.refl w6.heap.size w6) 1).size));have HLE:=Hd (show w6.heap.size≤bv from hle);have HLT:=Hd hlt2;have HSV:=Hd hsv;have HSD:=Hd hsd;have a0a:=(HBa.out.cell (p:=⟨w.heap.size,0,none⟩) HL1.out).trans a0;have x0a:=(HBa.out.cell (p:=⟨g6,0,none⟩) HL2.out).trans x0;have x1a:=(HBa.out.cell (p:=⟨g6,1,none⟩) HL2.out).trans x1;have x2a:=(HBa.out.cell (p:=⟨g6,2,none⟩) HL2.out).trans x2;have x3a:=(HBa.out.cell (p:=⟨g6,3,none⟩) HL2.out).trans x3;have x4a:=(HBa.out.cell (p:=⟨g6,4,none⟩) HL2.out).trans x4;clear hba hle hlt2 hsv hsd)
         | (go_at_call 22;refine(HNK.out bv bd _ (HB6.out.trans (HBa.out.mono HB6.out.size)) (by have:=HLE.out;have:=HLT.out;have:=HL1.out;omega) (HS6.out.below HBa.out) HSV.out (HSD.out.mono HINS.out) (by have:=HLE.out;have:=HLT.out;have:=HS6.out.lt;omega) (by have:=HLT.out;omega)).mono ?_;rintro r Wd ⟨av,er,rfl,hnr,hgd⟩;have HNR:=Hd hnr;have HBd:=Hd (Gd.below HBa.out hgd HBa.out.size (by have:=HLE.out;have:=HLT.out;omega));have a0d:=(HBd.out.cell (p:=⟨w.heap.size,0,none⟩) HL1.out).trans a0;have x0d:=(HBd.out.cell (p:=⟨g6,0,none⟩) HL2.out).trans x0;have x1d:=(HBd.out.cell (p:=⟨g6,1,none⟩) HL2.out).trans x1;have x2d:=(HBd.out.cell (p:=⟨g6,2,none⟩) HL2.out).trans x2;have x3d:=(HBd.out.cell (p:=⟨g6,3,none⟩) HL2.out).trans x3;have x4d:=(HBd.out.cell (p:=⟨g6,4,none⟩) HL2.out).trans x4;clear hnr hgd)))
      have HBW:=Hd (HB6.out.trans (HBd.out.mono HB6.out.size));have HRd:=Hd (HR6.out.below HBd.out);have HGd:=Hd (HG6.out.trans (Gd.of_below HBd.out));have HSd:=Hd (HS6.out.below HBd.out);clear a0 x0 x1 x2 x3 x4 a0a x0a x1a x2a x3a x4a x1d x2d x3d x4d a0d
      by_cases her:er=0
      · subst her;have HZN:=Hd (to_next (P:=fun a=>nodeS p a=(0,0,0)) HTO.out (nodeR_zero HNR.out));have HAD:=Hd (scAdd bn k ((p.ns.take k).map Nd.nm) (ndAt p k).nm Wd HSd.out (by omega) HNMS.out);clear HSV HSD
        go_wp2_with fail
        refine HAD.out.mono ?_;rintro e w9 ⟨rfl,hs9,hg9⟩;have HS9:=Hd hs9;have HG9:=Hd (HGd.out.trans hg9);clear hs9 hg9 HAD x0d
        go_wp2_with fail
        go_roundw
        case rel=>exact⟨k+1,by omega,by go_num,HZN.out,by rw [HSK.out];exact HS9.out,HG9.out⟩
        case measure=>simp [intOf];omega
      · have her2:(er != 0)=true:=bne_iff_ne.2 her;have HRS:=Hd (show res=((k:Int),av,er) by rw [HHK.out (nodeR_bad HNR.out her).2];exact(nodeR_bad HNR.out her).1);clear her
        go_wp2_with (refine wpList_store_row rfl _ _ _ rfl (w.heap.size+1) _ rfl rfl _ _ HRd.out fl_info rfl (by simp [f3A,Value.oneCell']) ?_)
        exact bodyPost_ret (res_f3 (p:=2) rfl _ _ (w.heap.size+1) k av er rfl (HRd.out.set _ _ _)) rfl ⟨by rw [HRS.out];rfl,below_setRow HBW.out (Nat.le_succ _) _⟩
    · have hkn:k=pn:=by omega
      have HRS:=Hd (HEND0.out fun a ha=>HTO.out a (by omega));clear hzr hbr
      go_wp2_with (refine wpList_store_row rfl _ _ _ rfl (w.heap.size+1) _ rfl rfl _ _ HRR.out fl_info rfl (by simp [f3A,Value.oneCell']) ?_)
      exact bodyPost_ret (res_f3 (p:=2) rfl _ _ (w.heap.size+1) 0 0 0 rfl (HRR.out.set _ _ _)) rfl ⟨by rw [HRS.out];rfl,below_setRow HBR.out (Nat.le_succ _) _⟩
 · have h0b:(ck != 0)=true:=by rw [bne_iff_ne];exact h0
   have HR:=Hd (HBADC.out h0);clear HHIT HEND HNO HBADC
   go_wp2_with (refine wpList_store_row rfl _ _ _ rfl (w.heap.size+1) _ rfl rfl _ _ HR3.out fl_info rfl (by simp [f3A,Value.oneCell']) ?_)
   exact bodyPost_ret (res_f3 (p:=2) rfl _ _ (w.heap.size+1) 0 (-1) ck rfl (HR3.out.set _ _ _)) rfl ⟨by rw [HR.out];rfl,below_setRow HB3.out (Nat.le_succ _) _⟩
end
section
open Go.RowKit Go.Sort
def liveA:Dc:=⟨⟨#[97]⟩,1,0,0,⟨#[]⟩,⟨#[]⟩⟩
def liveB:Dc:=⟨⟨#[98]⟩,1,0,0,⟨#[]⟩,⟨#[]⟩⟩
def liveX:Ex:=.mk 3 0 ⟨#[99]⟩ 0 [] []
def liveQ:Qn:=⟨[⟨#[98]⟩],liveX⟩
def liveN:Nd:=⟨⟨#[102]⟩,[liveA],[liveB],[],[liveQ]⟩
def liveP:Pg:=⟨[],[liveN]⟩
theorem live_check:checkS liveP=(0,0,5):=by kernel_rfl
theorem live_tiny:TinyP liveP:=by
 refine⟨⟨by decide,fun j hj=>by simp [liveP] at hj⟩,by decide,fun j hj=>?_⟩;obtain rfl:j=0:=by simp [liveP] at hj;omega
 refine⟨by decide,by decide,by decide,by decide,by decide,fun i hi=>?_⟩;obtain rfl:i=0:=by simp [liveP,liveN] at hi;omega
 refine⟨by decide,by kernel_rfl,fun q hq=>?_⟩;obtain rfl:q=0:=by simp [liveP,liveN,liveQ] at hq;omega
 decide
theorem alloc_cells{w w':World}{cs:Array Value}{T:TypeId}(h:w.alloc (.cells cs T)=w'):Below w.heap.size w w'∧w'.heap.size=w.heap.size+1∧∀ w'',Below w'.heap.size w' w''→∀ j,w''.cell? ⟨w.heap.size,j,none⟩=cs[j]?:=by
 subst h;refine⟨(Below.refl _ _).alloc (Nat.le_refl _) _,by simp,fun w'' hb j=>?_⟩;rw [hb.cell (p:=⟨w.heap.size,j,none⟩) (by simp),World.cell?_alloc_new]
theorem rdD_of{w:World}{b:Nat}{d:Dc}(hb:b<w.heap.size) (h:∀ j,w.cell? ⟨b,j,none⟩=(dcA d)[j]?):RdD w (some ⟨b,0,none⟩) 1 [d]:=by
 refine⟨rfl,by omega,fun _=>⟨b,0,rfl,hb,fun i hi=>?_⟩⟩;obtain rfl:i=0:=by omega
 intro j v hv;rw [Nat.zero_mul,Nat.add_zero,Nat.zero_add,h j]
 simpa [dcA,dcL] using hv
theorem live_mem(w w6:World) (h:(((((w.alloc (.cells (dcA liveA) 45)).alloc (.cells (dcA liveB) 45)).alloc (.cells #[.string ⟨#[98]⟩] 9)).alloc
 (.cells (qnA liveQ (some ⟨w.heap.size+1+1,0,none⟩) 1 none 0 none 0) 52)).alloc (.cells (ndA liveN (some ⟨w.heap.size,0,none⟩) 1 (some ⟨w.heap.size+1,0,none⟩) 1 none 0 (some ⟨w.heap.size+1+1+1,0,none⟩) 1) 41)).alloc
 (.cells (ndA liveN (some ⟨w.heap.size,0,none⟩) 1 (some ⟨w.heap.size+1,0,none⟩) 1 none 0 (some ⟨w.heap.size+1+1+1,0,none⟩) 1) 41)=w6):
 rdP w6 liveP none (some ⟨w.heap.size+1+1+1+1+1,0,none⟩)∧Below w.heap.size w w6:=by
 generalize h1:w.alloc (.cells (dcA liveA) 45)=w1 at h;obtain⟨b1,e1,k1⟩:=alloc_cells h1;generalize h2:w1.alloc (.cells (dcA liveB) 45)=w2 at h;obtain⟨b2,e2,k2⟩:=alloc_cells h2;generalize h3:w2.alloc (.cells #[.string ⟨#[98]⟩] 9)=w3 at h;obtain⟨b3,e3,k3⟩:=alloc_cells h3;generalize h4:w3.alloc _=w4 at h;obtain⟨b4,e4,k4⟩:=alloc_cells h4;generalize h5:w4.alloc _=w5 at h;obtain⟨b5,e5,k5⟩:=alloc_cells h5;obtain⟨b6,e6,k6⟩:=alloc_cells h;have c5:Below w5.heap.size w5 w6:=b6;have c4:Below w4.heap.size w4 w6:=b5.trans (c5.mono b5.size);have c3:Below w3.heap.size w3 w6:=b4.trans (c4.mono b4.size);have c2:Below w2.heap.size w2 w6:=b3.trans (c3.mono b3.size);have c1:Below w1.heap.size w1 w6:=b2.trans (c2.mono b2.size);have c0:Below w.heap.size w w6:=b1.trans (c1.mono b1.size);rw [e1] at k2 e2;rw [e2] at k3 e3;rw [e3] at k4 e4;rw [e4] at e5;rw [e5] at k6 e6;have rA:RdD w6 (some ⟨w.heap.size,0,none⟩) 1 [liveA]:=rdD_of (by omega) (k1 w6 c1);have rB:RdD w6 (some ⟨w.heap.size+1,0,none⟩) 1 [liveB]:=rdD_of (by omega) (k2 w6 c2)
 have rT:RdT w6 (some ⟨w.heap.size+1+1,0,none⟩) 1 [⟨#[98]⟩]:=⟨rfl,by omega,fun _=>⟨_,0,rfl,by omega,fun i hi=>by
  obtain rfl:i=0:=by omega
  exact k3 w6 c3 0⟩⟩
 have rX:rdX w6 liveX none none:=by
  rw [rdX_eq];exact⟨RdT.nil_ _,RdX.nil_ _⟩
 have rQ:RdQ w6 (some ⟨w.heap.size+1+1+1,0,none⟩) 1 [liveQ]:=by
  refine⟨rfl,by omega,fun _=>⟨_,0,rfl,by omega,fun i hi=>?_⟩⟩;obtain rfl:i=0:=by omega
  refine⟨some ⟨w.heap.size+1+1,0,none⟩,1,none,0,none,0,k4 w6 c4 0,rT,fun j v hv=>?_,rX⟩;rw [show 0+0*7+1+j=j+1 by omega,k4 w6 c4 (j+1)];exact(show(qnA liveQ (some ⟨w.heap.size+1+1,0,none⟩) 1 none 0 none 0)[j+1]?=(exL liveX none 0 none 0)[j]? by simp [qnA,exL,liveQ]).trans hv
 refine⟨⟨RdE.nil_ _,⟨rfl,by decide,fun _=>⟨_,0,rfl,by omega,fun i hi=>?_⟩⟩⟩,c0⟩
 obtain rfl:i=0:=by
  have:liveP.ns.length=1:=rfl;omega
 refine⟨some ⟨w.heap.size,0,none⟩,1,some ⟨w.heap.size+1,0,none⟩,1,none,0,some ⟨w.heap.size+1+1+1,0,none⟩,1,fun j v hv=>?_,⟨rA,rB,RdS.nil_ _ _ _,rQ⟩⟩;rw [show 0+0*5+j=j by omega,k6 w6 (Below.refl _ _) j];exact(show(ndA liveN (some ⟨w.heap.size,0,none⟩) 1 (some ⟨w.heap.size+1,0,none⟩) 1 none 0 (some ⟨w.heap.size+1+1+1,0,none⟩) 1)[j]?=(ndL liveN (some ⟨w.heap.size,0,none⟩) 1 (some ⟨w.heap.size+1,0,none⟩) 1 none 0 (some ⟨w.heap.size+1+1+1,0,none⟩) 1)[j]? by simp [ndA,ndL]).trans hv
theorem live_any(w:World):Calls Try.prog 6 #[] w fun e w'=>e=.returned (.bool true)∧Below w.heap.size w w':=by
 have HL:=Hd fun w0 w6 (hr:rdP w6 liveP none (some ⟨w0+1+1+1+1+1,0,none⟩))=>(show Calls Try.prog 10 #[.agg (pgA liveP none 0 (some ⟨w0+1+1+1+1+1,0,none⟩) 1)] w6 fun e w'=>e=.returned (.agg #[.int .i64 0,.int .i64 0,.int .i64 5])∧Below w6.heap.size w6 w' by
  have:=scCheck liveP none 0 (some ⟨w0+1+1+1+1+1,0,none⟩) 1 w6 hr live_tiny;rw [live_check] at this;exact this)
 have HM:=Hd live_mem;have HFT:=Hd (refFault 0 0 5);unfold f3A at HFT
 go_enter Try.func6,Try.ntmps6
 go_upto_region 2 with(fail)
 generalize hw0:w.alloc _=w0;obtain⟨b0,e0,k0⟩:=alloc_cells hw0;have hlt0:w.heap.size<w0.heap.size:=by omega
 clear e0;have z0:=k0 w0 (Below.refl _ _) 0;have z1:=k0 w0 (Below.refl _ _) 1;have z2:=k0 w0 (Below.refl _ _) 2;simp only [Ya,Yb,Yc] at z0 z1 z2;have HB0:=Hd b0;have HK0:=Hd k0;clear hw0 k0 b0
 go_wp2_with fail
 generalize hw6:World.alloc _ _=w6;obtain⟨hr,hb⟩:=HM.out w0 w6 hw6;have HB:=Hd (HB0.out.trans (hb.mono HB0.out.size));have HL6:=Hd (HL.out w0.heap.size w6 hr);clear hw6 hr hb HM HL z0 z1 z2 HK0;refine HL6.out.mono ?_;rintro e w7 ⟨rfl,hb7⟩;have HB7:=Hd (HB.out.trans (hb7.mono HB.out.size));clear hb7
 go_wp2_with fail
 refine(HFT.out w7).mono ?_;rintro e w8 ⟨rfl,hb8⟩;have HB8:=Hd (HB7.out.trans (hb8.mono HB7.out.size));clear hb8
 go_wp2_with fail
 go_ret
 exact⟨rfl,HB8.out⟩
end
section
open Go.RowKit Go.Sort Go.BigFrame
end
section
open Go.RowKit Go.Sort Go.BigFrame
theorem lawCount(x:Nd) (A1:Option Addr) (c1:Nat) (A2:Option Addr) (c2:Nat) (A3:Option Addr) (c3:Nat) (A4:Option Addr) (c4:Nat) (s:ByteArray) (w:World) (h:rdN w x A1 A2 A3 A4) (hq:FewQ x):
 Calls Try.prog 12 #[.agg (ndA x A1 c1 A2 c2 A3 c3 A4 c4),.string s] w fun e w'=>e=.returned (.int .i64 (defN x s x.eqs.length))∧Below w.heap.size w w':=by
 have HF:=Hd fun w1 hw=>nd_facts w x A1 c1 A2 c2 A3 c3 A4 c4 w1 hw h;have hmx:=RdS.max h.2.2.2;have hqn:=hq.1;have HQA:=Hd fun i (hi:i<x.eqs.length)=>hq.at_ hi;have HNX:=Hd fun i j hj=>defTo_next (n:=x) (s:=s) (i:=i) (j:=j) hj;have HND:=Hd fun i j hi hj=>defTo_end (n:=x) (s:=s) (i:=i) (j:=j) hi hj;have HZ:=Hd fun i=>defTo_zero x s i;have HZ0:=Hd (defN_zero x s);have HLE:=Hd fun i j=>defTo_le (s:=s) hq i j;clear h hq;unfold ndA at HF ⊢;generalize hn1:x.eqs.length=nq at *;generalize defTo x s=dt at *;generalize defN x s=dn at *
 go_enter Try.func12,Try.ntmps12
 go_upto_region 1 with(fail)
 generalize hw1:w.alloc _=w1;obtain⟨hb1,hg,hr1,hcell⟩:=HF.out w1 hw1;have HB1:=Hd hb1;have q4:=hcell w1 (Below.refl _ _) 4;simp only [Ya,Yb,Yc] at q4;have HR:=Hd hr1.2.2.2;clear hw1 hcell hb1 HF hr1 hg
 go_wp2_with fail
 go_loopw [5,6] (fun c i wr=>∃ k:Nat,k≤nq∧i=.int .i64 k∧c=.int .i64 (dn k)∧wr=w1) (fun _ i _=>nq-(intOf i).toNat)
 case atStart=>exact⟨0,Nat.zero_le _,rfl,by rw [HZ0.out];rfl,rfl⟩
 case round=>
  obtain⟨k,hk,rfl,rfl,rfl⟩:=hrel
  by_cases hlt:k<nq
  · obtain⟨b,off,rfl,hb,hat⟩:=RdS.at_ HR.out (by omega);obtain⟨A,c,A',ca,B',cb,r1,r2,e0,-⟩:=(hat k (by omega)).seven;have hql:=HQA.out k (by omega);have HNK:=Hd fun j hj=>HNX.out k j hj;have HNE:=Hd fun j hj=>HND.out k j (by omega) hj;have HZK:=Hd (HZ.out k);have HLK:=Hd (HLE.out k);have HR1:=Hd r1;clear hat r2 r1;generalize hnsl:(x.eqs[k]?.getD default).ns.length=nk at *;generalize (x.eqs[k]?.getD default).ns=ns at *
    go_wp2_with fail
    go_loopw [5,7] (fun c i wr2=>∃ j:Nat,j≤nk∧i=.int .i64 j∧c=.int .i64 (dt k j)∧wr2=wr) (fun _ i _=>nk-(intOf i).toNat)
    case atStart=>exact⟨0,Nat.zero_le _,rfl,by rw [HZK.out],rfl⟩
    case round=>
     obtain⟨j,hj,rfl,rfl,rfl⟩:=hrel;have hle:=HLK.out j
     by_cases hjt:j<nk
     · obtain⟨b2,off2,rfl,hb2,hat2⟩:=HR1.out.at_ hjt;have d0:=hat2 j hjt;have HN:=Hd (HNK.out j hjt);clear hat2;generalize ns[j]?.getD ByteArray.empty=y at *;generalize dt k j=dj at *
       cases hx:(y.toList==s.toList) with
       | true=>
        have HE:=Hd (show dt k (j+1)=dj+1 by rw [HN.out,if_pos hx])
        go_wp2_with fail
        go_roundw
        case rel=>exact⟨j+1,by omega,by go_num,by rw [HE.out];go_num,(by first | trivial | rfl)⟩
        case measure=>simp [intOf];omega
       | false=>
        have HE:=Hd (show dt k (j+1)=dj by rw [HN.out,if_neg (by rw [hx];simp)];rfl)
        go_wp2_with fail
        go_roundw
        case rel=>exact⟨j+1,by omega,by go_num,by rw [HE.out],(by first | trivial | rfl)⟩
        case measure=>simp [intOf];omega
     · have hjn:j=nk:=by omega
       have HE:=Hd (HNE.out j hjn)
       go_wp2_with fail
       go_roundw
       case rel=>exact⟨k+1,by omega,by go_num,by rw [HE.out],(by first | trivial | rfl)⟩
       case measure=>simp [intOf];omega
  · have hkm:k=nq:=by omega
    subst hkm
    go_wp2_with fail
    go_ret
    exact⟨rfl,HB1.out⟩
end
end Go.Proofs.Ytpehkppcdlboeaa
