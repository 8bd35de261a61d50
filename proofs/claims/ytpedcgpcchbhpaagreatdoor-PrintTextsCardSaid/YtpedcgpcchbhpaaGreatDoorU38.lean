/- Parts of the proof: PnD, PkV, PkW. Conditions: each theorem's own. -/
import Derived.Test.YtpedcgpcchbhpaaGreatDoorU20
import Derived.Test.YtpedcgpcchbhpaaGreatDoorU37
namespace Go.Proofs.YtpedcgpcchbhpaaGreatDoor
set_option linter.unusedVariables false
set_option linter.unusedSimpArgs false
set_option maxRecDepth 100000
set_option maxHeartbeats 40000000
section
open Go.RowKit Go.Sort
theorem nodeG_ne(ty:Dc→List UInt8) (x:Nd):nodeG ty x≠[]:=by
 unfold nodeG nodeW
 simp
theorem ln_facts(w w1:World) (h:w.alloc (.cells #[.pointer none,.slice none 0 0] 58)=w1):LnAt w.heap.size w.heap.size [] w1∧Below w.heap.size w w1:=by
 subst h;exact⟨LnAt.fresh w,(Below.refl _ _).alloc (Nat.le_refl _) _⟩
theorem pnNode(es:List En) (E:Option Addr) (ec:Nat) (x:Nd) (A1:Option Addr) (c1:Nat) (A2:Option Addr) (c2:Nat) (A3:Option Addr) (c3:Nat) (A4:Option Addr) (c4:Nat) (w:World)
 (hE:RdE w E es.length es) (hsm:EsShort es) (h:rdNC w x A1 A2 A3 A4) (hs:ShortN x) (hT:Tab w):
 Calls Tryz.prog 13 #[.slice E es.length ec,.agg (ndA x A1 c1 A2 c2 A3 c3 A4 c4)] w fun e w'=>e=.returned (.string (ofB (nodeG (tyL es) x)))∧Below w.heap.size w w':=by
 have HF:=Hd fun w1 hw=>nd_facts w x A1 c1 A2 c2 A3 c3 A4 c4 w1 hw h.1;have HC:=Hd fun B b w1 (h0:Below w.heap.size w w1) hB hl=>lnNode es E ec x A1 c1 A2 c2 A3 c3 A4 c4 B b [] w w1 hE hsm h hs hT h0 hB hl (by simp);have HNE:=Hd (nodeG_ne (tyL es) x);have HOU:=Hd (show(⟨(nodeG (tyL es) x).toArray⟩:ByteArray)=ofB (nodeG (tyL es) x) from rfl);have HLF:=Hd ln_facts;clear hE hsm h hs hT;unfold ndA at HF HC ⊢;simp only [List.nil_append] at HC;generalize nodeG (tyL es) x=ng at *
 go_enter Tryz.func13,Tryz.ntmps13
 go_upto_region 1 with(fail)
 generalize hw1:w.alloc _=w1;obtain⟨hb1,hg,-,hcell⟩:=HF.out w1 hw1;have HB1:=Hd hb1;have HCL:=Hd hcell;clear hw1 hcell hb1 HF hg
 go_upto_region 2 with(fail)
 generalize hw2:w1.alloc _=w2;obtain⟨hl2,hb2⟩:=HLF.out w1 w2 hw2;obtain⟨q0,q1,q2,q3,q4,-⟩:=Sx (HCL.out w2 hb2);simp only [Ya,Yb,Yc] at q0 q1 q2 q3 q4;have HB2:=Hd (HB1.out.trans (hb2.mono HB1.out.size));have HD:=Hd (HC.out w1.heap.size w1.heap.size w2 HB2.out HB1.out.size hl2);clear hw2 hl2 hb2 HC HCL HLF;have HBL:=Hd HB1.out.size;generalize w1.heap.size=b at *
 go_wp2_with fail
 refine HD.out.mono ?_;rintro e w3 ⟨rfl,hl3,hk3⟩;have HT:=Hd (bdText b b ng w3 hl3 HNE.out);have HB3:=Hd hk3.1;clear hl3 hk3 q0 q1 q2 q3 q4 HD
 go_wp2_with fail
 refine HT.out.mono ?_;rintro e w4 ⟨rfl,hb4⟩;have HB4:=Hd (HB3.out.trans hb4);clear hb4
 go_wp2_with fail
 go_ret
 exact⟨ret_strV HOU.out,HB2.out.trans (HB4.out.mono HBL.out)⟩
theorem pnText(p:Pg) (E:Option Addr) (ec:Nat) (N:Option Addr) (nc:Nat) (w:World) (h:rdPC w p E N) (ht:TinyP p) (hT:Tab w):
 Calls Tryz.prog 8 #[.agg (pgA p E ec N nc)] w fun e w'=>e=.returned (.string (ofB (textP p)))∧Below w.heap.size w w':=by
 have HF:=Hd fun w1 hw=>pg_facts w p E ec N nc w1 hw h.plain;have HCK:=Hd fun w1 a=>pgCheck p E ec N nc w1 a ht;have HRC:=Hd fun W (a:Below w.heap.size w W)=>h.below a;have hes:=ht.1.1;have hns:=ht.2.1;have hmx:=h.1.max;have hmn:=RdS.max h.2.1;have HT0:=Hd fun(hc:¬ checkN p=0)=>(show(⟨#[]⟩:ByteArray)=ofB (textP p) by unfold textP;rw [if_neg hc];rfl)
 by_cases hc:checkN p=0
 · have HTX:=Hd (show textP p=enumsT p.es++nodesT (tyL p.es) p.ns by unfold textP;rw [if_pos hc];rfl)
   have HTN:=Hd (show enumsT p.es++nodesT (tyL p.es) p.ns≠[] by
    intro e
    have h1:p.ns≠[]:=by
     intro h0;unfold checkN at hc;rw [h0] at hc
     split at hc
     · simp at hc
     · rename_i h2
       exact h2 hc
    obtain⟨x,l,hx⟩:=List.exists_cons_of_ne_nil h1;rw [hx] at e;have h2:=congrArg List.length e;simp only [nodesT,List.flatMap_cons,List.length_append,nodeT,nodeW,List.length_cons,List.length_nil] at h2;omega)
   have HOU:=Hd (show(⟨(enumsT p.es++nodesT (tyL p.es) p.ns).toArray⟩:ByteArray)=ofB (textP p) by rw [HTX.out];rfl);have HEL:=Hd (enums_len ht.1);have HES:=Hd fun k (hk:k<p.es.length)=>(show enumsT (p.es.take (k+1))=enumsT (p.es.take k)++enumT (nmE p.es k,csE p.es k) from by rw [enums_snoc hk,enD]);have HEB:=Hd fun k (hk:k<p.es.length)=>cs_short ht.1 hk;have HNS:=Hd fun k (hk:k<p.ns.length)=>(show ShortN (p.ns[k]?.getD default)∧nodeG (tyL p.es) (p.ns[k]?.getD default)=nodeT (tyL p.es) (p.ns[k]?.getD default) from⟨(tiny_at ht hk).short,nodeG_T (check_right hc _ (by rw [List.getElem?_eq_getElem hk];exact List.getElem_mem _))⟩);have HND:=Hd fun k (hk:k<p.ns.length)=>nodes_snoc (ty:=tyL p.es) hk
   have HNL:=Hd (show ∀ k,(nodesT (tyL p.es) (p.ns.take k)).length≤1200000000*k from nodes_len fun x hx=>by
    obtain⟨i,hi,rfl⟩:=List.getElem_of_mem hx;have h1:=HNS.out i hi;obtain⟨b,off,A1,c1,A2,c2,A3,c3,A4,c4,-,-,hrd,-⟩:=nd_atC h.2.1 hi;rw [List.getElem?_eq_getElem hi,Option.getD_some] at h1 hrd;rw [← h1.2,nodeG_head];have h2:=headG_len ht.1.short h1.1
    have h3:=eqs_len (l:=(p.ns[i]).eqs) (fun q hq=>by
     obtain⟨j,hj,rfl⟩:=List.getElem_of_mem hq;obtain⟨b,off,B,c,A',ca,B',cb,-,-,⟨-,-,ok,-⟩,-⟩:=qn_atC hrd.2 hj;rw [List.getElem?_eq_getElem hj,Option.getD_some] at ok;have hq2:=h1.1.2.2.2.2.2.2 _ hq;exact eqG_len hq2 (txX_len (num_of ok hq2.2.2.2))) (p.ns[i]).eqs.length
    rw [List.take_of_length_le (Nat.le_refl _)] at h3;have h4:=h1.1.2.2.2.2.1;simp only [List.length_append];have:telW.length=4:=rfl;omega)
   have HNN:=Hd fun j (hj:j<p.ns.length) A1 c1 A2 c2 A3 c3 A4 c4 B b l w1 (hr:rdNC w (p.ns[j]?.getD default) A1 A2 A3 A4) (h0:Below w.heap.size w w1) hB hl hz=>lnNode p.es E ec (p.ns[j]?.getD default) A1 c1 A2 c2 A3 c3 A4 c4 B b l w w1 h.1 ht.1.short hr (HNS.out j hj).1 hT h0 hB hl hz;have HNA:=Hd fun j (hj:j<p.ns.length)=>nd_atC h.2.1 hj;have HC0:=Hd hc;have HLF:=Hd ln_facts;clear h ht HT0 hc hT;unfold pgA at HF HCK ⊢;unfold ndA at HNN
   go_enter Tryz.func8,Tryz.ntmps8
   go_upto_region 1 with(fail)
   generalize hw1:w.alloc _=w1;obtain⟨hb1,hg,hr1,hcell⟩:=HF.out w1 hw1;have HB1:=Hd hb1;have HC:=Hd hcell;have p0:=hcell w1 (Below.refl _ _) 0;have p1:=hcell w1 (Below.refl _ _) 1;simp only [Ya,Yb,Yc] at p0 p1;have HK:=Hd (HCK.out w1 hr1);rw [HC0.out] at HK;clear hw1 hcell hb1 HF HCK hr1 hg;generalize hen:p.es.length=ne at *;generalize hnn:p.ns.length=nn at *
   go_wp2_with fail
   refine HK.out.mono ?_;rintro e w2 ⟨rfl,hb2⟩;have HW2:=Hd hb2;have HX2:=Hd (HB1.out.trans (hb2.mono HB1.out.size));clear hb2 p0 p1 HK
   go_upto_region 4 with(fail)
   generalize hw3:w2.alloc _=w3;obtain⟨hl3,hb3⟩:=HLF.out w2 w3 hw3;have HC3:=Hd fun W (k:Keep w2.heap.size w2.heap.size w3 W) j=>HC.out W (HW2.out.trans ((hb3.trans k.1).mono HW2.out.size)) j;have HX3:=Hd fun W (k:Keep w2.heap.size w2.heap.size w3 W)=>(show Below w.heap.size w W from HX2.out.trans ((hb3.trans k.1).mono HX2.out.size));have HBB:=Hd HX2.out.size;have HL3:=Hd hl3;have HY3:=Hd hb3;clear hw3 hb3 HC HLF hl3;have HZ2:=Hd (show Below w.heap.size w w2 from HX2.out);clear HX2 HW2;have HY3:=Hd (show ∀ W,Below w2.heap.size w3 W→Below w.heap.size w W from fun W hb=>HZ2.out.trans ((HY3.out.trans hb).mono HZ2.out.size));generalize w2.heap.size=b at *;have q0:=HC3.out w3 (Keep.refl _ _ _) 0;have q1:=HC3.out w3 (Keep.refl _ _ _) 1;simp only [Ya,Yb,Yc] at q0 q1
   go_wp2_with fail
   go_loopw [14] (fun i wr=>∃ k:Nat,k≤ne∧i=.int .i64 k∧LnAt b b (enumsT (p.es.take k)) wr∧Keep b b w3 wr) (fun i _=>ne-(intOf i).toNat)
   case atStart=>exact⟨0,Nat.zero_le _,rfl,HL3.out,Keep.refl _ _ _⟩
   case round=>
    obtain⟨k,hk,rfl,hln,hkp⟩:=hrel;have HLN:=Hd hln;have HKP:=Hd hkp;have hel:=HEL.out k
    by_cases hlt:k<ne
    · obtain⟨bq,off,rfl,hbl,hcc⟩:=(HRC.out wr (HX3.out wr hkp)).1.at_ (i:=k) (by rw [hen];exact hlt);obtain⟨d0,A',n',c',d1,hrt⟩:=hcc k (by rw [hen];exact hlt);have hcap:=(HRC.out wr (HX3.out wr hkp)).2.2 bq off rfl k (by rw [hen];exact hlt) A' n' c' d1;obtain⟨s1,s2,s3⟩:=HEB.out k hlt;have hrl:=hrt.len;have HSK:=Hd (HES.out k hlt);have HBA:=Hd ((Below.refl wr.heap.size wr).alloc (Nat.le_refl _) (.cells #[.string (nmE p.es k),.slice A' n' c'] 60));have HLE:=Hd (lnEnum b b (enumsT (p.es.take k)) (nmE p.es k) A' n' c' (csE p.es k) (wr.alloc (.cells #[.string (nmE p.es k),.slice A' n' c'] 60)) (hln.below HBA.out) (hrt.below HBA.out) hcap (by omega) s3 (by omega) (by omega));rw [← HSK.out] at HLE;have HLW:=Hd hln.le;clear hln hkp hcc hrt s1 s2 s3 hrl hcap;generalize nmE p.es k=nm at *
      go_wp2_with fail
      refine HLE.out.mono ?_;rintro e w5 ⟨rfl,hl5,hk5⟩;have HL5:=Hd hl5;have HK5:=Hd ((HKP.out.behind HBA.out HLW.out).trans hk5);clear hl5 hk5 d0 d1
      go_wp2_with fail
      go_roundw
      case rel=>exact⟨k+1,by omega,by go_num,HL5.out,HK5.out⟩
      case measure=>simp [intOf];omega
    · have hkn:k=ne:=by omega
      subst hkn;have hte:p.es.take k=p.es:=List.take_of_length_le (by omega);rw [hte] at hel HLN;clear hln hkp hte q0 q1;generalize wr=wo at *;have hen8:k≤8:=by omega
      have q1:=HC3.out wo HKP.out 1;simp only [Ya,Yb,Yc] at q1
      go_wp2_with fail
      go_loopw [24] (fun i wr=>∃ k:Nat,k≤nn∧i=.int .i64 k∧LnAt b b (enumsT p.es++nodesT (tyL p.es) (p.ns.take k)) wr∧Keep b b w3 wr) (fun i _=>nn-(intOf i).toNat)
      case atStart=>exact⟨0,Nat.zero_le _,rfl,by simpa [nodesT] using HLN.out,HKP.out⟩
      case round=>
       obtain⟨j,hj,rfl,hly,hky⟩:=hrel;have HLY:=Hd hly;have HKY:=Hd hky;have hnl:=HNL.out j
       by_cases hjt:j<nn
       · obtain⟨bq,off,A1,c1,A2,c2,A3,c3,A4,c4,rfl,hbl,hrd,d0,d1,d2,d3,d4⟩:=HNA.out j hjt;have hgt:=(HNS.out j hjt).2;have HSK:=Hd (HND.out j hjt);have HBA:=Hd ((Below.refl wr.heap.size wr).alloc (Nat.le_refl _) (.cells (ndA (p.ns[j]?.getD default) A1 c1 A2 c2 A3 c3 A4 c4) 33));have hwr:=HX3.out wr hky;have HLW:=Hd hly.le;have HNC:=Hd (HNN.out j hjt A1 c1 A2 c2 A3 c3 A4 c4 b b (enumsT p.es++nodesT (tyL p.es) (p.ns.take j)) _ hrd (hwr.trans (HBA.out.mono hwr.size)) HBB.out (hly.below HBA.out) (by rw [List.length_append];omega));rw [hgt,List.append_assoc,← HSK.out] at HNC;have e0:=(hwr.cell (p:=⟨bq,off+j*5,none⟩) hbl).trans d0;have e1:=(hwr.cell (p:=⟨bq,off+j*5+1,none⟩) hbl).trans d1;have e2:=(hwr.cell (p:=⟨bq,off+j*5+2,none⟩) hbl).trans d2;have e3:=(hwr.cell (p:=⟨bq,off+j*5+3,none⟩) hbl).trans d3;have e4:=(hwr.cell (p:=⟨bq,off+j*5+4,none⟩) hbl).trans d4;have q0:=HC3.out wr hky 0;simp only [Ya,Yb,Yc] at q0;have hq0:=(World.cell?_alloc_lt wr (.cells (ndA (p.ns[j]?.getD default) A1 c1 A2 c2 A3 c3 A4 c4) 33) ⟨w.heap.size,0,none⟩ (World.block_lt_of_cell? _ _ q0)).trans q0;unfold ndA at HNC HBA hq0;clear hly hky hgt hrd d0 d1 d2 d3 d4 hwr;generalize p.ns[j]?.getD default=y at *
         go_wp2_with fail
         refine HNC.out.mono ?_;rintro e w5 ⟨rfl,hl5,hk5⟩;have HL5:=Hd hl5;have HK5:=Hd ((HKY.out.behind HBA.out HLW.out).trans hk5);clear hl5 hk5 e0 e1 e2 e3 e4 q0 hq0
         go_wp2_with fail
         go_roundw
         case rel=>exact⟨j+1,by omega,by go_num,HL5.out,HK5.out⟩
         case measure=>simp [intOf];omega
       · have hjn:j=nn:=by omega
         rw [List.take_of_length_le (by omega)] at HLY;have HTT:=Hd (bdText b b _ wr HLY.out HTN.out);clear hly hky
         go_wp2_with fail
         refine HTT.out.mono ?_;rintro e w5 ⟨rfl,hb5⟩;have HB5:=Hd (HY3.out _ (HKY.out.1.trans hb5));clear hb5
         go_wp2_with fail
         go_ret
         exact⟨ret_strV HOU.out,HB5.out⟩
 · have HT:=Hd (HT0.out hc);have hne:(checkN p != 0)=true:=by rw [bne_iff_ne];exact hc
   clear HT0 hc h ht hT;unfold pgA at HF HCK ⊢;generalize checkN p=ck at *;generalize ofB (textP p)=out at *
   go_enter Tryz.func8,Tryz.ntmps8
   go_upto_region 1 with(fail)
   generalize hw1:w.alloc _=w1;obtain⟨hb1,hg,hR1,hcell⟩:=HF.out w1 hw1;have HB1:=Hd hb1;have p0:=hcell w1 (Below.refl _ _) 0;have p1:=hcell w1 (Below.refl _ _) 1;simp only [Ya,Yb,Yc] at p0 p1;have HK:=Hd (HCK.out w1 hR1);clear hw1 hcell hb1 HF HRC HCK hR1
   go_wp2_with fail
   refine HK.out.mono ?_;rintro e w2 ⟨rfl,hb2⟩;have HB2:=Hd (HB1.out.trans (hb2.mono HB1.out.size));clear hb2
   go_wp2_with fail
   go_ret
   exact⟨ret_strV HT.out,HB2.out⟩
end
section
open Go.RowKit Go.Sort
def liveA:Dc:=⟨⟨#[97]⟩,1,0,0,⟨#[]⟩,⟨#[]⟩⟩
def liveB:Dc:=⟨⟨#[98]⟩,1,0,0,⟨#[]⟩,⟨#[]⟩⟩
def liveX:Ex:=.mk 3 0 ⟨#[97]⟩ 0 [] []
def liveQ:Qn:=⟨[⟨#[98]⟩],liveX⟩
def liveN:Nd:=⟨⟨#[102]⟩,[liveA],[liveB],[],[liveQ]⟩
def liveP:Pg:=⟨[],[liveN]⟩
def liveT:ByteArray:=⟨#[110,111,100,101,32,102,40,97,58,32,105,110,116,41,32,114,101,116,117,114,110,115,32,40,98,58,32,105,110,116,41,10,108,101,116,10,32,32,98,32,61,32,97,59,10,116,101,108,10]⟩
theorem live_text:ofB (textP liveP)=liveT:=by kernel_rfl
theorem live_okX:OkX liveX:=fun p hp=>by
 simp only [liveX,partsX,partssX,List.mem_singleton] at hp;subst hp;exact⟨by decide,by simp [Ex.arms],rfl,rfl,rfl⟩
theorem live_tiny:TinyP liveP:=by
 refine⟨⟨by decide,fun j hj=>by simp [liveP] at hj⟩,by decide,fun j hj=>?_⟩;obtain rfl:j=0:=by simp [liveP] at hj;omega
 refine⟨by decide,by decide,by decide,by decide,by decide,fun i hi=>?_⟩;obtain rfl:i=0:=by simp [liveP,liveN] at hi;omega
 refine⟨by decide,by kernel_rfl,fun q hq=>?_⟩;obtain rfl:q=0:=by simp [liveP,liveN,liveQ] at hq;omega
 decide
theorem alloc_cells{w w':World}{cs:Array Value}{T:TypeId}(h:w.alloc (.cells cs T)=w'):Below w.heap.size w w'∧w'.heap.size=w.heap.size+1∧∀ w'',Below w'.heap.size w' w''→∀ j,w''.cell? ⟨w.heap.size,j,none⟩=cs[j]?:=by
 subst h;refine⟨(Below.refl _ _).alloc (Nat.le_refl _) _,by simp,fun w'' hb j=>?_⟩;rw [hb.cell (p:=⟨w.heap.size,j,none⟩) (by simp),World.cell?_alloc_new]
theorem rdD_of{w:World}{b:Nat}{d:Dc}(hb:b<w.heap.size) (h:∀ j,w.cell? ⟨b,j,none⟩=(dcA d)[j]?):RdD w (some ⟨b,0,none⟩) 1 [d]:=by
 refine⟨rfl,by omega,fun _=>⟨b,0,rfl,hb,fun i hi=>?_⟩⟩;obtain rfl:i=0:=by omega
 intro j v hv;rw [Nat.zero_mul,Nat.add_zero,Nat.zero_add,h j]
 simpa [dcA,dcL] using hv
theorem live_mem(w w6:World) (h:(((((w.alloc (.cells (dcA liveA) 38)).alloc (.cells (dcA liveB) 38)).alloc (.cells #[.string ⟨#[98]⟩] 9)).alloc
 (.cells (qnA liveQ (some ⟨w.heap.size+1+1,0,none⟩) 1 none 0 none 0) 49)).alloc (.cells (ndA liveN (some ⟨w.heap.size,0,none⟩) 1 (some ⟨w.heap.size+1,0,none⟩) 1 none 0 (some ⟨w.heap.size+1+1+1,0,none⟩) 1) 33)).alloc
 (.cells (ndA liveN (some ⟨w.heap.size,0,none⟩) 1 (some ⟨w.heap.size+1,0,none⟩) 1 none 0 (some ⟨w.heap.size+1+1+1,0,none⟩) 1) 33)=w6):
 rdPC w6 liveP none (some ⟨w.heap.size+1+1+1+1+1,0,none⟩)∧Below w.heap.size w w6:=by
 generalize h1:w.alloc (.cells (dcA liveA) 38)=w1 at h;obtain⟨b1,e1,k1⟩:=alloc_cells h1;generalize h2:w1.alloc (.cells (dcA liveB) 38)=w2 at h;obtain⟨b2,e2,k2⟩:=alloc_cells h2;generalize h3:w2.alloc (.cells #[.string ⟨#[98]⟩] 9)=w3 at h;obtain⟨b3,e3,k3⟩:=alloc_cells h3;generalize h4:w3.alloc _=w4 at h;obtain⟨b4,e4,k4⟩:=alloc_cells h4;generalize h5:w4.alloc _=w5 at h;obtain⟨b5,e5,k5⟩:=alloc_cells h5;obtain⟨b6,e6,k6⟩:=alloc_cells h;have c5:Below w5.heap.size w5 w6:=b6;have c4:Below w4.heap.size w4 w6:=b5.trans (c5.mono b5.size);have c3:Below w3.heap.size w3 w6:=b4.trans (c4.mono b4.size);have c2:Below w2.heap.size w2 w6:=b3.trans (c3.mono b3.size);have c1:Below w1.heap.size w1 w6:=b2.trans (c2.mono b2.size);have c0:Below w.heap.size w w6:=b1.trans (c1.mono b1.size);rw [e1] at k2 e2;rw [e2] at k3 e3;rw [e3] at k4 e4;rw [e4] at e5;rw [e5] at k6 e6;have rA:RdD w6 (some ⟨w.heap.size,0,none⟩) 1 [liveA]:=rdD_of (by omega) (k1 w6 c1);have rB:RdD w6 (some ⟨w.heap.size+1,0,none⟩) 1 [liveB]:=rdD_of (by omega) (k2 w6 c2)
 have rT:RdT w6 (some ⟨w.heap.size+1+1,0,none⟩) 1 [⟨#[98]⟩]:=⟨rfl,by omega,fun _=>⟨_,0,rfl,by omega,fun i hi=>by
  obtain rfl:i=0:=by omega
  exact k3 w6 c3 0⟩⟩
 have rX:rdX w6 liveX none none:=by
  rw [rdX_eq];exact⟨RdT.nil_ _,RdX.nil_ _⟩
 have rQ:RdQC w6 (some ⟨w.heap.size+1+1+1,0,none⟩) 1 [liveQ]:=by
  refine⟨rfl,by omega,fun _=>⟨_,0,rfl,by omega,fun i hi=>?_⟩⟩;obtain rfl:i=0:=by omega
  refine⟨some ⟨w.heap.size+1+1,0,none⟩,1,none,0,none,0,k4 w6 c4 0,rT,fun j v hv=>?_,rX,live_okX,Nat.le_refl _,capX_eq.2 (by intro b off e;cases e),Nat.le_refl _⟩;rw [show 0+0*7+1+j=j+1 by omega,k4 w6 c4 (j+1)];exact(show(qnA liveQ (some ⟨w.heap.size+1+1,0,none⟩) 1 none 0 none 0)[j+1]?=(exL liveX none 0 none 0)[j]? by simp [qnA,exL,liveQ]).trans hv
 refine⟨⟨RdE.nil_ _,⟨rfl,by decide,fun _=>⟨_,0,rfl,by omega,fun i hi=>?_⟩⟩,fun b off e=>by cases e⟩,c0⟩
 obtain rfl:i=0:=by
  have:liveP.ns.length=1:=rfl;omega
 refine⟨some ⟨w.heap.size,0,none⟩,1,some ⟨w.heap.size+1,0,none⟩,1,none,0,some ⟨w.heap.size+1+1+1,0,none⟩,1,fun j v hv=>?_,⟨rA,rB,RdS.nil_ _ _ _,rQ.plain⟩,rQ⟩;rw [show 0+0*5+j=j by omega,k6 w6 (Below.refl _ _) j];exact(show(ndA liveN (some ⟨w.heap.size,0,none⟩) 1 (some ⟨w.heap.size+1,0,none⟩) 1 none 0 (some ⟨w.heap.size+1+1+1,0,none⟩) 1)[j]?=(ndL liveN (some ⟨w.heap.size,0,none⟩) 1 (some ⟨w.heap.size+1,0,none⟩) 1 none 0 (some ⟨w.heap.size+1+1+1,0,none⟩) 1)[j]? by simp [ndA,ndL]).trans hv
theorem live_any(w:World) (hT:Tab w):Calls Tryz.prog 7 #[] w fun e w'=>e=.returned (.bool true)∧Below w.heap.size w w':=by
 have HL:=Hd fun w6 (hr:rdPC w6 liveP none (some ⟨w.heap.size+1+1+1+1+1,0,none⟩)) (ht:Tab w6)=>(show Calls Tryz.prog 8 #[.agg (pgA liveP none 0 (some ⟨w.heap.size+1+1+1+1+1,0,none⟩) 1)] w6 fun e w'=>e=.returned (.string liveT)∧Below w6.heap.size w6 w' by
  rw [← live_text];exact pnText liveP none 0 _ 1 w6 hr live_tiny ht)
 have HM:=Hd (live_mem w);have HTB:=Hd hT;clear hT
 go_enter Tryz.func7,Tryz.ntmps7
 go_wp2_with fail
 generalize hw6:World.alloc _ _=w6;obtain⟨hr,hb⟩:=HM.out w6 hw6;have HB:=Hd hb;have HL6:=Hd (HL.out w6 hr (HTB.out.below hb));clear hw6 hr hb;refine HL6.out.mono ?_;rintro e w7 ⟨rfl,hb7⟩;have HB7:=Hd (HB.out.trans (hb7.mono HB.out.size));clear hb7;unfold liveT
 go_wp2_with fail
 go_ret
 exact⟨rfl,HB7.out⟩
end
section
open Go.RowKit Go.Sort Go.BigFrame
theorem str_refl(s:ByteArray):(s.toList==s.toList)=true:=by simp
theorem str_nrefl(s:ByteArray):(s.toList != s.toList)=false:=by simp
theorem walkTexts(p:Pg) (E:Option Addr) (ec:Nat) (N:Option Addr) (nc:Nat) (w:World) (h:rdPC w p E N) (hT:Tab w):
 Calls Tryz.prog 3 #[.agg (pgA p E ec N nc)] w fun e w'=>e=.returned (.bool true)∧Below w.heap.size w w':=by
 have HF:=Hd fun w1 hw=>pg_facts w p E ec N nc w1 hw h.plain;have HSM:=Hd fun w1 a=>refPgSmall p E ec N nc w1 a;have HC:=Hd fun w1 a b c=>pnText p E ec N nc w1 a b c;have HR:=Hd fun w1 a b=>refTextP p E ec N nc w1 a b;have HTB:=Hd hT;have HRC:=Hd h;unfold pgA at HSM HC HR ⊢;generalize ofB (textP p)=tx at *;have hsx:=str_refl tx;clear h hT
 go_enter Tryz.func3,Tryz.ntmps3
 go_upto_region 1 with(fail)
 generalize hw1:w.alloc _=w1;obtain⟨hb1,hg,hR1,hcell⟩:=HF.out w1 hw1;have HB1:=Hd hb1;have HCE:=Hd hcell;have HR1:=Hd (HRC.out.below hb1);simp only [pgA] at HCE;have q0:=HCE.out w1 (Below.refl _ _) 0;have q1:=HCE.out w1 (Below.refl _ _) 1;simp only [Ya,Yb,Yc] at q0 q1;clear hw1 hcell hb1 HF hR1 HRC
 go_wp2_with fail
 refine(HSM.out w1 HR1.out.plain).mono ?_;rintro e w2 ⟨b,rfl,ht,hb2⟩;have HB2:=Hd (below_next HB1.out hb2);have HR2:=Hd (HR1.out.below hb2);have q0:=HCE.out w2 hb2 0;have q1:=HCE.out w2 hb2 1;simp only [Ya,Yb,Yc] at q0 q1;clear hb2
 cases b with
 | false=>
  go_wp2_with fail
  refine(live_any w2 (HTB.out.below HB2.out)).mono ?_;rintro e w3 ⟨rfl,hbL⟩;have HBL:=Hd (below_next HB2.out hbL);clear hbL
  go_wp2_with fail
  go_ret
  exact⟨rfl,HBL.out⟩
 | true=>
  have HT:=Hd (ht rfl);have HT2:=Hd (HTB.out.below HB2.out);clear ht
  go_upto_region 3 with(fail)
  have l0:=fun d os=>cell_regrown q0 d os;have l1:=fun d os=>cell_regrown q1 d os;have HBR:=Hd fun d os=>below_regrown w2 d os;have cA:=fun d os=>Calls.regrown_of (HC.out (grow (redrawn w2 d) os) (HR2.out.below (below_regrown w2 d os)) HT.out (HT2.out.below (below_regrown w2 d os)));have cC:=fun d os=>Calls.regrown_of (HR.out (grow (redrawn w2 d) os) (HR2.out.below (below_regrown w2 d os)) HT.out);have cD:=fun d os=>Calls.regrown_of (live_any (grow (redrawn w2 d) os) (HT2.out.below (below_regrown w2 d os)));refine wp_region_quiet_below (by kernel_rfl) (by kernel_rfl) ?_
  repeat (go_big_quiet_step (first | with_reducible exact cA _ _ | with_reducible exact cC _ _ | with_reducible exact cD _ _))
  refine wpQuiet_nil ?_;intro _ hw';obtain⟨⟨dq,osq⟩,hw''⟩:=hw';subst hw'';have HB3:=Hd (below_next HB2.out (HBR.out dq osq));clear cA cC cD l0 l1 q0 q1
  go_wp2_with fail
  go_ret
  exact⟨rfl,HB3.out⟩
theorem text_eq{a b:Pg}(ha:checkN a=0) (hb:checkN b=0):((ofB (textP a)).toList==(ofB (textP b)).toList)=eqP a b:=by
 rw [← textP_same ha hb,Lib.toList_data,Lib.toList_data,ofB_data,ofB_data,Bool.eq_iff_iff,beq_iff_eq,decide_eq_true_eq]
theorem text_ne{a:Pg}(ha:checkN a=0):((ofB (textP a)).toList != [])=true:=by
 rw [Lib.toList_data,ofB_data,bne_iff_ne];exact textP_some ha
theorem walkApart(p:Pg) (E:Option Addr) (ec:Nat) (N:Option Addr) (nc:Nat) (q:Pg) (E':Option Addr) (ec':Nat) (N':Option Addr) (nc':Nat) (w:World) (h:rdPC w p E N) (h':rdPC w q E' N') (hT:Tab w):
 Calls Tryz.prog 5 #[.agg (pgA p E ec N nc),.agg (pgA q E' ec' N' nc')] w fun e w'=>e=.returned (.bool true)∧Below w.heap.size w w':=by
 have HF:=Hd fun w1 hw=>pg_facts w p E ec N nc w1 hw h.plain;have HF':=Hd fun w1 w2 hw (hb:Below w.heap.size w w1)=>pg_facts w1 q E' ec' N' nc' w2 hw (h'.below hb).plain;have HSM:=Hd fun w1 a=>refPgSmall p E ec N nc w1 a;have HSM':=Hd fun w1 a=>refPgSmall q E' ec' N' nc' w1 a;have HK:=Hd fun w1 a b=>refCheck p E ec N nc w1 a b;have HK':=Hd fun w1 a b=>refCheck q E' ec' N' nc' w1 a b;have HC:=Hd fun w1 a b c=>pnText p E ec N nc w1 a b c;have HC':=Hd fun w1 a b c=>pnText q E' ec' N' nc' w1 a b c;have HR:=Hd fun w1 a b=>refSameP p E ec N nc q E' ec' N' nc' w1 a b;have HEQ:=Hd fun a b=>text_eq (a:=p) (b:=q) a b;have HNE:=Hd fun a=>text_ne (a:=p) a;have HTB:=Hd hT;have HRX0:=Hd h;have HRY0:=Hd h';unfold pgA at HSM HSM' HK HK' HC HC' HR ⊢;clear h h' hT
 go_enter Tryz.func5,Tryz.ntmps5
 go_upto_region 1 with(fail)
 generalize hw1:w.alloc _=w1;obtain⟨hb1,hg,-,hcell⟩:=HF.out w1 hw1;have HB1:=Hd hb1;generalize hw2:w1.alloc _=w2;obtain⟨hb2,hg2,-,hcell2⟩:=HF'.out w1 w2 hw2 hb1;rw [hg] at hg2;have HB2:=Hd (below_next hb1 hb2);have HX:=Hd fun w' (hb:Below w2.heap.size w2 w') j=>(show w'.cell? ⟨w.heap.size,j,none⟩=(pgA p E ec N nc)[j]? from hcell w' (hb2.trans (hb.mono hb2.size)) j);have HY:=Hd fun w' (hb:Below w2.heap.size w2 w') j=>(show w'.cell? ⟨w.heap.size+1,j,none⟩=(pgA q E' ec' N' nc')[j]? by rw [← hg];exact hcell2 w' hb j);have HRX:=Hd (HRX0.out.below HB2.out);have HRY:=Hd (HRY0.out.below HB2.out);simp only [pgA] at HX HY;clear hw1 hw2 hcell hcell2 hb1 hb2 HF HF' HRX0 HRY0;have p0:=HX.out w2 (Below.refl _ _) 0;have p1:=HX.out w2 (Below.refl _ _) 1;simp only [Ya,Yb,Yc] at p0 p1
 go_wp2_with fail
 refine(HSM.out w2 HRX.out.plain).mono ?_;rintro e w3 ⟨b,rfl,ht,hb3⟩;have HB3:=Hd (below_next HB2.out hb3);have HW3:=Hd hb3;have q0:=HY.out w3 hb3 0;have q1:=HY.out w3 hb3 1;simp only [Ya,Yb,Yc] at q0 q1;clear hb3 p0 p1
 cases b with
 | false=>
  go_wp2_with fail
  refine(live_any w3 (HTB.out.below HB3.out)).mono ?_;rintro e w4 ⟨rfl,hbL⟩;have HBL:=Hd (below_next HB3.out hbL);clear hbL
  go_wp2_with fail
  go_ret
  exact⟨rfl,HBL.out⟩
 | true=>
  have HT:=Hd (ht rfl);clear ht
  go_wp2_with fail
  refine(HSM'.out w3 (HRY.out.below HW3.out).plain).mono ?_;rintro e w4 ⟨b,rfl,ht,hb4⟩;have HB4:=Hd (below_next HB3.out hb4);have HW4:=Hd (below_next HW3.out hb4);clear hb4 q0 q1
  cases b with
  | false=>
   go_wp2_with fail
   refine(live_any w4 (HTB.out.below HB4.out)).mono ?_;rintro e w5 ⟨rfl,hbL⟩;have HBL:=Hd (below_next HB4.out hbL);clear hbL
   go_wp2_with fail
   go_ret
   exact⟨rfl,HBL.out⟩
  | true=>
   have HT':=Hd (ht rfl);clear ht;have p0:=HX.out w4 HW4.out 0;have p1:=HX.out w4 HW4.out 1;simp only [Ya,Yb,Yc] at p0 p1
   go_wp2_with fail
   refine(HK.out w4 (HRX.out.below HW4.out).plain HT.out).mono ?_;rintro e w5 ⟨rfl,hb5⟩;have HB5:=Hd (below_next HB4.out hb5);have HW5:=Hd (below_next HW4.out hb5);have q0:=HY.out w5 HW5.out 0;have q1:=HY.out w5 HW5.out 1;simp only [Ya,Yb,Yc] at q0 q1;clear hb5 p0 p1
   by_cases hc:checkN p=0
   · rw [hc]
     go_wp2_with fail
     refine(HK'.out w5 (HRY.out.below HW5.out).plain HT'.out).mono ?_;rintro e w6 ⟨rfl,hb6⟩;have HB6:=Hd (below_next HB5.out hb6);have HW6:=Hd (below_next HW5.out hb6);clear hb6 q0 q1
     by_cases hc':checkN q=0
     · rw [hc'];have hE:=HEQ.out hc hc';have hN:=HNE.out hc;have p0:=HX.out w6 HW6.out 0;have p1:=HX.out w6 HW6.out 1;have q0:=HY.out w6 HW6.out 0;have q1:=HY.out w6 HW6.out 1;simp only [Ya,Yb,Yc] at p0 p1 q0 q1;have HRX6:=Hd (HRX.out.below HW6.out);have HRY6:=Hd (HRY.out.below HW6.out);have HT6:=Hd (HTB.out.below HB6.out);clear hc hc';generalize ofB (textP p)=tp at *;generalize ofB (textP q)=tq at *;generalize eqP p q=out at *;have hN2:tp.toList.isEmpty=false:=by simpa using hN
       have hoo:(out==out)=true:=by cases out <;> rfl
       go_upto_region 3 with(fail)
       have l0:=fun d os=>cell_regrown p0 d os;have l1:=fun d os=>cell_regrown p1 d os;have l2:=fun d os=>cell_regrown q0 d os;have l3:=fun d os=>cell_regrown q1 d os;have HBR:=Hd fun d os=>below_regrown w6 d os;have cA:=fun d os=>Calls.regrown_of (HC.out (grow (redrawn w6 d) os) (HRX6.out.below (below_regrown w6 d os)) HT.out (HT6.out.below (below_regrown w6 d os)));have cB:=fun d os=>Calls.regrown_of (HC'.out (grow (redrawn w6 d) os) (HRY6.out.below (below_regrown w6 d os)) HT'.out (HT6.out.below (below_regrown w6 d os)));have cC:=fun d os=>Calls.regrown_of (HR.out (grow (redrawn w6 d) os) (HRX6.out.below (below_regrown w6 d os)).plain (HRY6.out.below (below_regrown w6 d os)).plain);have cD:=fun d os=>Calls.regrown_of (live_any (grow (redrawn w6 d) os) (HT6.out.below (below_regrown w6 d os)));refine wp_region_quiet_below (by kernel_rfl) (by kernel_rfl) ?_
       repeat (go_big_quiet_step (first | with_reducible exact cA _ _ | with_reducible exact cB _ _ | with_reducible exact cC _ _ | with_reducible exact cD _ _))
       refine wpQuiet_nil ?_;intro _ hw';obtain⟨⟨dq,osq⟩,hw''⟩:=hw';subst hw'';have HB7:=Hd (below_next HB6.out (HBR.out dq osq));clear cA cB cC cD l0 l1 l2 l3 p0 p1 q0 q1
       go_wp2_with fail
       go_ret
       exact⟨rfl,HB7.out⟩
     · have hn':(checkN q != 0)=true:=by rw [bne_iff_ne];exact hc'
       clear hc'
       go_wp2_with fail
       refine(live_any w6 (HTB.out.below HB6.out)).mono ?_;rintro e w7 ⟨rfl,hbL⟩;have HBL:=Hd (below_next HB6.out hbL);clear hbL
       go_wp2_with fail
       go_ret
       exact⟨rfl,HBL.out⟩
   · have hn':(checkN p != 0)=true:=by rw [bne_iff_ne];exact hc
     clear hc q0 q1
     go_wp2_with fail
     refine(live_any w5 (HTB.out.below HB5.out)).mono ?_;rintro e w6 ⟨rfl,hbL⟩;have HBL:=Hd (below_next HB5.out hbL);clear hbL
     go_wp2_with fail
     go_ret
     exact⟨rfl,HBL.out⟩
end
end Go.Proofs.YtpedcgpcchbhpaaGreatDoor
