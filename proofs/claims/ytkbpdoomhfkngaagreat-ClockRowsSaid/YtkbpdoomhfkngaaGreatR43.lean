/- Parts of the proof: CmA, CmZ. Conditions: each theorem's own. -/
import Derived.Test.YtkbpdoomhfkngaaGreatR41
import Derived.Test.YtkbpdoomhfkngaaGreatR42
namespace Go.Proofs.YtkbpdoomhfkngaaGreat
set_option linter.unusedVariables false
set_option linter.unusedSimpArgs false
set_option maxRecDepth 100000
set_option maxHeartbeats 40000000
section
open Go.RowKit Go.Sort Go.BigFrame
theorem eqTF_err{p:Pg}{i j:Nat}(h:(eqTF p i j).2.2=0):eqTF p i j=(0,0,0):=by
 unfold eqTF at h ⊢
 by_cases h1:eqT p i ((ndAt p i).eqs[j]?.getD default)=true
 · rw [if_pos h1]
 · rw [if_neg h1] at h
   simp at h
theorem nodeTF_err{p:Pg}{i:Nat}(h:(nodeTF p i).2.2=0):nodeTF p i=(0,0,0):=by
 unfold nodeTF at h ⊢
 split at h
 · simp at h
 · rename_i h1
   rw [if_neg h1];exact firstF_err (fun j=>eqTF_err) h
theorem checkT_err{p:Pg}(h:(checkT p).2.2=0):checkT p=(0,0,0):=by
 unfold checkT at h ⊢
 split at h
 · rename_i h1
   rw [if_pos h1];exact firstF_err (fun j=>nodeTF_err) h
 · rename_i h1
   exact absurd (checkS_err h) h1
def NdCap(w:World) (N:Option Addr) (m:Nat):Prop:=∀ b off,N=some ⟨b,off,none⟩→∀ i,i<m→∀ A n c,w.cell? ⟨b,off+i*5+4,none⟩=some (.slice A n c)→QnCap w A n
theorem QnCap.below{w w':World}{A:Option Addr}{n:Nat}{l:List Qn}(h:QnCap w A n) (hr:RdQ w A n l) (hb:Below w.heap.size w w'):QnCap w' A n:=by
 intro b off e i hi A' n' c' hc;obtain⟨b2,off2,e2,hlt,_⟩:=RdS.at_ hr (by omega);rw [e] at e2;injection e2 with e2;injection e2 with e3 e4 _;subst e3 e4;rw [hb.cell (p:=⟨b,off+i*7,none⟩) hlt] at hc;exact h b off e i hi A' n' c' hc
theorem clCheck(p:Pg) (E:Option Addr) (ec:Nat) (N:Option Addr) (nc:Nat) (w:World) (h:rdP w p E N) (ht:TinyP p) (hcap:NdCap w N p.ns.length):
 Calls Tryz.prog 7 #[.agg (pgA p E ec N nc)] w fun e w'=>e=.returned (flV (checkC p))∧Below w.heap.size w w':=by
 have hnm:=RdS.max h.2;have HF:=Hd fun w0 hw=>any_boxZ (w:=w) (w1:=w0) (cs:=pgA p E ec N nc) (T:=25) (U:=30) hw;have HSC:=Hd fun w1 (hb:Below w.heap.size w w1)=>trCheck p E ec N nc w1 (h.below hb) ht;have hmk:∀ fn first cap w,(Instr.makeFunc fn first cap).run Tryz.prog w=.ok (.func fn first cap) w:=fun _ _ _ _=>rfl
 have HNS:=Hd (show RdNs w N p.ns.length p.ns from h.2)
 by_cases hz:checkT p=(0,0,0)
 · have hsz:=checkT_S hz;have hc:=checkS_N hsz;have HCT:=Hd (show checkC p=firstF ((0,0,0):Fl) (nodeCF p) p.ns.length by unfold checkC;rw [if_pos hz]);have HHIT:=Hd fun k (hk:k<p.ns.length) hn hy=>firstF_hit (z:=((0,0,0):Fl)) (f:=nodeCF p) (n:=p.ns.length) hk hn hy;have HNO:=Hd fun hn=>firstF_no (z:=((0,0,0):Fl)) (f:=nodeCF p) (n:=p.ns.length) hn
   have HMI:=Hd fun k (hk:k<p.ns.length)=>(show nodeCF p k=if(ndAt p k).vars.any (untimedB p.es (ndAt p k))=true then((k:Int),-1,8) else firstF ((0,0,0):Fl) (eqCF p k) (ndAt p k).eqs.length by
    obtain⟨h1,h2,_⟩:=node_parts hsz hk;rw [ports_timed h1];unfold nodeCF
    cases (ndAt p k).all.all (timedC p k) <;> rfl)
   have HWR:=Hd fun k (hk:k<p.ns.length) (hm:(ndAt p k).vars.any (untimedB p.es (ndAt p k))=false)=>(show firstF ((0,0,0):Fl) (eqCF p k) (ndAt p k).eqs.length=if 0≤findI (wrongC p.es (ndAt p k)) (ndAt p k).eqs 0 then((k:Int),findI (wrongC p.es (ndAt p k)) (ndAt p k).eqs 0,8) else(0,0,0) by
    obtain⟨h1,_,h3⟩:=node_parts hsz hk
    have hat:(ndAt p k).all.all (timedC p k)=true:=by
     rw [ports_timed h1] at hm
     simpa using hm
    have hw:∀ j,j<(ndAt p k).eqs.length→wrongC p.es (ndAt p k) ((ndAt p k).eqs[j]?.getD default)=!eqC17 p k ((ndAt p k).eqs[j]?.getD default):=fun j hj=>wrong_eqC (eq_parts hc hk hj).1 fun m hm=>names_row hat (h3 j hj m hm);rcases findI_split (wrongC p.es (ndAt p k)) (ndAt p k).eqs with⟨h4,h5⟩|⟨m,hm,h4,h5,h6⟩
    · rw [h5,if_neg (by omega)];refine firstF_no fun j hj=>?_;have:=h4 j hj;rw [hw j hj] at this;unfold eqCF;rw [if_pos (by simpa using this)]
    · rw [h6,if_pos (by omega)]
      have h7:eqCF p k m=((k:Int),(m:Int),8):=by
       rw [hw m hm] at h5;unfold eqCF;rw [if_neg (by simpa using h5)]
      rw [firstF_hit hm (fun j hj=>?_) (by rw [h7];intro e;injection e with _ e;injection e with _ e;cases e),h7];have:=h4 j hj;rw [hw j (by omega)] at this;unfold eqCF;rw [if_pos (by simpa using this)])
   have HCF:=Hd fun k (hk:k<p.ns.length) (r:Km) (hrE:r.E=E) w1 (hb:Below w.heap.size w w1) (hrd:rdN w1 (ndAt p k) r.A1 r.A2 r.A3 r.A4)=>slHasDcF 17 (.agg (kmA p.es (ndAt p k) r)) (fun _ _=>rfl) (untimedB p.es (ndAt p k)) r.A3 (ndAt p k).vars.length r.c3 (ndAt p k).vars w1 hrd.2.2.1
    fun d hd W hW=>clUntimed p.es (ndAt p k) r d W ⟨by rw [hrE];exact(h.below (hb.trans (hW.mono hb.size))).1,hrd.below hW⟩
   have HIF:=Hd fun k (hk:k<p.ns.length) (r:Km) (hrE:r.E=E) w1 (hb:Below w.heap.size w w1) (hrd:rdN w1 (ndAt p k) r.A1 r.A2 r.A3 r.A4) (hqc:QnCap w1 r.A4 (ndAt p k).eqs.length)=>slIndexQnC 19 (.agg (kmA p.es (ndAt p k) r)) (fun _ _=>rfl) (wrongC p.es (ndAt p k)) r.A4 (ndAt p k).eqs.length r.c4 (ndAt p k).eqs w1 hrd.2.2.2 hqc
    fun q hq BN cN A ca B cb W hW hqr hcN=>(by
     obtain⟨j,hj,rfl⟩:=List.getElem_of_mem hq;have hep:=eq_parts hc hk hj;have hty:=((ht.2.2 k hk).2.2.2.2.2 j hj).2.1;have he:(ndAt p k).eqs[j]?.getD default=(ndAt p k).eqs[j]:=by rw [List.getElem?_eq_getElem hj,Option.getD_some]
     have he2:(p.ns[k]?.getD default).eqs[j]?.getD default=(ndAt p k).eqs[j]:=he;rw [he] at hep;rw [he2] at hty;exact clWrong p.es (ndAt p k) r _ BN cN A ca B cb W ⟨by rw [hrE];exact(h.below (hb.trans (hW.mono hb.size))).1,hrd.below hW⟩ hqr.1 hqr.2 hep.1 hcN (fby_two hep.2) (tiny_sizeX hty))
   have HCAP:=Hd hcap;rw [hz] at HSC;unfold flV f3A at HSC;clear h ht hz hc hsz hcap;generalize checkC p=res at *;generalize hpn:p.ns.length=pn at *;unfold pgA at *;rw [hpn] at HF HSC ⊢;have HPN:=Hd hpn;clear hpn
   go_enter Tryz.func7,Tryz.ntmps7
   go_upto_region 1 with(fail)
   generalize hw0:(w.alloc _).alloc _=w0;obtain⟨hb0,hsz,hce,hR⟩:=HF.out w0 hw0;have HB0:=Hd hb0;have HR:=Hd hR;have HP:=Hd hce;have q0:=hce w0 (Below.refl _ _) 0;have q1:=hce w0 (Below.refl _ _) 1;simp only [Ya,Yb,Yc] at q0 q1;clear hw0 hb0 hsz hce hR HF
   go_wp2_with fail
   refine(HSC.out w0 HB0.out).mono ?_;rintro e w1 ⟨rfl,hb1⟩;have HB1:=Hd (below_next2 HB0.out hb1);have HL1:=Hd hb1;have HR1:=Hd (HR.out.below hb1);clear hb1 q0 q1 HSC HR
   go_upto_region 2 with(fail)
   generalize hw2:w1.alloc _=w2;obtain⟨hb2,hF2,hg2⟩:=ty_box hw2;have HB2:=Hd (below_next2 HB1.out hb2);have HL2:=Hd (below_next2 HL1.out hb2);have HR2:=Hd (HR1.out.below hb2);have f2:=hF2.cell 2;have q1:=HP.out w2 HL2.out 1;simp only [f3A,List.getElem?_toArray,List.getElem?_cons_zero,List.getElem?_cons_succ] at f2 q1;clear hw2 hb2 hF2 hg2 HR1
   go_wp2_with fail
   go_loopw [17] (fun c wr=>∃ k:Nat,k≤pn∧c=.int .i64 k∧(∀ a,a<k→nodeCF p a=(0,0,0))∧Below w2.heap.size w2 wr) (fun c _=>pn-(intOf c).toNat)
   case atStart=>exact⟨0,Nat.zero_le _,rfl,fun a ha=>absurd ha (by omega),Below.refl _ _⟩
   case round=>
    obtain⟨k,hk,rfl,hto,hbr⟩:=hrel;have HTO:=Hd hto;have HBR:=Hd (below_next2 HB2.out hbr);have HLR:=Hd (below_next2 HL2.out hbr);have HBL:=Hd hbr;have HRR:=Hd (HR2.out.below hbr);clear hto hbr
    by_cases hlt:k<pn
    · obtain⟨b,off,A1,c1,A2,c2,A3,c3,A4,c4,hN,hb,hrd0,d0,d1,d2,d3,d4⟩:=nd_at15 HNS.out hlt;have HQP:=Hd (show ∀ w1,Below w.heap.size w w1→QnCap w1 A4 (ndAt p k).eqs.length from fun w1 hb1=>QnCap.below (HCAP.out b off hN k hlt _ _ _ d4) hrd0.2.2.2 hb1);have hrd:=hrd0.below HBR.out;have d0:=(HBR.out.cell (p:=⟨b,off+k*5,none⟩) hb).trans d0;have d1:=(HBR.out.cell (p:=⟨b,off+k*5+1,none⟩) hb).trans d1;have d2:=(HBR.out.cell (p:=⟨b,off+k*5+2,none⟩) hb).trans d2;have d3:=(HBR.out.cell (p:=⟨b,off+k*5+3,none⟩) hb).trans d3;have d4:=(HBR.out.cell (p:=⟨b,off+k*5+4,none⟩) hb).trans d4;clear hrd0;have HMK:=Hd (HMI.out k hlt);have HWK:=Hd (HWR.out k hlt);have HHK:=Hd (HHIT.out k hlt HTO.out);have HCK:=Hd fun w1 (hb:Below w.heap.size w w1) (hq:rdN w1 (ndAt p k) A1 A2 A3 A4)=>HCF.out k hlt ⟨E,ec,A1,c1,A2,c2,A3,c3,A4,c4⟩ rfl w1 hb hq;have HIK:=Hd fun w1 (hb:Below w.heap.size w w1) (hq:rdN w1 (ndAt p k) A1 A2 A3 A4)=>HIF.out k hlt ⟨E,ec,A1,c1,A2,c2,A3,c3,A4,c4⟩ rfl w1 hb hq (HQP.out w1 hb);have HRD:=Hd (show rdN wr (ndAt p k) A1 A2 A3 A4 from hrd);unfold kmA at HCK HIK
      dsimp only at HCK HIK
      have hnd:p.ns[k]?.getD default=ndAt p k:=rfl;rw [hnd] at d0 d1 d2 d3 d4;clear hnd hrd;subst hN;generalize (ndAt p k).vars.any (untimedB p.es (ndAt p k))=mb at *;generalize firstF ((0,0,0):Fl) (eqCF p k) (ndAt p k).eqs.length=ff at *;generalize findI (wrongC p.es (ndAt p k)) (ndAt p k).eqs 0=fi at *;generalize ndAt p k=nd at *
      go_upto_region 7 with(fail)
      generalize hw4:wr.alloc _=w4;obtain⟨hb4,hg4,hce4⟩:=any_box hw4;have HB4:=Hd (below_next2 HBR.out hb4);have HL4:=Hd (below_next2 HLR.out hb4);have HM4:=Hd (below_next2 HBL.out hb4);have HR4:=Hd (HRR.out.below hb4);have HD4:=Hd (HRD.out.below hb4);have HC4:=Hd hce4;obtain⟨e0,e1,e2,e3,e4,-⟩:=Sx (hce4 w4 (Below.refl _ _));have q0:=HP.out w4 HL4.out 0;have q1:=HP.out w4 HL4.out 1;simp only [Ya,Yb,Yc] at e0 e1 e2 e3 e4 q0 q1;clear hw4 hb4 hg4 hce4 d0 d1 d2 d3 d4
      go_upto_region 8 with(fail)
      generalize hw5:w4.alloc _=w5;obtain⟨hb5,hg5,hce5⟩:=any_box hw5;have HB5:=Hd (below_next2 HB4.out hb5);have HM5:=Hd (below_next2 HM4.out hb5);have HR5:=Hd (HR4.out.below hb5);have HD5:=Hd (HD4.out.below hb5);have HC5:=Hd hce5;have HC6:=Hd fun w' (hb:Below w5.heap.size w5 w') j=>HC4.out w' (below_next2 hb5 hb) j;have e3:=HC6.out w5 (Below.refl _ _) 3;obtain⟨f0,f1,f2,f3,f4,f5⟩:=Sx (hce5 w5 (Below.refl _ _));simp only [Ya,Yb,Yc] at e3 f0 f1 f2 f3 f4 f5;have HK5:=Hd (HCK.out w5 HB5.out HD5.out);clear hw5 hb5 hg5 hce5 e0 e1 e2 e4 q0 q1
      cases mb with
      | true=>
       have HNT:=Hd (show nodeCF p k=((k:Int),-1,8) from HMK.out);have HRS:=Hd (show res=((k:Int),-1,8) by rw [HCT.out,HHK.out (by rw [HNT.out];intro e;injection e with _ e;injection e with _ e;cases e)];exact HNT.out)
       go_wp2_with fail
       refine HK5.out.mono ?_;rintro e w6 ⟨rfl,hb6⟩;have HB6:=Hd (below_next2 HB5.out hb6);have HR6:=Hd (HR5.out.below hb6);clear hb6 HK5
       go_wp2_with (refine wpList_store_row rfl _ _ _ rfl (w.heap.size+1) _ rfl rfl _ _ HR6.out fl_info rfl (by simp [f3A,Value.oneCell']) ?_)
       exact bodyPost_ret (res_f3 (p:=2) rfl _ _ (w.heap.size+1) k (-1) 8 rfl (HR6.out.set _ _ _)) rfl ⟨by rw [HRS.out];rfl,below_setRow HB6.out (Nat.le_succ _) _⟩
      | false=>
       have HNT:=Hd (show nodeCF p k=ff from HMK.out)
       go_wp2_with fail
       refine HK5.out.mono ?_;rintro e w6 ⟨rfl,hb6⟩;have HB6:=Hd (below_next2 HB5.out hb6);have HM6:=Hd (below_next2 HM5.out hb6);have HR6:=Hd (HR5.out.below hb6);have HD6:=Hd (HD5.out.below hb6);have e4:=HC6.out w6 hb6 4;obtain⟨f0,f1,f2,f3,f4,f5⟩:=Sx (HC5.out w6 hb6);simp only [Ya,Yb,Yc] at e4 f0 f1 f2 f3 f4 f5;have HK6:=Hd (HIK.out w6 HB6.out HD6.out);clear hb6 HK5 e3
       go_wp2_with fail
       refine HK6.out.mono ?_;rintro e w7 ⟨rfl,hb7⟩;have HB7:=Hd (below_next2 HB6.out hb7);have HM7:=Hd (below_next2 HM6.out hb7);have HR7:=Hd (HR6.out.below hb7);clear hb7 HK6 e4 f0 f1 f2 f3 f4 f5
       by_cases hfi:0≤fi
       · have hd:decide (0≤fi)=true:=decide_eq_true hfi;have HN2:=Hd (show nodeCF p k=((k:Int),fi,8) by rw [HNT.out,HWK.out (by first | exact rfl | trivial),if_pos hfi]);have HRS:=Hd (show res=((k:Int),fi,8) by rw [HCT.out,HHK.out (by rw [HN2.out];intro e;injection e with _ e;injection e with _ e;cases e)];exact HN2.out)
         go_wp2_with (refine wpList_store_row rfl _ _ _ rfl (w.heap.size+1) _ rfl rfl _ _ HR7.out fl_info rfl (by simp [f3A,Value.oneCell']) ?_)
         exact bodyPost_ret (res_f3 (p:=2) rfl _ _ (w.heap.size+1) k fi 8 rfl (HR7.out.set _ _ _)) rfl ⟨by rw [HRS.out];rfl,below_setRow HB7.out (Nat.le_succ _) _⟩
       · have hd:decide (0≤fi)=false:=decide_eq_false hfi;have HN2:=Hd (show nodeCF p k=(0,0,0) by rw [HNT.out,HWK.out (by first | exact rfl | trivial),if_neg hfi]);have HT2:=Hd (to_next (P:=fun a=>nodeCF p a=(0,0,0)) HTO.out HN2.out)
         go_wp2_with fail
         go_roundw
         case rel=>exact⟨k+1,by omega,by go_num,HT2.out,HM7.out⟩
         case measure=>simp [intOf];omega
    · have hkn:k=pn:=by omega
      have HRS:=Hd (show res=(0,0,0) by rw [HCT.out];exact HNO.out fun a ha=>HTO.out a (by omega))
      go_wp2_with (refine wpList_store_row rfl _ _ _ rfl (w.heap.size+1) _ rfl rfl _ _ HRR.out fl_info rfl (by simp [f3A,Value.oneCell']) ?_)
      exact bodyPost_ret (res_f3 (p:=2) rfl _ _ (w.heap.size+1) 0 0 0 rfl (HRR.out.set _ _ _)) rfl ⟨by rw [HRS.out];rfl,below_setRow HBR.out (Nat.le_succ _) _⟩
 · have HCT:=Hd (show checkC p=checkT p by unfold checkC;rw [if_neg hz]);have hne:(checkT p).2.2≠0:=fun e=>hz (checkT_err e);have hneb:((checkT p).2.2 != 0)=true:=bne_iff_ne.2 hne;rw [HCT.out];unfold flV f3A at *;clear h ht hz hne HCT HNS hcap;unfold pgA at *;generalize (checkT p).1=a at *;generalize (checkT p).2.1=b at *;generalize (checkT p).2.2=c at *
   go_enter Tryz.func7,Tryz.ntmps7
   go_upto_region 1 with(fail)
   generalize hw0:(w.alloc _).alloc _=w0;obtain⟨hb0,hsz,hce,hR⟩:=HF.out w0 hw0;have HB0:=Hd hb0;have HR:=Hd hR;have q0:=hce w0 (Below.refl _ _) 0;have q1:=hce w0 (Below.refl _ _) 1;simp only [Ya,Yb,Yc] at q0 q1;clear hw0 hb0 hsz hce hR HF
   go_wp2_with fail
   refine(HSC.out w0 HB0.out).mono ?_;rintro e w1 ⟨rfl,hb1⟩;have HB1:=Hd (below_next2 HB0.out hb1);have HR1:=Hd (HR.out.below hb1);clear hb1 q0 q1 HSC HR
   go_upto_region 2 with(fail)
   generalize hw2:w1.alloc _=w2;obtain⟨hb2,hF2,hg2⟩:=ty_box hw2;have HB2:=Hd (below_next2 HB1.out hb2);have HR2:=Hd (HR1.out.below hb2);obtain⟨f0,f1,f2,-,-,-⟩:=Sx hF2.cell;simp only [f3A,List.getElem?_toArray,List.getElem?_cons_zero,List.getElem?_cons_succ] at f0 f1 f2;clear hw2 hb2 hF2 hg2 HR1
   go_wp2_with (refine wpList_store_row rfl _ _ _ rfl (w.heap.size+1) _ rfl rfl _ _ HR2.out fl_info rfl (by simp [f3A,Value.oneCell']) ?_)
   exact bodyPost_ret (res_f3 (p:=2) rfl _ _ (w.heap.size+1) a b c rfl (HR2.out.set _ _ _)) rfl ⟨rfl,below_setRow HB2.out (Nat.le_succ _) _⟩
end
section
open Go.RowKit Go.ChangeShapes Go.WideShapes Go.Deep
set_option maxRecDepth 100000
theorem RdS.monoN{α:Type} [Inhabited α] {k:Nat}{At At':World→Nat→Nat→α→Prop}{w:World}{A:Option Addr}{n:Nat}{l:List α}(h:RdS k At w A n l) (hm:∀ b o x,At w b o x→At' w b o x):RdS k At' w A n l:=
 ⟨h.1,h.2.1,fun hn=>by
  obtain⟨b,off,e,hb,hc⟩:=h.2.2 hn;exact⟨b,off,e,hb,fun i hi=>hm _ _ _ (hc i hi)⟩⟩
def QnAtN(w:World) (b o:Nat) (q:Qn):Prop:=QnAt w b o q∧∀ A n c,w.cell? ⟨b,o,none⟩=some (.slice A n c)→n≤c
def NdAtN(w:World) (b o:Nat) (x:Nd):Prop:=NdAt w b o x∧∀ A n c,w.cell? ⟨b,o+4,none⟩=some (.slice A n c)→QnCap w A n
section
variable {H:Type}{enc:TypeId × Value→H}{w:World}{base:Nat}{spare:Nat→Bool}{held:Bool}
theorem strs_openN{fuel:Nat}{v:Value}{x:DataW H × List MemPlace}(h:DataW.trod enc Tryz.prog w base spare held fuel 49 [v]=some x):∃ A n c ss,v=.slice A n c∧RdT w A n ss∧n≤c:=by
 rcases Go.ChangeShapes.open_strings Tryz.underlying49 Tryz.underlying9 (by kernel_rfl) h with⟨hcs,_⟩|⟨x,l,c,ss,hcs,_,hl,hm,hss,_,hcell,hz⟩
 · simp at hcs
   subst hcs;exact⟨none,0,0,[],rfl,RdT.nil_ _,Nat.le_refl _⟩
 · simp at hcs
   subst hcs;have hle:l≤ss.length:=by rw [hss];split <;> omega
   exact⟨some x,l,c,ss.take l,rfl,rdT_arg hle (by unfold maxLen at hm;omega) hcell,by omega⟩
theorem qn_openN{fuel:Nat}{cs:List Value}{x:DataW H × List MemPlace}(h:DataW.trod enc Tryz.prog w base spare held fuel 54 cs=some x) (hl:cs.length=7):
 ∃ (q:Qn) (A:Option Addr) (c:Nat) (A':Option Addr) (ca:Nat) (B':Option Addr) (cb:Nat),cs=.slice A q.ns.length c::exL q.x A' ca B' cb∧RdT w A q.ns.length q.ns∧rdX w q.x A' B'∧q.ns.length≤c:=by
 obtain⟨ys,m,_,_,_,hy,hf⟩:=DataW.trod_struct Tryz.underlying54 h
 match cs,hl with
 | [v0,v1,v2,v3,v4,v5,v6],_=>
  match ys,hy with
  | [y0,y1],_=>
   have t0:=hf 0 _ rfl;have t1:=hf 1 _ rfl
   simp [cells_ss,cells_exZ] at t0 t1
   obtain⟨A,n,c,ss,rfl,hr,hnc⟩:=strs_openN t0;obtain⟨X,A',ca,B',cb,e1,hx,_⟩:=ex_cells _ t1 rfl;have hn:=hr.len;subst hn;exact⟨⟨ss,X⟩,A,c,A',ca,B',cb,by rw [e1],hr,hx,hnc⟩
theorem eqs_openN{fuel:Nat}{v:Value}{x:DataW H × List MemPlace}(h:DataW.trod enc Tryz.prog w base spare held fuel 34 [v]=some x):∃ A n c l,v=.slice A n c∧RdQ w A n l∧QnCap w A n:=by
 obtain⟨A,n,c,rfl⟩:∃ A n c,v=.slice A n c:=by
  rcases open_slice Tryz.underlying34 h with⟨hcs,_⟩|⟨a,len,cap,m,nn,D,Pl,hcs,_⟩
  · simp at hcs;exact⟨_,_,_,hcs⟩
  · simp at hcs;exact⟨_,_,_,hcs⟩
 obtain⟨l,hl⟩:=rdS_open (α:=Qn) (k:=7) (At:=QnAtN) Tryz.underlying34 cells_qn (by decide) (fun h=>by obtain⟨⟨A,c,A',ca,B',cb,h1,_⟩,_⟩:=h;exact⟨_,h1⟩) (fun ht hl=>by
  obtain⟨q,A,c,A',ca,B',cb,rfl,h1,h2,h3⟩:=qn_openN ht hl;refine⟨q,fun b o hc=>⟨⟨A,c,A',ca,B',cb,hc 0 _ rfl,h1,fun j v hv=>?_,h2⟩,fun A2 n2 c2 h4=>?_⟩⟩
  · have:=hc (j+1) v hv;rwa [show o+(j+1)=o+1+j by omega] at this
  · have h5:=hc 0 _ rfl;rw [Nat.add_zero,h4] at h5;injection h5 with h5;injection h5 with _ h6 h7;omega) h
 refine⟨A,n,c,l,rfl,RdS.monoN hl fun b o x hx=>hx.1,fun b off e i hi A2 n2 c2 h4=>?_⟩;obtain⟨b2,off2,e2,hb2,hc2⟩:=RdS.at_ hl (by omega);rw [e] at e2;injection e2 with e2;injection e2 with e3 e4 _;subst e3 e4;exact(hc2 i hi).2 A2 n2 c2 h4
theorem nd_openN{fuel:Nat}{cs:List Value}{x:DataW H × List MemPlace}(h:DataW.trod enc Tryz.prog w base spare held fuel 36 cs=some x) (hl:cs.length=5):
 ∃ (n:Nd) (A1:Option Addr) (c1:Nat) (A2:Option Addr) (c2:Nat) (A3:Option Addr) (c3:Nat) (A4:Option Addr) (c4:Nat),cs=ndL n A1 c1 A2 c2 A3 c3 A4 c4∧rdN w n A1 A2 A3 A4∧QnCap w A4 n.eqs.length:=by
 obtain⟨ys,m,_,_,_,hy,hf⟩:=DataW.trod_struct Tryz.underlying36 h
 match cs,hl with
 | [v0,v1,v2,v3,v4],_=>
  match ys,hy with
  | [y0,y1,y2,y3,y4],_=>
   have t0:=hf 0 _ rfl;have t1:=hf 1 _ rfl;have t2:=hf 2 _ rfl;have t3:=hf 3 _ rfl;have t4:=hf 4 _ rfl
   simp [cells_s,cells_ds,cells_qs] at t0 t1 t2 t3 t4
   obtain⟨s0,e0,_,_⟩:=DataW.trod_string Tryz.underlying9 t0;injection e0 with e0;subst e0;obtain⟨A1,n1,c1,l1,rfl,r1⟩:=decls_open t1;obtain⟨A2,n2,c2,l2,rfl,r2⟩:=decls_open t2;obtain⟨A3,n3,c3,l3,rfl,r3⟩:=decls_open t3;obtain⟨A4,n4,c4,l4,rfl,r4,r5⟩:=eqs_openN t4;have h1:=RdS.len r1;have h2:=RdS.len r2;have h3:=RdS.len r3;have h4:=RdS.len r4;subst h1 h2 h3 h4;exact⟨⟨s0,l1,l2,l3,l4⟩,A1,c1,A2,c2,A3,c3,A4,c4,rfl,⟨r1,r2,r3,r4⟩,r5⟩
theorem nodes_openN{fuel:Nat}{v:Value}{x:DataW H × List MemPlace}(h:DataW.trod enc Tryz.prog w base spare held fuel 23 [v]=some x):∃ A n c l,v=.slice A n c∧RdNs w A n l∧NdCap w A n:=by
 obtain⟨A,n,c,rfl⟩:∃ A n c,v=.slice A n c:=by
  rcases open_slice Tryz.underlying23 h with⟨hcs,_⟩|⟨a,len,cap,m,nn,D,Pl,hcs,_⟩
  · simp at hcs;exact⟨_,_,_,hcs⟩
  · simp at hcs;exact⟨_,_,_,hcs⟩
 obtain⟨l,hl⟩:=rdS_open (α:=Nd) (k:=5) (At:=NdAtN) Tryz.underlying23 cells_nd (by decide) (fun h=>by obtain⟨⟨A1,c1,A2,c2,A3,c3,A4,c4,h1,_⟩,_⟩:=h;exact⟨_,h1 0 _ rfl⟩) (fun ht hl=>by
  obtain⟨x,A1,c1,A2,c2,A3,c3,A4,c4,rfl,h1,h2⟩:=nd_openN ht hl;refine⟨x,fun b o hc=>⟨⟨A1,c1,A2,c2,A3,c3,A4,c4,fun j v hv=>hc j v hv,h1⟩,fun A n c h4=>?_⟩⟩;have h5:=hc 4 _ rfl;rw [h4] at h5;injection h5 with h5;injection h5 with h6 h7 _;subst h6 h7;exact h2) h
 refine⟨A,n,c,l,rfl,RdS.monoN hl fun b o x hx=>hx.1,fun b off e i hi A2 n2 c2 h4=>?_⟩;obtain⟨b2,off2,e2,hb2,hc2⟩:=RdS.at_ hl (by omega);rw [e] at e2;injection e2 with e2;injection e2 with e3 e4 _;subst e3 e4;exact(hc2 i hi).2 A2 n2 c2 h4
theorem pg_openN{v:Value}{d:DataW H}{ps:List MemPlace}{r:Reach}{b0:Nat}(hv:Value.okWide Tryz.prog w r b0 25 v) (h:DataW.Trod enc Tryz.prog w base spare held 25 v d ps):
 ∃ (p:Pg) (E:Option Addr) (ec:Nat) (N:Option Addr) (nc:Nat),v=.agg (pgA p E ec N nc)∧rdP w p E N∧NdCap w N p.ns.length:=by
 obtain⟨cs,rfl,hs⟩:=okWide_struct Tryz.underlying25 hv;obtain⟨fuel,hf⟩:=h;rw [cells_pg] at hs;have hl:(Value.agg cs).cells.toList.length=2:=by simpa [Value.cells] using hs
 obtain⟨ys,m,_,_,_,hy,hff⟩:=DataW.trod_struct Tryz.underlying25 hf
 obtain⟨v0,v1,hcs⟩:∃ v0 v1,(Value.agg cs).cells.toList=[v0,v1]:=by
  match (Value.agg cs).cells.toList,hl with
  | [v0,v1],_=>exact⟨v0,v1,rfl⟩
 rw [hcs] at hff
 match ys,hy with
 | [y0,y1],_=>
  have t0:=hff 0 _ rfl;have t1:=hff 1 _ rfl
  simp [cells_es,cells_ns] at t0 t1
  obtain⟨N,nn,nc,ns,rfl,hN,hC⟩:=nodes_openN t1
  obtain⟨E,en,ec,rfl⟩:∃ A n c,v0=.slice A n c:=by
   rcases open_slice Tryz.underlying22 t0 with⟨h2,_⟩|⟨a,len,cap,m,nn,D,Pl,h2,_⟩
   · simp at h2;exact⟨_,_,_,h2⟩
   · simp at h2;exact⟨_,_,_,h2⟩
  obtain⟨es,hE⟩:=enums_open t0;have h1:=hE.len;have h2:=RdS.len hN;subst h1 h2;refine⟨⟨es,ns⟩,E,ec,N,nc,?_,⟨hE,hN⟩,hC⟩
  congr 1
  apply Array.toList_inj.1
  simpa [Value.cells,pgA] using hcs
end
end
end Go.Proofs.YtkbpdoomhfkngaaGreat
