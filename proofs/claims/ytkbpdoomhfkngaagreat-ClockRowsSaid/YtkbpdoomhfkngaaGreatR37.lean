/- Parts of the proof: TrV, TrW, ClN, ClR. Conditions: each theorem's own. -/
import Derived.Test.YtkbpdoomhfkngaaGreatR20
import Derived.Test.YtkbpdoomhfkngaaGreatR36
namespace Go.Proofs.YtkbpdoomhfkngaaGreat
set_option linter.unusedVariables false
set_option linter.unusedSimpArgs false
set_option maxRecDepth 100000
set_option maxHeartbeats 40000000
section
open Go.RowKit Go.Sort Go.BigFrame
theorem check_en{p:Pg}(h:checkN p=0):enumsN p.es=0:=by
 unfold checkN at h
 split at h
 · assumption
 · exact h
theorem few_nodes{p:Pg}(ht:TinyP p):∀ j,j<p.ns.length→(ndAt p j).ins.length≤1000∧(ndAt p j).outs.length≤1000:=fun j hj=>by
 have h1:=(tiny_few (ht.2.2 j hj)).1;rw [all_len] at h1;unfold ndAt;omega
end
section
open Go.RowKit Go.Sort Go.BigFrame
theorem firstF_err{f:Nat→Fl}(h:∀ j,(f j).2.2=0→f j=(0,0,0)):∀ {n:Nat},(firstF ((0,0,0):Fl) f n).2.2=0→firstF ((0,0,0):Fl) f n=(0,0,0)
 | 0,_=>rfl
 | n+1,hh=>by
  rw [firstF] at hh ⊢
  by_cases h1:firstF ((0,0,0):Fl) f n=(0,0,0)
  · rw [if_pos h1] at hh ⊢;exact h n hh
  · rw [if_neg h1] at hh;exact absurd (firstF_err h hh) h1
theorem eqF_err{p:Pg}{i j:Nat}(h:(eqF p i j).2.2=0):eqF p i j=(0,0,0):=by
 unfold eqF at h ⊢
 by_cases h1:eqS p i j=0
 · rw [if_pos h1]
 · rw [if_neg h1] at h;exact absurd h h1
theorem nodeS_err{p:Pg}{i:Nat}(h:(nodeS p i).2.2=0):nodeS p i=(0,0,0):=by
 unfold nodeS at h ⊢
 split at h
 · simp at h
 rename_i h1
 rw [if_neg h1]
 split at h
 · rename_i h2
   rw [if_pos h2]
   split at h
   · rename_i h3
     rw [if_pos h3]
   · simp at h
 · rename_i h2
   exact absurd (firstF_err (fun j=>eqF_err) h) h2
theorem checkS_err{p:Pg}(h:(checkS p).2.2=0):checkS p=(0,0,0):=by
 unfold checkS at h ⊢
 split at h
 · rename_i h1
   rw [if_pos h1];exact firstF_err (fun j=>nodeS_err) h
 · rename_i h1
   exact absurd h h1
theorem node_parts{p:Pg}{i:Nat}(h0:checkS p=(0,0,0)) (hi:i<p.ns.length):portsB (ndAt p i)=true∧(ndAt p i).all.all (onS p (ndAt p i))=true∧∀ j,j<(ndAt p i).eqs.length→∀ k,k<((ndAt p i).eqs[j]?.getD default).ns.length→isV (ndAt p i) (((ndAt p i).eqs[j]?.getD default).ns[k]?.getD ByteArray.empty)=true:=by
 have hc:=checkS_N h0
 have hx:ndAt p i∈p.ns:=by
  unfold ndAt;rw [List.getElem?_eq_getElem hi];exact List.getElem_mem hi
 have hn:nodeS p i=(0,0,0):=by
  unfold checkS at h0;rw [if_pos hc] at h0;exact firstF_zero h0 i hi
 refine⟨?_,?_,fun j hj k hk=>?_⟩
 · unfold checkN rightN at hc
   split at hc
   · split at hc <;> try (cases hc;done)
     split at hc <;> try (cases hc;done)
     split at hc <;> try (cases hc;done)
     split at hc
     · rename_i hr
       have h1:=List.all_eq_true.1 hr _ hx;unfold nodeB at h1;simp only [Bool.and_eq_true] at h1;exact h1.1.1.1.2
     · cases hc
   · rename_i he
     exact absurd hc he
 · unfold nodeS at hn
   split at hn
   · simp at hn
   · rename_i h1
     simpa using h1
 · unfold nodeS at hn
   split at hn
   · simp at hn
   split at hn
   · rename_i h2
     have h3:=firstF_zero h2 j hj;unfold eqF at h3
     have h4:eqS p i j=0:=by
      by_cases h5:eqS p i j=0
      · exact h5
      · rw [if_neg h5] at h3;injection h3 with _ h3;injection h3 with _ h3
     unfold eqS at h4
     split at h4
     · rename_i h5
       have h6:=firstF_zero h5 k hk;unfold nameS at h6
       split at h6
       · cases h6
       · rename_i h7
         simpa using h7
     · rename_i h5
       exact absurd h4 h5
   · rename_i h2
     exact absurd hn h2
theorem mist_eq{p:Pg}{i:Nat}{d:Dc}(hon:onS p (ndAt p i) d=true):mistB p.es (ndAt p i) d=!onT p i d:=by
 unfold mistB onT;unfold onS at hon
 cases h1:(d.on.toList==[]) with
 | true=>rfl
 | false=>
  rw [h1,Bool.false_or,Bool.and_eq_true] at hon;unfold isV armV at hon;obtain⟨dd,hd⟩:=Option.isSome_iff_exists.1 hon.1;obtain⟨r,hr⟩:=Option.isSome_iff_exists.1 hon.2;rw [hd,hr];unfold takesB;rw [List.all_cons,List.all_nil,Bool.and_true];unfold takeB hasB;rw [hr];simp only;rw [hd];rfl
theorem any_congr{α:Type}{f g:α→Bool}:∀ {l:List α},(∀ a∈l,f a=g a)→l.any f=l.any g
 | [],_=>rfl
 | a::l,h=>by
  rw [List.any_cons,List.any_cons,h a (by simp),any_congr fun b hb=>h b (by simp [hb])]
theorem vars_mist{p:Pg}{i:Nat}(hp:portsB (ndAt p i)=true) (ho:(ndAt p i).all.all (onS p (ndAt p i))=true):(ndAt p i).vars.any (mistB p.es (ndAt p i))=!(ndAt p i).all.all (onT p i):=by
 have h1:((ndAt p i).ins++(ndAt p i).outs).all (onT p i)=true:=by
  rw [List.all_eq_true];intro d hd;have:=List.all_eq_true.1 hp d hd;unfold noB at this;unfold onT;rw [Lib.toList_data,this];rfl
 have h2:(ndAt p i).vars.any (mistB p.es (ndAt p i))=(ndAt p i).vars.any fun d=>!onT p i d:=by
  refine any_congr fun d hd=>mist_eq (List.all_eq_true.1 ho d ?_);unfold Nd.all;exact List.mem_append_right _ hd
 rw [h2];unfold Nd.all;rw [List.all_append,h1,Bool.true_and,List.not_all_eq_any_not]
theorem all_congr{f g:Nat→Bool}:∀ {l:List Nat},(∀ a∈l,f a=g a)→l.all f=l.all g
 | [],_=>rfl
 | a::l,h=>by
  rw [List.all_cons,List.all_cons,h a (by simp),all_congr fun b hb=>h b (by simp [hb])]
theorem wrong_eq{p:Pg}{i:Nat}{q:Qn}(hv:∀ k,k<q.ns.length→isV (ndAt p i) (q.ns[k]?.getD ByteArray.empty)=true):wrongB p i q=!eqT p i q:=by
 unfold wrongB eqT
 cases wantT p i q.x with
 | none=>rfl
 | some u=>
  simp only
  congr 1
  unfold eqfB
  by_cases hl:q.ns.length=u.length
  · rw [decide_eq_true hl,decide_eq_true hl.symm,Bool.true_and,Bool.true_and,hl];refine all_congr fun k hk=>?_;have hk:=List.mem_range.1 hk;have h1:=hv k (by omega);unfold isV at h1;obtain⟨d,hd⟩:=Option.isSome_iff_exists.1 h1;unfold hasB;rw [hd];rfl
  · rw [decide_eq_false hl,decide_eq_false (fun e=>hl e.symm),Bool.false_and,Bool.false_and]
theorem findI_split{α:Type} [Inhabited α] (f:α→Bool) (l:List α):((∀ j,j<l.length→f (l[j]?.getD default)=false)∧findI f l 0=-1)∨∃ k:Nat,k<l.length∧(∀ j,j<k→f (l[j]?.getD default)=false)∧f (l[k]?.getD default)=true∧findI f l 0=(k:Int):=by
 have key:∀ n,n≤l.length→(∀ j,j<n→f (l[j]?.getD default)=false)∨∃ k,k<n∧(∀ j,j<k→f (l[j]?.getD default)=false)∧f (l[k]?.getD default)=true:=by
  intro n
  induction n with
  | zero=>exact fun _=>.inl fun j hj=>absurd hj (by omega)
  | succ n ih=>
   intro hn;rcases ih (by omega) with h | ⟨k,hk,h1,h2⟩
   · cases hf:f (l[n]?.getD default) with
     | false=>exact .inl (to_next h hf)
     | true=>exact .inr ⟨n,by omega,h,hf⟩
   · exact .inr ⟨k,by omega,h1,h2⟩
 rcases key l.length (Nat.le_refl _) with h | ⟨k,hk,h1,h2⟩
 · exact .inl ⟨h,findI_none h⟩
 · refine .inr ⟨k,hk,h1,h2,?_⟩;have:=findI_hit (i:=0) hk h1 h2;rwa [Nat.zero_add] at this
theorem trToldT(p:Pg) (i:Nat) (r:Rm) (he:enumsN p.es=0) (hrt:∀ s d,declO (ndAt p i) s=some d→rightB p.es.length d.k d.e d.l=true) (hfew:∀ j,j<p.ns.length→(ndAt p j).ins.length≤1000∧(ndAt p j).outs.length≤1000)
 (y:Ex) (A:Option Addr) (ca:Nat) (B:Option Addr) (cb:Nat) (w:World) (h:rdRm w p (ndAt p i) r) (hr:rdX w y A B) (hg:GoodX y):
 Calls Tryz.prog 47 #[.agg (rvA p (ndAt p i) r),.agg (exA y A ca B cb)] w (SubsAns w (wantT p i y)):=by
 by_cases hk:y.k=13
 · have e:wantT p i y=(seqO (y.subs.map (typX p i))).bind fun ts=>(callT p y ts).map fun j=>(ndAt p j).outs.map tyD:=by
    unfold wantT;rw [hk]
    show(match seqO (y.subs.map (typX p i)) with | none=>none | some ts=>(callT p y ts).map fun j=>(ndAt p j).outs.map tyD)=_
    cases seqO (y.subs.map (typX p i)) <;> rfl
   rw [e];obtain⟨hsh,hpt⟩:=hg.self
   have hlen:y.subs.length≤8+y.arms.length:=by
    have h2:=subs_le (part_n13 hg.self.2);unfold partX at hpt;simp only [Bool.and_eq_true,decide_eq_true_eq] at hpt;have h3:=hpt.1.2;omega
   refine trToldCall p i r y A ca B cb w hk _ _ (fun w1 hb=>?_) (fun ts hts S n c w1 hb hry hsl=>?_)
   · exact trEach p (ndAt p i) r B y.subs.length cb y.subs w1 (h.below hb) (hr.below hb).subs (by have:=hsh.2.2;omega) (y.subs.map (typX p i)) (by simp) _ rfl (fun k hk A' ca' B' cb' w2 hb2 hrd=>by
      rw [typ_get hk];exact trOfX p i r he hrt hfew (subX y k) A' ca' B' cb' w2 (h.below (hb.trans (hb2.mono hb.size))) hrd (hg.sub hk))
   · have hn:=seqO_len hts;rw [List.length_map] at hn;have hl:=hry.len;have ha:=part_subs hpt;unfold subsX at ha
     simp [hk] at ha
     exact trCall p (ndAt p i) r y A ca B cb S n c ts w1 (h.below hb) hry hsl (part_n13 hpt hk) (by omega) hfew
 · have e:wantT p i y=(typX p i y).map fun t=>[t]:=by
    unfold wantT;rw [if_neg (by simpa using hk)]
   rw [e];exact trToldOne p i r y A ca B cb w hk _ fun w1 hb=>trOfX p i r he hrt hfew y A ca B cb w1 (h.below hb) (hr.below hb) hg
theorem trCheck(p:Pg) (E:Option Addr) (ec:Nat) (N:Option Addr) (nc:Nat) (w:World) (h:rdP w p E N) (ht:TinyP p):
 Calls Tryz.prog 15 #[.agg (pgA p E ec N nc)] w fun e w'=>e=.returned (flV (checkT p))∧Below w.heap.size w w':=by
 have hnm:=RdS.max h.2;have HF:=Hd fun w0 hw=>any_boxZ (w:=w) (w1:=w0) (cs:=pgA p E ec N nc) (T:=25) (U:=30) hw;have HSC:=Hd fun w1 (hb:Below w.heap.size w w1)=>scCheck p E ec N nc w1 (h.below hb) ht;have hmk:∀ fn first cap w,(Instr.makeFunc fn first cap).run Tryz.prog w=.ok (.func fn first cap) w:=fun _ _ _ _=>rfl
 have HNS:=Hd fun w1 (hb:Below w.heap.size w w1)=>(show RdNs w1 N p.ns.length p.ns from(h.below hb).2)
 by_cases hz:checkS p=(0,0,0)
 · have hc:=checkS_N hz;have HCT:=Hd (show checkT p=firstF ((0,0,0):Fl) (nodeTF p) p.ns.length by unfold checkT;rw [if_pos hz]);have HHIT:=Hd fun k (hk:k<p.ns.length) hn hy=>firstF_hit (z:=((0,0,0):Fl)) (f:=nodeTF p) (n:=p.ns.length) hk hn hy;have HNO:=Hd fun hn=>firstF_no (z:=((0,0,0):Fl)) (f:=nodeTF p) (n:=p.ns.length) hn
   have HMI:=Hd fun k (hk:k<p.ns.length)=>(show nodeTF p k=if(ndAt p k).vars.any (mistB p.es (ndAt p k))=true then((k:Int),-1,7) else firstF ((0,0,0):Fl) (eqTF p k) (ndAt p k).eqs.length by
    obtain⟨h1,h2,_⟩:=node_parts hz hk;rw [vars_mist h1 h2];unfold nodeTF
    cases (ndAt p k).all.all (onT p k) <;> rfl)
   have HWR:=Hd fun k (hk:k<p.ns.length)=>(show firstF ((0,0,0):Fl) (eqTF p k) (ndAt p k).eqs.length=if 0≤findI (wrongB p k) (ndAt p k).eqs 0 then((k:Int),findI (wrongB p k) (ndAt p k).eqs 0,7) else(0,0,0) by
    obtain⟨_,_,h3⟩:=node_parts hz hk;have hw:∀ j,j<(ndAt p k).eqs.length→wrongB p k ((ndAt p k).eqs[j]?.getD default)=!eqT p k ((ndAt p k).eqs[j]?.getD default):=fun j hj=>wrong_eq (h3 j hj);rcases findI_split (wrongB p k) (ndAt p k).eqs with⟨h4,h5⟩|⟨m,hm,h4,h5,h6⟩
    · rw [h5,if_neg (by omega)];refine firstF_no fun j hj=>?_;have:=h4 j hj;rw [hw j hj] at this;unfold eqTF;rw [if_pos (by simpa using this)]
    · rw [h6,if_pos (by omega)]
      have h7:eqTF p k m=((k:Int),(m:Int),7):=by
       rw [hw m hm] at h5;unfold eqTF;rw [if_neg (by simpa using h5)]
      rw [firstF_hit hm (fun j hj=>?_) (by rw [h7];intro e;injection e with _ e;injection e with _ e;cases e),h7];have:=h4 j hj;rw [hw j (by omega)] at this;unfold eqTF;rw [if_pos (by simpa using this)])
   have HCF:=Hd fun k (hk:k<p.ns.length) (r:Rm) (hrE:r.E=E) (hrN:r.N=N) w1 (hb:Below w.heap.size w w1) (hrd:rdN w1 (ndAt p k) r.A1 r.A2 r.A3 r.A4)=>slHasDcF 28 (.agg (rvA p (ndAt p k) r)) (fun _ _=>rfl) (mistB p.es (ndAt p k)) r.A3 (ndAt p k).vars.length r.c3 (ndAt p k).vars w1 hrd.2.2.1
    fun d hd W hW=>trMistimed p (ndAt p k) r d W ⟨by rw [hrE,hrN];exact h.below (hb.trans (hW.mono hb.size)),hrd.below hW⟩
   have HIF:=Hd fun k (hk:k<p.ns.length) (r:Rm) (hrE:r.E=E) (hrN:r.N=N) w1 (hb:Below w.heap.size w w1) (hrd:rdN w1 (ndAt p k) r.A1 r.A2 r.A3 r.A4)=>slIndexQnF 29 (.agg (rvA p (ndAt p k) r)) (fun _ _=>rfl) (wrongB p k) r.A4 (ndAt p k).eqs.length r.c4 (ndAt p k).eqs w1 hrd.2.2.2
    fun q hq BN cN A ca B cb W hW hqr=>(by
     obtain⟨j,hj,rfl⟩:=List.getElem_of_mem hq;have hrm:rdRm W p (ndAt p k) r:=⟨by rw [hrE,hrN];exact h.below (hb.trans (hW.mono hb.size)),hrd.below hW⟩;have hgx:=(types_of ht hc hk).2 j hj;rw [List.getElem?_eq_getElem hj,Option.getD_some] at hgx;exact trWrong p k r _ BN cN A ca B cb W hrm hqr.1 hqr.2 fun w2 hb2 hx2=>trToldT p k r (check_en hc) (types_of ht hc hk).1 (few_nodes ht) _ A ca B cb w2 (hrm.below hb2) hx2 hgx)
   rw [hz] at HSC;unfold flV f3A at HSC;clear h ht hz hc;generalize checkT p=res at *;generalize hpn:p.ns.length=pn at *;unfold pgA at *;rw [hpn] at HF HSC ⊢;have HPN:=Hd hpn;clear hpn
   go_enter Tryz.func15,Tryz.ntmps15
   go_upto_region 1 with(fail)
   generalize hw0:(w.alloc _).alloc _=w0;obtain⟨hb0,hsz,hce,hR⟩:=HF.out w0 hw0;have HB0:=Hd hb0;have HR:=Hd hR;have HP:=Hd hce;have q0:=hce w0 (Below.refl _ _) 0;have q1:=hce w0 (Below.refl _ _) 1;simp only [Ya,Yb,Yc] at q0 q1;clear hw0 hb0 hsz hce hR HF
   go_wp2_with fail
   refine(HSC.out w0 HB0.out).mono ?_;rintro e w1 ⟨rfl,hb1⟩;have HB1:=Hd (below_next2 HB0.out hb1);have HL1:=Hd hb1;have HR1:=Hd (HR.out.below hb1);clear hb1 q0 q1 HSC HR
   go_upto_region 2 with(fail)
   generalize hw2:w1.alloc _=w2;obtain⟨hb2,hF2,hg2⟩:=ty_box hw2;have HB2:=Hd (below_next2 HB1.out hb2);have HL2:=Hd (below_next2 HL1.out hb2);have HR2:=Hd (HR1.out.below hb2);have f2:=hF2.cell 2;have q1:=HP.out w2 HL2.out 1;simp only [f3A,List.getElem?_toArray,List.getElem?_cons_zero,List.getElem?_cons_succ] at f2 q1;clear hw2 hb2 hF2 hg2 HR1
   go_wp2_with fail
   go_loopw [17] (fun c wr=>∃ k:Nat,k≤pn∧c=.int .i64 k∧(∀ a,a<k→nodeTF p a=(0,0,0))∧Below w2.heap.size w2 wr) (fun c _=>pn-(intOf c).toNat)
   case atStart=>exact⟨0,Nat.zero_le _,rfl,fun a ha=>absurd ha (by omega),Below.refl _ _⟩
   case round=>
    obtain⟨k,hk,rfl,hto,hbr⟩:=hrel;have HTO:=Hd hto;have HBR:=Hd (below_next2 HB2.out hbr);have HLR:=Hd (below_next2 HL2.out hbr);have HBL:=Hd hbr;have HRR:=Hd (HR2.out.below hbr);clear hto hbr
    by_cases hlt:k<pn
    · obtain⟨b,off,A1,c1,A2,c2,A3,c3,A4,c4,hN,hb,hrd,d0,d1,d2,d3,d4⟩:=nd_at15 (HNS.out wr HBR.out) hlt;have HMK:=Hd (HMI.out k hlt);have HWK:=Hd (HWR.out k hlt);have HHK:=Hd (HHIT.out k hlt HTO.out);have HCK:=Hd fun w1 (hb:Below w.heap.size w w1) (hq:rdN w1 (ndAt p k) A1 A2 A3 A4)=>HCF.out k hlt ⟨E,ec,N,nc,A1,c1,A2,c2,A3,c3,A4,c4⟩ rfl rfl w1 hb hq;have HIK:=Hd fun w1 (hb:Below w.heap.size w w1) (hq:rdN w1 (ndAt p k) A1 A2 A3 A4)=>HIF.out k hlt ⟨E,ec,N,nc,A1,c1,A2,c2,A3,c3,A4,c4⟩ rfl rfl w1 hb hq;have HRD:=Hd (show rdN wr (ndAt p k) A1 A2 A3 A4 from hrd);unfold rvA at HCK HIK
      dsimp only at HCK HIK
      have hnd:p.ns[k]?.getD default=ndAt p k:=rfl;rw [hnd] at d0 d1 d2 d3 d4;clear hnd hrd;subst hN;rw [HPN.out] at HCK HIK;generalize (ndAt p k).vars.any (mistB p.es (ndAt p k))=mb at *;generalize firstF ((0,0,0):Fl) (eqTF p k) (ndAt p k).eqs.length=ff at *;generalize findI (wrongB p k) (ndAt p k).eqs 0=fi at *;generalize ndAt p k=nd at *
      go_upto_region 7 with(fail)
      generalize hw4:wr.alloc _=w4;obtain⟨hb4,hg4,hce4⟩:=any_box hw4;have HB4:=Hd (below_next2 HBR.out hb4);have HL4:=Hd (below_next2 HLR.out hb4);have HM4:=Hd (below_next2 HBL.out hb4);have HR4:=Hd (HRR.out.below hb4);have HD4:=Hd (HRD.out.below hb4);have HC4:=Hd hce4;obtain⟨e0,e1,e2,e3,e4,-⟩:=Sx (hce4 w4 (Below.refl _ _));have q0:=HP.out w4 HL4.out 0;have q1:=HP.out w4 HL4.out 1;simp only [Ya,Yb,Yc] at e0 e1 e2 e3 e4 q0 q1;clear hw4 hb4 hg4 hce4 d0 d1 d2 d3 d4
      go_upto_region 8 with(fail)
      generalize hw5:w4.alloc _=w5;obtain⟨hb5,hg5,hce5⟩:=any_box hw5;have HB5:=Hd (below_next2 HB4.out hb5);have HM5:=Hd (below_next2 HM4.out hb5);have HR5:=Hd (HR4.out.below hb5);have HD5:=Hd (HD4.out.below hb5);have HC5:=Hd hce5;have HC6:=Hd fun w' (hb:Below w5.heap.size w5 w') j=>HC4.out w' (below_next2 hb5 hb) j;have e3:=HC6.out w5 (Below.refl _ _) 3;obtain⟨f0,f1,f2,f3,f4,f5⟩:=Sx (hce5 w5 (Below.refl _ _));have f6:=hce5 w5 (Below.refl _ _) 6;simp only [Ya,Yb,Yc] at e3 f0 f1 f2 f3 f4 f5 f6;have HK5:=Hd (HCK.out w5 HB5.out HD5.out);clear hw5 hb5 hg5 hce5 e0 e1 e2 e4 q0 q1
      cases mb with
      | true=>
       have HNT:=Hd (show nodeTF p k=((k:Int),-1,7) from HMK.out);have HRS:=Hd (show res=((k:Int),-1,7) by rw [HCT.out,HHK.out (by rw [HNT.out];intro e;injection e with _ e;injection e with _ e;cases e)];exact HNT.out)
       go_wp2_with fail
       refine HK5.out.mono ?_;rintro e w6 ⟨rfl,hb6⟩;have HB6:=Hd (below_next2 HB5.out hb6);have HR6:=Hd (HR5.out.below hb6);clear hb6 HK5
       go_wp2_with (refine wpList_store_row rfl _ _ _ rfl (w.heap.size+1) _ rfl rfl _ _ HR6.out fl_info rfl (by simp [f3A,Value.oneCell']) ?_)
       exact bodyPost_ret (res_f3 (p:=2) rfl _ _ (w.heap.size+1) k (-1) 7 rfl (HR6.out.set _ _ _)) rfl ⟨by rw [HRS.out];rfl,below_setRow HB6.out (Nat.le_succ _) _⟩
      | false=>
       have HNT:=Hd (show nodeTF p k=ff from HMK.out)
       go_wp2_with fail
       refine HK5.out.mono ?_;rintro e w6 ⟨rfl,hb6⟩;have HB6:=Hd (below_next2 HB5.out hb6);have HM6:=Hd (below_next2 HM5.out hb6);have HR6:=Hd (HR5.out.below hb6);have HD6:=Hd (HD5.out.below hb6);have e4:=HC6.out w6 hb6 4;obtain⟨f0,f1,f2,f3,f4,f5⟩:=Sx (HC5.out w6 hb6);have f6:=HC5.out w6 hb6 6;simp only [Ya,Yb,Yc] at e4 f0 f1 f2 f3 f4 f5 f6;have HK6:=Hd (HIK.out w6 HB6.out HD6.out);clear hb6 HK5 e3
       go_wp2_with fail
       refine HK6.out.mono ?_;rintro e w7 ⟨rfl,hb7⟩;have HB7:=Hd (below_next2 HB6.out hb7);have HM7:=Hd (below_next2 HM6.out hb7);have HR7:=Hd (HR6.out.below hb7);clear hb7 HK6 e4 f0 f1 f2 f3 f4 f5 f6
       by_cases hfi:0≤fi
       · have hd:decide (0≤fi)=true:=decide_eq_true hfi;have HN2:=Hd (show nodeTF p k=((k:Int),fi,7) by rw [HNT.out,HWK.out,if_pos hfi]);have HRS:=Hd (show res=((k:Int),fi,7) by rw [HCT.out,HHK.out (by rw [HN2.out];intro e;injection e with _ e;injection e with _ e;cases e)];exact HN2.out)
         go_wp2_with (refine wpList_store_row rfl _ _ _ rfl (w.heap.size+1) _ rfl rfl _ _ HR7.out fl_info rfl (by simp [f3A,Value.oneCell']) ?_)
         exact bodyPost_ret (res_f3 (p:=2) rfl _ _ (w.heap.size+1) k fi 7 rfl (HR7.out.set _ _ _)) rfl ⟨by rw [HRS.out];rfl,below_setRow HB7.out (Nat.le_succ _) _⟩
       · have hd:decide (0≤fi)=false:=decide_eq_false hfi;have HN2:=Hd (show nodeTF p k=(0,0,0) by rw [HNT.out,HWK.out,if_neg hfi]);have HT2:=Hd (to_next (P:=fun a=>nodeTF p a=(0,0,0)) HTO.out HN2.out)
         go_wp2_with fail
         go_roundw
         case rel=>exact⟨k+1,by omega,by go_num,HT2.out,HM7.out⟩
         case measure=>simp [intOf];omega
    · have hkn:k=pn:=by omega
      have HRS:=Hd (show res=(0,0,0) by rw [HCT.out];exact HNO.out fun a ha=>HTO.out a (by omega))
      go_wp2_with (refine wpList_store_row rfl _ _ _ rfl (w.heap.size+1) _ rfl rfl _ _ HRR.out fl_info rfl (by simp [f3A,Value.oneCell']) ?_)
      exact bodyPost_ret (res_f3 (p:=2) rfl _ _ (w.heap.size+1) 0 0 0 rfl (HRR.out.set _ _ _)) rfl ⟨by rw [HRS.out];rfl,below_setRow HBR.out (Nat.le_succ _) _⟩
 · have HCT:=Hd (show checkT p=checkS p by unfold checkT;rw [if_neg hz]);have hne:(checkS p).2.2≠0:=fun e=>hz (checkS_err e);have hneb:((checkS p).2.2 != 0)=true:=bne_iff_ne.2 hne;rw [HCT.out];unfold flV f3A at *;clear h ht hz hne HCT HNS;unfold pgA at *;generalize (checkS p).1=a at *;generalize (checkS p).2.1=b at *;generalize (checkS p).2.2=c at *
   go_enter Tryz.func15,Tryz.ntmps15
   go_upto_region 1 with(fail)
   generalize hw0:(w.alloc _).alloc _=w0;obtain⟨hb0,hsz,hce,hR⟩:=HF.out w0 hw0;have HB0:=Hd hb0;have HR:=Hd hR;have q0:=hce w0 (Below.refl _ _) 0;have q1:=hce w0 (Below.refl _ _) 1;simp only [Ya,Yb,Yc] at q0 q1;clear hw0 hb0 hsz hce hR HF
   go_wp2_with fail
   refine(HSC.out w0 HB0.out).mono ?_;rintro e w1 ⟨rfl,hb1⟩;have HB1:=Hd (below_next2 HB0.out hb1);have HR1:=Hd (HR.out.below hb1);clear hb1 q0 q1 HSC HR
   go_upto_region 2 with(fail)
   generalize hw2:w1.alloc _=w2;obtain⟨hb2,hF2,hg2⟩:=ty_box hw2;have HB2:=Hd (below_next2 HB1.out hb2);have HR2:=Hd (HR1.out.below hb2);obtain⟨f0,f1,f2,-,-,-⟩:=Sx hF2.cell;simp only [f3A,List.getElem?_toArray,List.getElem?_cons_zero,List.getElem?_cons_succ] at f0 f1 f2;clear hw2 hb2 hF2 hg2 HR1
   go_wp2_with (refine wpList_store_row rfl _ _ _ rfl (w.heap.size+1) _ rfl rfl _ _ HR2.out fl_info rfl (by simp [f3A,Value.oneCell']) ?_)
   exact bodyPost_ret (res_f3 (p:=2) rfl _ _ (w.heap.size+1) a b c rfl (HR2.out.set _ _ _)) rfl ⟨rfl,below_setRow HB2.out (Nat.le_succ _) _⟩
end
section
def checkC(p:Pg):Fl:=if checkT p=(0,0,0) then firstF ((0,0,0):Fl) (nodeCF p) p.ns.length else checkT p
def untimedB(es:List En) (n:Nd) (d:Dc):Bool:=!(rowC es n d.nm).isSome
def wrongC(es:List En) (n:Nd) (q:Qn):Bool:=match rowC es n (q.ns[0]?.getD ByteArray.empty) with
 | none=>true
 | some row=>!fitX es n q.x row || (q.ns.drop 1).any fun s=>!hasC es n s row
theorem checkT_S{p:Pg}(h:checkT p=(0,0,0)):checkS p=(0,0,0):=by
 unfold checkT at h
 split at h
 · assumption
 · rename_i h1
   exact absurd h h1
theorem decl_nm{n:Nd}{s:ByteArray}{d:Dc}(h:declO n s=some d):d∈n.all∧d.nm=s:=by
 unfold declO at h;refine⟨List.mem_of_find?_eq_some h,?_⟩;have:=List.find?_some h;exact bytes_eq (by rw [Lib.toList_data,Lib.toList_data];exact this)
theorem clockR_no{n:Nd}{k:Nat}{s:ByteArray}{acc:List Dc}(h:declO n s=none):clockR n (k+1) s acc=none:=by rw [clockR,h]
theorem clockR_end{n:Nd}{k:Nat}{s:ByteArray}{acc:List Dc}{d:Dc}(h:declO n s=some d) (hn:noB d.on=true):clockR n (k+1) s acc=some acc:=by
 rw [clockR,h];exact if_pos hn
theorem clockR_on{n:Nd}{k:Nat}{s:ByteArray}{acc:List Dc}{d:Dc}(h:declO n s=some d) (hn:noB d.on=false):clockR n (k+1) s acc=clockR n k d.on (d::acc):=by
 rw [clockR,h];exact if_neg (by rw [hn];decide)
theorem row_always{es:List En}{n:Nd}{s:ByteArray}{d:Dc}(h:declO n s=some d) (hn:noB d.on=true):rowC es n s=some []:=by
 unfold rowC clockO;rw [clockR_end h hn];rfl
theorem ports_row{es:List En}{n:Nd}(hp:portsB n=true){d:Dc}(hd:d∈n.ins++n.outs):rowC es n d.nm=some []:=by
 have h1:((n.ins++n.outs).find? fun x=>x.nm.data.toList==d.nm.data.toList).isSome=true:=List.find?_isSome.2 ⟨d,hd,by simp⟩;obtain⟨d',h2⟩:=Option.isSome_iff_exists.1 h1;refine row_always (d:=d') ?_ (List.all_eq_true.1 hp d' (List.mem_of_find?_eq_some h2));unfold declO Nd.all;rw [List.find?_append,h2];rfl
theorem ports_timed{p:Pg}{i:Nat}(hp:portsB (ndAt p i)=true):(ndAt p i).vars.any (untimedB p.es (ndAt p i))=!(ndAt p i).all.all (timedC p i):=by
 have h1:((ndAt p i).ins++(ndAt p i).outs).all (timedC p i)=true:=by
  rw [List.all_eq_true];intro d hd;unfold timedC;rw [ports_row hp hd];rfl
 unfold Nd.all;rw [List.all_append,h1,Bool.true_and,List.not_all_eq_any_not];rfl
theorem names_row{p:Pg}{i:Nat}(ht:(ndAt p i).all.all (timedC p i)=true){s:ByteArray}(hs:isV (ndAt p i) s=true):(rowC p.es (ndAt p i) s).isSome=true:=by
 unfold isV at hs;obtain⟨d,hd⟩:=Option.isSome_iff_exists.1 hs;obtain⟨h1,h2⟩:=decl_nm hd;have:=List.all_eq_true.1 ht d h1;unfold timedC at this;rwa [h2] at this
theorem wrong_eqC{p:Pg}{i:Nat}{q:Qn}(h0:0<q.ns.length) (hv:∀ k,k<q.ns.length→(rowC p.es (ndAt p i) (q.ns[k]?.getD ByteArray.empty)).isSome=true):wrongC p.es (ndAt p i) q=!eqC17 p i q:=by
 obtain⟨row,hrow⟩:=Option.isSome_iff_exists.1 (hv 0 h0);unfold wrongC eqC17 rowD;rw [hrow];simp only [Option.getD_some]
 have key:∀ s∈q.ns,hasC p.es (ndAt p i) s row=sameC ((rowC p.es (ndAt p i) s).getD []) row:=fun s hs=>by
  obtain⟨k,hk,rfl⟩:=List.getElem_of_mem hs;have h1:=hv k hk;rw [List.getElem?_eq_getElem hk,Option.getD_some] at h1;obtain⟨r,hr⟩:=Option.isSome_iff_exists.1 h1;unfold hasC;rw [hr];rfl
 have h2:(q.ns.drop 1).any (fun s=>!hasC p.es (ndAt p i) s row)=!q.ns.all fun s=>sameC ((rowC p.es (ndAt p i) s).getD []) row:=by
  match hq:q.ns,h0 with
  | a::l,_=>
   rw [hq] at hrow key;simp only [List.getElem?_cons_zero,Option.getD_some] at hrow;rw [List.all_cons,hrow,Option.getD_some,sameC_refl,Bool.true_and,List.not_all_eq_any_not]
   show l.any _=_
   exact any_congr fun s hs=>by rw [key s (List.mem_cons_of_mem _ hs)]
 rw [h2,Bool.not_and,Bool.or_comm]
theorem nodeCF_bad{p:Pg}{i j:Nat}(hj:j<(ndAt p i).all.length) (h:timedC p i ((ndAt p i).all[j]?.getD default)=false):nodeCF p i=((i:Int),-1,8):=by
 unfold nodeCF;rw [if_pos];refine Bool.eq_false_iff.2 fun ha=>?_;have:=List.all_eq_true.1 ha ((ndAt p i).all[j]) (List.getElem_mem hj);rw [List.getElem?_eq_getElem hj,Option.getD_some,this] at h
 cases h
theorem checkC_T{p:Pg}(h:checkC p=(0,0,0)):checkT p=(0,0,0):=by
 unfold checkC at h
 split at h
 · assumption
 · rename_i h1
   exact absurd h h1
theorem eq_parts{p:Pg}{i j:Nat}(h0:checkN p=0) (hi:i<p.ns.length) (hj:j<(ndAt p i).eqs.length):0<((ndAt p i).eqs[j]?.getD default).ns.length∧rightX ((ndAt p i).eqs[j]?.getD default).x=true:=by
 have hx:ndAt p i∈p.ns:=by
  unfold ndAt;rw [List.getElem?_eq_getElem hi];exact List.getElem_mem hi
 unfold checkN rightN at h0
 split at h0 <;> try (rename_i he;exact absurd h0 he)
 split at h0 <;> try (cases h0;done)
 split at h0 <;> try (cases h0;done)
 split at h0 <;> try (cases h0;done)
 split at h0 <;> try (cases h0;done)
 rename_i hr
 have h1:=List.all_eq_true.1 hr _ hx;unfold nodeB at h1;simp only [Bool.and_eq_true] at h1
 have hm:(ndAt p i).eqs[j]?.getD default∈(ndAt p i).eqs:=by
  rw [List.getElem?_eq_getElem hj];exact List.getElem_mem hj
 have h3:=List.all_eq_true.1 h1.1.1.2 _ hm;unfold eqB at h3;simp only [Bool.and_eq_true,decide_eq_true_eq] at h3;exact⟨h3.1.1.2,h3.1.2⟩
end
section
theorem clockR_acc(n:Nd):∀ (k:Nat) (s:ByteArray) (acc:List Dc),clockR n k s acc=(clockR n k s []).map (·++acc)
 | 0,s,acc=>rfl
 | k+1,s,acc=>by
  cases h:declO n s with
  | none=>rw [clockR_no h,clockR_no h];rfl
  | some d=>
   cases hn:noB d.on with
   | true=>rw [clockR_end h hn,clockR_end h hn];simp
   | false=>
    rw [clockR_on h hn,clockR_on h hn,clockR_acc n k d.on (d::acc),clockR_acc n k d.on [d],Option.map_map]
    congr 1
    funext l
    simp
theorem clockR_more(n:Nd):∀ (k:Nat) (s:ByteArray) (acc l:List Dc),clockR n k s acc=some l→clockR n (k+1) s acc=some l
 | 0,s,acc,l,h=>by cases h
 | k+1,s,acc,l,h=>by
  cases hd:declO n s with
  | none=>rw [clockR_no hd] at h;cases h
  | some d=>
   cases hn:noB d.on with
   | true=>rw [clockR_end hd hn] at h ⊢;exact h
   | false=>
    rw [clockR_on hd hn] at h ⊢;exact clockR_more n k _ _ _ h
theorem clockR_take(n:Nd):∀ (k:Nat) (s:ByteArray) (l:List Dc),clockR n k s []=some l→∀ j,j<l.length→clockR n k (l[j]?.getD default).on []=some (l.take j)
 | 0,s,l,h=>by cases h
 | k+1,s,l,h=>by
  intro j hj
  cases hd:declO n s with
  | none=>rw [clockR_no hd] at h;cases h
  | some d=>
   cases hn:noB d.on with
   | true=>
    rw [clockR_end hd hn] at h;injection h with h;subst h
    simp at hj
   | false=>
    rw [clockR_on hd hn,clockR_acc] at h;obtain⟨l0,h1,rfl⟩:=Option.map_eq_some_iff.1 h
    by_cases hjl:j<l0.length
    · rw [List.getElem?_append_left hjl,List.take_append_of_le_length (by omega)];exact clockR_more n k _ _ _ (clockR_take n k _ _ h1 j hjl)
    · obtain rfl:j=l0.length:=by simp at hj;omega
      rw [List.getElem?_append_right (Nat.le_refl _),List.take_left];simp only [Nat.sub_self,List.getElem?_cons_zero,Option.getD_some];exact clockR_more n k _ _ _ h1
theorem condR_nm{es:List En}{d:Dc}{c:Cd}(h:condR es d=some c):c.nm=d.on:=by
 unfold condR at h;obtain⟨r,_,rfl⟩:=Option.map_eq_some_iff.1 h;rfl
theorem condsR_nm{es:List En}:∀ {l:List Dc}{cs:List Cd},condsR es l=some cs→∀ j,j<l.length→(cs[j]?.getD default).nm=(l[j]?.getD default).on∧condsR es (l.take j)=some (cs.take j)
 | [],cs,h,j,hj=>by simp at hj
 | d::l,cs,h,j,hj=>by
  simp only [condsR] at h
  cases hc:condR es d with
  | none=>rw [hc] at h;cases h
  | some c=>
   rw [hc] at h;obtain⟨t,h1,rfl⟩:=Option.map_eq_some_iff.1 h
   cases j with
   | zero=>exact⟨by simpa using condR_nm hc,rfl⟩
   | succ j=>
    obtain⟨h2,h3⟩:=condsR_nm h1 j (by simpa using hj);refine⟨by simpa using h2,?_⟩;simp only [List.take_succ_cons,condsR,hc,h3,Option.map_some]
theorem row_ahead{es:List En}{n:Nd}{s:ByteArray}{row:List Cd}(h:rowC es n s=some row){j:Nat}(hj:j<row.length):rowC es n (row[j]?.getD default).nm=some (row.take j):=by
 unfold rowC at h;obtain⟨l,hl,hc⟩:=Option.bind_eq_some_iff.1 h;have hlen:=condsR_len hc;obtain⟨h1,h2⟩:=condsR_nm hc j (by omega);unfold rowC;rw [h1];unfold clockO at hl ⊢;rw [clockR_take n 13 s l hl j (by omega)];exact h2
theorem find_once{n:Nd}(ho:onceS (namesD n.all)=true){k:Nat}(hk:k<n.all.length):declO n (n.all[k]?.getD default).nm=some (n.all[k]?.getD default):=by
 unfold declO;refine find_hit hk (fun j hj=>?_) (by simp);unfold onceS onceB at ho;have ho:=of_decide_eq_true ho;unfold namesD at ho;rw [List.map_map] at ho;have h1:=List.pairwise_iff_getElem.1 ho j k (by simp;omega) (by simpa using hk) hj;rw [List.getElem?_eq_getElem hk,List.getElem?_eq_getElem (show j<n.all.length by omega)];simp only [Option.getD_some,beq_eq_false_iff_ne]
 simpa using h1
theorem row_none{es:List En}{n:Nd}{s:ByteArray}{d:Dc}{row:List Cd}(hd:declO n s=some d) (h:rowC es n s=some row):decide (0<row.length)=!noB d.on:=by
 cases hn:noB d.on with
 | true=>
  rw [row_always hd hn] at h;injection h with h;subst h;rfl
 | false=>
  unfold rowC clockO at h;obtain⟨l,hl,hc⟩:=Option.bind_eq_some_iff.1 h;rw [clockR_on hd hn,clockR_acc] at hl;obtain⟨l0,_,rfl⟩:=Option.map_eq_some_iff.1 hl;have:=condsR_len hc;rw [List.length_append] at this
  simp at this
  simp [this]
theorem rows_let{p:Pg}(ht:TinyP p) (h:checkC p=(0,0,0)){i:Nat}(hi:i<p.ns.length){k:Nat}(hk:k<(ndAt p i).all.length):
 ∃ row,rowC p.es (ndAt p i) ((ndAt p i).all[k]?.getD default).nm=some row∧decide (0<row.length)=!noB ((ndAt p i).all[k]?.getD default).on∧∀ j,j<row.length→rowC p.es (ndAt p i) (row[j]?.getD default).nm=some (row.take j):=by
 have hT:=checkC_T h;have h0:=checkS_N (checkT_S hT);unfold checkC at h;rw [if_pos hT] at h;have hn:=firstF_zero h i hi
 have ha:timedC p i ((ndAt p i).all[k]?.getD default)=true:=by
  cases hc:timedC p i ((ndAt p i).all[k]?.getD default) with
  | true=>rfl
  | false=>
   rw [nodeCF_bad hk hc] at hn;injection hn with _ hn;injection hn with _ hn
   cases hn
 unfold timedC at ha;obtain⟨row,hrow⟩:=Option.isSome_iff_exists.1 ha;exact⟨row,hrow,row_none (find_once (good_of ht h0 hi).2.2.1 hk) hrow,fun j hj=>row_ahead hrow hj⟩
end
end Go.Proofs.YtkbpdoomhfkngaaGreat
