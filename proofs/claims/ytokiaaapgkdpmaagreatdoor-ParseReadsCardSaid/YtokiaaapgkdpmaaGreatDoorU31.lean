/- Parts: PrL, PrQ. Conditions: each theorem's own. -/
import Derived.Test.YtokiaaapgkdpmaaGreatDoorU30
namespace Go.Proofs.YtokiaaapgkdpmaaGreatDoor
set_option linter.unusedVariables false
set_option linter.unusedSimpArgs false
set_option maxRecDepth 100000
set_option maxHeartbeats 40000000
section
open Go.RowKit Go.Sort
section
variable {w w1 w2 w':World}{b:Nat}{A:Option Addr}{n c:Nat}{all r r' r2:List Tk}{va va1 vp:Value}{st:List Value}{ps:List Ex}{sz:Nat}{L L1 L2 S ft:List Nat}
theorem Mem.other(h:Mem w b A n c all r va st vp ps sz L){g:Nat}(hg:g∈L)(h1:g≠b)(h2:va.ownBlock≠some g)(h3:vp.ownBlock≠some g)(j:Nat)(v:Value):
 Mem (w.setCell ⟨g,j,none⟩ v) b A n c all r va st vp ps sz L∧Tn [g] L L w (w.setCell ⟨g,j,none⟩ v):=by
 have hoth:∀ k,k≠g→(w.setCell ⟨g,j,none⟩ v).heap[k]?=w.heap[k]?:=fun k hk=>heap_setCell_other _ _ _ _ hk;have ht:Tn [g] L L w (w.setCell ⟨g,j,none⟩ v):=⟨rfl,rfl,rfl,by simp,fun k _ hn=>hoth k (fun e=>hn (by simp[e])),fun k hk=>.inl hk,fun k hk _=>hk⟩;have hS:∀ k∈[g],k∈L:=fun k hk=>by rw[List.mem_singleton.1 hk];exact hg
 obtain⟨cs,h4,h5⟩:=h.op;exact⟨⟨(hoth b (Ne.symm h1)).trans h.row,h.rd.up ht.ups (ht.up hS),h.len,h.pre,h.fin,h.tks,own_other h.oa fun k hk=>hoth k fun e=>h2 (e ▸ hk),⟨cs,own_other h4 fun k hk=>hoth k fun e=>h3 (e ▸ hk),flX_up ht.ups (ht.up hS) h5⟩,h.lb,h.la,h.lp,fun k hk=>by simpa using h.lv k hk⟩,ht⟩
theorem turn_more{new:List Fr}{vt v0:List Value}{fts:List Nat}(h:Mem w b A n c all r va st vp ps sz L)(hT:Tn (turnS b va vp ft) L L1 w w1)(h1:Mem w1 b A n c all r2 va1 (v0++st) vp ps sz L1)(hg:GoesV w va va1)
 (hF:FrsAt L1 w1 b new (vt++v0) fts) (hn:fts.Nodup) (hf:∀ k∈fts,k∈ft∨w.heap.size≤k) (hf2:∀ k∈fts,k≠b∧va1.ownBlock≠some k∧vp.ownBlock≠some k∧k<w1.heap.size)
 {e:Ending}(hx:e=.returned (.tuple #[])∧∃ va' L',Mem w' b A n c all r2 va' (vt++(v0++st)) vp ps sz L'∧Tn (pushS b va1) L1 L' w1 w'∧GoesV w1 va1 va'):Turn w b A n c all va st vp L ft (.ok (new,ps,sz) r2) e w':=by
 obtain⟨e1,va',L',hM,hT2,hg2⟩:=hx;refine⟨e1,va',vp,L',vt++v0,fts,by rw[List.append_assoc];exact hM,hF.up hT2 (push_sub h1) fun k hk hs=>?_,hT.trans hT2 h.lv fun k hk=>?_,hn,hf,fun k hk=>⟨(hf2 k hk).1,fun e=>?_,(hf2 k hk).2.2.1⟩,hg.trans hg2 hT.size,GoesV.refl _ _⟩
 · simp only[pushS,List.mem_cons,Option.mem_toList] at hs;rcases hs with hs | hs
   · exact(hf2 k hk).1 hs
   · exact(hf2 k hk).2.1 hs
 · rcases pushS_goes hg k hk with hk | hk
   · exact .inl (turnS_push k hk)
   · exact .inr hk
 · rcases hg2 with hg2 | hg2
   · exact(hf2 k hk).2.1 (hg2 ▸ e)
   · have:=hg2 k e;have:=(hf2 k hk).2.2.2;omega
theorem ask_44:Ask [44]:=.inr (by decide)
theorem ask_every:Ask everyL:=.inl (by decide)
theorem turnS_f{b:Nat}{va vp:Value}{ft:List Nat}:∀ k∈ft,k∈turnS b va vp ft:=by
 intro k hk
 simp[turnS,hk]
theorem setN1_row(x:Ex)(Aa:Option Addr)(ca:Nat)(B:Option Addr)(cb:Nat):(exA x Aa ca B cb).setIfInBounds 1 (.int .i64 1)=exA (setN1 x) Aa ca B cb:=by
 cases x
 rfl
theorem setN1_same(x:Ex):(setN1 x).arms=x.arms∧(setN1 x).subs=x.subs:=by
 cases x
 exact⟨rfl,rfl⟩
theorem EAt.set1{eb:Nat}{x:Ex}(h:Mem w b A n c all r va st vp ps sz L)(k:EAt L w eb x)(hv:vp.ownBlock≠some eb):
 EAt L (w.setCell ⟨eb,1,none⟩ (.int .i64 1)) eb (setN1 x)∧Mem (w.setCell ⟨eb,1,none⟩ (.int .i64 1)) b A n c all r va st vp ps sz L∧Tn [eb] L L w (w.setCell ⟨eb,1,none⟩ (.int .i64 1)):=by
 obtain⟨s1,s2,s3⟩:=eat_sep h k;obtain⟨hM,hT⟩:=h.other k.1 s1 s2 hv 1 (.int .i64 1);obtain⟨h0,hx,Aa,ca,h1,h2⟩:=k;refine⟨⟨h0,(setN1_same x).2.trans hx,Aa,ca,?_,?_⟩,hM,hT⟩
 · unfold RowX;rw[setCell_eq_setRow _ _ _ _ _ _ _ h1,setRow_heap _ _ _ _ _ _ h1,setN1_row]
 · rw[(setN1_same x).1];exact h2.up hT.ups (hT.up fun k hk=>by rw[List.mem_singleton.1 hk];exact h0)
theorem trn_every(x:Ex)(f eb p0 p1 p2 q0 q1 q2:Nat)(h:Mem w b A n c all r va st vp ps sz L)(hst:st.length≤900000)(he:EAt L w eb x)(hv:vp.ownBlock≠some eb)(h0:Fz L w p0 (rp b))(h1:Fz L w p1 (fnV 116 #[rp q0,rp q1,rp q2]))(hm:MadeAt L w b eb f (fnV 116 #[rp q0,rp q1,rp q2]))(h2:Fz L w p2 (rp eb)):
 Calls Tryz.prog 203 #[rp p0,rp p1,rp p2] w (Turn w b A n c all va st vp L [eb] (everyO x f ps sz r)):=by
 have hmf:∀ (fn:Fn) (first cap:Array Value) (w:World),(Instr.makeFunc fn first cap).run Tryz.prog w=.ok (.func fn first cap) w:=fun _ _ _ _=>rfl;have HM:=Hd h;have HE:=Hd he;have HV:=Hd hv;have HMD:=Hd hm;have HZ:=Hd (fzs_cons h0 (fzs_cons h1 (fzs_cons h2 (fzs_nil L w))));have c0:=h0.get;have c1:=h1.get;clear h he hv hm h0 h1 h2
 show Calls _ _ _ _ (Turn w b A n c all va st vp L [eb] (if isP everyL r=true then .ok ([.m .post,.made (setN1 x) f],ps,sz) r.tail else .ok ([.made x f],ps,sz) r))
 cases hi:isP everyL r with
 | false=>
  rw[if_neg (by simp)]
  go_enter Tryz.func203,Tryz.ntmps203
  go_wp2_with fail
  refine(rrNextA [fnV 116 #[rp q0,rp q1,rp q2]] 1 (by simp) HM.out (by omega) (fns_cons fns_nil)).mono ?_;rintro e w1 ⟨rfl,va1,L1,hM1,hT1,hg1⟩;have hT1':=((tn_alloc (L:=L) (w:=w) (.cells #[fnV 116 #[rp q0,rp q1,rp q2]] 1)).mono (S1:=pushS b va) (fun k hk=>absurd hk List.not_mem_nil)).trans hT1 HM.out.lv (fun k hk=>.inl hk);obtain⟨s1,s2,s3⟩:=eat_sep HM.out HE.out
  have hne:eb∉pushS b va:=fun hk=>by
   simp only[pushS,List.mem_cons,Option.mem_toList] at hk;exact hk.elim s1 s2
  have HE1:=Hd (HE.out.up hT1' (push_sub HM.out) hne);have HMD1:=Hd (HMD.out.up hT1' (push_sub HM.out));have HZ1:=Hd (HZ.out.up hT1' (push_sub HM.out));have HM1:=Hd hM1;have HT1:=Hd hT1'
  have HG1:=Hd (show GoesV w va va1 by
   rcases hg1 with hg1 | hg1
   · exact .inl hg1
   · exact .inr fun k hk=>by have:=hg1 k hk;simp at this;omega)
  have d0:=HZ1.out.at_ 0 p0 _ rfl;clear hM1 hT1 hT1' hg1 c0 c1 s1 s2 s3 hne HZ
  go_wp2_with fail
  refine(rrTook_no ⟨#[101,118,101,114,121]⟩ ask_every HM1.out.q hi).mono ?_;rintro e w2 ⟨rfl,hq2,hb2⟩;obtain⟨hM2,hT2⟩:=HM1.out.move hq2 hb2;have HM2:=Hd hM2;have HT2:=Hd hT2;clear hq2 hb2 hM2 hT2
  go_wp2_with fail
  go_end0
  obtain⟨s1,s2,s3⟩:=eat_sep HM1.out HE1.out;have hE2:=HE1.out.up HT2.out (b_sub HM1.out) (by simpa using s1);refine⟨rfl,va1,vp,L1,[fnV 116 #[rp q0,rp q1,rp q2]],[eb],HM2.out,⟨[eb],[],rfl,⟨eb,rfl,hE2,HMD1.out.up HT2.out (b_sub HM1.out)⟩,rfl⟩,(HT1.out.mono turnS_push).trans HT2.out HM.out.lv (fun k hk=>.inl (turnS_b k hk)),one_nodup _,fun k hk=>.inl hk,fun k hk=>?_,HG1.out,GoesV.refl _ _⟩;rw[List.mem_singleton.1 hk];exact⟨s1,s2,HV.out⟩
 | true=>
  rw[if_pos rfl]
  go_enter Tryz.func203,Tryz.ntmps203
  go_wp2_with fail
  refine(rrNextA [fnV 116 #[rp q0,rp q1,rp q2]] 1 (by simp) HM.out (by omega) (fns_cons fns_nil)).mono ?_;rintro e w1 ⟨rfl,va1,L1,hM1,hT1,hg1⟩;have hT1':=((tn_alloc (L:=L) (w:=w) (.cells #[fnV 116 #[rp q0,rp q1,rp q2]] 1)).mono (S1:=pushS b va) (fun k hk=>absurd hk List.not_mem_nil)).trans hT1 HM.out.lv (fun k hk=>.inl hk);obtain⟨s1,s2,s3⟩:=eat_sep HM.out HE.out
  have hne:eb∉pushS b va:=fun hk=>by
   simp only[pushS,List.mem_cons,Option.mem_toList] at hk;exact hk.elim s1 s2
  have HE1:=Hd (HE.out.up hT1' (push_sub HM.out) hne);have HMD1:=Hd (HMD.out.up hT1' (push_sub HM.out));have HZ1:=Hd (HZ.out.up hT1' (push_sub HM.out));have HM1:=Hd hM1;have HT1:=Hd hT1'
  have HG1:=Hd (show GoesV w va va1 by
   rcases hg1 with hg1 | hg1
   · exact .inl hg1
   · exact .inr fun k hk=>by have:=hg1 k hk;simp at this;omega)
  have d0:=HZ1.out.at_ 0 p0 _ rfl;clear hM1 hT1 hT1' hg1 c0 c1 s1 s2 s3 hne HZ
  go_wp2_with fail
  refine(rrTook_yes ⟨#[101,118,101,114,121]⟩ ask_every HM1.out.q hi).mono ?_;rintro e w2 ⟨rfl,hq2,hb2⟩;obtain⟨hM2,hT2⟩:=HM1.out.move hq2 hb2;obtain⟨s1,s2,s3⟩:=eat_sep HM1.out HE1.out;have hE2:=HE1.out.up hT2 (b_sub HM1.out) (by simpa using s1);obtain⟨hE3,hM3,hT3⟩:=hE2.set1 hM2 HV.out;have hSe:∀ k∈[eb],k∈L1:=fun k hk=>by rw[List.mem_singleton.1 hk];exact hE2.1
  have HZ2:=Hd (HZ1.out.up hT2 (b_sub HM1.out));have HZ3:=Hd (HZ2.out.up hT3 hSe);have HMD3:=Hd ((HMD1.out.up hT2 (b_sub HM1.out)).up hT3 hSe);have HE3:=Hd hE3;have HM3:=Hd hM3;have HT3:=Hd (((HT1.out.mono turnS_push).trans hT2 HM.out.lv (fun k hk=>.inl (turnS_b (ft:=[eb]) (vp:=vp) k hk))).trans hT3 HM.out.lv (fun k hk=>.inl (turnS_f k hk)));have d2:=HZ2.out.at_ 2 p2 _ rfl;have e0:=HZ3.out.at_ 0 p0 _ rfl;obtain⟨_,_,Ae,ce,hr2,_⟩:=hE2;have k1:=hr2.cells.2.1;have f1:=hr2.fz 1;clear hq2 hb2 hM2 hT2 hE3 hM3 hT3 hSe HMD1 HE1 HM1 hr2 d0
  go_upto_region 3 with(fail)
  generalize w2.setCell _ _=w3 at *
  go_wp2_with fail
  refine(rrNextA [lvV b .post] 1 (by simp) HM3.out (by simp;omega) (fns_cons fns_nil)).mono ?_;rintro e w4 ⟨rfl,hx⟩;have HX:=Hd hx;clear hx
  go_wp2_with fail
  go_end0
  obtain⟨t1,t2,t3⟩:=eat_sep HM3.out HE3.out;have hal:=(tn_alloc (L:=L1) (w:=w3) (.cells #[lvV b .post] 1));refine turn_more (v0:=[fnV 116 #[rp q0,rp q1,rp q2]]) (fts:=[eb]) HM.out (HT3.out.trans hal HM.out.lv (fun k hk=>absurd hk List.not_mem_nil)) (HM3.out.alloc _) HG1.out ?_ (one_nodup _) (fun k hk=>.inl hk) (fun k hk=>?_) ⟨rfl,HX.out⟩
  · exact⟨[],[eb],rfl,⟨rfl,rfl⟩,[eb],[],rfl,⟨eb,rfl,HE3.out.up hal nil_sub List.not_mem_nil,HMD3.out.up hal nil_sub⟩,rfl⟩
  · rw[List.mem_singleton.1 hk];exact⟨t1,t2,HV.out,by simp;omega⟩
end
end
section
open Go.RowKit Go.Sort
section
variable {w w1 w2 w':World}{b:Nat}{A:Option Addr}{n c:Nat}{all r r' r2:List Tk}{va va1 vp:Value}{st:List Value}{ps:List Ex}{sz:Nat}{L L1 L2 S ft:List Nat}
theorem turn_made_ret{x:Ex}{f:Nat}{e:Ending}(h:Turn w b A n c all va st vp L ft (madeO x f ps sz r) e w'):e=.returned (.tuple #[]):=h.1
theorem turn_every_ret{x:Ex}{f:Nat}{e:Ending}(h:Turn w b A n c all va st vp L ft (everyO x f ps sz r) e w'):e=.returned (.tuple #[]):=by
 unfold everyO at h
 split at h
 · exact h.1
 · exact h.1
theorem trn_list_made(shut:List UInt8)(x:Ex)(f eb p0 p1 p2 p3 q0 q1 q2:Nat)(hs:Ask shut)(h:Mem w b A n c all r va st vp ps sz L)(hst:st.length≤900000)(hf:f≤ps.length)(hps:ps.length≤1000000)(hsz:sz≤1000000)(he:EAt L w eb x)(hv:vp.ownBlock≠some eb)(h0:Fz L w p0 (rp b))(h1:Fz L w p1 (fnV 198 #[rp p0,rp p1,rp p2,rp p3]))(h2:Fz L w p2 (.string (ofL shut)))(h3:Fz L w p3 (fnV 116 #[rp q0,rp q1,rp q2]))(k0:Fz L w q0 (rp b))(k1:Fz L w q1 (rp eb))(k2:Fz L w q2 (.int .i64 (f:Int))):
 Calls Tryz.prog 198 #[rp p0,rp p1,rp p2,rp p3] w (Turn w b A n c all va st vp L [eb] (stepF (.list shut false x f) ps sz r)):=by
 have hmf:∀ (fn:Fn) (first cap:Array Value) (w:World),(Instr.makeFunc fn first cap).run Tryz.prog w=.ok (.func fn first cap) w:=fun _ _ _ _=>rfl;have HM:=Hd h;have HE:=Hd he;have HV:=Hd hv;have HF:=Hd (show FrAt L w b (.list shut false x f) (fnV 198 #[rp p0,rp p1,rp p2,rp p3]) [eb] from⟨eb,rfl,he,hs,p0,p1,p2,p3,_,rfl,h0,h1,h2,h3,(show ThenAt L w false b eb f (fnV 116 #[rp q0,rp q1,rp q2]) from⟨q0,q1,q2,rfl,k0,k1,k2⟩)⟩);have HK:=Hd (fzs_cons k0 (fzs_cons k1 (fzs_cons k2 (fzs_nil L w))));have HZ:=Hd (fzs_cons h0 (fzs_cons h1 (fzs_cons h2 (fzs_cons h3 (fzs_nil L w)))));have c0:=h0.get;have HTK:=Hd fun w1 (hq:QSt w1 b A n c all r va vp sz)=>(show Calls Tryz.prog 59 #[rp b,.string (ofL shut)] w1 (QPost w1 b A n c all va vp sz (needP shut r) fun _ e=>e=.returned (.tuple #[])) from rrTake (ofL shut) hs hq);clear h he hv h0 h1 h2 h3 hs k0 k1 k2
 show Calls _ _ _ _ (Turn w b A n c all va st vp L [eb] (if isP [44] r=true then .ok ([.m .arrow,.list shut false x f],ps,sz) r.tail else(needP shut r).bind fun _ r=>thenO false x f ps sz r))
 generalize ofL shut=ss at *
 cases hi:isP [44] r with
 | true=>
  rw[if_pos rfl];have HT:=Hd (rrTook_yes ⟨#[44]⟩ ask_44 HM.out.q hi);clear HTK hi
  go_enter Tryz.func198,Tryz.ntmps198
  go_wp2_with fail
  refine HT.out.mono ?_;rintro e w2 ⟨rfl,hq2,hb2⟩;obtain⟨hM2,hT2⟩:=HM.out.move hq2 hb2;have HM2:=Hd hM2;have HT2:=Hd hT2;have HZ2:=Hd (HZ.out.up hT2 (b_sub HM.out));have d0:=HZ2.out.at_ 0 p0 _ rfl;have d1:=HZ2.out.at_ 1 p1 _ rfl;clear hq2 hb2 hM2 hT2 c0 HZ
  go_wp2_with fail
  refine(rrNextA [lvV b .arrow,fnV 198 #[rp p0,rp p1,rp p2,rp p3]] 1 (by simp) HM2.out (by omega) (fns_cons (fns_cons fns_nil))).mono ?_;rintro e w4 ⟨rfl,hx⟩;have HX:=Hd hx;clear hx
  go_wp2_with fail
  go_end0
  obtain⟨s1,s2,s3⟩:=eat_sep HM.out HE.out;have hal:=(tn_alloc (L:=L) (w:=w2) (.cells #[lvV b .arrow,fnV 198 #[rp p0,rp p1,rp p2,rp p3]] 1));have hF2:=(HF.out.up HT2.out (b_sub HM.out) (fun k hk=>by rw[List.mem_singleton.1 hk];simpa using s1)).up hal nil_sub (fun k hk=>List.not_mem_nil);refine turn_next (new:=[.m .arrow,.list shut false x f]) (vt:=[lvV b .arrow,fnV 198 #[rp p0,rp p1,rp p2,rp p3]]) (fts:=[eb]) HM.out ((HT2.out.mono turnS_b).trans hal HM.out.lv (fun k hk=>absurd hk List.not_mem_nil)) (HM2.out.alloc _) (GoesV.refl _ _) ⟨[],[eb],rfl,⟨rfl,rfl⟩,[eb],[],rfl,hF2,rfl⟩ (one_nodup _) (fun k hk=>.inl hk) (fun k hk=>?_) ⟨rfl,HX.out⟩;rw[List.mem_singleton.1 hk];exact⟨s1,s2,HV.out,by have:=HT2.out.size;simp;omega⟩
 | false=>
  rw[if_neg (by simp)];have HT:=Hd (rrTook_no ⟨#[44]⟩ ask_44 HM.out.q hi);clear hi
  cases hn:needP shut r with
  | bad q=>
   have HN:=Hd fun w1 hq=>QPost.bad_ (HTK.out w1 hq) hn;clear HTK hn
   go_enter Tryz.func198,Tryz.ntmps198
   go_wp2_with fail
   refine HT.out.mono ?_;rintro e w1 ⟨rfl,hq1,hb1⟩;have HN1:=Hd (HN.out w1 hq1);have HB1:=Hd hb1;obtain⟨hM1,hT1⟩:=HM.out.move hq1 hb1;have HZ1:=Hd (HZ.out.up hT1 (b_sub HM.out));have d0:=HZ1.out.at_ 0 p0 _ rfl;have d2:=HZ1.out.at_ 2 p2 _ rfl;clear hq1 hb1 hM1 hT1 c0 HZ HN
   go_wp2_with fail
   refine HN1.out.mono ?_;rintro e w2 ⟨rfl,hq2,hb2⟩;have HQ2:=Hd hq2;have HB2:=Hd (kb_trans HB1.out hb2);clear hq2 hb2
   go_wp2_with fail
   exact⟨rfl,turn_bad HM.out HQ2.out HB2.out⟩
  | ok u q=>
   have HN:=Hd fun w1 hq=>QPost.ok_ (HTK.out w1 hq) hn;clear HTK hn
   go_enter Tryz.func198,Tryz.ntmps198
   go_wp2_with fail
   refine HT.out.mono ?_;rintro e w1 ⟨rfl,hq1,hb1⟩;have HN1:=Hd (HN.out w1 hq1);have HB1:=Hd hb1;obtain⟨hM1,hT1⟩:=HM.out.move hq1 hb1;have HZ1:=Hd (HZ.out.up hT1 (b_sub HM.out));have d0:=HZ1.out.at_ 0 p0 _ rfl;have d2:=HZ1.out.at_ 2 p2 _ rfl;clear hq1 hb1 hM1 hT1 c0 HN HZ1
   go_wp2_with fail
   refine HN1.out.mono ?_;rintro e w2 ⟨rfl,hq2,hb2⟩;obtain⟨hM2,hT2⟩:=HM.out.move hq2 (kb_trans HB1.out hb2);obtain⟨s1,s2,s3⟩:=eat_sep HM.out HE.out;have HM2:=Hd hM2;have HT2:=Hd hT2;have HE2:=Hd (HE.out.up hT2 (b_sub HM.out) (by simpa using s1));have HK2:=Hd (HK.out.up hT2 (b_sub HM.out));have HZ2:=Hd (HZ.out.up hT2 (b_sub HM.out));have e3:=HZ2.out.at_ 3 p3 _ rfl;clear hq2 hb2 hM2 hT2 HZ HB1 d0 d2
   go_wp2_with fail
   refine(trn_made x f eb q0 q1 q2 HM2.out hf hps hsz HE2.out HV.out (HK2.out (q0,rp b) (by simp)) (HK2.out (q1,rp eb) (by simp)) (HK2.out (q2,.int .i64 (f:Int)) (by simp))).mono ?_;intro e w3 hx;obtain rfl:=turn_made_ret hx;have HX:=Hd hx;clear hx
   go_wp2_with fail
   go_end0
   exact turn_into (o:=madeO x f ps sz q) HM.out (HT2.out.mono turnS_b) (fun k hk=>.inl hk) HX.out
theorem trn_list_every(shut:List UInt8)(x:Ex)(f eb p0 p1 p2 p3 q0 q1 q2 a0 a1 a2:Nat)(hs:Ask shut)(h:Mem w b A n c all r va st vp ps sz L)(hst:st.length≤900000)(hf:f≤ps.length)(hps:ps.length≤1000000)(hsz:sz≤1000000)(he:EAt L w eb x)(hv:vp.ownBlock≠some eb)(h0:Fz L w p0 (rp b))(h1:Fz L w p1 (fnV 198 #[rp p0,rp p1,rp p2,rp p3]))(h2:Fz L w p2 (.string (ofL shut)))(h3:Fz L w p3 (fnV 203 #[rp a0,rp a1,rp a2]))(k0:Fz L w a0 (rp b))(k1:Fz L w a1 (fnV 116 #[rp q0,rp q1,rp q2]))(k2:Fz L w a2 (rp eb))(hm:MadeAt L w b eb f (fnV 116 #[rp q0,rp q1,rp q2])):
 Calls Tryz.prog 198 #[rp p0,rp p1,rp p2,rp p3] w (Turn w b A n c all va st vp L [eb] (stepF (.list shut true x f) ps sz r)):=by
 have hmf:∀ (fn:Fn) (first cap:Array Value) (w:World),(Instr.makeFunc fn first cap).run Tryz.prog w=.ok (.func fn first cap) w:=fun _ _ _ _=>rfl;have HM:=Hd h;have HE:=Hd he;have HV:=Hd hv;have HF:=Hd (show FrAt L w b (.list shut true x f) (fnV 198 #[rp p0,rp p1,rp p2,rp p3]) [eb] from⟨eb,rfl,he,hs,p0,p1,p2,p3,_,rfl,h0,h1,h2,h3,(show ThenAt L w true b eb f (fnV 203 #[rp a0,rp a1,rp a2]) from⟨a0,a1,a2,_,rfl,k0,k1,hm,k2⟩)⟩);have HK:=Hd (show Fzs L w [(a0,rp b),(a1,fnV 116 #[rp q0,rp q1,rp q2]),(a2,rp eb)]∧MadeAt L w b eb f (fnV 116 #[rp q0,rp q1,rp q2]) from⟨fzs_cons k0 (fzs_cons k1 (fzs_cons k2 (fzs_nil L w))),hm⟩);have HZ:=Hd (fzs_cons h0 (fzs_cons h1 (fzs_cons h2 (fzs_cons h3 (fzs_nil L w)))));have c0:=h0.get;have HTK:=Hd fun w1 (hq:QSt w1 b A n c all r va vp sz)=>(show Calls Tryz.prog 59 #[rp b,.string (ofL shut)] w1 (QPost w1 b A n c all va vp sz (needP shut r) fun _ e=>e=.returned (.tuple #[])) from rrTake (ofL shut) hs hq);clear h he hv h0 h1 h2 h3 hs k0 k1 k2 hm
 show Calls _ _ _ _ (Turn w b A n c all va st vp L [eb] (if isP [44] r=true then .ok ([.m .arrow,.list shut true x f],ps,sz) r.tail else(needP shut r).bind fun _ r=>thenO true x f ps sz r))
 generalize ofL shut=ss at *
 cases hi:isP [44] r with
 | true=>
  rw[if_pos rfl];have HT:=Hd (rrTook_yes ⟨#[44]⟩ ask_44 HM.out.q hi);clear HTK hi
  go_enter Tryz.func198,Tryz.ntmps198
  go_wp2_with fail
  refine HT.out.mono ?_;rintro e w2 ⟨rfl,hq2,hb2⟩;obtain⟨hM2,hT2⟩:=HM.out.move hq2 hb2;have HM2:=Hd hM2;have HT2:=Hd hT2;have HZ2:=Hd (HZ.out.up hT2 (b_sub HM.out));have d0:=HZ2.out.at_ 0 p0 _ rfl;have d1:=HZ2.out.at_ 1 p1 _ rfl;clear hq2 hb2 hM2 hT2 c0 HZ
  go_wp2_with fail
  refine(rrNextA [lvV b .arrow,fnV 198 #[rp p0,rp p1,rp p2,rp p3]] 1 (by simp) HM2.out (by omega) (fns_cons (fns_cons fns_nil))).mono ?_;rintro e w4 ⟨rfl,hx⟩;have HX:=Hd hx;clear hx
  go_wp2_with fail
  go_end0
  obtain⟨s1,s2,s3⟩:=eat_sep HM.out HE.out;have hal:=(tn_alloc (L:=L) (w:=w2) (.cells #[lvV b .arrow,fnV 198 #[rp p0,rp p1,rp p2,rp p3]] 1));have hF2:=(HF.out.up HT2.out (b_sub HM.out) (fun k hk=>by rw[List.mem_singleton.1 hk];simpa using s1)).up hal nil_sub (fun k hk=>List.not_mem_nil);refine turn_next (new:=[.m .arrow,.list shut true x f]) (vt:=[lvV b .arrow,fnV 198 #[rp p0,rp p1,rp p2,rp p3]]) (fts:=[eb]) HM.out ((HT2.out.mono turnS_b).trans hal HM.out.lv (fun k hk=>absurd hk List.not_mem_nil)) (HM2.out.alloc _) (GoesV.refl _ _) ⟨[],[eb],rfl,⟨rfl,rfl⟩,[eb],[],rfl,hF2,rfl⟩ (one_nodup _) (fun k hk=>.inl hk) (fun k hk=>?_) ⟨rfl,HX.out⟩;rw[List.mem_singleton.1 hk];exact⟨s1,s2,HV.out,by have:=HT2.out.size;simp;omega⟩
 | false=>
  rw[if_neg (by simp)];have HT:=Hd (rrTook_no ⟨#[44]⟩ ask_44 HM.out.q hi);clear hi
  cases hn:needP shut r with
  | bad q=>
   have HN:=Hd fun w1 hq=>QPost.bad_ (HTK.out w1 hq) hn;clear HTK hn
   go_enter Tryz.func198,Tryz.ntmps198
   go_wp2_with fail
   refine HT.out.mono ?_;rintro e w1 ⟨rfl,hq1,hb1⟩;have HN1:=Hd (HN.out w1 hq1);have HB1:=Hd hb1;obtain⟨hM1,hT1⟩:=HM.out.move hq1 hb1;have HZ1:=Hd (HZ.out.up hT1 (b_sub HM.out));have d0:=HZ1.out.at_ 0 p0 _ rfl;have d2:=HZ1.out.at_ 2 p2 _ rfl;clear hq1 hb1 hM1 hT1 c0 HZ HN
   go_wp2_with fail
   refine HN1.out.mono ?_;rintro e w2 ⟨rfl,hq2,hb2⟩;have HQ2:=Hd hq2;have HB2:=Hd (kb_trans HB1.out hb2);clear hq2 hb2
   go_wp2_with fail
   exact⟨rfl,turn_bad HM.out HQ2.out HB2.out⟩
  | ok u q=>
   have HN:=Hd fun w1 hq=>QPost.ok_ (HTK.out w1 hq) hn;clear HTK hn
   go_enter Tryz.func198,Tryz.ntmps198
   go_wp2_with fail
   refine HT.out.mono ?_;rintro e w1 ⟨rfl,hq1,hb1⟩;have HN1:=Hd (HN.out w1 hq1);have HB1:=Hd hb1;obtain⟨hM1,hT1⟩:=HM.out.move hq1 hb1;have HZ1:=Hd (HZ.out.up hT1 (b_sub HM.out));have d0:=HZ1.out.at_ 0 p0 _ rfl;have d2:=HZ1.out.at_ 2 p2 _ rfl;clear hq1 hb1 hM1 hT1 c0 HN HZ1
   go_wp2_with fail
   refine HN1.out.mono ?_;rintro e w2 ⟨rfl,hq2,hb2⟩;obtain⟨hM2,hT2⟩:=HM.out.move hq2 (kb_trans HB1.out hb2);obtain⟨s1,s2,s3⟩:=eat_sep HM.out HE.out;have HM2:=Hd hM2;have HT2:=Hd hT2;have HE2:=Hd (HE.out.up hT2 (b_sub HM.out) (by simpa using s1));have HK2:=Hd (show Fzs L w2 [(a0,rp b),(a1,fnV 116 #[rp q0,rp q1,rp q2]),(a2,rp eb)]∧MadeAt L w2 b eb f (fnV 116 #[rp q0,rp q1,rp q2]) from⟨HK.out.1.up hT2 (b_sub HM.out),HK.out.2.up hT2 (b_sub HM.out)⟩);have HZ2:=Hd (HZ.out.up hT2 (b_sub HM.out));have e3:=HZ2.out.at_ 3 p3 _ rfl;clear hq2 hb2 hM2 hT2 HZ HB1 d0 d2
   go_wp2_with fail
   refine(trn_every x f eb a0 a1 a2 q0 q1 q2 HM2.out (by omega) HE2.out HV.out (HK2.out.1 (a0,rp b) (by simp)) (HK2.out.1 (a1,fnV 116 #[rp q0,rp q1,rp q2]) (by simp)) HK2.out.2 (HK2.out.1 (a2,rp eb) (by simp))).mono ?_;intro e w3 hx;obtain rfl:=turn_every_ret hx;have HX:=Hd hx;clear hx
   go_wp2_with fail
   go_end0
   exact turn_into (o:=everyO x f ps sz q) HM.out (HT2.out.mono turnS_b) (fun k hk=>.inl hk) HX.out
end
end
end Go.Proofs.YtokiaaapgkdpmaaGreatDoor
