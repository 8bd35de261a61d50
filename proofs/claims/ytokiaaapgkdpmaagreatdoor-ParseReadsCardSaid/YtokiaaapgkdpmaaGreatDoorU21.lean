/- Parts: PaF, PaG. Conditions: each theorem's own. -/
import Derived.Deep.AppendLies
import Derived.Test.YtokiaaapgkdpmaaGreatDoorU20
namespace Go.Proofs.YtokiaaapgkdpmaaGreatDoor
set_option linter.unusedVariables false
set_option linter.unusedSimpArgs false
set_option maxRecDepth 100000
set_option maxHeartbeats 40000000
section
open Go.RowKit Go.Sort
section
variable {w:World}{b:Nat}{A:Option Addr}{n c:Nat}{all r:List Tk}{bad:Bool}{m:Nat}
theorem res_ex2{fn:Func}{p u:Tmp}(h:fn.results=#[.cell p 26,.tmp u])(tmps:Array Value)(w:World)(g:Nat){x:Ex}{A1:Option Addr}{ca1:Nat}{B1:Option Addr}{cb1:Nat}
 (hp:tmps.getD p undef=.pointer (some ⟨g,0,none⟩)) (hg:RowX w g x A1 ca1 B1 cb1):(results fn tmps).run Tryz.prog w=.ok (.tuple #[.agg (exA x A1 ca1 B1 cb1),tmps.getD u undef]) w:=by
 rw[results_cell_tmp h,hp];have hl:=run_loadVar_row (P:=Tryz.prog) w g 26 26 _ _ _ hg Tryz.underlying26 rfl ex_info
 simp[asAddr,Result.andThen,hl]
theorem RowX.setCell{g:Nat}{x:Ex}{A1:Option Addr}{ca1:Nat}{B1:Option Addr}{cb1:Nat}(h:RowX w g x A1 ca1 B1 cb1)(hg:g≠b)(i:Nat)(v:Value):RowX (w.setCell ⟨b,i,none⟩ v) g x A1 ca1 B1 cb1:=by
 unfold RowX World.setCell at *;simp only[Array.getElem?_modify];rw[if_neg (Ne.symm hg)];exact h
def PlainAns(w0:World)(b:Nat)(A:Option Addr)(n c:Nat)(all r:List Tk)(e:Ending)(w':World):Prop:=
 Below w0.heap.size (bl b w0) (bl b w')∧∃ (x:Ex) (bo:Bool) (r1:List Tk),e=.returned (.tuple #[.agg (exA x none 0 none 0),.bool bo])∧(∀ V,rdX V x none none)∧PSt w' b A n c all r1 false∧(bo=true∧plainP r=some (x,r1)∨bo=false∧plainP r=none∧r1=r)
theorem ts_yes{ts:ByteArray}{l L:List UInt8}(h:ofB l=ts)(e:(ts.toList==L)=true):l=L:=by
 rw[Lib.toList_data,← h] at e;have e1:(ofB l).data.toList=L:=by simpa using e
 exact e1
theorem ts_not{ts:ByteArray}{l L M:List UInt8}(h:ofB l=ts)(e:(ts.toList==L)=false)(e2:(ts.toList==M)=false):l≠L∧l≠M:=by
 rw[Lib.toList_data,← h] at e e2;have k1:(ofB l).data.toList≠L:=by simpa using e
 have k2:(ofB l).data.toList≠M:=by simpa using e2
 exact⟨k1,k2⟩
theorem plain_none{t:Tk}{r':List Tk}{k:Int}(h:t.k=k)(h3:¬ k=3)(h2:¬ k=2)(h4:¬ k=4)(h1:¬ k=1∨t.s≠trueL∧t.s≠falseL):plainP (t::r')=none:=by
 subst h;rcases h1 with h1 | ⟨h1,h5⟩
 · simp[plainP,h3,h2,h4,h1]
 · simp[plainP,h3,h2,h4,h1,h5]
theorem plain_true{t:Tk}{r':List Tk}{k:Int}(h:t.k=k)(h1:k=1)(hs:t.s=trueL):plainP (t::r')=some (Ex.mk 2 1 ByteArray.empty 0 [] [],r'):=by
 subst h
 simp[plainP,h1,hs]
theorem plain_false{t:Tk}{r':List Tk}{k:Int}(h:t.k=k)(h1:k=1)(hs:t.s=falseL):plainP (t::r')=some (Ex.mk 2 0 ByteArray.empty 0 [] [],r'):=by
 subst h;have:falseL≠trueL:=by decide
 simp[plainP,h1,hs,this]
theorem prPlain(h:PSt w b A n c all r false):Calls Tryz.prog 191 #[.pointer (some ⟨b,0,none⟩)] w (PlainAns w b A n c all r):=by
 have hA:=h.home;have hlt:=h.lt;obtain⟨t,r',rfl⟩:=h.fin.cons_
 go_enter Tryz.func191,Tryz.ntmps191
 go_upto_region 1 with(fail)
 generalize hw1:w.alloc _=w1;obtain⟨hP1,hR1,hB1,hgb,hg1⟩:=res_box h hw1;have HP1:=Hd hP1;have HR1:=Hd hR1;have HB1:=Hd hB1;clear hP1 hR1 hB1 hw1;obtain⟨t2,r2,b0,off,i,j,e2,HTF⟩:=HP1.out.tokF;injection e2 with e2 e3;subst e2 e3;have HT:=Hd HTF;obtain rfl:=HTF.a;have q0:=HTF.q0;have q1:=HTF.q1;have hbl:=HTF.lb;have hb0:=HTF.l0;have hmx:=HTF.mx;have hi:=HTF.lt;have t0:=HTF.t0;have t1:=HTF.t1;have t2:=HTF.t2;have t3:=HTF.t3;have hi0:(0:Int)≤(i:Int):=by omega
 have hi1:(i:Int)<(n:Int):=by omega
 clear HTF;generalize hts:ofB t.s=ts at *;have HTS:=Hd hts;clear hts;generalize htk:t.k=k at *;generalize htn:t.n=tn at *;have HTK:=Hd (And.intro htk htn);clear htk htn;generalize t.a=ta at *
 go_region
 generalize hw2:(w1.alloc _).drew=w2;obtain⟨hb2,hg2,u0,u1,u2⟩:=tok_box hw2;have HP2:=Hd (HT.out.st w2 hb2);have HB2:=Hd (kb_trans HB1.out (bl_of hb2));have HR2:=Hd (HR1.out.kb hgb (bl_of hb2));clear hw2 hb2 q0 q1 t0 t1 t2 t3
 go_upto_region 4 with(fail)
 generalize hw3:w2.alloc _=w3;obtain⟨hP,hR,hB,hgb3,hg3,hK⟩:=ex_box (x:=zX) (A1:=none) (ca1:=0) (B1:=none) (cb1:=0) HP2.out hw3;have HP3:=Hd hP;have HE3:=Hd hR;have HB3:=Hd (kb_trans HB2.out hB);have HR3:=Hd (HR2.out.kb hgb hB);have v0:=(hK 0).2 _ _ (Nat.zero_le _) u0;have v1:=(hK 0).2 _ _ (Nat.zero_le _) u1;have v2:=(hK 0).2 _ _ (Nat.zero_le _) u2;have hs2:=kb_size HB2.out;have HX:=Hd (show w.heap.size≤w2.heap.size∧w2.heap.size≠b∧w.heap.size≠w2.heap.size∧w1.heap.size≠w2.heap.size from⟨by omega,hgb3,by omega,by omega⟩);clear hP hR hB hw3 hK u0 u1 u2;generalize hhb:w2.heap.size=hb at *
 cases h3:(k==3) with
 | true=>
  have hk:k=3:=by simpa using h3
  have H4:=Hd (show ∀ w4,w3.setRow hb (exA (.mk 1 tn ByteArray.empty 0 [] []) none 0 none 0)=w4→RowX w4 hb (.mk 1 tn ByteArray.empty 0 [] []) none 0 none 0∧RowX w4 w.heap.size zX none 0 none 0∧PSt w4 b (some ⟨b0,off,none⟩) n c all (t::r') false∧Below w.heap.size (bl b w) (bl b w4) from fun w4 h4=>by
   subst h4;exact⟨HE3.out.set,HR3.out.other HX.out.2.2.1 _,HP3.out.setRow HX.out.2.1 (fun b1 o1 e1=>by have:=hA b1 o1 e1;have:=HX.out.1;omega) _,kb_setRow HB3.out HX.out.2.1 HX.out.1 _⟩)
  go_upto_region 14 with(refine wpList_store_row rfl _ _ _ rfl (hb) _ rfl rfl _ _ (HE3.out) ex_info rfl (by simp[exA,Value.oneCell']) ?_)
  generalize hw4:w3.setRow hb _=w4;obtain⟨hE,hR,hP,hB⟩:=H4.out w4 hw4;have HE4:=Hd hE;have HR4:=Hd hR;have HB4:=Hd hB;obtain⟨t4,r4,b4,off4,i4,j4,e2,HTF⟩:=hP.tokF;injection e2 with e2 e3;subst e2 e3;have q1:=HTF.q1;have f1:=HTF.fz w4 (Below.refl _ _) 1;have hadd:=HTF.add;have hbl4:=HTF.lb;have hmx4:=HTF.mx;have hlt4:=HTF.lt;have hw:IntKind.i64.wrap ((i4:Int)+1)=j4:=by rw[hadd,IntKind.wrap_i64];have:=HTF.jn;omega
  have hwj:wrap64 j4=j4:=by have:=HTF.jn;unfold wrap64;omega
  have HN4:=Hd (HTF.nx w4 (Below.refl _ _) (by rw[HTK.out.1];omega));clear hE hR hP hB hw4 HTF H4
  go_upto_region 15 with(fail)
  (try rw[hwj])
  generalize hw5:w4.setCell _ _=w5
  have hx5:PSt w5 b (some ⟨b0,off,none⟩) n c all r' false∧RowX w5 hb (.mk 1 tn ByteArray.empty 0 [] []) none 0 none 0∧RowX w5 w.heap.size zX none 0 none 0∧Below w.heap.size (bl b w) (bl b w5):=by
   subst hw5;exact⟨HN4.out,HE4.out.setCell HX.out.2.1 _ _,HR4.out.setCell hgb _ _,by rw[bl_set];exact HB4.out⟩
  have HX5:=Hd hx5;clear hx5 hw5 q1 f1
  go_wp2_with (first | (refine wpList_load_row rfl _ _ rfl (hb) rfl _ _ _ _ (HX5.out.2.1) Tryz.underlying26 rfl ex_info ?_) | (refine wpList_store_row rfl _ _ _ rfl (w.heap.size) _ rfl rfl _ _ (HX5.out.2.2.1) ex_info rfl (by simp[exA,Value.oneCell']) ?_))
  obtain⟨f1,f2,f3⟩:=(fin_same (x:=.mk 1 tn ByteArray.empty 0 [] []) (A1:=none) (ca1:=0) (B1:=none) (cb1:=0) HX5.out.2.2.2 HX5.out.1 HX5.out.2.2.1 hgb (Nat.le_refl _) hA);exact bodyPost_ret (res_ex2 (p:=2) (u:=3) rfl _ _ (w.heap.size) rfl f3) rfl ⟨f1,_,true,_,rfl,fun V=>rdX_nil V _ _ _ _,f2,.inl ⟨rfl,by simp[plainP,HTK.out.1,HTK.out.2,hk]⟩⟩
 | false=>
  cases h2:(k==2) with
  | true=>
   have hk:k=2:=by simpa using h2
   have H4:=Hd (show ∀ w4,w3.setRow hb (exA (.mk 4 0 ts 0 [] []) none 0 none 0)=w4→RowX w4 hb (.mk 4 0 ts 0 [] []) none 0 none 0∧RowX w4 w.heap.size zX none 0 none 0∧PSt w4 b (some ⟨b0,off,none⟩) n c all (t::r') false∧Below w.heap.size (bl b w) (bl b w4) from fun w4 h4=>by
    subst h4;exact⟨HE3.out.set,HR3.out.other HX.out.2.2.1 _,HP3.out.setRow HX.out.2.1 (fun b1 o1 e1=>by have:=hA b1 o1 e1;have:=HX.out.1;omega) _,kb_setRow HB3.out HX.out.2.1 HX.out.1 _⟩)
   go_upto_region 14 with(refine wpList_store_row rfl _ _ _ rfl (hb) _ rfl rfl _ _ (HE3.out) ex_info rfl (by simp[exA,Value.oneCell']) ?_)
   generalize hw4:w3.setRow hb _=w4;obtain⟨hE,hR,hP,hB⟩:=H4.out w4 hw4;have HE4:=Hd hE;have HR4:=Hd hR;have HB4:=Hd hB;obtain⟨t4,r4,b4,off4,i4,j4,e2,HTF⟩:=hP.tokF;injection e2 with e2 e3;subst e2 e3;have q1:=HTF.q1;have f1:=HTF.fz w4 (Below.refl _ _) 1;have hadd:=HTF.add;have hbl4:=HTF.lb;have hmx4:=HTF.mx;have hlt4:=HTF.lt;have hw:IntKind.i64.wrap ((i4:Int)+1)=j4:=by rw[hadd,IntKind.wrap_i64];have:=HTF.jn;omega
   have hwj:wrap64 j4=j4:=by have:=HTF.jn;unfold wrap64;omega
   have HN4:=Hd (HTF.nx w4 (Below.refl _ _) (by rw[HTK.out.1];omega));clear hE hR hP hB hw4 HTF H4
   go_upto_region 15 with(fail)
   (try rw[hwj])
   generalize hw5:w4.setCell _ _=w5
   have hx5:PSt w5 b (some ⟨b0,off,none⟩) n c all r' false∧RowX w5 hb (.mk 4 0 ts 0 [] []) none 0 none 0∧RowX w5 w.heap.size zX none 0 none 0∧Below w.heap.size (bl b w) (bl b w5):=by
    subst hw5;exact⟨HN4.out,HE4.out.setCell HX.out.2.1 _ _,HR4.out.setCell hgb _ _,by rw[bl_set];exact HB4.out⟩
   have HX5:=Hd hx5;clear hx5 hw5 q1 f1
   go_wp2_with (first | (refine wpList_load_row rfl _ _ rfl (hb) rfl _ _ _ _ (HX5.out.2.1) Tryz.underlying26 rfl ex_info ?_) | (refine wpList_store_row rfl _ _ _ rfl (w.heap.size) _ rfl rfl _ _ (HX5.out.2.2.1) ex_info rfl (by simp[exA,Value.oneCell']) ?_))
   obtain⟨f1,f2,f3⟩:=(fin_same (x:=.mk 4 0 ts 0 [] []) (A1:=none) (ca1:=0) (B1:=none) (cb1:=0) HX5.out.2.2.2 HX5.out.1 HX5.out.2.2.1 hgb (Nat.le_refl _) hA);exact bodyPost_ret (res_ex2 (p:=2) (u:=3) rfl _ _ (w.heap.size) rfl f3) rfl ⟨f1,_,true,_,rfl,fun V=>rdX_nil V _ _ _ _,f2,.inl ⟨rfl,by simp[plainP,HTK.out.1,HTS.out,hk]⟩⟩
  | false=>
   cases h4:(k==4) with
   | true=>
    have hk:k=4:=by simpa using h4
    have H4:=Hd (show ∀ w4,w3.setRow hb (exA (.mk 17 0 ts 0 [] []) none 0 none 0)=w4→RowX w4 hb (.mk 17 0 ts 0 [] []) none 0 none 0∧RowX w4 w.heap.size zX none 0 none 0∧PSt w4 b (some ⟨b0,off,none⟩) n c all (t::r') false∧Below w.heap.size (bl b w) (bl b w4) from fun w4 h4=>by
     subst h4;exact⟨HE3.out.set,HR3.out.other HX.out.2.2.1 _,HP3.out.setRow HX.out.2.1 (fun b1 o1 e1=>by have:=hA b1 o1 e1;have:=HX.out.1;omega) _,kb_setRow HB3.out HX.out.2.1 HX.out.1 _⟩)
    go_upto_region 14 with(refine wpList_store_row rfl _ _ _ rfl (hb) _ rfl rfl _ _ (HE3.out) ex_info rfl (by simp[exA,Value.oneCell']) ?_)
    generalize hw4:w3.setRow hb _=w4;obtain⟨hE,hR,hP,hB⟩:=H4.out w4 hw4;have HE4:=Hd hE;have HR4:=Hd hR;have HB4:=Hd hB;obtain⟨t4,r4,b4,off4,i4,j4,e2,HTF⟩:=hP.tokF;injection e2 with e2 e3;subst e2 e3;have q1:=HTF.q1;have f1:=HTF.fz w4 (Below.refl _ _) 1;have hadd:=HTF.add;have hbl4:=HTF.lb;have hmx4:=HTF.mx;have hlt4:=HTF.lt;have hw:IntKind.i64.wrap ((i4:Int)+1)=j4:=by rw[hadd,IntKind.wrap_i64];have:=HTF.jn;omega
    have hwj:wrap64 j4=j4:=by have:=HTF.jn;unfold wrap64;omega
    have HN4:=Hd (HTF.nx w4 (Below.refl _ _) (by rw[HTK.out.1];omega));clear hE hR hP hB hw4 HTF H4
    go_upto_region 15 with(fail)
    (try rw[hwj])
    generalize hw5:w4.setCell _ _=w5
    have hx5:PSt w5 b (some ⟨b0,off,none⟩) n c all r' false∧RowX w5 hb (.mk 17 0 ts 0 [] []) none 0 none 0∧RowX w5 w.heap.size zX none 0 none 0∧Below w.heap.size (bl b w) (bl b w5):=by
     subst hw5;exact⟨HN4.out,HE4.out.setCell HX.out.2.1 _ _,HR4.out.setCell hgb _ _,by rw[bl_set];exact HB4.out⟩
    have HX5:=Hd hx5;clear hx5 hw5 q1 f1
    go_wp2_with (first | (refine wpList_load_row rfl _ _ rfl (hb) rfl _ _ _ _ (HX5.out.2.1) Tryz.underlying26 rfl ex_info ?_) | (refine wpList_store_row rfl _ _ _ rfl (w.heap.size) _ rfl rfl _ _ (HX5.out.2.2.1) ex_info rfl (by simp[exA,Value.oneCell']) ?_))
    obtain⟨f1,f2,f3⟩:=(fin_same (x:=.mk 17 0 ts 0 [] []) (A1:=none) (ca1:=0) (B1:=none) (cb1:=0) HX5.out.2.2.2 HX5.out.1 HX5.out.2.2.1 hgb (Nat.le_refl _) hA);exact bodyPost_ret (res_ex2 (p:=2) (u:=3) rfl _ _ (w.heap.size) rfl f3) rfl ⟨f1,_,true,_,rfl,fun V=>rdX_nil V _ _ _ _,f2,.inl ⟨rfl,by simp[plainP,HTK.out.1,HTS.out,hk]⟩⟩
   | false=>
    cases h1:(k==1) with
    | false=>
     go_wp2_with (first | (refine wpList_load_row rfl _ _ rfl (hb) rfl _ _ _ _ (HE3.out) Tryz.underlying26 rfl ex_info ?_) | (refine wpList_store_row rfl _ _ _ rfl (w.heap.size) _ rfl rfl _ _ (HR3.out) ex_info rfl (by simp[exA,Value.oneCell']) ?_))
     obtain⟨f1,f2,f3⟩:=(fin_same (x:=zX) (A1:=none) (ca1:=0) (B1:=none) (cb1:=0) HB3.out HP3.out HR3.out hgb (Nat.le_refl _) hA);exact bodyPost_ret (res_ex2 (p:=2) (u:=3) rfl _ _ (w.heap.size) rfl f3) rfl ⟨f1,_,false,_,rfl,fun V=>rdX_nil V _ _ _ _,f2,.inr ⟨rfl,plain_none HTK.out.1 (by simpa using h3) (by simpa using h2) (by simpa using h4) (.inl (by simpa using h1)),rfl⟩⟩
    | true=>
     have hk:k=1:=by simpa using h1
     cases hs1:(ts.toList==[116,114,117,101]) with
     | true=>
      have H4:=Hd (show ∀ w4,w3.setRow hb (exA (.mk 2 1 ByteArray.empty 0 [] []) none 0 none 0)=w4→RowX w4 hb (.mk 2 1 ByteArray.empty 0 [] []) none 0 none 0∧RowX w4 w.heap.size zX none 0 none 0∧PSt w4 b (some ⟨b0,off,none⟩) n c all (t::r') false∧Below w.heap.size (bl b w) (bl b w4) from fun w4 h4=>by
       subst h4;exact⟨HE3.out.set,HR3.out.other HX.out.2.2.1 _,HP3.out.setRow HX.out.2.1 (fun b1 o1 e1=>by have:=hA b1 o1 e1;have:=HX.out.1;omega) _,kb_setRow HB3.out HX.out.2.1 HX.out.1 _⟩)
      go_upto_region 14 with(refine wpList_store_row rfl _ _ _ rfl (hb) _ rfl rfl _ _ (HE3.out) ex_info rfl (by simp[exA,Value.oneCell']) ?_)
      generalize hw4:w3.setRow hb _=w4;obtain⟨hE,hR,hP,hB⟩:=H4.out w4 hw4;have HE4:=Hd hE;have HR4:=Hd hR;have HB4:=Hd hB;obtain⟨t4,r4,b4,off4,i4,j4,e2,HTF⟩:=hP.tokF;injection e2 with e2 e3;subst e2 e3;have q1:=HTF.q1;have f1:=HTF.fz w4 (Below.refl _ _) 1;have hadd:=HTF.add;have hbl4:=HTF.lb;have hmx4:=HTF.mx;have hlt4:=HTF.lt;have hw:IntKind.i64.wrap ((i4:Int)+1)=j4:=by rw[hadd,IntKind.wrap_i64];have:=HTF.jn;omega
      have hwj:wrap64 j4=j4:=by have:=HTF.jn;unfold wrap64;omega
      have HN4:=Hd (HTF.nx w4 (Below.refl _ _) (by rw[HTK.out.1];omega));clear hE hR hP hB hw4 HTF H4
      go_upto_region 15 with(fail)
      (try rw[hwj])
      generalize hw5:w4.setCell _ _=w5
      have hx5:PSt w5 b (some ⟨b0,off,none⟩) n c all r' false∧RowX w5 hb (.mk 2 1 ByteArray.empty 0 [] []) none 0 none 0∧RowX w5 w.heap.size zX none 0 none 0∧Below w.heap.size (bl b w) (bl b w5):=by
       subst hw5;exact⟨HN4.out,HE4.out.setCell HX.out.2.1 _ _,HR4.out.setCell hgb _ _,by rw[bl_set];exact HB4.out⟩
      have HX5:=Hd hx5;clear hx5 hw5 q1 f1
      go_wp2_with (first | (refine wpList_load_row rfl _ _ rfl (hb) rfl _ _ _ _ (HX5.out.2.1) Tryz.underlying26 rfl ex_info ?_) | (refine wpList_store_row rfl _ _ _ rfl (w.heap.size) _ rfl rfl _ _ (HX5.out.2.2.1) ex_info rfl (by simp[exA,Value.oneCell']) ?_))
      obtain⟨f1,f2,f3⟩:=(fin_same (x:=.mk 2 1 ByteArray.empty 0 [] []) (A1:=none) (ca1:=0) (B1:=none) (cb1:=0) HX5.out.2.2.2 HX5.out.1 HX5.out.2.2.1 hgb (Nat.le_refl _) hA);exact bodyPost_ret (res_ex2 (p:=2) (u:=3) rfl _ _ (w.heap.size) rfl f3) rfl ⟨f1,_,true,_,rfl,fun V=>rdX_nil V _ _ _ _,f2,.inl ⟨rfl,plain_true HTK.out.1 hk (ts_yes HTS.out hs1)⟩⟩
     | false=>
      cases hs2:(ts.toList==[102,97,108,115,101]) with
      | true=>
       have H4:=Hd (show ∀ w4,w3.setRow hb (exA (.mk 2 0 ByteArray.empty 0 [] []) none 0 none 0)=w4→RowX w4 hb (.mk 2 0 ByteArray.empty 0 [] []) none 0 none 0∧RowX w4 w.heap.size zX none 0 none 0∧PSt w4 b (some ⟨b0,off,none⟩) n c all (t::r') false∧Below w.heap.size (bl b w) (bl b w4) from fun w4 h4=>by
        subst h4;exact⟨HE3.out.set,HR3.out.other HX.out.2.2.1 _,HP3.out.setRow HX.out.2.1 (fun b1 o1 e1=>by have:=hA b1 o1 e1;have:=HX.out.1;omega) _,kb_setRow HB3.out HX.out.2.1 HX.out.1 _⟩)
       go_upto_region 14 with(refine wpList_store_row rfl _ _ _ rfl (hb) _ rfl rfl _ _ (HE3.out) ex_info rfl (by simp[exA,Value.oneCell']) ?_)
       generalize hw4:w3.setRow hb _=w4;obtain⟨hE,hR,hP,hB⟩:=H4.out w4 hw4;have HE4:=Hd hE;have HR4:=Hd hR;have HB4:=Hd hB;obtain⟨t4,r4,b4,off4,i4,j4,e2,HTF⟩:=hP.tokF;injection e2 with e2 e3;subst e2 e3;have q1:=HTF.q1;have f1:=HTF.fz w4 (Below.refl _ _) 1;have hadd:=HTF.add;have hbl4:=HTF.lb;have hmx4:=HTF.mx;have hlt4:=HTF.lt;have hw:IntKind.i64.wrap ((i4:Int)+1)=j4:=by rw[hadd,IntKind.wrap_i64];have:=HTF.jn;omega
       have hwj:wrap64 j4=j4:=by have:=HTF.jn;unfold wrap64;omega
       have HN4:=Hd (HTF.nx w4 (Below.refl _ _) (by rw[HTK.out.1];omega));clear hE hR hP hB hw4 HTF H4
       go_upto_region 15 with(fail)
       (try rw[hwj])
       generalize hw5:w4.setCell _ _=w5
       have hx5:PSt w5 b (some ⟨b0,off,none⟩) n c all r' false∧RowX w5 hb (.mk 2 0 ByteArray.empty 0 [] []) none 0 none 0∧RowX w5 w.heap.size zX none 0 none 0∧Below w.heap.size (bl b w) (bl b w5):=by
        subst hw5;exact⟨HN4.out,HE4.out.setCell HX.out.2.1 _ _,HR4.out.setCell hgb _ _,by rw[bl_set];exact HB4.out⟩
       have HX5:=Hd hx5;clear hx5 hw5 q1 f1
       go_wp2_with (first | (refine wpList_load_row rfl _ _ rfl (hb) rfl _ _ _ _ (HX5.out.2.1) Tryz.underlying26 rfl ex_info ?_) | (refine wpList_store_row rfl _ _ _ rfl (w.heap.size) _ rfl rfl _ _ (HX5.out.2.2.1) ex_info rfl (by simp[exA,Value.oneCell']) ?_))
       obtain⟨f1,f2,f3⟩:=(fin_same (x:=.mk 2 0 ByteArray.empty 0 [] []) (A1:=none) (ca1:=0) (B1:=none) (cb1:=0) HX5.out.2.2.2 HX5.out.1 HX5.out.2.2.1 hgb (Nat.le_refl _) hA);exact bodyPost_ret (res_ex2 (p:=2) (u:=3) rfl _ _ (w.heap.size) rfl f3) rfl ⟨f1,_,true,_,rfl,fun V=>rdX_nil V _ _ _ _,f2,.inl ⟨rfl,plain_false HTK.out.1 hk (ts_yes HTS.out hs2)⟩⟩
      | false=>
       go_wp2_with (first | (refine wpList_load_row rfl _ _ rfl (hb) rfl _ _ _ _ (HE3.out) Tryz.underlying26 rfl ex_info ?_) | (refine wpList_store_row rfl _ _ _ rfl (w.heap.size) _ rfl rfl _ _ (HR3.out) ex_info rfl (by simp[exA,Value.oneCell']) ?_))
       obtain⟨f1,f2,f3⟩:=(fin_same (x:=zX) (A1:=none) (ca1:=0) (B1:=none) (cb1:=0) HB3.out HP3.out HR3.out hgb (Nat.le_refl _) hA);exact bodyPost_ret (res_ex2 (p:=2) (u:=3) rfl _ _ (w.heap.size) rfl f3) rfl ⟨f1,_,false,_,rfl,fun V=>rdX_nil V _ _ _ _,f2,.inr ⟨rfl,plain_none HTK.out.1 (by simpa using h3) (by simpa using h2) (by simpa using h4) (.inr (ts_not HTS.out hs1 hs2)),rfl⟩⟩
end
end
section
open Go.RowKit Go.Sort
def fx(B:Nat)(N:List Nat)(w:World):World:={ w with heap:=w.heap.mapIdx fun i o=>if i<B∨i∈N then .cells #[] 0 else o }
theorem fx_size{B:Nat}{N:List Nat}{w:World}:(fx B N w).heap.size=w.heap.size:=by simp[fx]
theorem fx_cell{B:Nat}{N:List Nat}{w:World}{p:Addr}(h:B≤p.block)(hn:p.block∉N):(fx B N w).cell? p=w.cell? p:=by
 unfold World.cell? fx;simp only[Array.getElem?_mapIdx]
 cases w.heap[p.block]? with
 | none=>rfl
 | some o=>simp[Nat.not_lt.2 h,hn]
theorem fx_some{B:Nat}{N:List Nat}{w:World}{p:Addr}{v:Value}(h:(fx B N w).cell? p=some v):w.cell? p=some v∧B≤p.block∧p.block∉N:=by
 by_cases hp:p.block<B∨p.block∈N
 · unfold World.cell? fx at h;simp only[Array.getElem?_mapIdx] at h
   cases hh:w.heap[p.block]? with
   | none=>rw[hh] at h;cases h
   | some o=>
    rw[hh] at h;simp only[Option.map_some,if_pos hp] at h
    split at h <;> simp at h
 · simp only[not_or,Nat.not_lt] at hp;exact⟨by rwa [fx_cell hp.1 hp.2] at h,hp.1,hp.2⟩
theorem flT_up{w w':World}(hs:w.heap.size≤w'.heap.size)(hk:∀ p v,w.cell? p=some v→w'.cell? p=some v):∀ {l:List Ex}{cs:List Value},flX w l cs→flX w' l cs
 | [],cs,h=>h
 | x::l,cs,h=>by
  obtain⟨A,ca,B,cb,cs1,rfl,h1,h2⟩:=h;exact⟨A,ca,B,cb,cs1,rfl,rdX_up hs hk x A B h1,flT_up hs hk h2⟩
theorem fl_move{B:Nat}{N N':List Nat}{w w':World}{l:List Ex}{cs:List Value}(h:flX (fx B N w) l cs)(hs:w.heap.size≤w'.heap.size)(hk:∀ p v,B≤p.block→p.block∉N→w.cell? p=some v→w'.cell? p=some v)(hN:∀ k∈N',k∈N∨w.heap.size≤k):flX (fx B N' w') l cs:=
 flT_up (by rw[fx_size,fx_size];exact hs) (fun p v hp=>by
  obtain⟨h1,h2,h3⟩:=fx_some hp;have hlt:=World.block_lt_of_cell? w p h1
  rw[fx_cell h2 (fun hm=>by
   rcases hN _ hm with h4 | h4
   · exact h3 h4
   · omega)]
  exact hk p v h2 h3 h1) h
theorem tree_in{B B2:Nat}{N:List Nat}{w w':World}{x:Ex}{A1 B1:Option Addr}(h:rdX (fr B2 w) x A1 B1)(hB:B≤B2)(hN:∀ k∈N,k<B2∨w.heap.size≤k)(hs:w.heap.size≤w'.heap.size)(hk:∀ p v,B2≤p.block→w.cell? p=some v→w'.cell? p=some v):rdX (fx B N w') x A1 B1:=
 rdX_up (by rw[fx_size,fr_size];exact hs) (fun p v hp=>by
  obtain⟨h1,h2⟩:=fr_some hp;have hlt:=World.block_lt_of_cell? w p h1
  rw[fx_cell (by omega) (fun hm=>by
   rcases hN _ hm with h4 | h4 <;> omega)]
  exact hk p v h2 h1) x A1 B1 h
theorem fl_down{B B2:Nat}{N:List Nat}{w:World}{l:List Ex}{cs:List Value}(h:flX (fx B2 N w) l cs)(hB:B≤B2):flX (fr B w) l cs:=
 flT_up (by rw[fx_size,fr_size];exact Nat.le_refl _) (fun p v hp=>by
  obtain⟨h1,h2,h3⟩:=fx_some hp;rw[fr_cell (by omega)];exact h1) h
theorem row_rd{B B2 k cap:Nat}{A1:Option Addr}{N:List Nat}{T:TypeId}{w:World}{l:List Ex}{cs:List Value}(ho:w.ownsRow B T 6 (.slice A1 k cap) k cs)(hl:l.length=k)(hf:flX (fx B N w) l cs)(hB:B2≤B)(hk:k≤9223372036854775807):RdX (fr B2 w) A1 k l:=by
 refine⟨hl,hk,fun hn=>?_⟩;obtain⟨g,cap2,e,_⟩:=ho.form hn;injection e with e _ _;subst e;have hgl:=ho.lt g rfl;refine⟨g,0,rfl,by rw[fr_size];exact hgl.2,flX_rd (fl_down hf hB) fun j v hj=>?_⟩
 show(fr B2 w).cell? _=some v
 rw[fr_cell (by show B2≤g;have:=hgl.1;omega),Nat.zero_add];rw[ho.cellAt j (by rw[← ho.1];exact(List.getElem?_eq_some_iff.1 hj).1),hj]
theorem exL_one(x:Ex)(A1:Option Addr)(ca:Nat)(B1:Option Addr)(cb:Nat):∀ u∈exL x A1 ca B1 cb,u.oneCell'=true:=by
 intro u hu;simp only[exL,List.mem_cons,List.not_mem_nil,or_false] at hu;rcases hu with rfl | rfl | rfl | rfl | rfl | rfl <;> rfl
theorem own_alloc{w:World}{base:Nat}{e:TypeId}{size:Nat}{v:Value}{n:Nat}{xs:List Value}(h:w.ownsRow base e size v n xs)(o:Obj):(w.alloc o).ownsRow base e size v n xs:=own_belowX h ((Below.refl _ _).alloc (Nat.le_refl _) o)
section
variable {w:World}{b:Nat}{A:Option Addr}{n c:Nat}{all r:List Tk}{bad:Bool}{m:Nat}
theorem own_kb{w':World}{base k:Nat}{v:Value}{e:TypeId}{size:Nat}{xs:List Value}(h:w.ownsRow base e size v k xs)(hg:∀ g,v.ownBlock=some g→g≠b)(hb:Below w.heap.size (bl b w) (bl b w')):w'.ownsRow base e size v k xs:=by
 refine⟨h.1,?_⟩;rcases h.2 with h | ⟨g,cap,cur,e1,hg2,hh,r2⟩
 · exact .inl h
 · have hgb:=hg g (by rw[e1];rfl);have h1:=hb.block g (Array.getElem?_eq_some_iff.1 hh).1;rw[bl_block hgb,bl_block hgb] at h1;exact .inr ⟨g,cap,cur,e1,hg2,h1.trans hh,r2⟩
theorem PSt.grown{w':World}{row:Option Nat}(h:PSt w b A n c all r bad)(hg:w.grownBy w' row)(hb:row≠some b)(hA:∀ b0 off,A=some ⟨b0,off,none⟩→row≠some b0):PSt w' b A n c all r bad:=by
 refine⟨(hg.block b h.lt (fun e=>hb e.symm)).trans h.row,?_,h.len,h.pre,h.fin⟩;obtain⟨h1,h2,h3⟩:=h.rd;refine⟨h1,h2,fun hn=>?_⟩;obtain⟨b0,off,e,hlt,hc⟩:=h3 hn;have hlt':b0<w.heap.size:=by rwa [bl_size] at hlt
 have hx:∀ p:Addr,p.block=b0→(bl b w').cell? p=(bl b w).cell? p:=fun p hp=>by
  by_cases hpb:b0=b
  · unfold World.cell?;rw[hp,hpb,bl_at (k:=0),bl_at (k:=0),if_pos h.lt,if_pos (Nat.lt_of_lt_of_le h.lt hg.size)]
  · rw[bl_cell (by rw[hp];exact hpb),bl_cell (by rw[hp];exact hpb)];exact hg.cell_far p (by rw[hp];exact hlt') (by rw[hp];exact fun e2=>hA b0 off e e2.symm)
 refine⟨b0,off,e,by rw[bl_size];exact Nat.lt_of_lt_of_le hlt' hg.size,fun i hi=>?_⟩;obtain⟨c0,c1,c2,c3⟩:=hc i hi;exact⟨(hx _ rfl).trans c0,(hx _ rfl).trans c1,(hx _ rfl).trans c2,(hx _ rfl).trans c3⟩
theorem kb_grown{w1 w':World}{row:Option Nat}(h:Below w.heap.size (bl b w) (bl b w1))(hg:w1.grownBy w' row)(hr:∀ k,row=some k→w.heap.size≤k):Below w.heap.size (bl b w) (bl b w'):=by
 have hs:=h.size;rw[bl_size,bl_size] at hs;refine⟨hg.os.trans h.os,hg.tape.trans h.tape,hg.output.trans h.output,by rw[bl_size,bl_size];exact Nat.le_trans hs hg.size,fun k hk=>?_⟩
 by_cases hkb:k=b
 · subst hkb;rw[← h.block k hk,bl_at (k:=0),bl_at (k:=0),if_pos (Nat.lt_of_lt_of_le hk hs),if_pos (Nat.lt_of_lt_of_le hk (Nat.le_trans hs hg.size))]
 · have h1:=h.block k hk;rw[bl_block hkb,bl_block hkb] at h1 ⊢;rw[hg.block k (Nat.lt_of_lt_of_le hk hs) (fun e=>by have:=hr k e.symm;omega),h1]
def ListAns(w:World)(b:Nat)(A:Option Addr)(n c m:Nat)(all:List Tk)(g0:PR (List Ex))(e:Ending)(w':World):Prop:=
 ∃ (k g cap:Nat) (cs:List Value) (bd:Bool) (r1:List Tk),e=.returned (.slice (some ⟨g,0,none⟩) k cap)∧w'.ownsRow w.heap.size 26 6 (.slice (some ⟨g,0,none⟩) k cap) k cs∧k≤m+1∧PSt w' b A n c all r1 bd∧Below w.heap.size (bl b w) (bl b w') ∧
  (bd=false∧(∃ l,g0=.ok l r1∧l.length=k∧flX (fx w.heap.size [g] w') l cs)∨bd=true∧g0=.bad r1)
def LsR(w:World)(b:Nat)(A:Option Addr)(n c m:Nat)(all:List Tk)(ar:Psr)(mk:List UInt8)(g0:PR (List Ex))(v:Value)(wr:World):Prop:=
 ∃ (k g cap:Nat) (cs:List Value) (bd:Bool) (ri:List Tk),v=.slice (some ⟨g,0,none⟩) k cap∧wr.ownsRow w.heap.size 26 6 (.slice (some ⟨g,0,none⟩) k cap) k cs∧k≤m+1∧PSt wr b A n c all ri bd∧Below w.heap.size (bl b w) (bl b wr) ∧
  (bd=false∧(∃ acc f,g0=(moreP ar f acc ri).bind (fun l r=>(needP mk r).bind fun _ r=>.ok l r)∧acc.length=k∧ri.length≤f∧k+ri.length≤m+1∧flX (fx w.heap.size [g] wr) acc cs)∨bd=true∧g0=.bad ri)
theorem more_stop{ar:Psr}{f:Nat}{acc:List Ex}(h:isP [44] r=false):moreP ar f acc r=.ok acc r:=by
 cases f with
 | zero=>rfl
 | succ f=>simp[moreP,h]
theorem ls_step{wr w3 w4 w6:World}{ar:Psr}{mk:List UInt8}{g0:PR (List Ex)}{k g g6 cap6 f:Nat}{cs:List Value}{acc:List Ex}{ri r5:List Tk}{bd5:Bool}{y:Ex}{A5:Option Addr}{ca5:Nat}{B5:Option Addr}{cb5:Nat}{o:Obj}
 (hgl:w.heap.size≤g∧g<wr.heap.size) (hbw:b<w.heap.size) (hA:∀ b0 off,A=some ⟨b0,off,none⟩→b0<w.heap.size)
 (hg0:g0=(moreP ar f acc ri).bind (fun l r=>(needP mk r).bind fun _ r=>.ok l r)) (hlen:acc.length=k) (hf:ri.length≤f) (hm:k+ri.length≤m+1) (hpos:1≤ri.length) (hc:isP [44] ri=true) (hla:Less ar)
 (hfl:flX (fx w.heap.size [g] wr) acc cs) (hs3:wr.heap.size≤w3.heap.size) (hs4:w3.heap.size≤w4.heap.size) (hK:Kp w.heap.size wr w4) (hP4:PSt w4 b A n c all r5 bd5) (hB4:Below w.heap.size (bl b w) (bl b w4))
 (hy:bd5=false∧ar ri.tail=.ok y r5∧rdX (fr w3.heap.size w4) y A5 B5∨bd5=true∧ar ri.tail=.bad r5)
 (hown:w6.ownsRow w.heap.size 26 6 (.slice (some ⟨g6,0,none⟩) (k+1) cap6) (k+1) (cs++exL y A5 ca5 B5 cb5)) (hgr:(w4.alloc o).grownBy w6 (some g)) (hat:some g=some g6∨g6=(w4.alloc o).heap.size):
 LsR w b A n c m all ar mk g0 (.slice (some ⟨g6,0,none⟩) (k+1) cap6) w6∧leftOf b n w6<ri.length:=by
 have hP6:PSt w6 b A n c all r5 bd5:=(hP4.alloc o).grown hgr (fun e=>by injection e with e;omega) (fun b0 off e e2=>by injection e2 with e2;have:=hA b0 off e;omega);have hB6:=kb_grown (kb_alloc hB4 hP4.lt o) hgr (fun k e=>by injection e with e;omega);have hsz:w4.heap.size<(w4.alloc o).heap.size:=by simp
 have hs6:=hgr.size;have hl:=tail_less ri
 have hkeep:∀ p v,p.block≠g→w4.cell? p=some v→w6.cell? p=some v:=fun p v hp hv=>by
  have hlt:=World.block_lt_of_cell? w4 p hv;rw[hgr.cell_far p (by omega) (fun e=>hp (by injection e)),World.cell?_alloc_lt _ _ _ hlt];exact hv
 have hN:∀ k∈[g6],k∈[g]∨w4.heap.size≤k:=fun k hk=>by
  rw[List.mem_singleton] at hk;subst hk;rcases hat with h1 | h1
  · injection h1 with h1;exact .inl (by rw[h1];simp)
  · exact .inr (by omega)
 have hlt1:ri.tail.length=ri.length-1:=by simp
 refine⟨⟨k+1,g6,cap6,_,bd5,r5,rfl,hown,by omega,hP6,hB6,?_⟩,?_⟩
 · obtain⟨f,rfl⟩:∃ f',f=f'+1:=⟨f-1,by omega⟩;rcases hy with⟨h1,h2,h3⟩|⟨h1,h2⟩
   · have h4:=hla _ _ _ h2;refine .inl ⟨h1,⟨acc++[y],f,?_,by simp[hlen],by omega,by omega,flX_app ?_ (flX_one ?_)⟩⟩
     · rw[hg0,moreP,if_pos hc,h2];rfl
     · exact fl_move hfl (by omega) (fun p v q1 q2 q3=>hkeep p v (fun e=>q2 (by rw[e];simp)) (hK.2 p v q1 q3)) (fun k hk=>(hN k hk).imp id (fun h=>by omega))
     · refine tree_in h3 (by omega) (fun k hk=>?_) (by omega) (fun p v q1 q2=>hkeep p v (by omega) q2);rcases hN k hk with h5 | h5
       · rw[List.mem_singleton] at h5;exact .inl (by omega)
       · exact .inr h5
   · refine .inr ⟨h1,?_⟩;rw[hg0,moreP,if_pos hc,h2];rfl
 · cases bd5 with
   | true=>rw[left_bad hP6];omega
   | false=>
    rw[left_good hP6];obtain⟨_,h2,_⟩:=hy.resolve_right (by rintro ⟨h,_⟩;cases h);have h4:=hla _ _ _ h2;omega
theorem prList(ar:Psr)(s:ByteArray)(HAR:SpecX 30 ar m)(hla:Less ar)(hm:m≤1000000)(h:PSt w b A n c all r false)(hr:r.length≤m):
 Calls Tryz.prog 192 #[.pointer (some ⟨b,0,none⟩),.string s] w (ListAns w b A n c m all (listP ar s.data.toList r)):=by
 obtain⟨i0,hi,hz0,hz1,hz2⟩:=infoEx;have hA:=Hd h.home;have hlt:=h.lt;have HP:=Hd h;have HM:=Hd (show listP ar s.data.toList r=(ar r).bind fun y r=>(moreP ar r.length [y] r).bind fun l r=>(needP s.data.toList r).bind fun _ r=>.ok l r from rfl);generalize listP ar s.data.toList r=g0 at *;clear h
 go_enter Tryz.func192,Tryz.ntmps192
 go_wp2_with fail
 refine(SpecX.any HAR HP.out hr).mono ?_;rintro x w1 ⟨e0,A2,ca2,B2,cb2,bd,r1,rfl,hP,hB,hT⟩;have HP1:=Hd hP;have HB1:=Hd hB;have HT1:=Hd hT;have hs1:=kb_size hB;clear hP hB hT;unfold exA
 go_wp2_with fail
 have h0:LsR w b A n c m all ar s.data.toList g0 (.slice (some ⟨w1.heap.size,0,none⟩) 1 1) (w1.alloc (.cells (exA e0 A2 ca2 B2 cb2) 26)):=by
  have hb0:Below w1.heap.size w1 (w1.alloc (.cells (exA e0 A2 ca2 B2 cb2) 26)):=(Below.refl _ _).alloc (Nat.le_refl _) _;refine⟨1,w1.heap.size,1,exL e0 A2 ca2 B2 cb2,bd,r1,rfl,World.ownsRow_lit (base:=w.heap.size) (e:=26) (size:=6) w1 (exA e0 A2 ca2 B2 cb2) 1 hs1 (by decide) rfl,by omega,HP1.out.alloc _,kb_trans HB1.out (bl_of hb0),?_⟩;rcases HT1.out with⟨h1,h2,h3⟩|⟨h1,h2⟩
  · have hl:=hla _ _ _ h2;refine .inl ⟨h1,⟨[e0],r1.length,?_,rfl,Nat.le_refl _,by omega,flX_one ?_⟩⟩
    · rw[HM.out,h2];rfl
    · exact tree_in h3 (Nat.le_refl _) (fun k hk=>by rw[List.mem_singleton] at hk;exact .inr (by omega)) (by simp) (fun p v q1 q2=>by rw[World.cell?_alloc_lt _ _ _ (World.block_lt_of_cell? w1 p q2)];exact q2)
  · refine .inr ⟨h1,?_⟩;rw[HM.out,h2];rfl
 have H0:=Hd h0;clear h0 HT1
 go_loopw [5] (fun v wr=>LsR w b A n c m all ar s.data.toList g0 v wr) (fun _ wr=>leftOf b n wr)
 case atStart=>exact H0.out
 case round=>
  obtain⟨k,g,cap,cs,bd,ri,rfl,hO,hk,hP,hB,hT⟩:=hrel;have HO:=Hd hO;have hgl:=hO.lt g rfl;have HP2:=Hd hP;have HB2:=Hd hB;have HT2:=Hd hT;have hgb:g≠b:=by omega
  clear hO hP hB hT H0
  cases hc:(!bd && isP [44] ri) with
  | false=>
   go_wp2_with fail
   refine(take_no ⟨#[44]⟩ HP2.out hc).mono ?_;rintro x w3 ⟨rfl,hP,hB⟩;have HP3:=Hd hP;have HB3:=Hd (kb_trans HB2.out hB);have HO3:=Hd (own_kb HO.out (fun g2 e=>by have h2:g=g2:=Option.some.inj e;omega) hB);have HK3:=Hd (Kp.of_kb hB hlt);clear hP hB
   go_wp2_with fail
   refine(needStep s HP3.out).mono ?_;rintro x w4 ⟨rfl,bd4,r4,hP,hB,hN⟩;have HP4:=Hd hP;have HB4:=Hd (kb_trans HB3.out hB);have HO4:=Hd (own_kb HO3.out (fun g2 e=>by have h2:g=g2:=Option.some.inj e;omega) hB);have HK4:=Hd (HK3.out.trans (Kp.of_kb hB hlt));have HN:=Hd hN;clear hP hB hN
   go_wp2_with fail
   go_ret
   refine⟨k,g,cap,cs,bd4,r4,rfl,HO4.out,hk,HP4.out,HB4.out,?_⟩;rcases HT2.out with⟨h1,⟨acc,f,h2,h3,h4,h5,h6⟩⟩|⟨h1,h2⟩
   · subst h1;have hi:isP [44] ri=false:=by simpa using hc
     have hG:false=false∧g0=(needP s.data.toList ri).bind (fun _ r=>.ok acc r)∧True∨false=true∧g0=.bad ri:=.inl ⟨rfl,by rw[h2,more_stop hi];rfl,trivial⟩;rcases inv_step hG HN.out with⟨e4,⟨u,_,e5⟩,_⟩|⟨e4,e5⟩
     · exact .inl ⟨e4,⟨acc,e5,h3,fl_move h6 HK4.out.1 (fun p v q1 _ q3=>HK4.out.2 p v q1 q3) (fun k hk=>.inl hk)⟩⟩
     · exact .inr ⟨e4,e5⟩
   · rcases HN.out with⟨_,e,_⟩|⟨e4,e5⟩
     · rw[h1] at e
       cases e
     · refine .inr ⟨e4,?_⟩;subst h1;have e6:(PR.bad ri:PR Unit)=.bad r4:=e5;injection e6 with e6;rw[h2,e6]
  | true=>
   have hbd:bd=false:=by cases bd <;> simp at hc ⊢
   subst hbd;have hi1:isP [44] ri=true:=by simpa using hc
   obtain⟨_,⟨acc,f,hg0,hlen,hf,hmm,hfl⟩⟩:=HT2.out.resolve_right (by rintro ⟨h,_⟩;cases h);have HFL:=Hd hfl;have HG0:=Hd hg0;have HLEN:=Hd hlen;have hpos:=HP2.out.pos;have HL:=Hd (left_good HP2.out);have hlr:ri.tail.length≤m:=by simp;omega
   have HC:=Hd hi1;clear HT2 hc hg0 hfl hlen hi1
   go_wp2_with fail
   refine(take_yes ⟨#[44]⟩ HP2.out HC.out).mono ?_;rintro x w3 ⟨rfl,hP,hB⟩;have HP3:=Hd hP;have HB3:=Hd (kb_trans HB2.out hB);have HO3:=Hd (own_kb HO.out (fun g2 e=>by have h2:g=g2:=Option.some.inj e;omega) hB);have HK3:=Hd (Kp.of_kb hB hlt);have hs3:=kb_size hB;clear hP hB
   go_wp2_with fail
   refine(SpecX.any HAR HP3.out hlr).mono ?_;rintro x w4 ⟨y,A5,ca5,B5,cb5,bd5,r5,rfl,hP,hB,hT⟩;have HP4:=Hd hP;have HB4:=Hd (kb_trans HB3.out hB);have HO4:=Hd (own_kb HO3.out (fun g2 e=>by have h2:g=g2:=Option.some.inj e;omega) hB);have HK4:=Hd (HK3.out.trans (Kp.of_kb hB hlt));have HT4:=Hd hT;have hs4:=kb_size hB;clear hP hB hT;unfold exA
   go_wp2_with (at_builtin;go_must (refine wpList_append_lies _ rfl _ _ 24 rfl w.heap.size 26 i0 _ 6 88 Tryz.underlying24 hi hz1 hz0 hz2 rfl (by decide) (.slice (some ⟨g,0,none⟩) k cap) k cs rfl (own_alloc HO4.out _) ⟨w4.heap.size,0,none⟩ 1 1 (exL y A5 ca5 B5 cb5) rfl rfl (fun j u hu=>World.news_of_block (heap_alloc_new _ _) j u hu) (exL_one _ _ _ _ _) (by omega) (by unfold maxLen;omega) (by omega) (by simp;omega) _ rfl ?_;intro g6 cap6 w6 hown6 hgr6 hat6 hlt6))
   have HST:=Hd (ls_step hgl hlt hA.out HG0.out HLEN.out hf hmm hpos HC.out hla HFL.out hs3 hs4 HK4.out HP4.out HB4.out HT4.out hown6 hgr6 hat6);clear hown6 hgr6 hat6 hlt6
   go_roundw
   case rel=>exact HST.out.1
   case measure=>(rw[HL.out];exact HST.out.2)
end
end
end Go.Proofs.YtokiaaapgkdpmaaGreatDoor
