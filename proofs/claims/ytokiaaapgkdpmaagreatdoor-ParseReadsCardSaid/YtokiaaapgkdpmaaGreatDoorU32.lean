/- Parts: PrR. Conditions: each theorem's own. -/
import Derived.Test.YtokiaaapgkdpmaaGreatDoorU31
namespace Go.Proofs.YtokiaaapgkdpmaaGreatDoor
set_option linter.unusedVariables false
set_option linter.unusedSimpArgs false
set_option maxRecDepth 100000
set_option maxHeartbeats 40000000
section
open Go.RowKit Go.Sort
theorem infoStr:∃ i:TypeInfo,Tryz.prog.info? 9=some i∧i.size=1∧i.zero=some (.string ⟨#[]⟩)∧i.bytes=16:=by
 have h:(Tryz.prog.info? 9).map (fun i=>(i.size,i.zero,i.bytes))=some (1,some (.string ⟨#[]⟩),16):=by kernel_rfl
 cases hq:Tryz.prog.info? 9 with
 | none=>rw[hq] at h;cases h
 | some i=>
  rw[hq] at h;simp only[Option.map_some,Option.some.injEq,Prod.mk.injEq] at h;exact⟨i,rfl,h.1,h.2.1,h.2.2⟩
section
variable {w w1 w2 w':World}{b:Nat}{A:Option Addr}{n c:Nat}{all r r' r2:List Tk}{va va1 vp:Value}{st:List Value}{ps:List Ex}{sz:Nat}{L L1 L2 S ft:List Nat}
theorem row_ne_b(h:Mem w b A n c all r va st vp ps sz L){eb:Nat}{x:Ex}{Aa B:Option Addr}{ca cb:Nat}(k:RowX w eb x Aa ca B cb):eb≠b∧va.ownBlock≠some eb:=by
 refine⟨?_,own_ne h.oa k (by decide)⟩;rintro rfl;have h2:=h.row;rw[show w.heap[eb]?=_ from k] at h2;injection h2 with h2;injection h2 with _ h2;exact absurd h2 (by decide)
theorem addArm_row(x:Ex)(a:List UInt8)(Aa A2:Option Addr)(ca c2:Nat)(hx:x.subs=[]):(exA x Aa ca none 0).setIfInBounds 4 (.slice A2 (x.arms.length+1) c2)=exA (addArm x a) A2 c2 none 0:=by
 cases x
 simp only[Ex.subs] at hx;subst hx
 simp[exA,addArm,Ex.arms,Ex.k,Ex.n,Ex.s,Ex.op,Ex.subs]
theorem addArm_same(x:Ex)(a:List UInt8):(addArm x a).arms=x.arms++[ofB a]∧(addArm x a).subs=x.subs:=by
 cases x
 exact⟨rfl,rfl⟩
theorem mat_push{eb g cap ca:Nat}{x:Ex}{a:List UInt8}{Aa:Option Addr}{w4:World}(h:Mem w b A n c all r va st vp ps sz L)(hx:x.subs=[])(hrow:RowX w eb x Aa ca none 0)
 (hown:w.ownsRow 0 9 1 (.slice Aa x.arms.length ca) x.arms.length (x.arms.map Value.string)) (hL:∀ k∈eb::(Value.slice Aa x.arms.length ca).ownBlock.toList,k∈L) (hv:vp.ownBlock≠some eb)
 (hb:Below w.heap.size w w1) (hgr:w1.grownBy w4 (Value.slice Aa x.arms.length ca).ownBlock)
 (hown4:w4.ownsRow 0 9 1 (.slice (some ⟨g,0,none⟩) (x.arms.length+1) cap) (x.arms.length+1) (x.arms.map Value.string++[.string (ofB a)])) (hat:(Value.slice Aa x.arms.length ca).ownBlock=some g∨g=w1.heap.size) (hlt:g<w4.heap.size):
 Mem (w4.setCell ⟨eb,4,none⟩ (.slice (some ⟨g,0,none⟩) (x.arms.length+1) cap)) b A n c all r va st vp ps sz (g::L) ∧
  MAt (g::L) (w4.setCell ⟨eb,4,none⟩ (.slice (some ⟨g,0,none⟩) (x.arms.length+1) cap)) eb (addArm x a) [eb,g] ∧
  Tn (eb::(Value.slice Aa x.arms.length ca).ownBlock.toList) L (g::L) w (w4.setCell ⟨eb,4,none⟩ (.slice (some ⟨g,0,none⟩) (x.arms.length+1) cap))∧(g∈(Value.slice Aa x.arms.length ca).ownBlock.toList∨w.heap.size≤g)∧g≠eb:=by
 obtain⟨hs1,hs2⟩:=row_ne_b h hrow;have hebo:(Value.slice Aa x.arms.length ca).ownBlock≠some eb:=own_ne hown hrow (by decide);have hlte:eb<w.heap.size:=hrow.lt;have hrow4:w4.heap[eb]?=some (.cells (exA x Aa ca none 0) 26):=(hgr.block eb (Nat.lt_of_lt_of_le hlte hb.size) (fun e=>hebo e.symm)).trans ((hb.block eb hlte).trans hrow)
 have hge:g≠eb:=by
  rintro rfl;exact own_ne hown4 hrow4 (by decide) rfl
 generalize hv':Value.slice (some ⟨g,0,none⟩) (x.arms.length+1) cap=v' at *;generalize hW:w4.setCell ⟨eb,4,none⟩ v'=W;have hoth:∀ k,k≠eb→W.heap[k]?=w4.heap[k]?:=fun k hk=>by rw[← hW];exact heap_setCell_other _ _ _ _ hk
 have hsz:W.heap.size=w4.heap.size:=by rw[← hW];simp
 have hgn:g∈(Value.slice Aa x.arms.length ca).ownBlock.toList∨w.heap.size≤g:=by
  rcases hat with hat | hat
  · exact .inl (by rw[hat];simp)
  · exact .inr (by have:=hb.size;omega)
 have hS:∀ k∈eb::(Value.slice Aa x.arms.length ca).ownBlock.toList,k∈L:=hL
 have ht:Tn (eb::(Value.slice Aa x.arms.length ca).ownBlock.toList) L (g::L) w W:=by
  refine⟨by rw[← hW];exact hgr.os.trans hb.os,by rw[← hW];exact hgr.tape.trans hb.tape,by rw[← hW];exact hgr.output.trans hb.output,by rw[hsz];exact Nat.le_trans hb.size hgr.size,fun k hk hn=>?_,fun k hk=>?_,fun k hk _=>List.mem_cons_of_mem _ hk⟩
  · simp only[List.mem_cons,Option.mem_toList,not_or] at hn;rw[hoth k hn.1,hgr.block k (Nat.lt_of_lt_of_le hk hb.size) (fun e=>hn.2 e.symm),hb.block k hk]
  · rcases List.mem_cons.1 hk with rfl | hk
    · rcases hgn with h1 | h1
      · exact .inl (hL _ (List.mem_cons_of_mem _ h1))
      · exact .inr h1
    · exact .inl hk
 have hkeep:∀ k,k<w.heap.size→k≠eb→(Value.slice Aa x.arms.length ca).ownBlock≠some k→W.heap[k]?=w.heap[k]?:=fun k hk h1 h2=>ht.block k hk (by
  simp only[List.mem_cons,Option.mem_toList,not_or];exact⟨h1,h2⟩)
 have hbo:(Value.slice Aa x.arms.length ca).ownBlock≠some b:=own_ne hown h.row (by decide);obtain⟨cs,h4,h5⟩:=h.op;refine⟨⟨(hkeep b h.lt (Ne.symm hs1) hbo).trans h.row,h.rd.up ht.ups (ht.up hS),h.len,h.pre,h.fin,h.tks,own_other h.oa fun k hk=>hkeep k (h.lv k (h.la k hk)) (fun e=>hs2 (e ▸ hk)) (fun e=>own_ne2 h.oa hown (by decide) hk e),⟨cs,own_other h4 fun k hk=>hkeep k (h.lv k (h.lp k hk)) (fun e=>hv (e ▸ hk)) (fun e=>own_ne2 h4 hown (by decide) hk e),flX_up ht.ups (ht.up hS) h5⟩,List.mem_cons_of_mem _ h.lb,fun k hk=>List.mem_cons_of_mem _ (h.la k hk),fun k hk=>List.mem_cons_of_mem _ (h.lp k hk),fun k hk=>?_⟩,⟨(addArm_same x a).2.trans hx,some ⟨g,0,none⟩,cap,?_,?_,?_,fun k hk=>?_⟩,ht,hgn,hge⟩
 · rw[hsz];rcases List.mem_cons.1 hk with rfl | hk
   · exact hlt
   · have:=h.lv k hk;have:=hb.size;have:=hgr.size;omega
 · unfold RowX;rw[← hW,setCell_eq_setRow _ _ _ _ _ _ _ hrow4,setRow_heap _ _ _ _ _ _ hrow4,← hv',addArm_row x a _ _ _ _ hx]
 · rw[(addArm_same x a).1];simp only[List.length_append,List.length_cons,List.length_nil,List.map_append,List.map_cons,List.map_nil,Nat.zero_add];rw[hv'];exact own_other hown4 fun k hk=>hoth k (by rw[← hv'] at hk;simp[Value.ownBlock] at hk;omega)
 · rfl
 · simp only[List.mem_cons,List.not_mem_nil,or_false] at hk;rcases hk with rfl | rfl
   · exact List.mem_cons_of_mem _ (hL k List.mem_cons_self)
   · exact List.mem_cons_self
theorem mat_sep(h:Mem w b A n c all r va st vp ps sz L){eb:Nat}{x:Ex}(k:MAt L w eb x ft)(hv:vp.ownBlock≠some eb):∀ k∈ft,k≠b∧va.ownBlock≠some k∧vp.ownBlock≠some k∧k<w.heap.size:=by
 obtain⟨hx,Aa,ca,h1,h2,h3,h4⟩:=k;obtain⟨s1,s2⟩:=row_ne_b h h1;obtain⟨cs,h5,h6⟩:=h.op;intro k hk;rw[h3] at hk;rcases List.mem_cons.1 hk with rfl | hk
 · exact⟨s1,s2,hv,h1.lt⟩
 · rw[Option.mem_toList] at hk;exact⟨fun e=>own_ne h2 h.row (by decide) (e ▸ hk),fun e=>own_ne2 h.oa h2 (by decide) e hk,fun e=>own_ne2 h5 h2 (by decide) e hk,(h2.lt k hk).2⟩
theorem ask_arr:Ask [45,62]:=.inr (by decide)
theorem trn_arm(x:Ex)(f eb p0 p1 p2 p3 p4:Nat)(vm:Value)(h:Mem w b A n c all r va st vp ps sz L)(hst:st.length≤900000)(hma:MAt L w eb x ft)(hna:x.arms.length≤1000000)(hv:vp.ownBlock≠some eb)(h0:Fz L w p0 (rp b))(h1:Fz L w p1 (fnV 201 #[rp p0,rp p3,rp p4]))(h2:Fz L w p2 vm)(hmd:MadeAt L w b eb f vm)(h3:Fz L w p3 (rp eb))(h4:Fz L w p4 (fnV 200 #[rp p0,rp p1,rp p2])):
 Calls Tryz.prog 201 #[rp p0,rp p3,rp p4] w (Turn w b A n c all va st vp L ft (armO x f ps sz r)):=by
 have hmf:∀ (fn:Fn) (first cap:Array Value) (w:World),(Instr.makeFunc fn first cap).run Tryz.prog w=.ok (.func fn first cap) w:=fun _ _ _ _=>rfl;obtain⟨i0,hi,hz0,hz1,hz2⟩:=infoStr;have HM:=Hd h;have HZ:=Hd (fzs_cons h0 (fzs_cons h3 (fzs_cons h4 (fzs_nil L w))));have HMO:=Hd (show MoreAt L w b eb f (fnV 200 #[rp p0,rp p1,rp p2]) from⟨p0,p1,p2,p3,p4,vm,rfl,h0,h1,h2,hmd,h3,h4⟩);obtain⟨hxs,Aa,ca,hrow,hown,hft,hLft⟩:=hma;rw[hft] at hLft;obtain⟨hs1,hs2⟩:=row_ne_b h hrow;have hbo:(Value.slice Aa x.arms.length ca).ownBlock≠some b:=own_ne hown h.row (by decide);have nae:(Value.slice Aa x.arms.length ca).ownBlock≠some eb:=own_ne hown hrow (by decide);have na0:(Value.slice Aa x.arms.length ca).ownBlock≠some p0:=fun e=>HZ.out.ne 0 p0 _ rfl (hLft p0 (by simp[e])) rfl;have na3:(Value.slice Aa x.arms.length ca).ownBlock≠some p3:=fun e=>HZ.out.ne 1 p3 _ rfl (hLft p3 (by simp[e])) rfl;have ne0:p0≠eb:=HZ.out.ne 0 p0 _ rfl (hLft eb (by simp));have ne3:p3≠eb:=HZ.out.ne 1 p3 _ rfl (hLft eb (by simp));have HR:=Hd hrow;have HO:=Hd hown;have c0:=h0.get;have HTK:=Hd (show Calls Tryz.prog 59 #[rp b,.string ⟨#[40]⟩] w (QPost w b A n c all va vp sz (needP [40] r) fun _ e=>e=.returned (.tuple #[])) from rrTake ⟨#[40]⟩ ask_40 h.q);clear h h0 h1 h2 h3 h4 hmd hrow hown
 show Calls _ _ _ _ (Turn w b A n c all va st vp L ft ((needP [40] r).bind fun _ r=>armO1 x f ps sz r))
 cases hn1:needP [40] r with
 | bad q=>
  have HN:=Hd (QPost.bad_ HTK.out hn1);clear HTK hn1
  go_enter Tryz.func201,Tryz.ntmps201
  go_wp2_with fail
  refine HN.out.mono ?_;rintro e w1 ⟨rfl,hq1,hb1⟩;have HQ1:=Hd hq1;have HB1:=Hd hb1;clear hq1 hb1
  go_wp2_with fail
  exact⟨rfl,turn_bad HM.out HQ1.out HB1.out⟩
 | ok u q1=>
  have HN:=Hd (QPost.ok_ HTK.out hn1);clear HTK hn1
  show Calls _ _ _ _ (Turn w b A n c all va st vp L ft ((armP q1).bind fun a r=>(needP [45,62] r).bind fun _ r=>.ok ([.m .arrow,.sign [41],.more (addArm x a) f],ps,sz) r))
  cases ha:armP q1 with
  | bad q=>
   go_enter Tryz.func201,Tryz.ntmps201
   go_wp2_with fail
   refine HN.out.mono ?_;rintro e w1 ⟨rfl,hq1,hb1⟩;have HARM:=Hd fun w2 (hb:Below w1.heap.size w1 w2)=>QPost.bad_ (rrArm (hq1.below hb)) ha;obtain⟨hM1,hT1⟩:=HM.out.move hq1 hb1;have HB1:=Hd hb1;have HZ1:=Hd (HZ.out.up hT1 (b_sub HM.out));have d0:=HZ1.out.at_ 0 p0 _ rfl;have d3:=HZ1.out.at_ 1 p3 _ rfl;have v4:=(HR.out.stay hT1 (by simpa using hs1)).cells.2.2.2.2.1;clear hq1 hb1 hM1 hT1 c0 HN HZ ha
   go_upto_region 1 with(fail)
   refine wp_region_held_drew (S:=(fun W=>W.cell? ⟨p0,0,none⟩=some (rp b)∧W.cell? ⟨p3,0,none⟩=some (rp eb))) (by kernel_rfl) ?_ (fun hHeld=>?_)
   · exact⟨d0,d3⟩
   refine wpAnyH_take (i:=0) (oi:=?oi1) (v:=rp eb) ?h1x1 (by kernel_rfl) ?h3x1 (by kernel_rfl) ?h5x1 (Or.inl ⟨?h6x1,?h7x1⟩) hHeld ?h8x1
   case h1x1=>
    simp only[Ya,Yb,Yc];rfl
   case h3x1=>kernel_rfl
   case h5x1=>exact fun _ _ _ h=>h
   case h6x1=>rfl
   case h7x1=>
    intro W hSW
    (try dsimp only at hSW)
    go_split_ands
    first | (go_simp;done) | (go_simp;with_reducible rfl)
   (try simp only[Act.put,Yd,Ye,Yf])
   refine wpAnyH_take (i:=1) (oi:=?oi2) (v:=rp eb) ?h1x2 (by kernel_rfl) ?h3x2 (by kernel_rfl) ?h5x2 (Or.inl ⟨?h6x2,?h7x2⟩) hHeld ?h8x2
   case h1x2=>
    simp only[Ya,Yb,Yc];rfl
   case h3x2=>kernel_rfl
   case h5x2=>exact fun _ _ _ h=>h
   case h6x2=>rfl
   case h7x2=>
    intro W hSW
    (try dsimp only at hSW)
    go_split_ands
    first | (go_simp;done) | (go_simp;with_reducible rfl)
   (try simp only[Act.put,Yd,Ye,Yf])
   refine wpAnyH_take (i:=2) (oi:=?oi3) (v:=rp eb) ?h1x3 (by kernel_rfl) ?h3x3 (by kernel_rfl) ?h5x3 (Or.inl ⟨?h6x3,?h7x3⟩) hHeld ?h8x3
   case h1x3=>
    simp only[Ya,Yb,Yc];rfl
   case h3x3=>kernel_rfl
   case h5x3=>exact fun _ _ _ h=>h
   case h6x3=>rfl
   case h7x3=>
    intro W hSW
    (try dsimp only at hSW)
    go_split_ands
    first | (go_simp;done) | (go_simp;with_reducible rfl)
   (try simp only[Act.put,Yd,Ye,Yf])
   refine wpAnyH_take (i:=3) (oi:=?oi4) (v:=.pointer (some ⟨eb,4,none⟩)) ?h1x4 (by kernel_rfl) ?h3x4 (by kernel_rfl) ?h5x4 (Or.inl ⟨?h6x4,?h7x4⟩) hHeld ?h8x4
   case h1x4=>
    simp only[Ya,Yb,Yc];rfl
   case h3x4=>kernel_rfl
   case h5x4=>exact fun _ _ _ h=>h
   case h6x4=>rfl
   case h7x4=>
    intro W hSW
    (try dsimp only at hSW)
    go_split_ands
    first | (go_simp;done) | (go_simp;with_reducible rfl)
   (try simp only[Act.put,Yd,Ye,Yf])
   refine wpAnyH_take (i:=5) (oi:=?oi5) (v:=rp b) ?h1x5 (by kernel_rfl) ?h3x5 (by kernel_rfl) ?h5x5 (Or.inl ⟨?h6x5,?h7x5⟩) hHeld ?h8x5
   case h1x5=>
    simp only[Ya,Yb,Yc];rfl
   case h3x5=>kernel_rfl
   case h5x5=>exact fun _ _ _ h=>h
   case h6x5=>rfl
   case h7x5=>
    intro W hSW
    (try dsimp only at hSW)
    go_split_ands
    first | (go_simp;done) | (go_simp;with_reducible rfl)
   (try simp only[Act.put,Yd,Ye,Yf])
   refine wpAnyH_ready (rs:=[4,6]) (by kernel_rfl) (by simp) ?_;refine AllReadyH.cons (by rfl) (fun K hK=>?_) ?_
   · go_simp
     refine hK.out _ _ ?_ (fun hHeld=>?_)
     · exact⟨d0,d3⟩
     clear hK K
     (try simp only[Act.put,Yd,Ye,Yf])
     refine wpAnyH_ready (rs:=[6]) (by kernel_rfl) (by simp) ?_;refine AllReadyH.cons (by rfl) (fun K hK=>?_) ?_
     · go_simp
       go_at_call 58
       refine(HARM.out _ (below_drewN (Below.refl _ _) 1)).mono ?_;rintro e w2 ⟨rfl,hq2,hb2⟩;exact⟨rfl,turn_bad HM.out hq2 (kb_trans HB1.out (kb_undrew hb2))⟩
     exact AllReadyH.nil
   refine AllReadyH.cons (by rfl) (fun K hK=>?_) ?_
   · go_simp
     go_at_call 58
     refine(HARM.out _ (below_drewN (Below.refl _ _) 1)).mono ?_;rintro e w2 ⟨rfl,hq2,hb2⟩;exact⟨rfl,turn_bad HM.out hq2 (kb_trans HB1.out (kb_undrew hb2))⟩
   exact AllReadyH.nil
  | ok a q2=>
   show Calls _ _ _ _ (Turn w b A n c all va st vp L ft ((needP [45,62] q2).bind fun _ r=>.ok ([.m .arrow,.sign [41],.more (addArm x a) f],ps,sz) r))
   go_enter Tryz.func201,Tryz.ntmps201
   go_wp2_with fail
   refine HN.out.mono ?_;rintro e w1 ⟨rfl,hq1,hb1⟩;have HARM:=Hd fun w2 (hb:Below w1.heap.size w1 w2)=>QPost.ok_ (rrArm (hq1.below hb)) ha;obtain⟨hM1,hT1⟩:=HM.out.move hq1 hb1;have HM1:=Hd hM1;have HT1:=Hd hT1;have HZ1:=Hd (HZ.out.up hT1 (b_sub HM.out));have HR1:=Hd (HR.out.stay hT1 (by simpa using hs1));have HO1:=Hd (own_other HO.out fun k hk=>hT1.block k (HO.out.lt k hk).2 (fun e=>by rw[List.mem_singleton.1 e] at hk;exact hbo hk));have d0:=HZ1.out.at_ 0 p0 _ rfl;have d3:=HZ1.out.at_ 1 p3 _ rfl;have v4:=HR1.out.cells.2.2.2.2.1;clear hq1 hb1 hM1 hT1 c0 HN HZ ha HR HO
   go_upto_region 1 with(fail)
   refine wp_region_held_drew (S:=(fun W=>W.cell? ⟨p0,0,none⟩=some (rp b)∧W.cell? ⟨p3,0,none⟩=some (rp eb))) (by kernel_rfl) ?_ (fun hHeld=>?_)
   · exact⟨d0,d3⟩
   refine wpAnyH_take (i:=0) (oi:=?oi6) (v:=rp eb) ?h1x6 (by kernel_rfl) ?h3x6 (by kernel_rfl) ?h5x6 (Or.inl ⟨?h6x6,?h7x6⟩) hHeld ?h8x6
   case h1x6=>
    simp only[Ya,Yb,Yc];rfl
   case h3x6=>kernel_rfl
   case h5x6=>exact fun _ _ _ h=>h
   case h6x6=>rfl
   case h7x6=>
    intro W hSW
    (try dsimp only at hSW)
    go_split_ands
    first | (go_simp;done) | (go_simp;with_reducible rfl)
   (try simp only[Act.put,Yd,Ye,Yf])
   refine wpAnyH_take (i:=1) (oi:=?oi7) (v:=rp eb) ?h1x7 (by kernel_rfl) ?h3x7 (by kernel_rfl) ?h5x7 (Or.inl ⟨?h6x7,?h7x7⟩) hHeld ?h8x7
   case h1x7=>
    simp only[Ya,Yb,Yc];rfl
   case h3x7=>kernel_rfl
   case h5x7=>exact fun _ _ _ h=>h
   case h6x7=>rfl
   case h7x7=>
    intro W hSW
    (try dsimp only at hSW)
    go_split_ands
    first | (go_simp;done) | (go_simp;with_reducible rfl)
   (try simp only[Act.put,Yd,Ye,Yf])
   refine wpAnyH_take (i:=2) (oi:=?oi8) (v:=rp eb) ?h1x8 (by kernel_rfl) ?h3x8 (by kernel_rfl) ?h5x8 (Or.inl ⟨?h6x8,?h7x8⟩) hHeld ?h8x8
   case h1x8=>
    simp only[Ya,Yb,Yc];rfl
   case h3x8=>kernel_rfl
   case h5x8=>exact fun _ _ _ h=>h
   case h6x8=>rfl
   case h7x8=>
    intro W hSW
    (try dsimp only at hSW)
    go_split_ands
    first | (go_simp;done) | (go_simp;with_reducible rfl)
   (try simp only[Act.put,Yd,Ye,Yf])
   refine wpAnyH_take (i:=3) (oi:=?oi9) (v:=.pointer (some ⟨eb,4,none⟩)) ?h1x9 (by kernel_rfl) ?h3x9 (by kernel_rfl) ?h5x9 (Or.inl ⟨?h6x9,?h7x9⟩) hHeld ?h8x9
   case h1x9=>
    simp only[Ya,Yb,Yc];rfl
   case h3x9=>kernel_rfl
   case h5x9=>exact fun _ _ _ h=>h
   case h6x9=>rfl
   case h7x9=>
    intro W hSW
    (try dsimp only at hSW)
    go_split_ands
    first | (go_simp;done) | (go_simp;with_reducible rfl)
   (try simp only[Act.put,Yd,Ye,Yf])
   refine wpAnyH_take (i:=5) (oi:=?oi10) (v:=rp b) ?h1x10 (by kernel_rfl) ?h3x10 (by kernel_rfl) ?h5x10 (Or.inl ⟨?h6x10,?h7x10⟩) hHeld ?h8x10
   case h1x10=>
    simp only[Ya,Yb,Yc];rfl
   case h3x10=>kernel_rfl
   case h5x10=>exact fun _ _ _ h=>h
   case h6x10=>rfl
   case h7x10=>
    intro W hSW
    (try dsimp only at hSW)
    go_split_ands
    first | (go_simp;done) | (go_simp;with_reducible rfl)
   (try simp only[Act.put,Yd,Ye,Yf])
   refine wpAnyH_ready (rs:=[4,6]) (by kernel_rfl) (by simp) ?_;refine AllReadyH.cons (by rfl) (fun K hK=>?_) ?_
   · go_simp
     refine hK.out _ _ ?_ (fun hHeld=>?_)
     · exact⟨d0,d3⟩
     clear hK K
     (try simp only[Act.put,Yd,Ye,Yf])
     refine wpAnyH_ready (rs:=[6]) (by kernel_rfl) (by simp) ?_;refine AllReadyH.cons (by rfl) (fun K hK=>?_) ?_
     · go_simp
       go_at_call 58
       refine(HARM.out _ (below_drewN (Below.refl _ _) 1)).mono ?_;rintro e w2 ⟨rfl,hq2,hb2⟩;obtain⟨hM2,hT2⟩:=HM1.out.move hq2 (kb_undrew hb2);have HM2:=Hd hM2;have HT2:=Hd hT2;have HZ2:=Hd (HZ1.out.up hT2 (b_sub HM1.out));have HR2:=Hd (HR1.out.stay hT2 (by simpa using hs1));have HO2:=Hd fun w' (hb:Below w2.heap.size w2 w')=>own_belowX (own_other HO1.out fun k hk=>hT2.block k (HO1.out.lt k hk).2 (fun e=>by rw[List.mem_singleton.1 e] at hk;exact hbo hk)) hb;have e0:=HZ2.out.at_ 0 p0 _ rfl;have e3:=HZ2.out.at_ 1 p3 _ rfl;have v4:=HR2.out.cells.2.2.2.2.1;have l0:=World.block_lt_of_cell? _ _ e0;have l3:=World.block_lt_of_cell? _ _ e3;have le:=HR2.out.lt;have HT2w:=Hd (HT1.out.trans hT2 HM.out.lv (fun k hk=>.inl hk));clear hq2 hb2 hM2 hT2;refine hK.out _ _ ?_ (fun hHeld=>?_)
       · exact⟨e0,e3⟩
       clear hK K
       (try simp only[Act.put,Yd,Ye,Yf])
       refine wpAnyH_ready (rs:=[7]) (by kernel_rfl) (by simp) ?_;refine AllReadyH.cons (by rfl) (fun K hK=>?_) ?_
       · go_simp
         refine hK.out _ _ ?_ (fun hHeld=>?_)
         · exact⟨(World.cell?_alloc_lt _ _ _ l0).trans e0,(World.cell?_alloc_lt _ _ _ l3).trans e3⟩
         clear hK K
         (try simp only[Act.put,Yd,Ye,Yf])
         refine wpAnyH_ready (rs:=[8]) (by kernel_rfl) (by simp) ?_;refine AllReadyH.cons (by rfl) (fun K hK=>?_) ?_
         · refine step_append_lies _ (by rfl) _ _ _ (by rfl) 0 9 i0 (.string ⟨#[]⟩) 1 16 Tryz.underlying23 hi hz1 hz0 hz2 rfl (by decide) (.slice Aa x.arms.length ca) x.arms.length (x.arms.map Value.string) (by rfl) (HO2.out _ (by first | exact((Below.refl _ _).alloc (Nat.le_refl _) _) | exact((Below.refl _ _).alloc (Nat.le_refl _) _).drew)) ⟨w2.heap.size,0,none⟩ 1 1 [.string (ofB a)] (by rfl) rfl (cell_one_new _ _ _) (fun u hu=>by rw[List.mem_singleton.1 hu];rfl) (by omega) (by unfold maxLen;omega) (by omega) (Nat.zero_le _) _ rfl ?_;intro g4 c4 w4 hown4 hgrow4 hat4 hlt4;have HOW4:=Hd hown4;have HG4:=Hd hgrow4;have HAT4:=Hd hat4;have hk4:∀ k,k<w2.heap.size→(Value.slice Aa x.arms.length ca).ownBlock≠some k→w4.heap[k]?=w2.heap[k]?:=fun k hk hn=>(hgrow4.block k (by simp;omega) (fun e=>hn e.symm)).trans (heap_alloc_old w2 _ hk);have y0:=(World.cell?_of_block (hk4 p0 l0 na0)).trans e0;have y3:=(World.cell?_of_block (hk4 p3 l3 na3)).trans e3;have y4:=(World.cell?_of_block (hk4 eb le nae)).trans v4;have fz4:w4.frozen? ⟨eb,4,none⟩=false:=(World.frozen?_of_block (hk4 eb le nae)).trans (HR2.out.fz 4);clear hown4 hgrow4 hat4 hk4;refine hK.out _ _ ?_ (fun hHeld=>?_)
           · exact⟨y0,y3⟩
           clear hK K
           (try simp only[Act.put,Yd,Ye,Yf])
           refine wpAnyH_take (i:=9) (oi:=?oi11) (v:=rp eb) ?h1x11 (by kernel_rfl) ?h3x11 (by kernel_rfl) ?h5x11 (Or.inl ⟨?h6x11,?h7x11⟩) hHeld ?h8x11
           case h1x11=>
            simp only[Ya,Yb,Yc];rfl
           case h3x11=>kernel_rfl
           case h5x11=>exact fun _ _ _ h=>h
           case h6x11=>rfl
           case h7x11=>
            intro W hSW
            (try dsimp only at hSW)
            go_split_ands
            first | (go_simp;done) | (go_simp;with_reducible rfl)
           (try simp only[Act.put,Yd,Ye,Yf])
           refine wpAnyH_take (i:=10) (oi:=?oi12) (v:=.pointer (some ⟨eb,4,none⟩)) ?h1x12 (by kernel_rfl) ?h3x12 (by kernel_rfl) ?h5x12 (Or.inl ⟨?h6x12,?h7x12⟩) hHeld ?h8x12
           case h1x12=>
            simp only[Ya,Yb,Yc];rfl
           case h3x12=>kernel_rfl
           case h5x12=>exact fun _ _ _ h=>h
           case h6x12=>rfl
           case h7x12=>
            intro W hSW
            (try dsimp only at hSW)
            go_split_ands
            first | (go_simp;done) | (go_simp;with_reducible rfl)
           (try simp only[Act.put,Yd,Ye,Yf])
           refine wpAnyH_ready (rs:=[11]) (by kernel_rfl) (by simp) ?_;refine AllReadyH.cons (by rfl) (fun K hK=>?_) ?_
           · go_simp
             refine hK.out _ _ ?_ (fun hHeld=>?_)
             · exact⟨(cell_sc _ _ ne0).trans y0,(cell_sc _ _ ne3).trans y3⟩
             clear hK K
             (try simp only[Act.put,Yd,Ye,Yf])
             refine wpAnyH_done (by kernel_rfl) ?_ _
             go_upto_region 2 with(fail)
             have hown4:=HOW4.out;obtain⟨hM5,hA5,hT5,hg5,hge5⟩:=mat_push (a:=a) HM2.out hxs HR2.out (HO2.out w2 (Below.refl _ _)) hLft hv (by first | exact((Below.refl _ _).alloc (Nat.le_refl _) _) | exact((Below.refl _ _).alloc (Nat.le_refl _) _).drew) HG4.out hown4 HAT4.out hlt4;have HM5:=Hd hM5;have HA5:=Hd hA5;have HGE:=Hd hge5;have HT5:=Hd ((HT2w.out.mono (turnS_b (va:=va) (vp:=vp) (ft:=ft))).trans hT5 HM.out.lv (fun k hk=>.inl (turnS_f k (by rw[hft];exact hk))));have hgf:g4∈ft∨w.heap.size≤g4:=hg5.elim (fun h=>.inl (by rw[hft];exact List.mem_cons_of_mem _ h)) (fun h=>.inr (Nat.le_trans HT2w.out.size h));have hS5:∀ k∈eb::(Value.slice Aa x.arms.length ca).ownBlock.toList,k∈L:=hLft;have HZ5:=Hd (HZ2.out.up hT5 hS5);have HMO5:=Hd ((HMO.out.up HT2w.out (b_sub HM.out)).up hT5 hS5);have HSEP:=Hd (mat_sep HM5.out HA5.out hv);clear hM5 hA5 hT5 hg5 hge5 hS5 e0 e3 v4 y0 y3 y4 fz4 l0 l3 le HOW4 HG4 HAT4 HR2 HO2 HM2 HT2 HZ2 hown4;generalize w4.setCell _ _=w5 at *;have d0:=HZ5.out.at_ 0 p0 _ rfl
             cases hn5:needP [45,62] q2 with
             | bad q=>
              have HN5:=Hd (QPost.bad_ (show Calls Tryz.prog 59 #[rp b,.string ⟨#[45,62]⟩] w5 (QPost w5 b A n c all va vp sz (needP [45,62] q2) fun _ e=>e=.returned (.tuple #[])) from rrTake ⟨#[45,62]⟩ ask_arr HM5.out.q) hn5);have HN5E:=Hd hn5;clear hn5
              go_wp2_with fail
              refine HN5.out.mono ?_;rintro e w6 ⟨rfl,hq6,hb6⟩;obtain⟨hM6,hT6⟩:=HM5.out.move hq6 hb6;have HQ6:=Hd hq6;have HT6:=Hd (HT5.out.trans hT6 HM.out.lv (fun k hk=>.inl (turnS_b k hk)));clear hq6 hb6 hM6 hT6
              go_wp2_with fail
              refine⟨rfl,?_⟩;rw[HN5E.out];exact⟨rfl,⟨_,HT6.out⟩,va,vp,sz,HQ6.out.row⟩
             | ok u5 q3=>
              have HN5:=Hd (QPost.ok_ (show Calls Tryz.prog 59 #[rp b,.string ⟨#[45,62]⟩] w5 (QPost w5 b A n c all va vp sz (needP [45,62] q2) fun _ e=>e=.returned (.tuple #[])) from rrTake ⟨#[45,62]⟩ ask_arr HM5.out.q) hn5);have HN5E:=Hd hn5;clear hn5
              go_wp2_with fail
              refine HN5.out.mono ?_;rintro e w6 ⟨rfl,hq6,hb6⟩;obtain⟨hM6,hT6⟩:=HM5.out.move hq6 hb6;have HM6:=Hd hM6;have HT6:=Hd (HT5.out.trans hT6 HM.out.lv (fun k hk=>.inl (turnS_b k hk)));have hnb:∀ k∈[eb,g4],k∉[b]:=fun k hk hb=>(HSEP.out k hk).1 (List.mem_singleton.1 hb);have HA6:=Hd (HA5.out.up hT6 hnb);have HMO6:=Hd (HMO5.out.up hT6 (b_sub HM5.out));have HZ6:=Hd (HZ5.out.up hT6 (b_sub HM5.out));have d0:=HZ6.out.at_ 0 p0 _ rfl;have d1:=HZ6.out.at_ 2 p4 _ rfl;have l0:=World.block_lt_of_cell? _ _ d0;have l1:=World.block_lt_of_cell? _ _ d1;have hsz6:w5.heap.size≤w6.heap.size:=hT6.size;clear hq6 hb6 hM6 hT6 HZ5 HA5 HMO5 HT5
              go_upto_region 3 with(fail)
              go_region_held3 (fun W=>W.cell? ⟨p0,0,none⟩=some (rp b)∧W.cell? ⟨p4,0,none⟩=some (fnV 200 #[rp p0,rp p1,rp p2])) (first | exact⟨d0,d1⟩ | exact⟨e0,e1⟩ | exact⟨(World.cell?_alloc_lt _ _ _ m0).trans e0,(World.cell?_alloc_lt _ _ _ m1).trans e1⟩ | exact⟨f0,f1⟩)
               ((first
                 | (go_at_call 187;refine(rrSign (b:=b) ⟨#[41]⟩ _).mono ?_;rintro e Ws ⟨s0,s1,rfl,hbs,hps,hc0,hc1⟩;have HBs:Hid (Below w6.heap.size w6 Ws):=Hd (by first | exact hbs | exact below_undrew (m:=1) hbs);have HPs:Hid (w6.heap.size≤s0∧w6.heap.size≤s1):=Hd hps;have HC0:=Hd hc0;have HC1:=Hd hc1;have HZs:=Hd (HZ6.out.up (Tn.of_below (S:=[]) HBs.out) nil_sub);have e0:=HZs.out.at_ 0 p0 _ rfl;have e1:=HZs.out.at_ 2 p4 _ rfl;have m0:=World.block_lt_of_cell? _ _ e0;have m1:=World.block_lt_of_cell? _ _ e1;clear hbs hps hc0 hc1)
                 | (go_at_call 50;refine(rrNextA [lvV b .arrow,fnV 199 #[rp s0,rp s1],fnV 200 #[rp p0,rp p1,rp p2]] 1 (by simp) (HM6.out.below HBs.out) (by omega) (fns_cons (fns_cons (fns_cons fns_nil)))).mono ?_;rintro e Wb ⟨rfl,hx⟩;have HX:=Hd hx;obtain⟨va2,L3,hM3,hT3,hg3⟩:=hx;have HZb:=Hd ((HZs.out.up (tn_alloc _) nil_sub).up hT3 (push_sub (HM6.out.below HBs.out)));have f0:=HZb.out.at_ 0 p0 _ rfl;have f1:=HZb.out.at_ 2 p4 _ rfl;clear hM3 hT3 hg3)))
              all_goals
               go_wp2_with fail
               go_end0
               have hal:=(Tn.of_below (S:=[]) (L:=g4::L) HBs.out).trans (tn_alloc (L:=g4::L) (w:=Ws) (.cells #[lvV b .arrow,fnV 199 #[rp s0,rp s1],fnV 200 #[rp p0,rp p1,rp p2]] 1)) HM6.out.lv (fun k hk=>absurd hk List.not_mem_nil);have hni:∀ s,w6.heap.size≤s→s∉g4::L:=fun s hs hk=>by have:=HM6.out.lv s hk;omega
               have hcs:∀ s v,Ws.cell? ⟨s,0,none⟩=some v→w6.heap.size≤s→Fz (g4::L) (Ws.alloc (.cells #[lvV b .arrow,fnV 199 #[rp s0,rp s1],fnV 200 #[rp p0,rp p1,rp p2]] 1)) s v:=fun s v hv hs=>Fz.new ((World.cell?_alloc_lt _ _ _ (World.block_lt_of_cell? _ _ hv)).trans hv) (hni s hs);rw[HN5E.out];refine turn_next (new:=[.m .arrow,.sign [41],.more (addArm x a) f]) (vt:=[lvV b .arrow,fnV 199 #[rp s0,rp s1],fnV 200 #[rp p0,rp p1,rp p2]]) (fts:=[eb,g4]) HM.out (HT6.out.trans hal HM.out.lv (fun k hk=>absurd hk List.not_mem_nil)) ((HM6.out.below HBs.out).alloc _) (GoesV.refl _ _) ?_ ?_ (fun k hk=>?_) (fun k hk=>?_) ⟨rfl,HX.out⟩
               · exact⟨[],[eb,g4],rfl,⟨rfl,rfl⟩,[],[eb,g4],rfl,⟨rfl,ask_41,s0,s1,rfl,hcs _ _ HC0.out HPs.out.1,hcs _ _ HC1.out HPs.out.2⟩,[eb,g4],[],rfl,⟨eb,HA6.out.up hal (fun k hk=>List.not_mem_nil),HMO6.out.up hal nil_sub⟩,rfl⟩
               · simp[Ne.symm HGE.out]
               · simp only[List.mem_cons,List.not_mem_nil,or_false] at hk;rcases hk with rfl | rfl
                 · exact .inl (by rw[hft];exact List.mem_cons_self)
                 · exact hgf
               · obtain⟨t1,t2,t3,t4⟩:=HSEP.out k hk;exact⟨t1,t2,t3,Nat.lt_of_lt_of_le t4 (Nat.le_trans hsz6 hal.size)⟩
           exact AllReadyH.nil
         exact AllReadyH.nil
       exact AllReadyH.nil
     exact AllReadyH.nil
   refine AllReadyH.cons (by rfl) (fun K hK=>?_) ?_
   · go_simp
     go_at_call 58
     refine(HARM.out _ (below_drewN (Below.refl _ _) 1)).mono ?_;rintro e w2 ⟨rfl,hq2,hb2⟩;obtain⟨hM2,hT2⟩:=HM1.out.move hq2 (kb_undrew hb2);have HM2:=Hd hM2;have HT2:=Hd hT2;have HZ2:=Hd (HZ1.out.up hT2 (b_sub HM1.out));have HR2:=Hd (HR1.out.stay hT2 (by simpa using hs1));have HO2:=Hd fun w' (hb:Below w2.heap.size w2 w')=>own_belowX (own_other HO1.out fun k hk=>hT2.block k (HO1.out.lt k hk).2 (fun e=>by rw[List.mem_singleton.1 e] at hk;exact hbo hk)) hb;have e0:=HZ2.out.at_ 0 p0 _ rfl;have e3:=HZ2.out.at_ 1 p3 _ rfl;have v4:=HR2.out.cells.2.2.2.2.1;have l0:=World.block_lt_of_cell? _ _ e0;have l3:=World.block_lt_of_cell? _ _ e3;have le:=HR2.out.lt;have HT2w:=Hd (HT1.out.trans hT2 HM.out.lv (fun k hk=>.inl hk));clear hq2 hb2 hM2 hT2;refine hK.out _ _ ?_ (fun hHeld=>?_)
     · exact⟨e0,e3⟩
     clear hK K
     (try simp only[Act.put,Yd,Ye,Yf])
     refine wpAnyH_ready (rs:=[4,7]) (by kernel_rfl) (by simp) ?_;refine AllReadyH.cons (by rfl) (fun K hK=>?_) ?_
     · go_simp
       refine hK.out _ _ ?_ (fun hHeld=>?_)
       · exact⟨e0,e3⟩
       clear hK K
       (try simp only[Act.put,Yd,Ye,Yf])
       refine wpAnyH_ready (rs:=[7]) (by kernel_rfl) (by simp) ?_;refine AllReadyH.cons (by rfl) (fun K hK=>?_) ?_
       · go_simp
         refine hK.out _ _ ?_ (fun hHeld=>?_)
         · exact⟨(World.cell?_alloc_lt _ _ _ l0).trans e0,(World.cell?_alloc_lt _ _ _ l3).trans e3⟩
         clear hK K
         (try simp only[Act.put,Yd,Ye,Yf])
         refine wpAnyH_ready (rs:=[8]) (by kernel_rfl) (by simp) ?_;refine AllReadyH.cons (by rfl) (fun K hK=>?_) ?_
         · refine step_append_lies _ (by rfl) _ _ _ (by rfl) 0 9 i0 (.string ⟨#[]⟩) 1 16 Tryz.underlying23 hi hz1 hz0 hz2 rfl (by decide) (.slice Aa x.arms.length ca) x.arms.length (x.arms.map Value.string) (by rfl) (HO2.out _ (by first | exact((Below.refl _ _).alloc (Nat.le_refl _) _) | exact((Below.refl _ _).alloc (Nat.le_refl _) _).drew)) ⟨w2.heap.size,0,none⟩ 1 1 [.string (ofB a)] (by rfl) rfl (cell_one_new _ _ _) (fun u hu=>by rw[List.mem_singleton.1 hu];rfl) (by omega) (by unfold maxLen;omega) (by omega) (Nat.zero_le _) _ rfl ?_;intro g4 c4 w4 hown4 hgrow4 hat4 hlt4;have HOW4:=Hd hown4;have HG4:=Hd hgrow4;have HAT4:=Hd hat4;have hk4:∀ k,k<w2.heap.size→(Value.slice Aa x.arms.length ca).ownBlock≠some k→w4.heap[k]?=w2.heap[k]?:=fun k hk hn=>(hgrow4.block k (by simp;omega) (fun e=>hn e.symm)).trans (heap_alloc_old w2 _ hk);have y0:=(World.cell?_of_block (hk4 p0 l0 na0)).trans e0;have y3:=(World.cell?_of_block (hk4 p3 l3 na3)).trans e3;have y4:=(World.cell?_of_block (hk4 eb le nae)).trans v4;have fz4:w4.frozen? ⟨eb,4,none⟩=false:=(World.frozen?_of_block (hk4 eb le nae)).trans (HR2.out.fz 4);clear hown4 hgrow4 hat4 hk4;refine hK.out _ _ ?_ (fun hHeld=>?_)
           · exact⟨y0,y3⟩
           clear hK K
           (try simp only[Act.put,Yd,Ye,Yf])
           refine wpAnyH_take (i:=9) (oi:=?oi13) (v:=rp eb) ?h1x13 (by kernel_rfl) ?h3x13 (by kernel_rfl) ?h5x13 (Or.inl ⟨?h6x13,?h7x13⟩) hHeld ?h8x13
           case h1x13=>
            simp only[Ya,Yb,Yc];rfl
           case h3x13=>kernel_rfl
           case h5x13=>exact fun _ _ _ h=>h
           case h6x13=>rfl
           case h7x13=>
            intro W hSW
            (try dsimp only at hSW)
            go_split_ands
            first | (go_simp;done) | (go_simp;with_reducible rfl)
           (try simp only[Act.put,Yd,Ye,Yf])
           refine wpAnyH_take (i:=10) (oi:=?oi14) (v:=.pointer (some ⟨eb,4,none⟩)) ?h1x14 (by kernel_rfl) ?h3x14 (by kernel_rfl) ?h5x14 (Or.inl ⟨?h6x14,?h7x14⟩) hHeld ?h8x14
           case h1x14=>
            simp only[Ya,Yb,Yc];rfl
           case h3x14=>kernel_rfl
           case h5x14=>exact fun _ _ _ h=>h
           case h6x14=>rfl
           case h7x14=>
            intro W hSW
            (try dsimp only at hSW)
            go_split_ands
            first | (go_simp;done) | (go_simp;with_reducible rfl)
           (try simp only[Act.put,Yd,Ye,Yf])
           refine wpAnyH_ready (rs:=[11]) (by kernel_rfl) (by simp) ?_;refine AllReadyH.cons (by rfl) (fun K hK=>?_) ?_
           · go_simp
             refine hK.out _ _ ?_ (fun hHeld=>?_)
             · exact⟨(cell_sc _ _ ne0).trans y0,(cell_sc _ _ ne3).trans y3⟩
             clear hK K
             (try simp only[Act.put,Yd,Ye,Yf])
             refine wpAnyH_done (by kernel_rfl) ?_ _
             go_upto_region 2 with(fail)
             have hown4:=HOW4.out;obtain⟨hM5,hA5,hT5,hg5,hge5⟩:=mat_push (a:=a) HM2.out hxs HR2.out (HO2.out w2 (Below.refl _ _)) hLft hv (by first | exact((Below.refl _ _).alloc (Nat.le_refl _) _) | exact((Below.refl _ _).alloc (Nat.le_refl _) _).drew) HG4.out hown4 HAT4.out hlt4;have HM5:=Hd hM5;have HA5:=Hd hA5;have HGE:=Hd hge5;have HT5:=Hd ((HT2w.out.mono (turnS_b (va:=va) (vp:=vp) (ft:=ft))).trans hT5 HM.out.lv (fun k hk=>.inl (turnS_f k (by rw[hft];exact hk))));have hgf:g4∈ft∨w.heap.size≤g4:=hg5.elim (fun h=>.inl (by rw[hft];exact List.mem_cons_of_mem _ h)) (fun h=>.inr (Nat.le_trans HT2w.out.size h));have hS5:∀ k∈eb::(Value.slice Aa x.arms.length ca).ownBlock.toList,k∈L:=hLft;have HZ5:=Hd (HZ2.out.up hT5 hS5);have HMO5:=Hd ((HMO.out.up HT2w.out (b_sub HM.out)).up hT5 hS5);have HSEP:=Hd (mat_sep HM5.out HA5.out hv);clear hM5 hA5 hT5 hg5 hge5 hS5 e0 e3 v4 y0 y3 y4 fz4 l0 l3 le HOW4 HG4 HAT4 HR2 HO2 HM2 HT2 HZ2 hown4;generalize w4.setCell _ _=w5 at *;have d0:=HZ5.out.at_ 0 p0 _ rfl
             cases hn5:needP [45,62] q2 with
             | bad q=>
              have HN5:=Hd (QPost.bad_ (show Calls Tryz.prog 59 #[rp b,.string ⟨#[45,62]⟩] w5 (QPost w5 b A n c all va vp sz (needP [45,62] q2) fun _ e=>e=.returned (.tuple #[])) from rrTake ⟨#[45,62]⟩ ask_arr HM5.out.q) hn5);have HN5E:=Hd hn5;clear hn5
              go_wp2_with fail
              refine HN5.out.mono ?_;rintro e w6 ⟨rfl,hq6,hb6⟩;obtain⟨hM6,hT6⟩:=HM5.out.move hq6 hb6;have HQ6:=Hd hq6;have HT6:=Hd (HT5.out.trans hT6 HM.out.lv (fun k hk=>.inl (turnS_b k hk)));clear hq6 hb6 hM6 hT6
              go_wp2_with fail
              refine⟨rfl,?_⟩;rw[HN5E.out];exact⟨rfl,⟨_,HT6.out⟩,va,vp,sz,HQ6.out.row⟩
             | ok u5 q3=>
              have HN5:=Hd (QPost.ok_ (show Calls Tryz.prog 59 #[rp b,.string ⟨#[45,62]⟩] w5 (QPost w5 b A n c all va vp sz (needP [45,62] q2) fun _ e=>e=.returned (.tuple #[])) from rrTake ⟨#[45,62]⟩ ask_arr HM5.out.q) hn5);have HN5E:=Hd hn5;clear hn5
              go_wp2_with fail
              refine HN5.out.mono ?_;rintro e w6 ⟨rfl,hq6,hb6⟩;obtain⟨hM6,hT6⟩:=HM5.out.move hq6 hb6;have HM6:=Hd hM6;have HT6:=Hd (HT5.out.trans hT6 HM.out.lv (fun k hk=>.inl (turnS_b k hk)));have hnb:∀ k∈[eb,g4],k∉[b]:=fun k hk hb=>(HSEP.out k hk).1 (List.mem_singleton.1 hb);have HA6:=Hd (HA5.out.up hT6 hnb);have HMO6:=Hd (HMO5.out.up hT6 (b_sub HM5.out));have HZ6:=Hd (HZ5.out.up hT6 (b_sub HM5.out));have d0:=HZ6.out.at_ 0 p0 _ rfl;have d1:=HZ6.out.at_ 2 p4 _ rfl;have l0:=World.block_lt_of_cell? _ _ d0;have l1:=World.block_lt_of_cell? _ _ d1;have hsz6:w5.heap.size≤w6.heap.size:=hT6.size;clear hq6 hb6 hM6 hT6 HZ5 HA5 HMO5 HT5
              go_upto_region 3 with(fail)
              go_region_held3 (fun W=>W.cell? ⟨p0,0,none⟩=some (rp b)∧W.cell? ⟨p4,0,none⟩=some (fnV 200 #[rp p0,rp p1,rp p2])) (first | exact⟨d0,d1⟩ | exact⟨e0,e1⟩ | exact⟨(World.cell?_alloc_lt _ _ _ m0).trans e0,(World.cell?_alloc_lt _ _ _ m1).trans e1⟩ | exact⟨f0,f1⟩)
               ((first
                 | (go_at_call 187;refine(rrSign (b:=b) ⟨#[41]⟩ _).mono ?_;rintro e Ws ⟨s0,s1,rfl,hbs,hps,hc0,hc1⟩;have HBs:Hid (Below w6.heap.size w6 Ws):=Hd (by first | exact hbs | exact below_undrew (m:=1) hbs);have HPs:Hid (w6.heap.size≤s0∧w6.heap.size≤s1):=Hd hps;have HC0:=Hd hc0;have HC1:=Hd hc1;have HZs:=Hd (HZ6.out.up (Tn.of_below (S:=[]) HBs.out) nil_sub);have e0:=HZs.out.at_ 0 p0 _ rfl;have e1:=HZs.out.at_ 2 p4 _ rfl;have m0:=World.block_lt_of_cell? _ _ e0;have m1:=World.block_lt_of_cell? _ _ e1;clear hbs hps hc0 hc1)
                 | (go_at_call 50;refine(rrNextA [lvV b .arrow,fnV 199 #[rp s0,rp s1],fnV 200 #[rp p0,rp p1,rp p2]] 1 (by simp) (HM6.out.below HBs.out) (by omega) (fns_cons (fns_cons (fns_cons fns_nil)))).mono ?_;rintro e Wb ⟨rfl,hx⟩;have HX:=Hd hx;obtain⟨va2,L3,hM3,hT3,hg3⟩:=hx;have HZb:=Hd ((HZs.out.up (tn_alloc _) nil_sub).up hT3 (push_sub (HM6.out.below HBs.out)));have f0:=HZb.out.at_ 0 p0 _ rfl;have f1:=HZb.out.at_ 2 p4 _ rfl;clear hM3 hT3 hg3)))
              all_goals
               go_wp2_with fail
               go_end0
               have hal:=(Tn.of_below (S:=[]) (L:=g4::L) HBs.out).trans (tn_alloc (L:=g4::L) (w:=Ws) (.cells #[lvV b .arrow,fnV 199 #[rp s0,rp s1],fnV 200 #[rp p0,rp p1,rp p2]] 1)) HM6.out.lv (fun k hk=>absurd hk List.not_mem_nil);have hni:∀ s,w6.heap.size≤s→s∉g4::L:=fun s hs hk=>by have:=HM6.out.lv s hk;omega
               have hcs:∀ s v,Ws.cell? ⟨s,0,none⟩=some v→w6.heap.size≤s→Fz (g4::L) (Ws.alloc (.cells #[lvV b .arrow,fnV 199 #[rp s0,rp s1],fnV 200 #[rp p0,rp p1,rp p2]] 1)) s v:=fun s v hv hs=>Fz.new ((World.cell?_alloc_lt _ _ _ (World.block_lt_of_cell? _ _ hv)).trans hv) (hni s hs);rw[HN5E.out];refine turn_next (new:=[.m .arrow,.sign [41],.more (addArm x a) f]) (vt:=[lvV b .arrow,fnV 199 #[rp s0,rp s1],fnV 200 #[rp p0,rp p1,rp p2]]) (fts:=[eb,g4]) HM.out (HT6.out.trans hal HM.out.lv (fun k hk=>absurd hk List.not_mem_nil)) ((HM6.out.below HBs.out).alloc _) (GoesV.refl _ _) ?_ ?_ (fun k hk=>?_) (fun k hk=>?_) ⟨rfl,HX.out⟩
               · exact⟨[],[eb,g4],rfl,⟨rfl,rfl⟩,[],[eb,g4],rfl,⟨rfl,ask_41,s0,s1,rfl,hcs _ _ HC0.out HPs.out.1,hcs _ _ HC1.out HPs.out.2⟩,[eb,g4],[],rfl,⟨eb,HA6.out.up hal (fun k hk=>List.not_mem_nil),HMO6.out.up hal nil_sub⟩,rfl⟩
               · simp[Ne.symm HGE.out]
               · simp only[List.mem_cons,List.not_mem_nil,or_false] at hk;rcases hk with rfl | rfl
                 · exact .inl (by rw[hft];exact List.mem_cons_self)
                 · exact hgf
               · obtain⟨t1,t2,t3,t4⟩:=HSEP.out k hk;exact⟨t1,t2,t3,Nat.lt_of_lt_of_le t4 (Nat.le_trans hsz6 hal.size)⟩
           exact AllReadyH.nil
         exact AllReadyH.nil
       exact AllReadyH.nil
     refine AllReadyH.cons (by rfl) (fun K hK=>?_) ?_
     · go_simp
       refine hK.out _ _ ?_ (fun hHeld=>?_)
       · exact⟨(World.cell?_alloc_lt _ _ _ l0).trans e0,(World.cell?_alloc_lt _ _ _ l3).trans e3⟩
       clear hK K
       (try simp only[Act.put,Yd,Ye,Yf])
       refine wpAnyH_ready (rs:=[4]) (by kernel_rfl) (by simp) ?_;refine AllReadyH.cons (by rfl) (fun K hK=>?_) ?_
       · go_simp
         refine hK.out _ _ ?_ (fun hHeld=>?_)
         · exact⟨(World.cell?_alloc_lt _ _ _ l0).trans e0,(World.cell?_alloc_lt _ _ _ l3).trans e3⟩
         clear hK K
         (try simp only[Act.put,Yd,Ye,Yf])
         refine wpAnyH_ready (rs:=[8]) (by kernel_rfl) (by simp) ?_;refine AllReadyH.cons (by rfl) (fun K hK=>?_) ?_
         · refine step_append_lies _ (by rfl) _ _ _ (by rfl) 0 9 i0 (.string ⟨#[]⟩) 1 16 Tryz.underlying23 hi hz1 hz0 hz2 rfl (by decide) (.slice Aa x.arms.length ca) x.arms.length (x.arms.map Value.string) (by rfl) (HO2.out _ (by first | exact((Below.refl _ _).alloc (Nat.le_refl _) _) | exact((Below.refl _ _).alloc (Nat.le_refl _) _).drew)) ⟨w2.heap.size,0,none⟩ 1 1 [.string (ofB a)] (by rfl) rfl (cell_one_new _ _ _) (fun u hu=>by rw[List.mem_singleton.1 hu];rfl) (by omega) (by unfold maxLen;omega) (by omega) (Nat.zero_le _) _ rfl ?_;intro g4 c4 w4 hown4 hgrow4 hat4 hlt4;have HOW4:=Hd hown4;have HG4:=Hd hgrow4;have HAT4:=Hd hat4;have hk4:∀ k,k<w2.heap.size→(Value.slice Aa x.arms.length ca).ownBlock≠some k→w4.heap[k]?=w2.heap[k]?:=fun k hk hn=>(hgrow4.block k (by simp;omega) (fun e=>hn e.symm)).trans (heap_alloc_old w2 _ hk);have y0:=(World.cell?_of_block (hk4 p0 l0 na0)).trans e0;have y3:=(World.cell?_of_block (hk4 p3 l3 na3)).trans e3;have y4:=(World.cell?_of_block (hk4 eb le nae)).trans v4;have fz4:w4.frozen? ⟨eb,4,none⟩=false:=(World.frozen?_of_block (hk4 eb le nae)).trans (HR2.out.fz 4);clear hown4 hgrow4 hat4 hk4;refine hK.out _ _ ?_ (fun hHeld=>?_)
           · exact⟨y0,y3⟩
           clear hK K
           (try simp only[Act.put,Yd,Ye,Yf])
           refine wpAnyH_take (i:=9) (oi:=?oi15) (v:=rp eb) ?h1x15 (by kernel_rfl) ?h3x15 (by kernel_rfl) ?h5x15 (Or.inl ⟨?h6x15,?h7x15⟩) hHeld ?h8x15
           case h1x15=>
            simp only[Ya,Yb,Yc];rfl
           case h3x15=>kernel_rfl
           case h5x15=>exact fun _ _ _ h=>h
           case h6x15=>rfl
           case h7x15=>
            intro W hSW
            (try dsimp only at hSW)
            go_split_ands
            first | (go_simp;done) | (go_simp;with_reducible rfl)
           (try simp only[Act.put,Yd,Ye,Yf])
           refine wpAnyH_take (i:=10) (oi:=?oi16) (v:=.pointer (some ⟨eb,4,none⟩)) ?h1x16 (by kernel_rfl) ?h3x16 (by kernel_rfl) ?h5x16 (Or.inl ⟨?h6x16,?h7x16⟩) hHeld ?h8x16
           case h1x16=>
            simp only[Ya,Yb,Yc];rfl
           case h3x16=>kernel_rfl
           case h5x16=>exact fun _ _ _ h=>h
           case h6x16=>rfl
           case h7x16=>
            intro W hSW
            (try dsimp only at hSW)
            go_split_ands
            first | (go_simp;done) | (go_simp;with_reducible rfl)
           (try simp only[Act.put,Yd,Ye,Yf])
           refine wpAnyH_ready (rs:=[11]) (by kernel_rfl) (by simp) ?_;refine AllReadyH.cons (by rfl) (fun K hK=>?_) ?_
           · go_simp
             refine hK.out _ _ ?_ (fun hHeld=>?_)
             · exact⟨(cell_sc _ _ ne0).trans y0,(cell_sc _ _ ne3).trans y3⟩
             clear hK K
             (try simp only[Act.put,Yd,Ye,Yf])
             refine wpAnyH_done (by kernel_rfl) ?_ _
             go_upto_region 2 with(fail)
             have hown4:=HOW4.out;obtain⟨hM5,hA5,hT5,hg5,hge5⟩:=mat_push (a:=a) HM2.out hxs HR2.out (HO2.out w2 (Below.refl _ _)) hLft hv (by first | exact((Below.refl _ _).alloc (Nat.le_refl _) _) | exact((Below.refl _ _).alloc (Nat.le_refl _) _).drew) HG4.out hown4 HAT4.out hlt4;have HM5:=Hd hM5;have HA5:=Hd hA5;have HGE:=Hd hge5;have HT5:=Hd ((HT2w.out.mono (turnS_b (va:=va) (vp:=vp) (ft:=ft))).trans hT5 HM.out.lv (fun k hk=>.inl (turnS_f k (by rw[hft];exact hk))));have hgf:g4∈ft∨w.heap.size≤g4:=hg5.elim (fun h=>.inl (by rw[hft];exact List.mem_cons_of_mem _ h)) (fun h=>.inr (Nat.le_trans HT2w.out.size h));have hS5:∀ k∈eb::(Value.slice Aa x.arms.length ca).ownBlock.toList,k∈L:=hLft;have HZ5:=Hd (HZ2.out.up hT5 hS5);have HMO5:=Hd ((HMO.out.up HT2w.out (b_sub HM.out)).up hT5 hS5);have HSEP:=Hd (mat_sep HM5.out HA5.out hv);clear hM5 hA5 hT5 hg5 hge5 hS5 e0 e3 v4 y0 y3 y4 fz4 l0 l3 le HOW4 HG4 HAT4 HR2 HO2 HM2 HT2 HZ2 hown4;generalize w4.setCell _ _=w5 at *;have d0:=HZ5.out.at_ 0 p0 _ rfl
             cases hn5:needP [45,62] q2 with
             | bad q=>
              have HN5:=Hd (QPost.bad_ (show Calls Tryz.prog 59 #[rp b,.string ⟨#[45,62]⟩] w5 (QPost w5 b A n c all va vp sz (needP [45,62] q2) fun _ e=>e=.returned (.tuple #[])) from rrTake ⟨#[45,62]⟩ ask_arr HM5.out.q) hn5);have HN5E:=Hd hn5;clear hn5
              go_wp2_with fail
              refine HN5.out.mono ?_;rintro e w6 ⟨rfl,hq6,hb6⟩;obtain⟨hM6,hT6⟩:=HM5.out.move hq6 hb6;have HQ6:=Hd hq6;have HT6:=Hd (HT5.out.trans hT6 HM.out.lv (fun k hk=>.inl (turnS_b k hk)));clear hq6 hb6 hM6 hT6
              go_wp2_with fail
              refine⟨rfl,?_⟩;rw[HN5E.out];exact⟨rfl,⟨_,HT6.out⟩,va,vp,sz,HQ6.out.row⟩
             | ok u5 q3=>
              have HN5:=Hd (QPost.ok_ (show Calls Tryz.prog 59 #[rp b,.string ⟨#[45,62]⟩] w5 (QPost w5 b A n c all va vp sz (needP [45,62] q2) fun _ e=>e=.returned (.tuple #[])) from rrTake ⟨#[45,62]⟩ ask_arr HM5.out.q) hn5);have HN5E:=Hd hn5;clear hn5
              go_wp2_with fail
              refine HN5.out.mono ?_;rintro e w6 ⟨rfl,hq6,hb6⟩;obtain⟨hM6,hT6⟩:=HM5.out.move hq6 hb6;have HM6:=Hd hM6;have HT6:=Hd (HT5.out.trans hT6 HM.out.lv (fun k hk=>.inl (turnS_b k hk)));have hnb:∀ k∈[eb,g4],k∉[b]:=fun k hk hb=>(HSEP.out k hk).1 (List.mem_singleton.1 hb);have HA6:=Hd (HA5.out.up hT6 hnb);have HMO6:=Hd (HMO5.out.up hT6 (b_sub HM5.out));have HZ6:=Hd (HZ5.out.up hT6 (b_sub HM5.out));have d0:=HZ6.out.at_ 0 p0 _ rfl;have d1:=HZ6.out.at_ 2 p4 _ rfl;have l0:=World.block_lt_of_cell? _ _ d0;have l1:=World.block_lt_of_cell? _ _ d1;have hsz6:w5.heap.size≤w6.heap.size:=hT6.size;clear hq6 hb6 hM6 hT6 HZ5 HA5 HMO5 HT5
              go_upto_region 3 with(fail)
              go_region_held3 (fun W=>W.cell? ⟨p0,0,none⟩=some (rp b)∧W.cell? ⟨p4,0,none⟩=some (fnV 200 #[rp p0,rp p1,rp p2])) (first | exact⟨d0,d1⟩ | exact⟨e0,e1⟩ | exact⟨(World.cell?_alloc_lt _ _ _ m0).trans e0,(World.cell?_alloc_lt _ _ _ m1).trans e1⟩ | exact⟨f0,f1⟩)
               ((first
                 | (go_at_call 187;refine(rrSign (b:=b) ⟨#[41]⟩ _).mono ?_;rintro e Ws ⟨s0,s1,rfl,hbs,hps,hc0,hc1⟩;have HBs:Hid (Below w6.heap.size w6 Ws):=Hd (by first | exact hbs | exact below_undrew (m:=1) hbs);have HPs:Hid (w6.heap.size≤s0∧w6.heap.size≤s1):=Hd hps;have HC0:=Hd hc0;have HC1:=Hd hc1;have HZs:=Hd (HZ6.out.up (Tn.of_below (S:=[]) HBs.out) nil_sub);have e0:=HZs.out.at_ 0 p0 _ rfl;have e1:=HZs.out.at_ 2 p4 _ rfl;have m0:=World.block_lt_of_cell? _ _ e0;have m1:=World.block_lt_of_cell? _ _ e1;clear hbs hps hc0 hc1)
                 | (go_at_call 50;refine(rrNextA [lvV b .arrow,fnV 199 #[rp s0,rp s1],fnV 200 #[rp p0,rp p1,rp p2]] 1 (by simp) (HM6.out.below HBs.out) (by omega) (fns_cons (fns_cons (fns_cons fns_nil)))).mono ?_;rintro e Wb ⟨rfl,hx⟩;have HX:=Hd hx;obtain⟨va2,L3,hM3,hT3,hg3⟩:=hx;have HZb:=Hd ((HZs.out.up (tn_alloc _) nil_sub).up hT3 (push_sub (HM6.out.below HBs.out)));have f0:=HZb.out.at_ 0 p0 _ rfl;have f1:=HZb.out.at_ 2 p4 _ rfl;clear hM3 hT3 hg3)))
              all_goals
               go_wp2_with fail
               go_end0
               have hal:=(Tn.of_below (S:=[]) (L:=g4::L) HBs.out).trans (tn_alloc (L:=g4::L) (w:=Ws) (.cells #[lvV b .arrow,fnV 199 #[rp s0,rp s1],fnV 200 #[rp p0,rp p1,rp p2]] 1)) HM6.out.lv (fun k hk=>absurd hk List.not_mem_nil);have hni:∀ s,w6.heap.size≤s→s∉g4::L:=fun s hs hk=>by have:=HM6.out.lv s hk;omega
               have hcs:∀ s v,Ws.cell? ⟨s,0,none⟩=some v→w6.heap.size≤s→Fz (g4::L) (Ws.alloc (.cells #[lvV b .arrow,fnV 199 #[rp s0,rp s1],fnV 200 #[rp p0,rp p1,rp p2]] 1)) s v:=fun s v hv hs=>Fz.new ((World.cell?_alloc_lt _ _ _ (World.block_lt_of_cell? _ _ hv)).trans hv) (hni s hs);rw[HN5E.out];refine turn_next (new:=[.m .arrow,.sign [41],.more (addArm x a) f]) (vt:=[lvV b .arrow,fnV 199 #[rp s0,rp s1],fnV 200 #[rp p0,rp p1,rp p2]]) (fts:=[eb,g4]) HM.out (HT6.out.trans hal HM.out.lv (fun k hk=>absurd hk List.not_mem_nil)) ((HM6.out.below HBs.out).alloc _) (GoesV.refl _ _) ?_ ?_ (fun k hk=>?_) (fun k hk=>?_) ⟨rfl,HX.out⟩
               · exact⟨[],[eb,g4],rfl,⟨rfl,rfl⟩,[],[eb,g4],rfl,⟨rfl,ask_41,s0,s1,rfl,hcs _ _ HC0.out HPs.out.1,hcs _ _ HC1.out HPs.out.2⟩,[eb,g4],[],rfl,⟨eb,HA6.out.up hal (fun k hk=>List.not_mem_nil),HMO6.out.up hal nil_sub⟩,rfl⟩
               · simp[Ne.symm HGE.out]
               · simp only[List.mem_cons,List.not_mem_nil,or_false] at hk;rcases hk with rfl | rfl
                 · exact .inl (by rw[hft];exact List.mem_cons_self)
                 · exact hgf
               · obtain⟨t1,t2,t3,t4⟩:=HSEP.out k hk;exact⟨t1,t2,t3,Nat.lt_of_lt_of_le t4 (Nat.le_trans hsz6 hal.size)⟩
           exact AllReadyH.nil
         exact AllReadyH.nil
       exact AllReadyH.nil
     exact AllReadyH.nil
   exact AllReadyH.nil
end
end
end Go.Proofs.YtokiaaapgkdpmaaGreatDoor
