/- Parts of the proof: PgC. Conditions: each theorem's own. -/
import Derived.BigRegion
import Derived.Test.YtkbpdoomhfkngaaGreatR04
import Derived.Test.YtkbpdoomhfkngaaGreatR05
namespace Go.Proofs.YtkbpdoomhfkngaaGreat
set_option linter.unusedVariables false
set_option linter.unusedSimpArgs false
set_option maxRecDepth 100000
set_option maxHeartbeats 40000000
section
open Go.RowKit Go.Sort
def flD(l:List Dc):List Value:=l.flatMap dcL
theorem flD_len(l:List Dc):(flD l).length=l.length*6:=by
 induction l with
 | nil=>rfl
 | cons d l ih=>simp only [flD,List.flatMap_cons,List.length_append,List.length_cons] at ih ⊢;rw [ih];simp [dcL];omega
theorem flD_app(a b:List Dc):flD (a++b)=flD a++flD b:=by simp [flD]
theorem flD_at:∀ (l:List Dc) (i j:Nat),i<l.length→j<6→(flD l)[i*6+j]?=(dcL (l[i]?.getD default))[j]?
 | t::ts,0,j,_,hj=>by
  have hz:j<(dcL t).length:=by simpa [dcL] using hj
  simp only [flD,List.flatMap_cons,Nat.zero_mul,Nat.zero_add];rw [List.getElem?_append_left hz]
  simp
 | t::ts,i+1,j,hi,hj=>by
  have ih:=flD_at ts i j (by simpa using hi) hj;have hz:(dcL t).length=6:=by simp [dcL]
  simp only [flD,List.flatMap_cons];rw [List.getElem?_append_right (by rw [hz];omega),hz,show(i+1)*6+j-6=i*6+j by omega]
  simpa [flD] using ih
theorem flD_ones(l:List Dc):∀ u∈flD l,u.oneCell'=true:=by
 intro u hu;simp only [flD,List.mem_flatMap] at hu;obtain⟨t,_,hu⟩:=hu
 simp [dcL] at hu
 rcases hu with rfl | rfl | rfl | rfl | rfl | rfl <;> rfl
section
variable {w w':World}{A:Option Addr}{n:Nat}{l:List Dc}
theorem RdD.of_own{base:Nat}{e:TypeId}{v:Value}(h:w.ownsRow base e 6 v n (flD l)) (hm:n≤9223372036854775807):∃ A c,v=.slice A n c∧RdD w A n l:=by
 have hl:l.length=n:=by
  have:=h.1;rw [flD_len] at this;omega
 rcases h.2 with⟨rfl,rfl⟩|⟨g,cap,cur,rfl,hg,hh,hnc,hcm,hcs,ht⟩
 · obtain rfl:l=[]:=List.eq_nil_of_length_eq_zero hl;exact⟨none,0,rfl,RdS.nil_ _ _ _⟩
 · refine⟨_,cap,rfl,hl,hm,fun hn=>⟨g,0,rfl,(Array.getElem?_eq_some_iff.1 hh).1,fun i hi=>?_⟩⟩;intro j v hv
   have hj:j<6:=by
    rcases Nat.lt_or_ge j 6 with h | h
    · exact h
    · rw [List.getElem?_eq_none (by simpa [dcL] using h)] at hv;cases hv
   rw [Nat.zero_add,h.cellAt (i*6+j) (by omega),flD_at l i j (by omega) hj,hv]
theorem RdD.news(h:RdD w A n l):(A=none→n=0)∧∀ ad,A=some ad→∀ j u,(flD l)[j]?=some u→w.cell? (ad.add j)=some u:=by
 constructor
 · rintro rfl;rcases Nat.eq_zero_or_pos n with h0 | h0
   · exact h0
   · obtain⟨b,off,e,_⟩:=RdS.at_ h h0;cases e
 · rintro ad rfl j u hu
   have hj:j<l.length*6:=by
    rcases Nat.lt_or_ge j (l.length*6) with h1 | h1
    · exact h1
    · rw [List.getElem?_eq_none (by rw [flD_len];exact h1)] at hu;cases hu
   have hlen:=RdS.len h;obtain⟨b,off,e,hb,hc⟩:=RdS.at_ h (by omega);injection e with e;subst e;have h6:j / 6*6+j % 6=j:=by omega
   have h7:j % 6<6:=by omega
   have h1:=hc (j / 6) (by omega);rw [add_addr];have h2:=flD_at l (j / 6) (j % 6) (by omega) h7;rw [h6,hu] at h2;have h3:=h1 (j % 6) u h2.symm;rwa [show off+j / 6*6+j % 6=off+j by omega] at h3
end
theorem infoDecl:(Tryz.prog.info? 43).map (fun i=>(i.size,i.bytes,i.zero.map fun z=>z.cells.size))=some (6,72,some 6):=by kernel_rfl
theorem info_three{P:Program}{t:TypeId}{a b c:Nat}(h:(P.info? t).map (fun i=>(i.size,i.bytes,i.zero.map fun z=>z.cells.size))=some (a,b,some c)):∃ i z,P.info? t=some i∧i.zero=some z∧i.size=a∧i.bytes=b∧z.cells.size=c:=by
 obtain⟨i,h1,h2⟩:=Option.map_eq_some_iff.1 h;simp only [Prod.mk.injEq,Option.map_eq_some_iff] at h2;obtain⟨h3,h4,z,h5,h6⟩:=h2;exact⟨i,z,h1,h5,h3,h4,h6⟩
theorem nd_facts(w:World) (x:Nd) (A1:Option Addr) (c1:Nat) (A2:Option Addr) (c2:Nat) (A3:Option Addr) (c3:Nat) (A4:Option Addr) (c4:Nat) (w1:World) (h:w.alloc (.cells (ndA x A1 c1 A2 c2 A3 c3 A4 c4) 36)=w1) (hr:rdN w x A1 A2 A3 A4):
 Below w.heap.size w w1∧w1.heap.size=w.heap.size+1∧rdN w1 x A1 A2 A3 A4∧∀ w',Below w1.heap.size w1 w'→∀ j,w'.cell? ⟨w.heap.size,j,none⟩=(ndA x A1 c1 A2 c2 A3 c3 A4 c4)[j]?:=by
 subst h;refine⟨(Below.refl _ _).alloc (Nat.le_refl _) _,by simp,hr.below ((Below.refl _ _).alloc (Nat.le_refl _) _),fun w' hb j=>?_⟩;rw [hb.cell (p:=⟨w.heap.size,j,none⟩) (by simp),World.cell?_alloc_new]
def DeclsPost(w:World) (n:Nat) (l:List Dc) (e:Ending) (w':World):Prop:=∃ A c,e=.returned (.slice A n c)∧RdD w' A n l∧Below w.heap.size w w'
theorem refAllD(x:Nd) (A1:Option Addr) (c1:Nat) (A2:Option Addr) (c2:Nat) (A3:Option Addr) (c3:Nat) (A4:Option Addr) (c4:Nat) (w:World) (h:rdN w x A1 A2 A3 A4) (hn:x.all.length≤1000):
 Calls Tryz.prog 9 #[.agg (ndA x A1 c1 A2 c2 A3 c3 A4 c4)] w (DeclsPost w x.all.length x.all):=by
 have hlen:=all_len x;have HXA:=Hd (show flD x.all=flD x.ins++flD x.outs++flD x.vars by rw [Nd.all,flD_app,flD_app]);have HL1:=Hd (flD_len x.ins);have HL2:=Hd (flD_len x.outs);have HL3:=Hd (flD_len x.vars);have HO1:=Hd (flD_ones x.ins);have HO2:=Hd (flD_ones x.outs);have HO3:=Hd (flD_ones x.vars);obtain⟨i0,z0,hi,hz1,hz0,hz2,hz3⟩:=info_three infoDecl;obtain⟨h1,h2,h3,h4⟩:=h;have HF:=Hd fun w1 (hw:w.alloc (.cells (ndA x A1 c1 A2 c2 A3 c3 A4 c4) 36)=w1)=>nd_facts w x A1 c1 A2 c2 A3 c3 A4 c4 w1 hw ⟨h1,h2,h3,h4⟩;unfold ndA
 go_enter Tryz.func9,Tryz.ntmps9
 go_upto_region 1 with(fail)
 generalize hw1:w.alloc _=w1;obtain⟨hb1,hg,⟨r1,r2,r3,-⟩,hcell⟩:=HF.out w1 hw1;obtain⟨-,q1,q2,q3,-,-⟩:=Sx (hcell w1 (Below.refl _ _));simp only [ndA,List.getElem?_toArray,List.getElem?_cons_zero,List.getElem?_cons_succ] at q1 q2 q3;have HB1:=Hd hb1;obtain⟨n1',n1s⟩:=r1.news;obtain⟨n2',n2s⟩:=r2.news;obtain⟨n3',n3s⟩:=r3.news;have HR1:=Hd r1.news;have HR2:=Hd r2.news;have HR3:=Hd r3.news;clear hw1 hcell hb1 h1 h2 h3 h4 r1 r2 r3 n1' n1s n2' n2s n3' n3s HF;generalize x.ins.length=n1 at *;generalize x.outs.length=n2 at *;generalize x.vars.length=n3 at *;generalize flD x.ins=f1 at *;generalize flD x.outs=f2 at *;generalize flD x.vars=f3 at *;have hr0:=World.ownsRow_lit (base:=w1.heap.size) (e:=43) (size:=6) w1 #[] 0 (by simp) (by decide) rfl;rw [hg] at hr0;have HO0:=Hd (show(w1.alloc (.cells #[] 43)).drew.ownsRow (w.heap.size+1) 43 6 (.slice (some ⟨w.heap.size+1,0,none⟩) 0 0) 0 [] from hr0);clear hr0;refine wp_region_held_drew (S:=fun W=>W.cell? ⟨w.heap.size,1,none⟩=some (.slice A1 n1 c1)∧W.cell? ⟨w.heap.size,2,none⟩=some (.slice A2 n2 c2)∧W.cell? ⟨w.heap.size,3,none⟩=some (.slice A3 n3 c3)) (by kernel_rfl) ?_ (fun hHeld=>?_)
 · exact⟨q1,q2,q3⟩
 refine wpAnyH_take (i:=1) (oi:=?oi1) (v:=.pointer (some ⟨w.heap.size,1,none⟩)) ?h1x1 (by kernel_rfl) ?h3x1 (by kernel_rfl) ?h5x1 (Or.inl ⟨?h6x1,?h7x1⟩) hHeld ?h8x1
 case h1x1=>
  simp only [Ya,Yb,Yc];rfl
 case h3x1=>kernel_rfl
 case h5x1=>exact fun _ _ _ h=>h
 case h6x1=>rfl
 case h7x1=>
  intro W hSW
  (try dsimp only at hSW)
  go_split_ands
  first | (go_simp;done) | (go_simp;with_reducible rfl)
 (try simp only [Act.put,Yd,Ye,Yf])
 refine wpAnyH_take (i:=2) (oi:=?oi2) (v:=.slice A1 n1 c1) ?h1x2 (by kernel_rfl) ?h3x2 (by kernel_rfl) ?h5x2 (Or.inl ⟨?h6x2,?h7x2⟩) hHeld ?h8x2
 case h1x2=>
  simp only [Ya,Yb,Yc];rfl
 case h3x2=>kernel_rfl
 case h5x2=>exact fun _ _ _ h=>h
 case h6x2=>rfl
 case h7x2=>
  intro W hSW
  (try dsimp only at hSW)
  go_split_ands
  first | (go_simp;done) | (go_simp;with_reducible rfl)
 (try simp only [Act.put,Yd,Ye,Yf])
 refine wpAnyH_take (i:=4) (oi:=?oi3) (v:=.pointer (some ⟨w.heap.size,2,none⟩)) ?h1x3 (by kernel_rfl) ?h3x3 (by kernel_rfl) ?h5x3 (Or.inl ⟨?h6x3,?h7x3⟩) hHeld ?h8x3
 case h1x3=>
  simp only [Ya,Yb,Yc];rfl
 case h3x3=>kernel_rfl
 case h5x3=>exact fun _ _ _ h=>h
 case h6x3=>rfl
 case h7x3=>
  intro W hSW
  (try dsimp only at hSW)
  go_split_ands
  first | (go_simp;done) | (go_simp;with_reducible rfl)
 (try simp only [Act.put,Yd,Ye,Yf])
 refine wpAnyH_take (i:=5) (oi:=?oi4) (v:=.slice A2 n2 c2) ?h1x4 (by kernel_rfl) ?h3x4 (by kernel_rfl) ?h5x4 (Or.inl ⟨?h6x4,?h7x4⟩) hHeld ?h8x4
 case h1x4=>
  simp only [Ya,Yb,Yc];rfl
 case h3x4=>kernel_rfl
 case h5x4=>exact fun _ _ _ h=>h
 case h6x4=>rfl
 case h7x4=>
  intro W hSW
  (try dsimp only at hSW)
  go_split_ands
  first | (go_simp;done) | (go_simp;with_reducible rfl)
 (try simp only [Act.put,Yd,Ye,Yf])
 refine wpAnyH_take (i:=7) (oi:=?oi5) (v:=.pointer (some ⟨w.heap.size,3,none⟩)) ?h1x5 (by kernel_rfl) ?h3x5 (by kernel_rfl) ?h5x5 (Or.inl ⟨?h6x5,?h7x5⟩) hHeld ?h8x5
 case h1x5=>
  simp only [Ya,Yb,Yc];rfl
 case h3x5=>kernel_rfl
 case h5x5=>exact fun _ _ _ h=>h
 case h6x5=>rfl
 case h7x5=>
  intro W hSW
  (try dsimp only at hSW)
  go_split_ands
  first | (go_simp;done) | (go_simp;with_reducible rfl)
 (try simp only [Act.put,Yd,Ye,Yf])
 refine wpAnyH_take (i:=8) (oi:=?oi6) (v:=.slice A3 n3 c3) ?h1x6 (by kernel_rfl) ?h3x6 (by kernel_rfl) ?h5x6 (Or.inl ⟨?h6x6,?h7x6⟩) hHeld ?h8x6
 case h1x6=>
  simp only [Ya,Yb,Yc];rfl
 case h3x6=>kernel_rfl
 case h5x6=>exact fun _ _ _ h=>h
 case h6x6=>rfl
 case h7x6=>
  intro W hSW
  (try dsimp only at hSW)
  go_split_ands
  first | (go_simp;done) | (go_simp;with_reducible rfl)
 (try simp only [Act.put,Yd,Ye,Yf])
 have hbl0:Below w1.heap.size w1 (w1.alloc (.cells #[] 43)).drew:=((Below.refl w1.heap.size w1).alloc (Nat.le_refl _) _).drew;have HBL0:=Hd hbl0;have a0:=(hbl0.cell (p:=⟨w.heap.size,1,none⟩) (by show w.heap.size<_;omega)).trans q1;have b0:=(hbl0.cell (p:=⟨w.heap.size,2,none⟩) (by show w.heap.size<_;omega)).trans q2;have e0:=(hbl0.cell (p:=⟨w.heap.size,3,none⟩) (by show w.heap.size<_;omega)).trans q3;clear hbl0;refine wpAnyH_ready (rs:=[0]) (by kernel_rfl) (by simp) ?_;refine AllReadyH.cons (by rfl) (fun K hK=>?_) ?_
 · go_simp
   refine hK.out _ _ ?_ (fun hHeld=>?_)
   · exact⟨a0,b0,e0⟩
   clear hK K
   (try simp only [Act.put,Yd,Ye,Yf])
   refine wpAnyH_ready (rs:=[3]) (by kernel_rfl) (by simp) ?_;refine AllReadyH.cons (by rfl) (fun K hK=>?_) ?_
   · refine step_append_any (by rfl) _ _ _ (by rfl) (w.heap.size+1) 43 i0 z0 6 72 Tryz.underlying32 hi hz1 hz0 hz2 hz3 (by decide) (.slice (some ⟨w.heap.size+1,0,none⟩) 0 0) 0 [] (by rfl) HO0.out A1 n1 c1 f1 (by rfl) (by rw [HL1.out]) HR1.out.1 (fun ad e j u hu=>by have h:=HR1.out.2 ad e j u hu;exact(HBL0.out.cell (World.block_lt_of_cell? _ _ h)).trans h) HO1.out (by unfold maxLen;omega) (by omega) (by have:=HBL0.out.size;omega) ?_;intro B1 d1 v1 hown1 hgr1 hat1;have HW1:=Hd hown1;have hbl1:Below w1.heap.size w1 v1:=HBL0.out.grown hgr1 (by have:=HBL0.out.size;omega) (fun j hj=>by rw [hg];exact(HO0.out.lt j hj).1);have HBL1:=Hd hbl1;have a1:=(hbl1.cell (p:=⟨w.heap.size,1,none⟩) (by show w.heap.size<_;omega)).trans q1;have b1:=(hbl1.cell (p:=⟨w.heap.size,2,none⟩) (by show w.heap.size<_;omega)).trans q2;have e1:=(hbl1.cell (p:=⟨w.heap.size,3,none⟩) (by show w.heap.size<_;omega)).trans q3;clear hown1 hgr1 hat1 hbl1;refine hK.out _ _ ?_ (fun hHeld=>?_)
     · exact⟨a1,b1,e1⟩
     clear hK K
     (try simp only [Act.put,Yd,Ye,Yf])
     refine wpAnyH_ready (rs:=[6]) (by kernel_rfl) (by simp) ?_;refine AllReadyH.cons (by rfl) (fun K hK=>?_) ?_
     · refine step_append_any (by rfl) _ _ _ (by rfl) (w.heap.size+1) 43 i0 z0 6 72 Tryz.underlying32 hi hz1 hz0 hz2 hz3 (by decide) (.slice B1 (0+n1) d1) (0+n1) ([]++f1) (by rfl) HW1.out A2 n2 c2 f2 (by rfl) (by rw [HL2.out]) HR2.out.1 (fun ad e j u hu=>by have h:=HR2.out.2 ad e j u hu;exact(HBL1.out.cell (World.block_lt_of_cell? _ _ h)).trans h) HO2.out (by unfold maxLen;omega) (by omega) (by have:=HBL1.out.size;omega) ?_;intro B2 d2 v2 hown2 hgr2 hat2;have HW2:=Hd hown2;have hbl2:Below w1.heap.size w1 v2:=HBL1.out.grown hgr2 (by have:=HBL1.out.size;omega) (fun j hj=>by rw [hg];exact(HW1.out.lt j hj).1);have HBL2:=Hd hbl2;have a2:=(hbl2.cell (p:=⟨w.heap.size,1,none⟩) (by show w.heap.size<_;omega)).trans q1;have b2:=(hbl2.cell (p:=⟨w.heap.size,2,none⟩) (by show w.heap.size<_;omega)).trans q2;have e2:=(hbl2.cell (p:=⟨w.heap.size,3,none⟩) (by show w.heap.size<_;omega)).trans q3;clear hown2 hgr2 hat2 hbl2;refine hK.out _ _ ?_ (fun hHeld=>?_)
       · exact⟨a2,b2,e2⟩
       clear hK K
       (try simp only [Act.put,Yd,Ye,Yf])
       refine wpAnyH_ready (rs:=[9]) (by kernel_rfl) (by simp) ?_;refine AllReadyH.cons (by rfl) (fun K hK=>?_) ?_
       · refine step_append_any (by rfl) _ _ _ (by rfl) (w.heap.size+1) 43 i0 z0 6 72 Tryz.underlying32 hi hz1 hz0 hz2 hz3 (by decide) (.slice B2 (0+n1+n2) d2) (0+n1+n2) ([]++f1++f2) (by rfl) HW2.out A3 n3 c3 f3 (by rfl) (by rw [HL3.out]) HR3.out.1 (fun ad e j u hu=>by have h:=HR3.out.2 ad e j u hu;exact(HBL2.out.cell (World.block_lt_of_cell? _ _ h)).trans h) HO3.out (by unfold maxLen;omega) (by omega) (by have:=HBL2.out.size;omega) ?_;intro B3 d3 v3 hown3 hgr3 hat3;have HW3:=Hd hown3;have hbl3:Below w1.heap.size w1 v3:=HBL2.out.grown hgr3 (by have:=HBL2.out.size;omega) (fun j hj=>by rw [hg];exact(HW2.out.lt j hj).1);have HBL3:=Hd hbl3;have a3:=(hbl3.cell (p:=⟨w.heap.size,1,none⟩) (by show w.heap.size<_;omega)).trans q1;have b3:=(hbl3.cell (p:=⟨w.heap.size,2,none⟩) (by show w.heap.size<_;omega)).trans q2;have e3:=(hbl3.cell (p:=⟨w.heap.size,3,none⟩) (by show w.heap.size<_;omega)).trans q3;clear hown3 hgr3 hat3 hbl3;refine hK.out _ _ ?_ (fun hHeld=>?_)
         · exact⟨a3,b3,e3⟩
         clear hK K
         (try simp only [Act.put,Yd,Ye,Yf])
         refine wpAnyH_ready (rs:=[10]) (by kernel_rfl) (by simp) ?_;refine AllReadyH.cons (by rfl) (fun K hK=>?_) ?_
         · go_simp
           refine hK.out _ _ ?_ (fun hHeld=>?_)
           · exact⟨a3,b3,e3⟩
           clear hK K
           (try simp only [Act.put,Yd,Ye,Yf])
           refine wpAnyH_done (by kernel_rfl) ?_ _
           go_wp2_with fail
           go_ret
           have hw:=HW3.out;rw [List.nil_append,← HXA.out,Nat.zero_add,← hlen] at hw;obtain⟨A,c,e,hR⟩:=RdD.of_own hw (by omega);refine⟨A,c,?_,hR,HB1.out.trans (HBL3.out.mono (by omega))⟩;rw [← e,hlen];rfl
         exact AllReadyH.nil
       exact AllReadyH.nil
     exact AllReadyH.nil
   exact AllReadyH.nil
 exact AllReadyH.nil
end
end Go.Proofs.YtkbpdoomhfkngaaGreat
