/- Parts of the proof: PgC, PgD, PgE, PgF, PgG, PgH, PgJ, PgK, PgN, PgO, PgI. Conditions: each theorem's own. -/
import Derived.BigRegion
import Derived.Sort.Grow
import Derived.Laws.ResultCell
import Derived.Laws.Rows
import Derived.Laws.Tables
import Derived.Laws.CopyOwn
import Derived.Test.YtkbpdoomhfkngaaO06
import Derived.Test.YtkbpdoomhfkngaaO07
namespace Go.Proofs.Ytkbpdoomhfkngaa
set_option linter.unusedVariables false
set_option linter.unusedSimpArgs false
set_option maxRecDepth 100000
set_option maxHeartbeats 40000000
section
open Go.RowKit Go.Sort
def flD(l:List Dc):List Value:=l.flatMap dcL
theorem flD_len(l:List Dc):(flD l).length=l.length*6:=by
 induction l with
 | nil=>rfl
 | cons d l ih=>simp only [flD,List.flatMap_cons,List.length_append,List.length_cons] at ih ⊢;rw [ih];simp [dcL];omega
theorem flD_app(a b:List Dc):flD (a++b)=flD a++flD b:=by simp [flD]
theorem flD_at:∀ (l:List Dc) (i j:Nat),i<l.length→j<6→(flD l)[i*6+j]?=(dcL (l[i]?.getD default))[j]?
 | t::ts,0,j,_,hj=>by
  have hz:j<(dcL t).length:=by simpa [dcL] using hj
  simp only [flD,List.flatMap_cons,Nat.zero_mul,Nat.zero_add];rw [List.getElem?_append_left hz]
  simp
 | t::ts,i+1,j,hi,hj=>by
  have ih:=flD_at ts i j (by simpa using hi) hj;have hz:(dcL t).length=6:=by simp [dcL]
  simp only [flD,List.flatMap_cons];rw [List.getElem?_append_right (by rw [hz];omega),hz,show(i+1)*6+j-6=i*6+j by omega]
  simpa [flD] using ih
theorem flD_ones(l:List Dc):∀ u∈flD l,u.oneCell'=true:=by
 intro u hu;simp only [flD,List.mem_flatMap] at hu;obtain⟨t,_,hu⟩:=hu
 simp [dcL] at hu
 rcases hu with rfl | rfl | rfl | rfl | rfl | rfl <;> rfl
section
variable {w w':World}{A:Option Addr}{n:Nat}{l:List Dc}
theorem RdD.of_own{base:Nat}{e:TypeId}{v:Value}(h:w.ownsRow base e 6 v n (flD l)) (hm:n≤9223372036854775807):∃ A c,v=.slice A n c∧RdD w A n l:=by
 have hl:l.length=n:=by
  have:=h.1;rw [flD_len] at this;omega
 rcases h.2 with⟨rfl,rfl⟩|⟨g,cap,cur,rfl,hg,hh,hnc,hcm,hcs,ht⟩
 · obtain rfl:l=[]:=List.eq_nil_of_length_eq_zero hl;exact⟨none,0,rfl,RdS.nil_ _ _ _⟩
 · refine⟨_,cap,rfl,hl,hm,fun hn=>⟨g,0,rfl,(Array.getElem?_eq_some_iff.1 hh).1,fun i hi=>?_⟩⟩;intro j v hv
   have hj:j<6:=by
    rcases Nat.lt_or_ge j 6 with h | h
    · exact h
    · rw [List.getElem?_eq_none (by simpa [dcL] using h)] at hv;cases hv
   rw [Nat.zero_add,h.cellAt (i*6+j) (by omega),flD_at l i j (by omega) hj,hv]
theorem RdD.news(h:RdD w A n l):(A=none→n=0)∧∀ ad,A=some ad→∀ j u,(flD l)[j]?=some u→w.cell? (ad.add j)=some u:=by
 constructor
 · rintro rfl;rcases Nat.eq_zero_or_pos n with h0 | h0
   · exact h0
   · obtain⟨b,off,e,_⟩:=RdS.at_ h h0;cases e
 · rintro ad rfl j u hu
   have hj:j<l.length*6:=by
    rcases Nat.lt_or_ge j (l.length*6) with h1 | h1
    · exact h1
    · rw [List.getElem?_eq_none (by rw [flD_len];exact h1)] at hu;cases hu
   have hlen:=RdS.len h;obtain⟨b,off,e,hb,hc⟩:=RdS.at_ h (by omega);injection e with e;subst e;have h6:j / 6*6+j % 6=j:=by omega
   have h7:j % 6<6:=by omega
   have h1:=hc (j / 6) (by omega);rw [add_addr];have h2:=flD_at l (j / 6) (j % 6) (by omega) h7;rw [h6,hu] at h2;have h3:=h1 (j % 6) u h2.symm;rwa [show off+j / 6*6+j % 6=off+j by omega] at h3
end
theorem infoDecl:(Try.prog.info? 58).map (fun i=>(i.size,i.bytes,i.zero.map fun z=>z.cells.size))=some (6,72,some 6):=by kernel_rfl
theorem info_three{P:Program}{t:TypeId}{a b c:Nat}(h:(P.info? t).map (fun i=>(i.size,i.bytes,i.zero.map fun z=>z.cells.size))=some (a,b,some c)):∃ i z,P.info? t=some i∧i.zero=some z∧i.size=a∧i.bytes=b∧z.cells.size=c:=by
 obtain⟨i,h1,h2⟩:=Option.map_eq_some_iff.1 h;simp only [Prod.mk.injEq,Option.map_eq_some_iff] at h2;obtain⟨h3,h4,z,h5,h6⟩:=h2;exact⟨i,z,h1,h5,h3,h4,h6⟩
theorem nd_facts(w:World) (x:Nd) (A1:Option Addr) (c1:Nat) (A2:Option Addr) (c2:Nat) (A3:Option Addr) (c3:Nat) (A4:Option Addr) (c4:Nat) (w1:World) (h:w.alloc (.cells (ndA x A1 c1 A2 c2 A3 c3 A4 c4) 48)=w1) (hr:rdN w x A1 A2 A3 A4):
 Below w.heap.size w w1∧w1.heap.size=w.heap.size+1∧rdN w1 x A1 A2 A3 A4∧∀ w',Below w1.heap.size w1 w'→∀ j,w'.cell? ⟨w.heap.size,j,none⟩=(ndA x A1 c1 A2 c2 A3 c3 A4 c4)[j]?:=by
 subst h;refine⟨(Below.refl _ _).alloc (Nat.le_refl _) _,by simp,hr.below ((Below.refl _ _).alloc (Nat.le_refl _) _),fun w' hb j=>?_⟩;rw [hb.cell (p:=⟨w.heap.size,j,none⟩) (by simp),World.cell?_alloc_new]
def DeclsPost(w:World) (n:Nat) (l:List Dc) (e:Ending) (w':World):Prop:=∃ A c,e=.returned (.slice A n c)∧RdD w' A n l∧Below w.heap.size w w'
theorem refAllD(x:Nd) (A1:Option Addr) (c1:Nat) (A2:Option Addr) (c2:Nat) (A3:Option Addr) (c3:Nat) (A4:Option Addr) (c4:Nat) (w:World) (h:rdN w x A1 A2 A3 A4) (hn:x.all.length≤1000):
 Calls Try.prog 35 #[.agg (ndA x A1 c1 A2 c2 A3 c3 A4 c4)] w (DeclsPost w x.all.length x.all):=by
 have hlen:=all_len x;have HXA:=Hd (show flD x.all=flD x.ins++flD x.outs++flD x.vars by rw [Nd.all,flD_app,flD_app]);have HL1:=Hd (flD_len x.ins);have HL2:=Hd (flD_len x.outs);have HL3:=Hd (flD_len x.vars);have HO1:=Hd (flD_ones x.ins);have HO2:=Hd (flD_ones x.outs);have HO3:=Hd (flD_ones x.vars);obtain⟨i0,z0,hi,hz1,hz0,hz2,hz3⟩:=info_three infoDecl;obtain⟨h1,h2,h3,h4⟩:=h;have HF:=Hd fun w1 (hw:w.alloc (.cells (ndA x A1 c1 A2 c2 A3 c3 A4 c4) 48)=w1)=>nd_facts w x A1 c1 A2 c2 A3 c3 A4 c4 w1 hw ⟨h1,h2,h3,h4⟩;unfold ndA
 go_enter Try.func35,Try.ntmps35
 go_upto_region 1 with(fail)
 generalize hw1:w.alloc _=w1;obtain⟨hb1,hg,⟨r1,r2,r3,-⟩,hcell⟩:=HF.out w1 hw1;obtain⟨-,q1,q2,q3,-,-⟩:=Sx (hcell w1 (Below.refl _ _));simp only [ndA,List.getElem?_toArray,List.getElem?_cons_zero,List.getElem?_cons_succ] at q1 q2 q3;have HB1:=Hd hb1;obtain⟨n1',n1s⟩:=r1.news;obtain⟨n2',n2s⟩:=r2.news;obtain⟨n3',n3s⟩:=r3.news;have HR1:=Hd r1.news;have HR2:=Hd r2.news;have HR3:=Hd r3.news;clear hw1 hcell hb1 h1 h2 h3 h4 r1 r2 r3 n1' n1s n2' n2s n3' n3s HF;generalize x.ins.length=n1 at *;generalize x.outs.length=n2 at *;generalize x.vars.length=n3 at *;generalize flD x.ins=f1 at *;generalize flD x.outs=f2 at *;generalize flD x.vars=f3 at *;have hr0:=World.ownsRow_lit (base:=w1.heap.size) (e:=58) (size:=6) w1 #[] 0 (by simp) (by decide) rfl;rw [hg] at hr0;have HO0:=Hd (show(w1.alloc (.cells #[] 58)).drew.ownsRow (w.heap.size+1) 58 6 (.slice (some ⟨w.heap.size+1,0,none⟩) 0 0) 0 [] from hr0);clear hr0;refine wp_region_held_drew (S:=fun W=>W.cell? ⟨w.heap.size,1,none⟩=some (.slice A1 n1 c1)∧W.cell? ⟨w.heap.size,2,none⟩=some (.slice A2 n2 c2)∧W.cell? ⟨w.heap.size,3,none⟩=some (.slice A3 n3 c3)) (by kernel_rfl) ?_ (fun hHeld=>?_)
 · exact⟨q1,q2,q3⟩
 refine wpAnyH_take (i:=1) (oi:=?oi1) (v:=.pointer (some ⟨w.heap.size,1,none⟩)) ?h1x1 (by kernel_rfl) ?h3x1 (by kernel_rfl) ?h5x1 (Or.inl ⟨?h6x1,?h7x1⟩) hHeld ?h8x1
 case h1x1=>
  simp only [Ya,Yb,Yc];rfl
 case h3x1=>kernel_rfl
 case h5x1=>exact fun _ _ _ h=>h
 case h6x1=>rfl
 case h7x1=>
  intro W hSW
  (try dsimp only at hSW)
  go_split_ands
  first | (go_simp;done) | (go_simp;with_reducible rfl)
 (try simp only [Act.put,Yd,Ye,Yf])
 refine wpAnyH_take (i:=2) (oi:=?oi2) (v:=.slice A1 n1 c1) ?h1x2 (by kernel_rfl) ?h3x2 (by kernel_rfl) ?h5x2 (Or.inl ⟨?h6x2,?h7x2⟩) hHeld ?h8x2
 case h1x2=>
  simp only [Ya,Yb,Yc];rfl
 case h3x2=>kernel_rfl
 case h5x2=>exact fun _ _ _ h=>h
 case h6x2=>rfl
 case h7x2=>
  intro W hSW
  (try dsimp only at hSW)
  go_split_ands
  first | (go_simp;done) | (go_simp;with_reducible rfl)
 (try simp only [Act.put,Yd,Ye,Yf])
 refine wpAnyH_take (i:=4) (oi:=?oi3) (v:=.pointer (some ⟨w.heap.size,2,none⟩)) ?h1x3 (by kernel_rfl) ?h3x3 (by kernel_rfl) ?h5x3 (Or.inl ⟨?h6x3,?h7x3⟩) hHeld ?h8x3
 case h1x3=>
  simp only [Ya,Yb,Yc];rfl
 case h3x3=>kernel_rfl
 case h5x3=>exact fun _ _ _ h=>h
 case h6x3=>rfl
 case h7x3=>
  intro W hSW
  (try dsimp only at hSW)
  go_split_ands
  first | (go_simp;done) | (go_simp;with_reducible rfl)
 (try simp only [Act.put,Yd,Ye,Yf])
 refine wpAnyH_take (i:=5) (oi:=?oi4) (v:=.slice A2 n2 c2) ?h1x4 (by kernel_rfl) ?h3x4 (by kernel_rfl) ?h5x4 (Or.inl ⟨?h6x4,?h7x4⟩) hHeld ?h8x4
 case h1x4=>
  simp only [Ya,Yb,Yc];rfl
 case h3x4=>kernel_rfl
 case h5x4=>exact fun _ _ _ h=>h
 case h6x4=>rfl
 case h7x4=>
  intro W hSW
  (try dsimp only at hSW)
  go_split_ands
  first | (go_simp;done) | (go_simp;with_reducible rfl)
 (try simp only [Act.put,Yd,Ye,Yf])
 refine wpAnyH_take (i:=7) (oi:=?oi5) (v:=.pointer (some ⟨w.heap.size,3,none⟩)) ?h1x5 (by kernel_rfl) ?h3x5 (by kernel_rfl) ?h5x5 (Or.inl ⟨?h6x5,?h7x5⟩) hHeld ?h8x5
 case h1x5=>
  simp only [Ya,Yb,Yc];rfl
 case h3x5=>kernel_rfl
 case h5x5=>exact fun _ _ _ h=>h
 case h6x5=>rfl
 case h7x5=>
  intro W hSW
  (try dsimp only at hSW)
  go_split_ands
  first | (go_simp;done) | (go_simp;with_reducible rfl)
 (try simp only [Act.put,Yd,Ye,Yf])
 refine wpAnyH_take (i:=8) (oi:=?oi6) (v:=.slice A3 n3 c3) ?h1x6 (by kernel_rfl) ?h3x6 (by kernel_rfl) ?h5x6 (Or.inl ⟨?h6x6,?h7x6⟩) hHeld ?h8x6
 case h1x6=>
  simp only [Ya,Yb,Yc];rfl
 case h3x6=>kernel_rfl
 case h5x6=>exact fun _ _ _ h=>h
 case h6x6=>rfl
 case h7x6=>
  intro W hSW
  (try dsimp only at hSW)
  go_split_ands
  first | (go_simp;done) | (go_simp;with_reducible rfl)
 (try simp only [Act.put,Yd,Ye,Yf])
 have hbl0:Below w1.heap.size w1 (w1.alloc (.cells #[] 58)).drew:=((Below.refl w1.heap.size w1).alloc (Nat.le_refl _) _).drew;have HBL0:=Hd hbl0;have a0:=(hbl0.cell (p:=⟨w.heap.size,1,none⟩) (by show w.heap.size<_;omega)).trans q1;have b0:=(hbl0.cell (p:=⟨w.heap.size,2,none⟩) (by show w.heap.size<_;omega)).trans q2;have e0:=(hbl0.cell (p:=⟨w.heap.size,3,none⟩) (by show w.heap.size<_;omega)).trans q3;clear hbl0;refine wpAnyH_ready (rs:=[0]) (by kernel_rfl) (by simp) ?_;refine AllReadyH.cons (by rfl) (fun K hK=>?_) ?_
 · go_simp
   refine hK.out _ _ ?_ (fun hHeld=>?_)
   · exact⟨a0,b0,e0⟩
   clear hK K
   (try simp only [Act.put,Yd,Ye,Yf])
   refine wpAnyH_ready (rs:=[3]) (by kernel_rfl) (by simp) ?_;refine AllReadyH.cons (by rfl) (fun K hK=>?_) ?_
   · refine step_append_any (by rfl) _ _ _ (by rfl) (w.heap.size+1) 58 i0 z0 6 72 Try.underlying45 hi hz1 hz0 hz2 hz3 (by decide) (.slice (some ⟨w.heap.size+1,0,none⟩) 0 0) 0 [] (by rfl) HO0.out A1 n1 c1 f1 (by rfl) (by rw [HL1.out]) HR1.out.1 (fun ad e j u hu=>by have h:=HR1.out.2 ad e j u hu;exact(HBL0.out.cell (World.block_lt_of_cell? _ _ h)).trans h) HO1.out (by unfold maxLen;omega) (by omega) (by have:=HBL0.out.size;omega) ?_;intro B1 d1 v1 hown1 hgr1 hat1;have HW1:=Hd hown1;have hbl1:Below w1.heap.size w1 v1:=HBL0.out.grown hgr1 (by have:=HBL0.out.size;omega) (fun j hj=>by rw [hg];exact(HO0.out.lt j hj).1);have HBL1:=Hd hbl1;have a1:=(hbl1.cell (p:=⟨w.heap.size,1,none⟩) (by show w.heap.size<_;omega)).trans q1;have b1:=(hbl1.cell (p:=⟨w.heap.size,2,none⟩) (by show w.heap.size<_;omega)).trans q2;have e1:=(hbl1.cell (p:=⟨w.heap.size,3,none⟩) (by show w.heap.size<_;omega)).trans q3;clear hown1 hgr1 hat1 hbl1;refine hK.out _ _ ?_ (fun hHeld=>?_)
     · exact⟨a1,b1,e1⟩
     clear hK K
     (try simp only [Act.put,Yd,Ye,Yf])
     refine wpAnyH_ready (rs:=[6]) (by kernel_rfl) (by simp) ?_;refine AllReadyH.cons (by rfl) (fun K hK=>?_) ?_
     · refine step_append_any (by rfl) _ _ _ (by rfl) (w.heap.size+1) 58 i0 z0 6 72 Try.underlying45 hi hz1 hz0 hz2 hz3 (by decide) (.slice B1 (0+n1) d1) (0+n1) ([]++f1) (by rfl) HW1.out A2 n2 c2 f2 (by rfl) (by rw [HL2.out]) HR2.out.1 (fun ad e j u hu=>by have h:=HR2.out.2 ad e j u hu;exact(HBL1.out.cell (World.block_lt_of_cell? _ _ h)).trans h) HO2.out (by unfold maxLen;omega) (by omega) (by have:=HBL1.out.size;omega) ?_;intro B2 d2 v2 hown2 hgr2 hat2;have HW2:=Hd hown2;have hbl2:Below w1.heap.size w1 v2:=HBL1.out.grown hgr2 (by have:=HBL1.out.size;omega) (fun j hj=>by rw [hg];exact(HW1.out.lt j hj).1);have HBL2:=Hd hbl2;have a2:=(hbl2.cell (p:=⟨w.heap.size,1,none⟩) (by show w.heap.size<_;omega)).trans q1;have b2:=(hbl2.cell (p:=⟨w.heap.size,2,none⟩) (by show w.heap.size<_;omega)).trans q2;have e2:=(hbl2.cell (p:=⟨w.heap.size,3,none⟩) (by show w.heap.size<_;omega)).trans q3;clear hown2 hgr2 hat2 hbl2;refine hK.out _ _ ?_ (fun hHeld=>?_)
       · exact⟨a2,b2,e2⟩
       clear hK K
       (try simp only [Act.put,Yd,Ye,Yf])
       refine wpAnyH_ready (rs:=[9]) (by kernel_rfl) (by simp) ?_;refine AllReadyH.cons (by rfl) (fun K hK=>?_) ?_
       · refine step_append_any (by rfl) _ _ _ (by rfl) (w.heap.size+1) 58 i0 z0 6 72 Try.underlying45 hi hz1 hz0 hz2 hz3 (by decide) (.slice B2 (0+n1+n2) d2) (0+n1+n2) ([]++f1++f2) (by rfl) HW2.out A3 n3 c3 f3 (by rfl) (by rw [HL3.out]) HR3.out.1 (fun ad e j u hu=>by have h:=HR3.out.2 ad e j u hu;exact(HBL2.out.cell (World.block_lt_of_cell? _ _ h)).trans h) HO3.out (by unfold maxLen;omega) (by omega) (by have:=HBL2.out.size;omega) ?_;intro B3 d3 v3 hown3 hgr3 hat3;have HW3:=Hd hown3;have hbl3:Below w1.heap.size w1 v3:=HBL2.out.grown hgr3 (by have:=HBL2.out.size;omega) (fun j hj=>by rw [hg];exact(HW2.out.lt j hj).1);have HBL3:=Hd hbl3;have a3:=(hbl3.cell (p:=⟨w.heap.size,1,none⟩) (by show w.heap.size<_;omega)).trans q1;have b3:=(hbl3.cell (p:=⟨w.heap.size,2,none⟩) (by show w.heap.size<_;omega)).trans q2;have e3:=(hbl3.cell (p:=⟨w.heap.size,3,none⟩) (by show w.heap.size<_;omega)).trans q3;clear hown3 hgr3 hat3 hbl3;refine hK.out _ _ ?_ (fun hHeld=>?_)
         · exact⟨a3,b3,e3⟩
         clear hK K
         (try simp only [Act.put,Yd,Ye,Yf])
         refine wpAnyH_ready (rs:=[10]) (by kernel_rfl) (by simp) ?_;refine AllReadyH.cons (by rfl) (fun K hK=>?_) ?_
         · go_simp
           refine hK.out _ _ ?_ (fun hHeld=>?_)
           · exact⟨a3,b3,e3⟩
           clear hK K
           (try simp only [Act.put,Yd,Ye,Yf])
           refine wpAnyH_done (by kernel_rfl) ?_ _
           go_wp2_with fail
           go_ret
           have hw:=HW3.out;rw [List.nil_append,← HXA.out,Nat.zero_add,← hlen] at hw;obtain⟨A,c,e,hR⟩:=RdD.of_own hw (by omega);refine⟨A,c,?_,hR,HB1.out.trans (HBL3.out.mono (by omega))⟩;rw [← e,hlen];rfl
         exact AllReadyH.nil
       exact AllReadyH.nil
     exact AllReadyH.nil
   exact AllReadyH.nil
 exact AllReadyH.nil
end
section
open Go.RowKit
def OkD(d:Dc):Prop:=d.nm.size≤maxLen∧d.on.size≤maxLen∧d.ct.size≤maxLen
theorem dc_facts(w:World) (d:Dc) (w1:World) (h:w.alloc (.cells (dcA d) 58)=w1):
 Below w.heap.size w w1∧w1.heap.size=w.heap.size+1∧∀ w',Below w1.heap.size w1 w'→∀ j,w'.cell? ⟨w.heap.size,j,none⟩=(dcA d)[j]?:=by
 subst h;refine⟨(Below.refl _ _).alloc (Nat.le_refl _) _,by simp,fun w' hb j=>?_⟩;rw [hb.cell (p:=⟨w.heap.size,j,none⟩) (by simp),World.cell?_alloc_new]
theorem below_next{w w1 w2:World}(h:Below w.heap.size w w1) (hb:Below w1.heap.size w1 w2):Below w.heap.size w w2:=h.trans (hb.mono h.size)
theorem refDecl(A:Option Addr) (n c:Nat) (d:Dc) (w:World) (hn:n≤9223372036854775807) (hok:OkD d):
 Calls Try.prog 51 #[.slice A n c,.agg (dcA d)] w fun e w'=>e=.returned (.bool (declB n rightB d))∧Below w.heap.size w w':=by
 obtain⟨hs0,hs4,hs5⟩:=hok;unfold maxLen at hs0 hs4 hs5;have HF:=Hd fun w1 h=>dc_facts w d w1 h;have HE:=Hd (show declB n rightB d=(lowB d.nm.data.toList && rightB n d.k d.e d.l && (((d.on.toList==[]) && (d.ct.toList==[])) || (lowB d.on.data.toList && armT d.ct))) by simp only [Lib.toList_data];rfl);have HL0:=Hd fun w1=>refLow d.nm w1 (by omega);have HL4:=Hd fun w1=>refLow d.on w1 (by omega);have HA5:=Hd fun w1=>refPgArm d.ct w1 (by omega);have HTR:=Hd fun w1=>refTyRight A n c d.k d.e d.l w1 hn;unfold tyV at HTR
 have HON:=Hd (show(d.on.toList==[])=true→lowB d.on.data.toList=false by
  intro h;rw [Lib.toList_data] at h;rw [eq_of_beq h];rfl)
 unfold dcA;generalize declB n rightB d=out at *
 go_enter Try.func51,Try.ntmps51
 go_upto_region 1 with(fail)
 generalize hw1:w.alloc _=w1;obtain⟨hb1,hg,hcell⟩:=HF.out w1 hw1;have HB1:=Hd hb1;have HC:=Hd hcell;have q0:=hcell w1 (Below.refl _ _) 0;simp only [dcA,List.getElem?_toArray,List.getElem?_cons_zero,List.getElem?_cons_succ] at q0 HC;clear hw1 hcell hb1 HF;generalize d.nm=x0 at *;generalize d.on=x4 at *;generalize d.ct=x5 at *;generalize d.k=tk at *;generalize d.e=te at *;generalize d.l=tl at *
 cases h0:lowB x0.data.toList with
 | false=>
  rw [h0] at HE
  go_wp2_with fail
  refine(HL0.out w1).mono ?_;rw [h0];rintro e w2 ⟨rfl,hb⟩;have HW2:=Hd hb;have HB2:=Hd (below_next HB1.out hb);clear hb
  go_wp2_with fail
  go_ret
  exact⟨ret_bool (by rw [HE.out];rfl),HB2.out⟩
 | true=>
  rw [h0] at HE
  go_wp2_with fail
  refine(HL0.out w1).mono ?_;rw [h0];rintro e w2 ⟨rfl,hb⟩;have HW2:=Hd hb;have HB2:=Hd (below_next HB1.out hb);clear hb;clear q0;obtain⟨-,q1,q2,q3,-,-⟩:=Sx (HC.out w2 HW2.out);simp only [Ya,Yb,Yc] at q1 q2 q3
  cases h1:rightB n tk te tl with
  | false=>
   rw [h1] at HE
   go_wp2_with fail
   refine(HTR.out w2).mono ?_;rw [h1];rintro e w3 ⟨rfl,hb⟩;have HW3:=Hd (below_next HW2.out hb);have HB3:=Hd (below_next HB2.out hb);clear hb
   go_wp2_with fail
   go_ret
   exact⟨ret_bool (by rw [HE.out];rfl),HB3.out⟩
  | true=>
   rw [h1] at HE
   go_wp2_with fail
   refine(HTR.out w2).mono ?_;rw [h1];rintro e w3 ⟨rfl,hb⟩;have HW3:=Hd (below_next HW2.out hb);have HB3:=Hd (below_next HB2.out hb);clear hb;have q4:=HC.out w3 HW3.out 4;have q5:=HC.out w3 HW3.out 5;simp only [Ya,Yb,Yc] at q4 q5
   cases h3:(x4.toList==[]) with
   | true=>
    have h4:=HON.out h3;rw [h3,h4] at HE
    cases h6:(x5.toList==[]) with
    | true=>
     rw [h6] at HE
     go_wp2_with fail
     go_ret
     exact⟨ret_bool (by rw [HE.out];rfl),HB3.out⟩
    | false=>
     rw [h6] at HE
     go_wp2_with fail
     refine(HL4.out w3).mono ?_;rw [h4];rintro e w4 ⟨rfl,hb⟩;have HW4:=Hd (below_next HW3.out hb);have HB4:=Hd (below_next HB3.out hb);clear hb;clear q4 q5;have q4:=HC.out w4 HW4.out 4;have q5:=HC.out w4 HW4.out 5;simp only [Ya,Yb,Yc] at q4 q5
     go_wp2_with fail
     go_ret
     exact⟨ret_bool (by rw [HE.out];rfl),HB4.out⟩
   | false=>
    rw [h3] at HE
    cases h4:lowB x4.data.toList with
    | false=>
     rw [h4] at HE
     go_wp2_with fail
     refine(HL4.out w3).mono ?_;rw [h4];rintro e w4 ⟨rfl,hb⟩;have HW4:=Hd (below_next HW3.out hb);have HB4:=Hd (below_next HB3.out hb);clear hb;clear q4 q5;have q4:=HC.out w4 HW4.out 4;have q5:=HC.out w4 HW4.out 5;simp only [Ya,Yb,Yc] at q4 q5
     go_wp2_with fail
     go_ret
     exact⟨ret_bool (by rw [HE.out];rfl),HB4.out⟩
    | true=>
     rw [h4] at HE
     go_wp2_with fail
     refine(HL4.out w3).mono ?_;rw [h4];rintro e w4 ⟨rfl,hb⟩;have HW4:=Hd (below_next HW3.out hb);have HB4:=Hd (below_next HB3.out hb);clear hb;clear q4 q5;have q4:=HC.out w4 HW4.out 4;have q5:=HC.out w4 HW4.out 5;simp only [Ya,Yb,Yc] at q4 q5
     cases h5:armT x5 with
     | true=>
      rw [h5] at HE
      go_wp2_with fail
      refine(HA5.out w4).mono ?_;rw [h5];rintro e w5 ⟨rfl,rfl⟩
      go_wp2_with fail
      go_ret
      exact⟨ret_bool (by rw [HE.out];rfl),HB4.out⟩
     | false=>
      rw [h5] at HE
      go_wp2_with fail
      refine(HA5.out w4).mono ?_;rw [h5];rintro e w5 ⟨rfl,rfl⟩
      go_wp2_with fail
      go_ret
      exact⟨ret_bool (by rw [HE.out];rfl),HB4.out⟩
end
section
open Go.RowKit
def qnA(q:Qn) (A:Option Addr) (c:Nat) (A':Option Addr) (ca:Nat) (B':Option Addr) (cb:Nat):Array Value:=
 #[.slice A q.ns.length c,.int .i64 q.x.k,.int .i64 q.x.n,.string q.x.s,.int .i64 q.x.op,.slice A' q.x.arms.length ca,.slice B' q.x.subs.length cb]
def OkQ(q:Qn):Prop:=(∀ s∈q.ns,s.size≤maxLen)∧sizeX q.x≤1000000∧∀ p∈partsX q.x,ShortP p
theorem qn_facts(w:World) (q:Qn) (A:Option Addr) (c:Nat) (A':Option Addr) (ca:Nat) (B':Option Addr) (cb:Nat) (w1:World) (h:w.alloc (.cells (qnA q A c A' ca B' cb) 51)=w1) (hr:RdT w A q.ns.length q.ns) (hx:rdX w q.x A' B'):
 Below w.heap.size w w1∧w1.heap.size=w.heap.size+1∧RdT w1 A q.ns.length q.ns∧rdX w1 q.x A' B'∧∀ w',Below w1.heap.size w1 w'→∀ j,w'.cell? ⟨w.heap.size,j,none⟩=(qnA q A c A' ca B' cb)[j]?:=by
 subst h;have hb:=(Below.refl w.heap.size w).alloc (Nat.le_refl _) (.cells (qnA q A c A' ca B' cb) 51);refine⟨hb,by simp,hr.below hb,hx.below hb,fun w' hb j=>?_⟩;rw [hb.cell (p:=⟨w.heap.size,j,none⟩) (by simp),World.cell?_alloc_new]
theorem getD_mem{ss:List ByteArray}{k:Nat}(h:k<ss.length):ss[k]?.getD ByteArray.empty∈ss:=by
 rw [List.getElem?_eq_getElem h];exact List.getElem_mem _
theorem refEq(q:Qn) (A:Option Addr) (c:Nat) (A':Option Addr) (ca:Nat) (B':Option Addr) (cb:Nat) (w:World) (hr:RdT w A q.ns.length q.ns) (hx:rdX w q.x A' B') (hok:OkQ q):
 Calls Try.prog 52 #[.agg (qnA q A c A' ca B' cb)] w fun e w'=>e=.returned (.bool (eqB rightX q))∧Below w.heap.size w w':=by
 have HF:=Hd fun w1 h=>qn_facts w q A c A' ca B' cb w1 h hr hx;have HE:=Hd (show eqB rightX q=(q.ns.all (fun s=>lowB s.data.toList) && decide (0<q.ns.length) && rightX q.x && (decide (q.ns.length=1) || q.x.k==13)) from rfl);have hmx:=hr.max;have HOK:=Hd hok;have HRX:=Hd fun w1 (h:rdX w1 q.x A' B')=>refRight q.x A' ca B' cb w1 h hok.2.1 hok.2.2;have hlen:q.ns.length=q.ns.length:=rfl;unfold qnA;unfold exA at HRX;generalize eqB rightX q=out at *
 go_enter Try.func52,Try.ntmps52
 go_upto_region 1 with(fail)
 generalize hw1:w.alloc _=w1;obtain⟨hb1,hg,hR1,hX1,hcell⟩:=HF.out w1 hw1;have HB1:=Hd hb1;have HC:=Hd hcell;have HR1:=Hd hR1;have HX1:=Hd hX1;simp only [qnA] at HC;clear hw1 hcell hb1 HF hr hx hR1 hX1 hok;have HNS:=Hd (show(q.ns.all fun s=>lowB s.data.toList)=q.ns.all (fun s=>lowB s.data.toList) from rfl);generalize hss:q.ns=ss at *;generalize hnn:ss.length=n at *;have HNN:=Hd hnn;generalize q.x.k=xk at *;generalize q.x.n=xn at *;generalize q.x.s=xs at *;generalize q.x.op=xo at *;generalize q.x.arms.length=xa at *;generalize q.x.subs.length=xb at *;clear hnn hlen
 go_wp2_with fail
 go_loopw [3] (fun i wr=>∃ k:Nat,k≤n∧i=.int .i64 k∧((ss.take k).all fun s=>lowB s.data.toList)=true∧Below w1.heap.size w1 wr) (fun i _=>n-(intOf i).toNat)
 case atStart=>exact⟨0,Nat.zero_le _,rfl,by simp,Below.refl _ _⟩
 case round=>
  obtain⟨k,hk,rfl,hto,hnx⟩:=hrel;have HT:=Hd hto;have HNX:=Hd hnx;have q0:=HC.out wr hnx 0;simp only [Ya,Yb,Yc] at q0;clear hto
  by_cases hlt:k<n
  · obtain⟨b,off,rfl,hb,hc⟩:=(HR1.out.below hnx).at_ hlt;have c0:=hc k hlt;clear hc hnx;have hz:=HOK.out.1 (ss[k]?.getD ByteArray.empty) (by rw [hss];exact getD_mem (by rw [HNN.out];exact hlt));have HS:=Hd fun hf=>all_take_step (l:=ss) (f:=fun s=>lowB s.data.toList) HT.out (by rw [HNN.out];exact hlt) hf;have HN:=Hd fun hf=>all_at_no (l:=ss) (f:=fun s=>lowB s.data.toList) (k:=k) (by rw [HNN.out];exact hlt) hf;unfold maxLen at hz;rw [show(default:ByteArray)=ByteArray.empty from rfl] at HS HN;generalize ss[k]?.getD ByteArray.empty=x at c0 hz HS HN
    cases hl:lowB x.data.toList with
    | true=>
     have HS2:=Hd (HS.out hl)
     go_wp2_with fail
     refine(refLow x wr (by omega)).mono ?_;rw [hl];rintro e w2 ⟨rfl,hb2⟩;have HB2:=Hd (HNX.out.trans (hb2.mono HNX.out.size));clear hb2
     go_wp2_with fail
     go_roundw
     case rel=>exact⟨k+1,by omega,by go_num,HS2.out,HB2.out⟩
     case measure=>simp [intOf];omega
    | false=>
     have HN2:=Hd (HN.out hl)
     go_wp2_with fail
     refine(refLow x wr (by omega)).mono ?_;rw [hl];rintro e w2 ⟨rfl,hb2⟩;have HB2:=Hd (HNX.out.trans (hb2.mono HNX.out.size));clear hb2
     go_wp2_with fail
     go_ret
     exact⟨ret_bool (by rw [HE.out,HN2.out];rfl),HB1.out.trans (HB2.out.mono (by omega))⟩
  · obtain rfl:k=n:=by omega
    have HY:=Hd (show(ss.all fun s=>lowB s.data.toList)=true by have:=HT.out;rwa [List.take_of_length_le (by rw [HNN.out];exact Nat.le_refl _)] at this);rw [HY.out,Bool.true_and] at HE;obtain⟨-,q1,q2,q3,q4,q5⟩:=Sx (HC.out wr hnx);have q6:=HC.out wr hnx 6;simp only [Ya,Yb,Yc] at q1 q2 q3 q4 q5 q6;have HBW:=Hd (HB1.out.trans (hnx.mono (by omega)));have HR2:=Hd (HRX.out wr (HX1.out.below hnx));clear hnx;rcases Nat.eq_zero_or_pos k with h0 | h0
    · subst h0
      go_wp2_with fail
      go_ret
      exact⟨ret_bool (by rw [HE.out];simp),HBW.out⟩
    · have d0:decide ((0:Int)<(k:Int))=true:=decide_eq_true (by omega);rw [decide_eq_true h0,Bool.true_and] at HE
      cases hrx:rightX q.x with
      | false=>
       rw [hrx] at HR2 HE
       go_wp2_with fail
       refine HR2.out.mono ?_;rintro e w2 ⟨rfl,hb2⟩;have HB2:=Hd (below_next HBW.out hb2);clear hb2
       go_wp2_with fail
       go_ret
       exact⟨ret_bool (by rw [HE.out];rfl),HB2.out⟩
      | true=>
       rw [hrx,Bool.true_and] at HE;rw [hrx] at HR2
       go_wp2_with fail
       refine HR2.out.mono ?_;rintro e w2 ⟨rfl,hb2⟩;have HB2:=Hd (below_next HBW.out hb2);have r0:=(hb2.cell (p:=⟨w.heap.size,0,none⟩) (World.block_lt_of_cell? _ _ q0)).trans q0;have r1:=(hb2.cell (p:=⟨w.heap.size,1,none⟩) (World.block_lt_of_cell? _ _ q1)).trans q1;clear hb2 q0 q1 q2 q3 q4 q5 q6
       cases d1:((k:Int)==1) with
       | true=>
        have HE2:=Hd (show out=true by rw [HE.out,show decide (k=1)=true by have:=eq_of_beq d1;exact decide_eq_true (by omega)];rfl)
        go_wp2_with fail
        go_ret
        exact⟨ret_bool (by rw [HE2.out]),HB2.out⟩
       | false=>
        have HE2:=Hd (show out=(xk==13) by rw [HE.out,show decide (k=1)=false by have:=ne_of_beq_false d1;exact decide_eq_false (by omega)];rfl)
        go_wp2_with fail
        go_ret
        exact⟨ret_bool (by rw [HE2.out]),HB2.out⟩
end
section
open Go.RowKit Go.Sort
def OkN(n:Nd):Prop:=n.nm.size≤maxLen∧(∀ d∈n.all,OkD d)∧∀ q∈n.eqs,OkQ q
def ndAtB(es io i:Nat) (d:Dc):Bool:=declB es rightB d && !(decide (i<io) && !noB d.on)
theorem getD_memA{α:Type} [Inhabited α] {l:List α}{k:Nat}(h:k<l.length):l[k]?.getD default∈l:=by
 rw [List.getElem?_eq_getElem h];exact List.getElem_mem _
theorem all_io{n:Nd}{i:Nat}(h:i<n.ins.length+n.outs.length):n.all[i]?.getD default=(n.ins++n.outs)[i]?.getD default:=by
 rw [Nd.all,List.getElem?_append_left (by rw [List.length_append];exact h)]
theorem node_yes{n:Nd}{es:Nat}(h:∀ i,i<n.all.length→ndAtB es (n.ins.length+n.outs.length) i (n.all[i]?.getD default)=true):(n.all.all (declB es rightB) && portsB n)=true:=by
 rw [Bool.and_eq_true]
 constructor
 · rw [List.all_eq_true];intro d hd;obtain⟨i,hi,rfl⟩:=List.getElem_of_mem hd;have:=h i hi;rw [List.getElem?_eq_getElem hi,Option.getD_some,ndAtB,Bool.and_eq_true] at this;exact this.1
 · rw [portsB,List.all_eq_true];intro d hd;obtain⟨i,hi,rfl⟩:=List.getElem_of_mem hd;have hl:i<n.ins.length+n.outs.length:=by rw [← List.length_append];exact hi
   have:=h i (by rw [all_len];omega);rw [all_io hl,List.getElem?_eq_getElem hi,Option.getD_some,ndAtB,Bool.and_eq_true,decide_eq_true hl] at this
   simpa using this.2
theorem node_no{n:Nd}{es i:Nat}(hi:i<n.all.length) (h:ndAtB es (n.ins.length+n.outs.length) i (n.all[i]?.getD default)=false):(n.all.all (declB es rightB) && portsB n)=false:=by
 rw [Bool.and_eq_false_iff];rw [ndAtB,Bool.and_eq_false_iff] at h;rcases h with h | h
 · exact .inl (all_at_no hi h)
 · right
   have h2:(decide (i<n.ins.length+n.outs.length) && !noB (n.all[i]?.getD default).on)=true:=by simpa using h
   rw [Bool.and_eq_true,decide_eq_true_eq] at h2;rw [portsB];refine all_at_no (k:=i) (by rw [List.length_append];exact h2.1) ?_;rw [← all_io h2.1]
   simpa using h2.2
theorem QnAt.seven{w:World}{b o:Nat}{q:Qn}(h:QnAt w b o q):∃ A c A' ca B' cb,RdT w A q.ns.length q.ns∧rdX w q.x A' B' ∧
 w.cell? ⟨b,o,none⟩=some (.slice A q.ns.length c)∧w.cell? ⟨b,o+1,none⟩=some (.int .i64 q.x.k)∧w.cell? ⟨b,o+2,none⟩=some (.int .i64 q.x.n)∧w.cell? ⟨b,o+3,none⟩=some (.string q.x.s)∧w.cell? ⟨b,o+4,none⟩=some (.int .i64 q.x.op) ∧
  w.cell? ⟨b,o+5,none⟩=some (.slice A' q.x.arms.length ca)∧w.cell? ⟨b,o+6,none⟩=some (.slice B' q.x.subs.length cb):=by
 obtain⟨A,c,A',ca,B',cb,h1,h2,h3,h4⟩:=h;obtain⟨r0,r1,r2,r3,r4,r5⟩:=rangeAt_six h3;exact⟨A,c,A',ca,B',cb,h2,h4,h1,r0,r1,r2,r3,r4,r5⟩
theorem refNode(E:Option Addr) (es ec:Nat) (x:Nd) (A1:Option Addr) (c1:Nat) (A2:Option Addr) (c2:Nat) (A3:Option Addr) (c3:Nat) (A4:Option Addr) (c4:Nat) (w:World) (hes:es≤9223372036854775807) (h:rdN w x A1 A2 A3 A4) (hok:OkN x) (hn:x.all.length≤1000):
 Calls Try.prog 32 #[.slice E es ec,.agg (ndA x A1 c1 A2 c2 A3 c3 A4 c4)] w fun e w'=>e=.returned (.bool (nodeB es rightB rightX x))∧Below w.heap.size w w':=by
 have HF:=Hd fun w1 hw=>nd_facts w x A1 c1 A2 c2 A3 c3 A4 c4 w1 hw h;have HAL:=Hd fun w1 (hw:rdN w1 x A1 A2 A3 A4)=>refAllD x A1 c1 A2 c2 A3 c3 A4 c4 w1 hw hn;have HE:=Hd (show nodeB es rightB rightX x=((x.all.all (declB es rightB) && portsB x) && x.eqs.all (eqB rightX) && lowB x.nm.data.toList && decide (0<x.outs.length)) from rfl);have hio:x.ins.length+x.outs.length≤1000:=by have:=all_len x;omega
 have HOK:=Hd hok;have HYES:=Hd (fun hh=>node_yes (n:=x) (es:=es) hh);have HNO:=Hd (fun i hi hh=>node_no (n:=x) (es:=es) (i:=i) hi hh);have hmx:=RdS.max h.2.2.2;have HLN:=Hd fun w1=>refLow x.nm w1 (by have:=hok.1;unfold maxLen at this;omega);unfold ndA at HAL ⊢;generalize nodeB es rightB rightX x=out at *
 go_enter Try.func32,Try.ntmps32
 go_upto_region 1 with(fail)
 generalize hw1:w.alloc _=w1;obtain⟨hb1,hg,hR1,hcell⟩:=HF.out w1 hw1;have HB1:=Hd hb1;have HC:=Hd hcell;have HR1:=Hd hR1;obtain⟨q0,q1,q2,q3,q4,-⟩:=Sx (hcell w1 (Below.refl _ _));simp only [ndA,List.getElem?_toArray,List.getElem?_cons_zero,List.getElem?_cons_succ] at HC q0 q1 q2 q3 q4;have HA1:=Hd (HAL.out w1 hR1);have HQR:=Hd (show RdS 7 QnAt w1 A4 x.eqs.length x.eqs from hR1.2.2.2);clear hw1 hcell hb1 HF h hR1 hok HAL;generalize hq:x.eqs=qs at *;generalize hql:qs.length=nq at *;generalize x.ins.length=n1 at *;generalize x.outs.length=n2 at *;generalize x.vars.length=n3 at *;generalize hx:x.all=all at *;generalize hxl:all.length=na at *;have HXL:=Hd hxl;have HQL:=Hd hql;clear hxl hql
 go_wp2_with fail
 refine HA1.out.mono ?_;rintro e w2 ⟨A5,c5,rfl,hR2,hb2⟩;have HB2:=Hd (below_next HB1.out hb2);have HW2:=Hd hb2;have HR2:=Hd hR2;clear hR2 hb2 q0 q1 q2 q3 q4
 go_wp2_with fail
 go_loopw [6] (fun i wr=>∃ k:Nat,k≤na∧i=.int .i64 k∧(∀ j,j<k→ndAtB es (n1+n2) j (all[j]?.getD default)=true)∧Below w2.heap.size w2 wr) (fun i _=>na-(intOf i).toNat)
 case atStart=>exact⟨0,Nat.zero_le _,rfl,fun j hj=>absurd hj (by omega),Below.refl _ _⟩
 case round=>
  obtain⟨k,hk,rfl,hto,hnx⟩:=hrel;have HT:=Hd hto;have HNX:=Hd hnx;clear hto
  by_cases hlt:k<na
  · obtain⟨b,off,rfl,hb,hc⟩:=RdS.at_ (HR2.out.below hnx) (by omega);obtain⟨d0,d1,d2,d3,d4,d5⟩:=(hc k hlt).six;clear hc hnx;have hz:=HOK.out.2.1 (all[k]?.getD default) (by rw [hx];exact getD_memA (by rw [HXL.out];exact hlt));have HZ:=Hd hz;have HN:=Hd (HNO.out k hlt)
    have HS:=Hd fun(hf:ndAtB es (n1+n2) k (all[k]?.getD default)=true)=>(show ∀ j,j<k+1→ndAtB es (n1+n2) j (all[j]?.getD default)=true from fun j hj=>by
     rcases Nat.lt_or_ge j k with h1 | h1
     · exact HT.out j h1
     · obtain rfl:j=k:=by omega
       exact hf)
    clear hz;have HDE:=Hd fun(d:Dc)=>(show ndAtB es (n1+n2) k d=(declB es rightB d && !(decide (k<n1+n2) && !(d.on.toList==[]))) by simp only [Lib.toList_data];rfl);generalize all[k]?.getD default=d at d0 d1 d2 d3 d4 d5 HZ HN HS;have HDE:=Hd (HDE.out d);have HD:=Hd (refDecl E es ec d wr hes HZ.out);unfold dcA at HD;generalize ndAtB es (n1+n2) k d=ob at HDE HS HN
    cases h1:declB es rightB d with
    | false=>
     rw [h1] at HD HDE;have HN2:=Hd (HN.out (by rw [HDE.out];rfl))
     go_wp2_with fail
     refine HD.out.mono ?_;rintro e w3 ⟨rfl,hb3⟩;have HB3:=Hd (HNX.out.trans (hb3.mono HNX.out.size));clear hb3
     go_wp2_with fail
     go_ret
     exact⟨ret_bool (by rw [HE.out,HN2.out];rfl),below_next HB2.out HB3.out⟩
    | true=>
     rw [h1] at HD HDE
     cases h2:decide ((k:Int)<(n1:Int)+(n2:Int)) with
     | false=>
      have HS2:=Hd (HS.out (by rw [HDE.out,show decide (k<n1+n2)=false by have:=of_decide_eq_false h2;exact decide_eq_false (by omega)];rfl))
      go_wp2_with fail
      refine HD.out.mono ?_;rintro e w3 ⟨rfl,hb3⟩;have HB3:=Hd (HNX.out.trans (hb3.mono HNX.out.size));have hB:=HW2.out.trans (HB3.out.mono HW2.out.size);have q1:=HC.out w3 hB 1;have q2:=HC.out w3 hB 2;simp only [Ya,Yb,Yc] at q1 q2;clear hb3 hB
      go_wp2_with fail
      go_roundw
      case rel=>exact⟨k+1,by omega,by go_num,HS2.out,HB3.out⟩
      case measure=>simp [intOf];omega
     | true=>
      rw [show decide (k<n1+n2)=true by have:=of_decide_eq_true h2;exact decide_eq_true (by omega)] at HDE
      cases h3:(d.on.toList==[]) with
      | true=>
       rw [h3] at HDE;have HS2:=Hd (HS.out (by rw [HDE.out];rfl))
       go_wp2_with fail
       refine HD.out.mono ?_;rintro e w3 ⟨rfl,hb3⟩;have HB3:=Hd (HNX.out.trans (hb3.mono HNX.out.size));have hB:=HW2.out.trans (HB3.out.mono HW2.out.size);have q1:=HC.out w3 hB 1;have q2:=HC.out w3 hB 2;have t4:=(hb3.cell (p:=⟨b,off+k*6+4,none⟩) hb).trans d4;simp only [Ya,Yb,Yc] at q1 q2;clear hb3 hB d0 d1 d2 d3 d4 d5
       go_wp2_with fail
       go_roundw
       case rel=>exact⟨k+1,by omega,by go_num,HS2.out,HB3.out⟩
       case measure=>simp [intOf];omega
      | false=>
       rw [h3] at HDE;have HN2:=Hd (HN.out (by rw [HDE.out];rfl))
       go_wp2_with fail
       refine HD.out.mono ?_;rintro e w3 ⟨rfl,hb3⟩;have HB3:=Hd (HNX.out.trans (hb3.mono HNX.out.size));have hB:=HW2.out.trans (HB3.out.mono HW2.out.size);have q1:=HC.out w3 hB 1;have q2:=HC.out w3 hB 2;have t4:=(hb3.cell (p:=⟨b,off+k*6+4,none⟩) hb).trans d4;simp only [Ya,Yb,Yc] at q1 q2;clear hb3 hB d0 d1 d2 d3 d4 d5
       go_wp2_with fail
       go_ret
       exact⟨ret_bool (by rw [HE.out,HN2.out];rfl),below_next HB2.out HB3.out⟩
  · obtain rfl:k=na:=by omega
    have HY:=Hd (HYES.out fun i hi=>HT.out i hi);rw [HY.out,Bool.true_and] at HE;have HBW:=Hd (below_next HB2.out hnx);have HW3:=Hd (HW2.out.trans (hnx.mono HW2.out.size));clear hnx
    go_wp2_with fail
    go_loopw [7] (fun i wq=>∃ j:Nat,j≤nq∧i=.int .i64 j∧(qs.take j).all (eqB rightX)=true∧Below wr.heap.size wr wq) (fun i _=>nq-(intOf i).toNat)
    case atStart=>exact⟨0,Nat.zero_le _,rfl,by simp,Below.refl _ _⟩
    case round=>
     obtain⟨j,hj,rfl,hto,hnq⟩:=hrel;have HTJ:=Hd hto;have HNQ:=Hd hnq;have hB:=HW3.out.trans (hnq.mono HW3.out.size);obtain⟨q0,-,q2,-,q4,-⟩:=Sx (HC.out _ hB);simp only [Ya,Yb,Yc] at q0 q2 q4;clear hto
     by_cases hjl:j<nq
     · obtain⟨b,off,rfl,hb,hc⟩:=RdS.at_ (RdQ.below HQR.out hB) (by omega);have hcj:=hc j hjl;have HS:=Hd fun hf=>all_take_step (l:=qs) (f:=eqB rightX) HTJ.out (by rw [HQL.out];exact hjl) hf;have HN:=Hd fun hf=>all_at_no (l:=qs) (f:=eqB rightX) (k:=j) (by rw [HQL.out];exact hjl) hf;have HQ:=Hd (HOK.out.2.2 (qs[j]?.getD default) (by rw [hq];exact getD_memA (by rw [HQL.out];exact hjl)));clear hc hnq hB;generalize qs[j]?.getD default=q at hcj HS HN HQ;obtain⟨Aq,cq,A',ca,B',cb,hqt,hqx,r0,r1,r2,r3,r4,r5,r6⟩:=hcj.seven;have HEQ:=Hd (refEq q Aq cq A' ca B' cb _ hqt hqx HQ.out);unfold qnA at HEQ;clear hqt hqx hcj
       cases h1:eqB rightX q with
       | true=>
        rw [h1] at HEQ;have HS2:=Hd (HS.out h1)
        go_wp2_with fail
        refine HEQ.out.mono ?_;rintro e w3 ⟨rfl,hb3⟩;have HB3:=Hd (HNQ.out.trans (hb3.mono HNQ.out.size));clear hb3
        go_wp2_with fail
        go_roundw
        case rel=>
         exact⟨j+1,by omega,by go_num,HS2.out,HB3.out⟩
        case measure=>simp [intOf];omega
       | false=>
        rw [h1] at HEQ;have HN2:=Hd (HN.out h1)
        go_wp2_with fail
        refine HEQ.out.mono ?_;rintro e w3 ⟨rfl,hb3⟩;have HB3:=Hd (HNQ.out.trans (hb3.mono HNQ.out.size));clear hb3
        go_wp2_with fail
        go_ret
        exact⟨ret_bool (by rw [HE.out,HN2.out];rfl),below_next HBW.out HB3.out⟩
     · obtain rfl:j=nq:=by omega
       have HQA:=Hd (show qs.all (eqB rightX)=true by have:=HTJ.out;rwa [List.take_of_length_le (by rw [HQL.out];exact Nat.le_refl _)] at this);rw [HQA.out,Bool.true_and] at HE;have HBQ:=Hd (below_next HBW.out hnq);clear hnq hB
       cases h1:lowB x.nm.data.toList with
       | false=>
        rw [h1] at HE HLN
        go_wp2_with fail
        refine(HLN.out _).mono ?_;rintro e w3 ⟨rfl,hb3⟩;have HB3:=Hd (below_next HBQ.out hb3);clear hb3
        go_wp2_with fail
        go_ret
        exact⟨ret_bool (by rw [HE.out];rfl),HB3.out⟩
       | true=>
        rw [h1,Bool.true_and] at HE;rw [h1] at HLN;have HE2:=Hd (show out=decide (0<n2) from HE.out)
        go_wp2_with fail
        refine(HLN.out _).mono ?_;rintro e w3 ⟨rfl,hb3⟩;have HB3:=Hd (below_next HBQ.out hb3);have t2:=(hb3.cell (p:=⟨w.heap.size,2,none⟩) (World.block_lt_of_cell? _ _ q2)).trans q2;clear hb3 q0 q2 q4
        go_wp2_with fail
        go_ret
        exact⟨ret_bool HE2.out.symm,HB3.out⟩
end
section
open Go.RowKit Go.Sort
def pgA(p:Pg) (E:Option Addr) (ec:Nat) (N:Option Addr) (nc:Nat):Array Value:=#[.slice E p.es.length ec,.slice N p.ns.length nc]
def rdP(w:World) (p:Pg) (E N:Option Addr):Prop:=RdE w E p.es.length p.es∧RdNs w N p.ns.length p.ns
theorem rdP.below{w w':World}{p:Pg}{E N:Option Addr}(h:rdP w p E N) (hb:Below w.heap.size w w'):rdP w' p E N:=⟨h.1.below hb,h.2.below hb⟩
theorem pg_facts(w:World) (p:Pg) (E:Option Addr) (ec:Nat) (N:Option Addr) (nc:Nat) (w1:World) (h:w.alloc (.cells (pgA p E ec N nc) 25)=w1) (hr:rdP w p E N):
 Below w.heap.size w w1∧w1.heap.size=w.heap.size+1∧rdP w1 p E N∧∀ w',Below w1.heap.size w1 w'→∀ j,w'.cell? ⟨w.heap.size,j,none⟩=(pgA p E ec N nc)[j]?:=by
 subst h;have hb:=(Below.refl w.heap.size w).alloc (Nat.le_refl _) (.cells (pgA p E ec N nc) 25);refine⟨hb,by simp,hr.below hb,fun w' hb j=>?_⟩;rw [hb.cell (p:=⟨w.heap.size,j,none⟩) (by simp),World.cell?_alloc_new]
theorem to_next{P:Nat→Prop}{k:Nat}(h:∀ j,j<k→P j) (hk:P k):∀ j,j<k+1→P j:=fun j hj=>by
 rcases Nat.lt_or_ge j k with h1 | h1
 · exact h j h1
 · obtain rfl:j=k:=by omega
   exact hk
end
section
open Go.RowKit Go.Sort
def RowD(w:World) (g:Nat) (d:Dc):Prop:=w.heap[g]?=some (Obj.cells (dcA d) 58)
theorem dcinfo:(Try.prog.info? 58).map (·.size)=some 6:=by kernel_rfl
theorem dcinfo'(d:Dc):(Try.prog.info? 58).map (·.size)=some (dcA d).size:=dcinfo
theorem res_dc2{fn:Func}{p u:Tmp}(h:fn.results=#[.cell p 58,.tmp u]) (tmps:Array Value) (w:World) (g:Nat){d:Dc}
 (hp:tmps.getD p undef=.pointer (some ⟨g,0,none⟩)) (hg:RowD w g d):(results fn tmps).run Try.prog w=.ok (.tuple #[.agg (dcA d),tmps.getD u undef]) w:=by
 rw [results_cell_tmp h,hp];have hl:=run_loadVar_row (P:=Try.prog) w g 58 58 _ _ _ hg Try.underlying58 rfl (dcinfo' d)
 simp [asAddr,Result.andThen,hl]
theorem RowD.below{w w':World}{g:Nat}{d:Dc}(h:RowD w g d) (hb:Below w.heap.size w w'):RowD w' g d:=by
 have hl:g<w.heap.size:=(Array.getElem?_eq_some_iff.1 h).1;exact(hb.block g hl).trans h
theorem RowD.set{w:World}{g:Nat}{d:Dc}(h:RowD w g d) (d':Dc):RowD (w.setRow g (dcA d')) g d':=setRow_heap _ _ _ _ _ _ h
theorem find_hit{α:Type} [Inhabited α] {f:α→Bool}:∀ {l:List α}{k:Nat},k<l.length→(∀ j,j<k→f (l[j]?.getD default)=false)→f (l[k]?.getD default)=true→l.find? f=some (l[k]?.getD default)
 | [],k,h,_,_=>by simp at h
 | a::l,0,_,_,h=>by
  have h:f a=true:=by simpa using h
  simp [List.find?,h]
 | a::l,k+1,hk,hn,h=>by
  have h0:f a=false:=by simpa using hn 0 (by omega)
  rw [List.find?_cons_of_neg (by simp [h0]),find_hit (k:=k) (by simpa using hk) (fun j hj=>by simpa using hn (j+1) (by omega)) (by simpa using h)]
  simp
theorem find_none{α:Type} [Inhabited α] {f:α→Bool}{l:List α}(hn:∀ j,j<l.length→f (l[j]?.getD default)=false):l.find? f=none:=by
 rw [List.find?_eq_none];intro a ha;obtain⟨j,hj,rfl⟩:=List.getElem_of_mem ha;have:=hn j hj;rw [List.getElem?_eq_getElem hj] at this
 simpa using this
def declV(o:Option Dc):Value:=.tuple #[.agg (dcA (o.getD default)),.bool o.isSome]
def DeclPost(w:World) (o:Option Dc) (e:Ending) (w':World):Prop:=e=.returned (declV o)∧Below w.heap.size w w'
end
section
open Go.RowKit Go.Sort
end
section
open Go.RowKit Go.Sort Go.BigFrame
end
section
open Go.RowKit Go.Sort Go.BigFrame
end
section
open Go.RowKit Go.Sort Go.BigFrame
theorem NdAt.five{w:World}{b o:Nat}{x:Nd}(h:NdAt w b o x):∃ A1 c1 A2 c2 A3 c3 A4 c4,rdN w x A1 A2 A3 A4 ∧
 w.cell? ⟨b,o,none⟩=some (.string x.nm)∧w.cell? ⟨b,o+1,none⟩=some (.slice A1 x.ins.length c1)∧w.cell? ⟨b,o+2,none⟩=some (.slice A2 x.outs.length c2)∧w.cell? ⟨b,o+3,none⟩=some (.slice A3 x.vars.length c3)∧w.cell? ⟨b,o+4,none⟩=some (.slice A4 x.eqs.length c4):=by
 obtain⟨A1,c1,A2,c2,A3,c3,A4,c4,h1,h2⟩:=h;obtain⟨d0,d1,d2,d3,d4⟩:=ndL_five h1;exact⟨A1,c1,A2,c2,A3,c3,A4,c4,h2,d0,d1,d2,d3,d4⟩
end
section
open Go.RowKit Go.Sort
section
variable {P:Program}{w:World}
theorem wpList_append_dc{ops:Array Oper}{rest:List Oper}{o:Oper}{a:Act}{Q:Exit→Act→World→Prop}(hgd:o.guard=none) (s x:Operand) (t:TypeId)
 (ho:o.op=.call { callee:=.builtin .append,args:=#[s,x],argTypes:=#[t,t] })
 (base:Nat) (e:TypeId) (i:TypeInfo) (z:Value) (bytes:Nat) (ht:P.underlying t=some (.slice e)) (hi:P.info? e=some i) (hz:i.zero=some z)
 (hsize:i.size=6) (hby:i.bytes=bytes) (hzs:z.cells.size=6)
 (v:Value) (n:Nat) (xs:List Dc) (hs:a.eval s=v) (hown:w.ownsRow base e 6 v n (flD xs))
 (A:Option Addr) (m c:Nat) (l:List Dc) (hx:a.eval x=.slice A m c) (hr:RdD w A m l)
 (h63:n+m≤maxLen) (hbytes:(n+m)*bytes≤140737488355328) (hbase:base≤w.heap.size)
 (h:∀ v' w',w'.ownsRow base e 6 v' (n+m) (flD (xs++l))→w.grownBy w' v.ownBlock→wpList P ops Q rest (a.put o.dst v') w'):wpList P ops Q (o::rest) a w:=by
 obtain⟨hA,hnews⟩:=hr.news;have hlen:=RdS.len hr;rcases A with _ | ad
 · obtain rfl:m=0:=hA rfl;obtain rfl:l=[]:=List.eq_nil_of_length_eq_zero hlen;refine wpList_plain hgd fun K hK=>?_;have hrun:=run_append_nil (P:=P) (w:=w) base t o.type e i 6 ht hi v n _ hown c;unfold Oper.wp
   simp [execOp,ho,resolve,invoke,builtin,hs,hx,hrun,Result.andThen]
   exact hK _ _ (h v w (by simpa using hown) (World.grownBy.refl w _))
 · exact wpList_append_own_at w hgd s x t ho base e i z 6 bytes ht hi hz hsize hby hzs (by decide) v n _ hs hown ad m c (flD l) hx (by rw [flD_len,hlen]) (fun j u hu=>hnews ad rfl j u hu) (flD_ones l) h63 hbytes hbase fun v' w' h1 h2 _ _=>h v' w' (by rw [flD_app];exact h1) h2
end
theorem RowD.cells{w:World}{g:Nat}{d:Dc}(h:RowD w g d) (j:Nat):w.cell? ⟨g,j,none⟩=(dcA d)[j]?:=by
 unfold World.cell?;rw [show w.heap[(⟨g,j,none⟩:Addr).block]?=_ from h];rfl
def ClockPost(w:World) (o:Option (List Dc)) (e:Ending) (w':World):Prop:=
 Below w.heap.size w w'∧match o with
  | none=>e=.returned (.tuple #[.slice none 0 0,.bool false])
  | some l=>∃ A c,e=.returned (.tuple #[.slice A l.length c,.bool true])∧RdD w' A l.length l
def ClockAt(x:Nd) (out:Option (List Dc)) (w:World) (k:Nat) (t:ByteArray) (v:Value):Prop:=
 ∃ acc A c,v=.slice A acc.length c∧RdD w A acc.length acc∧acc.length=k∧clockR x (13-k) t acc=out
theorem ClockAt.below{x:Nd}{out:Option (List Dc)}{w w':World}{k:Nat}{t:ByteArray}{v:Value}(h:ClockAt x out w k t v) (hb:Below w.heap.size w w'):ClockAt x out w' k t v:=by
 obtain⟨acc,A,c,e,h1,h2⟩:=h;exact⟨acc,A,c,e,h1.below hb,h2⟩
theorem clockR_succ(x:Nd) (k:Nat) (s:ByteArray) (acc:List Dc):clockR x (k+1) s acc=match declO x s with | none=>none | some d=>if noB d.on then some acc else clockR x k d.on (d::acc):=rfl
end
end Go.Proofs.Ytkbpdoomhfkngaa
