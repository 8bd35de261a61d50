/- Parts of the proof: PgC, PgD, PgE, PgF, PgG, PgH, PgJ, PgK, PgN, PgO, PgQ, PgP, ScM, ClM, ClO. Conditions: each theorem's own. -/
import Derived.BigRegion
import Derived.Sort.Grow
import Derived.Laws.ResultCell
import Derived.Laws.Rows
import Derived.Laws.Tables
import Derived.Laws.CopyOwn
import Derived.Test.YtkbpdoomhfkngaaF06
import Derived.Test.YtkbpdoomhfkngaaF07
namespace Go.Proofs.Ytkbpdoomhfkngaa
set_option linter.unusedVariables false
set_option linter.unusedSimpArgs false
set_option maxRecDepth 100000
set_option maxHeartbeats 40000000
section
open Go.RowKit Go.Sort
def flD(l:List Dc):List Value:=l.flatMap dcL
theorem flD_len(l:List Dc):(flD l).length=l.length*6:=by
 induction l with
 | nil=>rfl
 | cons d l ih=>simp only [flD,List.flatMap_cons,List.length_append,List.length_cons] at ih ⊢;rw [ih];simp [dcL];omega
theorem flD_app(a b:List Dc):flD (a++b)=flD a++flD b:=by simp [flD]
theorem flD_one(d:Dc):flD [d]=dcL d:=by simp [flD]
theorem flD_at:∀ (l:List Dc) (i j:Nat),i<l.length→j<6→(flD l)[i*6+j]?=(dcL (l[i]?.getD default))[j]?
 | t::ts,0,j,_,hj=>by
  have hz:j<(dcL t).length:=by simpa [dcL] using hj
  simp only [flD,List.flatMap_cons,Nat.zero_mul,Nat.zero_add];rw [List.getElem?_append_left hz]
  simp
 | t::ts,i+1,j,hi,hj=>by
  have ih:=flD_at ts i j (by simpa using hi) hj;have hz:(dcL t).length=6:=by simp [dcL]
  simp only [flD,List.flatMap_cons];rw [List.getElem?_append_right (by rw [hz];omega),hz,show(i+1)*6+j-6=i*6+j by omega]
  simpa [flD] using ih
theorem flD_ones(l:List Dc):∀ u∈flD l,u.oneCell'=true:=by
 intro u hu;simp only [flD,List.mem_flatMap] at hu;obtain⟨t,_,hu⟩:=hu
 simp [dcL] at hu
 rcases hu with rfl | rfl | rfl | rfl | rfl | rfl <;> rfl
section
variable {w w':World}{A:Option Addr}{n:Nat}{l:List Dc}
theorem RdD.of_own{base:Nat}{e:TypeId}{v:Value}(h:w.ownsRow base e 6 v n (flD l)) (hm:n≤9223372036854775807):∃ A c,v=.slice A n c∧RdD w A n l:=by
 have hl:l.length=n:=by
  have:=h.1;rw [flD_len] at this;omega
 rcases h.2 with⟨rfl,rfl⟩|⟨g,cap,cur,rfl,hg,hh,hnc,hcm,hcs,ht⟩
 · obtain rfl:l=[]:=List.eq_nil_of_length_eq_zero hl;exact⟨none,0,rfl,RdS.nil_ _ _ _⟩
 · refine⟨_,cap,rfl,hl,hm,fun hn=>⟨g,0,rfl,(Array.getElem?_eq_some_iff.1 hh).1,fun i hi=>?_⟩⟩;intro j v hv
   have hj:j<6:=by
    rcases Nat.lt_or_ge j 6 with h | h
    · exact h
    · rw [List.getElem?_eq_none (by simpa [dcL] using h)] at hv;cases hv
   rw [Nat.zero_add,h.cellAt (i*6+j) (by omega),flD_at l i j (by omega) hj,hv]
theorem RdD.news(h:RdD w A n l):(A=none→n=0)∧∀ ad,A=some ad→∀ j u,(flD l)[j]?=some u→w.cell? (ad.add j)=some u:=by
 constructor
 · rintro rfl;rcases Nat.eq_zero_or_pos n with h0 | h0
   · exact h0
   · obtain⟨b,off,e,_⟩:=RdS.at_ h h0;cases e
 · rintro ad rfl j u hu
   have hj:j<l.length*6:=by
    rcases Nat.lt_or_ge j (l.length*6) with h1 | h1
    · exact h1
    · rw [List.getElem?_eq_none (by rw [flD_len];exact h1)] at hu;cases hu
   have hlen:=RdS.len h;obtain⟨b,off,e,hb,hc⟩:=RdS.at_ h (by omega);injection e with e;subst e;have h6:j / 6*6+j % 6=j:=by omega
   have h7:j % 6<6:=by omega
   have h1:=hc (j / 6) (by omega);rw [add_addr];have h2:=flD_at l (j / 6) (j % 6) (by omega) h7;rw [h6,hu] at h2;have h3:=h1 (j % 6) u h2.symm;rwa [show off+j / 6*6+j % 6=off+j by omega] at h3
end
theorem infoDecl:(Try.prog.info? 58).map (fun i=>(i.size,i.bytes,i.zero.map fun z=>z.cells.size))=some (6,72,some 6):=by kernel_rfl
theorem info_three{P:Program}{t:TypeId}{a b c:Nat}(h:(P.info? t).map (fun i=>(i.size,i.bytes,i.zero.map fun z=>z.cells.size))=some (a,b,some c)):∃ i z,P.info? t=some i∧i.zero=some z∧i.size=a∧i.bytes=b∧z.cells.size=c:=by
 obtain⟨i,h1,h2⟩:=Option.map_eq_some_iff.1 h;simp only [Prod.mk.injEq,Option.map_eq_some_iff] at h2;obtain⟨h3,h4,z,h5,h6⟩:=h2;exact⟨i,z,h1,h5,h3,h4,h6⟩
theorem nd_facts(w:World) (x:Nd) (A1:Option Addr) (c1:Nat) (A2:Option Addr) (c2:Nat) (A3:Option Addr) (c3:Nat) (A4:Option Addr) (c4:Nat) (w1:World) (h:w.alloc (.cells (ndA x A1 c1 A2 c2 A3 c3 A4 c4) 48)=w1) (hr:rdN w x A1 A2 A3 A4):
 Below w.heap.size w w1∧w1.heap.size=w.heap.size+1∧rdN w1 x A1 A2 A3 A4∧∀ w',Below w1.heap.size w1 w'→∀ j,w'.cell? ⟨w.heap.size,j,none⟩=(ndA x A1 c1 A2 c2 A3 c3 A4 c4)[j]?:=by
 subst h;refine⟨(Below.refl _ _).alloc (Nat.le_refl _) _,by simp,hr.below ((Below.refl _ _).alloc (Nat.le_refl _) _),fun w' hb j=>?_⟩;rw [hb.cell (p:=⟨w.heap.size,j,none⟩) (by simp),World.cell?_alloc_new]
def DeclsPost(w:World) (n:Nat) (l:List Dc) (e:Ending) (w':World):Prop:=∃ A c,e=.returned (.slice A n c)∧RdD w' A n l∧Below w.heap.size w w'
theorem refAllD(x:Nd) (A1:Option Addr) (c1:Nat) (A2:Option Addr) (c2:Nat) (A3:Option Addr) (c3:Nat) (A4:Option Addr) (c4:Nat) (w:World) (h:rdN w x A1 A2 A3 A4) (hn:x.all.length≤1000):
 Calls Try.prog 35 #[.agg (ndA x A1 c1 A2 c2 A3 c3 A4 c4)] w (DeclsPost w x.all.length x.all):=by
 have hlen:=all_len x;have HXA:=Hd (show flD x.all=flD x.ins++flD x.outs++flD x.vars by rw [Nd.all,flD_app,flD_app]);have HL1:=Hd (flD_len x.ins);have HL2:=Hd (flD_len x.outs);have HL3:=Hd (flD_len x.vars);have HO1:=Hd (flD_ones x.ins);have HO2:=Hd (flD_ones x.outs);have HO3:=Hd (flD_ones x.vars);obtain⟨i0,z0,hi,hz1,hz0,hz2,hz3⟩:=info_three infoDecl;obtain⟨h1,h2,h3,h4⟩:=h;have HF:=Hd fun w1 (hw:w.alloc (.cells (ndA x A1 c1 A2 c2 A3 c3 A4 c4) 48)=w1)=>nd_facts w x A1 c1 A2 c2 A3 c3 A4 c4 w1 hw ⟨h1,h2,h3,h4⟩;unfold ndA
 go_enter Try.func35,Try.ntmps35
 go_upto_region 1 with(fail)
 generalize hw1:w.alloc _=w1;obtain⟨hb1,hg,⟨r1,r2,r3,-⟩,hcell⟩:=HF.out w1 hw1;obtain⟨-,q1,q2,q3,-,-⟩:=Sx (hcell w1 (Below.refl _ _));simp only [ndA,List.getElem?_toArray,List.getElem?_cons_zero,List.getElem?_cons_succ] at q1 q2 q3;have HB1:=Hd hb1;obtain⟨n1',n1s⟩:=r1.news;obtain⟨n2',n2s⟩:=r2.news;obtain⟨n3',n3s⟩:=r3.news;have HR1:=Hd r1.news;have HR2:=Hd r2.news;have HR3:=Hd r3.news;clear hw1 hcell hb1 h1 h2 h3 h4 r1 r2 r3 n1' n1s n2' n2s n3' n3s HF;generalize x.ins.length=n1 at *;generalize x.outs.length=n2 at *;generalize x.vars.length=n3 at *;generalize flD x.ins=f1 at *;generalize flD x.outs=f2 at *;generalize flD x.vars=f3 at *;have hr0:=World.ownsRow_lit (base:=w1.heap.size) (e:=58) (size:=6) w1 #[] 0 (by simp) (by decide) rfl;rw [hg] at hr0;have HO0:=Hd (show(w1.alloc (.cells #[] 58)).drew.ownsRow (w.heap.size+1) 58 6 (.slice (some ⟨w.heap.size+1,0,none⟩) 0 0) 0 [] from hr0);clear hr0;refine wp_region_held_drew (S:=fun W=>W.cell? ⟨w.heap.size,1,none⟩=some (.slice A1 n1 c1)∧W.cell? ⟨w.heap.size,2,none⟩=some (.slice A2 n2 c2)∧W.cell? ⟨w.heap.size,3,none⟩=some (.slice A3 n3 c3)) (by kernel_rfl) ?_ (fun hHeld=>?_)
 · exact⟨q1,q2,q3⟩
 refine wpAnyH_take (i:=1) (oi:=?oi1) (v:=.pointer (some ⟨w.heap.size,1,none⟩)) ?h1x1 (by kernel_rfl) ?h3x1 (by kernel_rfl) ?h5x1 (Or.inl ⟨?h6x1,?h7x1⟩) hHeld ?h8x1
 case h1x1=>
  simp only [Ya,Yb,Yc];rfl
 case h3x1=>kernel_rfl
 case h5x1=>exact fun _ _ _ h=>h
 case h6x1=>rfl
 case h7x1=>
  intro W hSW
  (try dsimp only at hSW)
  go_split_ands
  first | (go_simp;done) | (go_simp;with_reducible rfl)
 (try simp only [Act.put,Yd,Ye,Yf])
 refine wpAnyH_take (i:=2) (oi:=?oi2) (v:=.slice A1 n1 c1) ?h1x2 (by kernel_rfl) ?h3x2 (by kernel_rfl) ?h5x2 (Or.inl ⟨?h6x2,?h7x2⟩) hHeld ?h8x2
 case h1x2=>
  simp only [Ya,Yb,Yc];rfl
 case h3x2=>kernel_rfl
 case h5x2=>exact fun _ _ _ h=>h
 case h6x2=>rfl
 case h7x2=>
  intro W hSW
  (try dsimp only at hSW)
  go_split_ands
  first | (go_simp;done) | (go_simp;with_reducible rfl)
 (try simp only [Act.put,Yd,Ye,Yf])
 refine wpAnyH_take (i:=4) (oi:=?oi3) (v:=.pointer (some ⟨w.heap.size,2,none⟩)) ?h1x3 (by kernel_rfl) ?h3x3 (by kernel_rfl) ?h5x3 (Or.inl ⟨?h6x3,?h7x3⟩) hHeld ?h8x3
 case h1x3=>
  simp only [Ya,Yb,Yc];rfl
 case h3x3=>kernel_rfl
 case h5x3=>exact fun _ _ _ h=>h
 case h6x3=>rfl
 case h7x3=>
  intro W hSW
  (try dsimp only at hSW)
  go_split_ands
  first | (go_simp;done) | (go_simp;with_reducible rfl)
 (try simp only [Act.put,Yd,Ye,Yf])
 refine wpAnyH_take (i:=5) (oi:=?oi4) (v:=.slice A2 n2 c2) ?h1x4 (by kernel_rfl) ?h3x4 (by kernel_rfl) ?h5x4 (Or.inl ⟨?h6x4,?h7x4⟩) hHeld ?h8x4
 case h1x4=>
  simp only [Ya,Yb,Yc];rfl
 case h3x4=>kernel_rfl
 case h5x4=>exact fun _ _ _ h=>h
 case h6x4=>rfl
 case h7x4=>
  intro W hSW
  (try dsimp only at hSW)
  go_split_ands
  first | (go_simp;done) | (go_simp;with_reducible rfl)
 (try simp only [Act.put,Yd,Ye,Yf])
 refine wpAnyH_take (i:=7) (oi:=?oi5) (v:=.pointer (some ⟨w.heap.size,3,none⟩)) ?h1x5 (by kernel_rfl) ?h3x5 (by kernel_rfl) ?h5x5 (Or.inl ⟨?h6x5,?h7x5⟩) hHeld ?h8x5
 case h1x5=>
  simp only [Ya,Yb,Yc];rfl
 case h3x5=>kernel_rfl
 case h5x5=>exact fun _ _ _ h=>h
 case h6x5=>rfl
 case h7x5=>
  intro W hSW
  (try dsimp only at hSW)
  go_split_ands
  first | (go_simp;done) | (go_simp;with_reducible rfl)
 (try simp only [Act.put,Yd,Ye,Yf])
 refine wpAnyH_take (i:=8) (oi:=?oi6) (v:=.slice A3 n3 c3) ?h1x6 (by kernel_rfl) ?h3x6 (by kernel_rfl) ?h5x6 (Or.inl ⟨?h6x6,?h7x6⟩) hHeld ?h8x6
 case h1x6=>
  simp only [Ya,Yb,Yc];rfl
 case h3x6=>kernel_rfl
 case h5x6=>exact fun _ _ _ h=>h
 case h6x6=>rfl
 case h7x6=>
  intro W hSW
  (try dsimp only at hSW)
  go_split_ands
  first | (go_simp;done) | (go_simp;with_reducible rfl)
 (try simp only [Act.put,Yd,Ye,Yf])
 have hbl0:Below w1.heap.size w1 (w1.alloc (.cells #[] 58)).drew:=((Below.refl w1.heap.size w1).alloc (Nat.le_refl _) _).drew;have HBL0:=Hd hbl0;have a0:=(hbl0.cell (p:=⟨w.heap.size,1,none⟩) (by show w.heap.size<_;omega)).trans q1;have b0:=(hbl0.cell (p:=⟨w.heap.size,2,none⟩) (by show w.heap.size<_;omega)).trans q2;have e0:=(hbl0.cell (p:=⟨w.heap.size,3,none⟩) (by show w.heap.size<_;omega)).trans q3;clear hbl0;refine wpAnyH_ready (rs:=[0]) (by kernel_rfl) (by simp) ?_;refine AllReadyH.cons (by rfl) (fun K hK=>?_) ?_
 · go_simp
   refine hK.out _ _ ?_ (fun hHeld=>?_)
   · exact⟨a0,b0,e0⟩
   clear hK K
   (try simp only [Act.put,Yd,Ye,Yf])
   refine wpAnyH_ready (rs:=[3]) (by kernel_rfl) (by simp) ?_;refine AllReadyH.cons (by rfl) (fun K hK=>?_) ?_
   · refine step_append_any (by rfl) _ _ _ (by rfl) (w.heap.size+1) 58 i0 z0 6 72 Try.underlying45 hi hz1 hz0 hz2 hz3 (by decide) (.slice (some ⟨w.heap.size+1,0,none⟩) 0 0) 0 [] (by rfl) HO0.out A1 n1 c1 f1 (by rfl) (by rw [HL1.out]) HR1.out.1 (fun ad e j u hu=>by have h:=HR1.out.2 ad e j u hu;exact(HBL0.out.cell (World.block_lt_of_cell? _ _ h)).trans h) HO1.out (by unfold maxLen;omega) (by omega) (by have:=HBL0.out.size;omega) ?_;intro B1 d1 v1 hown1 hgr1 hat1;have HW1:=Hd hown1;have hbl1:Below w1.heap.size w1 v1:=HBL0.out.grown hgr1 (by have:=HBL0.out.size;omega) (fun j hj=>by rw [hg];exact(HO0.out.lt j hj).1);have HBL1:=Hd hbl1;have a1:=(hbl1.cell (p:=⟨w.heap.size,1,none⟩) (by show w.heap.size<_;omega)).trans q1;have b1:=(hbl1.cell (p:=⟨w.heap.size,2,none⟩) (by show w.heap.size<_;omega)).trans q2;have e1:=(hbl1.cell (p:=⟨w.heap.size,3,none⟩) (by show w.heap.size<_;omega)).trans q3;clear hown1 hgr1 hat1 hbl1;refine hK.out _ _ ?_ (fun hHeld=>?_)
     · exact⟨a1,b1,e1⟩
     clear hK K
     (try simp only [Act.put,Yd,Ye,Yf])
     refine wpAnyH_ready (rs:=[6]) (by kernel_rfl) (by simp) ?_;refine AllReadyH.cons (by rfl) (fun K hK=>?_) ?_
     · refine step_append_any (by rfl) _ _ _ (by rfl) (w.heap.size+1) 58 i0 z0 6 72 Try.underlying45 hi hz1 hz0 hz2 hz3 (by decide) (.slice B1 (0+n1) d1) (0+n1) ([]++f1) (by rfl) HW1.out A2 n2 c2 f2 (by rfl) (by rw [HL2.out]) HR2.out.1 (fun ad e j u hu=>by have h:=HR2.out.2 ad e j u hu;exact(HBL1.out.cell (World.block_lt_of_cell? _ _ h)).trans h) HO2.out (by unfold maxLen;omega) (by omega) (by have:=HBL1.out.size;omega) ?_;intro B2 d2 v2 hown2 hgr2 hat2;have HW2:=Hd hown2;have hbl2:Below w1.heap.size w1 v2:=HBL1.out.grown hgr2 (by have:=HBL1.out.size;omega) (fun j hj=>by rw [hg];exact(HW1.out.lt j hj).1);have HBL2:=Hd hbl2;have a2:=(hbl2.cell (p:=⟨w.heap.size,1,none⟩) (by show w.heap.size<_;omega)).trans q1;have b2:=(hbl2.cell (p:=⟨w.heap.size,2,none⟩) (by show w.heap.size<_;omega)).trans q2;have e2:=(hbl2.cell (p:=⟨w.heap.size,3,none⟩) (by show w.heap.size<_;omega)).trans q3;clear hown2 hgr2 hat2 hbl2;refine hK.out _ _ ?_ (fun hHeld=>?_)
       · exact⟨a2,b2,e2⟩
       clear hK K
       (try simp only [Act.put,Yd,Ye,Yf])
       refine wpAnyH_ready (rs:=[9]) (by kernel_rfl) (by simp) ?_;refine AllReadyH.cons (by rfl) (fun K hK=>?_) ?_
       · refine step_append_any (by rfl) _ _ _ (by rfl) (w.heap.size+1) 58 i0 z0 6 72 Try.underlying45 hi hz1 hz0 hz2 hz3 (by decide) (.slice B2 (0+n1+n2) d2) (0+n1+n2) ([]++f1++f2) (by rfl) HW2.out A3 n3 c3 f3 (by rfl) (by rw [HL3.out]) HR3.out.1 (fun ad e j u hu=>by have h:=HR3.out.2 ad e j u hu;exact(HBL2.out.cell (World.block_lt_of_cell? _ _ h)).trans h) HO3.out (by unfold maxLen;omega) (by omega) (by have:=HBL2.out.size;omega) ?_;intro B3 d3 v3 hown3 hgr3 hat3;have HW3:=Hd hown3;have hbl3:Below w1.heap.size w1 v3:=HBL2.out.grown hgr3 (by have:=HBL2.out.size;omega) (fun j hj=>by rw [hg];exact(HW2.out.lt j hj).1);have HBL3:=Hd hbl3;have a3:=(hbl3.cell (p:=⟨w.heap.size,1,none⟩) (by show w.heap.size<_;omega)).trans q1;have b3:=(hbl3.cell (p:=⟨w.heap.size,2,none⟩) (by show w.heap.size<_;omega)).trans q2;have e3:=(hbl3.cell (p:=⟨w.heap.size,3,none⟩) (by show w.heap.size<_;omega)).trans q3;clear hown3 hgr3 hat3 hbl3;refine hK.out _ _ ?_ (fun hHeld=>?_)
         · exact⟨a3,b3,e3⟩
         clear hK K
         (try simp only [Act.put,Yd,Ye,Yf])
         refine wpAnyH_ready (rs:=[10]) (by kernel_rfl) (by simp) ?_;refine AllReadyH.cons (by rfl) (fun K hK=>?_) ?_
         · go_simp
           refine hK.out _ _ ?_ (fun hHeld=>?_)
           · exact⟨a3,b3,e3⟩
           clear hK K
           (try simp only [Act.put,Yd,Ye,Yf])
           refine wpAnyH_done (by kernel_rfl) ?_ _
           go_wp2_with fail
           go_ret
           have hw:=HW3.out;rw [List.nil_append,← HXA.out,Nat.zero_add,← hlen] at hw;obtain⟨A,c,e,hR⟩:=RdD.of_own hw (by omega);refine⟨A,c,?_,hR,HB1.out.trans (HBL3.out.mono (by omega))⟩;rw [← e,hlen];rfl
         exact AllReadyH.nil
       exact AllReadyH.nil
     exact AllReadyH.nil
   exact AllReadyH.nil
 exact AllReadyH.nil
end
section
open Go.RowKit
def OkD(d:Dc):Prop:=d.nm.size≤maxLen∧d.on.size≤maxLen∧d.ct.size≤maxLen
theorem dc_facts(w:World) (d:Dc) (w1:World) (h:w.alloc (.cells (dcA d) 58)=w1):
 Below w.heap.size w w1∧w1.heap.size=w.heap.size+1∧∀ w',Below w1.heap.size w1 w'→∀ j,w'.cell? ⟨w.heap.size,j,none⟩=(dcA d)[j]?:=by
 subst h;refine⟨(Below.refl _ _).alloc (Nat.le_refl _) _,by simp,fun w' hb j=>?_⟩;rw [hb.cell (p:=⟨w.heap.size,j,none⟩) (by simp),World.cell?_alloc_new]
end
section
open Go.RowKit
def qnA(q:Qn) (A:Option Addr) (c:Nat) (A':Option Addr) (ca:Nat) (B':Option Addr) (cb:Nat):Array Value:=
 #[.slice A q.ns.length c,.int .i64 q.x.k,.int .i64 q.x.n,.string q.x.s,.int .i64 q.x.op,.slice A' q.x.arms.length ca,.slice B' q.x.subs.length cb]
def OkQ(q:Qn):Prop:=(∀ s∈q.ns,s.size≤maxLen)∧sizeX q.x≤1000000∧∀ p∈partsX q.x,ShortP p
end
section
open Go.RowKit Go.Sort
def OkN(n:Nd):Prop:=n.nm.size≤maxLen∧(∀ d∈n.all,OkD d)∧∀ q∈n.eqs,OkQ q
theorem QnAt.seven{w:World}{b o:Nat}{q:Qn}(h:QnAt w b o q):∃ A c A' ca B' cb,RdT w A q.ns.length q.ns∧rdX w q.x A' B' ∧
 w.cell? ⟨b,o,none⟩=some (.slice A q.ns.length c)∧w.cell? ⟨b,o+1,none⟩=some (.int .i64 q.x.k)∧w.cell? ⟨b,o+2,none⟩=some (.int .i64 q.x.n)∧w.cell? ⟨b,o+3,none⟩=some (.string q.x.s)∧w.cell? ⟨b,o+4,none⟩=some (.int .i64 q.x.op) ∧
  w.cell? ⟨b,o+5,none⟩=some (.slice A' q.x.arms.length ca)∧w.cell? ⟨b,o+6,none⟩=some (.slice B' q.x.subs.length cb):=by
 obtain⟨A,c,A',ca,B',cb,h1,h2,h3,h4⟩:=h;obtain⟨r0,r1,r2,r3,r4,r5⟩:=rangeAt_six h3;exact⟨A,c,A',ca,B',cb,h2,h4,h1,r0,r1,r2,r3,r4,r5⟩
end
section
open Go.RowKit Go.Sort
def pgA(p:Pg) (E:Option Addr) (ec:Nat) (N:Option Addr) (nc:Nat):Array Value:=#[.slice E p.es.length ec,.slice N p.ns.length nc]
def rdP(w:World) (p:Pg) (E N:Option Addr):Prop:=RdE w E p.es.length p.es∧RdNs w N p.ns.length p.ns
theorem rdP.below{w w':World}{p:Pg}{E N:Option Addr}(h:rdP w p E N) (hb:Below w.heap.size w w'):rdP w' p E N:=⟨h.1.below hb,h.2.below hb⟩
theorem pg_facts(w:World) (p:Pg) (E:Option Addr) (ec:Nat) (N:Option Addr) (nc:Nat) (w1:World) (h:w.alloc (.cells (pgA p E ec N nc) 25)=w1) (hr:rdP w p E N):
 Below w.heap.size w w1∧w1.heap.size=w.heap.size+1∧rdP w1 p E N∧∀ w',Below w1.heap.size w1 w'→∀ j,w'.cell? ⟨w.heap.size,j,none⟩=(pgA p E ec N nc)[j]?:=by
 subst h;have hb:=(Below.refl w.heap.size w).alloc (Nat.le_refl _) (.cells (pgA p E ec N nc) 25);refine⟨hb,by simp,hr.below hb,fun w' hb j=>?_⟩;rw [hb.cell (p:=⟨w.heap.size,j,none⟩) (by simp),World.cell?_alloc_new]
theorem to_next{P:Nat→Prop}{k:Nat}(h:∀ j,j<k→P j) (hk:P k):∀ j,j<k+1→P j:=fun j hj=>by
 rcases Nat.lt_or_ge j k with h1 | h1
 · exact h j h1
 · obtain rfl:j=k:=by omega
   exact hk
end
section
open Go.RowKit Go.Sort
def RowD(w:World) (g:Nat) (d:Dc):Prop:=w.heap[g]?=some (Obj.cells (dcA d) 58)
theorem dcinfo:(Try.prog.info? 58).map (·.size)=some 6:=by kernel_rfl
theorem dcinfo'(d:Dc):(Try.prog.info? 58).map (·.size)=some (dcA d).size:=dcinfo
theorem res_dc2{fn:Func}{p u:Tmp}(h:fn.results=#[.cell p 58,.tmp u]) (tmps:Array Value) (w:World) (g:Nat){d:Dc}
 (hp:tmps.getD p undef=.pointer (some ⟨g,0,none⟩)) (hg:RowD w g d):(results fn tmps).run Try.prog w=.ok (.tuple #[.agg (dcA d),tmps.getD u undef]) w:=by
 rw [results_cell_tmp h,hp];have hl:=run_loadVar_row (P:=Try.prog) w g 58 58 _ _ _ hg Try.underlying58 rfl (dcinfo' d)
 simp [asAddr,Result.andThen,hl]
theorem RowD.below{w w':World}{g:Nat}{d:Dc}(h:RowD w g d) (hb:Below w.heap.size w w'):RowD w' g d:=by
 have hl:g<w.heap.size:=(Array.getElem?_eq_some_iff.1 h).1;exact(hb.block g hl).trans h
theorem RowD.set{w:World}{g:Nat}{d:Dc}(h:RowD w g d) (d':Dc):RowD (w.setRow g (dcA d')) g d':=setRow_heap _ _ _ _ _ _ h
theorem find_hit{α:Type} [Inhabited α] {f:α→Bool}:∀ {l:List α}{k:Nat},k<l.length→(∀ j,j<k→f (l[j]?.getD default)=false)→f (l[k]?.getD default)=true→l.find? f=some (l[k]?.getD default)
 | [],k,h,_,_=>by simp at h
 | a::l,0,_,_,h=>by
  have h:f a=true:=by simpa using h
  simp [List.find?,h]
 | a::l,k+1,hk,hn,h=>by
  have h0:f a=false:=by simpa using hn 0 (by omega)
  rw [List.find?_cons_of_neg (by simp [h0]),find_hit (k:=k) (by simpa using hk) (fun j hj=>by simpa using hn (j+1) (by omega)) (by simpa using h)]
  simp
theorem find_none{α:Type} [Inhabited α] {f:α→Bool}{l:List α}(hn:∀ j,j<l.length→f (l[j]?.getD default)=false):l.find? f=none:=by
 rw [List.find?_eq_none];intro a ha;obtain⟨j,hj,rfl⟩:=List.getElem_of_mem ha;have:=hn j hj;rw [List.getElem?_eq_getElem hj] at this
 simpa using this
def declV(o:Option Dc):Value:=.tuple #[.agg (dcA (o.getD default)),.bool o.isSome]
def DeclPost(w:World) (o:Option Dc) (e:Ending) (w':World):Prop:=e=.returned (declV o)∧Below w.heap.size w w'
theorem refDeclN(x:Nd) (A1:Option Addr) (c1:Nat) (A2:Option Addr) (c2:Nat) (A3:Option Addr) (c3:Nat) (A4:Option Addr) (c4:Nat) (s:ByteArray) (w:World) (h:rdN w x A1 A2 A3 A4) (hn:x.all.length≤1000):
 Calls Try.prog 43 #[.agg (ndA x A1 c1 A2 c2 A3 c3 A4 c4),.string s] w (DeclPost w (declO x s)):=by
 have HF:=Hd fun w1 hw=>nd_facts w x A1 c1 A2 c2 A3 c3 A4 c4 w1 hw h;have HAL:=Hd fun w1 (hw:rdN w1 x A1 A2 A3 A4)=>refAllD x A1 c1 A2 c2 A3 c3 A4 c4 w1 hw hn;have HHIT:=Hd (fun(k:Nat) hk hn hy=>show declO x s=some (x.all[k]?.getD default) from find_hit (l:=x.all) (f:=fun d:Dc=>d.nm.data.toList==s.data.toList) (k:=k) hk hn hy);have HNO:=Hd (fun hn=>show declO x s=none from find_none (l:=x.all) (f:=fun d:Dc=>d.nm.data.toList==s.data.toList) hn);unfold ndA at HAL ⊢;generalize declO x s=out at *
 go_enter Try.func43,Try.ntmps43
 go_upto_region 1 with(fail)
 generalize hw1:w.alloc _=w1;obtain⟨hb1,hg,hR1,hcell⟩:=HF.out w1 hw1;have HB1:=Hd hb1;have HR1:=Hd hR1;have HCE:=Hd hcell
 have HN2:=Hd fun w2 (hw:w1.alloc (.cells (dcA default) 58)=w2)=>(show RowD w2 (w.heap.size+1) default∧Below w1.heap.size w1 w2 by
  subst hw;exact⟨by rw [← hg];exact heap_alloc_new _ _,(Below.refl _ _).alloc (Nat.le_refl _) _⟩)
 clear hw1 hcell hb1 HF h hR1;generalize hw2:w1.alloc _=w2;obtain⟨hr2,hb2⟩:=HN2.out w2 hw2;have HW2:=Hd hb2;have HROW:=Hd hr2;simp only [ndA] at HCE;obtain⟨q0,q1,q2,q3,q4,-⟩:=Sx (HCE.out w2 hb2);simp only [Ya,Yb,Yc] at q0 q1 q2 q3 q4;have HA1:=Hd (HAL.out w2 (HR1.out.below hb2));clear hw2 hr2 hb2 HN2 HAL;generalize hx:x.all=all at *;generalize hxl:all.length=na at *;have HXL:=Hd hxl;clear hxl
 go_wp2_with fail
 refine HA1.out.mono ?_;rintro e w3 ⟨A5,c5,rfl,hR3,hb3⟩;have HROW3:=Hd (HROW.out.below hb3);have HW3:=Hd (HW2.out.trans (hb3.mono HW2.out.size));have HR3:=Hd hR3;have hz3:=hb3.size;clear hR3 hb3 q0 q1 q2 q3 q4
 go_wp2_with fail
 go_loop [7] (fun i=>∃ k:Nat,k≤na∧i=.int .i64 k∧∀ j,j<k→((all[j]?.getD default).nm.data.toList==s.data.toList)=false) (fun i=>na-(intOf i).toNat)
 case atStart=>exact⟨0,Nat.zero_le _,rfl,fun j hj=>absurd hj (by omega)⟩
 case round=>
  obtain⟨k,hk,rfl,hto⟩:=hrel;have HT:=Hd hto;clear hto
  by_cases hlt:k<na
  · obtain⟨b,off,rfl,hb,hc⟩:=RdS.at_ HR3.out (by omega);obtain⟨d0,d1,d2,d3,d4,d5⟩:=(hc k hlt).six;clear hc;have HH:=Hd (HHIT.out k hlt HT.out);have HS:=Hd fun(hf:((all[k]?.getD default).nm.data.toList==s.data.toList)=false)=>to_next (P:=fun j=>((all[j]?.getD default).nm.data.toList==s.data.toList)=false) HT.out hf;generalize all[k]?.getD default=d at d0 d1 d2 d3 d4 d5 HH HS
    cases h1:(d.nm.toList==s.toList) with
    | true=>
     have HH2:=Hd (HH.out (by rw [← Lib.toList_data,← Lib.toList_data];exact h1));have HSET:=Hd (HROW3.out.set d);have HBS:=Hd (below_setRow HW3.out (g:=w.heap.size+1) (by omega) (dcA d));unfold dcA at HSET HBS
     go_wp2_with (refine wpList_store_row rfl _ _ _ rfl (w.heap.size+1) _ rfl rfl _ _ HROW3.out dcinfo rfl (by simp [Value.oneCell']) ?_)
     exact bodyPost_ret (res_dc2 (p:=4) (u:=5) rfl _ _ (w.heap.size+1) rfl HSET.out) rfl ⟨by rw [HH2.out];rfl,HB1.out.trans (HBS.out.mono (by omega))⟩
    | false=>
     have HS2:=Hd (HS.out (by rw [← Lib.toList_data,← Lib.toList_data];exact h1))
     go_wp2_with fail
     go_round
     case rel=>exact⟨k+1,by omega,by go_num,HS2.out⟩
     case measure=>simp [intOf];omega
  · obtain rfl:k=na:=by omega
    have HN:=Hd (HNO.out HT.out);have HSET:=Hd (HROW3.out.set default);have HBS:=Hd (below_setRow HW3.out (g:=w.heap.size+1) (by omega) (dcA default))
    go_wp2_with (refine wpList_store_row rfl _ _ _ rfl (w.heap.size+1) _ rfl rfl _ _ HROW3.out dcinfo rfl (by simp [Value.oneCell']) ?_)
    exact bodyPost_ret (res_dc2 (d:=default) (p:=4) (u:=5) rfl _ _ (w.heap.size+1) rfl HSET.out) rfl ⟨by rw [HN.out];rfl,HB1.out.trans (HBS.out.mono (by omega))⟩
end
section
open Go.RowKit Go.Sort
end
section
open Go.RowKit Go.Sort Go.BigFrame
end
section
open Go.RowKit Go.Sort Go.BigFrame
end
section
open Go.RowKit Go.Sort Go.BigFrame
theorem NdAt.five{w:World}{b o:Nat}{x:Nd}(h:NdAt w b o x):∃ A1 c1 A2 c2 A3 c3 A4 c4,rdN w x A1 A2 A3 A4 ∧
 w.cell? ⟨b,o,none⟩=some (.string x.nm)∧w.cell? ⟨b,o+1,none⟩=some (.slice A1 x.ins.length c1)∧w.cell? ⟨b,o+2,none⟩=some (.slice A2 x.outs.length c2)∧w.cell? ⟨b,o+3,none⟩=some (.slice A3 x.vars.length c3)∧w.cell? ⟨b,o+4,none⟩=some (.slice A4 x.eqs.length c4):=by
 obtain⟨A1,c1,A2,c2,A3,c3,A4,c4,h1,h2⟩:=h;obtain⟨d0,d1,d2,d3,d4⟩:=ndL_five h1;exact⟨A1,c1,A2,c2,A3,c3,A4,c4,h2,d0,d1,d2,d3,d4⟩
end
section
open Go.RowKit Go.Sort
def TinyQ(q:Qn):Prop:=q.ns.length≤20∧tinyX q.x=true∧∀ j,j<q.ns.length→(q.ns[j]?.getD ByteArray.empty).size≤100
def TinyN(n:Nd):Prop:=fewD n.ins=true∧fewD n.outs=true∧fewD n.vars=true∧n.eqs.length≤30∧n.nm.size≤100∧∀ j,j<n.eqs.length→TinyQ (n.eqs[j]?.getD default)
def TinyP(p:Pg):Prop:=EsTiny p.es∧p.ns.length≤10∧∀ j,j<p.ns.length→TinyN (p.ns[j]?.getD default)
def SmallP(w:World) (p:Pg) (e:Ending) (w':World):Prop:=∃ b,e=.returned (.bool b)∧(b=true→TinyP p)∧Below w.heap.size w w'
theorem smallP_no{w w':World}(p:Pg) (hb:Below w.heap.size w w'):SmallP w p (.returned (.bool false)) w':=⟨false,rfl,fun h=>(by cases h),hb⟩
theorem box_store{w:World}{zc cs:Array Value}{T:TypeId}{w4:World}(hw:(w.alloc (.cells zc T)).setRow w.heap.size cs=w4):
 Below w.heap.size w w4∧w.heap.size<w4.heap.size∧∀ w',Below w4.heap.size w4 w'→∀ j,w'.cell? ⟨w.heap.size,j,none⟩=cs[j]?:=by
 have h1:w4.heap[w.heap.size]?=some (.cells cs T):=by
  rw [← hw];exact setRow_heap _ _ _ _ _ _ (heap_alloc_new _ _)
 have hlt:w.heap.size<w4.heap.size:=(Array.getElem?_eq_some_iff.1 h1).1;refine⟨?_,hlt,fun w' hb j=>?_⟩
 · rw [← hw];exact below_setRow ((Below.refl _ _).alloc (Nat.le_refl _) _) (Nat.le_refl _) cs
 · rw [hb.cell (p:=⟨w.heap.size,j,none⟩) hlt];unfold World.cell?;rw [show w4.heap[(⟨w.heap.size,j,none⟩:Addr).block]?=_ from h1];rfl
theorem ndinfo:(Try.prog.info? 48).map (·.size)=some 5:=by kernel_rfl
theorem qninfo:(Try.prog.info? 51).map (·.size)=some 7:=by kernel_rfl
theorem refPgSmall(p:Pg) (E:Option Addr) (ec:Nat) (N:Option Addr) (nc:Nat) (w:World) (h:rdP w p E N):
 Calls Try.prog 5 #[.agg (pgA p E ec N nc)] w (SmallP w p):=by
 have HF:=Hd fun w1 hw=>pg_facts w p E ec N nc w1 hw h;have HSM:=Hd fun w1 a=>refEnSmall E p.es.length ec p.es w1 a;have HFW:=Hd fun A n c l w1 a=>refFewD A n c l w1 a;have HXS:=Hd fun x A ca B cb w1 a=>refSmall x A ca B cb w1 a;have hmx:=RdS.max h.2;have HTP:=Hd (show EsTiny p.es→p.ns.length≤10→(∀ j,j<p.ns.length→TinyN (p.ns[j]?.getD default))→TinyP p from fun a b c=>⟨a,b,c⟩);have HNO:=Hd fun w' hb=>smallP_no (w:=w) (w':=w') p hb;have HYS:=Hd fun w' (hb:Below w.heap.size w w') (ht:TinyP p)=>(show SmallP w p (.returned (.bool true)) w' from⟨true,rfl,fun _=>ht,hb⟩);unfold pgA;unfold exA at HXS;generalize TinyP p=TP at *
 go_enter Try.func5,Try.ntmps5
 go_upto_region 1 with(fail)
 generalize hw1:w.alloc _=w1;obtain⟨hb1,hg,hR1,hcell⟩:=HF.out w1 hw1;have HB1:=Hd hb1;have HC:=Hd hcell;have HEN:=Hd hR1.1;have HNS:=Hd (show RdS 5 NdAt w1 N p.ns.length p.ns from hR1.2);simp only [pgA] at HC;have q0:=HC.out w1 (Below.refl _ _) 0;have q1:=HC.out w1 (Below.refl _ _) 1;simp only [Ya,Yb,Yc] at q0 q1;clear hw1 hcell hb1 HF h hR1;generalize hns:p.ns=ns at *;generalize hnl:ns.length=n at *;have HNL:=Hd hnl;clear hnl hns
 go_wp2_with fail
 refine(HSM.out w1 HEN.out).mono ?_;rintro e w2 ⟨be,rfl,hbe,rfl⟩
 cases be with
 | false=>
  go_wp2_with fail
  go_ret
  exact HNO.out w1 HB1.out
 | true=>
  have HTE:=Hd (hbe rfl);clear hbe
  by_cases h10:10<n
  · go_wp2_with fail
    go_ret
    exact HNO.out w1 HB1.out
  · have d10:decide ((10:Int)<(n:Int))=false:=decide_eq_false (by omega)
    go_wp2_with fail
    go_loopw [3] (fun i wr=>∃ k:Nat,k≤n∧i=.int .i64 k∧(∀ j,j<k→TinyN (ns[j]?.getD default))∧Below w1.heap.size w1 wr) (fun i _=>n-(intOf i).toNat)
    case atStart=>exact⟨0,Nat.zero_le _,rfl,fun j hj=>absurd hj (by omega),Below.refl _ _⟩
    case round=>
     obtain⟨k,hk,rfl,hto,hnx⟩:=hrel;have HT:=Hd hto;have HNX:=Hd hnx;have hz:=hnx.size;have q1:=HC.out wr hnx 1;simp only [Ya,Yb,Yc] at q1;clear hto
     by_cases hlt:k<n
     · obtain⟨b,off,rfl,hb,hc⟩:=RdS.at_ (RdNs.below HNS.out hnx) (by omega);have hnd:=hc k hlt;clear hc hnx;have HS:=Hd fun(hf:TinyN (ns[k]?.getD default))=>to_next (P:=fun j=>TinyN (ns[j]?.getD default)) HT.out hf;generalize ns[k]?.getD default=x at hnd HS;have HTN:=Hd (show fewD x.ins=true→fewD x.outs=true→fewD x.vars=true→x.eqs.length≤30→x.nm.size≤100→(∀ j,j<x.eqs.length→TinyQ (x.eqs[j]?.getD default))→TinyN x from fun a b c d e f=>⟨a,b,c,d,e,f⟩);obtain⟨A1,c1,A2,c2,A3,c3,A4,c4,hrd,p10,p11,p12,p13,p14⟩:=hnd.five;have hmq:=RdS.max hrd.2.2.2;have HBX:=Hd fun zc w4 hw=>box_store (w:=wr) (zc:=zc) (cs:=ndA x A1 c1 A2 c2 A3 c3 A4 c4) (T:=48) (w4:=w4) hw;have HRD:=Hd hrd;simp only [ndA] at HBX;clear hrd hnd
       go_upto_region 7 with(refine wpList_store_row rfl _ _ _ rfl wr.heap.size _ rfl rfl _ _ (heap_alloc_new _ _) ndinfo rfl (by simp [Value.oneCell']) ?_)
       generalize hw4:World.setRow _ _ _=w4;obtain⟨hb4,hlt4,hcell4⟩:=HBX.out _ w4 hw4;have HB4:=Hd (HNX.out.trans (hb4.mono hz));have HBV:=Hd (HB1.out.trans (HB4.out.mono (by omega)));have HC4:=Hd hcell4;have HRD4:=Hd (HRD.out.below hb4);have hz4:=hb4.size;obtain⟨r0,r1,r2,r3,r4,-⟩:=Sx (hcell4 w4 (Below.refl _ _));simp only [Ya,Yb,Yc] at r0 r1 r2 r3 r4;have HF1:=Hd (HFW.out A1 x.ins.length c1 x.ins w4 HRD4.out.1);have HF2:=Hd (HFW.out A2 x.outs.length c2 x.outs w4 HRD4.out.2.1);have HF3:=Hd (HFW.out A3 x.vars.length c3 x.vars w4 HRD4.out.2.2.1);have HQS:=Hd (show RdS 7 QnAt w4 A4 x.eqs.length x.eqs from HRD4.out.2.2.2);clear hw4 hcell4 hb4 p10 p11 p12 p13 p14 q1 HBX;generalize hqs:x.eqs=qs at *;generalize hql:qs.length=nq at *;have HQL:=Hd hql;clear hql hqs;generalize wr.heap.size=gb at *
       cases g1:fewD x.ins with
       | false=>
        go_wp2_with fail
        refine HF1.out.mono ?_;rw [g1];rintro e v1 ⟨rfl,rfl⟩
        go_wp2_with fail
        go_ret
        exact HNO.out w4 HBV.out
       | true=>
        go_wp2_with fail
        refine HF1.out.mono ?_;rw [g1];rintro e v1 ⟨rfl,rfl⟩
        cases g2:fewD x.outs with
        | false=>
         go_wp2_with fail
         refine HF2.out.mono ?_;rw [g2];rintro e v2 ⟨rfl,rfl⟩
         go_wp2_with fail
         go_ret
         exact HNO.out w4 HBV.out
        | true=>
         go_wp2_with fail
         refine HF2.out.mono ?_;rw [g2];rintro e v2 ⟨rfl,rfl⟩
         cases g3:fewD x.vars with
         | false=>
          go_wp2_with fail
          refine HF3.out.mono ?_;rw [g3];rintro e v3 ⟨rfl,rfl⟩
          go_wp2_with fail
          go_ret
          exact HNO.out w4 HBV.out
         | true=>
          go_wp2_with fail
          refine HF3.out.mono ?_;rw [g3];rintro e v3 ⟨rfl,rfl⟩
          by_cases h30:30<nq
          · go_wp2_with fail
            go_ret
            exact HNO.out w4 HBV.out
          · have d30:decide ((30:Int)<(nq:Int))=false:=decide_eq_false (by omega)
            by_cases h100:100<x.nm.size
            · have d100:decide ((100:Int)<(x.nm.size:Int))=true:=decide_eq_true (by omega)
              go_wp2_with fail
              go_ret
              exact HNO.out w4 HBV.out
            · have d100:decide ((100:Int)<(x.nm.size:Int))=false:=decide_eq_false (by omega);have HTN:=Hd (HTN.out g1 g2 g3 (by omega) (by omega));generalize wr=wo at *
              go_wp2_with fail
              go_loopw [5] (fun i wq=>∃ j:Nat,j≤nq∧i=.int .i64 j∧(∀ a,a<j→TinyQ (qs[a]?.getD default))∧Below w4.heap.size w4 wq) (fun i _=>nq-(intOf i).toNat)
              case atStart=>exact⟨0,Nat.zero_le _,rfl,fun j hj=>absurd hj (by omega),Below.refl _ _⟩
              case round=>
               obtain⟨j,hj,rfl,htq,hnq⟩:=hrel;have HTQ:=Hd htq;have HNQ:=Hd hnq;have hzq:=hnq.size;have r4:=HC4.out _ hnq 4;simp only [Ya,Yb,Yc] at r4;clear htq
               by_cases hjl:j<nq
               · obtain⟨b5,off5,rfl,hb5,hc5⟩:=RdS.at_ (RdQ.below HQS.out hnq) (by omega);have hqa:=hc5 j hjl;clear hc5 hnq;have HSQ:=Hd fun(hf:TinyQ (qs[j]?.getD default))=>to_next (P:=fun a=>TinyQ (qs[a]?.getD default)) HTQ.out hf;generalize qs[j]?.getD default=q at hqa HSQ;have HTY:=Hd (show q.ns.length≤20→tinyX q.x=true→(∀ j,j<q.ns.length→(q.ns[j]?.getD ByteArray.empty).size≤100)→TinyQ q from fun a b c=>⟨a,b,c⟩);obtain⟨A6,c6,A7,c7,A8,c8,hqt,hqx,s0,s1,s2,s3,s4,s5,s6⟩:=hqa.seven;have hmt:=hqt.max;have HBX:=Hd fun zc w6 hw=>box_store (w:=wr) (zc:=zc) (cs:=qnA q A6 c6 A7 c7 A8 c8) (T:=51) (w4:=w6) hw;have HQT:=Hd hqt;have HQX:=Hd hqx;simp only [qnA] at HBX;clear hqt hqx hqa
                 go_upto_region 13 with(refine wpList_store_row rfl _ _ _ rfl wr.heap.size _ rfl rfl _ _ (heap_alloc_new _ _) qninfo rfl (by simp [Value.oneCell']) ?_)
                 generalize hw6:World.setRow _ _ _=w6;obtain⟨hb6,hlt6,hcell6⟩:=HBX.out _ w6 hw6;have HB6:=Hd (HNQ.out.trans (hb6.mono hzq));have HBU:=Hd (HBV.out.trans (HB6.out.mono HBV.out.size));have HC6:=Hd hcell6;have HQT6:=Hd (HQT.out.below hb6);have hz6:=hb6.size;obtain⟨t0,t1,t2,t3,t4,t5⟩:=Sx (hcell6 w6 (Below.refl _ _));have t6:=hcell6 w6 (Below.refl _ _) 6;simp only [Ya,Yb,Yc] at t0 t1 t2 t3 t4 t5 t6;have HX6:=Hd (HXS.out q.x A7 c7 A8 c8 w6 (HQX.out.below hb6));clear hw6 hcell6 hb6 s0 s1 s2 s3 s4 s5 s6 r4 HBX;generalize hss:q.ns=ss at *;generalize hsl:ss.length=nn at *;have HSL:=Hd hsl;clear hsl hss;generalize wr.heap.size=gq at *
                 by_cases h20:20<nn
                 · go_wp2_with fail
                   go_ret
                   exact HNO.out w6 HBU.out
                 · have d20:decide ((20:Int)<(nn:Int))=false:=decide_eq_false (by omega)
                   cases gx:tinyX q.x with
                   | false=>
                    rw [gx] at HX6
                    go_wp2_with fail
                    refine HX6.out.mono ?_;rintro e w7 ⟨rfl,hb7⟩;have HB7:=Hd (HBU.out.trans (hb7.mono HBU.out.size));clear hb7
                    go_wp2_with fail
                    go_ret
                    exact HNO.out w7 HB7.out
                   | true=>
                    rw [gx] at HX6;have HTY:=Hd (HTY.out (by omega) gx)
                    go_wp2_with fail
                    refine HX6.out.mono ?_;rintro e w7 ⟨rfl,hb7⟩;have HB7:=Hd (HBU.out.trans (hb7.mono HBU.out.size));have HB67:=Hd (HB6.out.trans (hb7.mono HB6.out.size));have u0:=HC6.out w7 hb7 0;simp only [Ya,Yb,Yc] at u0;have HQT7:=Hd (HQT6.out.below hb7);clear hb7 t0 t1 t2 t3 t4 t5 t6
                    go_wp2_with fail
                    go_loop [7] (fun i=>∃ m:Nat,m≤nn∧i=.int .i64 m∧∀ a,a<m→(ss[a]?.getD ByteArray.empty).size≤100) (fun i=>nn-(intOf i).toNat)
                    case atStart=>exact⟨0,Nat.zero_le _,rfl,fun j hj=>absurd hj (by omega)⟩
                    case round=>
                     obtain⟨m,hm,rfl,hts⟩:=hrel;have HTS:=Hd hts;clear hts
                     by_cases hml:m<nn
                     · obtain⟨b8,off8,rfl,hb8,hc8⟩:=HQT7.out.at_ hml;have hs8:=hc8 m hml;clear hc8;have HSS:=Hd fun(hf:(ss[m]?.getD ByteArray.empty).size≤100)=>to_next (P:=fun a=>(ss[a]?.getD ByteArray.empty).size≤100) HTS.out hf;generalize ss[m]?.getD ByteArray.empty=y at hs8 HSS
                       by_cases hy:100<y.size
                       · go_wp2_with fail
                         go_ret
                         exact HNO.out w7 HB7.out
                       · have HS2:=Hd (HSS.out (by omega))
                         go_wp2_with fail
                         go_round
                         case rel=>exact⟨m+1,by omega,by go_num,HS2.out⟩
                         case measure=>simp [intOf];omega
                     · have HS3:=Hd (HSQ.out (HTY.out fun a ha=>HTS.out a (by omega)))
                       go_wp2_with fail
                       go_roundw
                       case rel=>exact⟨j+1,by omega,by go_num,HS3.out,HB67.out⟩
                       case measure=>simp [intOf];omega
               · have HS4:=Hd (HS.out (HTN.out fun a ha=>HTQ.out a (by omega)));have HB8:=Hd (HB4.out.trans (HNQ.out.mono HB4.out.size))
                 go_wp2_with fail
                 go_roundw
                 case rel=>exact⟨k+1,by omega,by go_num,HS4.out,HB8.out⟩
                 case measure=>simp [intOf];omega
     · have HP:=Hd (HTP.out HTE.out (by omega) fun a ha=>HT.out a (by omega))
       go_wp2_with fail
       go_ret
       exact HYS.out wr (HB1.out.trans (HNX.out.mono (by omega))) HP.out
end
section
open Go.RowKit Go.Sort
theorem tiny_sizeX{x:Ex}(h:tinyX x=true):sizeX x≤1000000:=by
 simp only [tinyX,Bool.and_eq_true,decide_eq_true_eq] at h;omega
theorem tiny_shortX{x:Ex}(h:tinyX x=true):∀ p∈partsX x,ShortP p:=by
 simp only [tinyX,Bool.and_eq_true,List.all_eq_true] at h;exact fun p hp=>ShortP.of_few (h.2 p hp)
theorem TinyQ.ok{q:Qn}(h:TinyQ q):OkQ q:=by
 refine⟨fun s hs=>?_,tiny_sizeX h.2.1,tiny_shortX h.2.1⟩;obtain⟨j,hj,rfl⟩:=List.getElem_of_mem hs;have:=h.2.2 j hj;rw [List.getElem?_eq_getElem hj,Option.getD_some] at this;unfold maxLen;omega
theorem fewD_ok{l:List Dc}(h:fewD l=true):(∀ d∈l,OkD d)∧l.length≤20:=by
 simp only [fewD,Bool.and_eq_true,List.all_eq_true,decide_eq_true_eq] at h;refine⟨fun d hd=>?_,h.2⟩;have h1:=h.1 d hd;simp only [dcFew,Bool.and_eq_true,Bool.not_eq_true',decide_eq_false_iff_not] at h1;unfold OkD maxLen;omega
theorem TinyN.len{n:Nd}(h:TinyN n):n.all.length≤60:=by
 have h1:=(fewD_ok h.1).2;have h2:=(fewD_ok h.2.1).2;have h3:=(fewD_ok h.2.2.1).2;rw [all_len];omega
theorem TinyN.ok{n:Nd}(h:TinyN n):OkN n:=by
 refine⟨by have:=h.2.2.2.2.1;unfold maxLen;omega,fun d hd=>?_,fun q hq=>?_⟩
 · simp only [Nd.all,List.mem_append] at hd;rcases hd with(hd | hd) | hd
   · exact(fewD_ok h.1).1 d hd
   · exact(fewD_ok h.2.1).1 d hd
   · exact(fewD_ok h.2.2.1).1 d hd
 · obtain⟨j,hj,rfl⟩:=List.getElem_of_mem hq;have:=h.2.2.2.2.2 j hj;rw [List.getElem?_eq_getElem hj,Option.getD_some] at this;exact this.ok
end
section
def armR(es:List En) (s:ByteArray):Option (Int × Int × Int):=
 if(s.toList==[116,114,117,101])=true then some (2,0,1)
 else if(s.toList==[102,97,108,115,101])=true then some (2,0,0)
 else(findE es s).map fun p=>(3,(p.1:Int),(p.2.1:Int))
def ndAt(p:Pg) (i:Nat):Nd:=p.ns[i]?.getD default
end
section
structure Cd where
 nm:ByteArray
 v:Int
instance :Inhabited Cd:=⟨⟨⟨#[]⟩,0⟩⟩
def eqC(a b:Cd):Bool:=(a.nm.toList==b.nm.toList) && (a.v==b.v)
theorem bytes_eq{a b:ByteArray}(h:(a.toList==b.toList)=true):a=b:=by
 rw [Lib.toList_data,Lib.toList_data,beq_iff_eq] at h;obtain⟨a⟩:=a;obtain⟨b⟩:=b;exact congrArg ByteArray.mk (Array.toList_inj.1 h)
theorem eqC_eq{a b:Cd}:eqC a b=true↔a=b:=by
 constructor
 · intro h;simp only [eqC,Bool.and_eq_true] at h;obtain⟨a1,a2⟩:=a;obtain⟨b1,b2⟩:=b;have h1:=bytes_eq h.1;have h2:=beq_iff_eq.1 h.2;simp only at h1 h2;rw [h1,h2]
 · rintro rfl
   simp [eqC]
abbrev sameC (a b:List Cd):Bool:=sameL eqC a b
theorem sameC_eq:∀ {a b:List Cd},sameC a b=true↔a=b
 | [],[]=>by simp [sameC,sameL]
 | [],b::m=>by simp [sameC,sameL]
 | a::l,[]=>by simp [sameC,sameL]
 | a::l,b::m=>by
  have ih:=sameC_eq (a:=l) (b:=m);simp only [sameC] at ih;simp only [sameC,sameL,Bool.and_eq_true,eqC_eq,ih,List.cons.injEq]
theorem sameC_refl(a:List Cd):sameC a a=true:=sameC_eq.2 rfl
theorem sameC_no{a b:List Cd}(h:a≠b):sameC a b=false:=by
 cases hc:sameC a b with
 | false=>rfl
 | true=>exact absurd (sameC_eq.1 hc) h
def condR(es:List En) (d:Dc):Option Cd:=(armR es d.ct).map fun r=>⟨d.on,r.2.2⟩
def condsR(es:List En):List Dc→Option (List Cd)
 | []=>some []
 | d::l=>match condR es d with
  | none=>none
  | some c=>(condsR es l).map (c::·)
def rowC(es:List En) (n:Nd) (s:ByteArray):Option (List Cd):=(clockO n s).bind (condsR es)
def hasC(es:List En) (n:Nd) (s:ByteArray) (on:List Cd):Bool:=match rowC es n s with
 | none=>false
 | some r=>sameC r on
theorem hasC_eq{es:List En}{n:Nd}{s:ByteArray}{on:List Cd}:hasC es n s on=true↔rowC es n s=some on:=by
 unfold hasC
 cases rowC es n s with
 | none=>simp
 | some r=>simp only [Option.some.injEq];exact sameC_eq
theorem condsR_len{es:List En}:∀ {l:List Dc}{cs:List Cd},condsR es l=some cs→cs.length=l.length
 | [],cs,h=>by injection h with h;subst h;rfl
 | d::l,cs,h=>by
  simp only [condsR] at h
  cases hc:condR es d with
  | none=>rw [hc] at h;cases h
  | some c=>
   rw [hc] at h;obtain⟨t,h1,rfl⟩:=Option.map_eq_some_iff.1 h
   simp [condsR_len h1]
theorem condsR_app{es:List En}:∀ {a b:List Dc}{ca:List Cd},condsR es a=some ca→condsR es (a++b)=(condsR es b).map (ca++·)
 | [],b,ca,h=>by injection h with h;subst h;simp
 | d::a,b,ca,h=>by
  simp only [condsR] at h
  cases hc:condR es d with
  | none=>rw [hc] at h;cases h
  | some c=>
   rw [hc] at h;obtain⟨t,h1,rfl⟩:=Option.map_eq_some_iff.1 h;simp only [List.cons_append,condsR,hc,condsR_app h1,Option.map_map];rfl
theorem condsR_take{es:List En}{l:List Dc}{cs:List Cd}{k:Nat}{c:Cd}(hk:k<l.length) (h:condsR es (l.take k)=some cs) (hc:condR es (l[k]?.getD default)=some c):condsR es (l.take (k+1))=some (cs++[c]):=by
 rw [List.getElem?_eq_getElem hk,Option.getD_some] at hc;rw [List.take_succ_eq_append_getElem hk,condsR_app h]
 simp [condsR,hc]
theorem condsR_mem{es:List En}:∀ {l:List Dc}{d:Dc},d∈l→condR es d=none→condsR es l=none
 | a::l,d,hd,h=>by
  simp only [condsR]
  cases hc:condR es a with
  | none=>rfl
  | some c=>
   rcases List.mem_cons.1 hd with rfl | hd
   · rw [h] at hc;cases hc
   · simp only [condsR_mem hd h,Option.map_none]
theorem condsR_no{es:List En}{l:List Dc}{k:Nat}(hk:k<l.length) (hc:condR es (l[k]?.getD default)=none):condsR es l=none:=by
 rw [List.getElem?_eq_getElem hk,Option.getD_some] at hc;exact condsR_mem (List.getElem_mem hk) hc
theorem clockR_len{n:Nd}:∀ (k:Nat) (s:ByteArray) (acc l:List Dc),clockR n k s acc=some l→l.length≤acc.length+k
 | 0,s,acc,l,h=>by cases h
 | k+1,s,acc,l,h=>by
  rw [clockR] at h
  cases hd:declO n s with
  | none=>rw [hd] at h;cases h
  | some d=>
   rw [hd] at h;simp only at h
   split at h
   · injection h with h;subst h;omega
   · have:=clockR_len k _ _ _ h;rw [List.length_cons] at this;omega
theorem clock_len{n:Nd}{s:ByteArray}{l:List Dc}(h:clockO n s=some l):l.length≤1000:=by
 have:=clockR_len 13 s [] l h
 simp at this
 omega
abbrev Ft:=List Cd→Bool
def fitAt(fs:List Ft) (i:Nat):Ft:=fs[i]?.getD fun _=>false
def whenC(es:List En) (n:Nd) (x:Ex) (fs:List Ft) (on:List Cd):Bool:=match rowC es n x.s with
 | none=>false
 | some row=>match armR es (x.arms[0]?.getD ByteArray.empty) with
  | none=>false
  | some r=>decide (x.arms.length=1) && decide (x.subs.length=1) && (sameC on (row++[⟨x.s,r.2.2⟩]) && fitAt fs 0 row)
def armC(es:List En) (x:Ex) (fs:List Ft) (on:List Cd) (k:Nat):Bool:=match armR es (x.arms[k]?.getD ByteArray.empty) with
 | none=>false
 | some r=>fitAt fs k (on++[⟨x.s,r.2.2⟩])
def mergeC(es:List En) (n:Nd) (x:Ex) (fs:List Ft) (on:List Cd):Bool:=
 hasC es n x.s on && decide (x.arms.length=x.subs.length) && (List.range x.subs.length).all (armC es x fs on)
def fitK(es:List En) (n:Nd) (x:Ex) (fs:List Ft) (on:List Cd):Bool:=
 if(x.k==1 || x.k==2 || x.k==4)=true then true
 else if(x.k==3)=true then hasC es n x.s on
 else if(x.k==8)=true then decide (x.subs.length=2) && fitAt fs 1 on
 else if(x.k==11)=true then whenC es n x fs on
 else if(x.k==12)=true then mergeC es n x fs on
 else if(x.k==17)=true then false
 else(List.range x.subs.length).all fun k=>fitAt fs k on
mutual
def fitX(es:List En) (n:Nd):Ex→Ft
 | .mk k m s op arms subs=>fitK es n (.mk k m s op arms subs) (fitL es n subs)
def fitL(es:List En) (n:Nd):List Ex→List Ft
 | []=>[]
 | x::l=>fitX es n x::fitL es n l
end
theorem fitL_eq(es:List En) (n:Nd):∀ l,fitL es n l=l.map (fitX es n)
 | []=>by simp only [fitL,List.map_nil]
 | x::l=>by simp only [fitL,List.map_cons,fitL_eq es n l]
theorem fitX_eq(es:List En) (n:Nd) (x:Ex):fitX es n x=fitK es n x (x.subs.map (fitX es n)):=by
 cases x
 simp only [fitX,fitL_eq,Ex.subs]
theorem fitAt_eq{es:List En}{n:Nd}{x:Ex}{i:Nat}(h:i<x.subs.length):fitAt (x.subs.map (fitX es n)) i=fitX es n (subX x i):=by
 unfold fitAt subX;rw [List.getElem?_map,List.getElem?_eq_getElem h];rfl
def rowOf(p:Pg) (i:Int) (s:ByteArray):Option (List Cd):=if i<0∨(p.ns.length:Int)≤i then none else rowC p.es (ndAt p i.toNat) s
def fitOf(p:Pg) (i:Int) (x:Ex) (on:List Cd):Bool:=if i<0∨(p.ns.length:Int)≤i then false else fitX p.es (ndAt p i.toNat) x on
theorem rangeC_all{n:Nat}{f:Nat→Bool}:(List.range n).all f=true↔∀ i,i<n→f i=true:=by simp [List.all_eq_true]
theorem rangeC_no{n k:Nat}{f:Nat→Bool}(hk:k<n) (h:f k=false):(List.range n).all f=false:=by
 cases hc:(List.range n).all f with
 | false=>rfl
 | true=>rw [rangeC_all.1 hc k hk] at h;cases h
end
section
theorem right_part{x y:Ex}(h:rightX x=true) (hy:y∈partsX x):partX y=true:=by
 unfold rightX at h;simp only [Bool.and_eq_true] at h;exact List.all_eq_true.1 h.2 y hy
theorem parts_sub{x:Ex}{k:Nat}(hk:k<x.subs.length):∀ z∈partsX (subX x k),z∈partsX x:=by
 intro z hz;rw [partsX_eq];refine List.mem_cons_of_mem _ ?_
 have key:∀ (l:List Ex) (y:Ex),y∈l→z∈partsX y→z∈partssX l:=by
  intro l
  induction l with
  | nil=>intro y hy;cases hy
  | cons a l ih=>
   intro y hy hz;simp only [partssX,List.mem_append];rcases List.mem_cons.1 hy with rfl | hy
   · exact .inl hz
   · exact .inr (ih y hy hz)
 exact key _ _ (subX_mem hk) hz
theorem part_len{x:Ex}(h:partX x=true):(subsX x).1≤x.subs.length∧(x.subs.length:Int)≤(subsX x).2∧(x.k=8→constX (subX x 0)=true):=by
 unfold partX at h;simp only [Bool.and_eq_true,decide_eq_true_eq] at h;refine⟨h.1.1.2,h.1.2,fun hk=>?_⟩;have h2:=h.2;rw [hk] at h2
 simpa using h2
end
end Go.Proofs.Ytkbpdoomhfkngaa
