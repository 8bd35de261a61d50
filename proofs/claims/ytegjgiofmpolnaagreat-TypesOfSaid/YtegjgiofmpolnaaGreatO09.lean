/- Parts of the proof: PgB, PgC, PgD, ArV, ArK. Conditions: each theorem's own. -/
import Derived.BigRegion
import Derived.Laws.CopyOwn
import Derived.Laws.CopyRow
import Derived.Test.YtegjgiofmpolnaaGreatO07
import Derived.Test.YtegjgiofmpolnaaGreatO08
namespace Go.Proofs.YtegjgiofmpolnaaGreat
set_option linter.unusedVariables false
set_option linter.unusedSimpArgs false
set_option maxRecDepth 100000
set_option maxHeartbeats 40000000
section
open Go.RowKit
theorem names_succ{l:List Dc}{k:Nat}(hk:k<l.length):(namesD l).take (k+1)=(namesD l).take k++[(l[k]?.getD default).nm]:=by
 rw [namesD,List.take_add_one,List.getElem?_map,List.getElem?_eq_getElem hk]
 simp
theorem names_len(l:List Dc):(namesD l).length=l.length:=by simp [namesD]
def TextsPost(w:World) (n:Nat) (ss:List ByteArray) (e:Ending) (w':World):Prop:=∃ A c,e=.returned (.slice A n c)∧RdT w' A n ss∧Below w.heap.size w w'
theorem refNamesD(A:Option Addr) (n c:Nat) (l:List Dc) (w:World) (h:RdD w A n l) (hn:n≤1000):
 Calls Tryz.prog 70 #[.slice A n c] w (TextsPost w n (namesD l)):=by
 have hlen:=h.len;have hmx:=h.max;obtain⟨i0,hi,hz0,hz1,hz2⟩:=info_parts infoString;have hr3:=Hd (World.ownsRow_lit (base:=w.heap.size) (e:=9) (size:=1) w #[] 0 (Nat.le_refl _) (by decide) rfl);have HB0:=Hd ((Below.refl w.heap.size w).alloc (Nat.le_refl _) (.cells #[] 9));have HLN:=Hd hlen
 go_enter Tryz.func70,Tryz.ntmps70
 go_wp2_with fail
 go_loopw [3,4] (fun v i wr=>∃ k:Nat,k≤n∧i=.int .i64 k∧wr.ownsRow w.heap.size 9 1 v k (((namesD l).take k).map Value.string)∧Below w.heap.size w wr) (fun _ i _=>n-(intOf i).toNat)
 case atStart=>exact⟨0,Nat.zero_le _,rfl,hr3.out,HB0.out⟩
 case round=>
  obtain⟨k,hk,rfl,hrw3,hnx⟩:=hrel
  by_cases hlt:k<n
  · obtain⟨b,off,rfl,hb,hc⟩:=RdS.at_ h (by omega);obtain⟨hn0,-⟩:=(hc k hlt).six;have hn1:=(hnx.cell (p:=⟨b,off+k*6,none⟩) hb).trans hn0;have hNM:=Hd (names_succ (l:=l) (k:=k) (by omega));generalize (l[k]?.getD default).nm=x at hn1 hNM;have HNX:=Hd hnx;have H3:=Hd hrw3;have hwz:=hnx.size;clear hrw3 hr3 HB0 hn0 hc
    go_wp2_with (at_builtin;refine wpList_append_own_at _ rfl _ _ 32 rfl w.heap.size 9 i0 (.string ByteArray.empty) 1 16 Tryz.underlying32 hi hz0 hz1 hz2 rfl (by decide) _ _ _ rfl (H3.out.alloc _) ⟨wr.heap.size,0,none⟩ 1 1 [.string x] rfl rfl (cell_one_new _ _ _) (string_cells [x]) (by unfold maxLen;omega) (by omega) (by simp;omega) ?_;intro v' w1 hown' hgrow hnil hloc;have hB1:=(HNX.out.alloc hwz (.cells #[.string x] 9)).grown hgrow (by simp;omega) (fun j hj=>(H3.out.lt j hj).1);have HO:=Hd hown';have HB1:=Hd hB1;clear hgrow hown' hnil hloc hB1)
    go_roundw
    case rel=>
     refine⟨k+1,by omega,by go_num,?_,HB1.out⟩;rw [hNM.out,List.map_append];exact HO.out
    case measure=>simp [intOf];omega
  · obtain rfl:k=n:=by omega
    have hnm:(namesD l).take k=namesD l:=List.take_of_length_le (by rw [names_len];omega);rw [hnm] at hrw3;obtain⟨A1,c1,rfl,hR1,_⟩:=RdT.of_own hrw3 (by omega);have HR1:=Hd hR1;have HNX:=Hd hnx;clear hrw3 hR1 hr3 HB0 hnm hnx
    go_wp2_with fail
    go_ret
    exact⟨A1,c1,rfl,HR1.out,HNX.out⟩
theorem refPgArm(s:ByteArray) (w:World) (hs:s.size≤9223372036854775807):
 Calls Tryz.prog 157 #[.string s] w fun e w'=>e=.returned (.bool (armT s))∧w=w':=by
 have HH:=Hd (refHigh s w hs);have HE:=Hd (show armT s=(highB s.data.toList || (s.toList==[116,114,117,101]) || (s.toList==[102,97,108,115,101])) by rw [Lib.toList_data];rfl)
 cases h1:highB s.data.toList with
 | true=>
  rw [h1] at HH HE
  go_enter Tryz.func157,Tryz.ntmps157
  go_wp2_with fail
  refine HH.out.mono ?_;rintro e w1 ⟨rfl,rfl⟩
  go_wp2_with fail
  go_ret
  exact⟨ret_bool (by rw [HE.out];rfl),rfl⟩
 | false=>
  rw [h1] at HH HE
  cases h2:(s.toList==[116,114,117,101]) with
  | true=>
   rw [h2] at HE
   go_enter Tryz.func157,Tryz.ntmps157
   go_wp2_with fail
   refine HH.out.mono ?_;rintro e w1 ⟨rfl,rfl⟩
   go_wp2_with fail
   go_ret
   exact⟨ret_bool (by rw [HE.out];rfl),rfl⟩
  | false=>
   rw [h2] at HE
   cases h3:(s.toList==[102,97,108,115,101]) with
   | true=>
    rw [h3] at HE
    go_enter Tryz.func157,Tryz.ntmps157
    go_wp2_with fail
    refine HH.out.mono ?_;rintro e w1 ⟨rfl,rfl⟩
    go_wp2_with fail
    go_ret
    exact⟨ret_bool (by rw [HE.out];rfl),rfl⟩
   | false=>
    rw [h3] at HE
    go_enter Tryz.func157,Tryz.ntmps157
    go_wp2_with fail
    refine HH.out.mono ?_;rintro e w1 ⟨rfl,rfl⟩
    go_wp2_with fail
    go_ret
    exact⟨ret_bool (by rw [HE.out];rfl),rfl⟩
end
section
open Go.RowKit Go.Sort
def flD(l:List Dc):List Value:=l.flatMap dcL
theorem flD_len(l:List Dc):(flD l).length=l.length*6:=by
 induction l with
 | nil=>rfl
 | cons d l ih=>simp only [flD,List.flatMap_cons,List.length_append,List.length_cons] at ih ⊢;rw [ih];simp [dcL];omega
theorem flD_app(a b:List Dc):flD (a++b)=flD a++flD b:=by simp [flD]
theorem flD_at:∀ (l:List Dc) (i j:Nat),i<l.length→j<6→(flD l)[i*6+j]?=(dcL (l[i]?.getD default))[j]?
 | t::ts,0,j,_,hj=>by
  have hz:j<(dcL t).length:=by simpa [dcL] using hj
  simp only [flD,List.flatMap_cons,Nat.zero_mul,Nat.zero_add];rw [List.getElem?_append_left hz]
  simp
 | t::ts,i+1,j,hi,hj=>by
  have ih:=flD_at ts i j (by simpa using hi) hj;have hz:(dcL t).length=6:=by simp [dcL]
  simp only [flD,List.flatMap_cons];rw [List.getElem?_append_right (by rw [hz];omega),hz,show(i+1)*6+j-6=i*6+j by omega]
  simpa [flD] using ih
theorem flD_ones(l:List Dc):∀ u∈flD l,u.oneCell'=true:=by
 intro u hu;simp only [flD,List.mem_flatMap] at hu;obtain⟨t,_,hu⟩:=hu
 simp [dcL] at hu
 rcases hu with rfl | rfl | rfl | rfl | rfl | rfl <;> rfl
section
variable {w w':World}{A:Option Addr}{n:Nat}{l:List Dc}
theorem RdD.of_own{base:Nat}{e:TypeId}{v:Value}(h:w.ownsRow base e 6 v n (flD l)) (hm:n≤9223372036854775807):∃ A c,v=.slice A n c∧RdD w A n l:=by
 have hl:l.length=n:=by
  have:=h.1;rw [flD_len] at this;omega
 rcases h.2 with⟨rfl,rfl⟩|⟨g,cap,cur,rfl,hg,hh,hnc,hcm,hcs,ht⟩
 · obtain rfl:l=[]:=List.eq_nil_of_length_eq_zero hl;exact⟨none,0,rfl,RdS.nil_ _ _ _⟩
 · refine⟨_,cap,rfl,hl,hm,fun hn=>⟨g,0,rfl,(Array.getElem?_eq_some_iff.1 hh).1,fun i hi=>?_⟩⟩;intro j v hv
   have hj:j<6:=by
    rcases Nat.lt_or_ge j 6 with h | h
    · exact h
    · rw [List.getElem?_eq_none (by simpa [dcL] using h)] at hv;cases hv
   rw [Nat.zero_add,h.cellAt (i*6+j) (by omega),flD_at l i j (by omega) hj,hv]
theorem RdD.news(h:RdD w A n l):(A=none→n=0)∧∀ ad,A=some ad→∀ j u,(flD l)[j]?=some u→w.cell? (ad.add j)=some u:=by
 constructor
 · rintro rfl;rcases Nat.eq_zero_or_pos n with h0 | h0
   · exact h0
   · obtain⟨b,off,e,_⟩:=RdS.at_ h h0;cases e
 · rintro ad rfl j u hu
   have hj:j<l.length*6:=by
    rcases Nat.lt_or_ge j (l.length*6) with h1 | h1
    · exact h1
    · rw [List.getElem?_eq_none (by rw [flD_len];exact h1)] at hu;cases hu
   have hlen:=RdS.len h;obtain⟨b,off,e,hb,hc⟩:=RdS.at_ h (by omega);injection e with e;subst e;have h6:j / 6*6+j % 6=j:=by omega
   have h7:j % 6<6:=by omega
   have h1:=hc (j / 6) (by omega);rw [add_addr];have h2:=flD_at l (j / 6) (j % 6) (by omega) h7;rw [h6,hu] at h2;have h3:=h1 (j % 6) u h2.symm;rwa [show off+j / 6*6+j % 6=off+j by omega] at h3
end
theorem infoDecl:(Tryz.prog.info? 58).map (fun i=>(i.size,i.bytes,i.zero.map fun z=>z.cells.size))=some (6,72,some 6):=by kernel_rfl
theorem info_three{P:Program}{t:TypeId}{a b c:Nat}(h:(P.info? t).map (fun i=>(i.size,i.bytes,i.zero.map fun z=>z.cells.size))=some (a,b,some c)):∃ i z,P.info? t=some i∧i.zero=some z∧i.size=a∧i.bytes=b∧z.cells.size=c:=by
 obtain⟨i,h1,h2⟩:=Option.map_eq_some_iff.1 h;simp only [Prod.mk.injEq,Option.map_eq_some_iff] at h2;obtain⟨h3,h4,z,h5,h6⟩:=h2;exact⟨i,z,h1,h5,h3,h4,h6⟩
theorem nd_facts(w:World) (x:Nd) (A1:Option Addr) (c1:Nat) (A2:Option Addr) (c2:Nat) (A3:Option Addr) (c3:Nat) (A4:Option Addr) (c4:Nat) (w1:World) (h:w.alloc (.cells (ndA x A1 c1 A2 c2 A3 c3 A4 c4) 53)=w1) (hr:rdN w x A1 A2 A3 A4):
 Below w.heap.size w w1∧w1.heap.size=w.heap.size+1∧rdN w1 x A1 A2 A3 A4∧∀ w',Below w1.heap.size w1 w'→∀ j,w'.cell? ⟨w.heap.size,j,none⟩=(ndA x A1 c1 A2 c2 A3 c3 A4 c4)[j]?:=by
 subst h;refine⟨(Below.refl _ _).alloc (Nat.le_refl _) _,by simp,hr.below ((Below.refl _ _).alloc (Nat.le_refl _) _),fun w' hb j=>?_⟩;rw [hb.cell (p:=⟨w.heap.size,j,none⟩) (by simp),World.cell?_alloc_new]
def DeclsPost(w:World) (n:Nat) (l:List Dc) (e:Ending) (w':World):Prop:=∃ A c,e=.returned (.slice A n c)∧RdD w' A n l∧Below w.heap.size w w'
theorem refAllD(x:Nd) (A1:Option Addr) (c1:Nat) (A2:Option Addr) (c2:Nat) (A3:Option Addr) (c3:Nat) (A4:Option Addr) (c4:Nat) (w:World) (h:rdN w x A1 A2 A3 A4) (hn:x.all.length≤1000):
 Calls Tryz.prog 27 #[.agg (ndA x A1 c1 A2 c2 A3 c3 A4 c4)] w (DeclsPost w x.all.length x.all):=by
 have hlen:=all_len x;have HXA:=Hd (show flD x.all=flD x.ins++flD x.outs++flD x.vars by rw [Nd.all,flD_app,flD_app]);have HL1:=Hd (flD_len x.ins);have HL2:=Hd (flD_len x.outs);have HL3:=Hd (flD_len x.vars);have HO1:=Hd (flD_ones x.ins);have HO2:=Hd (flD_ones x.outs);have HO3:=Hd (flD_ones x.vars);obtain⟨i0,z0,hi,hz1,hz0,hz2,hz3⟩:=info_three infoDecl;obtain⟨h1,h2,h3,h4⟩:=h;have HF:=Hd fun w1 (hw:w.alloc (.cells (ndA x A1 c1 A2 c2 A3 c3 A4 c4) 53)=w1)=>nd_facts w x A1 c1 A2 c2 A3 c3 A4 c4 w1 hw ⟨h1,h2,h3,h4⟩;unfold ndA
 go_enter Tryz.func27,Tryz.ntmps27
 go_upto_region 1 with(fail)
 generalize hw1:w.alloc _=w1;obtain⟨hb1,hg,⟨r1,r2,r3,-⟩,hcell⟩:=HF.out w1 hw1;obtain⟨-,q1,q2,q3,-,-⟩:=Sx (hcell w1 (Below.refl _ _));simp only [ndA,List.getElem?_toArray,List.getElem?_cons_zero,List.getElem?_cons_succ] at q1 q2 q3;have HB1:=Hd hb1;obtain⟨n1',n1s⟩:=r1.news;obtain⟨n2',n2s⟩:=r2.news;obtain⟨n3',n3s⟩:=r3.news;have HR1:=Hd r1.news;have HR2:=Hd r2.news;have HR3:=Hd r3.news;clear hw1 hcell hb1 h1 h2 h3 h4 r1 r2 r3 n1' n1s n2' n2s n3' n3s HF;generalize x.ins.length=n1 at *;generalize x.outs.length=n2 at *;generalize x.vars.length=n3 at *;generalize flD x.ins=f1 at *;generalize flD x.outs=f2 at *;generalize flD x.vars=f3 at *;have hr0:=World.ownsRow_lit (base:=w1.heap.size) (e:=58) (size:=6) w1 #[] 0 (by simp) (by decide) rfl;rw [hg] at hr0;have HO0:=Hd (show(w1.alloc (.cells #[] 58)).drew.ownsRow (w.heap.size+1) 58 6 (.slice (some ⟨w.heap.size+1,0,none⟩) 0 0) 0 [] from hr0);clear hr0;refine wp_region_held_drew (S:=fun W=>W.cell? ⟨w.heap.size,1,none⟩=some (.slice A1 n1 c1)∧W.cell? ⟨w.heap.size,2,none⟩=some (.slice A2 n2 c2)∧W.cell? ⟨w.heap.size,3,none⟩=some (.slice A3 n3 c3)) (by kernel_rfl) ?_ (fun hHeld=>?_)
 · exact⟨q1,q2,q3⟩
 refine wpAnyH_take (i:=1) (oi:=?oi1) (v:=.pointer (some ⟨w.heap.size,1,none⟩)) ?h1x1 (by kernel_rfl) ?h3x1 (by kernel_rfl) ?h5x1 (Or.inl ⟨?h6x1,?h7x1⟩) hHeld ?h8x1
 case h1x1=>
  simp only [Ya,Yb,Yc];rfl
 case h3x1=>kernel_rfl
 case h5x1=>exact fun _ _ _ h=>h
 case h6x1=>rfl
 case h7x1=>
  intro W hSW
  (try dsimp only at hSW)
  go_split_ands
  first | (go_simp;done) | (go_simp;with_reducible rfl)
 (try simp only [Act.put,Yd,Ye,Yf])
 refine wpAnyH_take (i:=2) (oi:=?oi2) (v:=.slice A1 n1 c1) ?h1x2 (by kernel_rfl) ?h3x2 (by kernel_rfl) ?h5x2 (Or.inl ⟨?h6x2,?h7x2⟩) hHeld ?h8x2
 case h1x2=>
  simp only [Ya,Yb,Yc];rfl
 case h3x2=>kernel_rfl
 case h5x2=>exact fun _ _ _ h=>h
 case h6x2=>rfl
 case h7x2=>
  intro W hSW
  (try dsimp only at hSW)
  go_split_ands
  first | (go_simp;done) | (go_simp;with_reducible rfl)
 (try simp only [Act.put,Yd,Ye,Yf])
 refine wpAnyH_take (i:=4) (oi:=?oi3) (v:=.pointer (some ⟨w.heap.size,2,none⟩)) ?h1x3 (by kernel_rfl) ?h3x3 (by kernel_rfl) ?h5x3 (Or.inl ⟨?h6x3,?h7x3⟩) hHeld ?h8x3
 case h1x3=>
  simp only [Ya,Yb,Yc];rfl
 case h3x3=>kernel_rfl
 case h5x3=>exact fun _ _ _ h=>h
 case h6x3=>rfl
 case h7x3=>
  intro W hSW
  (try dsimp only at hSW)
  go_split_ands
  first | (go_simp;done) | (go_simp;with_reducible rfl)
 (try simp only [Act.put,Yd,Ye,Yf])
 refine wpAnyH_take (i:=5) (oi:=?oi4) (v:=.slice A2 n2 c2) ?h1x4 (by kernel_rfl) ?h3x4 (by kernel_rfl) ?h5x4 (Or.inl ⟨?h6x4,?h7x4⟩) hHeld ?h8x4
 case h1x4=>
  simp only [Ya,Yb,Yc];rfl
 case h3x4=>kernel_rfl
 case h5x4=>exact fun _ _ _ h=>h
 case h6x4=>rfl
 case h7x4=>
  intro W hSW
  (try dsimp only at hSW)
  go_split_ands
  first | (go_simp;done) | (go_simp;with_reducible rfl)
 (try simp only [Act.put,Yd,Ye,Yf])
 refine wpAnyH_take (i:=7) (oi:=?oi5) (v:=.pointer (some ⟨w.heap.size,3,none⟩)) ?h1x5 (by kernel_rfl) ?h3x5 (by kernel_rfl) ?h5x5 (Or.inl ⟨?h6x5,?h7x5⟩) hHeld ?h8x5
 case h1x5=>
  simp only [Ya,Yb,Yc];rfl
 case h3x5=>kernel_rfl
 case h5x5=>exact fun _ _ _ h=>h
 case h6x5=>rfl
 case h7x5=>
  intro W hSW
  (try dsimp only at hSW)
  go_split_ands
  first | (go_simp;done) | (go_simp;with_reducible rfl)
 (try simp only [Act.put,Yd,Ye,Yf])
 refine wpAnyH_take (i:=8) (oi:=?oi6) (v:=.slice A3 n3 c3) ?h1x6 (by kernel_rfl) ?h3x6 (by kernel_rfl) ?h5x6 (Or.inl ⟨?h6x6,?h7x6⟩) hHeld ?h8x6
 case h1x6=>
  simp only [Ya,Yb,Yc];rfl
 case h3x6=>kernel_rfl
 case h5x6=>exact fun _ _ _ h=>h
 case h6x6=>rfl
 case h7x6=>
  intro W hSW
  (try dsimp only at hSW)
  go_split_ands
  first | (go_simp;done) | (go_simp;with_reducible rfl)
 (try simp only [Act.put,Yd,Ye,Yf])
 have hbl0:Below w1.heap.size w1 (w1.alloc (.cells #[] 58)).drew:=((Below.refl w1.heap.size w1).alloc (Nat.le_refl _) _).drew;have HBL0:=Hd hbl0;have a0:=(hbl0.cell (p:=⟨w.heap.size,1,none⟩) (by show w.heap.size<_;omega)).trans q1;have b0:=(hbl0.cell (p:=⟨w.heap.size,2,none⟩) (by show w.heap.size<_;omega)).trans q2;have e0:=(hbl0.cell (p:=⟨w.heap.size,3,none⟩) (by show w.heap.size<_;omega)).trans q3;clear hbl0;refine wpAnyH_ready (rs:=[0]) (by kernel_rfl) (by simp) ?_;refine AllReadyH.cons (by rfl) (fun K hK=>?_) ?_
 · go_simp
   refine hK.out _ _ ?_ (fun hHeld=>?_)
   · exact⟨a0,b0,e0⟩
   clear hK K
   (try simp only [Act.put,Yd,Ye,Yf])
   refine wpAnyH_ready (rs:=[3]) (by kernel_rfl) (by simp) ?_;refine AllReadyH.cons (by rfl) (fun K hK=>?_) ?_
   · refine step_append_any (by rfl) _ _ _ (by rfl) (w.heap.size+1) 58 i0 z0 6 72 Tryz.underlying50 hi hz1 hz0 hz2 hz3 (by decide) (.slice (some ⟨w.heap.size+1,0,none⟩) 0 0) 0 [] (by rfl) HO0.out A1 n1 c1 f1 (by rfl) (by rw [HL1.out]) HR1.out.1 (fun ad e j u hu=>by have h:=HR1.out.2 ad e j u hu;exact(HBL0.out.cell (World.block_lt_of_cell? _ _ h)).trans h) HO1.out (by unfold maxLen;omega) (by omega) (by have:=HBL0.out.size;omega) ?_;intro B1 d1 v1 hown1 hgr1 hat1;have HW1:=Hd hown1;have hbl1:Below w1.heap.size w1 v1:=HBL0.out.grown hgr1 (by have:=HBL0.out.size;omega) (fun j hj=>by rw [hg];exact(HO0.out.lt j hj).1);have HBL1:=Hd hbl1;have a1:=(hbl1.cell (p:=⟨w.heap.size,1,none⟩) (by show w.heap.size<_;omega)).trans q1;have b1:=(hbl1.cell (p:=⟨w.heap.size,2,none⟩) (by show w.heap.size<_;omega)).trans q2;have e1:=(hbl1.cell (p:=⟨w.heap.size,3,none⟩) (by show w.heap.size<_;omega)).trans q3;clear hown1 hgr1 hat1 hbl1;refine hK.out _ _ ?_ (fun hHeld=>?_)
     · exact⟨a1,b1,e1⟩
     clear hK K
     (try simp only [Act.put,Yd,Ye,Yf])
     refine wpAnyH_ready (rs:=[6]) (by kernel_rfl) (by simp) ?_;refine AllReadyH.cons (by rfl) (fun K hK=>?_) ?_
     · refine step_append_any (by rfl) _ _ _ (by rfl) (w.heap.size+1) 58 i0 z0 6 72 Tryz.underlying50 hi hz1 hz0 hz2 hz3 (by decide) (.slice B1 (0+n1) d1) (0+n1) ([]++f1) (by rfl) HW1.out A2 n2 c2 f2 (by rfl) (by rw [HL2.out]) HR2.out.1 (fun ad e j u hu=>by have h:=HR2.out.2 ad e j u hu;exact(HBL1.out.cell (World.block_lt_of_cell? _ _ h)).trans h) HO2.out (by unfold maxLen;omega) (by omega) (by have:=HBL1.out.size;omega) ?_;intro B2 d2 v2 hown2 hgr2 hat2;have HW2:=Hd hown2;have hbl2:Below w1.heap.size w1 v2:=HBL1.out.grown hgr2 (by have:=HBL1.out.size;omega) (fun j hj=>by rw [hg];exact(HW1.out.lt j hj).1);have HBL2:=Hd hbl2;have a2:=(hbl2.cell (p:=⟨w.heap.size,1,none⟩) (by show w.heap.size<_;omega)).trans q1;have b2:=(hbl2.cell (p:=⟨w.heap.size,2,none⟩) (by show w.heap.size<_;omega)).trans q2;have e2:=(hbl2.cell (p:=⟨w.heap.size,3,none⟩) (by show w.heap.size<_;omega)).trans q3;clear hown2 hgr2 hat2 hbl2;refine hK.out _ _ ?_ (fun hHeld=>?_)
       · exact⟨a2,b2,e2⟩
       clear hK K
       (try simp only [Act.put,Yd,Ye,Yf])
       refine wpAnyH_ready (rs:=[9]) (by kernel_rfl) (by simp) ?_;refine AllReadyH.cons (by rfl) (fun K hK=>?_) ?_
       · refine step_append_any (by rfl) _ _ _ (by rfl) (w.heap.size+1) 58 i0 z0 6 72 Tryz.underlying50 hi hz1 hz0 hz2 hz3 (by decide) (.slice B2 (0+n1+n2) d2) (0+n1+n2) ([]++f1++f2) (by rfl) HW2.out A3 n3 c3 f3 (by rfl) (by rw [HL3.out]) HR3.out.1 (fun ad e j u hu=>by have h:=HR3.out.2 ad e j u hu;exact(HBL2.out.cell (World.block_lt_of_cell? _ _ h)).trans h) HO3.out (by unfold maxLen;omega) (by omega) (by have:=HBL2.out.size;omega) ?_;intro B3 d3 v3 hown3 hgr3 hat3;have HW3:=Hd hown3;have hbl3:Below w1.heap.size w1 v3:=HBL2.out.grown hgr3 (by have:=HBL2.out.size;omega) (fun j hj=>by rw [hg];exact(HW2.out.lt j hj).1);have HBL3:=Hd hbl3;have a3:=(hbl3.cell (p:=⟨w.heap.size,1,none⟩) (by show w.heap.size<_;omega)).trans q1;have b3:=(hbl3.cell (p:=⟨w.heap.size,2,none⟩) (by show w.heap.size<_;omega)).trans q2;have e3:=(hbl3.cell (p:=⟨w.heap.size,3,none⟩) (by show w.heap.size<_;omega)).trans q3;clear hown3 hgr3 hat3 hbl3;refine hK.out _ _ ?_ (fun hHeld=>?_)
         · exact⟨a3,b3,e3⟩
         clear hK K
         (try simp only [Act.put,Yd,Ye,Yf])
         refine wpAnyH_ready (rs:=[10]) (by kernel_rfl) (by simp) ?_;refine AllReadyH.cons (by rfl) (fun K hK=>?_) ?_
         · go_simp
           refine hK.out _ _ ?_ (fun hHeld=>?_)
           · exact⟨a3,b3,e3⟩
           clear hK K
           (try simp only [Act.put,Yd,Ye,Yf])
           refine wpAnyH_done (by kernel_rfl) ?_ _
           go_wp2_with fail
           go_ret
           have hw:=HW3.out;rw [List.nil_append,← HXA.out,Nat.zero_add,← hlen] at hw;obtain⟨A,c,e,hR⟩:=RdD.of_own hw (by omega);refine⟨A,c,?_,hR,HB1.out.trans (HBL3.out.mono (by omega))⟩;rw [← e,hlen];rfl
         exact AllReadyH.nil
       exact AllReadyH.nil
     exact AllReadyH.nil
   exact AllReadyH.nil
 exact AllReadyH.nil
end
section
open Go.RowKit
def OkD(d:Dc):Prop:=d.nm.size≤maxLen∧d.on.size≤maxLen∧d.ct.size≤maxLen
theorem dc_facts(w:World) (d:Dc) (w1:World) (h:w.alloc (.cells (dcA d) 58)=w1):
 Below w.heap.size w w1∧w1.heap.size=w.heap.size+1∧∀ w',Below w1.heap.size w1 w'→∀ j,w'.cell? ⟨w.heap.size,j,none⟩=(dcA d)[j]?:=by
 subst h;refine⟨(Below.refl _ _).alloc (Nat.le_refl _) _,by simp,fun w' hb j=>?_⟩;rw [hb.cell (p:=⟨w.heap.size,j,none⟩) (by simp),World.cell?_alloc_new]
theorem below_next{w w1 w2:World}(h:Below w.heap.size w w1) (hb:Below w1.heap.size w1 w2):Below w.heap.size w w2:=h.trans (hb.mono h.size)
theorem refDecl(A:Option Addr) (n c:Nat) (d:Dc) (w:World) (hn:n≤9223372036854775807) (hok:OkD d):
 Calls Tryz.prog 107 #[.slice A n c,.agg (dcA d)] w fun e w'=>e=.returned (.bool (declB n rightB d))∧Below w.heap.size w w':=by
 obtain⟨hs0,hs4,hs5⟩:=hok;unfold maxLen at hs0 hs4 hs5;have HF:=Hd fun w1 h=>dc_facts w d w1 h;have HE:=Hd (show declB n rightB d=(lowB d.nm.data.toList && rightB n d.k d.e d.l && (((d.on.toList==[]) && (d.ct.toList==[])) || (lowB d.on.data.toList && armT d.ct))) by simp only [Lib.toList_data];rfl);have HL0:=Hd fun w1=>refLow d.nm w1 (by omega);have HL4:=Hd fun w1=>refLow d.on w1 (by omega);have HA5:=Hd fun w1=>refPgArm d.ct w1 (by omega);have HTR:=Hd fun w1=>refTyRight A n c d.k d.e d.l w1 hn;unfold tyV at HTR
 have HON:=Hd (show(d.on.toList==[])=true→lowB d.on.data.toList=false by
  intro h;rw [Lib.toList_data] at h;rw [eq_of_beq h];rfl)
 unfold dcA;generalize declB n rightB d=out at *
 go_enter Tryz.func107,Tryz.ntmps107
 go_upto_region 1 with(fail)
 generalize hw1:w.alloc _=w1;obtain⟨hb1,hg,hcell⟩:=HF.out w1 hw1;have HB1:=Hd hb1;have HC:=Hd hcell;have q0:=hcell w1 (Below.refl _ _) 0;simp only [dcA,List.getElem?_toArray,List.getElem?_cons_zero,List.getElem?_cons_succ] at q0 HC;clear hw1 hcell hb1 HF;generalize d.nm=x0 at *;generalize d.on=x4 at *;generalize d.ct=x5 at *;generalize d.k=tk at *;generalize d.e=te at *;generalize d.l=tl at *
 cases h0:lowB x0.data.toList with
 | false=>
  rw [h0] at HE
  go_wp2_with fail
  refine(HL0.out w1).mono ?_;rw [h0];rintro e w2 ⟨rfl,hb⟩;have HW2:=Hd hb;have HB2:=Hd (below_next HB1.out hb);clear hb
  go_wp2_with fail
  go_ret
  exact⟨ret_bool (by rw [HE.out];rfl),HB2.out⟩
 | true=>
  rw [h0] at HE
  go_wp2_with fail
  refine(HL0.out w1).mono ?_;rw [h0];rintro e w2 ⟨rfl,hb⟩;have HW2:=Hd hb;have HB2:=Hd (below_next HB1.out hb);clear hb;clear q0;obtain⟨-,q1,q2,q3,-,-⟩:=Sx (HC.out w2 HW2.out);simp only [Ya,Yb,Yc] at q1 q2 q3
  cases h1:rightB n tk te tl with
  | false=>
   rw [h1] at HE
   go_wp2_with fail
   refine(HTR.out w2).mono ?_;rw [h1];rintro e w3 ⟨rfl,hb⟩;have HW3:=Hd (below_next HW2.out hb);have HB3:=Hd (below_next HB2.out hb);clear hb
   go_wp2_with fail
   go_ret
   exact⟨ret_bool (by rw [HE.out];rfl),HB3.out⟩
  | true=>
   rw [h1] at HE
   go_wp2_with fail
   refine(HTR.out w2).mono ?_;rw [h1];rintro e w3 ⟨rfl,hb⟩;have HW3:=Hd (below_next HW2.out hb);have HB3:=Hd (below_next HB2.out hb);clear hb;have q4:=HC.out w3 HW3.out 4;have q5:=HC.out w3 HW3.out 5;simp only [Ya,Yb,Yc] at q4 q5
   cases h3:(x4.toList==[]) with
   | true=>
    have h4:=HON.out h3;rw [h3,h4] at HE
    cases h6:(x5.toList==[]) with
    | true=>
     rw [h6] at HE
     go_wp2_with fail
     go_ret
     exact⟨ret_bool (by rw [HE.out];rfl),HB3.out⟩
    | false=>
     rw [h6] at HE
     go_wp2_with fail
     refine(HL4.out w3).mono ?_;rw [h4];rintro e w4 ⟨rfl,hb⟩;have HW4:=Hd (below_next HW3.out hb);have HB4:=Hd (below_next HB3.out hb);clear hb;clear q4 q5;have q4:=HC.out w4 HW4.out 4;have q5:=HC.out w4 HW4.out 5;simp only [Ya,Yb,Yc] at q4 q5
     go_wp2_with fail
     go_ret
     exact⟨ret_bool (by rw [HE.out];rfl),HB4.out⟩
   | false=>
    rw [h3] at HE
    cases h4:lowB x4.data.toList with
    | false=>
     rw [h4] at HE
     go_wp2_with fail
     refine(HL4.out w3).mono ?_;rw [h4];rintro e w4 ⟨rfl,hb⟩;have HW4:=Hd (below_next HW3.out hb);have HB4:=Hd (below_next HB3.out hb);clear hb;clear q4 q5;have q4:=HC.out w4 HW4.out 4;have q5:=HC.out w4 HW4.out 5;simp only [Ya,Yb,Yc] at q4 q5
     go_wp2_with fail
     go_ret
     exact⟨ret_bool (by rw [HE.out];rfl),HB4.out⟩
    | true=>
     rw [h4] at HE
     go_wp2_with fail
     refine(HL4.out w3).mono ?_;rw [h4];rintro e w4 ⟨rfl,hb⟩;have HW4:=Hd (below_next HW3.out hb);have HB4:=Hd (below_next HB3.out hb);clear hb;clear q4 q5;have q4:=HC.out w4 HW4.out 4;have q5:=HC.out w4 HW4.out 5;simp only [Ya,Yb,Yc] at q4 q5
     cases h5:armT x5 with
     | true=>
      rw [h5] at HE
      go_wp2_with fail
      refine(HA5.out w4).mono ?_;rw [h5];rintro e w5 ⟨rfl,rfl⟩
      go_wp2_with fail
      go_ret
      exact⟨ret_bool (by rw [HE.out];rfl),HB4.out⟩
     | false=>
      rw [h5] at HE
      go_wp2_with fail
      refine(HA5.out w4).mono ?_;rw [h5];rintro e w5 ⟨rfl,rfl⟩
      go_wp2_with fail
      go_ret
      exact⟨ret_bool (by rw [HE.out];rfl),HB4.out⟩
end
section
open Go.RowKit Go.Sort
theorem refPlainB(k:Int) (w:World):
 Calls Tryz.prog 165 #[.int .i64 k] w fun r w'=>r=.returned (tyV k 0 0)∧Below w.heap.size w w' :=
 (refPlain k w).mono fun r w' ⟨h,h'⟩=>⟨h,by rw [h'];exact(Below.refl _ _).alloc (Nat.le_refl _) _⟩
theorem heap_below{w w':World}{i:Nat}{o:Obj}(h:w.heap[i]?=some o) (hb:Below w.heap.size w w'):w'.heap[i]?=some o:=by
 rw [hb.block i (Array.getElem?_eq_some_iff.1 h).1];exact h
def Row3(W:World) (g:Nat) (k e l:Int):Prop:=W.heap[g]?=some (tyO k e l)
section
variable {W W':World}{g i:Nat}{k e l k' e' l':Int}
theorem Row3.lt(h:Row3 W g k e l):g<W.heap.size:=(Array.getElem?_eq_some_iff.1 h).1
theorem Row3.below(h:Row3 W g k e l) (hb:Below W.heap.size W W'):Row3 W' g k e l:=heap_below h hb
theorem Row3.regrown(h:Row3 W g k e l) (d:Nat) (os:Array Obj):Row3 (grow (redrawn W d) os) g k e l:=heap_below h (below_regrown W d os)
theorem Row3.alloc(h:Row3 W g k e l) (o:Obj):Row3 (W.alloc o) g k e l:=heap_up o h
theorem Row3.drew(h:Row3 W g k e l):Row3 W.drew g k e l:=h
theorem Row3.set(h:Row3 W g k e l) (k' e' l':Int):Row3 (W.setRow g #[.int .i64 k',.int .i64 e',.int .i64 l']) g k' e' l':=setRow_heap _ _ _ _ _ _ h
theorem Row3.other(h:Row3 W g k e l) (hne:g≠i) (cs:Array Value):Row3 (W.setRow i cs) g k e l:=(setRow_other _ _ _ _ hne).trans h
theorem Row3.cells(h:Row3 W g k e l):W.cell? ⟨g,0,none⟩=some (.int .i64 k)∧W.cell? ⟨g,1,none⟩=some (.int .i64 e)∧W.cell? ⟨g,2,none⟩=some (.int .i64 l):=by
 have hj:∀ j,W.cell? ⟨g,j,none⟩=(#[Value.int .i64 k,.int .i64 e,.int .i64 l]:Array Value)[j]?:=fun j=>by
  have:=cell_setRow_same W g j _ #[.int .i64 k,.int .i64 e,.int .i64 l] _ _ h;rwa [setRow_self W g _ _ _ h] at this
 exact⟨hj 0,hj 1,hj 2⟩
theorem Row3.new(W:World) (k e l:Int):Row3 (W.alloc (tyO k e l)) W.heap.size k e l:=heap_alloc_new _ _
end
theorem refUnTy1_0(w:World):
 Calls Tryz.prog 126 #[.int .i64 1,tyV 1 0 0] w fun r w'=>r=.returned (.tuple #[tyV 1 0 0,.bool true])∧Below w.heap.size w w':=by
 have HC:=Hd refPlainB;have HX0:=Hd ((Row3.new w 1 0 0).alloc (tyO 0 0 0));have HR0:Hid (Row3 ((w.alloc (tyO 1 0 0)).alloc (tyO 0 0 0)) (w.heap.size+1) 0 0 0):=Hd (heap_alloc2_new _ _ _);have HB0:Hid (Below w.heap.size w ((w.alloc (tyO 1 0 0)).alloc (tyO 0 0 0))):=Hd (by(repeat' (first | exact Below.refl _ _ | refine Below.drew ?_ | refine Below.alloc ?_ (by simp <;> omega) _)));unfold tyV at HC ⊢
 go_enter Tryz.func126,Tryz.ntmps126
 go_wp2_with fail
 generalize ((w.alloc (.cells #[.int .i64 1,.int .i64 0,.int .i64 0] 38)).alloc (.cells #[.int .i64 0,.int .i64 0,.int .i64 0] 38))=w1 at *;have l0:=fun d os=>cell_regrown HX0.out.cells.1 d os;have l1:=fun d os=>cell_regrown HX0.out.cells.2.1 d os;have l2:=fun d os=>cell_regrown HX0.out.cells.2.2 d os;have cA:=fun d os=>Calls.regrown_of (HC.out 1 (grow (redrawn w1 d) os));refine wp_region_quiet_below (by kernel_rfl) (by kernel_rfl) ?_
 repeat (quiet_step (exact cA _ _))
 refine wpQuiet_nil ?_;intro _ hw';obtain⟨⟨dq,osq⟩,hw''⟩:=hw';subst hw'';have HX:=Hd (HX0.out.regrown dq osq);have HR:=Hd (HR0.out.regrown dq osq);have HB:=Hd (HB0.out.trans ((below_regrown w1 dq osq).mono HB0.out.size));clear cA l0 l1 l2 HX0 HR0 HB0;generalize grow (redrawn w1 dq) osq=wq at *
 go_wp2_with (first | (refine wpList_load_row rfl _ _ rfl w.heap.size rfl _ _ _ _ HX.out Tryz.underlying38 rfl ty_info ?_) | (refine wpList_store_row rfl _ _ _ rfl (w.heap.size+1) _ rfl rfl _ _ HR.out ty_info rfl (by simp [Value.oneCell']) ?_))
 exact bodyPost_ret (res_ty2 rfl _ _ (w.heap.size+1) 1 0 0 rfl (HR.out.set _ _ _)) rfl ⟨rfl,below_setRow HB.out (by omega) _⟩
theorem refUnTy1_1(k e l:Int) (hk:(k==1)=false) (w:World):
 Calls Tryz.prog 126 #[.int .i64 1,tyV k e l] w fun r w'=>r=.returned (.tuple #[tyV 0 0 0,.bool false])∧Below w.heap.size w w':=by
 have HC:=Hd refPlainB;have HX0:=Hd ((Row3.new w k e l).alloc (tyO 0 0 0));have HR0:Hid (Row3 ((w.alloc (tyO k e l)).alloc (tyO 0 0 0)) (w.heap.size+1) 0 0 0):=Hd (heap_alloc2_new _ _ _);have HB0:Hid (Below w.heap.size w ((w.alloc (tyO k e l)).alloc (tyO 0 0 0))):=Hd (by(repeat' (first | exact Below.refl _ _ | refine Below.drew ?_ | refine Below.alloc ?_ (by simp <;> omega) _)));unfold tyV at HC ⊢
 go_enter Tryz.func126,Tryz.ntmps126
 go_wp2_with fail
 generalize ((w.alloc (.cells #[.int .i64 k,.int .i64 e,.int .i64 l] 38)).alloc (.cells #[.int .i64 0,.int .i64 0,.int .i64 0] 38))=w1 at *;have l0:=fun d os=>cell_regrown HX0.out.cells.1 d os;have l1:=fun d os=>cell_regrown HX0.out.cells.2.1 d os;have l2:=fun d os=>cell_regrown HX0.out.cells.2.2 d os;have cA:=fun d os=>Calls.regrown_of (HC.out 1 (grow (redrawn w1 d) os));refine wp_region_quiet_below (by kernel_rfl) (by kernel_rfl) ?_
 repeat (quiet_step (exact cA _ _))
 refine wpQuiet_nil ?_;intro _ hw';obtain⟨⟨dq,osq⟩,hw''⟩:=hw';subst hw'';have HX:=Hd (HX0.out.regrown dq osq);have HR:=Hd (HR0.out.regrown dq osq);have HB:=Hd (HB0.out.trans ((below_regrown w1 dq osq).mono HB0.out.size));clear cA l0 l1 l2 HX0 HR0 HB0;generalize grow (redrawn w1 dq) osq=wq at *
 go_wp2_with (first | (refine wpList_load_row rfl _ _ rfl w.heap.size rfl _ _ _ _ HX.out Tryz.underlying38 rfl ty_info ?_) | (refine wpList_store_row rfl _ _ _ rfl (w.heap.size+1) _ rfl rfl _ _ HR.out ty_info rfl (by simp [Value.oneCell']) ?_))
 exact bodyPost_ret (res_ty2 rfl _ _ (w.heap.size+1) 0 0 0 rfl (HR.out.set _ _ _)) rfl ⟨rfl,below_setRow HB.out (by omega) _⟩
theorem refUnTy1_2(e l:Int) (hk:(e==0)=false) (w:World):
 Calls Tryz.prog 126 #[.int .i64 1,tyV 1 e l] w fun r w'=>r=.returned (.tuple #[tyV 0 0 0,.bool false])∧Below w.heap.size w w':=by
 have HC:=Hd refPlainB;have HX0:=Hd ((Row3.new w 1 e l).alloc (tyO 0 0 0));have HR0:Hid (Row3 ((w.alloc (tyO 1 e l)).alloc (tyO 0 0 0)) (w.heap.size+1) 0 0 0):=Hd (heap_alloc2_new _ _ _);have HB0:Hid (Below w.heap.size w ((w.alloc (tyO 1 e l)).alloc (tyO 0 0 0))):=Hd (by(repeat' (first | exact Below.refl _ _ | refine Below.drew ?_ | refine Below.alloc ?_ (by simp <;> omega) _)));unfold tyV at HC ⊢
 go_enter Tryz.func126,Tryz.ntmps126
 go_wp2_with fail
 generalize ((w.alloc (.cells #[.int .i64 1,.int .i64 e,.int .i64 l] 38)).alloc (.cells #[.int .i64 0,.int .i64 0,.int .i64 0] 38))=w1 at *;have l0:=fun d os=>cell_regrown HX0.out.cells.1 d os;have l1:=fun d os=>cell_regrown HX0.out.cells.2.1 d os;have l2:=fun d os=>cell_regrown HX0.out.cells.2.2 d os;have cA:=fun d os=>Calls.regrown_of (HC.out 1 (grow (redrawn w1 d) os));refine wp_region_quiet_below (by kernel_rfl) (by kernel_rfl) ?_
 repeat (quiet_step (exact cA _ _))
 refine wpQuiet_nil ?_;intro _ hw';obtain⟨⟨dq,osq⟩,hw''⟩:=hw';subst hw'';have HX:=Hd (HX0.out.regrown dq osq);have HR:=Hd (HR0.out.regrown dq osq);have HB:=Hd (HB0.out.trans ((below_regrown w1 dq osq).mono HB0.out.size));clear cA l0 l1 l2 HX0 HR0 HB0;generalize grow (redrawn w1 dq) osq=wq at *
 go_wp2_with (first | (refine wpList_load_row rfl _ _ rfl w.heap.size rfl _ _ _ _ HX.out Tryz.underlying38 rfl ty_info ?_) | (refine wpList_store_row rfl _ _ _ rfl (w.heap.size+1) _ rfl rfl _ _ HR.out ty_info rfl (by simp [Value.oneCell']) ?_))
 exact bodyPost_ret (res_ty2 rfl _ _ (w.heap.size+1) 0 0 0 rfl (HR.out.set _ _ _)) rfl ⟨rfl,below_setRow HB.out (by omega) _⟩
theorem refUnTy1_3(l:Int) (hk:(l==0)=false) (w:World):
 Calls Tryz.prog 126 #[.int .i64 1,tyV 1 0 l] w fun r w'=>r=.returned (.tuple #[tyV 0 0 0,.bool false])∧Below w.heap.size w w':=by
 have HC:=Hd refPlainB;have HX0:=Hd ((Row3.new w 1 0 l).alloc (tyO 0 0 0));have HR0:Hid (Row3 ((w.alloc (tyO 1 0 l)).alloc (tyO 0 0 0)) (w.heap.size+1) 0 0 0):=Hd (heap_alloc2_new _ _ _);have HB0:Hid (Below w.heap.size w ((w.alloc (tyO 1 0 l)).alloc (tyO 0 0 0))):=Hd (by(repeat' (first | exact Below.refl _ _ | refine Below.drew ?_ | refine Below.alloc ?_ (by simp <;> omega) _)));unfold tyV at HC ⊢
 go_enter Tryz.func126,Tryz.ntmps126
 go_wp2_with fail
 generalize ((w.alloc (.cells #[.int .i64 1,.int .i64 0,.int .i64 l] 38)).alloc (.cells #[.int .i64 0,.int .i64 0,.int .i64 0] 38))=w1 at *;have l0:=fun d os=>cell_regrown HX0.out.cells.1 d os;have l1:=fun d os=>cell_regrown HX0.out.cells.2.1 d os;have l2:=fun d os=>cell_regrown HX0.out.cells.2.2 d os;have cA:=fun d os=>Calls.regrown_of (HC.out 1 (grow (redrawn w1 d) os));refine wp_region_quiet_below (by kernel_rfl) (by kernel_rfl) ?_
 repeat (quiet_step (exact cA _ _))
 refine wpQuiet_nil ?_;intro _ hw';obtain⟨⟨dq,osq⟩,hw''⟩:=hw';subst hw'';have HX:=Hd (HX0.out.regrown dq osq);have HR:=Hd (HR0.out.regrown dq osq);have HB:=Hd (HB0.out.trans ((below_regrown w1 dq osq).mono HB0.out.size));clear cA l0 l1 l2 HX0 HR0 HB0;generalize grow (redrawn w1 dq) osq=wq at *
 go_wp2_with (first | (refine wpList_load_row rfl _ _ rfl w.heap.size rfl _ _ _ _ HX.out Tryz.underlying38 rfl ty_info ?_) | (refine wpList_store_row rfl _ _ _ rfl (w.heap.size+1) _ rfl rfl _ _ HR.out ty_info rfl (by simp [Value.oneCell']) ?_))
 exact bodyPost_ret (res_ty2 rfl _ _ (w.heap.size+1) 0 0 0 rfl (HR.out.set _ _ _)) rfl ⟨rfl,below_setRow HB.out (by omega) _⟩
theorem refUnTy2_0(w:World):
 Calls Tryz.prog 126 #[.int .i64 2,tyV 2 0 0] w fun r w'=>r=.returned (.tuple #[tyV 2 0 0,.bool true])∧Below w.heap.size w w':=by
 have HC:=Hd refPlainB;have HX0:=Hd ((Row3.new w 2 0 0).alloc (tyO 0 0 0));have HR0:Hid (Row3 ((w.alloc (tyO 2 0 0)).alloc (tyO 0 0 0)) (w.heap.size+1) 0 0 0):=Hd (heap_alloc2_new _ _ _);have HB0:Hid (Below w.heap.size w ((w.alloc (tyO 2 0 0)).alloc (tyO 0 0 0))):=Hd (by(repeat' (first | exact Below.refl _ _ | refine Below.drew ?_ | refine Below.alloc ?_ (by simp <;> omega) _)));unfold tyV at HC ⊢
 go_enter Tryz.func126,Tryz.ntmps126
 go_wp2_with fail
 generalize ((w.alloc (.cells #[.int .i64 2,.int .i64 0,.int .i64 0] 38)).alloc (.cells #[.int .i64 0,.int .i64 0,.int .i64 0] 38))=w1 at *;have l0:=fun d os=>cell_regrown HX0.out.cells.1 d os;have l1:=fun d os=>cell_regrown HX0.out.cells.2.1 d os;have l2:=fun d os=>cell_regrown HX0.out.cells.2.2 d os;have cA:=fun d os=>Calls.regrown_of (HC.out 2 (grow (redrawn w1 d) os));refine wp_region_quiet_below (by kernel_rfl) (by kernel_rfl) ?_
 repeat (quiet_step (exact cA _ _))
 refine wpQuiet_nil ?_;intro _ hw';obtain⟨⟨dq,osq⟩,hw''⟩:=hw';subst hw'';have HX:=Hd (HX0.out.regrown dq osq);have HR:=Hd (HR0.out.regrown dq osq);have HB:=Hd (HB0.out.trans ((below_regrown w1 dq osq).mono HB0.out.size));clear cA l0 l1 l2 HX0 HR0 HB0;generalize grow (redrawn w1 dq) osq=wq at *
 go_wp2_with (first | (refine wpList_load_row rfl _ _ rfl w.heap.size rfl _ _ _ _ HX.out Tryz.underlying38 rfl ty_info ?_) | (refine wpList_store_row rfl _ _ _ rfl (w.heap.size+1) _ rfl rfl _ _ HR.out ty_info rfl (by simp [Value.oneCell']) ?_))
 exact bodyPost_ret (res_ty2 rfl _ _ (w.heap.size+1) 2 0 0 rfl (HR.out.set _ _ _)) rfl ⟨rfl,below_setRow HB.out (by omega) _⟩
theorem refUnTy2_1(k e l:Int) (hk:(k==2)=false) (w:World):
 Calls Tryz.prog 126 #[.int .i64 2,tyV k e l] w fun r w'=>r=.returned (.tuple #[tyV 0 0 0,.bool false])∧Below w.heap.size w w':=by
 have HC:=Hd refPlainB;have HX0:=Hd ((Row3.new w k e l).alloc (tyO 0 0 0));have HR0:Hid (Row3 ((w.alloc (tyO k e l)).alloc (tyO 0 0 0)) (w.heap.size+1) 0 0 0):=Hd (heap_alloc2_new _ _ _);have HB0:Hid (Below w.heap.size w ((w.alloc (tyO k e l)).alloc (tyO 0 0 0))):=Hd (by(repeat' (first | exact Below.refl _ _ | refine Below.drew ?_ | refine Below.alloc ?_ (by simp <;> omega) _)));unfold tyV at HC ⊢
 go_enter Tryz.func126,Tryz.ntmps126
 go_wp2_with fail
 generalize ((w.alloc (.cells #[.int .i64 k,.int .i64 e,.int .i64 l] 38)).alloc (.cells #[.int .i64 0,.int .i64 0,.int .i64 0] 38))=w1 at *;have l0:=fun d os=>cell_regrown HX0.out.cells.1 d os;have l1:=fun d os=>cell_regrown HX0.out.cells.2.1 d os;have l2:=fun d os=>cell_regrown HX0.out.cells.2.2 d os;have cA:=fun d os=>Calls.regrown_of (HC.out 2 (grow (redrawn w1 d) os));refine wp_region_quiet_below (by kernel_rfl) (by kernel_rfl) ?_
 repeat (quiet_step (exact cA _ _))
 refine wpQuiet_nil ?_;intro _ hw';obtain⟨⟨dq,osq⟩,hw''⟩:=hw';subst hw'';have HX:=Hd (HX0.out.regrown dq osq);have HR:=Hd (HR0.out.regrown dq osq);have HB:=Hd (HB0.out.trans ((below_regrown w1 dq osq).mono HB0.out.size));clear cA l0 l1 l2 HX0 HR0 HB0;generalize grow (redrawn w1 dq) osq=wq at *
 go_wp2_with (first | (refine wpList_load_row rfl _ _ rfl w.heap.size rfl _ _ _ _ HX.out Tryz.underlying38 rfl ty_info ?_) | (refine wpList_store_row rfl _ _ _ rfl (w.heap.size+1) _ rfl rfl _ _ HR.out ty_info rfl (by simp [Value.oneCell']) ?_))
 exact bodyPost_ret (res_ty2 rfl _ _ (w.heap.size+1) 0 0 0 rfl (HR.out.set _ _ _)) rfl ⟨rfl,below_setRow HB.out (by omega) _⟩
theorem refUnTy2_2(e l:Int) (hk:(e==0)=false) (w:World):
 Calls Tryz.prog 126 #[.int .i64 2,tyV 2 e l] w fun r w'=>r=.returned (.tuple #[tyV 0 0 0,.bool false])∧Below w.heap.size w w':=by
 have HC:=Hd refPlainB;have HX0:=Hd ((Row3.new w 2 e l).alloc (tyO 0 0 0));have HR0:Hid (Row3 ((w.alloc (tyO 2 e l)).alloc (tyO 0 0 0)) (w.heap.size+1) 0 0 0):=Hd (heap_alloc2_new _ _ _);have HB0:Hid (Below w.heap.size w ((w.alloc (tyO 2 e l)).alloc (tyO 0 0 0))):=Hd (by(repeat' (first | exact Below.refl _ _ | refine Below.drew ?_ | refine Below.alloc ?_ (by simp <;> omega) _)));unfold tyV at HC ⊢
 go_enter Tryz.func126,Tryz.ntmps126
 go_wp2_with fail
 generalize ((w.alloc (.cells #[.int .i64 2,.int .i64 e,.int .i64 l] 38)).alloc (.cells #[.int .i64 0,.int .i64 0,.int .i64 0] 38))=w1 at *;have l0:=fun d os=>cell_regrown HX0.out.cells.1 d os;have l1:=fun d os=>cell_regrown HX0.out.cells.2.1 d os;have l2:=fun d os=>cell_regrown HX0.out.cells.2.2 d os;have cA:=fun d os=>Calls.regrown_of (HC.out 2 (grow (redrawn w1 d) os));refine wp_region_quiet_below (by kernel_rfl) (by kernel_rfl) ?_
 repeat (quiet_step (exact cA _ _))
 refine wpQuiet_nil ?_;intro _ hw';obtain⟨⟨dq,osq⟩,hw''⟩:=hw';subst hw'';have HX:=Hd (HX0.out.regrown dq osq);have HR:=Hd (HR0.out.regrown dq osq);have HB:=Hd (HB0.out.trans ((below_regrown w1 dq osq).mono HB0.out.size));clear cA l0 l1 l2 HX0 HR0 HB0;generalize grow (redrawn w1 dq) osq=wq at *
 go_wp2_with (first | (refine wpList_load_row rfl _ _ rfl w.heap.size rfl _ _ _ _ HX.out Tryz.underlying38 rfl ty_info ?_) | (refine wpList_store_row rfl _ _ _ rfl (w.heap.size+1) _ rfl rfl _ _ HR.out ty_info rfl (by simp [Value.oneCell']) ?_))
 exact bodyPost_ret (res_ty2 rfl _ _ (w.heap.size+1) 0 0 0 rfl (HR.out.set _ _ _)) rfl ⟨rfl,below_setRow HB.out (by omega) _⟩
theorem refUnTy2_3(l:Int) (hk:(l==0)=false) (w:World):
 Calls Tryz.prog 126 #[.int .i64 2,tyV 2 0 l] w fun r w'=>r=.returned (.tuple #[tyV 0 0 0,.bool false])∧Below w.heap.size w w':=by
 have HC:=Hd refPlainB;have HX0:=Hd ((Row3.new w 2 0 l).alloc (tyO 0 0 0));have HR0:Hid (Row3 ((w.alloc (tyO 2 0 l)).alloc (tyO 0 0 0)) (w.heap.size+1) 0 0 0):=Hd (heap_alloc2_new _ _ _);have HB0:Hid (Below w.heap.size w ((w.alloc (tyO 2 0 l)).alloc (tyO 0 0 0))):=Hd (by(repeat' (first | exact Below.refl _ _ | refine Below.drew ?_ | refine Below.alloc ?_ (by simp <;> omega) _)));unfold tyV at HC ⊢
 go_enter Tryz.func126,Tryz.ntmps126
 go_wp2_with fail
 generalize ((w.alloc (.cells #[.int .i64 2,.int .i64 0,.int .i64 l] 38)).alloc (.cells #[.int .i64 0,.int .i64 0,.int .i64 0] 38))=w1 at *;have l0:=fun d os=>cell_regrown HX0.out.cells.1 d os;have l1:=fun d os=>cell_regrown HX0.out.cells.2.1 d os;have l2:=fun d os=>cell_regrown HX0.out.cells.2.2 d os;have cA:=fun d os=>Calls.regrown_of (HC.out 2 (grow (redrawn w1 d) os));refine wp_region_quiet_below (by kernel_rfl) (by kernel_rfl) ?_
 repeat (quiet_step (exact cA _ _))
 refine wpQuiet_nil ?_;intro _ hw';obtain⟨⟨dq,osq⟩,hw''⟩:=hw';subst hw'';have HX:=Hd (HX0.out.regrown dq osq);have HR:=Hd (HR0.out.regrown dq osq);have HB:=Hd (HB0.out.trans ((below_regrown w1 dq osq).mono HB0.out.size));clear cA l0 l1 l2 HX0 HR0 HB0;generalize grow (redrawn w1 dq) osq=wq at *
 go_wp2_with (first | (refine wpList_load_row rfl _ _ rfl w.heap.size rfl _ _ _ _ HX.out Tryz.underlying38 rfl ty_info ?_) | (refine wpList_store_row rfl _ _ _ rfl (w.heap.size+1) _ rfl rfl _ _ HR.out ty_info rfl (by simp [Value.oneCell']) ?_))
 exact bodyPost_ret (res_ty2 rfl _ _ (w.heap.size+1) 0 0 0 rfl (HR.out.set _ _ _)) rfl ⟨rfl,below_setRow HB.out (by omega) _⟩
theorem refUnTy_no(op k e l:Int) (h1:(op==1)=false) (h2:(op==2)=false) (w:World):
 Calls Tryz.prog 126 #[.int .i64 op,tyV k e l] w fun r w'=>r=.returned (.tuple #[tyV 0 0 0,.bool false])∧Below w.heap.size w w':=by
 have HC:=Hd refPlainB;have HX0:=Hd ((Row3.new w k e l).alloc (tyO 0 0 0));have HR0:Hid (Row3 ((w.alloc (tyO k e l)).alloc (tyO 0 0 0)) (w.heap.size+1) 0 0 0):=Hd (heap_alloc2_new _ _ _);have HB0:Hid (Below w.heap.size w ((w.alloc (tyO k e l)).alloc (tyO 0 0 0))):=Hd (by(repeat' (first | exact Below.refl _ _ | refine Below.drew ?_ | refine Below.alloc ?_ (by simp <;> omega) _)));unfold tyV at HC ⊢
 go_enter Tryz.func126,Tryz.ntmps126
 go_wp2_with fail
 generalize ((w.alloc (.cells #[.int .i64 k,.int .i64 e,.int .i64 l] 38)).alloc (.cells #[.int .i64 0,.int .i64 0,.int .i64 0] 38))=w1 at *;have l0:=fun d os=>cell_regrown HX0.out.cells.1 d os;have l1:=fun d os=>cell_regrown HX0.out.cells.2.1 d os;have l2:=fun d os=>cell_regrown HX0.out.cells.2.2 d os;refine wp_region_quiet_below (by kernel_rfl) (by kernel_rfl) ?_
 repeat (quiet_step (fail))
 refine wpQuiet_nil ?_;intro _ hw';obtain⟨⟨dq,osq⟩,hw''⟩:=hw';subst hw'';have HX:=Hd (HX0.out.regrown dq osq);have HR:=Hd (HR0.out.regrown dq osq);have HB:=Hd (HB0.out.trans ((below_regrown w1 dq osq).mono HB0.out.size));clear l0 l1 l2 HX0 HR0 HB0;generalize grow (redrawn w1 dq) osq=wq at *
 go_wp2_with (first | (refine wpList_load_row rfl _ _ rfl w.heap.size rfl _ _ _ _ HX.out Tryz.underlying38 rfl ty_info ?_) | (refine wpList_store_row rfl _ _ _ rfl (w.heap.size+1) _ rfl rfl _ _ HR.out ty_info rfl (by simp [Value.oneCell']) ?_))
 exact bodyPost_ret (res_ty2 rfl _ _ (w.heap.size+1) 0 0 0 rfl (HR.out.set _ _ _)) rfl ⟨rfl,below_setRow HB.out (by omega) _⟩
theorem refUnTy(op k e l:Int) (w:World):
 Calls Tryz.prog 126 #[.int .i64 op,tyV k e l] w fun r w'=>r=.returned (.tuple #[tyR (unTyI op k e l),.bool (unTyI op k e l).isSome])∧Below w.heap.size w w':=by
 by_cases o1:op=1
 · subst o1
   by_cases hk:k=1
   · subst hk
     by_cases he:e=0
     · subst he
       by_cases hl:l=0
       · subst hl;exact refUnTy1_0 w
       · have e:unTyI 1 1 0 l=none:=by simp [unTyI,hl]
         rw [e];exact refUnTy1_3 l (by simpa using hl) w
     · have e:unTyI 1 1 e l=none:=by simp [unTyI,he]
       rw [e];exact refUnTy1_2 _ l (by simpa using he) w
   · have e:unTyI 1 k e l=none:=by simp [unTyI,hk]
     rw [e];exact refUnTy1_1 k _ l (by simpa using hk) w
 · by_cases o2:op=2
   · subst o2
     by_cases hk:k=2
     · subst hk
       by_cases he:e=0
       · subst he
         by_cases hl:l=0
         · subst hl;exact refUnTy2_0 w
         · have e:unTyI 2 2 0 l=none:=by simp [unTyI,hl]
           rw [e];exact refUnTy2_3 l (by simpa using hl) w
       · have e:unTyI 2 2 e l=none:=by simp [unTyI,he]
         rw [e];exact refUnTy2_2 _ l (by simpa using he) w
     · have e:unTyI 2 k e l=none:=by simp [unTyI,hk]
       rw [e];exact refUnTy2_1 k _ l (by simpa using hk) w
   · have e:unTyI op k e l=none:=by simp [unTyI,o1,o2]
     rw [e];exact refUnTy_no op k _ l (by simpa using o1) (by simpa using o2) w
end
section
open Go.RowKit Go.Sort
def isP(K k e l:Int):Bool:=decide (k=K) && decide (e=0) && decide (l=0)
def sameB(k e l k' e' l':Int):Bool:=decide (k=k') && decide (e=e') && decide (l=l') && decide (l=0)
def binTyI(op:Int) (I B S:Bool):Option Int:=
 if 3≤op∧op≤7 then(if I then some 1 else none) else if 8≤op∧op≤10 then(if B then some 2 else none)
 else if op=11∨op=12 then(if S then some 2 else none) else if 13≤op∧op≤16 then(if I then some 2 else none) else none
theorem isP_cases(K k e l:Int):(k=K∧e=0∧l=0∧isP K k e l=true)∨((k==K)=false∧isP K k e l=false)∨(k=K∧(e==0)=false∧isP K k e l=false)∨(k=K∧e=0∧(l==0)=false∧isP K k e l=false):=by
 by_cases hk:k=K
 · by_cases he:e=0
   · by_cases hl:l=0
     · exact .inl ⟨hk,he,hl,by simp [isP,hk,he,hl]⟩
     · exact .inr (.inr (.inr ⟨hk,he,by simpa using hl,by simp [isP,hl]⟩))
   · exact .inr (.inr (.inl ⟨hk,by simpa using he,by simp [isP,he]⟩))
 · exact .inr (.inl ⟨by simpa using hk,by simp [isP,hk]⟩)
theorem same_cases(k e l k' e' l':Int):(k=k'∧e=e'∧l=l'∧l=0∧sameB k e l k' e' l'=true)∨((k==k')=false∧sameB k e l k' e' l'=false)∨(k=k'∧(e==e')=false∧sameB k e l k' e' l'=false) ∨
 (k=k'∧e=e'∧(l==l')=false∧sameB k e l k' e' l'=false)∨(k=k'∧e=e'∧l=l'∧(l==0)=false∧sameB k e l k' e' l'=false):=by
 by_cases hk:k=k'
 · by_cases he:e=e'
   · by_cases hl:l=l'
     · by_cases h0:l=0
       · exact .inl ⟨hk,he,hl,h0,by simp [sameB,hk,he,← hl,h0]⟩
       · exact .inr (.inr (.inr (.inr ⟨hk,he,hl,by simpa using h0,by simp [sameB,h0]⟩)))
     · exact .inr (.inr (.inr (.inl ⟨hk,he,by simpa using hl,by simp [sameB,hl]⟩)))
   · exact .inr (.inr (.inl ⟨hk,by simpa using he,by simp [sameB,he]⟩))
 · exact .inr (.inl ⟨by simpa using hk,by simp [sameB,hk]⟩)
theorem bin_none{op:Int}{I B S:Bool}(hop:op<3∨16<op):binTyI op I B S=none:=by
 unfold binTyI
 repeat rw [if_neg (by omega)]
theorem bin_diff{op k e l k' e' l':Int}(h:sameB k e l k' e' l'=false):binTyI op (isP 1 k e l && isP 1 k' e' l') (isP 2 k e l && isP 2 k' e' l') (sameB k e l k' e' l')=none:=by
 have hI:∀ K,(isP K k e l && isP K k' e' l')=false:=fun K=>by
  rw [← h];unfold isP sameB at *
  by_cases h1:k=k' <;> by_cases h2:e=e' <;> by_cases h3:l=l' <;> by_cases h4:l=0 <;> simp_all
  all_goals omega
 rw [hI 1,hI 2,h];unfold binTyI
 simp
theorem fin{o o':Option Int}(h:o'=o):Ending.returned (.tuple #[tyR o,.bool o.isSome])=Ending.returned (.tuple #[tyR o',.bool o'.isSome]):=by rw [h]
theorem and_ff{x y:Bool}(h:x=false):false=(x && y):=by rw [h];rfl
theorem and_tt{x y:Bool}(h:x=true) (h':y=true):true=(x && y):=by rw [h,h'];rfl
theorem and_tf{x y:Bool}(h:x=true) (h':y=false):false=(x && y):=by rw [h,h'];rfl
theorem isP_one(e l:Int):isP 2 1 e l=false:=by simp [isP]
end
end Go.Proofs.YtegjgiofmpolnaaGreat
