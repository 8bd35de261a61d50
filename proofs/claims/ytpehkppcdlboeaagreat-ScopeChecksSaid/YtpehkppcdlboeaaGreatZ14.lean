/- Parts of the proof: PgB, PgC, PgD, TyL, TyZ. Conditions: each theorem's own. -/
import Derived.BigRegion
import Derived.Deep.Slices
import Derived.Deep.Fields
import Derived.ChangeSame
import Derived.SliceStrings
import Derived.Test.YtpehkppcdlboeaaGreatZ07
import Derived.Test.YtpehkppcdlboeaaGreatZ13
namespace Go.Proofs.YtpehkppcdlboeaaGreat
set_option linter.unusedVariables false
set_option linter.unusedSimpArgs false
set_option maxRecDepth 100000
set_option maxHeartbeats 40000000
section
open Go.RowKit
theorem names_succ{l:List Dc}{k:Nat}(hk:k<l.length):(namesD l).take (k+1)=(namesD l).take k++[(l[k]?.getD default).nm]:=by
 rw [namesD,List.take_add_one,List.getElem?_map,List.getElem?_eq_getElem hk]
 simp
theorem names_len(l:List Dc):(namesD l).length=l.length:=by simp [namesD]
def TextsPost(w:World) (n:Nat) (ss:List ByteArray) (e:Ending) (w':World):Prop:=∃ A c,e=.returned (.slice A n c)∧RdT w' A n ss∧Below w.heap.size w w'
theorem refNamesD(A:Option Addr) (n c:Nat) (l:List Dc) (w:World) (h:RdD w A n l) (hn:n≤1000):
 Calls Tryz.prog 36 #[.slice A n c] w (TextsPost w n (namesD l)):=by
 have hlen:=h.len;have hmx:=h.max;obtain⟨i0,hi,hz0,hz1,hz2⟩:=info_parts infoString;have hr3:=Hd (World.ownsRow_lit (base:=w.heap.size) (e:=9) (size:=1) w #[] 0 (Nat.le_refl _) (by decide) rfl);have HB0:=Hd ((Below.refl w.heap.size w).alloc (Nat.le_refl _) (.cells #[] 9));have HLN:=Hd hlen
 go_enter Tryz.func36,Tryz.ntmps36
 go_wp2_with fail
 go_loopw [3,4] (fun v i wr=>∃ k:Nat,k≤n∧i=.int .i64 k∧wr.ownsRow w.heap.size 9 1 v k (((namesD l).take k).map Value.string)∧Below w.heap.size w wr) (fun _ i _=>n-(intOf i).toNat)
 case atStart=>exact⟨0,Nat.zero_le _,rfl,hr3.out,HB0.out⟩
 case round=>
  obtain⟨k,hk,rfl,hrw3,hnx⟩:=hrel
  by_cases hlt:k<n
  · obtain⟨b,off,rfl,hb,hc⟩:=RdS.at_ h (by omega);obtain⟨hn0,-⟩:=(hc k hlt).six;have hn1:=(hnx.cell (p:=⟨b,off+k*6,none⟩) hb).trans hn0;have hNM:=Hd (names_succ (l:=l) (k:=k) (by omega));generalize (l[k]?.getD default).nm=x at hn1 hNM;have HNX:=Hd hnx;have H3:=Hd hrw3;have hwz:=hnx.size;clear hrw3 hr3 HB0 hn0 hc
    go_wp2_with (at_builtin;refine wpList_append_own_at _ rfl _ _ 38 rfl w.heap.size 9 i0 (.string ByteArray.empty) 1 16 Tryz.underlying38 hi hz0 hz1 hz2 rfl (by decide) _ _ _ rfl (H3.out.alloc _) ⟨wr.heap.size,0,none⟩ 1 1 [.string x] rfl rfl (cell_one_new _ _ _) (string_cells [x]) (by unfold maxLen;omega) (by omega) (by simp;omega) ?_;intro v' w1 hown' hgrow hnil hloc;have hB1:=(HNX.out.alloc hwz (.cells #[.string x] 9)).grown hgrow (by simp;omega) (fun j hj=>(H3.out.lt j hj).1);have HO:=Hd hown';have HB1:=Hd hB1;clear hgrow hown' hnil hloc hB1)
    go_roundw
    case rel=>
     refine⟨k+1,by omega,by go_num,?_,HB1.out⟩;rw [hNM.out,List.map_append];exact HO.out
    case measure=>simp [intOf];omega
  · obtain rfl:k=n:=by omega
    have hnm:(namesD l).take k=namesD l:=List.take_of_length_le (by rw [names_len];omega);rw [hnm] at hrw3;obtain⟨A1,c1,rfl,hR1,_⟩:=RdT.of_own hrw3 (by omega);have HR1:=Hd hR1;have HNX:=Hd hnx;clear hrw3 hR1 hr3 HB0 hnm hnx
    go_wp2_with fail
    go_ret
    exact⟨A1,c1,rfl,HR1.out,HNX.out⟩
theorem refPgArm(s:ByteArray) (w:World) (hs:s.size≤9223372036854775807):
 Calls Tryz.prog 89 #[.string s] w fun e w'=>e=.returned (.bool (armT s))∧w=w':=by
 have HH:=Hd (refHigh s w hs);have HE:=Hd (show armT s=(highB s.data.toList || (s.toList==[116,114,117,101]) || (s.toList==[102,97,108,115,101])) by rw [Lib.toList_data];rfl)
 cases h1:highB s.data.toList with
 | true=>
  rw [h1] at HH HE
  go_enter Tryz.func89,Tryz.ntmps89
  go_wp2_with fail
  refine HH.out.mono ?_;rintro e w1 ⟨rfl,rfl⟩
  go_wp2_with fail
  go_ret
  exact⟨ret_bool (by rw [HE.out];rfl),rfl⟩
 | false=>
  rw [h1] at HH HE
  cases h2:(s.toList==[116,114,117,101]) with
  | true=>
   rw [h2] at HE
   go_enter Tryz.func89,Tryz.ntmps89
   go_wp2_with fail
   refine HH.out.mono ?_;rintro e w1 ⟨rfl,rfl⟩
   go_wp2_with fail
   go_ret
   exact⟨ret_bool (by rw [HE.out];rfl),rfl⟩
  | false=>
   rw [h2] at HE
   cases h3:(s.toList==[102,97,108,115,101]) with
   | true=>
    rw [h3] at HE
    go_enter Tryz.func89,Tryz.ntmps89
    go_wp2_with fail
    refine HH.out.mono ?_;rintro e w1 ⟨rfl,rfl⟩
    go_wp2_with fail
    go_ret
    exact⟨ret_bool (by rw [HE.out];rfl),rfl⟩
   | false=>
    rw [h3] at HE
    go_enter Tryz.func89,Tryz.ntmps89
    go_wp2_with fail
    refine HH.out.mono ?_;rintro e w1 ⟨rfl,rfl⟩
    go_wp2_with fail
    go_ret
    exact⟨ret_bool (by rw [HE.out];rfl),rfl⟩
end
section
open Go.RowKit Go.Sort
def flD(l:List Dc):List Value:=l.flatMap dcL
theorem flD_len(l:List Dc):(flD l).length=l.length*6:=by
 induction l with
 | nil=>rfl
 | cons d l ih=>simp only [flD,List.flatMap_cons,List.length_append,List.length_cons] at ih ⊢;rw [ih];simp [dcL];omega
theorem flD_app(a b:List Dc):flD (a++b)=flD a++flD b:=by simp [flD]
theorem flD_at:∀ (l:List Dc) (i j:Nat),i<l.length→j<6→(flD l)[i*6+j]?=(dcL (l[i]?.getD default))[j]?
 | t::ts,0,j,_,hj=>by
  have hz:j<(dcL t).length:=by simpa [dcL] using hj
  simp only [flD,List.flatMap_cons,Nat.zero_mul,Nat.zero_add];rw [List.getElem?_append_left hz]
  simp
 | t::ts,i+1,j,hi,hj=>by
  have ih:=flD_at ts i j (by simpa using hi) hj;have hz:(dcL t).length=6:=by simp [dcL]
  simp only [flD,List.flatMap_cons];rw [List.getElem?_append_right (by rw [hz];omega),hz,show(i+1)*6+j-6=i*6+j by omega]
  simpa [flD] using ih
theorem flD_ones(l:List Dc):∀ u∈flD l,u.oneCell'=true:=by
 intro u hu;simp only [flD,List.mem_flatMap] at hu;obtain⟨t,_,hu⟩:=hu
 simp [dcL] at hu
 rcases hu with rfl | rfl | rfl | rfl | rfl | rfl <;> rfl
section
variable {w w':World}{A:Option Addr}{n:Nat}{l:List Dc}
theorem RdD.of_own{base:Nat}{e:TypeId}{v:Value}(h:w.ownsRow base e 6 v n (flD l)) (hm:n≤9223372036854775807):∃ A c,v=.slice A n c∧RdD w A n l:=by
 have hl:l.length=n:=by
  have:=h.1;rw [flD_len] at this;omega
 rcases h.2 with⟨rfl,rfl⟩|⟨g,cap,cur,rfl,hg,hh,hnc,hcm,hcs,ht⟩
 · obtain rfl:l=[]:=List.eq_nil_of_length_eq_zero hl;exact⟨none,0,rfl,RdS.nil_ _ _ _⟩
 · refine⟨_,cap,rfl,hl,hm,fun hn=>⟨g,0,rfl,(Array.getElem?_eq_some_iff.1 hh).1,fun i hi=>?_⟩⟩;intro j v hv
   have hj:j<6:=by
    rcases Nat.lt_or_ge j 6 with h | h
    · exact h
    · rw [List.getElem?_eq_none (by simpa [dcL] using h)] at hv;cases hv
   rw [Nat.zero_add,h.cellAt (i*6+j) (by omega),flD_at l i j (by omega) hj,hv]
theorem RdD.news(h:RdD w A n l):(A=none→n=0)∧∀ ad,A=some ad→∀ j u,(flD l)[j]?=some u→w.cell? (ad.add j)=some u:=by
 constructor
 · rintro rfl;rcases Nat.eq_zero_or_pos n with h0 | h0
   · exact h0
   · obtain⟨b,off,e,_⟩:=RdS.at_ h h0;cases e
 · rintro ad rfl j u hu
   have hj:j<l.length*6:=by
    rcases Nat.lt_or_ge j (l.length*6) with h1 | h1
    · exact h1
    · rw [List.getElem?_eq_none (by rw [flD_len];exact h1)] at hu;cases hu
   have hlen:=RdS.len h;obtain⟨b,off,e,hb,hc⟩:=RdS.at_ h (by omega);injection e with e;subst e;have h6:j / 6*6+j % 6=j:=by omega
   have h7:j % 6<6:=by omega
   have h1:=hc (j / 6) (by omega);rw [add_addr];have h2:=flD_at l (j / 6) (j % 6) (by omega) h7;rw [h6,hu] at h2;have h3:=h1 (j % 6) u h2.symm;rwa [show off+j / 6*6+j % 6=off+j by omega] at h3
end
theorem infoDecl:(Tryz.prog.info? 48).map (fun i=>(i.size,i.bytes,i.zero.map fun z=>z.cells.size))=some (6,72,some 6):=by kernel_rfl
theorem info_three{P:Program}{t:TypeId}{a b c:Nat}(h:(P.info? t).map (fun i=>(i.size,i.bytes,i.zero.map fun z=>z.cells.size))=some (a,b,some c)):∃ i z,P.info? t=some i∧i.zero=some z∧i.size=a∧i.bytes=b∧z.cells.size=c:=by
 obtain⟨i,h1,h2⟩:=Option.map_eq_some_iff.1 h;simp only [Prod.mk.injEq,Option.map_eq_some_iff] at h2;obtain⟨h3,h4,z,h5,h6⟩:=h2;exact⟨i,z,h1,h5,h3,h4,h6⟩
theorem nd_facts(w:World) (x:Nd) (A1:Option Addr) (c1:Nat) (A2:Option Addr) (c2:Nat) (A3:Option Addr) (c3:Nat) (A4:Option Addr) (c4:Nat) (w1:World) (h:w.alloc (.cells (ndA x A1 c1 A2 c2 A3 c3 A4 c4) 36)=w1) (hr:rdN w x A1 A2 A3 A4):
 Below w.heap.size w w1∧w1.heap.size=w.heap.size+1∧rdN w1 x A1 A2 A3 A4∧∀ w',Below w1.heap.size w1 w'→∀ j,w'.cell? ⟨w.heap.size,j,none⟩=(ndA x A1 c1 A2 c2 A3 c3 A4 c4)[j]?:=by
 subst h;refine⟨(Below.refl _ _).alloc (Nat.le_refl _) _,by simp,hr.below ((Below.refl _ _).alloc (Nat.le_refl _) _),fun w' hb j=>?_⟩;rw [hb.cell (p:=⟨w.heap.size,j,none⟩) (by simp),World.cell?_alloc_new]
def DeclsPost(w:World) (n:Nat) (l:List Dc) (e:Ending) (w':World):Prop:=∃ A c,e=.returned (.slice A n c)∧RdD w' A n l∧Below w.heap.size w w'
theorem refAllD(x:Nd) (A1:Option Addr) (c1:Nat) (A2:Option Addr) (c2:Nat) (A3:Option Addr) (c3:Nat) (A4:Option Addr) (c4:Nat) (w:World) (h:rdN w x A1 A2 A3 A4) (hn:x.all.length≤1000):
 Calls Tryz.prog 37 #[.agg (ndA x A1 c1 A2 c2 A3 c3 A4 c4)] w (DeclsPost w x.all.length x.all):=by
 have hlen:=all_len x;have HXA:=Hd (show flD x.all=flD x.ins++flD x.outs++flD x.vars by rw [Nd.all,flD_app,flD_app]);have HL1:=Hd (flD_len x.ins);have HL2:=Hd (flD_len x.outs);have HL3:=Hd (flD_len x.vars);have HO1:=Hd (flD_ones x.ins);have HO2:=Hd (flD_ones x.outs);have HO3:=Hd (flD_ones x.vars);obtain⟨i0,z0,hi,hz1,hz0,hz2,hz3⟩:=info_three infoDecl;obtain⟨h1,h2,h3,h4⟩:=h;have HF:=Hd fun w1 (hw:w.alloc (.cells (ndA x A1 c1 A2 c2 A3 c3 A4 c4) 36)=w1)=>nd_facts w x A1 c1 A2 c2 A3 c3 A4 c4 w1 hw ⟨h1,h2,h3,h4⟩;unfold ndA
 go_enter Tryz.func37,Tryz.ntmps37
 go_upto_region 1 with(fail)
 generalize hw1:w.alloc _=w1;obtain⟨hb1,hg,⟨r1,r2,r3,-⟩,hcell⟩:=HF.out w1 hw1;obtain⟨-,q1,q2,q3,-,-⟩:=Sx (hcell w1 (Below.refl _ _));simp only [ndA,List.getElem?_toArray,List.getElem?_cons_zero,List.getElem?_cons_succ] at q1 q2 q3;have HB1:=Hd hb1;obtain⟨n1',n1s⟩:=r1.news;obtain⟨n2',n2s⟩:=r2.news;obtain⟨n3',n3s⟩:=r3.news;have HR1:=Hd r1.news;have HR2:=Hd r2.news;have HR3:=Hd r3.news;clear hw1 hcell hb1 h1 h2 h3 h4 r1 r2 r3 n1' n1s n2' n2s n3' n3s HF;generalize x.ins.length=n1 at *;generalize x.outs.length=n2 at *;generalize x.vars.length=n3 at *;generalize flD x.ins=f1 at *;generalize flD x.outs=f2 at *;generalize flD x.vars=f3 at *;have hr0:=World.ownsRow_lit (base:=w1.heap.size) (e:=48) (size:=6) w1 #[] 0 (by simp) (by decide) rfl;rw [hg] at hr0;have HO0:=Hd (show(w1.alloc (.cells #[] 48)).drew.ownsRow (w.heap.size+1) 48 6 (.slice (some ⟨w.heap.size+1,0,none⟩) 0 0) 0 [] from hr0);clear hr0;refine wp_region_held_drew (S:=fun W=>W.cell? ⟨w.heap.size,1,none⟩=some (.slice A1 n1 c1)∧W.cell? ⟨w.heap.size,2,none⟩=some (.slice A2 n2 c2)∧W.cell? ⟨w.heap.size,3,none⟩=some (.slice A3 n3 c3)) (by kernel_rfl) ?_ (fun hHeld=>?_)
 · exact⟨q1,q2,q3⟩
 refine wpAnyH_take (i:=1) (oi:=?oi1) (v:=.pointer (some ⟨w.heap.size,1,none⟩)) ?h1x1 (by kernel_rfl) ?h3x1 (by kernel_rfl) ?h5x1 (Or.inl ⟨?h6x1,?h7x1⟩) hHeld ?h8x1
 case h1x1=>
  simp only [Ya,Yb,Yc];rfl
 case h3x1=>kernel_rfl
 case h5x1=>exact fun _ _ _ h=>h
 case h6x1=>rfl
 case h7x1=>
  intro W hSW
  (try dsimp only at hSW)
  go_split_ands
  first | (go_simp;done) | (go_simp;with_reducible rfl)
 (try simp only [Act.put,Yd,Ye,Yf])
 refine wpAnyH_take (i:=2) (oi:=?oi2) (v:=.slice A1 n1 c1) ?h1x2 (by kernel_rfl) ?h3x2 (by kernel_rfl) ?h5x2 (Or.inl ⟨?h6x2,?h7x2⟩) hHeld ?h8x2
 case h1x2=>
  simp only [Ya,Yb,Yc];rfl
 case h3x2=>kernel_rfl
 case h5x2=>exact fun _ _ _ h=>h
 case h6x2=>rfl
 case h7x2=>
  intro W hSW
  (try dsimp only at hSW)
  go_split_ands
  first | (go_simp;done) | (go_simp;with_reducible rfl)
 (try simp only [Act.put,Yd,Ye,Yf])
 refine wpAnyH_take (i:=4) (oi:=?oi3) (v:=.pointer (some ⟨w.heap.size,2,none⟩)) ?h1x3 (by kernel_rfl) ?h3x3 (by kernel_rfl) ?h5x3 (Or.inl ⟨?h6x3,?h7x3⟩) hHeld ?h8x3
 case h1x3=>
  simp only [Ya,Yb,Yc];rfl
 case h3x3=>kernel_rfl
 case h5x3=>exact fun _ _ _ h=>h
 case h6x3=>rfl
 case h7x3=>
  intro W hSW
  (try dsimp only at hSW)
  go_split_ands
  first | (go_simp;done) | (go_simp;with_reducible rfl)
 (try simp only [Act.put,Yd,Ye,Yf])
 refine wpAnyH_take (i:=5) (oi:=?oi4) (v:=.slice A2 n2 c2) ?h1x4 (by kernel_rfl) ?h3x4 (by kernel_rfl) ?h5x4 (Or.inl ⟨?h6x4,?h7x4⟩) hHeld ?h8x4
 case h1x4=>
  simp only [Ya,Yb,Yc];rfl
 case h3x4=>kernel_rfl
 case h5x4=>exact fun _ _ _ h=>h
 case h6x4=>rfl
 case h7x4=>
  intro W hSW
  (try dsimp only at hSW)
  go_split_ands
  first | (go_simp;done) | (go_simp;with_reducible rfl)
 (try simp only [Act.put,Yd,Ye,Yf])
 refine wpAnyH_take (i:=7) (oi:=?oi5) (v:=.pointer (some ⟨w.heap.size,3,none⟩)) ?h1x5 (by kernel_rfl) ?h3x5 (by kernel_rfl) ?h5x5 (Or.inl ⟨?h6x5,?h7x5⟩) hHeld ?h8x5
 case h1x5=>
  simp only [Ya,Yb,Yc];rfl
 case h3x5=>kernel_rfl
 case h5x5=>exact fun _ _ _ h=>h
 case h6x5=>rfl
 case h7x5=>
  intro W hSW
  (try dsimp only at hSW)
  go_split_ands
  first | (go_simp;done) | (go_simp;with_reducible rfl)
 (try simp only [Act.put,Yd,Ye,Yf])
 refine wpAnyH_take (i:=8) (oi:=?oi6) (v:=.slice A3 n3 c3) ?h1x6 (by kernel_rfl) ?h3x6 (by kernel_rfl) ?h5x6 (Or.inl ⟨?h6x6,?h7x6⟩) hHeld ?h8x6
 case h1x6=>
  simp only [Ya,Yb,Yc];rfl
 case h3x6=>kernel_rfl
 case h5x6=>exact fun _ _ _ h=>h
 case h6x6=>rfl
 case h7x6=>
  intro W hSW
  (try dsimp only at hSW)
  go_split_ands
  first | (go_simp;done) | (go_simp;with_reducible rfl)
 (try simp only [Act.put,Yd,Ye,Yf])
 have hbl0:Below w1.heap.size w1 (w1.alloc (.cells #[] 48)).drew:=((Below.refl w1.heap.size w1).alloc (Nat.le_refl _) _).drew;have HBL0:=Hd hbl0;have a0:=(hbl0.cell (p:=⟨w.heap.size,1,none⟩) (by show w.heap.size<_;omega)).trans q1;have b0:=(hbl0.cell (p:=⟨w.heap.size,2,none⟩) (by show w.heap.size<_;omega)).trans q2;have e0:=(hbl0.cell (p:=⟨w.heap.size,3,none⟩) (by show w.heap.size<_;omega)).trans q3;clear hbl0;refine wpAnyH_ready (rs:=[0]) (by kernel_rfl) (by simp) ?_;refine AllReadyH.cons (by rfl) (fun K hK=>?_) ?_
 · go_simp
   refine hK.out _ _ ?_ (fun hHeld=>?_)
   · exact⟨a0,b0,e0⟩
   clear hK K
   (try simp only [Act.put,Yd,Ye,Yf])
   refine wpAnyH_ready (rs:=[3]) (by kernel_rfl) (by simp) ?_;refine AllReadyH.cons (by rfl) (fun K hK=>?_) ?_
   · refine step_append_any (by rfl) _ _ _ (by rfl) (w.heap.size+1) 48 i0 z0 6 72 Tryz.underlying33 hi hz1 hz0 hz2 hz3 (by decide) (.slice (some ⟨w.heap.size+1,0,none⟩) 0 0) 0 [] (by rfl) HO0.out A1 n1 c1 f1 (by rfl) (by rw [HL1.out]) HR1.out.1 (fun ad e j u hu=>by have h:=HR1.out.2 ad e j u hu;exact(HBL0.out.cell (World.block_lt_of_cell? _ _ h)).trans h) HO1.out (by unfold maxLen;omega) (by omega) (by have:=HBL0.out.size;omega) ?_;intro B1 d1 v1 hown1 hgr1 hat1;have HW1:=Hd hown1;have hbl1:Below w1.heap.size w1 v1:=HBL0.out.grown hgr1 (by have:=HBL0.out.size;omega) (fun j hj=>by rw [hg];exact(HO0.out.lt j hj).1);have HBL1:=Hd hbl1;have a1:=(hbl1.cell (p:=⟨w.heap.size,1,none⟩) (by show w.heap.size<_;omega)).trans q1;have b1:=(hbl1.cell (p:=⟨w.heap.size,2,none⟩) (by show w.heap.size<_;omega)).trans q2;have e1:=(hbl1.cell (p:=⟨w.heap.size,3,none⟩) (by show w.heap.size<_;omega)).trans q3;clear hown1 hgr1 hat1 hbl1;refine hK.out _ _ ?_ (fun hHeld=>?_)
     · exact⟨a1,b1,e1⟩
     clear hK K
     (try simp only [Act.put,Yd,Ye,Yf])
     refine wpAnyH_ready (rs:=[6]) (by kernel_rfl) (by simp) ?_;refine AllReadyH.cons (by rfl) (fun K hK=>?_) ?_
     · refine step_append_any (by rfl) _ _ _ (by rfl) (w.heap.size+1) 48 i0 z0 6 72 Tryz.underlying33 hi hz1 hz0 hz2 hz3 (by decide) (.slice B1 (0+n1) d1) (0+n1) ([]++f1) (by rfl) HW1.out A2 n2 c2 f2 (by rfl) (by rw [HL2.out]) HR2.out.1 (fun ad e j u hu=>by have h:=HR2.out.2 ad e j u hu;exact(HBL1.out.cell (World.block_lt_of_cell? _ _ h)).trans h) HO2.out (by unfold maxLen;omega) (by omega) (by have:=HBL1.out.size;omega) ?_;intro B2 d2 v2 hown2 hgr2 hat2;have HW2:=Hd hown2;have hbl2:Below w1.heap.size w1 v2:=HBL1.out.grown hgr2 (by have:=HBL1.out.size;omega) (fun j hj=>by rw [hg];exact(HW1.out.lt j hj).1);have HBL2:=Hd hbl2;have a2:=(hbl2.cell (p:=⟨w.heap.size,1,none⟩) (by show w.heap.size<_;omega)).trans q1;have b2:=(hbl2.cell (p:=⟨w.heap.size,2,none⟩) (by show w.heap.size<_;omega)).trans q2;have e2:=(hbl2.cell (p:=⟨w.heap.size,3,none⟩) (by show w.heap.size<_;omega)).trans q3;clear hown2 hgr2 hat2 hbl2;refine hK.out _ _ ?_ (fun hHeld=>?_)
       · exact⟨a2,b2,e2⟩
       clear hK K
       (try simp only [Act.put,Yd,Ye,Yf])
       refine wpAnyH_ready (rs:=[9]) (by kernel_rfl) (by simp) ?_;refine AllReadyH.cons (by rfl) (fun K hK=>?_) ?_
       · refine step_append_any (by rfl) _ _ _ (by rfl) (w.heap.size+1) 48 i0 z0 6 72 Tryz.underlying33 hi hz1 hz0 hz2 hz3 (by decide) (.slice B2 (0+n1+n2) d2) (0+n1+n2) ([]++f1++f2) (by rfl) HW2.out A3 n3 c3 f3 (by rfl) (by rw [HL3.out]) HR3.out.1 (fun ad e j u hu=>by have h:=HR3.out.2 ad e j u hu;exact(HBL2.out.cell (World.block_lt_of_cell? _ _ h)).trans h) HO3.out (by unfold maxLen;omega) (by omega) (by have:=HBL2.out.size;omega) ?_;intro B3 d3 v3 hown3 hgr3 hat3;have HW3:=Hd hown3;have hbl3:Below w1.heap.size w1 v3:=HBL2.out.grown hgr3 (by have:=HBL2.out.size;omega) (fun j hj=>by rw [hg];exact(HW2.out.lt j hj).1);have HBL3:=Hd hbl3;have a3:=(hbl3.cell (p:=⟨w.heap.size,1,none⟩) (by show w.heap.size<_;omega)).trans q1;have b3:=(hbl3.cell (p:=⟨w.heap.size,2,none⟩) (by show w.heap.size<_;omega)).trans q2;have e3:=(hbl3.cell (p:=⟨w.heap.size,3,none⟩) (by show w.heap.size<_;omega)).trans q3;clear hown3 hgr3 hat3 hbl3;refine hK.out _ _ ?_ (fun hHeld=>?_)
         · exact⟨a3,b3,e3⟩
         clear hK K
         (try simp only [Act.put,Yd,Ye,Yf])
         refine wpAnyH_ready (rs:=[10]) (by kernel_rfl) (by simp) ?_;refine AllReadyH.cons (by rfl) (fun K hK=>?_) ?_
         · go_simp
           refine hK.out _ _ ?_ (fun hHeld=>?_)
           · exact⟨a3,b3,e3⟩
           clear hK K
           (try simp only [Act.put,Yd,Ye,Yf])
           refine wpAnyH_done (by kernel_rfl) ?_ _
           go_wp2_with fail
           go_ret
           have hw:=HW3.out;rw [List.nil_append,← HXA.out,Nat.zero_add,← hlen] at hw;obtain⟨A,c,e,hR⟩:=RdD.of_own hw (by omega);refine⟨A,c,?_,hR,HB1.out.trans (HBL3.out.mono (by omega))⟩;rw [← e,hlen];rfl
         exact AllReadyH.nil
       exact AllReadyH.nil
     exact AllReadyH.nil
   exact AllReadyH.nil
 exact AllReadyH.nil
end
section
open Go.RowKit
def OkD(d:Dc):Prop:=d.nm.size≤maxLen∧d.on.size≤maxLen∧d.ct.size≤maxLen
theorem dc_facts(w:World) (d:Dc) (w1:World) (h:w.alloc (.cells (dcA d) 48)=w1):
 Below w.heap.size w w1∧w1.heap.size=w.heap.size+1∧∀ w',Below w1.heap.size w1 w'→∀ j,w'.cell? ⟨w.heap.size,j,none⟩=(dcA d)[j]?:=by
 subst h;refine⟨(Below.refl _ _).alloc (Nat.le_refl _) _,by simp,fun w' hb j=>?_⟩;rw [hb.cell (p:=⟨w.heap.size,j,none⟩) (by simp),World.cell?_alloc_new]
theorem below_next{w w1 w2:World}(h:Below w.heap.size w w1) (hb:Below w1.heap.size w1 w2):Below w.heap.size w w2:=h.trans (hb.mono h.size)
theorem refDecl(A:Option Addr) (n c:Nat) (d:Dc) (w:World) (hn:n≤9223372036854775807) (hok:OkD d):
 Calls Tryz.prog 67 #[.slice A n c,.agg (dcA d)] w fun e w'=>e=.returned (.bool (declB n rightB d))∧Below w.heap.size w w':=by
 obtain⟨hs0,hs4,hs5⟩:=hok;unfold maxLen at hs0 hs4 hs5;have HF:=Hd fun w1 h=>dc_facts w d w1 h;have HE:=Hd (show declB n rightB d=(lowB d.nm.data.toList && rightB n d.k d.e d.l && (((d.on.toList==[]) && (d.ct.toList==[])) || (lowB d.on.data.toList && armT d.ct))) by simp only [Lib.toList_data];rfl);have HL0:=Hd fun w1=>refLow d.nm w1 (by omega);have HL4:=Hd fun w1=>refLow d.on w1 (by omega);have HA5:=Hd fun w1=>refPgArm d.ct w1 (by omega);have HTR:=Hd fun w1=>refTyRight A n c d.k d.e d.l w1 hn;unfold tyV at HTR
 have HON:=Hd (show(d.on.toList==[])=true→lowB d.on.data.toList=false by
  intro h;rw [Lib.toList_data] at h;rw [eq_of_beq h];rfl)
 unfold dcA;generalize declB n rightB d=out at *
 go_enter Tryz.func67,Tryz.ntmps67
 go_upto_region 1 with(fail)
 generalize hw1:w.alloc _=w1;obtain⟨hb1,hg,hcell⟩:=HF.out w1 hw1;have HB1:=Hd hb1;have HC:=Hd hcell;have q0:=hcell w1 (Below.refl _ _) 0;simp only [dcA,List.getElem?_toArray,List.getElem?_cons_zero,List.getElem?_cons_succ] at q0 HC;clear hw1 hcell hb1 HF;generalize d.nm=x0 at *;generalize d.on=x4 at *;generalize d.ct=x5 at *;generalize d.k=tk at *;generalize d.e=te at *;generalize d.l=tl at *
 cases h0:lowB x0.data.toList with
 | false=>
  rw [h0] at HE
  go_wp2_with fail
  refine(HL0.out w1).mono ?_;rw [h0];rintro e w2 ⟨rfl,hb⟩;have HW2:=Hd hb;have HB2:=Hd (below_next HB1.out hb);clear hb
  go_wp2_with fail
  go_ret
  exact⟨ret_bool (by rw [HE.out];rfl),HB2.out⟩
 | true=>
  rw [h0] at HE
  go_wp2_with fail
  refine(HL0.out w1).mono ?_;rw [h0];rintro e w2 ⟨rfl,hb⟩;have HW2:=Hd hb;have HB2:=Hd (below_next HB1.out hb);clear hb;clear q0;obtain⟨-,q1,q2,q3,-,-⟩:=Sx (HC.out w2 HW2.out);simp only [Ya,Yb,Yc] at q1 q2 q3
  cases h1:rightB n tk te tl with
  | false=>
   rw [h1] at HE
   go_wp2_with fail
   refine(HTR.out w2).mono ?_;rw [h1];rintro e w3 ⟨rfl,hb⟩;have HW3:=Hd (below_next HW2.out hb);have HB3:=Hd (below_next HB2.out hb);clear hb
   go_wp2_with fail
   go_ret
   exact⟨ret_bool (by rw [HE.out];rfl),HB3.out⟩
  | true=>
   rw [h1] at HE
   go_wp2_with fail
   refine(HTR.out w2).mono ?_;rw [h1];rintro e w3 ⟨rfl,hb⟩;have HW3:=Hd (below_next HW2.out hb);have HB3:=Hd (below_next HB2.out hb);clear hb;have q4:=HC.out w3 HW3.out 4;have q5:=HC.out w3 HW3.out 5;simp only [Ya,Yb,Yc] at q4 q5
   cases h3:(x4.toList==[]) with
   | true=>
    have h4:=HON.out h3;rw [h3,h4] at HE
    cases h6:(x5.toList==[]) with
    | true=>
     rw [h6] at HE
     go_wp2_with fail
     go_ret
     exact⟨ret_bool (by rw [HE.out];rfl),HB3.out⟩
    | false=>
     rw [h6] at HE
     go_wp2_with fail
     refine(HL4.out w3).mono ?_;rw [h4];rintro e w4 ⟨rfl,hb⟩;have HW4:=Hd (below_next HW3.out hb);have HB4:=Hd (below_next HB3.out hb);clear hb;clear q4 q5;have q4:=HC.out w4 HW4.out 4;have q5:=HC.out w4 HW4.out 5;simp only [Ya,Yb,Yc] at q4 q5
     go_wp2_with fail
     go_ret
     exact⟨ret_bool (by rw [HE.out];rfl),HB4.out⟩
   | false=>
    rw [h3] at HE
    cases h4:lowB x4.data.toList with
    | false=>
     rw [h4] at HE
     go_wp2_with fail
     refine(HL4.out w3).mono ?_;rw [h4];rintro e w4 ⟨rfl,hb⟩;have HW4:=Hd (below_next HW3.out hb);have HB4:=Hd (below_next HB3.out hb);clear hb;clear q4 q5;have q4:=HC.out w4 HW4.out 4;have q5:=HC.out w4 HW4.out 5;simp only [Ya,Yb,Yc] at q4 q5
     go_wp2_with fail
     go_ret
     exact⟨ret_bool (by rw [HE.out];rfl),HB4.out⟩
    | true=>
     rw [h4] at HE
     go_wp2_with fail
     refine(HL4.out w3).mono ?_;rw [h4];rintro e w4 ⟨rfl,hb⟩;have HW4:=Hd (below_next HW3.out hb);have HB4:=Hd (below_next HB3.out hb);clear hb;clear q4 q5;have q4:=HC.out w4 HW4.out 4;have q5:=HC.out w4 HW4.out 5;simp only [Ya,Yb,Yc] at q4 q5
     cases h5:armT x5 with
     | true=>
      rw [h5] at HE
      go_wp2_with fail
      refine(HA5.out w4).mono ?_;rw [h5];rintro e w5 ⟨rfl,rfl⟩
      go_wp2_with fail
      go_ret
      exact⟨ret_bool (by rw [HE.out];rfl),HB4.out⟩
     | false=>
      rw [h5] at HE
      go_wp2_with fail
      refine(HA5.out w4).mono ?_;rw [h5];rintro e w5 ⟨rfl,rfl⟩
      go_wp2_with fail
      go_ret
      exact⟨ret_bool (by rw [HE.out];rfl),HB4.out⟩
end
section
open Go.RowKit
def tinyTo(es:List En) (k:Nat):Prop:=∀ j,j<k→(csE es j).length≤12∧(nmE es j).size≤100∧∀ q,q<(csE es j).length→(ctAt es j q).size≤100
def EsTiny(es:List En):Prop:=es.length≤8∧tinyTo es es.length
theorem EsTiny.few{es:List En}(h:EsTiny es):EsFew es:=⟨h.1,fun j hj=>(h.2 j hj).1⟩
theorem EsTiny.ok{es:List En}(h:EsTiny es):EsOk es:=fun j hj=>by
 have h1:=h.2 j hj;unfold maxLen;refine⟨by omega,fun s hs=>?_⟩;obtain⟨q,hq,rfl⟩:=List.getElem_of_mem hs;have:=h1.2.2 q hq;unfold ctAt at this;rw [List.getElem?_eq_getElem hq,Option.getD_some] at this;omega
theorem tinyTo_succ{es:List En}{k:Nat}(H:tinyTo es k) (h1:(csE es k).length≤12) (h2:(nmE es k).size≤100) (h3:∀ q,q<(csE es k).length→(ctAt es k q).size≤100):tinyTo es (k+1):=fun j hj=>by
 rcases Nat.lt_or_ge j k with h | h
 · exact H j h
 · obtain rfl:j=k:=by omega
   exact⟨h1,h2,h3⟩
def SmallPost(es:List En) (w:World) (e:Ending) (w':World):Prop:=∃ b,e=.returned (.bool b)∧(b=true→EsTiny es)∧w=w'
theorem small_no(es:List En) (w:World):SmallPost es w (.returned (.bool false)) w:=⟨false,rfl,fun h=>(by cases h),rfl⟩
theorem small_yes{es:List En}(h:EsTiny es) (w:World):SmallPost es w (.returned (.bool true)) w:=⟨true,rfl,fun _=>h,rfl⟩
theorem refEnSmall(A:Option Addr) (len cap:Nat) (es:List En) (w:World) (hE:RdE w A len es):
 Calls Tryz.prog 8 #[.slice A len cap] w (SmallPost es w):=by
 have hlen:=hE.len;have hmx:=hE.max
 by_cases h8:8<len
 · go_enter Tryz.func8,Tryz.ntmps8
   go_wp2_with fail
   go_ret
   exact small_no es w
 · have hd8:decide ((8:Int)<(len:Int))=false:=decide_eq_false (by omega)
   go_enter Tryz.func8,Tryz.ntmps8
   go_wp2_with fail
   go_loop [3] (fun i=>∃ k:Nat,k≤len∧i=.int .i64 k∧tinyTo es k) (fun i=>len-(intOf i).toNat)
   case atStart=>exact⟨0,Nat.zero_le _,rfl,fun j hj=>absurd hj (by omega)⟩
   case round=>
    obtain⟨k,hk,rfl,hto⟩:=hrel;have HT:=Hd hto;clear hto
    by_cases hlt:k<len
    · obtain⟨b,off,rfl,hb,hc⟩:=hE.at_ hlt;obtain⟨hn0,A',n',c',hs0,hR0⟩:=hc k hlt;have hkl:k<es.length:=by omega
      have hcl:=hR0.len;have hcm:=hR0.max;clear hc
      by_cases h12:12<n'
      · go_wp2_with fail
        go_ret
        exact small_no es w
      · have HS:=Hd fun h2 h3=>tinyTo_succ HT.out (show(csE es k).length≤12 by omega) h2 h3;have hd12:decide ((12:Int)<(n':Int))=false:=decide_eq_false (by omega);generalize nmE es k=x at hn0 HS
        by_cases h100:100<x.size
        · go_wp2_with fail
          go_ret
          exact small_no es w
        · have HS:=Hd fun h3=>HS.out (by omega) h3;have hd100:decide ((100:Int)<(x.size:Int))=false:=decide_eq_false (by omega)
          go_wp2_with fail
          go_loop [4] (fun i=>∃ m:Nat,m≤n'∧i=.int .i64 m∧∀ q,q<m→(ctAt es k q).size≤100) (fun i=>n' - (intOf i).toNat)
          case atStart=>exact⟨0,Nat.zero_le _,rfl,fun j hj=>absurd hj (by omega)⟩
          case round=>
           obtain⟨m,hm,rfl,hto⟩:=hrel;have HT2:=Hd hto;clear hto
           by_cases hltm:m<n'
           · obtain⟨b2,off2,rfl,hb2,hc2⟩:=hR0.at_ hltm;have hcm2:=hc2 m hltm;clear hc2;rw [show(csE es k)[m]?.getD ByteArray.empty=ctAt es k m from rfl] at hcm2
             have HN:=Hd (show(ctAt es k m).size≤100→∀ q,q<m+1→(ctAt es k q).size≤100 from fun h q hq=>by
              rcases Nat.lt_or_ge q m with h1 | h1
              · exact HT2.out q h1
              · obtain rfl:q=m:=by omega
                exact h)
             generalize ctAt es k m=y at hcm2 HN
             by_cases hy:100<y.size
             · go_wp2_with fail
               go_ret
               exact small_no es w
             · have HN:=Hd (HN.out (by omega))
               go_wp2_with fail
               go_round
               case rel=>exact⟨m+1,by omega,by go_num,HN.out⟩
               case measure=>simp [intOf];omega
           · have HS:=Hd (HS.out fun q hq=>HT2.out q (by omega))
             go_wp2_with fail
             go_round
             case rel=>exact⟨k+1,by omega,by go_num,HS.out⟩
             case measure=>simp [intOf];omega
    · have hkl:k=es.length:=by omega
      have hno:=HT.out;rw [hkl] at hno;have HY:=Hd (show EsTiny es from⟨by omega,hno⟩)
      go_wp2_with fail
      go_ret
      exact small_yes HY.out w
end
section
set_option maxRecDepth 100000
open Go.RowKit Go.ChangeShapes Go.WideShapes Go.Deep
theorem cells_en:Tryz.prog.cellsOf 62=2:=by kernel_rfl
theorem cells_ty:Tryz.prog.cellsOf 46=3:=by kernel_rfl
theorem cells_iT:Tryz.prog.cellsOf 3=1:=by kernel_rfl
theorem cells_sT:Tryz.prog.cellsOf 9=1:=by kernel_rfl
theorem cells_ssT:Tryz.prog.cellsOf 38=1:=by kernel_rfl
section
variable {H:Type}{enc:TypeId × Value→H}{w:World}{base:Nat}{spare:Nat→Bool}{held:Bool}
theorem strs_open{fuel:Nat}{v:Value}{x:DataW H × List MemPlace}(h:DataW.trod enc Tryz.prog w base spare held fuel 38 [v]=some x):∃ A n c ss,v=.slice A n c∧RdT w A n ss:=by
 rcases Go.ChangeShapes.open_strings Tryz.underlying38 Tryz.underlying9 (by kernel_rfl) h with⟨hcs,_⟩|⟨x,l,c,ss,hcs,_,hl,hm,hss,_,hcell,hz⟩
 · simp at hcs
   subst hcs;exact⟨none,0,0,[],rfl,RdT.nil_ _⟩
 · simp at hcs
   subst hcs;have hle:l≤ss.length:=by rw [hss];split <;> omega
   exact⟨some x,l,c,ss.take l,rfl,rdT_arg hle (by unfold maxLen at hm;omega) hcell⟩
theorem en_open{fuel:Nat}{cs:List Value}{x:DataW H × List MemPlace}(h:DataW.trod enc Tryz.prog w base spare held fuel 62 cs=some x) (hl:cs.length=2):
 ∃ e:En,∃ A n c,cs=[.string e.1,.slice A n c]∧RdT w A n e.2:=by
 obtain⟨ys,m,_,_,_,hy,hf⟩:=DataW.trod_struct Tryz.underlying62 h
 match cs,hl with
 | [v0,v1],_=>
  match ys,hy with
  | [y0,y1],_=>
   have t0:=hf 0 _ rfl;have t1:=hf 1 _ rfl
   simp [cells_sT,cells_ssT] at t0 t1
   obtain⟨s,e0,_,_⟩:=DataW.trod_string Tryz.underlying9 t0;obtain⟨A,n,c,ss,rfl,hr⟩:=strs_open t1;injection e0 with e0;subst e0;exact⟨(s,ss),A,n,c,rfl,hr⟩
theorem enums_open{fuel:Nat}{A:Option Addr}{n c:Nat}{x:DataW H × List MemPlace}(h:DataW.trod enc Tryz.prog w base spare held fuel 22 [.slice A n c]=some x):∃ es,RdE w A n es:=by
 rcases open_slice Tryz.underlying22 h with⟨hcs,_⟩|⟨a,len,cap,m,nn,D,Pl,hcs,_,hl,hm,hmm,_,hi⟩
 · simp at hcs
   obtain⟨rfl,rfl,rfl⟩:=hcs;exact⟨[],RdE.nil_ _⟩
 · simp at hcs
   obtain⟨rfl,rfl,rfl⟩:=hcs;have hnm:n≤m:=by rw [hmm];split <;> omega
   have hone:∀ i,i<n→∃ e:En,w.cell? (a.add (i*2))=some (.string e.1)∧∃ A' n' c',w.cell? (a.add (i*2+1))=some (.slice A' n' c')∧RdT w A' n' e.2:=by
    intro i him;obtain⟨cs',hc,ht⟩:=hi i (by omega);rw [cells_en] at hc;obtain⟨_,hcl,hat⟩:=World.cells?_some hc;obtain⟨e,A',n',c',e1,hp⟩:=en_open ht hcl;have h0:=hat (i:=0) (by omega);have h1:=hat (i:=1) (by omega);rw [e1] at h0 h1;rw [Go.Deep.add_add] at h0 h1;exact⟨e,by simpa using h0,A',n',c',by simpa using h1,hp⟩
   obtain⟨f,hf⟩:=choose_lt (α:=En) hone;have hget:∀ i,i<n→((List.range n).map f)[i]?.getD (ByteArray.empty,[])=f i:=fun i hi=>by simp [List.getElem?_map,List.getElem?_range hi]
   refine⟨(List.range n).map f,by simp,by unfold maxLen at hm;omega,fun hn=>?_⟩;obtain⟨b,off,spot⟩:=a;have h0:=(hf 0 hn).1;have hspot:spot=none:=by simpa [Addr.add] using World.cell?_spot h0
   subst hspot;have hadd:∀ i,(⟨b,off,none⟩:Addr).add i=⟨b,off+i,none⟩:=fun i=>by unfold Addr.add;split <;> simp_all
   refine⟨b,off,rfl,World.block_lt_of_cell? w _ ((hadd 0) ▸ h0),fun i hi=>?_⟩;obtain⟨hc,A',n',c',h2,h3⟩:=hf i hi;rw [hadd] at hc h2;unfold nmE csE;rw [hget i hi];exact⟨hc,A',n',c',h2,h3⟩
theorem ty_cells{fuel:Nat}{cs:List Value}{x:DataW H × List MemPlace}(h:DataW.trod enc Tryz.prog w base spare held fuel 46 cs=some x) (hl:cs.length=3):
 ∃ k e l:Int,cs=[.int .i64 k,.int .i64 e,.int .i64 l]:=by
 obtain⟨ys,m,_,_,_,hy,hf⟩:=DataW.trod_struct Tryz.underlying46 h
 match cs,hl with
 | [v0,v1,v2],_=>
  match ys,hy with
  | [y0,y1,y2],_=>
   have t0:=hf 0 _ rfl;have t1:=hf 1 _ rfl;have t2:=hf 2 _ rfl
   simp [cells_iT] at t0 t1 t2
   obtain⟨k,e0,_,_⟩:=DataW.trod_int Tryz.underlying3 t0;obtain⟨e,e1,_,_⟩:=DataW.trod_int Tryz.underlying3 t1;obtain⟨l,e2,_,_⟩:=DataW.trod_int Tryz.underlying3 t2;injection e0 with e0;injection e1 with e1;injection e2 with e2;subst e0 e1 e2;exact⟨k,e,l,rfl⟩
end
end
end Go.Proofs.YtpehkppcdlboeaaGreat
