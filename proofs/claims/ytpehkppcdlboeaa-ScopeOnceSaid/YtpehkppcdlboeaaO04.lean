/- Parts of the proof: TyQ, TyS, PgB, PgC, PgD, PgE, PgF, PgG, PgH, PgJ, TyL, TyC, TyB, PgI, PhD. Conditions: each theorem's own. -/
import Derived.Deep.RegionHeld3
import Derived.BigRegion
import Derived.Sort.Grow
import Derived.Laws.ResultCell
import Derived.Laws.Rows
import Derived.Laws.Tables
import Derived.Laws.CopyOwn
import Derived.Test.YtpehkppcdlboeaaO03
namespace Go.Proofs.Ytpehkppcdlboeaa
set_option linter.unusedVariables false
set_option linter.unusedSimpArgs false
set_option maxRecDepth 100000
set_option maxHeartbeats 40000000
section
open Go.RowKit
def manyB(es:List En):Bool:=decide (4<es.length) || es.any fun e=>decide (6<e.2.length)
def fewTo(es:List En) (k:Nat):Prop:=∀ j,j<k→(csE es j).length≤6
def enumsN(es:List En):Int:=if manyB es then 4 else if namedB es then(if apartB es then 0 else 6) else 1
section
variable {es:List En}{k:Nat}
theorem many_at(h:k<es.length) (hb:6<(csE es k).length):manyB es=true:=by
 unfold manyB;rw [Bool.or_eq_true,List.any_eq_true];refine .inr ⟨es[k]'h,List.getElem_mem h,?_⟩;rw [en_at h];exact decide_eq_true hb
theorem many_no(h4:es.length≤4) (H:fewTo es k) (h:es.length≤k):manyB es=false:=by
 unfold manyB;rw [Bool.or_eq_false_iff,List.any_eq_false];refine⟨decide_eq_false (by omega),fun e he=>?_⟩;obtain⟨j,hj,rfl⟩:=List.getElem_of_mem he;have:=H j (by omega);rw [en_at hj];simp only [decide_eq_true_eq];omega
theorem fewTo_succ(H:fewTo es k) (h:(csE es k).length≤6):fewTo es (k+1):=fun j hj=>by
 rcases Nat.lt_or_ge j k with h1 | h1
 · exact H j h1
 · obtain rfl:j=k:=by omega
   exact h
end
theorem tyMany(A:Option Addr) (len cap:Nat) (es:List En) (w:World) (hE:RdE w A len es):
 Calls Try.prog 42 #[.slice A len cap] w fun e w'=>e=.returned (.bool (manyB es))∧Below w.heap.size w w':=by
 have hlen:=hE.len;have hmx:=hE.max
 by_cases h4:4<len
 · go_enter Try.func42,Try.ntmps42
   go_wp2_with fail
   go_ret
   exact⟨ret_bool (by simp [manyB,hlen,h4]),Below.refl _ _⟩
 · have hd4:decide ((4:Int)<(len:Int))=false:=decide_eq_false (by omega)
   go_enter Try.func42,Try.ntmps42
   go_wp2_with fail
   go_loopw [10] (fun i wr=>∃ k:Nat,k≤len∧i=.int .i64 k∧fewTo es k∧Below w.heap.size w wr) (fun i _=>len-(intOf i).toNat)
   case atStart=>exact⟨0,Nat.zero_le _,rfl,fun j hj=>absurd hj (by omega),Below.refl _ _⟩
   case round=>
    obtain⟨k,hk,rfl,hto,hnx⟩:=hrel;have HT:=Hd hto;clear hto
    by_cases hlt:k<len
    · obtain⟨b,off,rfl,hb,hc⟩:=hE.at_ hlt;obtain⟨hn0,A',n',c',hs0,hR0⟩:=hc k hlt;have hn1:wr.cell? ⟨b,off+k*2,none⟩=some (.string (nmE es k)):=(hnx.cell (p:=⟨b,off+k*2,none⟩) hb).trans hn0;have hs1:wr.cell? ⟨b,off+k*2+1,none⟩=some (.slice A' n' c'):=(hnx.cell (p:=⟨b,off+k*2+1,none⟩) hb).trans hs0;have hkl:k<es.length:=by omega
      have hcl:=hR0.len;have hcm:=hR0.max
      by_cases h6:6<n'
      · have HE:=Hd (many_at hkl (by omega))
        go_wp2_with fail
        go_ret
        exact⟨ret_bool HE.out.symm,hnx.alloc hnx.size _⟩
      · have HN:=Hd (fewTo_succ HT.out (by omega));have hd6:decide ((6:Int)<(n':Int))=false:=decide_eq_false (by omega)
        go_wp2_with fail
        go_roundw
        case rel=>exact⟨k+1,by omega,by go_num,HN.out,hnx.alloc hnx.size _⟩
        case measure=>simp [intOf];omega
    · go_wp2_with fail
      go_ret
      exact⟨ret_bool (many_no (by omega) HT.out (by omega)).symm,hnx⟩
theorem tyEnums(A:Option Addr) (len cap:Nat) (es:List En) (w:World) (hE:RdE w A len es) (hok:EsOk es) (hfew:EsFew es):
 Calls Try.prog 29 #[.slice A len cap] w fun e w'=>e=.returned (.int .i64 (enumsN es))∧Below w.heap.size w w':=by
 have HE:=Hd hE;clear hE
 cases hm:manyB es with
 | true=>
  have hN:=Hd (show(4:Int)=enumsN es by simp [enumsN,hm])
  go_enter Try.func29,Try.ntmps29
  go_wp2_with fail
  refine(tyMany A len cap es w HE.out).mono ?_;rw [hm];rintro e w1 ⟨rfl,hb1⟩;have HB1:=Hd hb1;clear hb1
  go_wp2_with fail
  go_ret
  exact⟨ret_int hN.out,HB1.out⟩
 | false=>
  cases hn:namedB es with
  | false=>
   have hN:=Hd (show(1:Int)=enumsN es by simp [enumsN,hm,hn])
   go_enter Try.func29,Try.ntmps29
   go_wp2_with fail
   refine(tyMany A len cap es w HE.out).mono ?_;rw [hm];rintro e w1 ⟨rfl,hb1⟩;have HB1:=Hd hb1;clear hb1
   go_wp2_with fail
   refine(tyNamed A len cap es _ (HE.out.below HB1.out) hok).mono ?_;rw [hn];rintro e w2 ⟨rfl,hb2⟩;have HB2:=Hd (below_trans2 HB1.out hb2);clear hb2
   go_wp2_with fail
   go_ret
   exact⟨ret_int hN.out,HB2.out⟩
  | true=>
   cases ha:apartB es with
   | false=>
    have hN:=Hd (show(6:Int)=enumsN es by simp [enumsN,hm,hn,ha])
    go_enter Try.func29,Try.ntmps29
    go_wp2_with fail
    refine(tyMany A len cap es w HE.out).mono ?_;rw [hm];rintro e w1 ⟨rfl,hb1⟩;have HB1:=Hd hb1;clear hb1
    go_wp2_with fail
    refine(tyNamed A len cap es _ (HE.out.below HB1.out) hok).mono ?_;rw [hn];rintro e w2 ⟨rfl,hb2⟩;have HB2:=Hd (below_trans2 HB1.out hb2);clear hb2
    go_wp2_with fail
    refine(tyApart A len cap es _ (HE.out.below HB2.out) hok hfew).mono ?_;rw [ha];rintro e w3 ⟨rfl,hb3⟩;have HB3:=Hd (below_trans2 HB2.out hb3);clear hb3
    go_wp2_with fail
    go_ret
    exact⟨ret_int hN.out,HB3.out⟩
   | true=>
    have hN:=Hd (show(0:Int)=enumsN es by simp [enumsN,hm,hn,ha])
    go_enter Try.func29,Try.ntmps29
    go_wp2_with fail
    refine(tyMany A len cap es w HE.out).mono ?_;rw [hm];rintro e w1 ⟨rfl,hb1⟩;have HB1:=Hd hb1;clear hb1
    go_wp2_with fail
    refine(tyNamed A len cap es _ (HE.out.below HB1.out) hok).mono ?_;rw [hn];rintro e w2 ⟨rfl,hb2⟩;have HB2:=Hd (below_trans2 HB1.out hb2);clear hb2
    go_wp2_with fail
    refine(tyApart A len cap es _ (HE.out.below HB2.out) hok hfew).mono ?_;rw [ha];rintro e w3 ⟨rfl,hb3⟩;have HB3:=Hd (below_trans2 HB2.out hb3);clear hb3
    go_wp2_with fail
    go_ret
    exact⟨ret_int hN.out,HB3.out⟩
end
section
open Go.RowKit
theorem RdT.news{w:World}{a:Addr}{n:Nat}{l:List ByteArray}(h:RdT w (some a) n l) (j:Nat) (u:Value) (hu:(l.map Value.string)[j]?=some u):w.cell? (a.add j)=some u:=by
 have hj:j<l.length:=by
  rcases Nat.lt_or_ge j l.length with h | h
  · exact h
  · rw [List.getElem?_eq_none (by simpa using h)] at hu;cases hu
 obtain⟨b,off,e,_,hc⟩:=h.at_ (i:=j) (by rw [← h.len];exact hj);injection e with e;subst e;have:=hc j (by rw [← h.len];exact hj);have e2:(⟨b,off,none⟩:Addr).add j=⟨b,off+j,none⟩:=by unfold Addr.add;split <;> simp_all
 rw [e2,this,← hu]
 simp [List.getElem?_eq_getElem hj]
section
variable {P:Program}{w:World}
end
def Apt(u v:Value):Prop:=∀ g,u.ownBlock=some g→v.ownBlock≠some g
theorem Apt.symm{u v:Value}(h:Apt u v):Apt v u:=fun g hg e=>h g e hg
theorem Apt.ne{u v:Value}(h:Apt u v):u.ownBlock=none∨u.ownBlock≠v.ownBlock:=by
 rcases hub:u.ownBlock with _ | g
 · exact .inl rfl
 · exact .inr fun e=>h g hub e.symm
end
section
open Go.RowKit
theorem names_succ{l:List Dc}{k:Nat}(hk:k<l.length):(namesD l).take (k+1)=(namesD l).take k++[(l[k]?.getD default).nm]:=by
 rw [namesD,List.take_add_one,List.getElem?_map,List.getElem?_eq_getElem hk]
 simp
theorem names_len(l:List Dc):(namesD l).length=l.length:=by simp [namesD]
end
section
open Go.RowKit Go.Sort
def flD(l:List Dc):List Value:=l.flatMap dcL
theorem flD_len(l:List Dc):(flD l).length=l.length*6:=by
 induction l with
 | nil=>rfl
 | cons d l ih=>simp only [flD,List.flatMap_cons,List.length_append,List.length_cons] at ih ⊢;rw [ih];simp [dcL];omega
theorem flD_app(a b:List Dc):flD (a++b)=flD a++flD b:=by simp [flD]
theorem flD_at:∀ (l:List Dc) (i j:Nat),i<l.length→j<6→(flD l)[i*6+j]?=(dcL (l[i]?.getD default))[j]?
 | t::ts,0,j,_,hj=>by
  have hz:j<(dcL t).length:=by simpa [dcL] using hj
  simp only [flD,List.flatMap_cons,Nat.zero_mul,Nat.zero_add];rw [List.getElem?_append_left hz]
  simp
 | t::ts,i+1,j,hi,hj=>by
  have ih:=flD_at ts i j (by simpa using hi) hj;have hz:(dcL t).length=6:=by simp [dcL]
  simp only [flD,List.flatMap_cons];rw [List.getElem?_append_right (by rw [hz];omega),hz,show(i+1)*6+j-6=i*6+j by omega]
  simpa [flD] using ih
theorem flD_ones(l:List Dc):∀ u∈flD l,u.oneCell'=true:=by
 intro u hu;simp only [flD,List.mem_flatMap] at hu;obtain⟨t,_,hu⟩:=hu
 simp [dcL] at hu
 rcases hu with rfl | rfl | rfl | rfl | rfl | rfl <;> rfl
section
variable {w w':World}{A:Option Addr}{n:Nat}{l:List Dc}
theorem RdD.of_own{base:Nat}{e:TypeId}{v:Value}(h:w.ownsRow base e 6 v n (flD l)) (hm:n≤9223372036854775807):∃ A c,v=.slice A n c∧RdD w A n l:=by
 have hl:l.length=n:=by
  have:=h.1;rw [flD_len] at this;omega
 rcases h.2 with⟨rfl,rfl⟩|⟨g,cap,cur,rfl,hg,hh,hnc,hcm,hcs,ht⟩
 · obtain rfl:l=[]:=List.eq_nil_of_length_eq_zero hl;exact⟨none,0,rfl,RdS.nil_ _ _ _⟩
 · refine⟨_,cap,rfl,hl,hm,fun hn=>⟨g,0,rfl,(Array.getElem?_eq_some_iff.1 hh).1,fun i hi=>?_⟩⟩;intro j v hv
   have hj:j<6:=by
    rcases Nat.lt_or_ge j 6 with h | h
    · exact h
    · rw [List.getElem?_eq_none (by simpa [dcL] using h)] at hv;cases hv
   rw [Nat.zero_add,h.cellAt (i*6+j) (by omega),flD_at l i j (by omega) hj,hv]
theorem RdD.news(h:RdD w A n l):(A=none→n=0)∧∀ ad,A=some ad→∀ j u,(flD l)[j]?=some u→w.cell? (ad.add j)=some u:=by
 constructor
 · rintro rfl;rcases Nat.eq_zero_or_pos n with h0 | h0
   · exact h0
   · obtain⟨b,off,e,_⟩:=RdS.at_ h h0;cases e
 · rintro ad rfl j u hu
   have hj:j<l.length*6:=by
    rcases Nat.lt_or_ge j (l.length*6) with h1 | h1
    · exact h1
    · rw [List.getElem?_eq_none (by rw [flD_len];exact h1)] at hu;cases hu
   have hlen:=RdS.len h;obtain⟨b,off,e,hb,hc⟩:=RdS.at_ h (by omega);injection e with e;subst e;have h6:j / 6*6+j % 6=j:=by omega
   have h7:j % 6<6:=by omega
   have h1:=hc (j / 6) (by omega);rw [add_addr];have h2:=flD_at l (j / 6) (j % 6) (by omega) h7;rw [h6,hu] at h2;have h3:=h1 (j % 6) u h2.symm;rwa [show off+j / 6*6+j % 6=off+j by omega] at h3
end
theorem infoDecl:(Try.prog.info? 45).map (fun i=>(i.size,i.bytes,i.zero.map fun z=>z.cells.size))=some (6,72,some 6):=by kernel_rfl
theorem info_three{P:Program}{t:TypeId}{a b c:Nat}(h:(P.info? t).map (fun i=>(i.size,i.bytes,i.zero.map fun z=>z.cells.size))=some (a,b,some c)):∃ i z,P.info? t=some i∧i.zero=some z∧i.size=a∧i.bytes=b∧z.cells.size=c:=by
 obtain⟨i,h1,h2⟩:=Option.map_eq_some_iff.1 h;simp only [Prod.mk.injEq,Option.map_eq_some_iff] at h2;obtain⟨h3,h4,z,h5,h6⟩:=h2;exact⟨i,z,h1,h5,h3,h4,h6⟩
theorem nd_facts(w:World) (x:Nd) (A1:Option Addr) (c1:Nat) (A2:Option Addr) (c2:Nat) (A3:Option Addr) (c3:Nat) (A4:Option Addr) (c4:Nat) (w1:World) (h:w.alloc (.cells (ndA x A1 c1 A2 c2 A3 c3 A4 c4) 41)=w1) (hr:rdN w x A1 A2 A3 A4):
 Below w.heap.size w w1∧w1.heap.size=w.heap.size+1∧rdN w1 x A1 A2 A3 A4∧∀ w',Below w1.heap.size w1 w'→∀ j,w'.cell? ⟨w.heap.size,j,none⟩=(ndA x A1 c1 A2 c2 A3 c3 A4 c4)[j]?:=by
 subst h;refine⟨(Below.refl _ _).alloc (Nat.le_refl _) _,by simp,hr.below ((Below.refl _ _).alloc (Nat.le_refl _) _),fun w' hb j=>?_⟩;rw [hb.cell (p:=⟨w.heap.size,j,none⟩) (by simp),World.cell?_alloc_new]
def DeclsPost(w:World) (n:Nat) (l:List Dc) (e:Ending) (w':World):Prop:=∃ A c,e=.returned (.slice A n c)∧RdD w' A n l∧Below w.heap.size w w'
theorem refAllD(x:Nd) (A1:Option Addr) (c1:Nat) (A2:Option Addr) (c2:Nat) (A3:Option Addr) (c3:Nat) (A4:Option Addr) (c4:Nat) (w:World) (h:rdN w x A1 A2 A3 A4) (hn:x.all.length≤1000):
 Calls Try.prog 11 #[.agg (ndA x A1 c1 A2 c2 A3 c3 A4 c4)] w (DeclsPost w x.all.length x.all):=by
 have hlen:=all_len x;have HXA:=Hd (show flD x.all=flD x.ins++flD x.outs++flD x.vars by rw [Nd.all,flD_app,flD_app]);have HL1:=Hd (flD_len x.ins);have HL2:=Hd (flD_len x.outs);have HL3:=Hd (flD_len x.vars);have HO1:=Hd (flD_ones x.ins);have HO2:=Hd (flD_ones x.outs);have HO3:=Hd (flD_ones x.vars);obtain⟨i0,z0,hi,hz1,hz0,hz2,hz3⟩:=info_three infoDecl;obtain⟨h1,h2,h3,h4⟩:=h;have HF:=Hd fun w1 (hw:w.alloc (.cells (ndA x A1 c1 A2 c2 A3 c3 A4 c4) 41)=w1)=>nd_facts w x A1 c1 A2 c2 A3 c3 A4 c4 w1 hw ⟨h1,h2,h3,h4⟩;unfold ndA
 go_enter Try.func11,Try.ntmps11
 go_upto_region 1 with(fail)
 generalize hw1:w.alloc _=w1;obtain⟨hb1,hg,⟨r1,r2,r3,-⟩,hcell⟩:=HF.out w1 hw1;obtain⟨-,q1,q2,q3,-,-⟩:=Sx (hcell w1 (Below.refl _ _));simp only [ndA,List.getElem?_toArray,List.getElem?_cons_zero,List.getElem?_cons_succ] at q1 q2 q3;have HB1:=Hd hb1;obtain⟨n1',n1s⟩:=r1.news;obtain⟨n2',n2s⟩:=r2.news;obtain⟨n3',n3s⟩:=r3.news;have HR1:=Hd r1.news;have HR2:=Hd r2.news;have HR3:=Hd r3.news;clear hw1 hcell hb1 h1 h2 h3 h4 r1 r2 r3 n1' n1s n2' n2s n3' n3s HF;generalize x.ins.length=n1 at *;generalize x.outs.length=n2 at *;generalize x.vars.length=n3 at *;generalize flD x.ins=f1 at *;generalize flD x.outs=f2 at *;generalize flD x.vars=f3 at *;have hr0:=World.ownsRow_lit (base:=w1.heap.size) (e:=45) (size:=6) w1 #[] 0 (by simp) (by decide) rfl;rw [hg] at hr0;have HO0:=Hd (show(w1.alloc (.cells #[] 45)).drew.ownsRow (w.heap.size+1) 45 6 (.slice (some ⟨w.heap.size+1,0,none⟩) 0 0) 0 [] from hr0);clear hr0;refine wp_region_held_drew (S:=fun W=>W.cell? ⟨w.heap.size,1,none⟩=some (.slice A1 n1 c1)∧W.cell? ⟨w.heap.size,2,none⟩=some (.slice A2 n2 c2)∧W.cell? ⟨w.heap.size,3,none⟩=some (.slice A3 n3 c3)) (by kernel_rfl) ?_ (fun hHeld=>?_)
 · exact⟨q1,q2,q3⟩
 refine wpAnyH_take (i:=1) (oi:=?oi1) (v:=.pointer (some ⟨w.heap.size,1,none⟩)) ?h1x1 (by kernel_rfl) ?h3x1 (by kernel_rfl) ?h5x1 (Or.inl ⟨?h6x1,?h7x1⟩) hHeld ?h8x1
 case h1x1=>
  simp only [Ya,Yb,Yc];rfl
 case h3x1=>kernel_rfl
 case h5x1=>exact fun _ _ _ h=>h
 case h6x1=>rfl
 case h7x1=>
  intro W hSW
  (try dsimp only at hSW)
  go_split_ands
  first | (go_simp;done) | (go_simp;with_reducible rfl)
 (try simp only [Act.put,Yd,Ye,Yf])
 refine wpAnyH_take (i:=2) (oi:=?oi2) (v:=.slice A1 n1 c1) ?h1x2 (by kernel_rfl) ?h3x2 (by kernel_rfl) ?h5x2 (Or.inl ⟨?h6x2,?h7x2⟩) hHeld ?h8x2
 case h1x2=>
  simp only [Ya,Yb,Yc];rfl
 case h3x2=>kernel_rfl
 case h5x2=>exact fun _ _ _ h=>h
 case h6x2=>rfl
 case h7x2=>
  intro W hSW
  (try dsimp only at hSW)
  go_split_ands
  first | (go_simp;done) | (go_simp;with_reducible rfl)
 (try simp only [Act.put,Yd,Ye,Yf])
 refine wpAnyH_take (i:=4) (oi:=?oi3) (v:=.pointer (some ⟨w.heap.size,2,none⟩)) ?h1x3 (by kernel_rfl) ?h3x3 (by kernel_rfl) ?h5x3 (Or.inl ⟨?h6x3,?h7x3⟩) hHeld ?h8x3
 case h1x3=>
  simp only [Ya,Yb,Yc];rfl
 case h3x3=>kernel_rfl
 case h5x3=>exact fun _ _ _ h=>h
 case h6x3=>rfl
 case h7x3=>
  intro W hSW
  (try dsimp only at hSW)
  go_split_ands
  first | (go_simp;done) | (go_simp;with_reducible rfl)
 (try simp only [Act.put,Yd,Ye,Yf])
 refine wpAnyH_take (i:=5) (oi:=?oi4) (v:=.slice A2 n2 c2) ?h1x4 (by kernel_rfl) ?h3x4 (by kernel_rfl) ?h5x4 (Or.inl ⟨?h6x4,?h7x4⟩) hHeld ?h8x4
 case h1x4=>
  simp only [Ya,Yb,Yc];rfl
 case h3x4=>kernel_rfl
 case h5x4=>exact fun _ _ _ h=>h
 case h6x4=>rfl
 case h7x4=>
  intro W hSW
  (try dsimp only at hSW)
  go_split_ands
  first | (go_simp;done) | (go_simp;with_reducible rfl)
 (try simp only [Act.put,Yd,Ye,Yf])
 refine wpAnyH_take (i:=7) (oi:=?oi5) (v:=.pointer (some ⟨w.heap.size,3,none⟩)) ?h1x5 (by kernel_rfl) ?h3x5 (by kernel_rfl) ?h5x5 (Or.inl ⟨?h6x5,?h7x5⟩) hHeld ?h8x5
 case h1x5=>
  simp only [Ya,Yb,Yc];rfl
 case h3x5=>kernel_rfl
 case h5x5=>exact fun _ _ _ h=>h
 case h6x5=>rfl
 case h7x5=>
  intro W hSW
  (try dsimp only at hSW)
  go_split_ands
  first | (go_simp;done) | (go_simp;with_reducible rfl)
 (try simp only [Act.put,Yd,Ye,Yf])
 refine wpAnyH_take (i:=8) (oi:=?oi6) (v:=.slice A3 n3 c3) ?h1x6 (by kernel_rfl) ?h3x6 (by kernel_rfl) ?h5x6 (Or.inl ⟨?h6x6,?h7x6⟩) hHeld ?h8x6
 case h1x6=>
  simp only [Ya,Yb,Yc];rfl
 case h3x6=>kernel_rfl
 case h5x6=>exact fun _ _ _ h=>h
 case h6x6=>rfl
 case h7x6=>
  intro W hSW
  (try dsimp only at hSW)
  go_split_ands
  first | (go_simp;done) | (go_simp;with_reducible rfl)
 (try simp only [Act.put,Yd,Ye,Yf])
 have hbl0:Below w1.heap.size w1 (w1.alloc (.cells #[] 45)).drew:=((Below.refl w1.heap.size w1).alloc (Nat.le_refl _) _).drew;have HBL0:=Hd hbl0;have a0:=(hbl0.cell (p:=⟨w.heap.size,1,none⟩) (by show w.heap.size<_;omega)).trans q1;have b0:=(hbl0.cell (p:=⟨w.heap.size,2,none⟩) (by show w.heap.size<_;omega)).trans q2;have e0:=(hbl0.cell (p:=⟨w.heap.size,3,none⟩) (by show w.heap.size<_;omega)).trans q3;clear hbl0;refine wpAnyH_ready (rs:=[0]) (by kernel_rfl) (by simp) ?_;refine AllReadyH.cons (by rfl) (fun K hK=>?_) ?_
 · go_simp
   refine hK.out _ _ ?_ (fun hHeld=>?_)
   · exact⟨a0,b0,e0⟩
   clear hK K
   (try simp only [Act.put,Yd,Ye,Yf])
   refine wpAnyH_ready (rs:=[3]) (by kernel_rfl) (by simp) ?_;refine AllReadyH.cons (by rfl) (fun K hK=>?_) ?_
   · refine step_append_any (by rfl) _ _ _ (by rfl) (w.heap.size+1) 45 i0 z0 6 72 Try.underlying38 hi hz1 hz0 hz2 hz3 (by decide) (.slice (some ⟨w.heap.size+1,0,none⟩) 0 0) 0 [] (by rfl) HO0.out A1 n1 c1 f1 (by rfl) (by rw [HL1.out]) HR1.out.1 (fun ad e j u hu=>by have h:=HR1.out.2 ad e j u hu;exact(HBL0.out.cell (World.block_lt_of_cell? _ _ h)).trans h) HO1.out (by unfold maxLen;omega) (by omega) (by have:=HBL0.out.size;omega) ?_;intro B1 d1 v1 hown1 hgr1 hat1;have HW1:=Hd hown1;have hbl1:Below w1.heap.size w1 v1:=HBL0.out.grown hgr1 (by have:=HBL0.out.size;omega) (fun j hj=>by rw [hg];exact(HO0.out.lt j hj).1);have HBL1:=Hd hbl1;have a1:=(hbl1.cell (p:=⟨w.heap.size,1,none⟩) (by show w.heap.size<_;omega)).trans q1;have b1:=(hbl1.cell (p:=⟨w.heap.size,2,none⟩) (by show w.heap.size<_;omega)).trans q2;have e1:=(hbl1.cell (p:=⟨w.heap.size,3,none⟩) (by show w.heap.size<_;omega)).trans q3;clear hown1 hgr1 hat1 hbl1;refine hK.out _ _ ?_ (fun hHeld=>?_)
     · exact⟨a1,b1,e1⟩
     clear hK K
     (try simp only [Act.put,Yd,Ye,Yf])
     refine wpAnyH_ready (rs:=[6]) (by kernel_rfl) (by simp) ?_;refine AllReadyH.cons (by rfl) (fun K hK=>?_) ?_
     · refine step_append_any (by rfl) _ _ _ (by rfl) (w.heap.size+1) 45 i0 z0 6 72 Try.underlying38 hi hz1 hz0 hz2 hz3 (by decide) (.slice B1 (0+n1) d1) (0+n1) ([]++f1) (by rfl) HW1.out A2 n2 c2 f2 (by rfl) (by rw [HL2.out]) HR2.out.1 (fun ad e j u hu=>by have h:=HR2.out.2 ad e j u hu;exact(HBL1.out.cell (World.block_lt_of_cell? _ _ h)).trans h) HO2.out (by unfold maxLen;omega) (by omega) (by have:=HBL1.out.size;omega) ?_;intro B2 d2 v2 hown2 hgr2 hat2;have HW2:=Hd hown2;have hbl2:Below w1.heap.size w1 v2:=HBL1.out.grown hgr2 (by have:=HBL1.out.size;omega) (fun j hj=>by rw [hg];exact(HW1.out.lt j hj).1);have HBL2:=Hd hbl2;have a2:=(hbl2.cell (p:=⟨w.heap.size,1,none⟩) (by show w.heap.size<_;omega)).trans q1;have b2:=(hbl2.cell (p:=⟨w.heap.size,2,none⟩) (by show w.heap.size<_;omega)).trans q2;have e2:=(hbl2.cell (p:=⟨w.heap.size,3,none⟩) (by show w.heap.size<_;omega)).trans q3;clear hown2 hgr2 hat2 hbl2;refine hK.out _ _ ?_ (fun hHeld=>?_)
       · exact⟨a2,b2,e2⟩
       clear hK K
       (try simp only [Act.put,Yd,Ye,Yf])
       refine wpAnyH_ready (rs:=[9]) (by kernel_rfl) (by simp) ?_;refine AllReadyH.cons (by rfl) (fun K hK=>?_) ?_
       · refine step_append_any (by rfl) _ _ _ (by rfl) (w.heap.size+1) 45 i0 z0 6 72 Try.underlying38 hi hz1 hz0 hz2 hz3 (by decide) (.slice B2 (0+n1+n2) d2) (0+n1+n2) ([]++f1++f2) (by rfl) HW2.out A3 n3 c3 f3 (by rfl) (by rw [HL3.out]) HR3.out.1 (fun ad e j u hu=>by have h:=HR3.out.2 ad e j u hu;exact(HBL2.out.cell (World.block_lt_of_cell? _ _ h)).trans h) HO3.out (by unfold maxLen;omega) (by omega) (by have:=HBL2.out.size;omega) ?_;intro B3 d3 v3 hown3 hgr3 hat3;have HW3:=Hd hown3;have hbl3:Below w1.heap.size w1 v3:=HBL2.out.grown hgr3 (by have:=HBL2.out.size;omega) (fun j hj=>by rw [hg];exact(HW2.out.lt j hj).1);have HBL3:=Hd hbl3;have a3:=(hbl3.cell (p:=⟨w.heap.size,1,none⟩) (by show w.heap.size<_;omega)).trans q1;have b3:=(hbl3.cell (p:=⟨w.heap.size,2,none⟩) (by show w.heap.size<_;omega)).trans q2;have e3:=(hbl3.cell (p:=⟨w.heap.size,3,none⟩) (by show w.heap.size<_;omega)).trans q3;clear hown3 hgr3 hat3 hbl3;refine hK.out _ _ ?_ (fun hHeld=>?_)
         · exact⟨a3,b3,e3⟩
         clear hK K
         (try simp only [Act.put,Yd,Ye,Yf])
         refine wpAnyH_ready (rs:=[10]) (by kernel_rfl) (by simp) ?_;refine AllReadyH.cons (by rfl) (fun K hK=>?_) ?_
         · go_simp
           refine hK.out _ _ ?_ (fun hHeld=>?_)
           · exact⟨a3,b3,e3⟩
           clear hK K
           (try simp only [Act.put,Yd,Ye,Yf])
           refine wpAnyH_done (by kernel_rfl) ?_ _
           go_wp2_with fail
           go_ret
           have hw:=HW3.out;rw [List.nil_append,← HXA.out,Nat.zero_add,← hlen] at hw;obtain⟨A,c,e,hR⟩:=RdD.of_own hw (by omega);refine⟨A,c,?_,hR,HB1.out.trans (HBL3.out.mono (by omega))⟩;rw [← e,hlen];rfl
         exact AllReadyH.nil
       exact AllReadyH.nil
     exact AllReadyH.nil
   exact AllReadyH.nil
 exact AllReadyH.nil
end
section
open Go.RowKit
def OkD(d:Dc):Prop:=d.nm.size≤maxLen∧d.on.size≤maxLen∧d.ct.size≤maxLen
theorem dc_facts(w:World) (d:Dc) (w1:World) (h:w.alloc (.cells (dcA d) 45)=w1):
 Below w.heap.size w w1∧w1.heap.size=w.heap.size+1∧∀ w',Below w1.heap.size w1 w'→∀ j,w'.cell? ⟨w.heap.size,j,none⟩=(dcA d)[j]?:=by
 subst h;refine⟨(Below.refl _ _).alloc (Nat.le_refl _) _,by simp,fun w' hb j=>?_⟩;rw [hb.cell (p:=⟨w.heap.size,j,none⟩) (by simp),World.cell?_alloc_new]
theorem below_next{w w1 w2:World}(h:Below w.heap.size w w1) (hb:Below w1.heap.size w1 w2):Below w.heap.size w w2:=h.trans (hb.mono h.size)
end
section
open Go.RowKit
def qnA(q:Qn) (A:Option Addr) (c:Nat) (A':Option Addr) (ca:Nat) (B':Option Addr) (cb:Nat):Array Value:=
 #[.slice A q.ns.length c,.int .i64 q.x.k,.int .i64 q.x.n,.string q.x.s,.int .i64 q.x.op,.slice A' q.x.arms.length ca,.slice B' q.x.subs.length cb]
def OkQ(q:Qn):Prop:=(∀ s∈q.ns,s.size≤maxLen)∧sizeX q.x≤1000000∧∀ p∈partsX q.x,ShortP p
theorem qn_facts(w:World) (q:Qn) (A:Option Addr) (c:Nat) (A':Option Addr) (ca:Nat) (B':Option Addr) (cb:Nat) (w1:World) (h:w.alloc (.cells (qnA q A c A' ca B' cb) 52)=w1) (hr:RdT w A q.ns.length q.ns) (hx:rdX w q.x A' B'):
 Below w.heap.size w w1∧w1.heap.size=w.heap.size+1∧RdT w1 A q.ns.length q.ns∧rdX w1 q.x A' B'∧∀ w',Below w1.heap.size w1 w'→∀ j,w'.cell? ⟨w.heap.size,j,none⟩=(qnA q A c A' ca B' cb)[j]?:=by
 subst h;have hb:=(Below.refl w.heap.size w).alloc (Nat.le_refl _) (.cells (qnA q A c A' ca B' cb) 52);refine⟨hb,by simp,hr.below hb,hx.below hb,fun w' hb j=>?_⟩;rw [hb.cell (p:=⟨w.heap.size,j,none⟩) (by simp),World.cell?_alloc_new]
theorem getD_mem{ss:List ByteArray}{k:Nat}(h:k<ss.length):ss[k]?.getD ByteArray.empty∈ss:=by
 rw [List.getElem?_eq_getElem h];exact List.getElem_mem _
end
section
open Go.RowKit Go.Sort
def OkN(n:Nd):Prop:=n.nm.size≤maxLen∧(∀ d∈n.all,OkD d)∧∀ q∈n.eqs,OkQ q
theorem getD_memA{α:Type} [Inhabited α] {l:List α}{k:Nat}(h:k<l.length):l[k]?.getD default∈l:=by
 rw [List.getElem?_eq_getElem h];exact List.getElem_mem _
theorem QnAt.seven{w:World}{b o:Nat}{q:Qn}(h:QnAt w b o q):∃ A c A' ca B' cb,RdT w A q.ns.length q.ns∧rdX w q.x A' B' ∧
 w.cell? ⟨b,o,none⟩=some (.slice A q.ns.length c)∧w.cell? ⟨b,o+1,none⟩=some (.int .i64 q.x.k)∧w.cell? ⟨b,o+2,none⟩=some (.int .i64 q.x.n)∧w.cell? ⟨b,o+3,none⟩=some (.string q.x.s)∧w.cell? ⟨b,o+4,none⟩=some (.int .i64 q.x.op) ∧
  w.cell? ⟨b,o+5,none⟩=some (.slice A' q.x.arms.length ca)∧w.cell? ⟨b,o+6,none⟩=some (.slice B' q.x.subs.length cb):=by
 obtain⟨A,c,A',ca,B',cb,h1,h2,h3,h4⟩:=h;obtain⟨r0,r1,r2,r3,r4,r5⟩:=rangeAt_six h3;exact⟨A,c,A',ca,B',cb,h2,h4,h1,r0,r1,r2,r3,r4,r5⟩
end
section
open Go.RowKit Go.Sort
def pgA(p:Pg) (E:Option Addr) (ec:Nat) (N:Option Addr) (nc:Nat):Array Value:=#[.slice E p.es.length ec,.slice N p.ns.length nc]
def rdP(w:World) (p:Pg) (E N:Option Addr):Prop:=RdE w E p.es.length p.es∧RdNs w N p.ns.length p.ns
theorem rdP.below{w w':World}{p:Pg}{E N:Option Addr}(h:rdP w p E N) (hb:Below w.heap.size w w'):rdP w' p E N:=⟨h.1.below hb,h.2.below hb⟩
theorem pg_facts(w:World) (p:Pg) (E:Option Addr) (ec:Nat) (N:Option Addr) (nc:Nat) (w1:World) (h:w.alloc (.cells (pgA p E ec N nc) 32)=w1) (hr:rdP w p E N):
 Below w.heap.size w w1∧w1.heap.size=w.heap.size+1∧rdP w1 p E N∧∀ w',Below w1.heap.size w1 w'→∀ j,w'.cell? ⟨w.heap.size,j,none⟩=(pgA p E ec N nc)[j]?:=by
 subst h;have hb:=(Below.refl w.heap.size w).alloc (Nat.le_refl _) (.cells (pgA p E ec N nc) 32);refine⟨hb,by simp,hr.below hb,fun w' hb j=>?_⟩;rw [hb.cell (p:=⟨w.heap.size,j,none⟩) (by simp),World.cell?_alloc_new]
theorem findI_hit{α:Type} [Inhabited α] {f:α→Bool}:∀ {l:List α}{k i:Nat},k<l.length→(∀ j,j<k→f (l[j]?.getD default)=false)→f (l[k]?.getD default)=true→findI f l i=((i+k:Nat):Int)
 | [],k,i,h,_,_=>by simp at h
 | a::l,0,i,_,_,h=>by
  have h:f a=true:=by simpa using h
  simp [findI,h]
 | a::l,k+1,i,hk,hn,h=>by
  have h0:f a=false:=by simpa using hn 0 (by omega)
  rw [findI,h0,if_neg (by simp),findI_hit (k:=k) (by simpa using hk) (fun j hj=>by simpa using hn (j+1) (by omega)) (by simpa using h)]
  congr 1
  omega
theorem findI_none{α:Type} [Inhabited α] {f:α→Bool}:∀ {l:List α}{i:Nat},(∀ j,j<l.length→f (l[j]?.getD default)=false)→findI f l i=-1
 | [],i,_=>rfl
 | a::l,i,hn=>by
  have h0:f a=false:=by simpa using hn 0 (by simp)
  rw [findI,h0,if_neg (by simp)];exact findI_none fun j hj=>by simpa using hn (j+1) (by simpa using hj)
theorem to_next{P:Nat→Prop}{k:Nat}(h:∀ j,j<k→P j) (hk:P k):∀ j,j<k+1→P j:=fun j hj=>by
 rcases Nat.lt_or_ge j k with h1 | h1
 · exact h j h1
 · obtain rfl:j=k:=by omega
   exact hk
theorem refFind(p:Pg) (E:Option Addr) (ec:Nat) (N:Option Addr) (nc:Nat) (s:ByteArray) (w:World) (h:rdP w p E N):
 Calls Try.prog 14 #[.agg (pgA p E ec N nc),.string s] w fun e w'=>e=.returned (.int .i64 (findN p s))∧Below w.heap.size w w':=by
 have HF:=Hd fun w1 hw=>pg_facts w p E ec N nc w1 hw h;have hmx:=RdS.max h.2;have HHIT:=Hd (fun(k:Nat) hk hn hy=>show findN p s=(k:Int) by have:=findI_hit (l:=p.ns) (f:=fun n:Nd=>n.nm.data.toList==s.data.toList) (k:=k) (i:=0) hk hn hy;rwa [Nat.zero_add] at this);have HNO:=Hd (fun hn=>show findN p s=-1 from findI_none (l:=p.ns) (f:=fun n:Nd=>n.nm.data.toList==s.data.toList) (i:=0) hn);unfold pgA;generalize findN p s=out at *
 go_enter Try.func14,Try.ntmps14
 go_upto_region 1 with(fail)
 generalize hw1:w.alloc _=w1;obtain⟨hb1,hg,hR1,hcell⟩:=HF.out w1 hw1;have HB1:=Hd hb1;have q1:=hcell w1 (Below.refl _ _) 1;simp only [pgA,List.getElem?_toArray,List.getElem?_cons_zero,List.getElem?_cons_succ] at q1;have HR:=Hd (show RdS 5 NdAt w1 N p.ns.length p.ns from hR1.2);clear hw1 hcell hb1 HF h hR1;generalize p.es.length=ne at *;generalize hns:p.ns=ns at *;generalize hnl:ns.length=n at *;clear hns hnl
 go_wp2_with fail
 go_loop [5] (fun i=>∃ k:Nat,k≤n∧i=.int .i64 k∧∀ j,j<k→((ns[j]?.getD default).nm.data.toList==s.data.toList)=false) (fun i=>n-(intOf i).toNat)
 case atStart=>exact⟨0,Nat.zero_le _,rfl,fun j hj=>absurd hj (by omega)⟩
 case round=>
  obtain⟨k,hk,rfl,hto⟩:=hrel;have HT:=Hd hto;clear hto
  by_cases hlt:k<n
  · obtain⟨b,off,rfl,hb,hc⟩:=RdS.at_ HR.out (by omega);obtain⟨A1,c1,A2,c2,A3,c3,A4,c4,hra,-⟩:=hc k hlt;obtain⟨d0,-⟩:=ndL_five hra;clear hc hra;have HH:=Hd (HHIT.out k hlt HT.out);have HS:=Hd fun(hf:((ns[k]?.getD default).nm.data.toList==s.data.toList)=false)=>to_next (P:=fun j=>((ns[j]?.getD default).nm.data.toList==s.data.toList)=false) HT.out hf;generalize (ns[k]?.getD default).nm=x at d0 HH HS
    cases h1:(x.toList==s.toList) with
    | true=>
     have HH2:=Hd (HH.out (by rw [← Lib.toList_data,← Lib.toList_data];exact h1))
     go_wp2_with fail
     go_ret
     exact⟨ret_int HH2.out.symm,HB1.out⟩
    | false=>
     have HS2:=Hd (HS.out (by rw [← Lib.toList_data,← Lib.toList_data];exact h1))
     go_wp2_with fail
     go_round
     case rel=>exact⟨k+1,by omega,by go_num,HS2.out⟩
     case measure=>simp [intOf];omega
  · obtain rfl:k=n:=by omega
    have HN:=Hd (HNO.out HT.out)
    go_wp2_with fail
    go_ret
    exact⟨ret_int HN.out.symm,HB1.out⟩
end
section
open Go.RowKit Go.Sort
def RowD(w:World) (g:Nat) (d:Dc):Prop:=w.heap[g]?=some (Obj.cells (dcA d) 45)
theorem RowD.below{w w':World}{g:Nat}{d:Dc}(h:RowD w g d) (hb:Below w.heap.size w w'):RowD w' g d:=by
 have hl:g<w.heap.size:=(Array.getElem?_eq_some_iff.1 h).1;exact(hb.block g hl).trans h
theorem RowD.set{w:World}{g:Nat}{d:Dc}(h:RowD w g d) (d':Dc):RowD (w.setRow g (dcA d')) g d':=setRow_heap _ _ _ _ _ _ h
end
section
open Go.RowKit Go.Sort
end
section
open Go.RowKit
def tinyTo(es:List En) (k:Nat):Prop:=∀ j,j<k→(csE es j).length≤12∧(nmE es j).size≤100∧∀ q,q<(csE es j).length→(ctAt es j q).size≤100
def EsTiny(es:List En):Prop:=es.length≤8∧tinyTo es es.length
theorem EsTiny.few{es:List En}(h:EsTiny es):EsFew es:=⟨h.1,fun j hj=>(h.2 j hj).1⟩
theorem EsTiny.ok{es:List En}(h:EsTiny es):EsOk es:=fun j hj=>by
 have h1:=h.2 j hj;unfold maxLen;refine⟨by omega,fun s hs=>?_⟩;obtain⟨q,hq,rfl⟩:=List.getElem_of_mem hs;have:=h1.2.2 q hq;unfold ctAt at this;rw [List.getElem?_eq_getElem hq,Option.getD_some] at this;omega
theorem tinyTo_succ{es:List En}{k:Nat}(H:tinyTo es k) (h1:(csE es k).length≤12) (h2:(nmE es k).size≤100) (h3:∀ q,q<(csE es k).length→(ctAt es k q).size≤100):tinyTo es (k+1):=fun j hj=>by
 rcases Nat.lt_or_ge j k with h | h
 · exact H j h
 · obtain rfl:j=k:=by omega
   exact⟨h1,h2,h3⟩
def SmallPost(es:List En) (w:World) (e:Ending) (w':World):Prop:=∃ b,e=.returned (.bool b)∧(b=true→EsTiny es)∧w=w'
theorem small_no(es:List En) (w:World):SmallPost es w (.returned (.bool false)) w:=⟨false,rfl,fun h=>(by cases h),rfl⟩
theorem small_yes{es:List En}(h:EsTiny es) (w:World):SmallPost es w (.returned (.bool true)) w:=⟨true,rfl,fun _=>h,rfl⟩
theorem refEnSmall(A:Option Addr) (len cap:Nat) (es:List En) (w:World) (hE:RdE w A len es):
 Calls Try.prog 5 #[.slice A len cap] w (SmallPost es w):=by
 have hlen:=hE.len;have hmx:=hE.max
 by_cases h8:8<len
 · go_enter Try.func5,Try.ntmps5
   go_wp2_with fail
   go_ret
   exact small_no es w
 · have hd8:decide ((8:Int)<(len:Int))=false:=decide_eq_false (by omega)
   go_enter Try.func5,Try.ntmps5
   go_wp2_with fail
   go_loop [3] (fun i=>∃ k:Nat,k≤len∧i=.int .i64 k∧tinyTo es k) (fun i=>len-(intOf i).toNat)
   case atStart=>exact⟨0,Nat.zero_le _,rfl,fun j hj=>absurd hj (by omega)⟩
   case round=>
    obtain⟨k,hk,rfl,hto⟩:=hrel;have HT:=Hd hto;clear hto
    by_cases hlt:k<len
    · obtain⟨b,off,rfl,hb,hc⟩:=hE.at_ hlt;obtain⟨hn0,A',n',c',hs0,hR0⟩:=hc k hlt;have hkl:k<es.length:=by omega
      have hcl:=hR0.len;have hcm:=hR0.max;clear hc
      by_cases h12:12<n'
      · go_wp2_with fail
        go_ret
        exact small_no es w
      · have HS:=Hd fun h2 h3=>tinyTo_succ HT.out (show(csE es k).length≤12 by omega) h2 h3;have hd12:decide ((12:Int)<(n':Int))=false:=decide_eq_false (by omega);generalize nmE es k=x at hn0 HS
        by_cases h100:100<x.size
        · go_wp2_with fail
          go_ret
          exact small_no es w
        · have HS:=Hd fun h3=>HS.out (by omega) h3;have hd100:decide ((100:Int)<(x.size:Int))=false:=decide_eq_false (by omega)
          go_wp2_with fail
          go_loop [4] (fun i=>∃ m:Nat,m≤n'∧i=.int .i64 m∧∀ q,q<m→(ctAt es k q).size≤100) (fun i=>n' - (intOf i).toNat)
          case atStart=>exact⟨0,Nat.zero_le _,rfl,fun j hj=>absurd hj (by omega)⟩
          case round=>
           obtain⟨m,hm,rfl,hto⟩:=hrel;have HT2:=Hd hto;clear hto
           by_cases hltm:m<n'
           · obtain⟨b2,off2,rfl,hb2,hc2⟩:=hR0.at_ hltm;have hcm2:=hc2 m hltm;clear hc2;rw [show(csE es k)[m]?.getD ByteArray.empty=ctAt es k m from rfl] at hcm2
             have HN:=Hd (show(ctAt es k m).size≤100→∀ q,q<m+1→(ctAt es k q).size≤100 from fun h q hq=>by
              rcases Nat.lt_or_ge q m with h1 | h1
              · exact HT2.out q h1
              · obtain rfl:q=m:=by omega
                exact h)
             generalize ctAt es k m=y at hcm2 HN
             by_cases hy:100<y.size
             · go_wp2_with fail
               go_ret
               exact small_no es w
             · have HN:=Hd (HN.out (by omega))
               go_wp2_with fail
               go_round
               case rel=>exact⟨m+1,by omega,by go_num,HN.out⟩
               case measure=>simp [intOf];omega
           · have HS:=Hd (HS.out fun q hq=>HT2.out q (by omega))
             go_wp2_with fail
             go_round
             case rel=>exact⟨k+1,by omega,by go_num,HS.out⟩
             case measure=>simp [intOf];omega
    · have hkl:k=es.length:=by omega
      have hno:=HT.out;rw [hkl] at hno;have HY:=Hd (show EsTiny es from⟨by omega,hno⟩)
      go_wp2_with fail
      go_ret
      exact small_yes HY.out w
end
section
open Go.RowKit Go.Shelf
attribute [local go_sem] Oper.semAt_some
def isNm(name:ByteArray) (p:Pl):Bool:=p.2.2.toList==name.toList
def findE(es:List En) (name:ByteArray):Option Pl:=(flatE es).find? (isNm name)
def ctorV(o:Option Pl):Value:=.tuple #[.int .i64 (((o.map (·.1)).getD 0:Nat):Int),.int .i64 (((o.map (·.2.1)).getD 0:Nat):Int),.bool o.isSome]
theorem findE_none{es:List En}{name:ByteArray}(h:∀ p∈flatE es,isNm name p=false):findE es name=none:=by
 unfold findE;rw [List.find?_eq_none];intro p hp;rw [h p hp]
 simp
theorem findE_some{es:List En}{name:ByteArray}{ini:List Pl}{last:Pl}(hp:ini++[last] <+: flatE es) (h:∀ p∈ini,isNm name p=false) (hl:isNm name last=true):findE es name=some last:=by
 obtain⟨r,hr⟩:=hp;unfold findE;rw [← hr,List.append_assoc,List.find?_append,List.find?_eq_none.2 (fun p hp=>by rw [h p hp];simp)]
 simp [hl]
theorem three_set{W:World}{s:Nat}{t1 t2 t3:TypeId}{v1 v2 v3:Value}(u1 u2 u3:Value) (c1:Boxed W (s+1) t1 v1) (c2:Boxed W (s+1+1) t2 v2) (c3:Boxed W (s+1+1+1) t3 v3):
 ∃ W',(((W.setCell ⟨s+1,0,none⟩ u1).setCell ⟨s+1+1,0,none⟩ u2).setCell ⟨s+1+1+1,0,none⟩ u3)=W'∧Boxed W' (s+1) t1 u1∧Boxed W' (s+1+1) t2 u2∧Boxed W' (s+1+1+1) t3 u3∧KeepsOthers W W'∧Below s W W' :=
 ⟨_,rfl,((c1.set u1).other (by omega) _).other (by omega) _,((c2.other (by omega) u1).set u2).other (by omega) _,((c3.other (by omega) u1).other (by omega) u2).set u3,
  ((KeepsOthers.setCell _ _ _).trans (KeepsOthers.setCell _ _ _)).trans (KeepsOthers.setCell _ _ _),
  (((Below.refl s W).setCell (p:=⟨s+1,0,none⟩) (by show s≤s+1;omega) _).setCell (p:=⟨s+1+1,0,none⟩) (by show s≤s+1+1;omega) _).setCell (p:=⟨s+1+1+1,0,none⟩) (by show s≤s+1+1+1;omega) _⟩
theorem tyCtor_in(n:Nat) (hn:6≤n) (A:Option Addr) (len cap:Nat) (es:List En) (name:ByteArray) (w:World) (hE:RdE w A len es):
 CallsIn Fence.wide n Try.prog 16 #[.slice A len cap,.string name] w fun e w'=>e=.returned (ctorV (findE es name))∧Below w.heap.size w w':=by
 have h1:1≤n:=by omega
 refine callsIn_of_wp_marks Try.func16 rfl trivial ?_ rfl;simp only [Try.ntmps16,List.size_toArray,List.length_cons,List.length_nil,Nat.reduceAdd,Nat.reduceSub,Array.replicate_succ,Array.replicate_zero,List.push_toArray,List.append_toArray,List.nil_append,List.cons_append]
 gi_wp2_with (refine⟨trivial,?_⟩;gi_at_call 24;refine(callsIn_wide.2 (tyCtors _ _ _ _)).mono ?_;rintro e w' ⟨rfl,rfl⟩)
 have bN:=((((Boxed.new w 9 (.string name)).alloc (.cells #[.int .i64 0] 3)).alloc (.cells #[.int .i64 0] 3)).alloc (.cells #[.bool false] 4)).alloc (.cells #[.slice A len cap] 22);have b1:=(((Boxed.new (w.alloc (.cells #[.string name] 9)) 3 (.int .i64 0)).alloc (.cells #[.int .i64 0] 3)).alloc (.cells #[.bool false] 4)).alloc (.cells #[.slice A len cap] 22);have b2:=((Boxed.new ((w.alloc (.cells #[.string name] 9)).alloc (.cells #[.int .i64 0] 3)) 3 (.int .i64 0)).alloc (.cells #[.bool false] 4)).alloc (.cells #[.slice A len cap] 22);have b3:=(Boxed.new (((w.alloc (.cells #[.string name] 9)).alloc (.cells #[.int .i64 0] 3)).alloc (.cells #[.int .i64 0] 3)) 4 (.bool false)).alloc (.cells #[.slice A len cap] 22);have b4:=Boxed.new ((((w.alloc (.cells #[.string name] 9)).alloc (.cells #[.int .i64 0] 3)).alloc (.cells #[.int .i64 0] 3)).alloc (.cells #[.bool false] 4)) 22 (.slice A len cap);simp only [World.size_alloc] at b1 b2 b3 b4
 have hB0:Below w.heap.size w (((((w.alloc (.cells #[.string name] 9)).alloc (.cells #[.int .i64 0] 3)).alloc (.cells #[.int .i64 0] 3)).alloc (.cells #[.bool false] 4)).alloc (.cells #[.slice A len cap] 22)):=
  (((((Below.refl _ w).alloc (Nat.le_refl _) _).alloc (by simp) _).alloc (by simp;omega) _).alloc (by simp;omega) _).alloc (by simp;omega) _
 have hsz:(((((w.alloc (.cells #[.string name] 9)).alloc (.cells #[.int .i64 0] 3)).alloc (.cells #[.int .i64 0] 3)).alloc (.cells #[.bool false] 4)).alloc (.cells #[.slice A len cap] 22)).heap.size=w.heap.size+5:=by simp
 obtain⟨W0,hW0⟩:∃ W0,(((((w.alloc (.cells #[.string name] 9)).alloc (.cells #[.int .i64 0] 3)).alloc (.cells #[.int .i64 0] 3)).alloc (.cells #[.bool false] 4)).alloc (.cells #[.slice A len cap] 22))=W0:=⟨_,rfl⟩;rw [hW0] at bN b1 b2 b3 b4 hB0 hsz ⊢;clear hW0
 refine wpIn_rangeFunc_ownH rfl h1 (gf:=40) (lb:=#[.pointer (some ⟨w.heap.size+1+1+1+1,0,none⟩)]) rfl trivial (enters_of Try.func40 (by kernel_rfl) rfl)
  (tyIter_stops (n-1) (by omega) (w.heap.size+1+1+1+1) w A len cap es hE W0 hB0 (by omega) b4.cell) belowK_t (belowK_b (by omega)) (Below.refl _ _) (fun _=>rfl)
  (fun pre W=>((Boxed W w.heap.size 9 (.string name)∧Boxed W (w.heap.size+1) 3 (.int .i64 0)∧Boxed W (w.heap.size+1+1) 3 (.int .i64 0)∧Boxed W (w.heap.size+1+1+1) 4 (.bool false))∧∀ p∈pre,isNm name p=false)∧Below w.heap.size w W)
  (fun c pre W=>((c=.ret∧∃ ini last,pre=ini++[last]∧(∀ p∈ini,isNm name p=false)∧isNm name last=true∧Boxed W (w.heap.size+1) 3 (.int .i64 (last.1:Int))∧Boxed W (w.heap.size+1+1) 3 (.int .i64 (last.2.1:Int))∧Boxed W (w.heap.size+1+1+1) 4 (.bool true)))∧Below w.heap.size w W)
  (OwnFrom.and (OwnFrom.and (OwnFrom.and (Own.from (boxed_own _ _ (fun _=>_)) _) (OwnFrom.and (Own.from (boxed_own _ _ (fun _=>_)) _) (OwnFrom.and (Own.from (boxed_own _ _ (fun _=>_)) _) (Own.from (boxed_own _ _ (fun _=>_)) _)))) (ownFrom_pure _ _)) (ownFrom_below (Nat.le_refl _) (by omega)))
  (fun c=>OwnFrom.and (Own.from (fun s X Y row hs hg hr=>by
   obtain⟨hc,ini,last,e1,e2,e3,e4,e5,e6⟩:=hs;exact⟨hc,ini,last,e1,e2,e3,boxed_own _ _ (fun _=>_) s X Y row e4 hg hr,boxed_own _ _ (fun _=>_) s X Y row e5 hg hr,boxed_own _ _ (fun _=>_) s X Y row e6 hg hr⟩) _) (ownFrom_below (Nat.le_refl _) (by omega)))
  ⟨⟨⟨bN,b1,b2,b3⟩,by simp⟩,hB0⟩
  (fun x a' W=>∃ Bx,w.heap.size+4≤Bx∧Box2 W Bx 74 (.int .i64 (x.1:Int)) (.int .i64 (x.2.1:Int))∧a'={ tmps:=#[.slice A len cap,.string name,undef,.pointer (some ⟨w.heap.size,0,none⟩),.pointer (some ⟨w.heap.size+1,0,none⟩),.pointer (some ⟨w.heap.size+1+1,0,none⟩),.pointer (some ⟨w.heap.size+1+1+1,0,none⟩),.pointer (some ⟨Bx,0,none⟩),.string x.2.2,.slice A len cap,.func (.func 40) #[] #[.pointer (some ⟨w.heap.size+1+1+1+1,0,none⟩)],.agg #[.int .i64 (x.1:Int),.int .i64 (x.2.1:Int)],.string x.2.2,undef,undef,undef,undef,undef,undef,undef],defers:=[] })
  (fun x a'=>fun s X Y row hs hg hr=>by
   obtain⟨Bx,h1,h2,h3⟩:=hs;exact⟨Bx,h1,box2_own _ _ _ _ s X Y row h2 hg (fun r e=>(hr r e).2),h3⟩)
  ?assign ?body ?done ?stop
 case assign=>
  rintro l pre x W K ⟨⟨⟨cN,c1,c2,c3⟩,hp⟩,hB⟩ hK;have e1:=c1.cell;have e2:=c2.cell;have e3:=c3.cell;have f1:=c1.frozen;have f2:=c2.frozen;have f3:=c3.frozen;simp only [encPl]
  gi_wp2
  exact hK _ _ ((KeepsOthers.alloc _ _).from _) ((Below.refl _ W).alloc hB.size _) ⟨⟨⟨cN.alloc _,c1.alloc _,c2.alloc _,c3.alloc _⟩,hp⟩,hB.alloc hB.size _⟩ ⟨W.heap.size,by have:=c3.lt;omega,Box2.new W _ _ _,rfl⟩
 case body=>
  rintro l pre x a' W hl hr ⟨⟨⟨cN,c1,c2,c3⟩,hp⟩,hB⟩ ⟨Bx,hBx,bX,rfl⟩ hlt;have dN:=cN.cell;have d0:=bX.c0;have d1:=bX.c1;have e1:=c1.cell;have e2:=c2.cell;have e3:=c3.cell;have f1:=c1.frozen;have f2:=c2.frozen;have f3:=c3.frozen
  by_cases hx:(x.2.2.toList==name.toList)=true
  · have hmx:Try.prog.follows .mixedOrders=true:=by kernel_rfl
    gi_wp2
    gi_region_o
    all_goals gi_wp2
    all_goals
     obtain⟨W',hW',g1,g2,g3,gk,gb⟩:=three_set (.int .i64 (x.1:Int)) (.int .i64 (x.2.1:Int)) (.bool true) c1 c2 c3;rw [hW'];exact⟨(gk.trans (KeepsOthers.drew _)).from _,⟨rfl,pre,x,rfl,hp,hx,g1,g2,g3⟩,(hB.trans gb).drew⟩
  · have hx:(x.2.2.toList==name.toList)=false:=by simpa using hx
    gi_wp2
    exact⟨KeepsFrom.refl _ _,Below.refl _ _,⟨⟨cN,c1,c2,c3⟩,fun p hp'=>(List.mem_append.1 hp').elim (hp p) (fun e=>by simp at e;subst e;exact hx)⟩,hB⟩
 case done=>
  rintro D ys W hD rfl ⟨⟨⟨cN,c1,c2,c3⟩,hp⟩,hB⟩ hK;have e1:=c1.cell;have e2:=c2.cell;have e3:=c3.cell;have f1:=c1.frozen;have f2:=c2.frozen;have f3:=c3.frozen
  gi_wp2
  obtain⟨W',hW',g1,g2,g3,gk,gb⟩:=three_set (.int .i64 0) (.int .i64 0) (.bool false) c1 c2 c3;rw [hW'];have hK':=gk.same D _ hK rfl;have k1:=(g1.kept (grownBy_putObj' _ D (.deferred none)) (fun e=>by cases e;omega)).cell;have k2:=(g2.kept (grownBy_putObj' _ D (.deferred none)) (fun e=>by cases e;omega)).cell;have k3:=(g3.kept (grownBy_putObj' _ D (.deferred none)) (fun e=>by cases e;omega)).cell;refine⟨by simp,.inl ⟨_,_,rfl,run_takeDeferred hK',?_⟩⟩;refine⟨ctorV none,?_,by rw [findE_none hp],(hB.trans gb).trans (belowK_b (w:=w) (Nat.le_refl _) _ D _ _ (by omega) hK' rfl rfl)⟩
  simp [results,Try.f16,go_sem,k1,k2,k3,ctorV]
 case stop=>
  rintro D c pre W hD hpre ⟨⟨rfl,ini,last,rfl,hi,hl,c1,c2,c3⟩,hB⟩ hK;have e1:=c1.cell;have e2:=c2.cell;have e3:=c3.cell;have f1:=c1.frozen;have f2:=c2.frozen;have f3:=c3.frozen
  gi_wp2
  have k1:=(c1.kept (grownBy_putObj' _ D (.deferred none)) (fun e=>by cases e;omega)).cell;have k2:=(c2.kept (grownBy_putObj' _ D (.deferred none)) (fun e=>by cases e;omega)).cell;have k3:=(c3.kept (grownBy_putObj' _ D (.deferred none)) (fun e=>by cases e;omega)).cell;refine⟨by simp,.inl ⟨_,_,rfl,run_takeDeferred hK,?_⟩⟩;refine⟨ctorV (some last),?_,by rw [findE_some hpre hi hl],hB.trans (belowK_b (w:=w) (Nat.le_refl _) _ D _ _ (by omega) hK rfl rfl)⟩
  simp [results,Try.f16,go_sem,k1,k2,k3,ctorV]
theorem tyCtor(A:Option Addr) (len cap:Nat) (es:List En) (name:ByteArray) (w:World) (hE:RdE w A len es):
 Calls Try.prog 16 #[.slice A len cap,.string name] w fun e w'=>e=.returned (ctorV (findE es name))∧Below w.heap.size w w' :=
 callsIn_wide.1 (tyCtor_in 6 (Nat.le_refl _) A len cap es name w hE)
end
section
open Go.RowKit
end
section
open Go.RowKit Go.Sort
section
variable {P:Program}{w:World}
theorem wpList_append_dc{ops:Array Oper}{rest:List Oper}{o:Oper}{a:Act}{Q:Exit→Act→World→Prop}(hgd:o.guard=none) (s x:Operand) (t:TypeId)
 (ho:o.op=.call { callee:=.builtin .append,args:=#[s,x],argTypes:=#[t,t] })
 (base:Nat) (e:TypeId) (i:TypeInfo) (z:Value) (bytes:Nat) (ht:P.underlying t=some (.slice e)) (hi:P.info? e=some i) (hz:i.zero=some z)
 (hsize:i.size=6) (hby:i.bytes=bytes) (hzs:z.cells.size=6)
 (v:Value) (n:Nat) (xs:List Dc) (hs:a.eval s=v) (hown:w.ownsRow base e 6 v n (flD xs))
 (A:Option Addr) (m c:Nat) (l:List Dc) (hx:a.eval x=.slice A m c) (hr:RdD w A m l)
 (h63:n+m≤maxLen) (hbytes:(n+m)*bytes≤140737488355328) (hbase:base≤w.heap.size)
 (h:∀ v' w',w'.ownsRow base e 6 v' (n+m) (flD (xs++l))→w.grownBy w' v.ownBlock→wpList P ops Q rest (a.put o.dst v') w'):wpList P ops Q (o::rest) a w:=by
 obtain⟨hA,hnews⟩:=hr.news;have hlen:=RdS.len hr;rcases A with _ | ad
 · obtain rfl:m=0:=hA rfl;obtain rfl:l=[]:=List.eq_nil_of_length_eq_zero hlen;refine wpList_plain hgd fun K hK=>?_;have hrun:=run_append_nil (P:=P) (w:=w) base t o.type e i 6 ht hi v n _ hown c;unfold Oper.wp
   simp [execOp,ho,resolve,invoke,builtin,hs,hx,hrun,Result.andThen]
   exact hK _ _ (h v w (by simpa using hown) (World.grownBy.refl w _))
 · exact wpList_append_own_at w hgd s x t ho base e i z 6 bytes ht hi hz hsize hby hzs (by decide) v n _ hs hown ad m c (flD l) hx (by rw [flD_len,hlen]) (fun j u hu=>hnews ad rfl j u hu) (flD_ones l) h63 hbytes hbase fun v' w' h1 h2 _ _=>h v' w' (by rw [flD_app];exact h1) h2
end
theorem RowD.cells{w:World}{g:Nat}{d:Dc}(h:RowD w g d) (j:Nat):w.cell? ⟨g,j,none⟩=(dcA d)[j]?:=by
 unfold World.cell?;rw [show w.heap[(⟨g,j,none⟩:Addr).block]?=_ from h];rfl
def ClockAt(x:Nd) (out:Option (List Dc)) (w:World) (k:Nat) (t:ByteArray) (v:Value):Prop:=
 ∃ acc A c,v=.slice A acc.length c∧RdD w A acc.length acc∧acc.length=k∧clockR x (13-k) t acc=out
theorem ClockAt.below{x:Nd}{out:Option (List Dc)}{w w':World}{k:Nat}{t:ByteArray}{v:Value}(h:ClockAt x out w k t v) (hb:Below w.heap.size w w'):ClockAt x out w' k t v:=by
 obtain⟨acc,A,c,e,h1,h2⟩:=h;exact⟨acc,A,c,e,h1.below hb,h2⟩
end
section
open Go.RowKit Go.Sort
def listK(x:Nd) (k:Nat):List Dc:=match k with | 0=>x.ins | 1=>x.outs | _=>x.vars
def lists3(x:Nd) (A1:Option Addr) (c1:Nat) (A2:Option Addr) (c2:Nat) (A3:Option Addr) (c3:Nat):Array Value:=#[.slice A1 x.ins.length c1,.slice A2 x.outs.length c2,.slice A3 x.vars.length c3]
theorem lists_at{x:Nd}{A1:Option Addr}{c1:Nat}{A2:Option Addr}{c2:Nat}{A3:Option Addr}{c3:Nat}{A4:Option Addr}{w:World}(h:rdN w x A1 A2 A3 A4){k:Nat}(hk:k<3):
 ∃ A c,(lists3 x A1 c1 A2 c2 A3 c3)[k]?=some (.slice A (listK x k).length c)∧RdD w A (listK x k).length (listK x k):=by
 match k,hk with
 | 0,_=>exact⟨A1,c1,rfl,h.1⟩
 | 1,_=>exact⟨A2,c2,rfl,h.2.1⟩
 | 2,_=>exact⟨A3,c3,rfl,h.2.2.1⟩
end
end Go.Proofs.Ytpehkppcdlboeaa
