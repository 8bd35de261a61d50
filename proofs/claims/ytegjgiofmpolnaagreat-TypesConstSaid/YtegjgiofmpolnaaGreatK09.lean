/- Parts of the proof: PgB, PgC, PgD, TyZ. Conditions: each theorem's own. -/
import Derived.BigRegion
import Derived.Deep.Slices
import Derived.Deep.Fields
import Derived.ChangeSame
import Derived.SliceStrings
import Derived.Test.YtegjgiofmpolnaaGreatK07
import Derived.Test.YtegjgiofmpolnaaGreatK08
namespace Go.Proofs.YtegjgiofmpolnaaGreat
set_option linter.unusedVariables false
set_option linter.unusedSimpArgs false
set_option maxRecDepth 100000
set_option maxHeartbeats 40000000
section
open Go.RowKit
end
section
open Go.RowKit Go.Sort
def flD(l:List Dc):List Value:=l.flatMap dcL
theorem flD_len(l:List Dc):(flD l).length=l.length*6:=by
 induction l with
 | nil=>rfl
 | cons d l ih=>simp only [flD,List.flatMap_cons,List.length_append,List.length_cons] at ih ⊢;rw [ih];simp [dcL];omega
theorem flD_at:∀ (l:List Dc) (i j:Nat),i<l.length→j<6→(flD l)[i*6+j]?=(dcL (l[i]?.getD default))[j]?
 | t::ts,0,j,_,hj=>by
  have hz:j<(dcL t).length:=by simpa [dcL] using hj
  simp only [flD,List.flatMap_cons,Nat.zero_mul,Nat.zero_add];rw [List.getElem?_append_left hz]
  simp
 | t::ts,i+1,j,hi,hj=>by
  have ih:=flD_at ts i j (by simpa using hi) hj;have hz:(dcL t).length=6:=by simp [dcL]
  simp only [flD,List.flatMap_cons];rw [List.getElem?_append_right (by rw [hz];omega),hz,show(i+1)*6+j-6=i*6+j by omega]
  simpa [flD] using ih
section
variable {w w':World}{A:Option Addr}{n:Nat}{l:List Dc}
theorem RdD.of_own{base:Nat}{e:TypeId}{v:Value}(h:w.ownsRow base e 6 v n (flD l)) (hm:n≤9223372036854775807):∃ A c,v=.slice A n c∧RdD w A n l:=by
 have hl:l.length=n:=by
  have:=h.1;rw [flD_len] at this;omega
 rcases h.2 with⟨rfl,rfl⟩|⟨g,cap,cur,rfl,hg,hh,hnc,hcm,hcs,ht⟩
 · obtain rfl:l=[]:=List.eq_nil_of_length_eq_zero hl;exact⟨none,0,rfl,RdS.nil_ _ _ _⟩
 · refine⟨_,cap,rfl,hl,hm,fun hn=>⟨g,0,rfl,(Array.getElem?_eq_some_iff.1 hh).1,fun i hi=>?_⟩⟩;intro j v hv
   have hj:j<6:=by
    rcases Nat.lt_or_ge j 6 with h | h
    · exact h
    · rw [List.getElem?_eq_none (by simpa [dcL] using h)] at hv;cases hv
   rw [Nat.zero_add,h.cellAt (i*6+j) (by omega),flD_at l i j (by omega) hj,hv]
theorem RdD.news(h:RdD w A n l):(A=none→n=0)∧∀ ad,A=some ad→∀ j u,(flD l)[j]?=some u→w.cell? (ad.add j)=some u:=by
 constructor
 · rintro rfl;rcases Nat.eq_zero_or_pos n with h0 | h0
   · exact h0
   · obtain⟨b,off,e,_⟩:=RdS.at_ h h0;cases e
 · rintro ad rfl j u hu
   have hj:j<l.length*6:=by
    rcases Nat.lt_or_ge j (l.length*6) with h1 | h1
    · exact h1
    · rw [List.getElem?_eq_none (by rw [flD_len];exact h1)] at hu;cases hu
   have hlen:=RdS.len h;obtain⟨b,off,e,hb,hc⟩:=RdS.at_ h (by omega);injection e with e;subst e;have h6:j / 6*6+j % 6=j:=by omega
   have h7:j % 6<6:=by omega
   have h1:=hc (j / 6) (by omega);rw [add_addr];have h2:=flD_at l (j / 6) (j % 6) (by omega) h7;rw [h6,hu] at h2;have h3:=h1 (j % 6) u h2.symm;rwa [show off+j / 6*6+j % 6=off+j by omega] at h3
end
theorem info_three{P:Program}{t:TypeId}{a b c:Nat}(h:(P.info? t).map (fun i=>(i.size,i.bytes,i.zero.map fun z=>z.cells.size))=some (a,b,some c)):∃ i z,P.info? t=some i∧i.zero=some z∧i.size=a∧i.bytes=b∧z.cells.size=c:=by
 obtain⟨i,h1,h2⟩:=Option.map_eq_some_iff.1 h;simp only [Prod.mk.injEq,Option.map_eq_some_iff] at h2;obtain⟨h3,h4,z,h5,h6⟩:=h2;exact⟨i,z,h1,h5,h3,h4,h6⟩
theorem nd_facts(w:World) (x:Nd) (A1:Option Addr) (c1:Nat) (A2:Option Addr) (c2:Nat) (A3:Option Addr) (c3:Nat) (A4:Option Addr) (c4:Nat) (w1:World) (h:w.alloc (.cells (ndA x A1 c1 A2 c2 A3 c3 A4 c4) 53)=w1) (hr:rdN w x A1 A2 A3 A4):
 Below w.heap.size w w1∧w1.heap.size=w.heap.size+1∧rdN w1 x A1 A2 A3 A4∧∀ w',Below w1.heap.size w1 w'→∀ j,w'.cell? ⟨w.heap.size,j,none⟩=(ndA x A1 c1 A2 c2 A3 c3 A4 c4)[j]?:=by
 subst h;refine⟨(Below.refl _ _).alloc (Nat.le_refl _) _,by simp,hr.below ((Below.refl _ _).alloc (Nat.le_refl _) _),fun w' hb j=>?_⟩;rw [hb.cell (p:=⟨w.heap.size,j,none⟩) (by simp),World.cell?_alloc_new]
end
section
open Go.RowKit
def OkD(d:Dc):Prop:=d.nm.size≤maxLen∧d.on.size≤maxLen∧d.ct.size≤maxLen
theorem dc_facts(w:World) (d:Dc) (w1:World) (h:w.alloc (.cells (dcA d) 58)=w1):
 Below w.heap.size w w1∧w1.heap.size=w.heap.size+1∧∀ w',Below w1.heap.size w1 w'→∀ j,w'.cell? ⟨w.heap.size,j,none⟩=(dcA d)[j]?:=by
 subst h;refine⟨(Below.refl _ _).alloc (Nat.le_refl _) _,by simp,fun w' hb j=>?_⟩;rw [hb.cell (p:=⟨w.heap.size,j,none⟩) (by simp),World.cell?_alloc_new]
end
section
set_option maxRecDepth 100000
open Go.RowKit Go.ChangeShapes Go.WideShapes Go.Deep
theorem cells_en:Tryz.prog.cellsOf 79=2:=by kernel_rfl
theorem cells_sT:Tryz.prog.cellsOf 9=1:=by kernel_rfl
theorem cells_ssT:Tryz.prog.cellsOf 32=1:=by kernel_rfl
section
variable {H:Type}{enc:TypeId × Value→H}{w:World}{base:Nat}{spare:Nat→Bool}{held:Bool}
theorem strs_open{fuel:Nat}{v:Value}{x:DataW H × List MemPlace}(h:DataW.trod enc Tryz.prog w base spare held fuel 32 [v]=some x):∃ A n c ss,v=.slice A n c∧RdT w A n ss:=by
 rcases Go.ChangeShapes.open_strings Tryz.underlying32 Tryz.underlying9 (by kernel_rfl) h with⟨hcs,_⟩|⟨x,l,c,ss,hcs,_,hl,hm,hss,_,hcell,hz⟩
 · simp at hcs
   subst hcs;exact⟨none,0,0,[],rfl,RdT.nil_ _⟩
 · simp at hcs
   subst hcs;have hle:l≤ss.length:=by rw [hss];split <;> omega
   exact⟨some x,l,c,ss.take l,rfl,rdT_arg hle (by unfold maxLen at hm;omega) hcell⟩
theorem en_open{fuel:Nat}{cs:List Value}{x:DataW H × List MemPlace}(h:DataW.trod enc Tryz.prog w base spare held fuel 79 cs=some x) (hl:cs.length=2):
 ∃ e:En,∃ A n c,cs=[.string e.1,.slice A n c]∧RdT w A n e.2:=by
 obtain⟨ys,m,_,_,_,hy,hf⟩:=DataW.trod_struct Tryz.underlying79 h
 match cs,hl with
 | [v0,v1],_=>
  match ys,hy with
  | [y0,y1],_=>
   have t0:=hf 0 _ rfl;have t1:=hf 1 _ rfl
   simp [cells_sT,cells_ssT] at t0 t1
   obtain⟨s,e0,_,_⟩:=DataW.trod_string Tryz.underlying9 t0;obtain⟨A,n,c,ss,rfl,hr⟩:=strs_open t1;injection e0 with e0;subst e0;exact⟨(s,ss),A,n,c,rfl,hr⟩
theorem enums_open{fuel:Nat}{A:Option Addr}{n c:Nat}{x:DataW H × List MemPlace}(h:DataW.trod enc Tryz.prog w base spare held fuel 22 [.slice A n c]=some x):∃ es,RdE w A n es:=by
 rcases open_slice Tryz.underlying22 h with⟨hcs,_⟩|⟨a,len,cap,m,nn,D,Pl,hcs,_,hl,hm,hmm,_,hi⟩
 · simp at hcs
   obtain⟨rfl,rfl,rfl⟩:=hcs;exact⟨[],RdE.nil_ _⟩
 · simp at hcs
   obtain⟨rfl,rfl,rfl⟩:=hcs;have hnm:n≤m:=by rw [hmm];split <;> omega
   have hone:∀ i,i<n→∃ e:En,w.cell? (a.add (i*2))=some (.string e.1)∧∃ A' n' c',w.cell? (a.add (i*2+1))=some (.slice A' n' c')∧RdT w A' n' e.2:=by
    intro i him;obtain⟨cs',hc,ht⟩:=hi i (by omega);rw [cells_en] at hc;obtain⟨_,hcl,hat⟩:=World.cells?_some hc;obtain⟨e,A',n',c',e1,hp⟩:=en_open ht hcl;have h0:=hat (i:=0) (by omega);have h1:=hat (i:=1) (by omega);rw [e1] at h0 h1;rw [Go.Deep.add_add] at h0 h1;exact⟨e,by simpa using h0,A',n',c',by simpa using h1,hp⟩
   obtain⟨f,hf⟩:=choose_lt (α:=En) hone;have hget:∀ i,i<n→((List.range n).map f)[i]?.getD (ByteArray.empty,[])=f i:=fun i hi=>by simp [List.getElem?_map,List.getElem?_range hi]
   refine⟨(List.range n).map f,by simp,by unfold maxLen at hm;omega,fun hn=>?_⟩;obtain⟨b,off,spot⟩:=a;have h0:=(hf 0 hn).1;have hspot:spot=none:=by simpa [Addr.add] using World.cell?_spot h0
   subst hspot;have hadd:∀ i,(⟨b,off,none⟩:Addr).add i=⟨b,off+i,none⟩:=fun i=>by unfold Addr.add;split <;> simp_all
   refine⟨b,off,rfl,World.block_lt_of_cell? w _ ((hadd 0) ▸ h0),fun i hi=>?_⟩;obtain⟨hc,A',n',c',h2,h3⟩:=hf i hi;rw [hadd] at hc h2;unfold nmE csE;rw [hget i hi];exact⟨hc,A',n',c',h2,h3⟩
end
end
end Go.Proofs.YtegjgiofmpolnaaGreat
