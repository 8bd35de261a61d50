/- Parts of the proof: TyZ. Conditions: each theorem's own. -/
import Derived.Deep.Slices
import Derived.Deep.Fields
import Derived.ChangeSame
import Derived.SliceStrings
import Derived.Test.YtpedcgpcchbhpaaGreatDoorU08
namespace Go.Proofs.YtpedcgpcchbhpaaGreatDoor
set_option linter.unusedVariables false
set_option linter.unusedSimpArgs false
set_option maxRecDepth 100000
set_option maxHeartbeats 40000000
section
set_option maxRecDepth 100000
open Go.RowKit Go.ChangeShapes Go.WideShapes Go.Deep
theorem cells_en:Tryz.prog.cellsOf 60=2:=by kernel_rfl
theorem cells_ty:Tryz.prog.cellsOf 36=3:=by kernel_rfl
theorem cells_iT:Tryz.prog.cellsOf 3=1:=by kernel_rfl
theorem cells_sT:Tryz.prog.cellsOf 9=1:=by kernel_rfl
theorem cells_ssT:Tryz.prog.cellsOf 44=1:=by kernel_rfl
section
variable {H:Type}{enc:TypeId × Value→H}{w:World}{base:Nat}{spare:Nat→Bool}{held:Bool}
theorem strs_open{fuel:Nat}{v:Value}{x:DataW H × List MemPlace}(h:DataW.trod enc Tryz.prog w base spare held fuel 44 [v]=some x):∃ A n c ss,v=.slice A n c∧RdT w A n ss:=by
 rcases Go.ChangeShapes.open_strings Tryz.underlying44 Tryz.underlying9 (by kernel_rfl) h with⟨hcs,_⟩|⟨x,l,c,ss,hcs,_,hl,hm,hss,_,hcell,hz⟩
 · simp at hcs
   subst hcs;exact⟨none,0,0,[],rfl,RdT.nil_ _⟩
 · simp at hcs
   subst hcs;have hle:l≤ss.length:=by rw [hss];split <;> omega
   exact⟨some x,l,c,ss.take l,rfl,rdT_arg hle (by unfold maxLen at hm;omega) hcell⟩
theorem en_open{fuel:Nat}{cs:List Value}{x:DataW H × List MemPlace}(h:DataW.trod enc Tryz.prog w base spare held fuel 60 cs=some x) (hl:cs.length=2):
 ∃ e:En,∃ A n c,cs=[.string e.1,.slice A n c]∧RdT w A n e.2:=by
 obtain⟨ys,m,_,_,_,hy,hf⟩:=DataW.trod_struct Tryz.underlying60 h
 match cs,hl with
 | [v0,v1],_=>
  match ys,hy with
  | [y0,y1],_=>
   have t0:=hf 0 _ rfl;have t1:=hf 1 _ rfl
   simp [cells_sT,cells_ssT] at t0 t1
   obtain⟨s,e0,_,_⟩:=DataW.trod_string Tryz.underlying9 t0;obtain⟨A,n,c,ss,rfl,hr⟩:=strs_open t1;injection e0 with e0;subst e0;exact⟨(s,ss),A,n,c,rfl,hr⟩
theorem enums_open{fuel:Nat}{A:Option Addr}{n c:Nat}{x:DataW H × List MemPlace}(h:DataW.trod enc Tryz.prog w base spare held fuel 22 [.slice A n c]=some x):∃ es,RdE w A n es:=by
 rcases open_slice Tryz.underlying22 h with⟨hcs,_⟩|⟨a,len,cap,m,nn,D,Pl,hcs,_,hl,hm,hmm,_,hi⟩
 · simp at hcs
   obtain⟨rfl,rfl,rfl⟩:=hcs;exact⟨[],RdE.nil_ _⟩
 · simp at hcs
   obtain⟨rfl,rfl,rfl⟩:=hcs;have hnm:n≤m:=by rw [hmm];split <;> omega
   have hone:∀ i,i<n→∃ e:En,w.cell? (a.add (i*2))=some (.string e.1)∧∃ A' n' c',w.cell? (a.add (i*2+1))=some (.slice A' n' c')∧RdT w A' n' e.2:=by
    intro i him;obtain⟨cs',hc,ht⟩:=hi i (by omega);rw [cells_en] at hc;obtain⟨_,hcl,hat⟩:=World.cells?_some hc;obtain⟨e,A',n',c',e1,hp⟩:=en_open ht hcl;have h0:=hat (i:=0) (by omega);have h1:=hat (i:=1) (by omega);rw [e1] at h0 h1;rw [Go.Deep.add_add] at h0 h1;exact⟨e,by simpa using h0,A',n',c',by simpa using h1,hp⟩
   obtain⟨f,hf⟩:=choose_lt (α:=En) hone;have hget:∀ i,i<n→((List.range n).map f)[i]?.getD (ByteArray.empty,[])=f i:=fun i hi=>by simp [List.getElem?_map,List.getElem?_range hi]
   refine⟨(List.range n).map f,by simp,by unfold maxLen at hm;omega,fun hn=>?_⟩;obtain⟨b,off,spot⟩:=a;have h0:=(hf 0 hn).1;have hspot:spot=none:=by simpa [Addr.add] using World.cell?_spot h0
   subst hspot;have hadd:∀ i,(⟨b,off,none⟩:Addr).add i=⟨b,off+i,none⟩:=fun i=>by unfold Addr.add;split <;> simp_all
   refine⟨b,off,rfl,World.block_lt_of_cell? w _ ((hadd 0) ▸ h0),fun i hi=>?_⟩;obtain⟨hc,A',n',c',h2,h3⟩:=hf i hi;rw [hadd] at hc h2;unfold nmE csE;rw [hget i hi];exact⟨hc,A',n',c',h2,h3⟩
theorem ty_cells{fuel:Nat}{cs:List Value}{x:DataW H × List MemPlace}(h:DataW.trod enc Tryz.prog w base spare held fuel 36 cs=some x) (hl:cs.length=3):
 ∃ k e l:Int,cs=[.int .i64 k,.int .i64 e,.int .i64 l]:=by
 obtain⟨ys,m,_,_,_,hy,hf⟩:=DataW.trod_struct Tryz.underlying36 h
 match cs,hl with
 | [v0,v1,v2],_=>
  match ys,hy with
  | [y0,y1,y2],_=>
   have t0:=hf 0 _ rfl;have t1:=hf 1 _ rfl;have t2:=hf 2 _ rfl
   simp [cells_iT] at t0 t1 t2
   obtain⟨k,e0,_,_⟩:=DataW.trod_int Tryz.underlying3 t0;obtain⟨e,e1,_,_⟩:=DataW.trod_int Tryz.underlying3 t1;obtain⟨l,e2,_,_⟩:=DataW.trod_int Tryz.underlying3 t2;injection e0 with e0;injection e1 with e1;injection e2 with e2;subst e0 e1 e2;exact⟨k,e,l,rfl⟩
end
end
end Go.Proofs.YtpedcgpcchbhpaaGreatDoor
