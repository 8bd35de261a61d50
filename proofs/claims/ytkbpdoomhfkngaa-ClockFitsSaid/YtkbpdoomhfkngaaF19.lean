/- Parts of the proof: ClZ. Conditions: each theorem's own. -/
import Derived.Test.YtkbpdoomhfkngaaF17
import Derived.Test.YtkbpdoomhfkngaaF18
namespace Go.Proofs.Ytkbpdoomhfkngaa
set_option linter.unusedVariables false
set_option linter.unusedSimpArgs false
set_option maxRecDepth 100000
set_option maxHeartbeats 40000000
section
open Go.RowKit Go.ChangeShapes Go.WideShapes Go.Deep
set_option maxRecDepth 100000
theorem cells_cds:Try.prog.cellsOf 30=1:=by kernel_rfl
theorem cells_asked:Try.prog.cellsOf 32=8:=by kernel_rfl
theorem cells_i64C:Try.prog.cellsOf 2=1:=by kernel_rfl
section
variable {H:Type}{enc:TypeId × Value→H}{w:World}{base:Nat}{spare:Nat→Bool}{held:Bool}
theorem cd_open{fuel:Nat}{cs:List Value}{x:DataW H × List MemPlace}(h:DataW.trod enc Try.prog w base spare held fuel 60 cs=some x) (hl:cs.length=2):∃ d:Cd,cs=cdL d:=by
 obtain⟨ys,m,_,_,_,hy,hf⟩:=DataW.trod_struct Try.underlying60 h
 match cs,hl with
 | [v0,v1],_=>
  match ys,hy with
  | [y0,y1],_=>
   have t0:=hf 0 _ rfl;have t1:=hf 1 _ rfl
   simp [cells_s,cells_i64C] at t0 t1
   obtain⟨s0,e0,_,_⟩:=DataW.trod_string Try.underlying9 t0;obtain⟨n,e1,_,_⟩:=DataW.trod_int Try.underlying2 t1;injection e0 with e0;injection e1 with e1;subst e0 e1;exact⟨⟨s0,n⟩,rfl⟩
theorem conds_openZ{fuel:Nat}{v:Value}{x:DataW H × List MemPlace}(h:DataW.trod enc Try.prog w base spare held fuel 30 [v]=some x):∃ A n c l,v=.slice A n c∧RdC w A n l∧n≤c:=by
 obtain⟨A,n,c,rfl,hnc⟩:∃ A n c,v=.slice A n c∧n≤c:=by
  rcases open_slice Try.underlying30 h with⟨hcs,_⟩|⟨a,len,cap,m,nn,D,Pl,hcs,_,hl,_⟩
  · simp at hcs;exact⟨_,_,_,hcs,Nat.le_refl _⟩
  · simp at hcs;exact⟨_,_,_,hcs,by omega⟩
 obtain⟨l,hl⟩:=rdS_open (α:=Cd) (k:=2) (At:=CdAt) Try.underlying30 cells_cd (by decide) (fun h=>⟨_,h 0 _ rfl⟩) (fun ht hl=>by
  obtain⟨d,rfl⟩:=cd_open ht hl;exact⟨d,fun b o hc j v hv=>hc j v hv⟩) h
 exact⟨A,n,c,l,rfl,hl,hnc⟩
theorem asked_open{v:Value}{d:DataW H}{ps:List MemPlace}{r:Reach}{b0:Nat}(hv:Value.okWide Try.prog w r b0 32 v) (h:DataW.Trod enc Try.prog w base spare held 32 v d ps):
 ∃ (nm:ByteArray) (X:Ex) (A:Option Addr) (ca:Nat) (B:Option Addr) (cb:Nat) (On:Option Addr) (n oc:Nat) (on:List Cd),v=.agg (asA nm X A ca B cb On n oc)∧rdX w X A B∧RdC w On n on∧n≤oc:=by
 obtain⟨cs,rfl,hs⟩:=okWide_struct Try.underlying32 hv;obtain⟨fuel,hf⟩:=h;rw [cells_asked] at hs;have hl:(Value.agg cs).cells.toList.length=8:=by simpa [Value.cells] using hs
 obtain⟨ys,m,_,_,_,hy,hff⟩:=DataW.trod_struct Try.underlying32 hf
 obtain⟨v0,v1,v2,v3,v4,v5,v6,v7,hcs⟩:∃ v0 v1 v2 v3 v4 v5 v6 v7,(Value.agg cs).cells.toList=[v0,v1,v2,v3,v4,v5,v6,v7]:=by
  match (Value.agg cs).cells.toList,hl with
  | [v0,v1,v2,v3,v4,v5,v6,v7],_=>exact⟨v0,v1,v2,v3,v4,v5,v6,v7,rfl⟩
 rw [hcs] at hff
 match ys,hy with
 | [y0,y1,y2],_=>
  have t0:=hff 0 _ rfl;have t1:=hff 1 _ rfl;have t2:=hff 2 _ rfl
  simp [cells_s,cells_exZ,cells_cds] at t0 t1 t2
  obtain⟨s0,e0,_,_⟩:=DataW.trod_string Try.underlying9 t0;obtain⟨X,A,ca,B,cb,e1,hx,_⟩:=ex_cells _ t1 rfl;obtain⟨On,n,oc,on,rfl,h2,h3⟩:=conds_openZ t2;injection e0 with e0;subst e0;refine⟨s0,X,A,ca,B,cb,On,n,oc,on,?_,hx,h2,h3⟩
  congr 1
  apply Array.toList_inj.1
  simp only [exL] at e1;injection e1 with e1 e2;injection e2 with e2 e3;injection e3 with e3 e4;injection e4 with e4 e5;injection e5 with e5 e6;injection e6 with e6 e7;subst e1 e2 e3 e4 e5 e6
  simpa [Value.cells,asA] using hcs
end
end
end Go.Proofs.Ytkbpdoomhfkngaa
