/- Parts of the proof: PaR, PaS, PaU, PaV, PaX, PaY, PaZ, PaN, PaO, PaQ, PaT, PaP, PaI, PaF, PaG, PcA, PcB, PcC, PcD. Conditions: each theorem's own. -/
import Derived.Deep.RegionWith
import Derived.Deep.AppendLies
import Derived.Test.YtokiaaapgkdpmaaGreatDoorV08
import Derived.Test.YtokiaaapgkdpmaaGreatDoorV16
import Derived.Test.YtokiaaapgkdpmaaGreatDoorV17
namespace Go.Proofs.YtokiaaapgkdpmaaGreatDoor
set_option linter.unusedVariables false
set_option linter.unusedSimpArgs false
set_option maxRecDepth 100000
set_option maxHeartbeats 40000000
section
open Go.RowKit Go.Sort
def bl(b:Nat) (w:World):World:={ w with heap:=w.heap.setIfInBounds b (.cells #[] 0) }
section
variable {b:Nat}{w w':World}
theorem bl_size:(bl b w).heap.size=w.heap.size:=by simp [bl]
theorem bl_block{k:Nat}(h:k≠b):(bl b w).heap[k]?=w.heap[k]?:=by
 unfold bl;rw [Array.getElem?_setIfInBounds_ne (Ne.symm h)]
theorem bl_at{k:Nat}:(bl b w).heap[b]?=if b<w.heap.size then some (.cells #[] 0) else none:=by
 unfold bl;simp only [Array.getElem?_setIfInBounds]
 simp
theorem bl_cell{p:Addr}(h:p.block≠b):(bl b w).cell? p=w.cell? p:=by
 unfold World.cell?;rw [bl_block h]
theorem bl_some{p:Addr}{v:Value}(h:(bl b w).cell? p=some v):w.cell? p=some v:=by
 by_cases hp:p.block=b
 · unfold World.cell? at h;rw [hp,bl_at (k:=0)] at h
   split at h
   · rename_i c x y e
     split at e
     · injection e with e;injection e with e1;subst e1
       split at h <;> simp at h
     · cases e
   · cases h
 · rwa [bl_cell hp] at h
theorem bl_alloc(h:b<w.heap.size) (o:Obj):bl b (w.alloc o)=(bl b w).alloc o:=by
 have e:(w.heap.push o).setIfInBounds b (.cells #[] 0)=(w.heap.setIfInBounds b (.cells #[] 0)).push o:=by
  apply Array.ext_getElem?
  intro i;simp only [Array.getElem?_setIfInBounds,Array.getElem?_push,Array.size_setIfInBounds,Array.size_push]
  by_cases h1:b=i
  · subst h1;have h2:b≠w.heap.size:=by omega
    simp [h,h2,Nat.lt_succ_of_lt h]
  · simp [h1]
 unfold bl World.alloc;exact congrArg (fun hp=>{ w with heap:=hp }) e
theorem bl_of(h:Below w.heap.size w w'):Below w.heap.size (bl b w) (bl b w'):=by
 refine⟨h.os,h.tape,h.output,by rw [bl_size,bl_size];exact h.size,fun k hk=>?_⟩
 by_cases hb:k=b
 · subst hb;rw [bl_at (k:=0),bl_at (k:=0),if_pos hk,if_pos (Nat.lt_of_lt_of_le hk h.size)]
 · rw [bl_block hb,bl_block hb,h.block k hk]
theorem bl_modify(f:Obj→Obj):(w.heap.modify b f).setIfInBounds b (.cells #[] 0)=w.heap.setIfInBounds b (.cells #[] 0):=by
 apply Array.ext_getElem?
 intro i;simp only [Array.getElem?_setIfInBounds,Array.getElem?_modify,Array.size_modify]
 by_cases h1:b=i <;> simp [h1]
theorem bl_set(i:Nat) (v:Value):bl b (w.setCell ⟨b,i,none⟩ v)=bl b w:=by
 unfold bl World.setCell;exact congrArg (fun hp=>{ w with heap:=hp }) (bl_modify _)
theorem bl_setRow{g:Nat}(hg:g≠b) (cs:Array Value):bl b (w.setRow g cs)=(bl b w).setRow g cs:=by
 have e:∀ f:Obj→Obj,(w.heap.modify g f).setIfInBounds b (.cells #[] 0)=(w.heap.setIfInBounds b (.cells #[] 0)).modify g f:=fun f=>by
  apply Array.ext_getElem?
  intro i;simp only [Array.getElem?_setIfInBounds,Array.getElem?_modify,Array.size_modify]
  by_cases h1:b=i
  · subst h1
    simp [hg]
  · simp [h1]
 unfold bl World.setRow;exact congrArg (fun hp=>{ w with heap:=hp }) (e _)
end
def prA(v:Value) (i:Int) (bad:Bool):Array Value:=#[v,.int .i64 i,.bool bad]
def EndR(r:List Tk):Prop:=∃ q z,r=q++[z]∧z.k=6
theorem EndR.tail{t:Tk}{r:List Tk}(h:EndR (t::r)) (ht:t.k≠6):EndR r:=by
 obtain⟨q,z,e,hz⟩:=h
 cases q with
 | nil=>
  simp at e
  obtain⟨rfl,rfl⟩:=e;exact absurd hz ht
 | cons a q=>
  simp at e
  exact⟨q,z,e.2,hz⟩
theorem EndR.cons_{r:List Tk}(h:EndR r):∃ t r',r=t::r':=by
 obtain⟨q,z,rfl,_⟩:=h
 cases q with
 | nil=>exact⟨z,[],rfl⟩
 | cons a q=>exact⟨a,q++[z],rfl⟩
structure PSt (w:World) (b:Nat) (A:Option Addr) (n c:Nat) (all r:List Tk) (bad:Bool):Prop where
 row:w.heap[b]?=some (.cells (prA (.slice A n c) ((n-r.length:Nat):Int) bad) 67)
 rd:RdK (bl b w) A n all
 len:r.length≤n
 pre:all.drop (n-r.length)=r
 fin:EndR r
section
variable {w w':World}{b:Nat}{A:Option Addr}{n c:Nat}{all r:List Tk}{bad:Bool}
theorem PSt.lt(h:PSt w b A n c all r bad):b<w.heap.size:=(Array.getElem?_eq_some_iff.1 h.row).1
theorem PSt.cell(h:PSt w b A n c all r bad) (j:Nat):w.cell? ⟨b,j,none⟩=(prA (.slice A n c) ((n-r.length:Nat):Int) bad)[j]?:=by
 unfold World.cell?;rw [h.row];rfl
theorem PSt.fz(h:PSt w b A n c all r bad) (j:Nat):w.frozen? ⟨b,j,none⟩=false:=by
 unfold World.frozen?;rw [h.row]
 simp
theorem PSt.max(h:PSt w b A n c all r bad):n≤9223372036854775807:=h.rd.2.1
theorem PSt.pos(h:PSt w b A n c all r bad):1≤r.length:=by
 obtain⟨t,r',e⟩:=h.fin.cons_;rw [e];simp
theorem PSt.below(h:PSt w b A n c all r bad) (hb:Below w.heap.size w w'):PSt w' b A n c all r bad:=
 ⟨(hb.block b h.lt).trans h.row,h.rd.below (by rw [bl_size];exact bl_of hb),h.len,h.pre,h.fin⟩
theorem PSt.tok(h:PSt w b A n c all r bad):∃ t r' b0 off,r=t::r'∧A=some ⟨b0,off,none⟩∧b0≠b∧b0<w.heap.size∧n-r.length<n∧all[n-r.length]?=some t ∧
 w.cell? ⟨b0,off+(n-r.length)*4,none⟩=some (.int .i64 t.k)∧w.cell? ⟨b0,off+(n-r.length)*4+1,none⟩=some (.string (ofL t.s)) ∧
 w.cell? ⟨b0,off+(n-r.length)*4+2,none⟩=some (.int .i64 t.n)∧w.cell? ⟨b0,off+(n-r.length)*4+3,none⟩=some (.int .i64 (t.a:Int)):=by
 obtain⟨t,r',e⟩:=h.fin.cons_;have hp:=h.pos;have hl:=h.len;obtain⟨b0,off,rfl,hb0,hc⟩:=h.rd.2.2 (by omega);have hi:n-r.length<n:=by omega
 obtain⟨c0,c1,c2,c3⟩:=hc (n-r.length) hi
 have hat:all[n-r.length]?=some t:=by
  have:=h.pre;rw [e] at this ⊢;have h2:=congrArg (fun l=>l[0]?) this
  simpa using h2
 rw [hat,Option.getD_some] at c0 c1 c2 c3;refine⟨t,r',b0,off,e,rfl,?_,by rwa [bl_size] at hb0,hi,hat,bl_some c0,bl_some c1,bl_some c2,bl_some c3⟩;rintro rfl;unfold World.cell? at c0;rw [bl_at (k:=0)] at c0;simp only at c0
 split at c0
 · rename_i cc x y e2
   split at e2
   · injection e2 with e2;injection e2 with e3;subst e3
     simp at c0
   · cases e2
 · cases c0
theorem PSt.next{t:Tk}{r':List Tk}(h:PSt w b A n c all (t::r') bad) (ht:t.k≠6):PSt (w.setCell ⟨b,1,none⟩ (.int .i64 ((n-r'.length:Nat):Int))) b A n c all r' bad:=by
 have hl:=h.len;simp only [List.length_cons] at hl;refine⟨?_,by rw [bl_set];exact h.rd,by omega,?_,h.fin.tail ht⟩
 · rw [setCell_eq_setRow _ _ _ _ _ _ _ h.row,setRow_heap _ _ _ _ _ _ h.row];rfl
 · have h1:=h.pre;simp only [List.length_cons] at h1;rw [show n-r'.length=(n-(r'.length+1))+1 by omega,← List.drop_drop,h1];rfl
theorem PSt.fail(h:PSt w b A n c all r bad):PSt (w.setCell ⟨b,2,none⟩ (.bool true)) b A n c all r true:=
 ⟨by rw [setCell_eq_setRow _ _ _ _ _ _ _ h.row,setRow_heap _ _ _ _ _ _ h.row];rfl,by rw [bl_set];exact h.rd,h.len,h.pre,h.fin⟩
end
end
section
open Go.RowKit Go.Sort
section
variable {w:World}{b:Nat}{A:Option Addr}{n c:Nat}{all r:List Tk}{bad:Bool}
def PPost{α:Type}(w:World) (b:Nat) (A:Option Addr) (n c:Nat) (all:List Tk) (g:PR α) (V:α→World→Ending→Prop) (X:Ending→Prop) (e:Ending) (w':World):Prop:=
 Below w.heap.size (bl b w) (bl b w')∧match g with
  | .ok a r=>PSt w' b A n c all r false∧V a w' e
  | .bad r=>PSt w' b A n c all r true∧X e
end
end
section
open Go.RowKit Go.Sort
section
variable {w:World}{b:Nat}{A:Option Addr}{n c:Nat}{all r:List Tk}{bad:Bool}
theorem PPost.of{α:Type}{w w1 w':World}{g:PR α}{V:α→World→Ending→Prop}{X:Ending→Prop}{e:Ending}(h0:Below w.heap.size (bl b w) (bl b w1)) (h:PPost w1 b A n c all g V X e w'):PPost w b A n c all g V X e w':=by
 refine⟨h0.trans (h.1.mono ?_),h.2⟩;have:=h0.size;rwa [bl_size,bl_size] at this
theorem kb_trans{w w1 w2:World}(h0:Below w.heap.size (bl b w) (bl b w1)) (h:Below w1.heap.size (bl b w1) (bl b w2)):Below w.heap.size (bl b w) (bl b w2):=by
 refine h0.trans (h.mono ?_);have:=h0.size;rwa [bl_size,bl_size] at this
theorem kb_size{w w1:World}(h0:Below w.heap.size (bl b w) (bl b w1)):w.heap.size≤w1.heap.size:=by
 have:=h0.size;rwa [bl_size,bl_size] at this
end
end
section
open Go.RowKit Go.Sort
theorem RdT.up{w w':World}{A:Option Addr}{n:Nat}{ss:List ByteArray}(h:RdT w A n ss) (hs:w.heap.size≤w'.heap.size) (hk:∀ p v,w.cell? p=some v→w'.cell? p=some v):RdT w' A n ss:=
 ⟨h.1,h.2.1,fun hn=>by
  obtain⟨b,off,e,hb,hc⟩:=h.2.2 hn;exact⟨b,off,e,by omega,fun i hi=>hk _ _ (hc i hi)⟩⟩
mutual
theorem rdX_up{w w':World}(hs:w.heap.size≤w'.heap.size) (hk:∀ p v,w.cell? p=some v→w'.cell? p=some v):∀ (x:Ex) (A B:Option Addr),rdX w x A B→rdX w' x A B
 | .mk _ _ _ _ arms subs,A,B,h=>by
  simp only [rdX] at h ⊢;refine⟨h.1.up hs hk,h.2.1,fun hn=>?_⟩;obtain⟨b,off,e,hb,hr⟩:=h.2.2 hn;exact⟨b,off,e,by omega,rdXs_up hs hk subs b off hr⟩
theorem rdXs_up{w w':World}(hs:w.heap.size≤w'.heap.size) (hk:∀ p v,w.cell? p=some v→w'.cell? p=some v):∀ (l:List Ex) (b off:Nat),rdXs w l b off→rdXs w' l b off
 | [],_,_,_=>by simp only [rdXs]
 | x::l,b,off,h=>by
  simp only [rdXs] at h ⊢;obtain⟨⟨A,ca,B,cb,h1,h2⟩,h3⟩:=h;exact⟨⟨A,ca,B,cb,fun j v hv=>hk _ _ (h1 j v hv),rdX_up hs hk x A B h2⟩,rdXs_up hs hk l b (off+6) h3⟩
end
def fr(B:Nat) (w:World):World:={ w with heap:=w.heap.mapIdx fun i o=>if i<B then .cells #[] 0 else o }
theorem fr_size{B:Nat}{w:World}:(fr B w).heap.size=w.heap.size:=by simp [fr]
theorem fr_cell{B:Nat}{w:World}{p:Addr}(h:B≤p.block):(fr B w).cell? p=w.cell? p:=by
 unfold World.cell? fr;simp only [Array.getElem?_mapIdx]
 cases w.heap[p.block]? with
 | none=>rfl
 | some o=>simp [Nat.not_lt.2 h]
theorem fr_some{B:Nat}{w:World}{p:Addr}{v:Value}(h:(fr B w).cell? p=some v):w.cell? p=some v∧B≤p.block:=by
 by_cases hp:B≤p.block
 · exact⟨by rwa [fr_cell hp] at h,hp⟩
 · unfold World.cell? fr at h;simp only [Array.getElem?_mapIdx] at h
   cases hh:w.heap[p.block]? with
   | none=>rw [hh] at h;cases h
   | some o=>
    rw [hh] at h;simp only [Option.map_some,if_pos (Nat.not_le.1 hp)] at h
    split at h <;> simp at h
def Kp(B:Nat) (w w':World):Prop:=w.heap.size≤w'.heap.size∧∀ p v,B≤p.block→w.cell? p=some v→w'.cell? p=some v
theorem Kp.refl(B:Nat) (w:World):Kp B w w:=⟨Nat.le_refl _,fun _ _ _ h=>h⟩
theorem Kp.trans{B:Nat}{a b c:World}(h:Kp B a b) (k:Kp B b c):Kp B a c:=⟨Nat.le_trans h.1 k.1,fun p v hp hv=>k.2 p v hp (h.2 p v hp hv)⟩
theorem Kp.tree{B:Nat}{w w':World}(h:Kp B w w'){x:Ex}{A' B':Option Addr}(hx:rdX (fr B w) x A' B'):rdX (fr B w') x A' B' :=
 rdX_up (by rw [fr_size,fr_size];exact h.1) (fun p v hp=>by
  obtain⟨h1,h2⟩:=fr_some hp;rw [fr_cell h2];exact h.2 p v h2 h1) x A' B' hx
theorem Kp.of_kb{B b:Nat}{w w':World}(h:Below w.heap.size (bl b w) (bl b w')) (hb:b<B):Kp B w w':=by
 refine⟨by have:=h.size;rwa [bl_size,bl_size] at this,fun p v hp hv=>?_⟩;have hlt:p.block<w.heap.size:=World.block_lt_of_cell? w p hv;have h1:=h.block p.block hlt;rw [bl_block (by omega),bl_block (by omega)] at h1;unfold World.cell? at hv ⊢;rwa [h1]
theorem Kp.alloc(B:Nat) (w:World) (o:Obj):Kp B w (w.alloc o):=⟨by simp,fun p v _ hv=>by
 rw [World.cell?_alloc_lt _ _ _ (World.block_lt_of_cell? w p hv)];exact hv⟩
theorem Kp.setRow{B g:Nat}(w:World) (cs:Array Value) (hg:g<B):Kp B w (w.setRow g cs):=⟨by simp,fun p v hp hv=>by
 rw [cell_setRow_other _ _ _ _ (by omega)];exact hv⟩
abbrev PostX (w:World) (b:Nat) (A:Option Addr) (n c:Nat) (all:List Tk) (g:PR Ex):Ending→World→Prop:=
 PPost w b A n c all g (fun x w' e=>∃ A' ca B' cb,e=.returned (.agg (exA x A' ca B' cb))∧rdX (fr w.heap.size w') x A' B') (fun e=>∃ x A' ca B' cb,e=.returned (.agg (exA x A' ca B' cb)))
def SpecX(F:Nat) (g:Psr) (m:Nat):Prop:=∀ (w:World) (b:Nat) (A:Option Addr) (n c:Nat) (all r:List Tk),PSt w b A n c all r false→r.length≤m →
 Calls Tryz.prog F #[.pointer (some ⟨b,0,none⟩)] w (PostX w b A n c all (g r))
section
variable {w w1 w':World}{b:Nat}{A:Option Addr}{n c:Nat}{all r:List Tk}{bad:Bool}
theorem PPost.ok_{v:World}{P:Program}{F:Nat}{args:Array Value}{α:Type}{g:PR α}{V:α→World→Ending→Prop}{X:Ending→Prop}{a:α}{r:List Tk}(h:Calls P F args v (PPost w b A n c all g V X)) (e:g=.ok a r):
 Calls P F args v fun e w'=>V a w' e∧PSt w' b A n c all r false∧Below w.heap.size (bl b w) (bl b w'):=by
 subst e;exact h.mono fun e w' h=>⟨h.2.2,h.2.1,h.1⟩
theorem PPost.bad_{v:World}{P:Program}{F:Nat}{args:Array Value}{α:Type}{g:PR α}{V:α→World→Ending→Prop}{X:Ending→Prop}{r:List Tk}(h:Calls P F args v (PPost w b A n c all g V X)) (e:g=.bad r):
 Calls P F args v fun e w'=>X e∧PSt w' b A n c all r true∧Below w.heap.size (bl b w) (bl b w'):=by
 subst e;exact h.mono fun e w' h=>⟨h.2.2,h.2.1,h.1⟩
def RowX(w:World) (g:Nat) (x:Ex) (A:Option Addr) (ca:Nat) (B:Option Addr) (cb:Nat):Prop:=w.heap[g]?=some (Obj.cells (exA x A ca B cb) 26)
def zX:Ex:=.mk 0 0 ByteArray.empty 0 [] []
theorem RowX.lt{g:Nat}{x:Ex}{A:Option Addr}{ca:Nat}{B:Option Addr}{cb:Nat}(h:RowX w g x A ca B cb):g<w.heap.size:=(Array.getElem?_eq_some_iff.1 h).1
theorem RowX.kb{g:Nat}{x:Ex}{A':Option Addr}{ca:Nat}{B:Option Addr}{cb:Nat}(h:RowX w g x A' ca B cb) (hg:g≠b) (hb:Below w.heap.size (bl b w) (bl b w')):RowX w' g x A' ca B cb:=by
 have h1:=hb.block g h.lt;rw [bl_block hg,bl_block hg] at h1;exact h1.trans h
theorem RowX.alloc{g:Nat}{x:Ex}{A':Option Addr}{ca:Nat}{B:Option Addr}{cb:Nat}(h:RowX w g x A' ca B cb) (o:Obj):RowX (w.alloc o) g x A' ca B cb:=by
 unfold RowX;rw [Below.heap_alloc _ _ _ h.lt];exact h
theorem RowX.set{g:Nat}{x y:Ex}{A' A2:Option Addr}{ca ca2:Nat}{B B2:Option Addr}{cb cb2:Nat}(h:RowX w g x A' ca B cb):RowX (w.setRow g (exA y A2 ca2 B2 cb2)) g y A2 ca2 B2 cb2:=setRow_heap _ _ _ _ _ _ h
theorem kb_setRow{g:Nat}(h:Below w.heap.size (bl b w) (bl b w1)) (hg:g≠b) (hw:w.heap.size≤g) (cs:Array Value):Below w.heap.size (bl b w) (bl b (w1.setRow g cs)):=by
 rw [bl_setRow hg];exact below_setRow h hw cs
theorem kb_alloc(h:Below w.heap.size (bl b w) (bl b w1)) (hb:b<w1.heap.size) (o:Obj):Below w.heap.size (bl b w) (bl b (w1.alloc o)):=by
 rw [bl_alloc hb];exact h.alloc (by have:=h.size;rw [bl_size] at this;omega) o
theorem PSt.alloc(h:PSt w b A n c all r bad) (o:Obj):PSt (w.alloc o) b A n c all r bad:=h.below ((Below.refl _ _).alloc (Nat.le_refl _) o)
theorem PSt.setRow(h:PSt w b A n c all r bad){g:Nat}(hg:g≠b) (hA:∀ b0 off,A=some ⟨b0,off,none⟩→b0≠g) (cs:Array Value):PSt (w.setRow g cs) b A n c all r bad:=by
 refine⟨(setRow_other _ _ _ _ (Ne.symm hg)).trans h.row,?_,h.len,h.pre,h.fin⟩;obtain⟨h1,h2,h3⟩:=h.rd;refine⟨h1,h2,fun hn=>?_⟩;obtain⟨b0,off,e,hlt,hc⟩:=h3 hn;refine⟨b0,off,e,by rw [bl_size,setRow_size];rwa [bl_size] at hlt,fun i hi=>?_⟩
 have hx:∀ p:Addr,p.block=b0→(bl b (w.setRow g cs)).cell? p=(bl b w).cell? p:=fun p hp=>by
  rw [bl_setRow hg,cell_setRow_other _ _ _ _ (by rw [hp];exact hA b0 off e)]
 obtain⟨c0,c1,c2,c3⟩:=hc i hi;exact⟨(hx _ rfl).trans c0,(hx _ rfl).trans c1,(hx _ rfl).trans c2,(hx _ rfl).trans c3⟩
end
end
section
open Go.RowKit Go.Sort
section
variable {w:World}{b:Nat}{A:Option Addr}{n c:Nat}{all r:List Tk}{bad:Bool}{m:Nat}
end
end
section
open Go.RowKit Go.Sort
section
variable {w:World}{b:Nat}{A:Option Addr}{n c:Nat}{all r:List Tk}{bad:Bool}{m:Nat}
theorem RowX.cells{w:World}{g:Nat}{x:Ex}{A1:Option Addr}{ca1:Nat}{B1:Option Addr}{cb1:Nat}(h:RowX w g x A1 ca1 B1 cb1):
 w.cell? ⟨g,0,none⟩=some (.int .i64 x.k)∧w.cell? ⟨g,1,none⟩=some (.int .i64 x.n)∧w.cell? ⟨g,2,none⟩=some (.string x.s)∧w.cell? ⟨g,3,none⟩=some (.int .i64 x.op) ∧
  w.cell? ⟨g,4,none⟩=some (.slice A1 x.arms.length ca1)∧w.cell? ⟨g,5,none⟩=some (.slice B1 x.subs.length cb1):=by
 have hc:∀ j,w.cell? ⟨g,j,none⟩=(exA x A1 ca1 B1 cb1)[j]?:=fun j=>by
  unfold World.cell?;rw [show w.heap[(⟨g,j,none⟩:Addr).block]?=_ from h];rfl
 exact⟨hc 0,hc 1,hc 2,hc 3,hc 4,hc 5⟩
theorem RowX.fz{w:World}{g:Nat}{x:Ex}{A1:Option Addr}{ca1:Nat}{B1:Option Addr}{cb1:Nat}(h:RowX w g x A1 ca1 B1 cb1) (j:Nat):w.frozen? ⟨g,j,none⟩=false:=by
 unfold World.frozen?;rw [show w.heap[(⟨g,j,none⟩:Addr).block]?=_ from h]
 simp
theorem RowX.other{g h:Nat}{x:Ex}{A1:Option Addr}{ca1:Nat}{B1:Option Addr}{cb1:Nat}(k:RowX w g x A1 ca1 B1 cb1) (hn:g≠h) (cs:Array Value):RowX (w.setRow h cs) g x A1 ca1 B1 cb1:=(setRow_other _ _ _ _ hn).trans k
theorem RowX.drew{g:Nat}{x:Ex}{A1:Option Addr}{ca1:Nat}{B1:Option Addr}{cb1:Nat}(k:RowX w g x A1 ca1 B1 cb1):RowX w.drew g x A1 ca1 B1 cb1:=k
theorem six_set{w:World}{g:Nat}{x:Ex}{A1:Option Addr}{ca1:Nat}{B1:Option Addr}{cb1:Nat}(h:RowX w g x A1 ca1 B1 cb1) (y:Ex) (A2:Option Addr) (ca2:Nat) (B2:Option Addr) (cb2:Nat):
 (((((w.setCell ⟨g,0,none⟩ (.int .i64 y.k)).setCell ⟨g,1,none⟩ (.int .i64 y.n)).setCell ⟨g,2,none⟩ (.string y.s)).setCell ⟨g,3,none⟩ (.int .i64 y.op)).setCell ⟨g,4,none⟩ (.slice A2 y.arms.length ca2)).setCell ⟨g,5,none⟩ (.slice B2 y.subs.length cb2)=w.setRow g (exA y A2 ca2 B2 cb2):=by
 have h0:w.heap[g]?=some (.cells (exA x A1 ca1 B1 cb1) 26 (0,0)):=h;rw [setCell_eq_setRow _ _ _ _ _ _ _ h0];have h1:=setRow_heap _ _ _ ((exA x A1 ca1 B1 cb1).setIfInBounds 0 (.int .i64 y.k)) _ _ h0;rw [setCell_eq_setRow _ _ _ _ _ _ _ h1,setRow_setRow];have h2:=setRow_heap _ _ _ (((exA x A1 ca1 B1 cb1).setIfInBounds 0 (.int .i64 y.k)).setIfInBounds 1 (.int .i64 y.n)) _ _ h0;rw [setCell_eq_setRow _ _ _ _ _ _ _ h2,setRow_setRow];have h3:=setRow_heap _ _ _ ((((exA x A1 ca1 B1 cb1).setIfInBounds 0 (.int .i64 y.k)).setIfInBounds 1 (.int .i64 y.n)).setIfInBounds 2 (.string y.s)) _ _ h0;rw [setCell_eq_setRow _ _ _ _ _ _ _ h3,setRow_setRow];have h4:=setRow_heap _ _ _ (((((exA x A1 ca1 B1 cb1).setIfInBounds 0 (.int .i64 y.k)).setIfInBounds 1 (.int .i64 y.n)).setIfInBounds 2 (.string y.s)).setIfInBounds 3 (.int .i64 y.op)) _ _ h0;rw [setCell_eq_setRow _ _ _ _ _ _ _ h4,setRow_setRow];have h5:=setRow_heap _ _ _ ((((((exA x A1 ca1 B1 cb1).setIfInBounds 0 (.int .i64 y.k)).setIfInBounds 1 (.int .i64 y.n)).setIfInBounds 2 (.string y.s)).setIfInBounds 3 (.int .i64 y.op)).setIfInBounds 4 (.slice A2 y.arms.length ca2)) _ _ h0;rw [setCell_eq_setRow _ _ _ _ _ _ _ h5,setRow_setRow];rfl
theorem kb_undrew{w w':World}(h:Below w.drew.heap.size (bl b w.drew) (bl b w')):Below w.heap.size (bl b w) (bl b w'):=⟨h.os,h.tape,h.output,h.size,h.block⟩
theorem kb_drew{w w':World}(h:Below w.heap.size (bl b w) (bl b w')):Below w.heap.size (bl b w) (bl b w'.drew):=⟨h.os,h.tape,h.output,h.size,h.block⟩
theorem SpecX.drew{F:Nat}{g:Psr}(H:SpecX F g m) (h:PSt w b A n c all r false) (hr:r.length≤m):Calls Tryz.prog F #[.pointer (some ⟨b,0,none⟩)] w.drew (PostX w b A n c all (g r)):=
 (H w.drew b A n c all r (h.below (below_drewN (Below.refl _ _) 1)) hr).mono fun e w' h=>⟨kb_undrew h.1,h.2⟩
theorem PSt.drew(h:PSt w b A n c all r bad):PSt w.drew b A n c all r bad:=h.below (below_drewN (Below.refl _ _) 1)
theorem Kp.new{B g:Nat}{w2 w5:World}(K:Kp B w2 w5) (hg:w2.heap.size≤g) (cs:Array Value):Kp B w2 (w5.setRow g cs):=⟨by rw [setRow_size];exact K.1,fun p v hp hv=>by
 have hlt:=World.block_lt_of_cell? w2 p hv;rw [cell_setRow_other _ _ _ _ (by omega)];exact K.2 p v hp hv⟩
end
end
section
open Go.RowKit Go.Sort
section
variable {w:World}{b:Nat}{A:Option Addr}{n c:Nat}{all r:List Tk}{bad:Bool}{m:Nat}
def zsL(zs:List (Int × ByteArray)):List (Int × List UInt8):=zs.map fun z=>(z.1,z.2.data.toList)
theorem sign_none:∀ (zs:List (Int × ByteArray)),(∀ i,i<zs.length→isP (zs[i]?.getD default).2.data.toList r=false)→signP (zsL zs) r=0
 | [],_=>rfl
 | z::zs,h=>by
  have h0:=h 0 (by simp);simp only [List.getElem?_cons_zero,Option.getD_some] at h0;simp only [zsL,List.map_cons,signP,h0,Bool.false_eq_true,if_false]
  exact sign_none zs fun i hi=>by
   have:=h (i+1) (by simpa using hi)
   simpa using this
theorem sign_first:∀ (zs:List (Int × ByteArray)) (k:Nat),k<zs.length→(∀ i,i<k→isP (zs[i]?.getD default).2.data.toList r=false)→isP (zs[k]?.getD default).2.data.toList r=true→signP (zsL zs) r=(zs[k]?.getD default).1
 | z::zs,0,_,_,h=>by
  simp only [List.getElem?_cons_zero,Option.getD_some] at h
  simp [zsL,signP,h]
 | z::zs,k+1,hk,h,h1=>by
  have h0:=h 0 (by omega);simp only [List.getElem?_cons_zero,Option.getD_some] at h0;simp only [zsL,List.map_cons,signP,h0,Bool.false_eq_true,if_false,List.getElem?_cons_succ];exact sign_first zs k (by simpa using hk) (fun i hi=>by simpa using h (i+1) (by omega)) (by simpa using h1)
structure SgAt (w:World) (b g1 g2:Nat) (zs:List (Int × ByteArray)):Prop where
 o:∀ i,i<zs.length→(bl b w).cell? ⟨g1,i,none⟩=some (.int .i64 (zs[i]?.getD default).1)
 s:∀ i,i<zs.length→(bl b w).cell? ⟨g2,i,none⟩=some (.string (zs[i]?.getD default).2)
theorem SgAt.kb{w w':World}{g1 g2:Nat}{zs:List (Int × ByteArray)}(h:SgAt w b g1 g2 zs) (hb:Below w.heap.size (bl b w) (bl b w')):SgAt w' b g1 g2 zs:=
 ⟨fun i hi=>(hb.cell (by have:=World.block_lt_of_cell? _ _ (h.o i hi);rwa [bl_size] at this)).trans (h.o i hi),fun i hi=>(hb.cell (by have:=World.block_lt_of_cell? _ _ (h.s i hi);rwa [bl_size] at this)).trans (h.s i hi)⟩
end
end
section
open Go.RowKit Go.Sort
end
section
open Go.RowKit Go.Sort
section
variable {w:World}{b:Nat}{A:Option Addr}{n c:Nat}{all r:List Tk}{bad:Bool}{m:Nat}
theorem SpecX.any{F:Nat}{g:Psr}(H:SpecX F g m) (h:PSt w b A n c all r false) (hr:r.length≤m):Calls Tryz.prog F #[.pointer (some ⟨b,0,none⟩)] w fun e w' =>
 ∃ e0 A' ca B' cb bd r1,e=.returned (.agg (exA e0 A' ca B' cb))∧PSt w' b A n c all r1 bd∧Below w.heap.size (bl b w) (bl b w')∧(bd=false∧g r=.ok e0 r1∧rdX (fr w.heap.size w') e0 A' B'∨bd=true∧g r=.bad r1):=
 (H w b A n c all r h hr).mono fun e w' k=>by
  cases hg:g r with
  | ok e0 r1=>
   rw [hg] at k;obtain⟨k1,k2,A',ca,B',cb,k3,k4⟩:=k;exact⟨e0,A',ca,B',cb,false,r1,k3,k2,k1,.inl ⟨rfl,rfl,k4⟩⟩
  | bad r1=>
   rw [hg] at k;obtain⟨k1,k2,y,A',ca,B',cb,k3⟩:=k;exact⟨y,A',ca,B',cb,true,r1,k3,k2,k1,.inr ⟨rfl,rfl⟩⟩
def placeOf(b:Nat) (w:World):Nat:=(intOf ((w.cell? ⟨b,1,none⟩).getD undef)).toNat
theorem PSt.place(h:PSt w b A n c all r bad):placeOf b w=n-r.length:=by
 unfold placeOf;rw [show w.cell? ⟨b,1,none⟩=some (.int .i64 ((n-r.length:Nat):Int)) from h.cell 1]
 simp [intOf]
end
end
section
open Go.RowKit Go.Sort
section
variable {w:World}{b:Nat}{A:Option Addr}{n c:Nat}{all r:List Tk}{bad:Bool}{m:Nat}
end
end
section
open Go.RowKit Go.Sort
section
variable {w:World}{b:Nat}{A:Option Addr}{n c:Nat}{all r:List Tk}{bad:Bool}{m:Nat}
def WhenA(w:World) (b:Nat) (A:Option Addr) (n c:Nat) (all:List Tk) (g:PR (List UInt8 × List UInt8)) (e:Ending) (w':World):Prop:=
 ∃ s t bd r1,e=.returned (.tuple #[.string s,.string t])∧PSt w' b A n c all r1 bd∧Below w.heap.size (bl b w) (bl b w')∧(bd=false∧(∃ z,g=.ok z r1∧s=ofB z.1∧t=ofB z.2)∨bd=true∧g=.bad r1)
theorem WhenA.post{g:PR (List UInt8 × List UInt8)}{e:Ending}{w':World}(h:WhenA w b A n c all g e w'):
 PPost w b A n c all g (fun z _ e=>e=.returned (.tuple #[.string (ofB z.1),.string (ofB z.2)])) (fun e=>∃ s t,e=.returned (.tuple #[.string s,.string t])) e w':=by
 obtain⟨s,t,bd,r1,he,h1,h2,h3⟩:=h;rcases h3 with⟨rfl,z,rfl,rfl,rfl⟩|⟨rfl,rfl⟩
 · exact⟨h2,h1,he⟩
 · exact⟨h2,h1,s,t,he⟩
end
end
section
open Go.RowKit Go.Sort
section
variable {w:World}{b:Nat}{A:Option Addr}{n c:Nat}{all r:List Tk}{bad:Bool}{m:Nat}
end
end
section
open Go.RowKit Go.Sort
section
variable {w:World}{b:Nat}{A:Option Addr}{n c:Nat}{all r:List Tk}{bad:Bool}{m:Nat}
end
end
section
open Go.RowKit Go.Sort
section
variable {w:World}{b:Nat}{A:Option Addr}{n c:Nat}{all r:List Tk}{bad:Bool}{m:Nat}
theorem RowX.setCell{g:Nat}{x:Ex}{A1:Option Addr}{ca1:Nat}{B1:Option Addr}{cb1:Nat}(h:RowX w g x A1 ca1 B1 cb1) (hg:g≠b) (i:Nat) (v:Value):RowX (w.setCell ⟨b,i,none⟩ v) g x A1 ca1 B1 cb1:=by
 unfold RowX World.setCell at *;simp only [Array.getElem?_modify];rw [if_neg (Ne.symm hg)];exact h
end
end
section
open Go.RowKit Go.Sort
def fx(B:Nat) (N:List Nat) (w:World):World:={ w with heap:=w.heap.mapIdx fun i o=>if i<B∨i∈N then .cells #[] 0 else o }
theorem fx_size{B:Nat}{N:List Nat}{w:World}:(fx B N w).heap.size=w.heap.size:=by simp [fx]
theorem fx_cell{B:Nat}{N:List Nat}{w:World}{p:Addr}(h:B≤p.block) (hn:p.block∉N):(fx B N w).cell? p=w.cell? p:=by
 unfold World.cell? fx;simp only [Array.getElem?_mapIdx]
 cases w.heap[p.block]? with
 | none=>rfl
 | some o=>simp [Nat.not_lt.2 h,hn]
theorem fx_some{B:Nat}{N:List Nat}{w:World}{p:Addr}{v:Value}(h:(fx B N w).cell? p=some v):w.cell? p=some v∧B≤p.block∧p.block∉N:=by
 by_cases hp:p.block<B∨p.block∈N
 · unfold World.cell? fx at h;simp only [Array.getElem?_mapIdx] at h
   cases hh:w.heap[p.block]? with
   | none=>rw [hh] at h;cases h
   | some o=>
    rw [hh] at h;simp only [Option.map_some,if_pos hp] at h
    split at h <;> simp at h
 · simp only [not_or,Nat.not_lt] at hp;exact⟨by rwa [fx_cell hp.1 hp.2] at h,hp.1,hp.2⟩
theorem flT_up{w w':World}(hs:w.heap.size≤w'.heap.size) (hk:∀ p v,w.cell? p=some v→w'.cell? p=some v):∀ {l:List Ex}{cs:List Value},flX w l cs→flX w' l cs
 | [],cs,h=>h
 | x::l,cs,h=>by
  obtain⟨A,ca,B,cb,cs1,rfl,h1,h2⟩:=h;exact⟨A,ca,B,cb,cs1,rfl,rdX_up hs hk x A B h1,flT_up hs hk h2⟩
theorem fl_down{B B2:Nat}{N:List Nat}{w:World}{l:List Ex}{cs:List Value}(h:flX (fx B2 N w) l cs) (hB:B≤B2):flX (fr B w) l cs:=
 flT_up (by rw [fx_size,fr_size];exact Nat.le_refl _) (fun p v hp=>by
  obtain⟨h1,h2,h3⟩:=fx_some hp;rw [fr_cell (by omega)];exact h1) h
theorem row_rd{B B2 k cap:Nat}{A1:Option Addr}{N:List Nat}{T:TypeId}{w:World}{l:List Ex}{cs:List Value}(ho:w.ownsRow B T 6 (.slice A1 k cap) k cs) (hl:l.length=k) (hf:flX (fx B N w) l cs) (hB:B2≤B) (hk:k≤9223372036854775807):RdX (fr B2 w) A1 k l:=by
 refine⟨hl,hk,fun hn=>?_⟩;obtain⟨g,cap2,e,_⟩:=ho.form hn;injection e with e _ _;subst e;have hgl:=ho.lt g rfl;refine⟨g,0,rfl,by rw [fr_size];exact hgl.2,flX_rd (fl_down hf hB) fun j v hj=>?_⟩
 show(fr B2 w).cell? _=some v
 rw [fr_cell (by show B2≤g;have:=hgl.1;omega),Nat.zero_add];rw [ho.cellAt j (by rw [← ho.1];exact(List.getElem?_eq_some_iff.1 hj).1),hj]
theorem own_alloc{w:World}{base:Nat}{e:TypeId}{size:Nat}{v:Value}{n:Nat}{xs:List Value}(h:w.ownsRow base e size v n xs) (o:Obj):(w.alloc o).ownsRow base e size v n xs:=own_belowX h ((Below.refl _ _).alloc (Nat.le_refl _) o)
section
variable {w:World}{b:Nat}{A:Option Addr}{n c:Nat}{all r:List Tk}{bad:Bool}{m:Nat}
theorem own_kb{w':World}{base k:Nat}{v:Value}{e:TypeId}{size:Nat}{xs:List Value}(h:w.ownsRow base e size v k xs) (hg:∀ g,v.ownBlock=some g→g≠b) (hb:Below w.heap.size (bl b w) (bl b w')):w'.ownsRow base e size v k xs:=by
 refine⟨h.1,?_⟩;rcases h.2 with h | ⟨g,cap,cur,e1,hg2,hh,r2⟩
 · exact .inl h
 · have hgb:=hg g (by rw [e1];rfl);have h1:=hb.block g (Array.getElem?_eq_some_iff.1 hh).1;rw [bl_block hgb,bl_block hgb] at h1;exact .inr ⟨g,cap,cur,e1,hg2,h1.trans hh,r2⟩
theorem PSt.grown{w':World}{row:Option Nat}(h:PSt w b A n c all r bad) (hg:w.grownBy w' row) (hb:row≠some b) (hA:∀ b0 off,A=some ⟨b0,off,none⟩→row≠some b0):PSt w' b A n c all r bad:=by
 refine⟨(hg.block b h.lt (fun e=>hb e.symm)).trans h.row,?_,h.len,h.pre,h.fin⟩;obtain⟨h1,h2,h3⟩:=h.rd;refine⟨h1,h2,fun hn=>?_⟩;obtain⟨b0,off,e,hlt,hc⟩:=h3 hn;have hlt':b0<w.heap.size:=by rwa [bl_size] at hlt
 have hx:∀ p:Addr,p.block=b0→(bl b w').cell? p=(bl b w).cell? p:=fun p hp=>by
  by_cases hpb:b0=b
  · unfold World.cell?;rw [hp,hpb,bl_at (k:=0),bl_at (k:=0),if_pos h.lt,if_pos (Nat.lt_of_lt_of_le h.lt hg.size)]
  · rw [bl_cell (by rw [hp];exact hpb),bl_cell (by rw [hp];exact hpb)];exact hg.cell_far p (by rw [hp];exact hlt') (by rw [hp];exact fun e2=>hA b0 off e e2.symm)
 refine⟨b0,off,e,by rw [bl_size];exact Nat.lt_of_lt_of_le hlt' hg.size,fun i hi=>?_⟩;obtain⟨c0,c1,c2,c3⟩:=hc i hi;exact⟨(hx _ rfl).trans c0,(hx _ rfl).trans c1,(hx _ rfl).trans c2,(hx _ rfl).trans c3⟩
theorem kb_grown{w1 w':World}{row:Option Nat}(h:Below w.heap.size (bl b w) (bl b w1)) (hg:w1.grownBy w' row) (hr:∀ k,row=some k→w.heap.size≤k):Below w.heap.size (bl b w) (bl b w'):=by
 have hs:=h.size;rw [bl_size,bl_size] at hs;refine⟨hg.os.trans h.os,hg.tape.trans h.tape,hg.output.trans h.output,by rw [bl_size,bl_size];exact Nat.le_trans hs hg.size,fun k hk=>?_⟩
 by_cases hkb:k=b
 · subst hkb;rw [← h.block k hk,bl_at (k:=0),bl_at (k:=0),if_pos (Nat.lt_of_lt_of_le hk hs),if_pos (Nat.lt_of_lt_of_le hk (Nat.le_trans hs hg.size))]
 · have h1:=h.block k hk;rw [bl_block hkb,bl_block hkb] at h1 ⊢;rw [hg.block k (Nat.lt_of_lt_of_le hk hs) (fun e=>by have:=hr k e.symm;omega),h1]
end
end
section
open Go.RowKit Go.Sort
section
variable {w:World}{b:Nat}{A:Option Addr}{n c:Nat}{all r:List Tk}{bad:Bool}{m:Nat}
theorem own_set{W:World}{h base k:Nat}{v:Value}{e:TypeId}{size:Nat}{xs:List Value}(ho:W.ownsRow base e size v k xs) (hn:∀ g,v.ownBlock=some g→g≠h) (cs:Array Value):(W.setRow h cs).ownsRow base e size v k xs:=by
 refine⟨ho.1,?_⟩;rcases ho.2 with h1 | ⟨g,cap,cur,e1,hg2,hh,r2⟩
 · exact .inl h1
 · exact .inr ⟨g,cap,cur,e1,hg2,(setRow_other _ _ _ _ (hn g (by rw [e1];rfl))).trans hh,r2⟩
theorem RowX.grown{w':World}{row:Option Nat}{h:Nat}{x:Ex}{A1:Option Addr}{ca1:Nat}{B1:Option Addr}{cb1:Nat}(k:RowX w h x A1 ca1 B1 cb1) (hg:w.grownBy w' row) (hn:row≠some h):RowX w' h x A1 ca1 B1 cb1:=
 (hg.block h k.lt (fun e=>hn e.symm)).trans k
end
end
section
open Go.RowKit Go.Sort
theorem ow_ne{w:World}{base:Nat}{e:TypeId}{size:Nat}{v:Value}{n:Nat}{xs:List Value}(h:w.ownsRow base e size v n xs){b:Nat}{cs:Array Value}{T:TypeId}{fz:Nat × Nat}(hb:w.heap[b]?=some (.cells cs T fz)) (hT:e≠T):v.ownBlock≠some b:=by
 rcases h.2 with⟨rfl,_⟩|⟨g,cap,cur,rfl,hg,hh,r⟩
 · intro h;cases h
 · intro h;simp only [Value.ownBlock,Option.some.injEq] at h;subst h;rw [hh] at hb;injection hb with hb;injection hb with _ hb;exact hT hb
theorem ow_ne2{w:World}{base base':Nat}{e e':TypeId}{size size':Nat}{v v':Value}{n n':Nat}{xs xs':List Value}(h:w.ownsRow base e size v n xs) (h':w.ownsRow base' e' size' v' n' xs') (hT:e≠e'){k:Nat}(hk:v.ownBlock=some k):v'.ownBlock≠some k:=by
 rcases h'.2 with⟨rfl,_⟩|⟨g,cap,cur,rfl,hg,hh,r⟩
 · intro h;cases h
 · intro hk';simp only [Value.ownBlock,Option.some.injEq] at hk';subst hk';exact ow_ne h hh hT hk
theorem own_grown{w w':World}{base k:Nat}{v:Value}{e:TypeId}{size:Nat}{xs:List Value}{row:Option Nat}(h:w.ownsRow base e size v k xs) (hg:w.grownBy w' row) (hn:∀ g,v.ownBlock=some g→row≠some g):w'.ownsRow base e size v k xs:=by
 refine⟨h.1,?_⟩;rcases h.2 with h | ⟨g,cap,cur,e1,hg2,hh,r2⟩
 · exact .inl h
 · exact .inr ⟨g,cap,cur,e1,hg2,(hg.block g (Array.getElem?_eq_some_iff.1 hh).1 (fun e=>hn g (by rw [e1];rfl) e.symm)).trans hh,r2⟩
section
variable {w:World}{b:Nat}{A:Option Addr}{n c:Nat}{all r:List Tk}{bad:Bool}{m:Nat}
structure MgE (w:World) (B0 b hb:Nat) (A:Option Addr):Prop where
 gb:w.heap.size≠b
 h1:w.heap.size≤hb
 h2:hb≠b
 h3:w.heap.size≠hb
 h4:hb<B0
 bB:b<B0
 wB:w.heap.size<B0
 hA:∀ b0 off,A=some ⟨b0,off,none⟩→b0<w.heap.size
structure MgS (w v:World) (B0 b hb:Nat) (A:Option Addr) (n c:Nat) (all:List Tk) (sv:ByteArray) (arms:List ByteArray) (subs:List Ex) (na ns:Nat) (A4:Option Addr) (c4:Nat) (A5:Option Addr) (c5:Nat) (cs:List Value) (ri:List Tk) (bd:Bool):Prop where
 st:PSt v b A n c all ri bd
 kb:Below w.heap.size (bl b w) (bl b v)
 bx:RowX v hb (.mk 12 0 sv 0 arms subs) A4 c4 A5 c5
 rs:RowX v w.heap.size zX none 0 none 0
 oa:v.ownsRow B0 9 1 (.slice A4 na c4) na (arms.map Value.string)
 os:v.ownsRow B0 26 6 (.slice A5 ns c5) ns cs
 la:arms.length=na
 ls:subs.length=ns
def mgN(A4 A5:Option Addr):List Nat:=(A4.map Addr.block).toList++(A5.map Addr.block).toList
variable {v v9 u:World}{B0 hb:Nat}{sv sa:ByteArray}{arms:List ByteArray}{subs:List Ex}{na ns:Nat}{A4:Option Addr}{c4:Nat}{A5:Option Addr}{c5:Nat}{cs:List Value}{ri r1:List Tk}{bd bd1:Bool}
theorem MgS.ga(h:MgS w v B0 b hb A n c all sv arms subs na ns A4 c4 A5 c5 cs ri bd){g:Nat}(e:(Value.slice A4 na c4).ownBlock=some g):B0≤g∧g<v.heap.size:=h.oa.lt g e
theorem MgS.gs(h:MgS w v B0 b hb A n c all sv arms subs na ns A4 c4 A5 c5 cs ri bd){g:Nat}(e:(Value.slice A5 ns c5).ownBlock=some g):B0≤g∧g<v.heap.size:=h.os.lt g e
theorem MgS.move(E:MgE w B0 b hb A) (h:MgS w v B0 b hb A n c all sv arms subs na ns A4 c4 A5 c5 cs ri bd) (hp:PSt u b A n c all r1 bd1) (hB:Below v.heap.size (bl b v) (bl b u)):
 MgS w u B0 b hb A n c all sv arms subs na ns A4 c4 A5 c5 cs r1 bd1:=
 ⟨hp,kb_trans h.kb hB,h.bx.kb E.h2 hB,h.rs.kb E.gb hB,own_kb h.oa (fun g e=>by have:=(h.ga e).1;have:=E.bB;omega) hB,own_kb h.os (fun g e=>by have:=(h.gs e).1;have:=E.bB;omega) hB,h.la,h.ls⟩
theorem MgS.arm(E:MgE w B0 b hb A) (h:MgS w v B0 b hb A n c all sv arms subs na ns A4 c4 A5 c5 cs ri bd){o:Obj}{g c9:Nat}(hgr:(v.alloc o).grownBy v9 (Value.slice A4 na c4).ownBlock)
 (hown:v9.ownsRow B0 9 1 (.slice (some ⟨g,0,none⟩) (na+1) c9) (na+1) (arms.map Value.string++[.string sa])):
 MgS w (v9.setRow hb (exA (.mk 12 0 sv 0 (arms++[sa]) subs) (some ⟨g,0,none⟩) c9 A5 c5)) B0 b hb A n c all sv (arms++[sa]) subs (na+1) ns (some ⟨g,0,none⟩) c9 A5 c5 cs ri bd:=by
 have hlt:=h.bx.lt;have h4:=E.h4;have hAr:∀ b0 off,A=some ⟨b0,off,none⟩→(Value.slice A4 na c4).ownBlock≠some b0:=fun b0 off e e2=>by have:=E.hA b0 off e;have:=(h.ga e2).1;have:=E.wB;omega
 have h9:PSt v9 b A n c all ri bd:=(h.st.alloc o).grown hgr (fun e=>by have:=(h.ga e).1;have:=E.bB;omega) hAr;refine⟨h9.setRow E.h2 (fun b0 off e=>by have:=E.hA b0 off e;have:=E.h1;omega) _,kb_setRow (kb_grown (kb_alloc h.kb h.st.lt o) hgr (fun k e=>by have:=(h.ga e).1;have:=E.wB;omega)) E.h2 E.h1 _,((h.bx.alloc o).grown hgr (fun e=>by have:=(h.ga e).1;omega)).set,((h.rs.alloc o).grown hgr (fun e=>by have:=(h.ga e).1;have:=E.wB;omega)).other E.h3 _,?_,own_set (own_grown (own_alloc h.os o) hgr (fun g e=>fun e2=>ow_ne2 h.oa h.os (by decide) e2 e)) (fun g e=>by have:=(h.gs e).1;omega) _,by simp [h.la],h.ls⟩;have h5:=own_set (cs:=exA (.mk 12 0 sv 0 (arms++[sa]) subs) (some ⟨g,0,none⟩) c9 A5 c5) hown (h:=hb) (fun g2 e=>by have:=(hown.lt g2 e).1;omega);rwa [List.map_append]
theorem MgS.sub(E:MgE w B0 b hb A) (h:MgS w v B0 b hb A n c all sv arms subs na ns A4 c4 A5 c5 cs ri bd){o:Obj}{g c9:Nat}{y:Ex}{cs2:List Value}(hgr:(v.alloc o).grownBy v9 (Value.slice A5 ns c5).ownBlock)
 (hown:v9.ownsRow B0 26 6 (.slice (some ⟨g,0,none⟩) (ns+1) c9) (ns+1) cs2):
 MgS w (v9.setRow hb (exA (.mk 12 0 sv 0 arms (subs++[y])) A4 c4 (some ⟨g,0,none⟩) c9)) B0 b hb A n c all sv arms (subs++[y]) na (ns+1) A4 c4 (some ⟨g,0,none⟩) c9 cs2 ri bd:=by
 have hlt:=h.bx.lt;have h4:=E.h4;have hAr:∀ b0 off,A=some ⟨b0,off,none⟩→(Value.slice A5 ns c5).ownBlock≠some b0:=fun b0 off e e2=>by have:=E.hA b0 off e;have:=(h.gs e2).1;have:=E.wB;omega
 have h9:PSt v9 b A n c all ri bd:=(h.st.alloc o).grown hgr (fun e=>by have:=(h.gs e).1;have:=E.bB;omega) hAr;exact⟨h9.setRow E.h2 (fun b0 off e=>by have:=E.hA b0 off e;have:=E.h1;omega) _,kb_setRow (kb_grown (kb_alloc h.kb h.st.lt o) hgr (fun k e=>by have:=(h.gs e).1;have:=E.wB;omega)) E.h2 E.h1 _,((h.bx.alloc o).grown hgr (fun e=>by have:=(h.gs e).1;omega)).set,((h.rs.alloc o).grown hgr (fun e=>by have:=(h.gs e).1;have:=E.wB;omega)).other E.h3 _,own_set (own_grown (own_alloc h.oa o) hgr (fun g e=>fun e2=>ow_ne2 h.os h.oa (by decide) e2 e)) (fun g e=>by have:=(h.ga e).1;omega) _,own_set hown (fun g2 e=>by have:=(hown.lt g2 e).1;omega) _,h.la,by simp [h.ls]⟩
theorem MgS.tree(E:MgE w B0 b hb A) (h:MgS w v B0 b hb A n c all sv arms subs na ns A4 c4 A5 c5 cs ri bd) (ht:flX (fx B0 (mgN A4 A5) v) subs cs) (ha:na≤2000000) (hs:ns≤2000000):rdX (fr B0 v) (.mk 12 0 sv 0 arms subs) A4 A5:=by
 rw [rdX_eq];have h6:=row_rd (B2:=B0) h.os h.ls ht (Nat.le_refl _) (by omega);rw [← h.ls] at h6;refine⟨⟨rfl,?_,fun hn=>?_⟩,h6⟩
 · show arms.length≤_
   rw [h.la];omega
 · have hn':0<na:=by rw [← h.la];exact hn
   obtain⟨g,cap,e,_⟩:=h.oa.form hn';injection e with e _ _;subst e;have hgl:=h.oa.lt g rfl;refine⟨g,0,rfl,by rw [fr_size];exact hgl.2,fun i hi=>?_⟩;have hi':i<na:=by rw [← h.la];exact hi
   rw [fr_cell (by show B0≤g;exact hgl.1),Nat.zero_add,h.oa.cellAt i (by omega)]
   show(arms.map Value.string)[i]?=_
   simp [Ex.arms,List.getElem?_eq_getElem (show i<arms.length from hi)]
end
end
section
open Go.RowKit Go.Sort
section
variable {w:World}{b:Nat}{A:Option Addr}{n c:Nat}{all r:List Tk}{bad:Bool}{m:Nat}
end
end
section
open Go.RowKit Go.Sort
end
end Go.Proofs.YtokiaaapgkdpmaaGreatDoor
