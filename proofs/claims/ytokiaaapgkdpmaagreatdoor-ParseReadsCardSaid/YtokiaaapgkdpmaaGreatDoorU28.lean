/- Parts: PrE, PrF, PrG. Conditions: each theorem's own. -/
import Derived.Deep.AppendLies
import Derived.Test.YtokiaaapgkdpmaaGreatDoorU27
namespace Go.Proofs.YtokiaaapgkdpmaaGreatDoor
set_option linter.unusedVariables false
set_option linter.unusedSimpArgs false
set_option maxRecDepth 100000
set_option maxHeartbeats 40000000
section
open Go.RowKit Go.Sort
def bls(L:List Nat)(w:World):World:={ w with heap:=w.heap.mapIdx fun i o=>if i∈L then .cells #[] 0 else o }
theorem bls_size{L:List Nat}{w:World}:(bls L w).heap.size=w.heap.size:=by simp[bls]
theorem bls_cell{L:List Nat}{w:World}{p:Addr}(h:p.block∉L):(bls L w).cell? p=w.cell? p:=by
 unfold World.cell? bls;simp only[Array.getElem?_mapIdx]
 cases w.heap[p.block]? with
 | none=>rfl
 | some o=>simp[h]
theorem bls_some{L:List Nat}{w:World}{p:Addr}{v:Value}(h:(bls L w).cell? p=some v):w.cell? p=some v∧p.block∉L:=by
 by_cases hp:p.block∈L
 · unfold World.cell? bls at h;simp only[Array.getElem?_mapIdx] at h
   cases hh:w.heap[p.block]? with
   | none=>rw[hh] at h;cases h
   | some o=>
    rw[hh] at h;simp only[Option.map_some,if_pos hp] at h
    split at h <;> simp at h
 · exact⟨by rwa [bls_cell hp] at h,hp⟩
theorem RdK.up{w w':World}{A:Option Addr}{n:Nat}{ts:List Tk}(h:RdK w A n ts)(hs:w.heap.size≤w'.heap.size)(hk:∀ p v,w.cell? p=some v→w'.cell? p=some v):RdK w' A n ts:=
 ⟨h.1,h.2.1,fun hn=>by
  obtain⟨b,off,e,hb,hc⟩:=h.2.2 hn;exact⟨b,off,e,by omega,fun i hi=>⟨hk _ _ (hc i hi).1,hk _ _ (hc i hi).2.1,hk _ _ (hc i hi).2.2.1,hk _ _ (hc i hi).2.2.2⟩⟩⟩
theorem flX_up{w w':World}(hs:w.heap.size≤w'.heap.size)(hk:∀ p v,w.cell? p=some v→w'.cell? p=some v):∀ {l:List Ex}{cs:List Value},flX w l cs→flX w' l cs
 | [],cs,h=>h
 | x::l,cs,h=>by
  obtain⟨A,ca,B,cb,cs1,rfl,h1,h2⟩:=h;exact⟨A,ca,B,cb,cs1,rfl,rdX_up hs hk x A B h1,flX_up hs hk h2⟩
structure Tn (S L L':List Nat) (w w':World):Prop where
 os:w'.os=w.os
 tape:w'.tape=w.tape
 output:w'.output=w.output
 size:w.heap.size≤w'.heap.size
 block:∀ k,k<w.heap.size→k∉S→w'.heap[k]?=w.heap[k]?
 live:∀ k∈L',k∈L∨w.heap.size≤k
 stay:∀ k∈L,k∉S→k∈L'
section
variable {S S1 L L1 L2:List Nat}{w w1 w2:World}
theorem Tn.refl(S L:List Nat)(w:World):Tn S L L w w:=⟨rfl,rfl,rfl,Nat.le_refl _,fun _ _ _=>rfl,fun _ h=>.inl h,fun _ h _=>h⟩
theorem Tn.trans(h:Tn S L L1 w w1)(k:Tn S1 L1 L2 w1 w2)(hL:∀ k∈L,k<w.heap.size)(hS:∀ k∈S1,k∈S∨w.heap.size≤k):Tn S L L2 w w2 where
 os:=k.os.trans h.os
 tape:=k.tape.trans h.tape
 output:=k.output.trans h.output
 size:=Nat.le_trans h.size k.size
 block:=fun j hj hn=>(k.block j (Nat.lt_of_lt_of_le hj h.size) (fun hs=>(hS j hs).elim hn fun h2=>by omega)).trans (h.block j hj hn)
 live:=fun j hj=>by
  rcases k.live j hj with h1 | h1
  · exact h.live j h1
  · exact .inr (Nat.le_trans h.size h1)
 stay:=fun j hj hn=>k.stay j (h.stay j hj hn) fun hs=>by
  rcases hS j hs with hs | hs
  · exact hn hs
  · have:=hL j hj;omega
theorem Tn.mono(h:Tn S L L1 w w1)(hS:∀ k∈S,k∈S1):Tn S1 L L1 w w1:=
 ⟨h.os,h.tape,h.output,h.size,fun k hk hn=>h.block k hk fun h=>hn (hS k h),h.live,fun k hk hn=>h.stay k hk fun h=>hn (hS k h)⟩
theorem Tn.of_below(h:Below w.heap.size w w1):Tn S L L w w1:=⟨h.os,h.tape,h.output,h.size,fun k hk _=>h.block k hk,fun _ h=>.inl h,fun _ h _=>h⟩
theorem Tn.of_kb{b:Nat}(h:Below w.heap.size (bl b w) (bl b w1))(hb:b∈S):Tn S L L w w1:=
 ⟨h.os,h.tape,h.output,kb_size h,fun k hk hn=>by
  have hkb:k≠b:=fun e=>hn (e ▸ hb);have h1:=h.block k hk;rwa [bl_block hkb,bl_block hkb] at h1,fun _ h=>.inl h,fun _ h _=>h⟩
theorem Tn.up(h:Tn S L L1 w w1)(hS:∀ k∈S,k∈L)(p:Addr)(v:Value)(hv:(bls L w).cell? p=some v):(bls L1 w1).cell? p=some v:=by
 obtain⟨h1,h2⟩:=bls_some hv;have hlt:p.block<w.heap.size:=World.block_lt_of_cell? w p h1;rw[bls_cell fun hL=>(h.live _ hL).elim h2 fun h3=>by omega];unfold World.cell? at h1 ⊢;rw[h.block _ hlt fun hs=>h2 (hS _ hs)];exact h1
theorem Tn.ups(h:Tn S L L1 w w1):(bls L w).heap.size≤(bls L1 w1).heap.size:=by rw[bls_size,bls_size];exact h.size
theorem Tn.below(h:Tn S L L1 w w1){B:Nat}(hB:B≤w.heap.size)(hS:∀ k∈S,B≤k):Below B w w1:=
 ⟨h.os,h.tape,h.output,h.size,fun k hk=>h.block k (Nat.lt_of_lt_of_le hk hB) fun hs=>by have:=hS k hs;omega⟩
theorem Tn.use(h:Tn S L L1 w w1){g:Nat}(hg:w.heap.size≤g):Tn S L (g::L1) w w1:=
 ⟨h.os,h.tape,h.output,h.size,h.block,fun k hk=>by
  rcases List.mem_cons.1 hk with rfl | hk
  · exact .inr hg
  · exact h.live k hk,fun k hk hn=>List.mem_cons_of_mem _ (h.stay k hk hn)⟩
end
abbrev rp(b:Nat):Value:=.pointer (some ⟨b,0,none⟩)
structure Mem (w:World) (b:Nat) (A:Option Addr) (n c:Nat) (all r:List Tk) (va:Value) (st:List Value) (vp:Value) (ps:List Ex) (sz:Nat) (L:List Nat):Prop where
 row:w.heap[b]?=some (.cells (rdA (.slice A n c) ((n-r.length:Nat):Int) va vp sz) 60)
 rd:RdK (bls L w) A n all
 len:r.length≤n
 pre:all.drop (n-r.length)=r
 fin:EndR r
 tks:∀ t∈all,TkOK t
 oa:w.ownsRow 0 1 1 va st.length st.reverse
 op:∃ cs,w.ownsRow 0 26 6 vp ps.length cs∧flX (bls L w) ps cs
 lb:b∈L
 la:∀ k,va.ownBlock=some k→k∈L
 lp:∀ k,vp.ownBlock=some k→k∈L
 lv:∀ k∈L,k<w.heap.size
theorem bl_up{L:List Nat}{w:World}{b:Nat}(hb:b∈L)(p:Addr)(v:Value)(h:(bls L w).cell? p=some v):(bl b w).cell? p=some v:=by
 obtain⟨h1,h2⟩:=bls_some h;rw[bl_cell fun e=>h2 (e ▸ hb)];exact h1
theorem own_other{w w':World}{base:Nat}{e:TypeId}{size:Nat}{v:Value}{n:Nat}{xs:List Value}(h:w.ownsRow base e size v n xs)(hb:∀ k,v.ownBlock=some k→w'.heap[k]?=w.heap[k]?):w'.ownsRow base e size v n xs:=by
 refine⟨h.1,?_⟩;rcases h.2 with h | ⟨g,cap,cur,e1,hg,hh,r⟩
 · exact .inl h
 · exact .inr ⟨g,cap,cur,e1,hg,(hb g (by rw[e1];rfl)).trans hh,r⟩
theorem own_ne{w:World}{base:Nat}{e:TypeId}{size:Nat}{v:Value}{n:Nat}{xs:List Value}(h:w.ownsRow base e size v n xs){b:Nat}{cs:Array Value}{T:TypeId}(hb:w.heap[b]?=some (.cells cs T))(hT:e≠T):v.ownBlock≠some b:=by
 rcases h.2 with⟨rfl,_⟩|⟨g,cap,cur,rfl,hg,hh,r⟩
 · intro h;cases h
 · intro h;simp only[Value.ownBlock,Option.some.injEq] at h;subst h;rw[hh] at hb;injection hb with hb;injection hb with _ hb;exact hT hb
theorem own_ne2{w:World}{base base':Nat}{e e':TypeId}{size size':Nat}{v v':Value}{n n':Nat}{xs xs':List Value}(h:w.ownsRow base e size v n xs)(h':w.ownsRow base' e' size' v' n' xs')(hT:e≠e'){k:Nat}(hk:v.ownBlock=some k):v'.ownBlock≠some k:=by
 rcases h'.2 with⟨rfl,_⟩|⟨g,cap,cur,rfl,hg,hh,r⟩
 · intro h;cases h
 · intro hk';simp only[Value.ownBlock,Option.some.injEq] at hk';subst hk';exact own_ne h hh hT hk
section
variable {w w':World}{b:Nat}{A:Option Addr}{n c:Nat}{all r r':List Tk}{va vp:Value}{st:List Value}{ps:List Ex}{sz:Nat}{L L' S:List Nat}
theorem Mem.lt(h:Mem w b A n c all r va st vp ps sz L):b<w.heap.size:=(Array.getElem?_eq_some_iff.1 h.row).1
theorem Mem.q(h:Mem w b A n c all r va st vp ps sz L):QSt w b A n c all r va vp sz:=
 ⟨h.row,h.rd.up (by rw[bls_size,bl_size];exact Nat.le_refl _) fun p v=>bl_up h.lb p v,h.len,h.pre,h.fin,h.tks⟩
theorem Mem.cell(h:Mem w b A n c all r va st vp ps sz L)(j:Nat):w.cell? ⟨b,j,none⟩=(rdA (.slice A n c) ((n-r.length:Nat):Int) va vp sz)[j]?:=h.q.cell j
theorem Mem.va_ne(h:Mem w b A n c all r va st vp ps sz L):va.ownBlock≠some b:=own_ne h.oa h.row (by decide)
theorem Mem.vp_ne(h:Mem w b A n c all r va st vp ps sz L):vp.ownBlock≠some b:=by
 obtain⟨cs,h1,h2⟩:=h.op;exact own_ne h1 h.row (by decide)
theorem Mem.vap(h:Mem w b A n c all r va st vp ps sz L){k:Nat}(hk:va.ownBlock=some k):vp.ownBlock≠some k:=by
 obtain⟨cs,h1,h2⟩:=h.op;exact own_ne2 h.oa h1 (by decide) hk
theorem Mem.move(h:Mem w b A n c all r va st vp ps sz L)(hq:QSt w' b A n c all r' va vp sz)(hb:Below w.heap.size (bl b w) (bl b w')):Mem w' b A n c all r' va st vp ps sz L∧Tn [b] L L w w':=by
 have ht:Tn [b] L L w w':=Tn.of_kb hb (List.mem_singleton_self _);have hS:∀ k∈[b],k∈L:=fun k hk=>by rw[List.mem_singleton.1 hk];exact h.lb
 obtain⟨cs,h1,h2⟩:=h.op;refine⟨⟨hq.row,h.rd.up ht.ups (ht.up hS),hq.len,hq.pre,hq.fin,h.tks,own_other h.oa fun k hk=>ht.block k ?_ ?_,⟨cs,own_other h1 fun k hk=>ht.block k ?_ ?_,flX_up ht.ups (ht.up hS) h2⟩,h.lb,h.la,h.lp,fun k hk=>Nat.lt_of_lt_of_le (h.lv k hk) ht.size⟩,ht⟩
 · exact h.lv k (h.la k hk)
 · intro e;rw[List.mem_singleton.1 e] at hk;exact h.va_ne hk
 · exact h.lv k (h.lp k hk)
 · intro e;rw[List.mem_singleton.1 e] at hk;exact h.vp_ne hk
theorem Mem.below(h:Mem w b A n c all r va st vp ps sz L)(hb:Below w.heap.size w w'):Mem w' b A n c all r va st vp ps sz L:=
 (h.move (h.q.below hb) (bl_of hb)).1
theorem Mem.alloc(h:Mem w b A n c all r va st vp ps sz L)(o:Obj):Mem (w.alloc o) b A n c all r va st vp ps sz L:=h.below ((Below.refl _ _).alloc (Nat.le_refl _) o)
theorem Mem.drew(h:Mem w b A n c all r va st vp ps sz L):Mem w.drew b A n c all r va st vp ps sz L:=h.below (below_drewN (Below.refl _ _) 1)
theorem Mem.use(h:Mem w b A n c all r va st vp ps sz L)(hb:Below w.heap.size w w'){g:Nat}(hg:w.heap.size≤g)(hg2:g<w'.heap.size):Mem w' b A n c all r va st vp ps sz (g::L):=by
 have h1:=h.below hb;have ht:Tn [] L (g::L) w w':=(Tn.of_below hb).use hg;have hS:∀ k∈([]:List Nat),k∈L:=fun k hk=>absurd hk List.not_mem_nil;obtain⟨cs,h3,h4⟩:=h.op;refine⟨h1.row,h.rd.up ht.ups (ht.up hS),h1.len,h1.pre,h1.fin,h1.tks,h1.oa,⟨cs,own_other h3 fun k hk=>hb.block k (h.lv k (h.lp k hk)),flX_up ht.ups (ht.up hS) h4⟩,List.mem_cons_of_mem _ h.lb,fun k hk=>List.mem_cons_of_mem _ (h.la k hk),fun k hk=>List.mem_cons_of_mem _ (h.lp k hk),fun k hk=>?_⟩;rcases List.mem_cons.1 hk with rfl | hk
 · exact hg2
 · exact h1.lv k hk
end
end
section
open Go.RowKit Go.Sort
theorem infoFn:∃ i:TypeInfo,Tryz.prog.info? 1=some i∧i.size=1∧i.zero=some .nilFunc∧i.bytes=8:=by
 have h:(Tryz.prog.info? 1).map (fun i=>(i.size,i.zero,i.bytes))=some (1,some .nilFunc,8):=by kernel_rfl
 cases hq:Tryz.prog.info? 1 with
 | none=>rw[hq] at h;cases h
 | some i=>
  rw[hq] at h;simp only[Option.map_some,Option.some.injEq,Prod.mk.injEq] at h;exact⟨i,rfl,h.1,h.2.1,h.2.2⟩
def GoesV(w:World)(v v':Value):Prop:=v'.ownBlock=v.ownBlock∨∀ k,v'.ownBlock=some k→w.heap.size≤k
theorem GoesV.refl(w:World)(v:Value):GoesV w v v:=.inl rfl
theorem GoesV.trans{w w1:World}{v v1 v2:Value}(h:GoesV w v v1)(k:GoesV w1 v1 v2)(hs:w.heap.size≤w1.heap.size):GoesV w v v2:=by
 rcases k with k | k
 · rcases h with h | h
   · exact .inl (k.trans h)
   · exact .inr fun j hj=>h j (k ▸ hj)
 · exact .inr fun j hj=>Nat.le_trans hs (k j hj)
def pushS(b:Nat)(va:Value):List Nat:=b::va.ownBlock.toList
theorem pushS_b{b:Nat}{va:Value}:b∈pushS b va:=List.mem_cons_self
theorem pushS_a{b:Nat}{va:Value}{k:Nat}(h:va.ownBlock=some k):k∈pushS b va:=by simp[pushS,h]
theorem pushS_goes{w:World}{b:Nat}{va va1:Value}(h:GoesV w va va1):∀ k∈pushS b va1,k∈pushS b va∨w.heap.size≤k:=by
 intro k hk;simp only[pushS,List.mem_cons,Option.mem_toList] at hk;rcases hk with rfl | hk
 · exact .inl pushS_b
 · rcases h with h | h
   · exact .inl (pushS_a (h ▸ hk))
   · exact .inr (h k hk)
section
variable {w w':World}{b:Nat}{A:Option Addr}{n c:Nat}{all r r':List Tk}{va vp:Value}{st:List Value}{ps:List Ex}{sz:Nat}{L L' S:List Nat}
theorem mem_push{w1 w2:World}{g cap:Nat}{v:Value}(h:Mem w b A n c all r va st vp ps sz L)(hb:Below w.heap.size w w1)
 (hown:w2.ownsRow 0 1 1 (.slice (some ⟨g,0,none⟩) (st.length+1) cap) (st.length+1) (st.reverse++[v])) (hgr:w1.grownBy w2 va.ownBlock) (hat:va.ownBlock=some g∨g=w1.heap.size) (hlt:g<w2.heap.size):
 ∃ L',Mem (w2.setCell ⟨b,2,none⟩ (.slice (some ⟨g,0,none⟩) (st.length+1) cap)) b A n c all r (.slice (some ⟨g,0,none⟩) (st.length+1) cap) (v::st) vp ps sz L' ∧
  Tn (pushS b va) L L' w (w2.setCell ⟨b,2,none⟩ (.slice (some ⟨g,0,none⟩) (st.length+1) cap))∧GoesV w va (.slice (some ⟨g,0,none⟩) (st.length+1) cap):=by
 have h1:=h.below hb;have hbl:=h.lt;have hbl1:b<w1.heap.size:=Nat.lt_of_lt_of_le hbl hb.size;have hrow2:w2.heap[b]?=some (.cells (rdA (.slice A n c) ((n-r.length:Nat):Int) va vp sz) 60):=(hgr.block b hbl1 (fun e=>h.va_ne e.symm)).trans h1.row
 have hgb:g≠b:=by
  rcases hat with hat | hat
  · rintro rfl;exact h.va_ne hat
  · omega
 generalize hv':Value.slice (some ⟨g,0,none⟩) (st.length+1) cap=v' at *;have hvo:v'.ownBlock=some g:=by rw[← hv'];rfl
 have hL:∀ k∈g::L,k∈L∨w.heap.size≤k:=fun k hk=>by
  rcases List.mem_cons.1 hk with rfl | hk
  · rcases hat with hat | hat
    · exact .inl (h.la k hat)
    · exact .inr (by have:=hb.size;omega)
  · exact .inl hk
 have ht:Tn (pushS b va) L (g::L) w (w2.setCell ⟨b,2,none⟩ v'):=by
  refine⟨?_,?_,?_,?_,fun k hk hn=>?_,hL,fun k hk _=>List.mem_cons_of_mem _ hk⟩
  · exact hgr.os.trans hb.os
  · exact hgr.tape.trans hb.tape
  · exact hgr.output.trans hb.output
  · have:=hb.size;have:=hgr.size;simp;omega
  · have hkb:k≠b:=fun e=>hn (e ▸ pushS_b);have hka:some k≠va.ownBlock:=fun e=>hn (pushS_a e.symm);rw[heap_setCell_other _ _ _ _ (show k≠b from hkb),hgr.block k (Nat.lt_of_lt_of_le hk hb.size) hka,hb.block k hk]
 have hS:∀ k∈pushS b va,k∈L:=fun k hk=>by
  simp only[pushS,List.mem_cons,Option.mem_toList] at hk;rcases hk with rfl | hk
  · exact h.lb
  · exact h.la k hk
 obtain⟨cs,h3,h4⟩:=h.op;have hoth:∀ k,k≠b→(w2.setCell ⟨b,2,none⟩ v').heap[k]?=w2.heap[k]?:=fun k hk=>heap_setCell_other _ _ _ _ hk;refine⟨g::L,⟨?_,h.rd.up ht.ups (ht.up hS),h.len,h.pre,h.fin,h.tks,?_,⟨cs,own_other h3 fun k hk=>?_,flX_up ht.ups (ht.up hS) h4⟩,List.mem_cons_of_mem _ h.lb,fun k hk=>?_,fun k hk=>List.mem_cons_of_mem _ (h.lp k hk),fun k hk=>?_⟩,ht,?_⟩
 · rw[setCell_eq_setRow _ _ _ _ _ _ _ hrow2,setRow_heap _ _ _ _ _ _ hrow2];rfl
 · have:=own_other hown fun k hk=>hoth k (by rw[hvo] at hk;injection hk with hk;omega)
   simpa using this
 · have hkb:k≠b:=fun e=>h.vp_ne (e ▸ hk);have hk1:=h.lv k (h.lp k hk);rw[hoth k hkb,hgr.block k (Nat.lt_of_lt_of_le hk1 hb.size) (fun e=>h.vap e.symm hk),hb.block k hk1]
 · rw[hvo] at hk;injection hk with hk;exact hk ▸ List.mem_cons_self
 · have hs2:(w2.setCell ⟨b,2,none⟩ v').heap.size=w2.heap.size:=by simp
   rw[hs2];rcases List.mem_cons.1 hk with rfl | hk
   · exact hlt
   · have:=h.lv k hk;have:=hb.size;have:=hgr.size;omega
 · rcases hat with hat | hat
   · exact .inl (hvo.trans hat.symm)
   · refine .inr fun k hk=>?_;rw[hvo] at hk;injection hk with hk;have:=hb.size;omega
theorem push_cells{w1 w2:World}(h:Mem w b A n c all r va st vp ps sz L)(hgr:w1.grownBy w2 va.ownBlock)(hb:Below w.heap.size w w1):
 w2.cell? ⟨b,2,none⟩=some va∧w2.frozen? ⟨b,2,none⟩=false∧∀ g j v,g∉L→w.cell? ⟨g,j,none⟩=some v→w2.cell? ⟨g,j,none⟩=some v:=by
 have hbl1:b<w1.heap.size:=Nat.lt_of_lt_of_le h.lt hb.size;have hrow2:w2.heap[b]?=some (.cells (rdA (.slice A n c) ((n-r.length:Nat):Int) va vp sz) 60):=(hgr.block b hbl1 (fun e=>h.va_ne e.symm)).trans (h.below hb).row;refine⟨?_,?_,fun g j v hg hv=>?_⟩
 · unfold World.cell?;rw[hrow2];rfl
 · unfold World.frozen?;rw[hrow2]
   simp
 · have hlt:=World.block_lt_of_cell? w _ hv;have e:=(hgr.block g (Nat.lt_of_lt_of_le hlt hb.size) (fun e=>hg (h.la g e.symm))).trans (hb.block g hlt);unfold World.cell? at hv ⊢;rw[e];exact hv
theorem drop_back{l:List Value}{i:Nat}(h:i<l.length):l.drop (l.length-(i+1))=(l[l.length-1-i]?.getD default)::l.drop (l.length-i):=by
 have e:l.length-(i+1)<l.length:=by omega
 rw[List.drop_eq_getElem_cons e];have e2:l.length-(i+1)=l.length-1-i:=by omega
 have e3:l.length-(i+1)+1=l.length-i:=by omega
 rw[e3]
 congr 1
 rw[List.getElem?_eq_getElem (by omega)]
 simp[e2]
theorem rrNext(l:List Value)(g c1:Nat)(hl:l.length≤100)(h:Mem w b A n c all r va st vp ps sz L)(hst:st.length≤2000000)(hgl:g<w.heap.size)(hgL:g∉L)
 (hc:∀ j,j<l.length→w.cell? ⟨g,j,none⟩=some (l[j]?.getD default)) (h1:∀ v∈l,∃ fn a c,v=.func fn a c):
 Calls Tryz.prog 50 #[rp b,.slice (some ⟨g,0,none⟩) l.length c1] w fun e w'=>e=.returned (.tuple #[]) ∧
  ∃ va' L',Mem w' b A n c all r va' (l++st) vp ps sz L'∧Tn (pushS b va) L L' w w'∧GoesV w va va':=by
 obtain⟨i0,hi,hz0,hz1,hz2⟩:=infoFn;have HM:=Hd h
 have HC:=Hd fun w1 (L1:List Nat) (ht:Tn (pushS b va) L L1 w w1) j (hj:j<l.length)=>(show w1.cell? ⟨g,j,none⟩=some (l[j]?.getD default) by
  have hS:∀ k∈pushS b va,k∈L:=fun k hk=>by
   simp only[pushS,List.mem_cons,Option.mem_toList] at hk;rcases hk with rfl | hk
   · exact h.lb
   · exact h.la k hk
  exact(bls_some (ht.up hS _ _ (by rw[bls_cell hgL];exact hc j hj))).1)
 have HD:=Hd fun i (hi:i<l.length)=>drop_back (l:=l) hi;have HO:=Hd fun j (hj:j<l.length)=>h1 (l[j]?.getD default) (by rw[List.getElem?_eq_getElem hj];exact List.getElem_mem _);have HD0:=Hd (show l.drop (l.length-0)=[] by simp);have HDn:=Hd (show l.drop (l.length-l.length)=l by simp);have hlv:=h.lv;have HGL:=Hd fun(L1:List Nat) w1 (ht:Tn (pushS b va) L L1 w w1)=>(show g∉L1 from fun hk=>(ht.live g hk).elim hgL fun h2=>by omega);generalize hlen:l.length=len at *;clear h hc h1 hgL
 go_enter Tryz.func50,Tryz.ntmps50
 go_wp2_with fail
 go_loopw [7] (fun i wr=>∃ k:Nat,k≤len∧i=.int .i64 k∧∃ va' L',Mem wr b A n c all r va' (l.drop (len-k)++st) vp ps sz L'∧Tn (pushS b va) L L' w wr∧GoesV w va va') (fun i _=>len-(intOf i).toNat)
 case atStart=>
  refine⟨0,Nat.zero_le _,rfl,va,L,?_,Tn.refl _ _ _,GoesV.refl _ _⟩;rw[HD0.out];exact HM.out
 case round=>
  obtain⟨k,hk,rfl,va1,L1,hM1,hT1,hG1⟩:=hrel;have HM1:=Hd hM1;have HT1:=Hd hT1;have HG1:=Hd hG1;clear hM1 hT1 hG1
  by_cases hlt:k<len
  · have hj:len-1-k<len:=by omega
    have g0:=HC.out wr L1 HT1.out (len-1-k) hj;have ho:=HO.out (len-1-k) hj;have HDK:=Hd (HD.out k hlt);have c2:wr.cell? ⟨b,2,none⟩=some va1:=HM1.out.cell 2;have hbl:=HM1.out.lt;have hgw:g<wr.heap.size:=Nat.lt_of_lt_of_le hgl HT1.out.size;have hst1:(l.drop (len-k)++st).length=k+st.length:=by rw[List.length_append,List.length_drop,hlen];omega
    have hw1:IntKind.i64.wrap ((len:Int)-1)=((len-1:Nat):Int):=by rw[IntKind.wrap_i64];omega
    have hw2:IntKind.i64.wrap (((len-1:Nat):Int)-(k:Int))=((len-1-k:Nat):Int):=by rw[IntKind.wrap_i64];omega
    have hj0:(0:Int)≤((len-1-k:Nat):Int):=by omega
    have hj1:((len-1-k:Nat):Int)<(len:Int):=by omega
    generalize len-1-k=j at *;obtain⟨fn,fa,fc,hv⟩:=ho;rw[hv] at g0 HDK;clear hv
    go_upto_region 3 with(fail)
    go_region_law
     ((refine step_append_lies _ (by rfl) _ _ _ (by rfl) 0 1 i0 .nilFunc 1 8 Tryz.underlying58 hi hz1 hz0 hz2 rfl (by decide) va1 (k+st.length) (l.drop (len-k)++st).reverse (by rfl) (by rw[← hst1];exact HM1.out.alloc _ |>.oa) ⟨wr.heap.size,0,none⟩ 1 1 [.func fn fa fc] (by rfl) rfl (cell_one_new _ _ _) (fun u hu=>by rw[List.mem_singleton.1 hu];rfl) (by omega) (by unfold maxLen;omega) (by omega) (Nat.zero_le _) _ rfl ?_
       intro g1 cap1 w4 hown4 hgrow4 hat4 hlt4;obtain⟨d2,f2,dk⟩:=push_cells HM1.out hgrow4 (by first | exact((Below.refl _ _).alloc (Nat.le_refl _) _) | exact((Below.refl _ _).alloc (Nat.le_refl _) _).drew);have d0:=dk g j _ (HGL.out L1 wr HT1.out) g0;clear dk))
    go_wp2_with fail
    all_goals
     have hp:=mem_push (v:=.func fn fa fc) (g:=g1) (cap:=cap1) (w2:=w4) HM1.out (show Below wr.heap.size wr (wr.alloc (Obj.cells #[Value.func fn fa fc] 1)).drew from((Below.refl _ _).alloc (Nat.le_refl _) _).drew);rw[hst1] at hp;obtain⟨L2,hM2,hT2,hG2⟩:=hp hown4 hgrow4 hat4 hlt4;have HM2:=Hd hM2;have HT2:=Hd (HT1.out.trans hT2 hlv (pushS_goes HG1.out));have HG2:=Hd (HG1.out.trans hG2 HT1.out.size);clear hp hM2 hT2 hG2
     go_roundw
     case rel=>
      refine⟨k+1,by omega,by go_num,_,L2,?_,HT2.out,HG2.out⟩;rw[HDK.out];exact HM2.out
     case measure=>simp[intOf];omega
  · have hkl:k=len:=by omega
    subst hkl
    go_wp2_with fail
    go_end0
    rw[HDn.out] at HM1;exact⟨rfl,va1,L1,HM1.out,HT1.out,HG1.out⟩
end
end
section
open Go.RowKit Go.Sort
def lvF:Lv→Nat
 | .arrow=>25
 | .fby=>52
 | .or=>90
 | .and=>118
 | .cmp=>136
 | .sum=>154
 | .prod=>165
 | .un=>168
 | .post=>171
 | .atom=>177
 | .behind=>178
 | .brk=>185
abbrev fnV(K:Nat)(cap:Array Value):Value:=.func (.func K) #[] cap
abbrev lvV(b:Nat)(l:Lv):Value:=.func (.func (lvF l)) #[rp b] #[]
def Fz(L:List Nat)(w:World)(p:Nat)(v:Value):Prop:=(bls L w).cell? ⟨p,0,none⟩=some v
def MadeAt(L:List Nat)(w:World)(b eb f:Nat)(v:Value):Prop:=∃ p0 p1 p2,v=fnV 116 #[rp p0,rp p1,rp p2]∧Fz L w p0 (rp b)∧Fz L w p1 (rp eb)∧Fz L w p2 (.int .i64 (f:Int))
def EAt(L:List Nat)(w:World)(eb:Nat)(x:Ex):Prop:=eb∈L∧x.subs=[]∧∃ Aa ca,RowX w eb x Aa ca none 0∧RdT (bls L w) Aa x.arms.length x.arms
def EveryAt(L:List Nat)(w:World)(b eb f:Nat)(v:Value):Prop:=∃ p0 p1 p2 vm,v=fnV 203 #[rp p0,rp p1,rp p2]∧Fz L w p0 (rp b)∧Fz L w p1 vm∧MadeAt L w b eb f vm∧Fz L w p2 (rp eb)
def ThenAt(L:List Nat)(w:World)(ev:Bool)(b eb f:Nat)(v:Value):Prop:=if ev=true then EveryAt L w b eb f v else MadeAt L w b eb f v
def MAt(L:List Nat)(w:World)(eb:Nat)(x:Ex)(ft:List Nat):Prop:=x.subs=[]∧∃ Aa ca,RowX w eb x Aa ca none 0∧w.ownsRow 0 9 1 (.slice Aa x.arms.length ca) x.arms.length (x.arms.map Value.string)∧ft=eb::(Value.slice Aa x.arms.length ca).ownBlock.toList∧∀ k∈ft,k∈L
def MoreAt(L:List Nat)(w:World)(b eb f:Nat)(v:Value):Prop:=∃ p0 p1 p2 p3 p4 vm,v=fnV 200 #[rp p0,rp p1,rp p2]∧Fz L w p0 (rp b)∧Fz L w p1 (fnV 201 #[rp p0,rp p3,rp p4])∧Fz L w p2 vm∧MadeAt L w b eb f vm∧Fz L w p3 (rp eb)∧Fz L w p4 v
def FrAt(L:List Nat)(w:World)(b:Nat):Fr→Value→List Nat→Prop
 | .m l,v,ft=>ft=[]∧v=lvV b l
 | .sign s,v,ft=>ft=[]∧Ask s∧∃ p0 p1,v=fnV 199 #[rp p0,rp p1]∧Fz L w p0 (rp b)∧Fz L w p1 (.string (ofL s))
 | .made x f,v,ft=>∃ eb,ft=[eb]∧EAt L w eb x∧MadeAt L w b eb f v
 | .right s k o,v,ft=>ft=[]∧Ask s∧∃ p0 p1 p2 p3,v=fnV 88 #[rp p0,rp p1,rp p2,rp p3]∧Fz L w p0 (rp b)∧Fz L w p1 (.string (ofL s))∧Fz L w p2 (lvV b o)∧Fz L w p3 (.int .i64 k)
 | .left ops side,v,ft=>ft=[]∧∃ zs,zsL zs=ops∧OpsOK zs∧∃ p0 p1 p2 p3 g c1,v=fnV 133 #[rp p0,rp p1,rp p2,rp p3]∧Fz L w p0 (rp b)∧Fz L w p1 (.slice (some ⟨g,0,none⟩) zs.length c1)∧(∀ i,i<zs.length→(bls L w).cell? ⟨g,i,none⟩=some (.int .i64 (zs[i]?.getD default).1))∧Fz L w p2 (lvV b side)∧Fz L w p3 v
 | .once ops side,v,ft=>ft=[]∧∃ zs,zsL zs=ops∧OpsOK zs∧∃ p0 p1 p2 g c1,v=fnV 164 #[rp p0,rp p1,rp p2]∧Fz L w p0 (rp b)∧Fz L w p1 (.slice (some ⟨g,0,none⟩) zs.length c1)∧(∀ i,i<zs.length→(bls L w).cell? ⟨g,i,none⟩=some (.int .i64 (zs[i]?.getD default).1))∧Fz L w p2 (lvV b side)
 | .list shut ev x f,v,ft=>∃ eb,ft=[eb]∧EAt L w eb x∧Ask shut∧∃ p0 p1 p2 p3 vt,v=fnV 198 #[rp p0,rp p1,rp p2,rp p3]∧Fz L w p0 (rp b)∧Fz L w p1 v∧Fz L w p2 (.string (ofL shut))∧Fz L w p3 vt∧ThenAt L w ev b eb f vt
 | .more x f,v,ft=>∃ eb,MAt L w eb x ft∧MoreAt L w b eb f v
def FrsAt(L:List Nat)(w:World)(b:Nat):List Fr→List Value→List Nat→Prop
 | [],[],ft=>ft=[]
 | f::fs,v::vs,ft=>∃ f1 f2,ft=f1++f2∧FrAt L w b f v f1∧FrsAt L w b fs vs f2
 | _,_,_=>False
section
variable {S L L1:List Nat}{w w1:World}
theorem Fz.up(h:Tn S L L1 w w1)(hS:∀ k∈S,k∈L){p:Nat}{v:Value}(k:Fz L w p v):Fz L1 w1 p v:=h.up hS _ _ k
theorem Fz.get{p:Nat}{v:Value}(k:Fz L w p v):w.cell? ⟨p,0,none⟩=some v:=(bls_some k).1
theorem Fz.new{p:Nat}{v:Value}(h:w.cell? ⟨p,0,none⟩=some v)(hp:p∉L):Fz L w p v:=(bls_cell (p:=⟨p,0,none⟩) hp).trans h
theorem MadeAt.up(h:Tn S L L1 w w1)(hS:∀ k∈S,k∈L){b eb f:Nat}{v:Value}:MadeAt L w b eb f v→MadeAt L1 w1 b eb f v
 | ⟨p0,p1,p2,e,h0,h1,h2⟩=>⟨p0,p1,p2,e,h0.up h hS,h1.up h hS,h2.up h hS⟩
theorem EveryAt.up(h:Tn S L L1 w w1)(hS:∀ k∈S,k∈L){b eb f:Nat}{v:Value}:EveryAt L w b eb f v→EveryAt L1 w1 b eb f v
 | ⟨p0,p1,p2,vm,e,h0,h1,h2,h3⟩=>⟨p0,p1,p2,vm,e,h0.up h hS,h1.up h hS,h2.up h hS,h3.up h hS⟩
theorem ThenAt.up(h:Tn S L L1 w w1)(hS:∀ k∈S,k∈L){ev:Bool}{b eb f:Nat}{v:Value}(k:ThenAt L w ev b eb f v):ThenAt L1 w1 ev b eb f v:=by
 unfold ThenAt at k ⊢
 split
 · rename_i he
   rw[if_pos he] at k;exact k.up h hS
 · rename_i he
   rw[if_neg he] at k;exact k.up h hS
theorem RowX.stay{eb:Nat}{x:Ex}{Aa:Option Addr}{ca:Nat}{B:Option Addr}{cb:Nat}(k:RowX w eb x Aa ca B cb)(h:Tn S L L1 w w1)(hn:eb∉S):RowX w1 eb x Aa ca B cb:=(h.block eb k.lt hn).trans k
theorem EAt.up(h:Tn S L L1 w w1)(hS:∀ k∈S,k∈L){eb:Nat}{x:Ex}(hn:eb∉S):EAt L w eb x→EAt L1 w1 eb x
 | ⟨h0,hx,Aa,ca,h1,h2⟩=>⟨h.stay eb h0 hn,hx,Aa,ca,h1.stay h hn,h2.up h.ups (h.up hS)⟩
theorem MAt.up(h:Tn S L L1 w w1){eb:Nat}{x:Ex}{ft:List Nat}(hn:∀ k∈ft,k∉S):MAt L w eb x ft→MAt L1 w1 eb x ft
 | ⟨hx,Aa,ca,h1,h2,h3,h4⟩=>⟨hx,Aa,ca,h1.stay h (hn eb (by rw[h3];exact List.mem_cons_self)),own_other h2 fun k hk=>h.block k (h2.lt k hk).2 (hn k (by rw[h3];simp[hk])),h3,fun k hk=>h.stay k (h4 k hk) (hn k hk)⟩
theorem MoreAt.up(h:Tn S L L1 w w1)(hS:∀ k∈S,k∈L){b eb f:Nat}{v:Value}:MoreAt L w b eb f v→MoreAt L1 w1 b eb f v
 | ⟨p0,p1,p2,p3,p4,vm,e,h0,h1,h2,h3,h4,h5⟩=>⟨p0,p1,p2,p3,p4,vm,e,h0.up h hS,h1.up h hS,h2.up h hS,h3.up h hS,h4.up h hS,h5.up h hS⟩
theorem FrAt.up(h:Tn S L L1 w w1)(hS:∀ k∈S,k∈L){b:Nat}{f:Fr}{v:Value}{ft:List Nat}(hn:∀ k∈ft,k∉S)(k:FrAt L w b f v ft):FrAt L1 w1 b f v ft:=by
 cases f with
 | m l=>exact k
 | sign s=>
  obtain⟨e,ha,p0,p1,ev,h0,h1⟩:=k;exact⟨e,ha,p0,p1,ev,h0.up h hS,h1.up h hS⟩
 | made x f=>
  obtain⟨eb,rfl,h0,h1⟩:=k;exact⟨eb,rfl,h0.up h hS (hn eb (by simp)),h1.up h hS⟩
 | right s k1 o=>
  obtain⟨e,ha,p0,p1,p2,p3,ev,h0,h1,h2,h3⟩:=k;exact⟨e,ha,p0,p1,p2,p3,ev,h0.up h hS,h1.up h hS,h2.up h hS,h3.up h hS⟩
 | left ops side=>
  obtain⟨e,zs,hz,ho,p0,p1,p2,p3,g,c1,ev,h0,h1,h4,h2,h3⟩:=k;exact⟨e,zs,hz,ho,p0,p1,p2,p3,g,c1,ev,h0.up h hS,h1.up h hS,fun i hi=>h.up hS _ _ (h4 i hi),h2.up h hS,h3.up h hS⟩
 | once ops side=>
  obtain⟨e,zs,hz,ho,p0,p1,p2,g,c1,ev,h0,h1,h4,h2⟩:=k;exact⟨e,zs,hz,ho,p0,p1,p2,g,c1,ev,h0.up h hS,h1.up h hS,fun i hi=>h.up hS _ _ (h4 i hi),h2.up h hS⟩
 | list shut ev x f=>
  obtain⟨eb,rfl,h0,ha,p0,p1,p2,p3,vt,e,h1,h2,h3,h4,h5⟩:=k;exact⟨eb,rfl,h0.up h hS (hn eb (by simp)),ha,p0,p1,p2,p3,vt,e,h1.up h hS,h2.up h hS,h3.up h hS,h4.up h hS,h5.up h hS⟩
 | more x f=>
  obtain⟨eb,h0,h1⟩:=k;exact⟨eb,h0.up h hn,h1.up h hS⟩
theorem FrsAt.up(h:Tn S L L1 w w1)(hS:∀ k∈S,k∈L){b:Nat}:∀ {fs:List Fr}{vs:List Value}{ft:List Nat},(∀ k∈ft,k∉S)→FrsAt L w b fs vs ft→FrsAt L1 w1 b fs vs ft
 | [],[],ft,hn,k=>k
 | f::fs,v::vs,ft,hn,⟨f1,f2,e,h1,h2⟩=>⟨f1,f2,e,h1.up h hS fun k hk=>hn k (by rw[e];exact List.mem_append_left _ hk),h2.up h hS fun k hk=>hn k (by rw[e];exact List.mem_append_right _ hk)⟩
 | [],v::vs,ft,hn,k=>k.elim
 | f::fs,[],ft,hn,k=>k.elim
theorem FrAt.func{b:Nat}{f:Fr}{v:Value}{ft:List Nat}(k:FrAt L w b f v ft):∃ fn a c,v=.func fn a c:=by
 cases f with
 | m l=>exact⟨_,_,_,k.2⟩
 | sign s=>obtain⟨e,ha,p0,p1,ev,h0,h1⟩:=k;exact⟨_,_,_,ev⟩
 | made x f=>obtain⟨eb,_,h0,p0,p1,p2,ev,_⟩:=k;exact⟨_,_,_,ev⟩
 | right s k1 o=>obtain⟨e,ha,p0,p1,p2,p3,ev,_⟩:=k;exact⟨_,_,_,ev⟩
 | left ops side=>obtain⟨e,zs,hz,ho,p0,p1,p2,p3,g,c1,ev,_⟩:=k;exact⟨_,_,_,ev⟩
 | once ops side=>obtain⟨e,zs,hz,ho,p0,p1,p2,g,c1,ev,_⟩:=k;exact⟨_,_,_,ev⟩
 | list shut ev x f=>obtain⟨eb,_,h0,ha,p0,p1,p2,p3,vt,e,_⟩:=k;exact⟨_,_,_,e⟩
 | more x f=>obtain⟨eb,h0,p0,p1,p2,p3,p4,vm,e,_⟩:=k;exact⟨_,_,_,e⟩
end
def turnS(b:Nat)(va vp:Value)(ft:List Nat):List Nat:=b::(va.ownBlock.toList++(vp.ownBlock.toList++ft))
theorem turnS_push{b:Nat}{va vp:Value}{ft:List Nat}:∀ k∈pushS b va,k∈turnS b va vp ft:=by
 intro k hk;simp only[pushS,turnS,List.mem_cons,List.mem_append] at hk ⊢;rcases hk with rfl | hk
 · exact .inl rfl
 · exact .inr (.inl hk)
theorem turnS_b{b:Nat}{va vp:Value}{ft:List Nat}:∀ k∈[b],k∈turnS b va vp ft:=by
 intro k hk;rw[List.mem_singleton.1 hk];exact List.mem_cons_self
def Turn(w:World)(b:Nat)(A:Option Addr)(n c:Nat)(all:List Tk)(va:Value)(st:List Value)(vp:Value)(L ft:List Nat)(o:Out)(e:Ending)(w':World):Prop:=match o with
 | .ok z r2=>e=.returned (.tuple #[])∧∃ va' vp' L' vt fts,Mem w' b A n c all r2 va' (vt++st) vp' z.2.1 z.2.2 L'∧FrsAt L' w' b z.1 vt fts∧Tn (turnS b va vp ft) L L' w w'∧fts.Nodup ∧
  (∀ k∈fts,k∈ft∨w.heap.size≤k)∧(∀ k∈fts,k≠b∧va'.ownBlock≠some k∧vp'.ownBlock≠some k)∧GoesV w va va'∧GoesV w vp vp'
 | .bad q=>e=Pan∧(∃ L',Tn (turnS b va vp ft) L L' w w')∧∃ va' vp' sz',w'.heap[b]?=some (.cells (rdA (.slice A n c) ((n-q.length:Nat):Int) va' vp' sz') 60)
section
variable {w w1 w2 w':World}{b:Nat}{A:Option Addr}{n c:Nat}{all r r' r2:List Tk}{va va1 vp:Value}{st:List Value}{ps:List Ex}{sz:Nat}{L L1 L2 S ft:List Nat}
theorem push_sub(h:Mem w b A n c all r va st vp ps sz L):∀ k∈pushS b va,k∈L:=fun k hk=>by
 simp only[pushS,List.mem_cons,Option.mem_toList] at hk;rcases hk with rfl | hk
 · exact h.lb
 · exact h.la k hk
theorem b_sub(h:Mem w b A n c all r va st vp ps sz L):∀ k∈[b],k∈L:=fun k hk=>by
 rw[List.mem_singleton.1 hk];exact h.lb
theorem turn_next{new:List Fr}{vt:List Value}{fts:List Nat}(h:Mem w b A n c all r va st vp ps sz L)(hT:Tn (turnS b va vp ft) L L1 w w1)(h1:Mem w1 b A n c all r2 va1 st vp ps sz L1)(hg:GoesV w va va1)
 (hF:FrsAt L1 w1 b new vt fts) (hn:fts.Nodup) (hf:∀ k∈fts,k∈ft∨w.heap.size≤k) (hf2:∀ k∈fts,k≠b∧va1.ownBlock≠some k∧vp.ownBlock≠some k∧k<w1.heap.size)
 {e:Ending}(hx:e=.returned (.tuple #[])∧∃ va' L',Mem w' b A n c all r2 va' (vt++st) vp ps sz L'∧Tn (pushS b va1) L1 L' w1 w'∧GoesV w1 va1 va'):Turn w b A n c all va st vp L ft (.ok (new,ps,sz) r2) e w':=by
 obtain⟨e1,va',L',hM,hT2,hg2⟩:=hx;refine⟨e1,va',vp,L',vt,fts,hM,hF.up hT2 (push_sub h1) fun k hk hs=>?_,hT.trans hT2 h.lv fun k hk=>?_,hn,hf,fun k hk=>⟨(hf2 k hk).1,fun e=>?_,(hf2 k hk).2.2.1⟩,hg.trans hg2 hT.size,GoesV.refl _ _⟩
 · simp only[pushS,List.mem_cons,Option.mem_toList] at hs;rcases hs with hs | hs
   · exact(hf2 k hk).1 hs
   · exact(hf2 k hk).2.1 hs
 · rcases pushS_goes hg k hk with hk | hk
   · exact .inl (turnS_push k hk)
   · exact .inr hk
 · rcases hg2 with hg2 | hg2
   · exact(hf2 k hk).2.1 (hg2 ▸ e)
   · have:=hg2 k e;have:=(hf2 k hk).2.2.2;omega
theorem turn_none(h:Mem w b A n c all r va st vp ps sz L)(hq:QSt w1 b A n c all r2 va vp sz)(hb:Below w.heap.size (bl b w) (bl b w1)):Turn w b A n c all va st vp L ft (.ok ([],ps,sz) r2) (.returned (.tuple #[])) w1:=by
 obtain⟨h1,h2⟩:=h.move hq hb;exact⟨rfl,va,vp,L,[],[],h1,rfl,h2.mono turnS_b,List.nodup_nil,fun k hk=>absurd hk List.not_mem_nil,fun k hk=>absurd hk List.not_mem_nil,GoesV.refl _ _,GoesV.refl _ _⟩
theorem turn_bad(h:Mem w b A n c all r va st vp ps sz L)(hq:QSt w1 b A n c all r2 va vp sz)(hb:Below w.heap.size (bl b w) (bl b w1)):Turn w b A n c all va st vp L ft (.bad r2) Pan w1:=by
 obtain⟨h1,h2⟩:=h.move hq hb;exact⟨rfl,⟨L,h2.mono turnS_b⟩,va,vp,sz,hq.row⟩
theorem two_new(w:World)(x y:Value)(X Y:TypeId):Below w.heap.size w ((w.alloc (.cells #[x] X)).alloc (.cells #[y] Y))∧((w.alloc (.cells #[x] X)).alloc (.cells #[y] Y)).cell? ⟨w.heap.size,0,none⟩=some x ∧
 ((w.alloc (.cells #[x] X)).alloc (.cells #[y] Y)).cell? ⟨w.heap.size+1,0,none⟩=some y:=by
 refine⟨((Below.refl _ _).alloc (Nat.le_refl _) _).alloc (by simp) _,?_,?_⟩
 · rw[World.cell?_alloc_lt _ _ _ (by simp)];exact World.cell?_alloc_new w _ _ 0
 · simp
theorem three_new(w:World)(x y z:Value)(X Y Z:TypeId):Below w.heap.size w (((w.alloc (.cells #[x] X)).alloc (.cells #[y] Y)).alloc (.cells #[z] Z))∧(((w.alloc (.cells #[x] X)).alloc (.cells #[y] Y)).alloc (.cells #[z] Z)).cell? ⟨w.heap.size,0,none⟩=some x ∧
 (((w.alloc (.cells #[x] X)).alloc (.cells #[y] Y)).alloc (.cells #[z] Z)).cell? ⟨w.heap.size+1,0,none⟩=some y∧(((w.alloc (.cells #[x] X)).alloc (.cells #[y] Y)).alloc (.cells #[z] Z)).cell? ⟨w.heap.size+1+1,0,none⟩=some z:=by
 obtain⟨hb,h0,h1⟩:=two_new w x y X Y;refine⟨hb.alloc (by simp;omega) _,?_,?_,?_⟩
 · rw[World.cell?_alloc_lt _ _ _ (by simp;omega)];exact h0
 · rw[World.cell?_alloc_lt _ _ _ (by simp)];exact h1
 · have:=World.cell?_alloc_new ((w.alloc (.cells #[x] X)).alloc (.cells #[y] Y)) #[z] Z 0
   simpa using this
theorem rrMade(j eb:Nat)(h:Mem w b A n c all r va st vp ps sz L)(hj:j≤ps.length)(hp:ps.length≤1000000):
 Calls Tryz.prog 89 #[rp b,rp eb,.int .i64 (j:Int)] w fun e w'=>∃ p0 p1 p2,e=.returned (fnV 116 #[rp p0,rp p1,rp p2])∧Below w.heap.size w w' ∧
  (w.heap.size≤p0∧w.heap.size≤p1∧w.heap.size≤p2)∧w'.cell? ⟨p0,0,none⟩=some (rp b)∧w'.cell? ⟨p1,0,none⟩=some (rp eb)∧w'.cell? ⟨p2,0,none⟩=some (.int .i64 ((ps.length-j:Nat):Int)):=by
 have hmf:∀ (fn:Fn) (first cap:Array Value) (w:World),(Instr.makeFunc fn first cap).run Tryz.prog w=.ok (.func fn first cap) w:=fun _ _ _ _=>rfl;obtain⟨m,hm⟩:∃ m,m=ps.length:=⟨_,rfl⟩
 obtain⟨A3,c3,hv3⟩:∃ A3 c3,vp=.slice A3 m c3:=by
  obtain⟨cs,ho,_⟩:=h.op;rcases ho.2 with⟨h1,h2⟩|⟨g,cap,cur,h1,_⟩
  · exact⟨none,0,by rw[h1,hm,h2]⟩
  · exact⟨_,_,by rw[h1,hm]⟩
 have c3':w.cell? ⟨b,3,none⟩=some vp:=h.cell 3;rw[hv3] at c3';have hbl:=h.lt;have hw:IntKind.i64.wrap ((m:Int)-(j:Int))=((ps.length-j:Nat):Int):=by rw[IntKind.wrap_i64];omega
 have q3:=fun(o1 o2:Obj)=>(World.cell?_alloc_lt (w.alloc o1) o2 ⟨b,3,none⟩ (by simp;omega)).trans ((World.cell?_alloc_lt w o1 ⟨b,3,none⟩ hbl).trans c3');generalize ((ps.length-j:Nat):Int)=z at *;clear h hv3 hm hj
 go_enter Tryz.func89,Tryz.ntmps89
 go_wp2_with fail
 go_ret
 obtain⟨hb,k0,k1,k2⟩:=three_new w (rp b) (rp eb) (.int .i64 z) 57 98 3;exact⟨w.heap.size,w.heap.size+1,w.heap.size+1+1,rfl,hb,⟨Nat.le_refl _,by omega,by omega⟩,k0,k1,k2⟩
theorem rrSign(s:ByteArray)(w:World):
 Calls Tryz.prog 187 #[rp b,.string s] w fun e w'=>∃ p0 p1,e=.returned (fnV 199 #[rp p0,rp p1])∧Below w.heap.size w w' ∧
  (w.heap.size≤p0∧w.heap.size≤p1)∧w'.cell? ⟨p0,0,none⟩=some (rp b)∧w'.cell? ⟨p1,0,none⟩=some (.string s):=by
 have hmf:∀ (fn:Fn) (first cap:Array Value) (w:World),(Instr.makeFunc fn first cap).run Tryz.prog w=.ok (.func fn first cap) w:=fun _ _ _ _=>rfl
 go_enter Tryz.func187,Tryz.ntmps187
 go_wp2_with fail
 go_ret
 obtain⟨hb,k0,k1⟩:=two_new w (rp b) (.string s) 57 9;exact⟨w.heap.size,w.heap.size+1,rfl,hb,⟨Nat.le_refl _,by omega⟩,k0,k1⟩
theorem rrBinary(op:Int)(w:World):
 Calls Tryz.prog 135 #[.int .i64 op] w fun e w'=>e=.returned (rp w.heap.size)∧w'=w.alloc (.cells (exA (mkOp 6 op) none 0 none 0) 26):=by
 go_enter Tryz.func135,Tryz.ntmps135
 go_wp2_with fail
 go_ret
 exact⟨rfl,rfl⟩
end
end
end Go.Proofs.YtokiaaapgkdpmaaGreatDoor
