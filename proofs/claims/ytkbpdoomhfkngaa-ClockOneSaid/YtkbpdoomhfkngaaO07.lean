/- Parts of the proof: Stp, ExZ. Conditions: each theorem's own. -/
import Derived.Deep.Slices
import Derived.Deep.Fields
import Derived.ChangeSame
import Derived.SliceStrings
import Derived.Test.YtkbpdoomhfkngaaO01
namespace Go.Proofs.Ytkbpdoomhfkngaa
set_option linter.unusedVariables false
set_option linter.unusedSimpArgs false
set_option maxRecDepth 100000
set_option maxHeartbeats 40000000
section
open Go.RowKit
theorem own_slice{w:World}{base:Nat}{e:TypeId}{size:Nat}{v:Value}{n:Nat}{xs:List Value}(h:w.ownsRow base e size v n xs):∃ A c,v=.slice A n c:=by
 rcases h.2 with⟨rfl,rfl⟩|⟨g,cap,cur,rfl,_⟩
 · exact⟨none,0,rfl⟩
 · exact⟨_,_,rfl⟩
theorem step_append_any{P:Program}{w:World}{ops:Array Oper}{o:Oper}{a:Act}{K:Act→World→Prop}{Q:Exit→Act→World→Prop}{E:Prop}(hgd:o.guard=none) (s x:Operand) (t:TypeId)
 (ho:o.op=.call { callee:=.builtin .append,args:=#[s,x],argTypes:=#[t,t] })
 (base:Nat) (e:TypeId) (i:TypeInfo) (z:Value) (size bytes:Nat) (ht:P.underlying t=some (.slice e)) (hi:P.info? e=some i) (hz:i.zero=some z)
 (hsize:i.size=size) (hby:i.bytes=bytes) (hzs:z.cells.size=size) (hsz:0<size)
 (v:Value) (n:Nat) (xs:List Value) (hs:a.eval s=v) (hown:w.ownsRow base e size v n xs)
 (A:Option Addr) (m c:Nat) (news:List Value) (hx:a.eval x=.slice A m c) (hl:news.length=m*size) (hA:A=none→m=0) (hnews:∀ ad,A=some ad→∀ j u,news[j]?=some u→w.cell? (ad.add j)=some u) (h1:∀ u∈news,u.oneCell'=true)
 (h63:n+m≤maxLen) (hbytes:(n+m)*bytes≤140737488355328) (hbase:base≤w.heap.size)
 (h:∀ A' c' w',w'.ownsRow base e size (.slice A' (n+m) c') (n+m) (xs++news)→w.grownBy w' v.ownBlock→((Value.slice A' (n+m) c').ownBlock=v.ownBlock∨(Value.slice A' (n+m) c').ownBlock=some w.heap.size)→K (a.put o.dst (.slice A' (n+m) c')) w'):
 if Region.wanted o (yielded ops a.tmps)=true then Oper.wp P o a w K Q else E:=by
 have hw:Region.wanted o (yielded ops a.tmps)=true:=by simp [Region.wanted,hgd]
 rw [if_pos hw]
 cases A with
 | none=>
  obtain rfl:=hA rfl;obtain rfl:news=[]:=List.eq_nil_of_length_eq_zero (by simpa using hl);have hr:=run_append_nil (P:=P) (w:=w) base t o.type e i size ht hi v n xs hown c;obtain⟨A',c',rfl⟩:=own_slice hown;unfold Oper.wp execOp;simp only [ho,resolve,invoke,builtin,Sem.run_bind,Sem.run_pure,Result.andThen_ok,List.map_toArray,List.map_cons,List.map_nil,hs,hx,hr];exact h A' c' w (by simpa using hown) (World.grownBy.refl w _) (.inl rfl)
 | some ad=>
  obtain⟨v',w',hr,h2,h3,_,h5⟩:=run_append_own_at (P:=P) w base t o.type e i z size bytes ht hi hz hsize hby hzs hsz v n xs hown ad m c news hl (hnews ad rfl) h1 h63 hbytes hbase;obtain⟨A',c',rfl⟩:=own_slice h2;unfold Oper.wp execOp;simp only [ho,resolve,invoke,builtin,Sem.run_bind,Sem.run_pure,Result.andThen_ok,List.map_toArray,List.map_cons,List.map_nil,hs,hx,hr];exact h A' c' w' h2 h3 h5
theorem add_addr(g o k:Nat):(⟨g,o,none⟩:Addr).add k=⟨g,o+k,none⟩:=by unfold Addr.add;split <;> simp_all
end
section
open Go.RowKit Go.ChangeShapes Go.WideShapes Go.Deep
theorem cells_i:Try.prog.cellsOf 3=1:=by kernel_rfl
theorem cells_l:Try.prog.cellsOf 2=1:=by kernel_rfl
theorem cells_s:Try.prog.cellsOf 9=1:=by kernel_rfl
theorem cells_ss:Try.prog.cellsOf 26=1:=by kernel_rfl
theorem cells_xs:Try.prog.cellsOf 27=1:=by kernel_rfl
def OkP(p:Ex):Prop:=p.s.size≤maxLen∧(∀ t∈p.arms,t.size≤maxLen)∧(Lit.int .i64 p.k).wf=true∧(Lit.int .i64 p.n).wf=true∧(Lit.int .i64 p.op).wf=true
def OkX(x:Ex):Prop:=∀ p∈partsX x,OkP p
theorem partss_mem{l:List Ex}{p:Ex}(h:p∈partssX l):∃ i,i<l.length∧p∈partsX (l[i]?.getD default):=by
 induction l with
 | nil=>simp [partssX] at h
 | cons x l ih=>
  simp only [partssX,List.mem_append] at h;rcases h with h | h
  · exact⟨0,by simp,by simpa using h⟩
  · obtain⟨i,hi,hp⟩:=ih h;exact⟨i+1,by simpa using hi,by simpa using hp⟩
theorem mem_partssZ{l:List Ex}{p:Ex}{i:Nat}(hi:i<l.length) (h:p∈partsX (l[i]?.getD default)):p∈partssX l:=by
 induction l generalizing i with
 | nil=>simp at hi
 | cons x l ih=>
  simp only [partssX,List.mem_append]
  cases i with
  | zero=>left;simpa using h
  | succ i=>right;exact ih (by simpa using hi) (by simpa using h)
theorem OkX.sub{x:Ex}(h:OkX x){i:Nat}(hi:i<x.subs.length):OkX (subX x i):=fun p hp=>h p (by
 rw [partsX_eq];exact List.mem_cons_of_mem _ (mem_partssZ hi hp))
section
variable {H:Type}{enc:TypeId × Value→H}{w:World}{base:Nat}{spare:Nat→Bool}{held:Bool}
theorem strs_openZ{fuel:Nat}{v:Value}{x:DataW H × List MemPlace}(h:DataW.trod enc Try.prog w base spare held fuel 26 [v]=some x):∃ A n c ss,v=.slice A n c∧RdT w A n ss∧∀ s∈ss,s.size≤maxLen:=by
 rcases Go.ChangeShapes.open_strings Try.underlying26 Try.underlying9 (by kernel_rfl) h with⟨hcs,_⟩|⟨x,l,c,ss,hcs,_,hl,hm,hss,_,hcell,hz⟩
 · simp at hcs
   subst hcs;exact⟨none,0,0,[],rfl,RdT.nil_ _,fun s hs=>by cases hs⟩
 · simp at hcs
   subst hcs;have hle:l≤ss.length:=by rw [hss];split <;> omega
   exact⟨some x,l,c,ss.take l,rfl,rdT_arg hle (by unfold maxLen at hm;omega) hcell,fun s hs=>hz s (List.mem_of_mem_take hs)⟩
theorem ex_cells:∀ (fuel:Nat){cs:List Value}{x:DataW H × List MemPlace},DataW.trod enc Try.prog w base spare held fuel 29 cs=some x→cs.length=6 →
 ∃ (X:Ex) (A:Option Addr) (ca:Nat) (B:Option Addr) (cb:Nat),cs=exL X A ca B cb∧rdX w X A B∧OkX X:=by
 intro fuel
 induction fuel using Nat.strongRecOn with
 | _ fuel ih=>
 intro cs x h hl;obtain⟨ys,m,hm,_,_,hy,hf⟩:=DataW.trod_struct Try.underlying29 h
 match cs,hl with
 | [v0,v1,v2,v3,v4,v5],_=>
  match ys,hy with
  | [y0,y1,y2,y3,y4,y5],_=>
   have t0:=hf 0 _ rfl;have t1:=hf 1 _ rfl;have t2:=hf 2 _ rfl;have t3:=hf 3 _ rfl;have t4:=hf 4 _ rfl;have t5:=hf 5 _ rfl
   simp [cells_i,cells_l,cells_s,cells_ss,cells_xs] at t0 t1 t2 t3 t4 t5
   obtain⟨k,e0,_,w0⟩:=DataW.trod_int Try.underlying3 t0;obtain⟨n,e1,_,w1⟩:=DataW.trod_int Try.underlying2 t1;obtain⟨s,e2,_,w2⟩:=DataW.trod_string Try.underlying9 t2;obtain⟨op,e3,_,w3⟩:=DataW.trod_int Try.underlying3 t3;injection e0 with e0;injection e1 with e1;injection e2 with e2;injection e3 with e3;subst e0 e1 e2 e3;obtain⟨A,na,ca,ss,rfl,hr,hz⟩:=strs_openZ t4;have hna:=hr.len;subst hna;rcases DataW.trod_slice Try.underlying27 t5 with⟨hcs,_⟩|⟨a,len,cap,elems,rest,nn,hnn,hcs,_,_,hlc,hcm,hel,hi,_,_⟩
   · simp at hcs
     subst hcs;refine⟨.mk k n s op ss [],A,ca,none,0,rfl,?_,?_⟩
     · rw [rdX_eq];exact⟨hr,RdX.nil_ _⟩
     · intro p hp;simp only [partsX,partssX,List.mem_singleton] at hp;subst hp;exact⟨w2,hz,w0,w1,w3⟩
   · simp at hcs
     subst hcs
     have hone:∀ i,i<len→∃ X:Ex,(∃ A' ca' B' cb',(∀ j v,(exL X A' ca' B' cb')[j]?=some v→w.cell? (a.add (i*6+j))=some v)∧rdX w X A' B')∧OkX X:=by
      intro i him;have h1:=hi i him;rw [List.getElem?_eq_getElem (by omega),cells_ex] at h1;obtain⟨cs',hc,ht⟩:=Option.bind_eq_some_iff.1 h1;obtain⟨_,hcl,hat⟩:=World.cells?_some hc;obtain⟨X,A',ca',B',cb',e,hrX,hok⟩:=ih nn (by omega) ht hcl;refine⟨X,⟨A',ca',B',cb',fun j v hj=>?_,hrX⟩,hok⟩
      have hj6:j<6:=by
       rcases Nat.lt_or_ge j 6 with h | h
       · exact h
       · rw [List.getElem?_eq_none (by simpa [exL] using h)] at hj;cases hj
      rw [← Go.Deep.add_add,hat j hj6,e,hj]
     obtain⟨f,hfX⟩:=choose_lt (α:=Ex) hone;have hget:∀ i,i<len→((List.range len).map f)[i]?.getD default=f i:=fun i hi=>by simp [List.getElem?_map,List.getElem?_range hi]
     refine⟨.mk k n s op ss ((List.range len).map f),A,ca,some a,cap,by simp [exL,Ex.k,Ex.n,Ex.s,Ex.op,Ex.arms,Ex.subs],?_,?_⟩
     · rw [rdX_eq];refine⟨hr,rfl,by simp [Ex.subs];unfold maxLen at hcm;omega,fun hn=>?_⟩;simp only [Ex.subs,List.length_map,List.length_range] at hn;obtain⟨b,off,spot⟩:=a;obtain⟨⟨A0,ca0,B0,cb0,h0,_⟩,_⟩:=hfX 0 hn;have h00:=h0 0 _ rfl;have hspot:spot=none:=by simpa [Addr.add] using World.cell?_spot h00
       subst hspot;have hadd:∀ i,(⟨b,off,none⟩:Addr).add i=⟨b,off+i,none⟩:=fun i=>by unfold Addr.add;split <;> simp_all
       refine⟨b,off,rfl,World.block_lt_of_cell? w _ ((hadd 0) ▸ h00),rdXs_of _ fun i hi=>?_⟩;simp only [Ex.subs,List.length_map,List.length_range] at hi;simp only [Ex.subs];rw [hget i hi];obtain⟨⟨A',ca',B',cb',h1,h2⟩,_⟩:=hfX i hi;refine⟨A',ca',B',cb',fun j v hv=>?_,h2⟩;have:=h1 j v hv;rw [hadd] at this;rw [Nat.add_assoc];exact this
     · intro p hp;simp only [partsX,List.mem_cons] at hp;rcases hp with rfl | hp
       · exact⟨w2,hz,w0,w1,w3⟩
       · obtain⟨i,hi,hp⟩:=partss_mem hp;simp only [List.length_map,List.length_range] at hi;rw [hget i hi] at hp;exact(hfX i hi).2 p hp
theorem ex_open{v:Value}{d:DataW H}{ps:List MemPlace}{r:Reach}{b0:Nat}(hv:Value.okWide Try.prog w r b0 29 v) (h:DataW.Trod enc Try.prog w base spare held 29 v d ps):
 ∃ (X:Ex) (A:Option Addr) (ca:Nat) (B:Option Addr) (cb:Nat),v=.agg (exA X A ca B cb)∧rdX w X A B∧OkX X:=by
 obtain⟨cs,rfl,hs⟩:=okWide_struct Try.underlying29 hv;obtain⟨fuel,hf⟩:=h;rw [cells_ex] at hs;obtain⟨X,A,ca,B,cb,e1,hr,hok⟩:=ex_cells fuel hf (by simpa [Value.cells] using hs);refine⟨X,A,ca,B,cb,?_,hr,hok⟩
 congr 1
 apply Array.toList_inj.1
 simpa [Value.cells,exA,exL] using e1
end
end
end Go.Proofs.Ytkbpdoomhfkngaa
