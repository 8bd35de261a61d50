/- Parts of the proof: TyI, TyN, TyP, TyQ, TyS, TyR, TyL, TyC, TyB. Conditions: each theorem's own. -/
import Derived.RangeFuncNested
import Derived.RangeFuncBound
import Derived.RangeFuncCalls
import Derived.RangeFuncLeaves
import Derived.Shelf.Abstract
import Derived.Shelf.RegionOpen
import Derived.OwnWalkIn
import Derived.TacticsInMore
import Derived.LoopNIn
import Derived.LoopIn
import Derived.RangeFuncBox
import Derived.Test.YtkbpdoomhfkngaaO02
namespace Go.Proofs.Ytkbpdoomhfkngaa
set_option linter.unusedVariables false
set_option linter.unusedSimpArgs false
set_option maxRecDepth 100000
set_option maxHeartbeats 40000000
section
open Go.RowKit Go.Shelf
attribute [local go_sem] Oper.semAt_some
theorem grownBy_of_below{W W':World}(h:Below W.heap.size W W'):W.grownBy W' none:=⟨h.os,h.tape,h.output,h.size,fun i hi _=>h.block i hi⟩
def encPl(x:Pl):Array Value:=#[.agg #[.int .i64 (x.1:Int),.int .i64 (x.2.1:Int)],.string x.2.2]
theorem tyCtors(A:Option Addr) (n c:Nat) (w:World):
 Calls Try.prog 68 #[.slice A n c] w fun e w'=>e=.returned (.func (.func 69) #[] #[.pointer (some ⟨w.heap.size,0,none⟩)])∧w'=w.alloc (.cells #[.slice A n c] 22):=by
 go_enter Try.func68,Try.ntmps68
 go_wp2
 go_ret
 exact⟨rfl,rfl⟩
theorem tyIter_in(n:Nat) (hn:1≤n) (l Bs:Nat) (w:World) (A:Option Addr) (len cap:Nat) (es:List En) (hE:RdE w A len es) (J Jx:List Pl→World→Prop) (W:World) (hbW:Below w.heap.size w W)
 (hJ:AbidesFrom W.heap.size J)
 (hY:∀ pre x W,J pre W→pre++[x] <+: flatE es→YieldAt Fence.wide (n-1) Try.prog l (encPl x) W fun e W' =>
  (e=.returned (.bool true)∧J (pre++[x]) W'∧Below w.heap.size W W')∨(e=.returned (.bool false)∧Jx (pre++[x]) W'))
 (hBs:W.cell? ⟨Bs,0,none⟩=some (.slice A len cap)) (h0:J [] W):
 CallsIn Fence.wide n Try.prog 69 #[.func (.yield l) #[] #[],.pointer (some ⟨Bs,0,none⟩)] W fun e W'=>(∃ v,e=.returned v) ∧
  ((∃ ys,ys=flatE es∧J ys W')∨(∃ pre,pre <+: flatE es∧Jx pre W')):=by
 have hlen:=hE.len;have hmx:=hE.max;refine callsIn_of_wp Try.func69 rfl trivial ?_ rfl;simp only [Try.ntmps69,List.size_toArray,List.length_cons,List.length_nil,Nat.reduceAdd,Nat.reduceSub,Array.replicate_succ,Array.replicate_zero,List.push_toArray,List.append_toArray,List.nil_append,List.cons_append]
 gi_wp2
 gi_loopw [9] (fun i wr=>∃ k:Nat,k≤len∧i=.int .i64 k∧J (upTo es k 0) wr∧Below w.heap.size w wr)
  (fun i _=>len-(intOf i).toNat)
 case atStart=>exact⟨0,Nat.zero_le _,rfl,by rw [upTo_zero];exact h0,hbW⟩
 case round=>
  obtain⟨k,hk,rfl,hJs,hnx⟩:=hrel
  by_cases hlt:k<len
  · obtain⟨b,off,rfl,hb,hc⟩:=hE.at_ hlt;obtain⟨hn0,A',n',c',hs0,hR0⟩:=hc k hlt;have hn1:wr.cell? ⟨b,off+k*2,none⟩=some (.string (nmE es k)):=(hnx.cell (p:=⟨b,off+k*2,none⟩) hb).trans hn0;have hs1:wr.cell? ⟨b,off+k*2+1,none⟩=some (.slice A' n' c'):=(hnx.cell (p:=⟨b,off+k*2+1,none⟩) hb).trans hs0;have hkl:k<es.length:=by omega
    have hcl:=hR0.len;have hcm:=hR0.max;have hJa:∀ W',Below wr.heap.size wr W'→J (upTo es k 0) W':=fun W' h=>hJ _ _ _ none hJs (grownBy_of_below h) (fun r e=>by cases e)
    gi_wp2
    gi_loopw [17] (fun i wr=>∃ m:Nat,m≤n'∧i=.int .i64 m∧J (upTo es k m) wr∧Below w.heap.size w wr)
     (fun i _=>n' - (intOf i).toNat)
    case atStart=>exact⟨0,Nat.zero_le _,rfl,hJa _ ((Below.refl _ _).alloc (Nat.le_refl _) _),hnx.alloc hnx.size _⟩
    case round=>
     obtain⟨m,hm,rfl,hJm,hnm⟩:=hrel
     by_cases hltm:m<n'
     · obtain⟨b2,off2,rfl,hb2,hc2⟩:=hR0.at_ hltm;have hcm2:=(hnm.cell (p:=⟨b2,off2+m,none⟩) hb2).trans (hc2 m hltm);have hpre:=upTo_pre (es:=es) hkl (k:=m+1) (by omega);obtain⟨fn,tmps,assign,body,hy,hR⟩:=hY _ (k,m,ctAt es k m) _ hJm (by rw [← upTo_succ];exact hpre);rw [← upTo_succ] at hR;unfold ctAt at hy;simp only [encPl] at hy;generalize hx:(csE es k)[m]?.getD ByteArray.empty=x at hcm2 hy
       gi_wp2
       refine hR.mono ?_;rintro e W3 (⟨rfl,hJ3,hk3⟩|⟨rfl,hJx3⟩)
       · gi_wp2
         go_roundw
         case rel=>exact⟨m+1,by omega,by go_num,hJ3,hnm.trans hk3⟩
         case measure=>simp [intOf];omega
       · gi_wp2
         refine bodyPost_ret (results_none rfl _ _ _) rfl ?_;exact⟨⟨_,rfl⟩,.inr ⟨_,hpre,hJx3⟩⟩
     · obtain rfl:m=n':=by omega
       gi_wp2
       go_roundw
       case rel=>exact⟨k+1,by omega,by go_num,by rw [← upTo_next,hcl];exact hJm,hnm⟩
       case measure=>simp [intOf];omega
  · obtain rfl:k=len:=by omega
    gi_wp2
    go_end0
    exact⟨⟨_,rfl⟩,.inl ⟨_,rfl,by rw [← upTo_end,hlen];exact hJs⟩⟩
theorem tyIter_stops(n:Nat) (hn:1≤n) (Bs:Nat) (w0:World) (A:Option Addr) (len cap:Nat) (es:List En) (hE:RdE w0 A len es) (w:World) (hb:Below w0.heap.size w0 w) (hBs:Bs<w.heap.size)
 (hc:w.cell? ⟨Bs,0,none⟩=some (.slice A len cap)):
 SeqStopsK Fence.wide n Try.prog 69 #[.pointer (some ⟨Bs,0,none⟩)] encPl (Below w0.heap.size) (fun ys=>ys=flatE es) (fun pre=>pre <+: flatE es) (flatE es).length w:=fun l J Jx W hW hJ _ hY h0=>
 tyIter_in n hn l Bs w0 A len cap es hE J Jx W (hb.trans (hW.mono hb.size)) hJ (fun pre x W1 h1 h2=>hY pre x W1 h1 (by have:=h2.length_le;simp at this;omega)) ((hW.cell (p:=⟨Bs,0,none⟩) hBs).trans hc) h0
def Box2(W:World) (B:Nat) (t:TypeId) (u v:Value):Prop:=W.heap[B]?=some (.cells #[u,v] t (0,0))
section
variable {W W':World}{B:Nat}{t:TypeId}{u v:Value}
theorem Box2.lt(h:Box2 W B t u v):B<W.heap.size:=(Array.getElem?_eq_some_iff.1 h).1
theorem Box2.c0(h:Box2 W B t u v):W.cell? ⟨B,0,none⟩=some u:=by simp [World.cell?,show W.heap[B]?=_ from h]
theorem Box2.c1(h:Box2 W B t u v):W.cell? ⟨B,1,none⟩=some v:=by simp [World.cell?,show W.heap[B]?=_ from h]
theorem Box2.new(W:World) (t:TypeId) (u v:Value):Box2 (W.alloc (.cells #[u,v] t)) W.heap.size t u v:=World.alloc_heap_new W _
theorem box2_own{β:Type}(B:Nat) (t:TypeId) (u v:Value):Own (fun(_:β) W=>Box2 W B t u v):=fun s X Y row hs hg hrow=>
 (hg.block B (Box2.lt hs) (fun e'=>by obtain⟨o,ho,hc⟩:=hrow B e'.symm;rw [show X.heap[B]?=_ from hs] at ho;cases ho;cases hc)).trans hs
end
end
section
open Go.RowKit Go.Shelf
attribute [local go_sem] Oper.semAt_some
def enB(e:En):Bool:=lowB e.1.data.toList && !e.2.isEmpty
def hiB(s:ByteArray):Bool:=highB s.data.toList
def namedB(es:List En):Bool:=es.all enB && (allE es).all hiB
def namedTo(es:List En) (k:Nat):Prop:=∀ j,j<k→lowB (nmE es j).data.toList=true∧0<(csE es j).length
section
variable {es:List En}{k:Nat}
theorem en_at(h:k<es.length):es[k]'h=(nmE es k,csE es k):=by
 simp [nmE,csE,List.getElem?_eq_getElem h]
theorem enB_at(h:k<es.length):enB (es[k]'h)=(lowB (nmE es k).data.toList && decide (0<(csE es k).length)):=by
 rw [en_at h];unfold enB
 cases csE es k <;> simp
theorem named_bad(h:k<es.length) (hb:lowB (nmE es k).data.toList=false∨(csE es k).length=0):namedB es=false:=by
 have:es.all enB=false:=by
  rw [List.all_eq_false];refine⟨es[k]'h,List.getElem_mem h,?_⟩;rw [enB_at h];rcases hb with h | h <;> simp [h]
 unfold namedB;rw [this,Bool.false_and]
theorem namedTo_all(H:namedTo es k) (h:es.length≤k):es.all enB=true:=by
 rw [List.all_eq_true];intro e he;obtain⟨j,hj,rfl⟩:=List.getElem_of_mem he;have:=H j (by omega);rw [enB_at hj,this.1,decide_eq_true this.2];rfl
theorem namedTo_succ(H:namedTo es k) (h1:lowB (nmE es k).data.toList=true) (h2:0<(csE es k).length):namedTo es (k+1):=fun j hj=>by
 rcases Nat.lt_or_ge j k with h | h
 · exact H j h
 · obtain rfl:j=k:=by omega
   exact⟨h1,h2⟩
theorem EsOk.flat(h:EsOk es):∀ p∈flatE es,p.2.2.size≤maxLen:=by
 intro p hp;have h1:p.2.2∈namesTo es es.length:=List.mem_map.2 ⟨p,hp,rfl⟩;obtain⟨j,hj,hm⟩:=namesTo_mem h1;exact(h j hj).2 _ hm
end
end
section
open Go.RowKit Go.Shelf
attribute [local go_sem] Oper.semAt_some
def nmsE(es:List En):List ByteArray:=es.map (·.1)
def apartB(es:List En):Bool:=onceS (nmsE es) && onceS (allE es)
def EsFew(es:List En):Prop:=es.length≤8∧∀ j,j<es.length→(csE es j).length≤12
section
variable {es:List En}
theorem EsFew.flat(h:EsFew es):(flatE es).length≤96:=by
 have h1:=namesTo_len (es:=es) (i:=es.length) h.2;have h2:(namesTo es es.length).length=(flatE es).length:=by simp [namesTo,flatE]
 have:=h.1;omega
theorem EsOk.all(h:EsOk es):∀ s∈allE es,s.size≤maxLen:=by
 intro s hs;obtain⟨p,hp,rfl⟩:=List.mem_map.1 hs;exact h.flat p hp
theorem nmsE_len:(nmsE es).length=es.length:=by simp [nmsE]
theorem nmsE_succ{k:Nat}(h:k<es.length):(nmsE es).take (k+1)=(nmsE es).take k++[nmE es k]:=by
 rw [take_snocT (by rw [nmsE_len];exact h)];unfold nmsE;rw [nm_map]
end
end
section
open Go.RowKit
def manyB(es:List En):Bool:=decide (4<es.length) || es.any fun e=>decide (6<e.2.length)
def fewTo(es:List En) (k:Nat):Prop:=∀ j,j<k→(csE es j).length≤6
def enumsN(es:List En):Int:=if manyB es then 4 else if namedB es then(if apartB es then 0 else 6) else 1
section
variable {es:List En}{k:Nat}
theorem many_at(h:k<es.length) (hb:6<(csE es k).length):manyB es=true:=by
 unfold manyB;rw [Bool.or_eq_true,List.any_eq_true];refine .inr ⟨es[k]'h,List.getElem_mem h,?_⟩;rw [en_at h];exact decide_eq_true hb
theorem many_no(h4:es.length≤4) (H:fewTo es k) (h:es.length≤k):manyB es=false:=by
 unfold manyB;rw [Bool.or_eq_false_iff,List.any_eq_false];refine⟨decide_eq_false (by omega),fun e he=>?_⟩;obtain⟨j,hj,rfl⟩:=List.getElem_of_mem he;have:=H j (by omega);rw [en_at hj];simp only [decide_eq_true_eq];omega
theorem fewTo_succ(H:fewTo es k) (h:(csE es k).length≤6):fewTo es (k+1):=fun j hj=>by
 rcases Nat.lt_or_ge j k with h1 | h1
 · exact H j h1
 · obtain rfl:j=k:=by omega
   exact h
end
end
section
open Go.RowKit
theorem RdT.news{w:World}{a:Addr}{n:Nat}{l:List ByteArray}(h:RdT w (some a) n l) (j:Nat) (u:Value) (hu:(l.map Value.string)[j]?=some u):w.cell? (a.add j)=some u:=by
 have hj:j<l.length:=by
  rcases Nat.lt_or_ge j l.length with h | h
  · exact h
  · rw [List.getElem?_eq_none (by simpa using h)] at hu;cases hu
 obtain⟨b,off,e,_,hc⟩:=h.at_ (i:=j) (by rw [← h.len];exact hj);injection e with e;subst e;have:=hc j (by rw [← h.len];exact hj);have e2:(⟨b,off,none⟩:Addr).add j=⟨b,off+j,none⟩:=by unfold Addr.add;split <;> simp_all
 rw [e2,this,← hu]
 simp [List.getElem?_eq_getElem hj]
section
variable {P:Program}{w:World}
theorem wpList_append_rdT{ops:Array Oper}{rest:List Oper}{o:Oper}{a:Act}{Q:Exit→Act→World→Prop}(hgd:o.guard=none) (s x:Operand) (t:TypeId)
 (ho:o.op=.call { callee:=.builtin .append,args:=#[s,x],argTypes:=#[t,t] })
 (base:Nat) (e:TypeId) (i:TypeInfo) (z:Value) (bytes:Nat) (ht:P.underlying t=some (.slice e)) (hi:P.info? e=some i) (hz:i.zero=some z)
 (hsize:i.size=1) (hby:i.bytes=bytes) (hzs:z.cells.size=1)
 (v:Value) (n:Nat) (xs:List ByteArray) (hs:a.eval s=v) (hown:w.ownsRow base e 1 v n (xs.map Value.string))
 (A:Option Addr) (m c:Nat) (l:List ByteArray) (hx:a.eval x=.slice A m c) (hr:RdT w A m l)
 (h63:n+m≤maxLen) (hbytes:(n+m)*bytes≤140737488355328) (hbase:base≤w.heap.size)
 (h:∀ v' w',w'.ownsRow base e 1 v' (n+m) ((xs++l).map Value.string)→w.grownBy w' v.ownBlock→(v'.ownBlock=v.ownBlock∨v'.ownBlock=some w.heap.size)→wpList P ops Q rest (a.put o.dst v') w'):wpList P ops Q (o::rest) a w:=by
 rcases A with _ | ad
 · obtain rfl:m=0:=by
    rcases Nat.eq_zero_or_pos m with h0 | h0
    · exact h0
    · obtain⟨b,off,e,_⟩:=hr.at_ h0;cases e
   obtain rfl:l=[]:=List.eq_nil_of_length_eq_zero hr.len;refine wpList_plain hgd fun K hK=>?_;have hrun:=run_append_nil (P:=P) (w:=w) base t o.type e i 1 ht hi v n _ hown c;unfold Oper.wp
   simp [execOp,ho,resolve,invoke,builtin,hs,hx,hrun,Result.andThen]
   exact hK _ _ (h v w (by simpa using hown) (World.grownBy.refl w _) (.inl rfl))
 · exact wpList_append_own_at w hgd s x t ho base e i z 1 bytes ht hi hz hsize hby hzs (by decide) v n _ hs hown ad m c (l.map Value.string) hx (by simp [hr.len]) hr.news (string_cells _) h63 hbytes hbase fun v' w' h1 h2 _ h4=>h v' w' (by rw [List.map_append];exact h1) h2 h4
end
def Apt(u v:Value):Prop:=∀ g,u.ownBlock=some g→v.ownBlock≠some g
theorem Apt.kept1{u v v':Value}{n:Nat}(h:Apt u v) (hl:v'.ownBlock=v.ownBlock∨v'.ownBlock=some n) (hu:∀ g,u.ownBlock=some g→g<n):Apt u v':=fun g hg e=>by
 rcases hl with h1 | h1
 · exact h g hg (h1 ▸ e)
 · have:=hu g hg;rw [h1] at e
   cases e
   omega
theorem Apt.symm{u v:Value}(h:Apt u v):Apt v u:=fun g hg e=>h g e hg
theorem Apt.ne{u v:Value}(h:Apt u v):u.ownBlock=none∨u.ownBlock≠v.ownBlock:=by
 rcases hub:u.ownBlock with _ | g
 · exact .inl rfl
 · exact .inr fun e=>h g hub e.symm
theorem refEnums(A:Option Addr) (len cap:Nat) (es:List En) (w:World) (hE:RdE w A len es) (hok:EsOk es) (hfew:EsFew es):
 Calls Try.prog 31 #[.slice A len cap] w fun e w'=>e=.returned (.int .i64 (enumsN es))∧Below w.heap.size w w':=by
 have hlen:=hE.len;have hmx:=hE.max
 by_cases h4:4<len
 · have hN:=Hd (show(4:Int)=enumsN es by simp [enumsN,manyB,hlen,h4])
   go_enter Try.func31,Try.ntmps31
   go_wp2_with fail
   go_ret
   exact⟨ret_int hN.out,((Below.refl _ _).alloc (Nat.le_refl _) _).alloc (by simp) _⟩
 · have hd4:decide ((4:Int)<(len:Int))=false:=decide_eq_false (by omega);obtain⟨i0,hi,hz0,hz1,hz2⟩:=info_parts infoString;have hr3:=Hd ((World.ownsRow_lit (base:=w.heap.size) (e:=9) (size:=1) w #[] 0 (Nat.le_refl _) (by decide) rfl).alloc (.cells #[] 9));have hr4:=Hd (World.ownsRow_lit (base:=w.heap.size) (e:=9) (size:=1) (w.alloc (.cells #[] 9)) #[] 0 (by simp) (by decide) rfl);have HB0:=Hd (((Below.refl w.heap.size w).alloc (Nat.le_refl _) (.cells #[] 9)).alloc (by simp) (.cells #[] 9))
   go_enter Try.func31,Try.ntmps31
   go_wp2_with fail
   go_loopw [3,4,5] (fun v u i wr=>∃ k:Nat,k≤len∧i=.int .i64 k∧fewTo es k∧wr.ownsRow w.heap.size 9 1 v k (((nmsE es).take k).map Value.string)∧wr.ownsRow w.heap.size 9 1 u (namesTo es k).length ((namesTo es k).map Value.string)∧Apt v u∧Below w.heap.size w wr) (fun _ _ i _=>len-(intOf i).toNat)
   case atStart=>
    refine⟨0,Nat.zero_le _,rfl,fun j hj=>absurd hj (by omega),hr3.out,?_,?_,HB0.out⟩
    · have:=hr4.out
      simpa [namesTo,flatTo] using this
    · intro g hg e
      simp [Value.ownBlock] at hg e
      omega
   case round=>
    obtain⟨k,hk,rfl,hto,hrw3,hrw4,hapt,hnx⟩:=hrel;have HT:=Hd hto;clear hto
    by_cases hlt:k<len
    · obtain⟨b,off,rfl,hb,hc⟩:=hE.at_ hlt;obtain⟨hn0,A',n',c',hs0,hR0⟩:=hc k hlt;have hn1:wr.cell? ⟨b,off+k*2,none⟩=some (.string (nmE es k)):=(hnx.cell (p:=⟨b,off+k*2,none⟩) hb).trans hn0;have hs1:wr.cell? ⟨b,off+k*2+1,none⟩=some (.slice A' n' c'):=(hnx.cell (p:=⟨b,off+k*2+1,none⟩) hb).trans hs0;have hkl:k<es.length:=by omega
      have hcl:=hR0.len;have hcm:=hR0.max
      by_cases h6:6<n'
      · have HE:=Hd (show(4:Int)=enumsN es by simp [enumsN,many_at hkl (show 6<(csE es k).length by omega)])
        go_wp2_with fail
        go_ret
        exact⟨ret_int HE.out,hnx⟩
      · have HN:=Hd (fewTo_succ HT.out (show(csE es k).length≤6 by omega));have hd6:decide ((6:Int)<(n':Int))=false:=decide_eq_false (by omega);have hNM:=Hd (nmsE_succ hkl);have hCT:=Hd (namesTo_succ es k);have hns:=namesTo_len (es:=es) (i:=k) fun j hj=>hfew.2 j (by omega);generalize hxn:nmE es k=x at hn1 hNM;have HRD:=Hd hR0;have HSL:=Hd hs0;have HNX:=Hd hnx;have H3:=Hd hrw3;have H4:=Hd hrw4;have HA:=Hd hapt;have hwz:=hnx.size;clear hrw3 hrw4 hapt hR0 hr3 hr4 HB0
        go_wp2_with (first
         | (at_builtin;refine wpList_append_own_at _ rfl _ _ 26 rfl w.heap.size 9 i0 (.string ByteArray.empty) 1 16 Try.underlying26 hi hz0 hz1 hz2 rfl (by decide) _ _ _ rfl (H3.out.alloc _) ⟨wr.heap.size,0,none⟩ 1 1 [.string x] rfl rfl (cell_one_new _ _ _) (string_cells [x]) (by unfold maxLen;omega) (by omega) (by simp;omega) ?_;intro v' w1 hown' hgrow hnil hloc;have hB1:=(HNX.out.alloc hwz (.cells #[.string x] 9)).grown hgrow (by simp;omega) (fun j hj=>(H3.out.lt j hj).1);have hs1:w1.cell? ⟨b,off+k*2+1,none⟩=some (.slice A' n' c'):=(hB1.cell (p:=⟨b,off+k*2+1,none⟩) hb).trans HSL.out;have HG:=Hd hgrow;have HO:=Hd hown';have HL:=Hd hloc;have HB1:=Hd hB1;have hw1:=hB1.size;have hg1:=hgrow.size;simp at hg1;clear hgrow hown' hnil hloc hB1;have HR1:=Hd (HRD.out.keep HB1.out.size fun p hp=>HB1.out.cell hp);have H41:=Hd ((H4.out.alloc (.cells #[.string x] 9)).kept HG.out HA.out.symm.ne))
         | (at_builtin;refine wpList_append_rdT rfl _ _ 26 rfl w.heap.size 9 i0 (.string ByteArray.empty) 16 Try.underlying26 hi hz0 hz1 hz2 rfl _ _ (namesTo es k) rfl H41.out A' n' c' (csE es k) rfl HR1.out (by unfold maxLen;omega) (by omega) (by omega) ?_;intro v2 w2 hown2 hgrow2 hloc2;have HG2:=Hd hgrow2;have HO2:=Hd hown2;have HL2:=Hd hloc2;clear hgrow2 hown2 hloc2))
        have HAP:=Hd (Apt.kept1 (Apt.kept1 HA.out.symm HL.out (fun g hg=>by have:=(H4.out.lt g hg).2;simp;omega)).symm HL2.out (fun g hg=>(HO.out.lt g hg).2))
        go_roundw
        case rel=>
         refine⟨k+1,by omega,by go_num,HN.out,?_,?_,HAP.out,?_⟩
         · rw [hNM.out,List.map_append];exact HO.out.kept HG2.out (Apt.ne (Apt.kept1 HA.out.symm HL.out (fun g hg=>by have:=(H4.out.lt g hg).2;simp;omega)).symm)
         · rw [hCT.out,List.length_append,hcl];exact HO2.out
         · exact HB1.out.grown HG2.out (by omega) (fun j hj=>(H41.out.lt j hj).1)
        case measure=>simp [intOf];omega
    · obtain rfl:k=len:=by omega
      have hmany:=many_no (by omega) HT.out (by omega);have hnm:(nmsE es).take k=nmsE es:=List.take_of_length_le (by rw [nmsE_len];omega);have hct:namesTo es k=allE es:=by rw [← hlen];exact namesTo_end es
      have hcl:(allE es).length≤96:=by have:=hfew.flat;simpa [allE] using this
      rw [hnm] at hrw3;rw [hct] at hrw4;obtain⟨A1,c1,rfl,hR1,_⟩:=RdT.of_own hrw3 (by omega);obtain⟨A2,c2,rfl,hR2,_⟩:=RdT.of_own hrw4 (by omega);have hEr:=hE.below hnx;have HEB:=Hd hEr;have HR1:=Hd hR1;have HR2:=Hd hR2;have HNX:=Hd hnx;have HMANY:=Hd hmany;clear hrw3 hrw4 hR1 hR2 hapt hr3 hr4 HB0 hnm hct hmany hnx hE hEr
      go_wp2_with fail
      go_loopw [6] (fun i wq=>∃ j:Nat,j≤k∧i=.int .i64 j∧namedTo es j∧Below wr.heap.size wr wq) (fun i _=>k-(intOf i).toNat)
      case atStart=>exact⟨0,Nat.zero_le _,rfl,fun j hj=>absurd hj (by omega),Below.refl _ _⟩
      case round=>
       obtain⟨j,hj,rfl,hto,hbq⟩:=hrel;have HTO:=Hd hto;have HBQ:=Hd hbq;clear hto
       by_cases hjk:j<k
       · obtain⟨b,off,rfl,hb,hc⟩:=(HEB.out.below hbq).at_ hjk;obtain⟨hn0,A',n',c',hs0,hR0⟩:=hc j hjk;have hkl:j<es.length:=by omega
         have hcl:=hR0.len;have hcm:=hR0.max;have HBAD:=Hd fun h=>named_bad hkl h;have HNXT:=Hd fun h1 h2=>namedTo_succ HTO.out h1 h2;have hzl:=(hok j hkl).1;unfold maxLen at hzl;clear hc hbq;generalize hxn:nmE es j=x at hn0 hzl HBAD HNXT
         by_cases hlow:lowB x.data.toList=true
         · rcases Nat.eq_zero_or_pos n' with hz | hz
           · have HE:=Hd (show(1:Int)=enumsN es by simp [enumsN,HMANY.out,HBAD.out (.inr (by omega))]);subst hz
             go_wp2_with fail
             refine(refLow x _ (by omega)).mono ?_;rw [hlow];rintro e w3 ⟨rfl,hb3⟩;have hs3:=(hb3.cell (p:=⟨b,off+j*2+1,none⟩) hb).trans hs0;have HB3:=Hd (below_trans2 (HNX.out.trans (HBQ.out.mono HNX.out.size)) (hb3.mono (Nat.le_refl _)));clear hb3
             go_wp2_with fail
             go_ret
             exact⟨ret_int HE.out,HB3.out⟩
           · have HN:=Hd (HNXT.out hlow (by omega));have hnz:((n':Int)==0)=false:=by rw [beq_eq_false_iff_ne];omega
             go_wp2_with fail
             refine(refLow x _ (by omega)).mono ?_;rw [hlow];rintro e w3 ⟨rfl,hb3⟩;have hs3:=(hb3.cell (p:=⟨b,off+j*2+1,none⟩) hb).trans hs0;have HB3:=Hd (HBQ.out.trans (hb3.mono HBQ.out.size));clear hb3
             go_wp2_with fail
             go_roundw
             case rel=>exact⟨j+1,by omega,by go_num,HN.out,HB3.out⟩
             case measure=>simp [intOf];omega
         · have hlow:lowB x.data.toList=false:=by simpa using hlow
           have HE:=Hd (show(1:Int)=enumsN es by simp [enumsN,HMANY.out,HBAD.out (.inl hlow)])
           go_wp2_with fail
           refine(refLow x _ (by omega)).mono ?_;rw [hlow];rintro e w3 ⟨rfl,hb3⟩;have HB3:=Hd (HNX.out.trans ((HBQ.out.trans (hb3.mono HBQ.out.size)).mono HNX.out.size));clear hb3
           go_wp2_with fail
           go_ret
           exact⟨ret_int HE.out,HB3.out⟩
       · obtain rfl:j=k:=by omega
         have HALL:=Hd (namedTo_all HTO.out (by omega));have HR1:=Hd (HR1.out.below HBQ.out);have HR2:=Hd (HR2.out.below HBQ.out);have HNX:=Hd (HNX.out.trans (HBQ.out.mono HNX.out.size));clear hbq HBQ HEB HTO
         go_wp2_with fail
         go_loopw [7] (fun i wq2=>∃ m:Nat,m≤(allE es).length∧i=.int .i64 m∧(∀ q,q<m→hiB ((allE es)[q]?.getD ByteArray.empty)=true)∧wq2=wr) (fun i _=>(allE es).length-(intOf i).toNat)
         case atStart=>exact⟨0,Nat.zero_le _,rfl,fun q hq=>absurd hq (by omega),rfl⟩
         case round=>
          obtain⟨m,hm,rfl,hhi,rfl⟩:=hrel;have HHI:=Hd hhi;clear hhi
          by_cases hmlt:m<(allE es).length
          · obtain⟨b,off,rfl,hb,hc⟩:=HR2.out.at_ hmlt;have hcm:=hc m hmlt;have hsz:=hok.all _ (show(allE es)[m]?.getD ByteArray.empty∈allE es by rw [List.getElem?_eq_getElem hmlt];exact List.getElem_mem _);unfold maxLen at hsz
            have HM:=Hd (show hiB ((allE es)[m]?.getD ByteArray.empty)=false→(allE es).all hiB=false from fun h=>by
             rw [List.all_eq_false];refine⟨_,List.getElem_mem hmlt,?_⟩;rw [List.getElem?_eq_getElem hmlt] at h
             simpa using h)
            have HS:=Hd (show hiB ((allE es)[m]?.getD ByteArray.empty)=true→∀ q,q<m+1→hiB ((allE es)[q]?.getD ByteArray.empty)=true from fun h q hq=>by
             rcases Nat.lt_or_ge q m with h1 | h1
             · exact HHI.out q h1
             · obtain rfl:q=m:=by omega
               exact h)
            clear hc;generalize (allE es)[m]?.getD ByteArray.empty=x at hcm hsz HM HS
            by_cases hhx:highB x.data.toList=true
            · have HS:=Hd (HS.out hhx)
              go_wp2_with fail
              refine(refHigh x _ (by omega)).mono ?_;rw [hhx];rintro e w3 ⟨rfl,rfl⟩
              go_wp2_with fail
              go_roundw
              case rel=>exact⟨m+1,by omega,by go_num,HS.out,(by first | trivial | rfl)⟩
              case measure=>simp [intOf];omega
            · have hhx:highB x.data.toList=false:=by simpa using hhx
              have HE:=Hd (show(1:Int)=enumsN es by simp [enumsN,HMANY.out,namedB,HM.out hhx])
              go_wp2_with fail
              refine(refHigh x _ (by omega)).mono ?_;rw [hhx];rintro e w3 ⟨rfl,rfl⟩
              go_wp2_with fail
              go_ret
              exact⟨ret_int HE.out,HNX.out⟩
          · have hnamed:namedB es=true:=by
             have h2:(allE es).all hiB=true:=by
              rw [List.all_eq_true];intro s hs;obtain⟨q,hq,rfl⟩:=List.getElem_of_mem hs;have:=HHI.out q (by omega);rwa [List.getElem?_eq_getElem hq] at this
             unfold namedB;rw [HALL.out,h2];rfl
            by_cases ho:onceS (nmsE es)=true
            · by_cases ho2:onceS (allE es)=true
              · have HE:=Hd (show(0:Int)=enumsN es by simp [enumsN,HMANY.out,hnamed,apartB,ho,ho2])
                go_wp2_with fail
                refine(refOnce A1 j c1 (nmsE es) _ HR1.out (by omega)).mono ?_;rw [ho];rintro e w3 ⟨rfl,p,rfl⟩
                go_wp2_with fail
                refine(refOnce A2 _ c2 (allE es) _ (HR2.out.drewN p) (by omega)).mono ?_;rw [ho2];rintro e w3 ⟨rfl,p2,rfl⟩
                go_wp2_with fail
                go_ret
                exact⟨ret_int HE.out,below_drewN HNX.out (p+p2)⟩
              · have ho2:onceS (allE es)=false:=by simpa using ho2
                have HE:=Hd (show(6:Int)=enumsN es by simp [enumsN,HMANY.out,hnamed,apartB,ho,ho2])
                go_wp2_with fail
                refine(refOnce A1 j c1 (nmsE es) _ HR1.out (by omega)).mono ?_;rw [ho];rintro e w3 ⟨rfl,p,rfl⟩
                go_wp2_with fail
                refine(refOnce A2 _ c2 (allE es) _ (HR2.out.drewN p) (by omega)).mono ?_;rw [ho2];rintro e w3 ⟨rfl,p2,rfl⟩
                go_wp2_with fail
                go_ret
                exact⟨ret_int HE.out,below_drewN HNX.out (p+p2)⟩
            · have ho:onceS (nmsE es)=false:=by simpa using ho
              have HE:=Hd (show(6:Int)=enumsN es by simp [enumsN,HMANY.out,hnamed,apartB,ho])
              go_wp2_with fail
              refine(refOnce A1 j c1 (nmsE es) _ HR1.out (by omega)).mono ?_;rw [ho];rintro e w3 ⟨rfl,p,rfl⟩
              go_wp2_with fail
              go_ret
              exact⟨ret_int HE.out,below_drewN HNX.out p⟩
end
section
open Go.RowKit
def tyV(k e l:Int):Value:=.agg #[.int .i64 k,.int .i64 e,.int .i64 l]
def rightB(n:Nat) (k e l:Int):Bool:=
 decide (0≤l∧l≤8) && (if k=1∨k=2 then decide (e=0) else decide (k=3∧0≤e∧e<n))
section
variable {n:Nat}{k e l:Int}
theorem right_len(h:l<0∨8<l):rightB n k e l=false:=by
 simp only [rightB,decide_eq_false (show ¬ (0≤l∧l≤8) by omega),Bool.false_and]
theorem right_base(h:0≤l∧l≤8) (hk:k=1∨k=2):rightB n k e l=decide (e=0):=by
 simp only [rightB,decide_eq_true h,Bool.true_and,if_pos hk]
theorem right_enum(h:0≤l∧l≤8) (hk:k=3):rightB n k e l=decide (0≤e∧e<n):=by
 subst hk
 simp [rightB,decide_eq_true h]
theorem right_kind(hk:¬ (k=1∨k=2)) (h3:k≠3):rightB n k e l=false:=by
 simp [rightB,if_neg hk,h3]
end
theorem refTyRight(A:Option Addr) (n c:Nat) (k e l:Int) (w:World) (hn:n≤9223372036854775807):
 Calls Try.prog 62 #[.slice A n c,tyV k e l] w fun r w'=>r=.returned (.bool (rightB n k e l))∧Below w.heap.size w w':=by
 unfold tyV;have HB:=Hd ((Below.refl w.heap.size w).alloc (Nat.le_refl _) (.cells #[.int .i64 k,.int .i64 e,.int .i64 l] 56))
 by_cases h1:l<0
 · have HE:=Hd (right_len (n:=n) (k:=k) (e:=e) (.inl h1));have d1:decide (l<0)=true:=decide_eq_true h1
   by_cases k0:k<1
   · go_enter Try.func62,Try.ntmps62
     go_wp2_with fail
     go_ret
     exact⟨ret_bool HE.out.symm,HB.out⟩
   · by_cases k4:3<k
     all_goals
      go_enter Try.func62,Try.ntmps62
      go_wp2_with fail
      go_ret
      exact⟨ret_bool HE.out.symm,HB.out⟩
 · by_cases h2:8<l
   · have HE:=Hd (right_len (n:=n) (k:=k) (e:=e) (.inr h2))
     by_cases k0:k<1
     · go_enter Try.func62,Try.ntmps62
       go_wp2_with fail
       go_ret
       exact⟨ret_bool HE.out.symm,HB.out⟩
     · by_cases k4:3<k
       all_goals
        go_enter Try.func62,Try.ntmps62
        go_wp2_with fail
        go_ret
        exact⟨ret_bool HE.out.symm,HB.out⟩
   · have hl:0≤l∧l≤8:=by omega
     by_cases k0:k<1
     · have HE:=Hd (right_kind (n:=n) (e:=e) (l:=l) (show ¬ (k=1∨k=2) by omega) (by omega))
       go_enter Try.func62,Try.ntmps62
       go_wp2_with fail
       go_ret
       exact⟨ret_bool HE.out.symm,HB.out⟩
     · by_cases k4:3<k
       · have HE:=Hd (right_kind (n:=n) (e:=e) (l:=l) (show ¬ (k=1∨k=2) by omega) (by omega))
         go_enter Try.func62,Try.ntmps62
         go_wp2_with fail
         go_ret
         exact⟨ret_bool HE.out.symm,HB.out⟩
       · by_cases k3:k=3
         · have HE:=Hd (right_enum (n:=n) (e:=e) hl k3);subst k3
           by_cases e0:0≤e
           all_goals
            go_enter Try.func62,Try.ntmps62
            go_wp2_with fail
            go_ret
            exact⟨ret_bool (by rw [HE.out,Bool.eq_iff_iff];simp;omega),HB.out⟩
         · have HE:=Hd (right_base (n:=n) (e:=e) hl (show k=1∨k=2 by omega));have b3:(k==3)=false:=by simpa using k3
           go_enter Try.func62,Try.ntmps62
           go_wp2_with fail
           go_ret
           exact⟨ret_bool (by rw [HE.out,Bool.eq_iff_iff];simp),HB.out⟩
end
section
open Go.RowKit
def tinyTo(es:List En) (k:Nat):Prop:=∀ j,j<k→(csE es j).length≤12∧(nmE es j).size≤100∧∀ q,q<(csE es j).length→(ctAt es j q).size≤100
def EsTiny(es:List En):Prop:=es.length≤8∧tinyTo es es.length
theorem EsTiny.few{es:List En}(h:EsTiny es):EsFew es:=⟨h.1,fun j hj=>(h.2 j hj).1⟩
theorem EsTiny.ok{es:List En}(h:EsTiny es):EsOk es:=fun j hj=>by
 have h1:=h.2 j hj;unfold maxLen;refine⟨by omega,fun s hs=>?_⟩;obtain⟨q,hq,rfl⟩:=List.getElem_of_mem hs;have:=h1.2.2 q hq;unfold ctAt at this;rw [List.getElem?_eq_getElem hq,Option.getD_some] at this;omega
theorem tinyTo_succ{es:List En}{k:Nat}(H:tinyTo es k) (h1:(csE es k).length≤12) (h2:(nmE es k).size≤100) (h3:∀ q,q<(csE es k).length→(ctAt es k q).size≤100):tinyTo es (k+1):=fun j hj=>by
 rcases Nat.lt_or_ge j k with h | h
 · exact H j h
 · obtain rfl:j=k:=by omega
   exact⟨h1,h2,h3⟩
def SmallPost(es:List En) (w:World) (e:Ending) (w':World):Prop:=∃ b,e=.returned (.bool b)∧(b=true→EsTiny es)∧w=w'
theorem small_no(es:List En) (w:World):SmallPost es w (.returned (.bool false)) w:=⟨false,rfl,fun h=>(by cases h),rfl⟩
theorem small_yes{es:List En}(h:EsTiny es) (w:World):SmallPost es w (.returned (.bool true)) w:=⟨true,rfl,fun _=>h,rfl⟩
theorem refEnSmall(A:Option Addr) (len cap:Nat) (es:List En) (w:World) (hE:RdE w A len es):
 Calls Try.prog 16 #[.slice A len cap] w (SmallPost es w):=by
 have hlen:=hE.len;have hmx:=hE.max
 by_cases h8:8<len
 · go_enter Try.func16,Try.ntmps16
   go_wp2_with fail
   go_ret
   exact small_no es w
 · have hd8:decide ((8:Int)<(len:Int))=false:=decide_eq_false (by omega)
   go_enter Try.func16,Try.ntmps16
   go_wp2_with fail
   go_loop [3] (fun i=>∃ k:Nat,k≤len∧i=.int .i64 k∧tinyTo es k) (fun i=>len-(intOf i).toNat)
   case atStart=>exact⟨0,Nat.zero_le _,rfl,fun j hj=>absurd hj (by omega)⟩
   case round=>
    obtain⟨k,hk,rfl,hto⟩:=hrel;have HT:=Hd hto;clear hto
    by_cases hlt:k<len
    · obtain⟨b,off,rfl,hb,hc⟩:=hE.at_ hlt;obtain⟨hn0,A',n',c',hs0,hR0⟩:=hc k hlt;have hkl:k<es.length:=by omega
      have hcl:=hR0.len;have hcm:=hR0.max;clear hc
      by_cases h12:12<n'
      · go_wp2_with fail
        go_ret
        exact small_no es w
      · have HS:=Hd fun h2 h3=>tinyTo_succ HT.out (show(csE es k).length≤12 by omega) h2 h3;have hd12:decide ((12:Int)<(n':Int))=false:=decide_eq_false (by omega);generalize nmE es k=x at hn0 HS
        by_cases h100:100<x.size
        · go_wp2_with fail
          go_ret
          exact small_no es w
        · have HS:=Hd fun h3=>HS.out (by omega) h3;have hd100:decide ((100:Int)<(x.size:Int))=false:=decide_eq_false (by omega)
          go_wp2_with fail
          go_loop [4] (fun i=>∃ m:Nat,m≤n'∧i=.int .i64 m∧∀ q,q<m→(ctAt es k q).size≤100) (fun i=>n' - (intOf i).toNat)
          case atStart=>exact⟨0,Nat.zero_le _,rfl,fun j hj=>absurd hj (by omega)⟩
          case round=>
           obtain⟨m,hm,rfl,hto⟩:=hrel;have HT2:=Hd hto;clear hto
           by_cases hltm:m<n'
           · obtain⟨b2,off2,rfl,hb2,hc2⟩:=hR0.at_ hltm;have hcm2:=hc2 m hltm;clear hc2;rw [show(csE es k)[m]?.getD ByteArray.empty=ctAt es k m from rfl] at hcm2
             have HN:=Hd (show(ctAt es k m).size≤100→∀ q,q<m+1→(ctAt es k q).size≤100 from fun h q hq=>by
              rcases Nat.lt_or_ge q m with h1 | h1
              · exact HT2.out q h1
              · obtain rfl:q=m:=by omega
                exact h)
             generalize ctAt es k m=y at hcm2 HN
             by_cases hy:100<y.size
             · go_wp2_with fail
               go_ret
               exact small_no es w
             · have HN:=Hd (HN.out (by omega))
               go_wp2_with fail
               go_round
               case rel=>exact⟨m+1,by omega,by go_num,HN.out⟩
               case measure=>simp [intOf];omega
           · have HS:=Hd (HS.out fun q hq=>HT2.out q (by omega))
             go_wp2_with fail
             go_round
             case rel=>exact⟨k+1,by omega,by go_num,HS.out⟩
             case measure=>simp [intOf];omega
    · have hkl:k=es.length:=by omega
      have hno:=HT.out;rw [hkl] at hno;have HY:=Hd (show EsTiny es from⟨by omega,hno⟩)
      go_wp2_with fail
      go_ret
      exact small_yes HY.out w
end
section
open Go.RowKit Go.Shelf
attribute [local go_sem] Oper.semAt_some
def isNm(name:ByteArray) (p:Pl):Bool:=p.2.2.toList==name.toList
def findE(es:List En) (name:ByteArray):Option Pl:=(flatE es).find? (isNm name)
def ctorV(o:Option Pl):Value:=.tuple #[.int .i64 (((o.map (·.1)).getD 0:Nat):Int),.int .i64 (((o.map (·.2.1)).getD 0:Nat):Int),.bool o.isSome]
theorem findE_none{es:List En}{name:ByteArray}(h:∀ p∈flatE es,isNm name p=false):findE es name=none:=by
 unfold findE;rw [List.find?_eq_none];intro p hp;rw [h p hp]
 simp
theorem findE_some{es:List En}{name:ByteArray}{ini:List Pl}{last:Pl}(hp:ini++[last] <+: flatE es) (h:∀ p∈ini,isNm name p=false) (hl:isNm name last=true):findE es name=some last:=by
 obtain⟨r,hr⟩:=hp;unfold findE;rw [← hr,List.append_assoc,List.find?_append,List.find?_eq_none.2 (fun p hp=>by rw [h p hp];simp)]
 simp [hl]
theorem three_set{W:World}{s:Nat}{t1 t2 t3:TypeId}{v1 v2 v3:Value}(u1 u2 u3:Value) (c1:Boxed W (s+1) t1 v1) (c2:Boxed W (s+1+1) t2 v2) (c3:Boxed W (s+1+1+1) t3 v3):
 ∃ W',(((W.setCell ⟨s+1,0,none⟩ u1).setCell ⟨s+1+1,0,none⟩ u2).setCell ⟨s+1+1+1,0,none⟩ u3)=W'∧Boxed W' (s+1) t1 u1∧Boxed W' (s+1+1) t2 u2∧Boxed W' (s+1+1+1) t3 u3∧KeepsOthers W W'∧Below s W W' :=
 ⟨_,rfl,((c1.set u1).other (by omega) _).other (by omega) _,((c2.other (by omega) u1).set u2).other (by omega) _,((c3.other (by omega) u1).other (by omega) u2).set u3,
  ((KeepsOthers.setCell _ _ _).trans (KeepsOthers.setCell _ _ _)).trans (KeepsOthers.setCell _ _ _),
  (((Below.refl s W).setCell (p:=⟨s+1,0,none⟩) (by show s≤s+1;omega) _).setCell (p:=⟨s+1+1,0,none⟩) (by show s≤s+1+1;omega) _).setCell (p:=⟨s+1+1+1,0,none⟩) (by show s≤s+1+1+1;omega) _⟩
theorem tyCtor_in(n:Nat) (hn:6≤n) (A:Option Addr) (len cap:Nat) (es:List En) (name:ByteArray) (w:World) (hE:RdE w A len es):
 CallsIn Fence.wide n Try.prog 66 #[.slice A len cap,.string name] w fun e w'=>e=.returned (ctorV (findE es name))∧Below w.heap.size w w':=by
 have h1:1≤n:=by omega
 refine callsIn_of_wp_marks Try.func66 rfl trivial ?_ rfl;simp only [Try.ntmps66,List.size_toArray,List.length_cons,List.length_nil,Nat.reduceAdd,Nat.reduceSub,Array.replicate_succ,Array.replicate_zero,List.push_toArray,List.append_toArray,List.nil_append,List.cons_append]
 gi_wp2_with (refine⟨trivial,?_⟩;gi_at_call 68;refine(callsIn_wide.2 (tyCtors _ _ _ _)).mono ?_;rintro e w' ⟨rfl,rfl⟩)
 have bN:=((((Boxed.new w 9 (.string name)).alloc (.cells #[.int .i64 0] 3)).alloc (.cells #[.int .i64 0] 3)).alloc (.cells #[.bool false] 4)).alloc (.cells #[.slice A len cap] 22);have b1:=(((Boxed.new (w.alloc (.cells #[.string name] 9)) 3 (.int .i64 0)).alloc (.cells #[.int .i64 0] 3)).alloc (.cells #[.bool false] 4)).alloc (.cells #[.slice A len cap] 22);have b2:=((Boxed.new ((w.alloc (.cells #[.string name] 9)).alloc (.cells #[.int .i64 0] 3)) 3 (.int .i64 0)).alloc (.cells #[.bool false] 4)).alloc (.cells #[.slice A len cap] 22);have b3:=(Boxed.new (((w.alloc (.cells #[.string name] 9)).alloc (.cells #[.int .i64 0] 3)).alloc (.cells #[.int .i64 0] 3)) 4 (.bool false)).alloc (.cells #[.slice A len cap] 22);have b4:=Boxed.new ((((w.alloc (.cells #[.string name] 9)).alloc (.cells #[.int .i64 0] 3)).alloc (.cells #[.int .i64 0] 3)).alloc (.cells #[.bool false] 4)) 22 (.slice A len cap);simp only [World.size_alloc] at b1 b2 b3 b4
 have hB0:Below w.heap.size w (((((w.alloc (.cells #[.string name] 9)).alloc (.cells #[.int .i64 0] 3)).alloc (.cells #[.int .i64 0] 3)).alloc (.cells #[.bool false] 4)).alloc (.cells #[.slice A len cap] 22)):=
  (((((Below.refl _ w).alloc (Nat.le_refl _) _).alloc (by simp) _).alloc (by simp;omega) _).alloc (by simp;omega) _).alloc (by simp;omega) _
 have hsz:(((((w.alloc (.cells #[.string name] 9)).alloc (.cells #[.int .i64 0] 3)).alloc (.cells #[.int .i64 0] 3)).alloc (.cells #[.bool false] 4)).alloc (.cells #[.slice A len cap] 22)).heap.size=w.heap.size+5:=by simp
 obtain⟨W0,hW0⟩:∃ W0,(((((w.alloc (.cells #[.string name] 9)).alloc (.cells #[.int .i64 0] 3)).alloc (.cells #[.int .i64 0] 3)).alloc (.cells #[.bool false] 4)).alloc (.cells #[.slice A len cap] 22))=W0:=⟨_,rfl⟩;rw [hW0] at bN b1 b2 b3 b4 hB0 hsz ⊢;clear hW0
 refine wpIn_rangeFunc_ownH rfl h1 (gf:=69) (lb:=#[.pointer (some ⟨w.heap.size+1+1+1+1,0,none⟩)]) rfl trivial (enters_of Try.func69 (by kernel_rfl) rfl)
  (tyIter_stops (n-1) (by omega) (w.heap.size+1+1+1+1) w A len cap es hE W0 hB0 (by omega) b4.cell) belowK_t (belowK_b (by omega)) (Below.refl _ _) (fun _=>rfl)
  (fun pre W=>((Boxed W w.heap.size 9 (.string name)∧Boxed W (w.heap.size+1) 3 (.int .i64 0)∧Boxed W (w.heap.size+1+1) 3 (.int .i64 0)∧Boxed W (w.heap.size+1+1+1) 4 (.bool false))∧∀ p∈pre,isNm name p=false)∧Below w.heap.size w W)
  (fun c pre W=>((c=.ret∧∃ ini last,pre=ini++[last]∧(∀ p∈ini,isNm name p=false)∧isNm name last=true∧Boxed W (w.heap.size+1) 3 (.int .i64 (last.1:Int))∧Boxed W (w.heap.size+1+1) 3 (.int .i64 (last.2.1:Int))∧Boxed W (w.heap.size+1+1+1) 4 (.bool true)))∧Below w.heap.size w W)
  (OwnFrom.and (OwnFrom.and (OwnFrom.and (Own.from (boxed_own _ _ (fun _=>_)) _) (OwnFrom.and (Own.from (boxed_own _ _ (fun _=>_)) _) (OwnFrom.and (Own.from (boxed_own _ _ (fun _=>_)) _) (Own.from (boxed_own _ _ (fun _=>_)) _)))) (ownFrom_pure _ _)) (ownFrom_below (Nat.le_refl _) (by omega)))
  (fun c=>OwnFrom.and (Own.from (fun s X Y row hs hg hr=>by
   obtain⟨hc,ini,last,e1,e2,e3,e4,e5,e6⟩:=hs;exact⟨hc,ini,last,e1,e2,e3,boxed_own _ _ (fun _=>_) s X Y row e4 hg hr,boxed_own _ _ (fun _=>_) s X Y row e5 hg hr,boxed_own _ _ (fun _=>_) s X Y row e6 hg hr⟩) _) (ownFrom_below (Nat.le_refl _) (by omega)))
  ⟨⟨⟨bN,b1,b2,b3⟩,by simp⟩,hB0⟩
  (fun x a' W=>∃ Bx,w.heap.size+4≤Bx∧Box2 W Bx 101 (.int .i64 (x.1:Int)) (.int .i64 (x.2.1:Int))∧a'={ tmps:=#[.slice A len cap,.string name,undef,.pointer (some ⟨w.heap.size,0,none⟩),.pointer (some ⟨w.heap.size+1,0,none⟩),.pointer (some ⟨w.heap.size+1+1,0,none⟩),.pointer (some ⟨w.heap.size+1+1+1,0,none⟩),.pointer (some ⟨Bx,0,none⟩),.string x.2.2,.slice A len cap,.func (.func 69) #[] #[.pointer (some ⟨w.heap.size+1+1+1+1,0,none⟩)],.agg #[.int .i64 (x.1:Int),.int .i64 (x.2.1:Int)],.string x.2.2,undef,undef,undef,undef,undef,undef,undef],defers:=[] })
  (fun x a'=>fun s X Y row hs hg hr=>by
   obtain⟨Bx,h1,h2,h3⟩:=hs;exact⟨Bx,h1,box2_own _ _ _ _ s X Y row h2 hg (fun r e=>(hr r e).2),h3⟩)
  ?assign ?body ?done ?stop
 case assign=>
  rintro l pre x W K ⟨⟨⟨cN,c1,c2,c3⟩,hp⟩,hB⟩ hK;have e1:=c1.cell;have e2:=c2.cell;have e3:=c3.cell;have f1:=c1.frozen;have f2:=c2.frozen;have f3:=c3.frozen;simp only [encPl]
  gi_wp2
  exact hK _ _ ((KeepsOthers.alloc _ _).from _) ((Below.refl _ W).alloc hB.size _) ⟨⟨⟨cN.alloc _,c1.alloc _,c2.alloc _,c3.alloc _⟩,hp⟩,hB.alloc hB.size _⟩ ⟨W.heap.size,by have:=c3.lt;omega,Box2.new W _ _ _,rfl⟩
 case body=>
  rintro l pre x a' W hl hr ⟨⟨⟨cN,c1,c2,c3⟩,hp⟩,hB⟩ ⟨Bx,hBx,bX,rfl⟩ hlt;have dN:=cN.cell;have d0:=bX.c0;have d1:=bX.c1;have e1:=c1.cell;have e2:=c2.cell;have e3:=c3.cell;have f1:=c1.frozen;have f2:=c2.frozen;have f3:=c3.frozen
  by_cases hx:(x.2.2.toList==name.toList)=true
  · have hmx:Try.prog.follows .mixedOrders=true:=by kernel_rfl
    gi_wp2
    gi_region_o
    all_goals gi_wp2
    all_goals
     obtain⟨W',hW',g1,g2,g3,gk,gb⟩:=three_set (.int .i64 (x.1:Int)) (.int .i64 (x.2.1:Int)) (.bool true) c1 c2 c3;rw [hW'];exact⟨(gk.trans (KeepsOthers.drew _)).from _,⟨rfl,pre,x,rfl,hp,hx,g1,g2,g3⟩,(hB.trans gb).drew⟩
  · have hx:(x.2.2.toList==name.toList)=false:=by simpa using hx
    gi_wp2
    exact⟨KeepsFrom.refl _ _,Below.refl _ _,⟨⟨cN,c1,c2,c3⟩,fun p hp'=>(List.mem_append.1 hp').elim (hp p) (fun e=>by simp at e;subst e;exact hx)⟩,hB⟩
 case done=>
  rintro D ys W hD rfl ⟨⟨⟨cN,c1,c2,c3⟩,hp⟩,hB⟩ hK;have e1:=c1.cell;have e2:=c2.cell;have e3:=c3.cell;have f1:=c1.frozen;have f2:=c2.frozen;have f3:=c3.frozen
  gi_wp2
  obtain⟨W',hW',g1,g2,g3,gk,gb⟩:=three_set (.int .i64 0) (.int .i64 0) (.bool false) c1 c2 c3;rw [hW'];have hK':=gk.same D _ hK rfl;have k1:=(g1.kept (grownBy_putObj' _ D (.deferred none)) (fun e=>by cases e;omega)).cell;have k2:=(g2.kept (grownBy_putObj' _ D (.deferred none)) (fun e=>by cases e;omega)).cell;have k3:=(g3.kept (grownBy_putObj' _ D (.deferred none)) (fun e=>by cases e;omega)).cell;refine⟨by simp,.inl ⟨_,_,rfl,run_takeDeferred hK',?_⟩⟩;refine⟨ctorV none,?_,by rw [findE_none hp],(hB.trans gb).trans (belowK_b (w:=w) (Nat.le_refl _) _ D _ _ (by omega) hK' rfl rfl)⟩
  simp [results,Try.f66,go_sem,k1,k2,k3,ctorV]
 case stop=>
  rintro D c pre W hD hpre ⟨⟨rfl,ini,last,rfl,hi,hl,c1,c2,c3⟩,hB⟩ hK;have e1:=c1.cell;have e2:=c2.cell;have e3:=c3.cell;have f1:=c1.frozen;have f2:=c2.frozen;have f3:=c3.frozen
  gi_wp2
  have k1:=(c1.kept (grownBy_putObj' _ D (.deferred none)) (fun e=>by cases e;omega)).cell;have k2:=(c2.kept (grownBy_putObj' _ D (.deferred none)) (fun e=>by cases e;omega)).cell;have k3:=(c3.kept (grownBy_putObj' _ D (.deferred none)) (fun e=>by cases e;omega)).cell;refine⟨by simp,.inl ⟨_,_,rfl,run_takeDeferred hK,?_⟩⟩;refine⟨ctorV (some last),?_,by rw [findE_some hpre hi hl],hB.trans (belowK_b (w:=w) (Nat.le_refl _) _ D _ _ (by omega) hK rfl rfl)⟩
  simp [results,Try.f66,go_sem,k1,k2,k3,ctorV]
theorem tyCtor(A:Option Addr) (len cap:Nat) (es:List En) (name:ByteArray) (w:World) (hE:RdE w A len es):
 Calls Try.prog 66 #[.slice A len cap,.string name] w fun e w'=>e=.returned (ctorV (findE es name))∧Below w.heap.size w w' :=
 callsIn_wide.1 (tyCtor_in 6 (Nat.le_refl _) A len cap es name w hE)
end
section
open Go.RowKit
end
end Go.Proofs.Ytkbpdoomhfkngaa
