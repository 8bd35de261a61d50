/- Parts of the proof: TyI, TyN, TyP, TyQ, TyS, TyL, TyC, TyB, TyZ. Conditions: each theorem's own. -/
import Derived.RangeFuncNested
import Derived.RangeFuncBound
import Derived.RangeFuncCalls
import Derived.RangeFuncLeaves
import Derived.Shelf.Abstract
import Derived.Shelf.RegionOpen
import Derived.OwnWalkIn
import Derived.TacticsInMore
import Derived.LoopNIn
import Derived.LoopIn
import Derived.RangeFuncBox
import Derived.Deep.Slices
import Derived.Deep.Fields
import Derived.ChangeSame
import Derived.SliceStrings
import Derived.Test.YtkbpdoomhfkngaaF02
namespace Go.Proofs.Ytkbpdoomhfkngaa
set_option linter.unusedVariables false
set_option linter.unusedSimpArgs false
set_option maxRecDepth 100000
set_option maxHeartbeats 40000000
section
open Go.RowKit Go.Shelf
attribute [local go_sem] Oper.semAt_some
theorem grownBy_of_below{W W':World}(h:Below W.heap.size W W'):W.grownBy W' none:=⟨h.os,h.tape,h.output,h.size,fun i hi _=>h.block i hi⟩
def encPl(x:Pl):Array Value:=#[.agg #[.int .i64 (x.1:Int),.int .i64 (x.2.1:Int)],.string x.2.2]
theorem tyCtors(A:Option Addr) (n c:Nat) (w:World):
 Calls Try.prog 68 #[.slice A n c] w fun e w'=>e=.returned (.func (.func 69) #[] #[.pointer (some ⟨w.heap.size,0,none⟩)])∧w'=w.alloc (.cells #[.slice A n c] 22):=by
 go_enter Try.func68,Try.ntmps68
 go_wp2
 go_ret
 exact⟨rfl,rfl⟩
theorem tyIter_in(n:Nat) (hn:1≤n) (l Bs:Nat) (w:World) (A:Option Addr) (len cap:Nat) (es:List En) (hE:RdE w A len es) (J Jx:List Pl→World→Prop) (W:World) (hbW:Below w.heap.size w W)
 (hJ:AbidesFrom W.heap.size J)
 (hY:∀ pre x W,J pre W→pre++[x] <+: flatE es→YieldAt Fence.wide (n-1) Try.prog l (encPl x) W fun e W' =>
  (e=.returned (.bool true)∧J (pre++[x]) W'∧Below w.heap.size W W')∨(e=.returned (.bool false)∧Jx (pre++[x]) W'))
 (hBs:W.cell? ⟨Bs,0,none⟩=some (.slice A len cap)) (h0:J [] W):
 CallsIn Fence.wide n Try.prog 69 #[.func (.yield l) #[] #[],.pointer (some ⟨Bs,0,none⟩)] W fun e W'=>(∃ v,e=.returned v) ∧
  ((∃ ys,ys=flatE es∧J ys W')∨(∃ pre,pre <+: flatE es∧Jx pre W')):=by
 have hlen:=hE.len;have hmx:=hE.max;refine callsIn_of_wp Try.func69 rfl trivial ?_ rfl;simp only [Try.ntmps69,List.size_toArray,List.length_cons,List.length_nil,Nat.reduceAdd,Nat.reduceSub,Array.replicate_succ,Array.replicate_zero,List.push_toArray,List.append_toArray,List.nil_append,List.cons_append]
 gi_wp2
 gi_loopw [9] (fun i wr=>∃ k:Nat,k≤len∧i=.int .i64 k∧J (upTo es k 0) wr∧Below w.heap.size w wr)
  (fun i _=>len-(intOf i).toNat)
 case atStart=>exact⟨0,Nat.zero_le _,rfl,by rw [upTo_zero];exact h0,hbW⟩
 case round=>
  obtain⟨k,hk,rfl,hJs,hnx⟩:=hrel
  by_cases hlt:k<len
  · obtain⟨b,off,rfl,hb,hc⟩:=hE.at_ hlt;obtain⟨hn0,A',n',c',hs0,hR0⟩:=hc k hlt;have hn1:wr.cell? ⟨b,off+k*2,none⟩=some (.string (nmE es k)):=(hnx.cell (p:=⟨b,off+k*2,none⟩) hb).trans hn0;have hs1:wr.cell? ⟨b,off+k*2+1,none⟩=some (.slice A' n' c'):=(hnx.cell (p:=⟨b,off+k*2+1,none⟩) hb).trans hs0;have hkl:k<es.length:=by omega
    have hcl:=hR0.len;have hcm:=hR0.max;have hJa:∀ W',Below wr.heap.size wr W'→J (upTo es k 0) W':=fun W' h=>hJ _ _ _ none hJs (grownBy_of_below h) (fun r e=>by cases e)
    gi_wp2
    gi_loopw [17] (fun i wr=>∃ m:Nat,m≤n'∧i=.int .i64 m∧J (upTo es k m) wr∧Below w.heap.size w wr)
     (fun i _=>n' - (intOf i).toNat)
    case atStart=>exact⟨0,Nat.zero_le _,rfl,hJa _ ((Below.refl _ _).alloc (Nat.le_refl _) _),hnx.alloc hnx.size _⟩
    case round=>
     obtain⟨m,hm,rfl,hJm,hnm⟩:=hrel
     by_cases hltm:m<n'
     · obtain⟨b2,off2,rfl,hb2,hc2⟩:=hR0.at_ hltm;have hcm2:=(hnm.cell (p:=⟨b2,off2+m,none⟩) hb2).trans (hc2 m hltm);have hpre:=upTo_pre (es:=es) hkl (k:=m+1) (by omega);obtain⟨fn,tmps,assign,body,hy,hR⟩:=hY _ (k,m,ctAt es k m) _ hJm (by rw [← upTo_succ];exact hpre);rw [← upTo_succ] at hR;unfold ctAt at hy;simp only [encPl] at hy;generalize hx:(csE es k)[m]?.getD ByteArray.empty=x at hcm2 hy
       gi_wp2
       refine hR.mono ?_;rintro e W3 (⟨rfl,hJ3,hk3⟩|⟨rfl,hJx3⟩)
       · gi_wp2
         go_roundw
         case rel=>exact⟨m+1,by omega,by go_num,hJ3,hnm.trans hk3⟩
         case measure=>simp [intOf];omega
       · gi_wp2
         refine bodyPost_ret (results_none rfl _ _ _) rfl ?_;exact⟨⟨_,rfl⟩,.inr ⟨_,hpre,hJx3⟩⟩
     · obtain rfl:m=n':=by omega
       gi_wp2
       go_roundw
       case rel=>exact⟨k+1,by omega,by go_num,by rw [← upTo_next,hcl];exact hJm,hnm⟩
       case measure=>simp [intOf];omega
  · obtain rfl:k=len:=by omega
    gi_wp2
    go_end0
    exact⟨⟨_,rfl⟩,.inl ⟨_,rfl,by rw [← upTo_end,hlen];exact hJs⟩⟩
theorem tyIter_stops(n:Nat) (hn:1≤n) (Bs:Nat) (w0:World) (A:Option Addr) (len cap:Nat) (es:List En) (hE:RdE w0 A len es) (w:World) (hb:Below w0.heap.size w0 w) (hBs:Bs<w.heap.size)
 (hc:w.cell? ⟨Bs,0,none⟩=some (.slice A len cap)):
 SeqStopsK Fence.wide n Try.prog 69 #[.pointer (some ⟨Bs,0,none⟩)] encPl (Below w0.heap.size) (fun ys=>ys=flatE es) (fun pre=>pre <+: flatE es) (flatE es).length w:=fun l J Jx W hW hJ _ hY h0=>
 tyIter_in n hn l Bs w0 A len cap es hE J Jx W (hb.trans (hW.mono hb.size)) hJ (fun pre x W1 h1 h2=>hY pre x W1 h1 (by have:=h2.length_le;simp at this;omega)) ((hW.cell (p:=⟨Bs,0,none⟩) hBs).trans hc) h0
def Box2(W:World) (B:Nat) (t:TypeId) (u v:Value):Prop:=W.heap[B]?=some (.cells #[u,v] t (0,0))
section
variable {W W':World}{B:Nat}{t:TypeId}{u v:Value}
theorem Box2.lt(h:Box2 W B t u v):B<W.heap.size:=(Array.getElem?_eq_some_iff.1 h).1
theorem Box2.c0(h:Box2 W B t u v):W.cell? ⟨B,0,none⟩=some u:=by simp [World.cell?,show W.heap[B]?=_ from h]
theorem Box2.c1(h:Box2 W B t u v):W.cell? ⟨B,1,none⟩=some v:=by simp [World.cell?,show W.heap[B]?=_ from h]
theorem Box2.new(W:World) (t:TypeId) (u v:Value):Box2 (W.alloc (.cells #[u,v] t)) W.heap.size t u v:=World.alloc_heap_new W _
theorem box2_own{β:Type}(B:Nat) (t:TypeId) (u v:Value):Own (fun(_:β) W=>Box2 W B t u v):=fun s X Y row hs hg hrow=>
 (hg.block B (Box2.lt hs) (fun e'=>by obtain⟨o,ho,hc⟩:=hrow B e'.symm;rw [show X.heap[B]?=_ from hs] at ho;cases ho;cases hc)).trans hs
end
end
section
open Go.RowKit Go.Shelf
attribute [local go_sem] Oper.semAt_some
section
variable {es:List En}{k:Nat}
theorem EsOk.flat(h:EsOk es):∀ p∈flatE es,p.2.2.size≤maxLen:=by
 intro p hp;have h1:p.2.2∈namesTo es es.length:=List.mem_map.2 ⟨p,hp,rfl⟩;obtain⟨j,hj,hm⟩:=namesTo_mem h1;exact(h j hj).2 _ hm
end
end
section
open Go.RowKit Go.Shelf
attribute [local go_sem] Oper.semAt_some
def EsFew(es:List En):Prop:=es.length≤8∧∀ j,j<es.length→(csE es j).length≤12
section
variable {es:List En}
theorem EsFew.flat(h:EsFew es):(flatE es).length≤96:=by
 have h1:=namesTo_len (es:=es) (i:=es.length) h.2;have h2:(namesTo es es.length).length=(flatE es).length:=by simp [namesTo,flatE]
 have:=h.1;omega
theorem EsOk.all(h:EsOk es):∀ s∈allE es,s.size≤maxLen:=by
 intro s hs;obtain⟨p,hp,rfl⟩:=List.mem_map.1 hs;exact h.flat p hp
end
end
section
open Go.RowKit
section
variable {es:List En}{k:Nat}
end
end
section
open Go.RowKit
theorem RdT.news{w:World}{a:Addr}{n:Nat}{l:List ByteArray}(h:RdT w (some a) n l) (j:Nat) (u:Value) (hu:(l.map Value.string)[j]?=some u):w.cell? (a.add j)=some u:=by
 have hj:j<l.length:=by
  rcases Nat.lt_or_ge j l.length with h | h
  · exact h
  · rw [List.getElem?_eq_none (by simpa using h)] at hu;cases hu
 obtain⟨b,off,e,_,hc⟩:=h.at_ (i:=j) (by rw [← h.len];exact hj);injection e with e;subst e;have:=hc j (by rw [← h.len];exact hj);have e2:(⟨b,off,none⟩:Addr).add j=⟨b,off+j,none⟩:=by unfold Addr.add;split <;> simp_all
 rw [e2,this,← hu]
 simp [List.getElem?_eq_getElem hj]
section
variable {P:Program}{w:World}
end
def Apt(u v:Value):Prop:=∀ g,u.ownBlock=some g→v.ownBlock≠some g
theorem Apt.symm{u v:Value}(h:Apt u v):Apt v u:=fun g hg e=>h g e hg
theorem Apt.ne{u v:Value}(h:Apt u v):u.ownBlock=none∨u.ownBlock≠v.ownBlock:=by
 rcases hub:u.ownBlock with _ | g
 · exact .inl rfl
 · exact .inr fun e=>h g hub e.symm
end
section
open Go.RowKit
def tinyTo(es:List En) (k:Nat):Prop:=∀ j,j<k→(csE es j).length≤12∧(nmE es j).size≤100∧∀ q,q<(csE es j).length→(ctAt es j q).size≤100
def EsTiny(es:List En):Prop:=es.length≤8∧tinyTo es es.length
theorem EsTiny.few{es:List En}(h:EsTiny es):EsFew es:=⟨h.1,fun j hj=>(h.2 j hj).1⟩
theorem EsTiny.ok{es:List En}(h:EsTiny es):EsOk es:=fun j hj=>by
 have h1:=h.2 j hj;unfold maxLen;refine⟨by omega,fun s hs=>?_⟩;obtain⟨q,hq,rfl⟩:=List.getElem_of_mem hs;have:=h1.2.2 q hq;unfold ctAt at this;rw [List.getElem?_eq_getElem hq,Option.getD_some] at this;omega
theorem tinyTo_succ{es:List En}{k:Nat}(H:tinyTo es k) (h1:(csE es k).length≤12) (h2:(nmE es k).size≤100) (h3:∀ q,q<(csE es k).length→(ctAt es k q).size≤100):tinyTo es (k+1):=fun j hj=>by
 rcases Nat.lt_or_ge j k with h | h
 · exact H j h
 · obtain rfl:j=k:=by omega
   exact⟨h1,h2,h3⟩
def SmallPost(es:List En) (w:World) (e:Ending) (w':World):Prop:=∃ b,e=.returned (.bool b)∧(b=true→EsTiny es)∧w=w'
theorem small_no(es:List En) (w:World):SmallPost es w (.returned (.bool false)) w:=⟨false,rfl,fun h=>(by cases h),rfl⟩
theorem small_yes{es:List En}(h:EsTiny es) (w:World):SmallPost es w (.returned (.bool true)) w:=⟨true,rfl,fun _=>h,rfl⟩
theorem refEnSmall(A:Option Addr) (len cap:Nat) (es:List En) (w:World) (hE:RdE w A len es):
 Calls Try.prog 16 #[.slice A len cap] w (SmallPost es w):=by
 have hlen:=hE.len;have hmx:=hE.max
 by_cases h8:8<len
 · go_enter Try.func16,Try.ntmps16
   go_wp2_with fail
   go_ret
   exact small_no es w
 · have hd8:decide ((8:Int)<(len:Int))=false:=decide_eq_false (by omega)
   go_enter Try.func16,Try.ntmps16
   go_wp2_with fail
   go_loop [3] (fun i=>∃ k:Nat,k≤len∧i=.int .i64 k∧tinyTo es k) (fun i=>len-(intOf i).toNat)
   case atStart=>exact⟨0,Nat.zero_le _,rfl,fun j hj=>absurd hj (by omega)⟩
   case round=>
    obtain⟨k,hk,rfl,hto⟩:=hrel;have HT:=Hd hto;clear hto
    by_cases hlt:k<len
    · obtain⟨b,off,rfl,hb,hc⟩:=hE.at_ hlt;obtain⟨hn0,A',n',c',hs0,hR0⟩:=hc k hlt;have hkl:k<es.length:=by omega
      have hcl:=hR0.len;have hcm:=hR0.max;clear hc
      by_cases h12:12<n'
      · go_wp2_with fail
        go_ret
        exact small_no es w
      · have HS:=Hd fun h2 h3=>tinyTo_succ HT.out (show(csE es k).length≤12 by omega) h2 h3;have hd12:decide ((12:Int)<(n':Int))=false:=decide_eq_false (by omega);generalize nmE es k=x at hn0 HS
        by_cases h100:100<x.size
        · go_wp2_with fail
          go_ret
          exact small_no es w
        · have HS:=Hd fun h3=>HS.out (by omega) h3;have hd100:decide ((100:Int)<(x.size:Int))=false:=decide_eq_false (by omega)
          go_wp2_with fail
          go_loop [4] (fun i=>∃ m:Nat,m≤n'∧i=.int .i64 m∧∀ q,q<m→(ctAt es k q).size≤100) (fun i=>n' - (intOf i).toNat)
          case atStart=>exact⟨0,Nat.zero_le _,rfl,fun j hj=>absurd hj (by omega)⟩
          case round=>
           obtain⟨m,hm,rfl,hto⟩:=hrel;have HT2:=Hd hto;clear hto
           by_cases hltm:m<n'
           · obtain⟨b2,off2,rfl,hb2,hc2⟩:=hR0.at_ hltm;have hcm2:=hc2 m hltm;clear hc2;rw [show(csE es k)[m]?.getD ByteArray.empty=ctAt es k m from rfl] at hcm2
             have HN:=Hd (show(ctAt es k m).size≤100→∀ q,q<m+1→(ctAt es k q).size≤100 from fun h q hq=>by
              rcases Nat.lt_or_ge q m with h1 | h1
              · exact HT2.out q h1
              · obtain rfl:q=m:=by omega
                exact h)
             generalize ctAt es k m=y at hcm2 HN
             by_cases hy:100<y.size
             · go_wp2_with fail
               go_ret
               exact small_no es w
             · have HN:=Hd (HN.out (by omega))
               go_wp2_with fail
               go_round
               case rel=>exact⟨m+1,by omega,by go_num,HN.out⟩
               case measure=>simp [intOf];omega
           · have HS:=Hd (HS.out fun q hq=>HT2.out q (by omega))
             go_wp2_with fail
             go_round
             case rel=>exact⟨k+1,by omega,by go_num,HS.out⟩
             case measure=>simp [intOf];omega
    · have hkl:k=es.length:=by omega
      have hno:=HT.out;rw [hkl] at hno;have HY:=Hd (show EsTiny es from⟨by omega,hno⟩)
      go_wp2_with fail
      go_ret
      exact small_yes HY.out w
end
section
open Go.RowKit Go.Shelf
attribute [local go_sem] Oper.semAt_some
def isNm(name:ByteArray) (p:Pl):Bool:=p.2.2.toList==name.toList
def findE(es:List En) (name:ByteArray):Option Pl:=(flatE es).find? (isNm name)
def ctorV(o:Option Pl):Value:=.tuple #[.int .i64 (((o.map (·.1)).getD 0:Nat):Int),.int .i64 (((o.map (·.2.1)).getD 0:Nat):Int),.bool o.isSome]
theorem findE_none{es:List En}{name:ByteArray}(h:∀ p∈flatE es,isNm name p=false):findE es name=none:=by
 unfold findE;rw [List.find?_eq_none];intro p hp;rw [h p hp]
 simp
theorem findE_some{es:List En}{name:ByteArray}{ini:List Pl}{last:Pl}(hp:ini++[last] <+: flatE es) (h:∀ p∈ini,isNm name p=false) (hl:isNm name last=true):findE es name=some last:=by
 obtain⟨r,hr⟩:=hp;unfold findE;rw [← hr,List.append_assoc,List.find?_append,List.find?_eq_none.2 (fun p hp=>by rw [h p hp];simp)]
 simp [hl]
theorem three_set{W:World}{s:Nat}{t1 t2 t3:TypeId}{v1 v2 v3:Value}(u1 u2 u3:Value) (c1:Boxed W (s+1) t1 v1) (c2:Boxed W (s+1+1) t2 v2) (c3:Boxed W (s+1+1+1) t3 v3):
 ∃ W',(((W.setCell ⟨s+1,0,none⟩ u1).setCell ⟨s+1+1,0,none⟩ u2).setCell ⟨s+1+1+1,0,none⟩ u3)=W'∧Boxed W' (s+1) t1 u1∧Boxed W' (s+1+1) t2 u2∧Boxed W' (s+1+1+1) t3 u3∧KeepsOthers W W'∧Below s W W' :=
 ⟨_,rfl,((c1.set u1).other (by omega) _).other (by omega) _,((c2.other (by omega) u1).set u2).other (by omega) _,((c3.other (by omega) u1).other (by omega) u2).set u3,
  ((KeepsOthers.setCell _ _ _).trans (KeepsOthers.setCell _ _ _)).trans (KeepsOthers.setCell _ _ _),
  (((Below.refl s W).setCell (p:=⟨s+1,0,none⟩) (by show s≤s+1;omega) _).setCell (p:=⟨s+1+1,0,none⟩) (by show s≤s+1+1;omega) _).setCell (p:=⟨s+1+1+1,0,none⟩) (by show s≤s+1+1+1;omega) _⟩
theorem tyCtor_in(n:Nat) (hn:6≤n) (A:Option Addr) (len cap:Nat) (es:List En) (name:ByteArray) (w:World) (hE:RdE w A len es):
 CallsIn Fence.wide n Try.prog 66 #[.slice A len cap,.string name] w fun e w'=>e=.returned (ctorV (findE es name))∧Below w.heap.size w w':=by
 have h1:1≤n:=by omega
 refine callsIn_of_wp_marks Try.func66 rfl trivial ?_ rfl;simp only [Try.ntmps66,List.size_toArray,List.length_cons,List.length_nil,Nat.reduceAdd,Nat.reduceSub,Array.replicate_succ,Array.replicate_zero,List.push_toArray,List.append_toArray,List.nil_append,List.cons_append]
 gi_wp2_with (refine⟨trivial,?_⟩;gi_at_call 68;refine(callsIn_wide.2 (tyCtors _ _ _ _)).mono ?_;rintro e w' ⟨rfl,rfl⟩)
 have bN:=((((Boxed.new w 9 (.string name)).alloc (.cells #[.int .i64 0] 3)).alloc (.cells #[.int .i64 0] 3)).alloc (.cells #[.bool false] 4)).alloc (.cells #[.slice A len cap] 22);have b1:=(((Boxed.new (w.alloc (.cells #[.string name] 9)) 3 (.int .i64 0)).alloc (.cells #[.int .i64 0] 3)).alloc (.cells #[.bool false] 4)).alloc (.cells #[.slice A len cap] 22);have b2:=((Boxed.new ((w.alloc (.cells #[.string name] 9)).alloc (.cells #[.int .i64 0] 3)) 3 (.int .i64 0)).alloc (.cells #[.bool false] 4)).alloc (.cells #[.slice A len cap] 22);have b3:=(Boxed.new (((w.alloc (.cells #[.string name] 9)).alloc (.cells #[.int .i64 0] 3)).alloc (.cells #[.int .i64 0] 3)) 4 (.bool false)).alloc (.cells #[.slice A len cap] 22);have b4:=Boxed.new ((((w.alloc (.cells #[.string name] 9)).alloc (.cells #[.int .i64 0] 3)).alloc (.cells #[.int .i64 0] 3)).alloc (.cells #[.bool false] 4)) 22 (.slice A len cap);simp only [World.size_alloc] at b1 b2 b3 b4
 have hB0:Below w.heap.size w (((((w.alloc (.cells #[.string name] 9)).alloc (.cells #[.int .i64 0] 3)).alloc (.cells #[.int .i64 0] 3)).alloc (.cells #[.bool false] 4)).alloc (.cells #[.slice A len cap] 22)):=
  (((((Below.refl _ w).alloc (Nat.le_refl _) _).alloc (by simp) _).alloc (by simp;omega) _).alloc (by simp;omega) _).alloc (by simp;omega) _
 have hsz:(((((w.alloc (.cells #[.string name] 9)).alloc (.cells #[.int .i64 0] 3)).alloc (.cells #[.int .i64 0] 3)).alloc (.cells #[.bool false] 4)).alloc (.cells #[.slice A len cap] 22)).heap.size=w.heap.size+5:=by simp
 obtain⟨W0,hW0⟩:∃ W0,(((((w.alloc (.cells #[.string name] 9)).alloc (.cells #[.int .i64 0] 3)).alloc (.cells #[.int .i64 0] 3)).alloc (.cells #[.bool false] 4)).alloc (.cells #[.slice A len cap] 22))=W0:=⟨_,rfl⟩;rw [hW0] at bN b1 b2 b3 b4 hB0 hsz ⊢;clear hW0
 refine wpIn_rangeFunc_ownH rfl h1 (gf:=69) (lb:=#[.pointer (some ⟨w.heap.size+1+1+1+1,0,none⟩)]) rfl trivial (enters_of Try.func69 (by kernel_rfl) rfl)
  (tyIter_stops (n-1) (by omega) (w.heap.size+1+1+1+1) w A len cap es hE W0 hB0 (by omega) b4.cell) belowK_t (belowK_b (by omega)) (Below.refl _ _) (fun _=>rfl)
  (fun pre W=>((Boxed W w.heap.size 9 (.string name)∧Boxed W (w.heap.size+1) 3 (.int .i64 0)∧Boxed W (w.heap.size+1+1) 3 (.int .i64 0)∧Boxed W (w.heap.size+1+1+1) 4 (.bool false))∧∀ p∈pre,isNm name p=false)∧Below w.heap.size w W)
  (fun c pre W=>((c=.ret∧∃ ini last,pre=ini++[last]∧(∀ p∈ini,isNm name p=false)∧isNm name last=true∧Boxed W (w.heap.size+1) 3 (.int .i64 (last.1:Int))∧Boxed W (w.heap.size+1+1) 3 (.int .i64 (last.2.1:Int))∧Boxed W (w.heap.size+1+1+1) 4 (.bool true)))∧Below w.heap.size w W)
  (OwnFrom.and (OwnFrom.and (OwnFrom.and (Own.from (boxed_own _ _ (fun _=>_)) _) (OwnFrom.and (Own.from (boxed_own _ _ (fun _=>_)) _) (OwnFrom.and (Own.from (boxed_own _ _ (fun _=>_)) _) (Own.from (boxed_own _ _ (fun _=>_)) _)))) (ownFrom_pure _ _)) (ownFrom_below (Nat.le_refl _) (by omega)))
  (fun c=>OwnFrom.and (Own.from (fun s X Y row hs hg hr=>by
   obtain⟨hc,ini,last,e1,e2,e3,e4,e5,e6⟩:=hs;exact⟨hc,ini,last,e1,e2,e3,boxed_own _ _ (fun _=>_) s X Y row e4 hg hr,boxed_own _ _ (fun _=>_) s X Y row e5 hg hr,boxed_own _ _ (fun _=>_) s X Y row e6 hg hr⟩) _) (ownFrom_below (Nat.le_refl _) (by omega)))
  ⟨⟨⟨bN,b1,b2,b3⟩,by simp⟩,hB0⟩
  (fun x a' W=>∃ Bx,w.heap.size+4≤Bx∧Box2 W Bx 101 (.int .i64 (x.1:Int)) (.int .i64 (x.2.1:Int))∧a'={ tmps:=#[.slice A len cap,.string name,undef,.pointer (some ⟨w.heap.size,0,none⟩),.pointer (some ⟨w.heap.size+1,0,none⟩),.pointer (some ⟨w.heap.size+1+1,0,none⟩),.pointer (some ⟨w.heap.size+1+1+1,0,none⟩),.pointer (some ⟨Bx,0,none⟩),.string x.2.2,.slice A len cap,.func (.func 69) #[] #[.pointer (some ⟨w.heap.size+1+1+1+1,0,none⟩)],.agg #[.int .i64 (x.1:Int),.int .i64 (x.2.1:Int)],.string x.2.2,undef,undef,undef,undef,undef,undef,undef],defers:=[] })
  (fun x a'=>fun s X Y row hs hg hr=>by
   obtain⟨Bx,h1,h2,h3⟩:=hs;exact⟨Bx,h1,box2_own _ _ _ _ s X Y row h2 hg (fun r e=>(hr r e).2),h3⟩)
  ?assign ?body ?done ?stop
 case assign=>
  rintro l pre x W K ⟨⟨⟨cN,c1,c2,c3⟩,hp⟩,hB⟩ hK;have e1:=c1.cell;have e2:=c2.cell;have e3:=c3.cell;have f1:=c1.frozen;have f2:=c2.frozen;have f3:=c3.frozen;simp only [encPl]
  gi_wp2
  exact hK _ _ ((KeepsOthers.alloc _ _).from _) ((Below.refl _ W).alloc hB.size _) ⟨⟨⟨cN.alloc _,c1.alloc _,c2.alloc _,c3.alloc _⟩,hp⟩,hB.alloc hB.size _⟩ ⟨W.heap.size,by have:=c3.lt;omega,Box2.new W _ _ _,rfl⟩
 case body=>
  rintro l pre x a' W hl hr ⟨⟨⟨cN,c1,c2,c3⟩,hp⟩,hB⟩ ⟨Bx,hBx,bX,rfl⟩ hlt;have dN:=cN.cell;have d0:=bX.c0;have d1:=bX.c1;have e1:=c1.cell;have e2:=c2.cell;have e3:=c3.cell;have f1:=c1.frozen;have f2:=c2.frozen;have f3:=c3.frozen
  by_cases hx:(x.2.2.toList==name.toList)=true
  · have hmx:Try.prog.follows .mixedOrders=true:=by kernel_rfl
    gi_wp2
    gi_region_o
    all_goals gi_wp2
    all_goals
     obtain⟨W',hW',g1,g2,g3,gk,gb⟩:=three_set (.int .i64 (x.1:Int)) (.int .i64 (x.2.1:Int)) (.bool true) c1 c2 c3;rw [hW'];exact⟨(gk.trans (KeepsOthers.drew _)).from _,⟨rfl,pre,x,rfl,hp,hx,g1,g2,g3⟩,(hB.trans gb).drew⟩
  · have hx:(x.2.2.toList==name.toList)=false:=by simpa using hx
    gi_wp2
    exact⟨KeepsFrom.refl _ _,Below.refl _ _,⟨⟨cN,c1,c2,c3⟩,fun p hp'=>(List.mem_append.1 hp').elim (hp p) (fun e=>by simp at e;subst e;exact hx)⟩,hB⟩
 case done=>
  rintro D ys W hD rfl ⟨⟨⟨cN,c1,c2,c3⟩,hp⟩,hB⟩ hK;have e1:=c1.cell;have e2:=c2.cell;have e3:=c3.cell;have f1:=c1.frozen;have f2:=c2.frozen;have f3:=c3.frozen
  gi_wp2
  obtain⟨W',hW',g1,g2,g3,gk,gb⟩:=three_set (.int .i64 0) (.int .i64 0) (.bool false) c1 c2 c3;rw [hW'];have hK':=gk.same D _ hK rfl;have k1:=(g1.kept (grownBy_putObj' _ D (.deferred none)) (fun e=>by cases e;omega)).cell;have k2:=(g2.kept (grownBy_putObj' _ D (.deferred none)) (fun e=>by cases e;omega)).cell;have k3:=(g3.kept (grownBy_putObj' _ D (.deferred none)) (fun e=>by cases e;omega)).cell;refine⟨by simp,.inl ⟨_,_,rfl,run_takeDeferred hK',?_⟩⟩;refine⟨ctorV none,?_,by rw [findE_none hp],(hB.trans gb).trans (belowK_b (w:=w) (Nat.le_refl _) _ D _ _ (by omega) hK' rfl rfl)⟩
  simp [results,Try.f66,go_sem,k1,k2,k3,ctorV]
 case stop=>
  rintro D c pre W hD hpre ⟨⟨rfl,ini,last,rfl,hi,hl,c1,c2,c3⟩,hB⟩ hK;have e1:=c1.cell;have e2:=c2.cell;have e3:=c3.cell;have f1:=c1.frozen;have f2:=c2.frozen;have f3:=c3.frozen
  gi_wp2
  have k1:=(c1.kept (grownBy_putObj' _ D (.deferred none)) (fun e=>by cases e;omega)).cell;have k2:=(c2.kept (grownBy_putObj' _ D (.deferred none)) (fun e=>by cases e;omega)).cell;have k3:=(c3.kept (grownBy_putObj' _ D (.deferred none)) (fun e=>by cases e;omega)).cell;refine⟨by simp,.inl ⟨_,_,rfl,run_takeDeferred hK,?_⟩⟩;refine⟨ctorV (some last),?_,by rw [findE_some hpre hi hl],hB.trans (belowK_b (w:=w) (Nat.le_refl _) _ D _ _ (by omega) hK rfl rfl)⟩
  simp [results,Try.f66,go_sem,k1,k2,k3,ctorV]
theorem tyCtor(A:Option Addr) (len cap:Nat) (es:List En) (name:ByteArray) (w:World) (hE:RdE w A len es):
 Calls Try.prog 66 #[.slice A len cap,.string name] w fun e w'=>e=.returned (ctorV (findE es name))∧Below w.heap.size w w' :=
 callsIn_wide.1 (tyCtor_in 6 (Nat.le_refl _) A len cap es name w hE)
end
section
open Go.RowKit
def noneTo(es:List En) (name:ByteArray) (i k:Nat):Prop:=∀ p∈upTo es i k,isNm name p=false
theorem noneTo_succ{es:List En}{name:ByteArray}{i k:Nat}(H:noneTo es name i k) (h:((ctAt es i k).toList==name.toList)=false):noneTo es name i (k+1):=fun p hp=>by
 rw [upTo_succ,List.mem_append] at hp;rcases hp with hp | hp
 · exact H p hp
 · simp at hp
   subst hp;exact h
theorem noneTo_next{es:List En}{name:ByteArray}{i k:Nat}(H:noneTo es name i k) (h:k=(csE es i).length):noneTo es name (i+1) 0:=by
 subst h;unfold noneTo at H ⊢;rwa [upTo_next] at H
theorem find_at{es:List En}{name:ByteArray}{i k:Nat}(hi:i<es.length) (hk:k<(csE es i).length) (H:noneTo es name i k) (h:((ctAt es i k).toList==name.toList)=true):findE es name=some (i,k,ctAt es i k):=
 findE_some (ini:=upTo es i k) (by rw [← upTo_succ];exact upTo_pre hi (by omega)) H h
theorem find_no{es:List En}{name:ByteArray}(H:noneTo es name es.length 0):findE es name=none:=findE_none fun p hp=>H p (by rw [upTo_end];exact hp)
theorem refCtor(A:Option Addr) (len cap:Nat) (es:List En) (name:ByteArray) (w:World) (hE:RdE w A len es):
 Calls Try.prog 44 #[.slice A len cap,.string name] w fun e w'=>e=.returned (ctorV (findE es name))∧Below w.heap.size w w':=by
 have hlen:=hE.len;have hmx:=hE.max
 go_enter Try.func44,Try.ntmps44
 go_wp2_with fail
 go_loopw [7] (fun i wr=>∃ k:Nat,k≤len∧i=.int .i64 k∧noneTo es name k 0∧∃ p,wr=w.drewN p) (fun i _=>len-(intOf i).toNat)
 case atStart=>exact⟨0,Nat.zero_le _,rfl,fun p hp=>by rw [upTo_zero] at hp;simp at hp,0,rfl⟩
 case round=>
  obtain⟨k,hk,rfl,hto,p,rfl⟩:=hrel;have HT:=Hd hto;clear hto
  by_cases hlt:k<len
  · obtain⟨b,off,rfl,hb,hc⟩:=hE.at_ hlt;obtain⟨hn0,A',n',c',hs0,hR0⟩:=hc k hlt;have hkl:k<es.length:=by omega
    have hcl:=hR0.len;have hcm:=hR0.max;clear hc
    go_wp2_with fail
    go_loopw [8] (fun i wr=>∃ m:Nat,m≤n'∧i=.int .i64 m∧noneTo es name k m∧∃ p,wr=w.drewN p) (fun i _=>n' - (intOf i).toNat)
    case atStart=>exact⟨0,Nat.zero_le _,rfl,HT.out,_,rfl⟩
    case round=>
     obtain⟨m,hm,rfl,hto,q,rfl⟩:=hrel;have HT2:=Hd hto;clear hto
     by_cases hltm:m<n'
     · obtain⟨b2,off2,rfl,hb2,hc2⟩:=hR0.at_ hltm;have hcm2:=hc2 m hltm;clear hc2;have HN:=Hd fun h=>noneTo_succ HT2.out h;have HF:=Hd fun h=>find_at hkl (show m<(csE es k).length by omega) HT2.out h;rw [show(csE es k)[m]?.getD ByteArray.empty=ctAt es k m from rfl] at hcm2;generalize ctAt es k m=x at hcm2 HN HF
       by_cases he:(x.toList==name.toList)=true
       · have HF:=Hd (HF.out he)
         go_wp2_with fail
         refine bodyPost_ret (v:=ctorV (findE es name)) ?_ rfl ⟨rfl,?_⟩
         · rw [HF.out];simp [results,Try.results44,go_sem,ctorV]
         · exact below_drewN (Below.refl _ _) _
       · have he:(x.toList==name.toList)=false:=by simpa using he
         have HN:=Hd (HN.out he)
         go_wp2_with fail
         go_roundw
         case rel=>exact⟨m+1,by omega,by go_num,HN.out,_,rfl⟩
         case measure=>simp [intOf];omega
     · have HN:=Hd (noneTo_next HT2.out (by omega))
       go_wp2_with fail
       go_roundw
       case rel=>exact⟨k+1,by omega,by go_num,HN.out,_,rfl⟩
       case measure=>simp [intOf];omega
  · have hkl:k=es.length:=by omega
    have hno:=HT.out;rw [hkl] at hno;have HF:=Hd (find_no hno)
    go_wp2_with fail
    refine bodyPost_ret (v:=ctorV (findE es name)) ?_ rfl ⟨rfl,?_⟩
    · rw [HF.out];simp [results,Try.results44,go_sem,ctorV]
    · exact below_drewN (Below.refl _ _) _
end
section
set_option maxRecDepth 100000
open Go.RowKit Go.ChangeShapes Go.WideShapes Go.Deep
theorem cells_en:Try.prog.cellsOf 76=2:=by kernel_rfl
theorem cells_ty:Try.prog.cellsOf 56=3:=by kernel_rfl
theorem cells_iT:Try.prog.cellsOf 3=1:=by kernel_rfl
theorem cells_sT:Try.prog.cellsOf 9=1:=by kernel_rfl
theorem cells_ssT:Try.prog.cellsOf 26=1:=by kernel_rfl
section
variable {H:Type}{enc:TypeId × Value→H}{w:World}{base:Nat}{spare:Nat→Bool}{held:Bool}
theorem strs_open{fuel:Nat}{v:Value}{x:DataW H × List MemPlace}(h:DataW.trod enc Try.prog w base spare held fuel 26 [v]=some x):∃ A n c ss,v=.slice A n c∧RdT w A n ss:=by
 rcases Go.ChangeShapes.open_strings Try.underlying26 Try.underlying9 (by kernel_rfl) h with⟨hcs,_⟩|⟨x,l,c,ss,hcs,_,hl,hm,hss,_,hcell,hz⟩
 · simp at hcs
   subst hcs;exact⟨none,0,0,[],rfl,RdT.nil_ _⟩
 · simp at hcs
   subst hcs;have hle:l≤ss.length:=by rw [hss];split <;> omega
   exact⟨some x,l,c,ss.take l,rfl,rdT_arg hle (by unfold maxLen at hm;omega) hcell⟩
theorem en_open{fuel:Nat}{cs:List Value}{x:DataW H × List MemPlace}(h:DataW.trod enc Try.prog w base spare held fuel 76 cs=some x) (hl:cs.length=2):
 ∃ e:En,∃ A n c,cs=[.string e.1,.slice A n c]∧RdT w A n e.2:=by
 obtain⟨ys,m,_,_,_,hy,hf⟩:=DataW.trod_struct Try.underlying76 h
 match cs,hl with
 | [v0,v1],_=>
  match ys,hy with
  | [y0,y1],_=>
   have t0:=hf 0 _ rfl;have t1:=hf 1 _ rfl
   simp [cells_sT,cells_ssT] at t0 t1
   obtain⟨s,e0,_,_⟩:=DataW.trod_string Try.underlying9 t0;obtain⟨A,n,c,ss,rfl,hr⟩:=strs_open t1;injection e0 with e0;subst e0;exact⟨(s,ss),A,n,c,rfl,hr⟩
theorem enums_open{fuel:Nat}{A:Option Addr}{n c:Nat}{x:DataW H × List MemPlace}(h:DataW.trod enc Try.prog w base spare held fuel 22 [.slice A n c]=some x):∃ es,RdE w A n es:=by
 rcases open_slice Try.underlying22 h with⟨hcs,_⟩|⟨a,len,cap,m,nn,D,Pl,hcs,_,hl,hm,hmm,_,hi⟩
 · simp at hcs
   obtain⟨rfl,rfl,rfl⟩:=hcs;exact⟨[],RdE.nil_ _⟩
 · simp at hcs
   obtain⟨rfl,rfl,rfl⟩:=hcs;have hnm:n≤m:=by rw [hmm];split <;> omega
   have hone:∀ i,i<n→∃ e:En,w.cell? (a.add (i*2))=some (.string e.1)∧∃ A' n' c',w.cell? (a.add (i*2+1))=some (.slice A' n' c')∧RdT w A' n' e.2:=by
    intro i him;obtain⟨cs',hc,ht⟩:=hi i (by omega);rw [cells_en] at hc;obtain⟨_,hcl,hat⟩:=World.cells?_some hc;obtain⟨e,A',n',c',e1,hp⟩:=en_open ht hcl;have h0:=hat (i:=0) (by omega);have h1:=hat (i:=1) (by omega);rw [e1] at h0 h1;rw [Go.Deep.add_add] at h0 h1;exact⟨e,by simpa using h0,A',n',c',by simpa using h1,hp⟩
   obtain⟨f,hf⟩:=choose_lt (α:=En) hone;have hget:∀ i,i<n→((List.range n).map f)[i]?.getD (ByteArray.empty,[])=f i:=fun i hi=>by simp [List.getElem?_map,List.getElem?_range hi]
   refine⟨(List.range n).map f,by simp,by unfold maxLen at hm;omega,fun hn=>?_⟩;obtain⟨b,off,spot⟩:=a;have h0:=(hf 0 hn).1;have hspot:spot=none:=by simpa [Addr.add] using World.cell?_spot h0
   subst hspot;have hadd:∀ i,(⟨b,off,none⟩:Addr).add i=⟨b,off+i,none⟩:=fun i=>by unfold Addr.add;split <;> simp_all
   refine⟨b,off,rfl,World.block_lt_of_cell? w _ ((hadd 0) ▸ h0),fun i hi=>?_⟩;obtain⟨hc,A',n',c',h2,h3⟩:=hf i hi;rw [hadd] at hc h2;unfold nmE csE;rw [hget i hi];exact⟨hc,A',n',c',h2,h3⟩
theorem ty_cells{fuel:Nat}{cs:List Value}{x:DataW H × List MemPlace}(h:DataW.trod enc Try.prog w base spare held fuel 56 cs=some x) (hl:cs.length=3):
 ∃ k e l:Int,cs=[.int .i64 k,.int .i64 e,.int .i64 l]:=by
 obtain⟨ys,m,_,_,_,hy,hf⟩:=DataW.trod_struct Try.underlying56 h
 match cs,hl with
 | [v0,v1,v2],_=>
  match ys,hy with
  | [y0,y1,y2],_=>
   have t0:=hf 0 _ rfl;have t1:=hf 1 _ rfl;have t2:=hf 2 _ rfl
   simp [cells_iT] at t0 t1 t2
   obtain⟨k,e0,_,_⟩:=DataW.trod_int Try.underlying3 t0;obtain⟨e,e1,_,_⟩:=DataW.trod_int Try.underlying3 t1;obtain⟨l,e2,_,_⟩:=DataW.trod_int Try.underlying3 t2;injection e0 with e0;injection e1 with e1;injection e2 with e2;subst e0 e1 e2;exact⟨k,e,l,rfl⟩
end
end
end Go.Proofs.Ytkbpdoomhfkngaa
