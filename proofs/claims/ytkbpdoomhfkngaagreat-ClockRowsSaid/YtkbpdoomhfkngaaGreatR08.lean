/- Parts of the proof: PgD, PgE, PgF, PgG, PgH, PgJ, PgK, PgN, PgO, TyL, PgQ, PgP, ScM, ClM, PgI, SlR. Conditions: each theorem's own. -/
import Derived.Sort.Grow
import Derived.Laws.ResultCell
import Derived.Laws.Rows
import Derived.Laws.Tables
import Derived.Laws.CopyOwn
import Derived.Shelf.SlicesQ.Reverse
import Derived.Ground.SlgnProg
import Derived.Shelf.Spec.SlicesGrow
import Derived.Ground.Names8Prog
import Derived.Test.YtkbpdoomhfkngaaGreatR06
import Derived.Test.YtkbpdoomhfkngaaGreatR07
namespace Go.Proofs.YtkbpdoomhfkngaaGreat
set_option linter.unusedVariables false
set_option linter.unusedSimpArgs false
set_option maxRecDepth 100000
set_option maxHeartbeats 40000000
section
open Go.RowKit
def OkD(d:Dc):Prop:=d.nm.size≤maxLen∧d.on.size≤maxLen∧d.ct.size≤maxLen
theorem dc_facts(w:World) (d:Dc) (w1:World) (h:w.alloc (.cells (dcA d) 43)=w1):
 Below w.heap.size w w1∧w1.heap.size=w.heap.size+1∧∀ w',Below w1.heap.size w1 w'→∀ j,w'.cell? ⟨w.heap.size,j,none⟩=(dcA d)[j]?:=by
 subst h;refine⟨(Below.refl _ _).alloc (Nat.le_refl _) _,by simp,fun w' hb j=>?_⟩;rw [hb.cell (p:=⟨w.heap.size,j,none⟩) (by simp),World.cell?_alloc_new]
end
section
open Go.RowKit
def qnA(q:Qn) (A:Option Addr) (c:Nat) (A':Option Addr) (ca:Nat) (B':Option Addr) (cb:Nat):Array Value:=
 #[.slice A q.ns.length c,.int .i64 q.x.k,.int .i64 q.x.n,.string q.x.s,.int .i64 q.x.op,.slice A' q.x.arms.length ca,.slice B' q.x.subs.length cb]
def OkQ(q:Qn):Prop:=(∀ s∈q.ns,s.size≤maxLen)∧sizeX q.x≤1000000∧∀ p∈partsX q.x,ShortP p
theorem qn_facts(w:World) (q:Qn) (A:Option Addr) (c:Nat) (A':Option Addr) (ca:Nat) (B':Option Addr) (cb:Nat) (w1:World) (h:w.alloc (.cells (qnA q A c A' ca B' cb) 54)=w1) (hr:RdT w A q.ns.length q.ns) (hx:rdX w q.x A' B'):
 Below w.heap.size w w1∧w1.heap.size=w.heap.size+1∧RdT w1 A q.ns.length q.ns∧rdX w1 q.x A' B'∧∀ w',Below w1.heap.size w1 w'→∀ j,w'.cell? ⟨w.heap.size,j,none⟩=(qnA q A c A' ca B' cb)[j]?:=by
 subst h;have hb:=(Below.refl w.heap.size w).alloc (Nat.le_refl _) (.cells (qnA q A c A' ca B' cb) 54);refine⟨hb,by simp,hr.below hb,hx.below hb,fun w' hb j=>?_⟩;rw [hb.cell (p:=⟨w.heap.size,j,none⟩) (by simp),World.cell?_alloc_new]
theorem getD_mem{ss:List ByteArray}{k:Nat}(h:k<ss.length):ss[k]?.getD ByteArray.empty∈ss:=by
 rw [List.getElem?_eq_getElem h];exact List.getElem_mem _
end
section
open Go.RowKit Go.Sort
def OkN(n:Nd):Prop:=n.nm.size≤maxLen∧(∀ d∈n.all,OkD d)∧∀ q∈n.eqs,OkQ q
theorem getD_memA{α:Type} [Inhabited α] {l:List α}{k:Nat}(h:k<l.length):l[k]?.getD default∈l:=by
 rw [List.getElem?_eq_getElem h];exact List.getElem_mem _
theorem QnAt.seven{w:World}{b o:Nat}{q:Qn}(h:QnAt w b o q):∃ A c A' ca B' cb,RdT w A q.ns.length q.ns∧rdX w q.x A' B' ∧
 w.cell? ⟨b,o,none⟩=some (.slice A q.ns.length c)∧w.cell? ⟨b,o+1,none⟩=some (.int .i64 q.x.k)∧w.cell? ⟨b,o+2,none⟩=some (.int .i64 q.x.n)∧w.cell? ⟨b,o+3,none⟩=some (.string q.x.s)∧w.cell? ⟨b,o+4,none⟩=some (.int .i64 q.x.op) ∧
  w.cell? ⟨b,o+5,none⟩=some (.slice A' q.x.arms.length ca)∧w.cell? ⟨b,o+6,none⟩=some (.slice B' q.x.subs.length cb):=by
 obtain⟨A,c,A',ca,B',cb,h1,h2,h3,h4⟩:=h;obtain⟨r0,r1,r2,r3,r4,r5⟩:=rangeAt_six h3;exact⟨A,c,A',ca,B',cb,h2,h4,h1,r0,r1,r2,r3,r4,r5⟩
end
section
open Go.RowKit Go.Sort
def pgA(p:Pg) (E:Option Addr) (ec:Nat) (N:Option Addr) (nc:Nat):Array Value:=#[.slice E p.es.length ec,.slice N p.ns.length nc]
def rdP(w:World) (p:Pg) (E N:Option Addr):Prop:=RdE w E p.es.length p.es∧RdNs w N p.ns.length p.ns
theorem rdP.below{w w':World}{p:Pg}{E N:Option Addr}(h:rdP w p E N) (hb:Below w.heap.size w w'):rdP w' p E N:=⟨h.1.below hb,h.2.below hb⟩
theorem pg_facts(w:World) (p:Pg) (E:Option Addr) (ec:Nat) (N:Option Addr) (nc:Nat) (w1:World) (h:w.alloc (.cells (pgA p E ec N nc) 25)=w1) (hr:rdP w p E N):
 Below w.heap.size w w1∧w1.heap.size=w.heap.size+1∧rdP w1 p E N∧∀ w',Below w1.heap.size w1 w'→∀ j,w'.cell? ⟨w.heap.size,j,none⟩=(pgA p E ec N nc)[j]?:=by
 subst h;have hb:=(Below.refl w.heap.size w).alloc (Nat.le_refl _) (.cells (pgA p E ec N nc) 25);refine⟨hb,by simp,hr.below hb,fun w' hb j=>?_⟩;rw [hb.cell (p:=⟨w.heap.size,j,none⟩) (by simp),World.cell?_alloc_new]
theorem findI_hit{α:Type} [Inhabited α] {f:α→Bool}:∀ {l:List α}{k i:Nat},k<l.length→(∀ j,j<k→f (l[j]?.getD default)=false)→f (l[k]?.getD default)=true→findI f l i=((i+k:Nat):Int)
 | [],k,i,h,_,_=>by simp at h
 | a::l,0,i,_,_,h=>by
  have h:f a=true:=by simpa using h
  simp [findI,h]
 | a::l,k+1,i,hk,hn,h=>by
  have h0:f a=false:=by simpa using hn 0 (by omega)
  rw [findI,h0,if_neg (by simp),findI_hit (k:=k) (by simpa using hk) (fun j hj=>by simpa using hn (j+1) (by omega)) (by simpa using h)]
  congr 1
  omega
theorem findI_none{α:Type} [Inhabited α] {f:α→Bool}:∀ {l:List α}{i:Nat},(∀ j,j<l.length→f (l[j]?.getD default)=false)→findI f l i=-1
 | [],i,_=>rfl
 | a::l,i,hn=>by
  have h0:f a=false:=by simpa using hn 0 (by simp)
  rw [findI,h0,if_neg (by simp)];exact findI_none fun j hj=>by simpa using hn (j+1) (by simpa using hj)
theorem to_next{P:Nat→Prop}{k:Nat}(h:∀ j,j<k→P j) (hk:P k):∀ j,j<k+1→P j:=fun j hj=>by
 rcases Nat.lt_or_ge j k with h1 | h1
 · exact h j h1
 · obtain rfl:j=k:=by omega
   exact hk
end
section
open Go.RowKit Go.Sort
def RowD(w:World) (g:Nat) (d:Dc):Prop:=w.heap[g]?=some (Obj.cells (dcA d) 43)
theorem dcinfo:(Tryz.prog.info? 43).map (·.size)=some 6:=by kernel_rfl
theorem dcinfo'(d:Dc):(Tryz.prog.info? 43).map (·.size)=some (dcA d).size:=dcinfo
theorem res_dc2{fn:Func}{p u:Tmp}(h:fn.results=#[.cell p 43,.tmp u]) (tmps:Array Value) (w:World) (g:Nat){d:Dc}
 (hp:tmps.getD p undef=.pointer (some ⟨g,0,none⟩)) (hg:RowD w g d):(results fn tmps).run Tryz.prog w=.ok (.tuple #[.agg (dcA d),tmps.getD u undef]) w:=by
 rw [results_cell_tmp h,hp];have hl:=run_loadVar_row (P:=Tryz.prog) w g 43 43 _ _ _ hg Tryz.underlying43 rfl (dcinfo' d)
 simp [asAddr,Result.andThen,hl]
theorem RowD.below{w w':World}{g:Nat}{d:Dc}(h:RowD w g d) (hb:Below w.heap.size w w'):RowD w' g d:=by
 have hl:g<w.heap.size:=(Array.getElem?_eq_some_iff.1 h).1;exact(hb.block g hl).trans h
theorem RowD.set{w:World}{g:Nat}{d:Dc}(h:RowD w g d) (d':Dc):RowD (w.setRow g (dcA d')) g d':=setRow_heap _ _ _ _ _ _ h
theorem find_hit{α:Type} [Inhabited α] {f:α→Bool}:∀ {l:List α}{k:Nat},k<l.length→(∀ j,j<k→f (l[j]?.getD default)=false)→f (l[k]?.getD default)=true→l.find? f=some (l[k]?.getD default)
 | [],k,h,_,_=>by simp at h
 | a::l,0,_,_,h=>by
  have h:f a=true:=by simpa using h
  simp [List.find?,h]
 | a::l,k+1,hk,hn,h=>by
  have h0:f a=false:=by simpa using hn 0 (by omega)
  rw [List.find?_cons_of_neg (by simp [h0]),find_hit (k:=k) (by simpa using hk) (fun j hj=>by simpa using hn (j+1) (by omega)) (by simpa using h)]
  simp
theorem find_none{α:Type} [Inhabited α] {f:α→Bool}{l:List α}(hn:∀ j,j<l.length→f (l[j]?.getD default)=false):l.find? f=none:=by
 rw [List.find?_eq_none];intro a ha;obtain⟨j,hj,rfl⟩:=List.getElem_of_mem ha;have:=hn j hj;rw [List.getElem?_eq_getElem hj] at this
 simpa using this
def declV(o:Option Dc):Value:=.tuple #[.agg (dcA (o.getD default)),.bool o.isSome]
def DeclPost(w:World) (o:Option Dc) (e:Ending) (w':World):Prop:=e=.returned (declV o)∧Below w.heap.size w w'
end
section
open Go.RowKit Go.Sort
end
section
open Go.RowKit Go.Sort Go.BigFrame
end
section
open Go.RowKit Go.Sort Go.BigFrame
end
section
open Go.RowKit Go.Sort Go.BigFrame
theorem NdAt.five{w:World}{b o:Nat}{x:Nd}(h:NdAt w b o x):∃ A1 c1 A2 c2 A3 c3 A4 c4,rdN w x A1 A2 A3 A4 ∧
 w.cell? ⟨b,o,none⟩=some (.string x.nm)∧w.cell? ⟨b,o+1,none⟩=some (.slice A1 x.ins.length c1)∧w.cell? ⟨b,o+2,none⟩=some (.slice A2 x.outs.length c2)∧w.cell? ⟨b,o+3,none⟩=some (.slice A3 x.vars.length c3)∧w.cell? ⟨b,o+4,none⟩=some (.slice A4 x.eqs.length c4):=by
 obtain⟨A1,c1,A2,c2,A3,c3,A4,c4,h1,h2⟩:=h;obtain⟨d0,d1,d2,d3,d4⟩:=ndL_five h1;exact⟨A1,c1,A2,c2,A3,c3,A4,c4,h2,d0,d1,d2,d3,d4⟩
end
section
open Go.RowKit
def tinyTo(es:List En) (k:Nat):Prop:=∀ j,j<k→(csE es j).length≤12∧(nmE es j).size≤100∧∀ q,q<(csE es j).length→(ctAt es j q).size≤100
def EsTiny(es:List En):Prop:=es.length≤8∧tinyTo es es.length
theorem EsTiny.few{es:List En}(h:EsTiny es):EsFew es:=⟨h.1,fun j hj=>(h.2 j hj).1⟩
theorem EsTiny.ok{es:List En}(h:EsTiny es):EsOk es:=fun j hj=>by
 have h1:=h.2 j hj;unfold maxLen;refine⟨by omega,fun s hs=>?_⟩;obtain⟨q,hq,rfl⟩:=List.getElem_of_mem hs;have:=h1.2.2 q hq;unfold ctAt at this;rw [List.getElem?_eq_getElem hq,Option.getD_some] at this;omega
theorem tinyTo_succ{es:List En}{k:Nat}(H:tinyTo es k) (h1:(csE es k).length≤12) (h2:(nmE es k).size≤100) (h3:∀ q,q<(csE es k).length→(ctAt es k q).size≤100):tinyTo es (k+1):=fun j hj=>by
 rcases Nat.lt_or_ge j k with h | h
 · exact H j h
 · obtain rfl:j=k:=by omega
   exact⟨h1,h2,h3⟩
def SmallPost(es:List En) (w:World) (e:Ending) (w':World):Prop:=∃ b,e=.returned (.bool b)∧(b=true→EsTiny es)∧w=w'
theorem small_no(es:List En) (w:World):SmallPost es w (.returned (.bool false)) w:=⟨false,rfl,fun h=>(by cases h),rfl⟩
theorem small_yes{es:List En}(h:EsTiny es) (w:World):SmallPost es w (.returned (.bool true)) w:=⟨true,rfl,fun _=>h,rfl⟩
theorem refEnSmall(A:Option Addr) (len cap:Nat) (es:List En) (w:World) (hE:RdE w A len es):
 Calls Tryz.prog 12 #[.slice A len cap] w (SmallPost es w):=by
 have hlen:=hE.len;have hmx:=hE.max
 by_cases h8:8<len
 · go_enter Tryz.func12,Tryz.ntmps12
   go_wp2_with fail
   go_ret
   exact small_no es w
 · have hd8:decide ((8:Int)<(len:Int))=false:=decide_eq_false (by omega)
   go_enter Tryz.func12,Tryz.ntmps12
   go_wp2_with fail
   go_loop [3] (fun i=>∃ k:Nat,k≤len∧i=.int .i64 k∧tinyTo es k) (fun i=>len-(intOf i).toNat)
   case atStart=>exact⟨0,Nat.zero_le _,rfl,fun j hj=>absurd hj (by omega)⟩
   case round=>
    obtain⟨k,hk,rfl,hto⟩:=hrel;have HT:=Hd hto;clear hto
    by_cases hlt:k<len
    · obtain⟨b,off,rfl,hb,hc⟩:=hE.at_ hlt;obtain⟨hn0,A',n',c',hs0,hR0⟩:=hc k hlt;have hkl:k<es.length:=by omega
      have hcl:=hR0.len;have hcm:=hR0.max;clear hc
      by_cases h12:12<n'
      · go_wp2_with fail
        go_ret
        exact small_no es w
      · have HS:=Hd fun h2 h3=>tinyTo_succ HT.out (show(csE es k).length≤12 by omega) h2 h3;have hd12:decide ((12:Int)<(n':Int))=false:=decide_eq_false (by omega);generalize nmE es k=x at hn0 HS
        by_cases h100:100<x.size
        · go_wp2_with fail
          go_ret
          exact small_no es w
        · have HS:=Hd fun h3=>HS.out (by omega) h3;have hd100:decide ((100:Int)<(x.size:Int))=false:=decide_eq_false (by omega)
          go_wp2_with fail
          go_loop [4] (fun i=>∃ m:Nat,m≤n'∧i=.int .i64 m∧∀ q,q<m→(ctAt es k q).size≤100) (fun i=>n' - (intOf i).toNat)
          case atStart=>exact⟨0,Nat.zero_le _,rfl,fun j hj=>absurd hj (by omega)⟩
          case round=>
           obtain⟨m,hm,rfl,hto⟩:=hrel;have HT2:=Hd hto;clear hto
           by_cases hltm:m<n'
           · obtain⟨b2,off2,rfl,hb2,hc2⟩:=hR0.at_ hltm;have hcm2:=hc2 m hltm;clear hc2;rw [show(csE es k)[m]?.getD ByteArray.empty=ctAt es k m from rfl] at hcm2
             have HN:=Hd (show(ctAt es k m).size≤100→∀ q,q<m+1→(ctAt es k q).size≤100 from fun h q hq=>by
              rcases Nat.lt_or_ge q m with h1 | h1
              · exact HT2.out q h1
              · obtain rfl:q=m:=by omega
                exact h)
             generalize ctAt es k m=y at hcm2 HN
             by_cases hy:100<y.size
             · go_wp2_with fail
               go_ret
               exact small_no es w
             · have HN:=Hd (HN.out (by omega))
               go_wp2_with fail
               go_round
               case rel=>exact⟨m+1,by omega,by go_num,HN.out⟩
               case measure=>simp [intOf];omega
           · have HS:=Hd (HS.out fun q hq=>HT2.out q (by omega))
             go_wp2_with fail
             go_round
             case rel=>exact⟨k+1,by omega,by go_num,HS.out⟩
             case measure=>simp [intOf];omega
    · have hkl:k=es.length:=by omega
      have hno:=HT.out;rw [hkl] at hno;have HY:=Hd (show EsTiny es from⟨by omega,hno⟩)
      go_wp2_with fail
      go_ret
      exact small_yes HY.out w
end
section
open Go.RowKit Go.Sort
def TinyQ(q:Qn):Prop:=q.ns.length≤20∧tinyX q.x=true∧∀ j,j<q.ns.length→(q.ns[j]?.getD ByteArray.empty).size≤100
def TinyN(n:Nd):Prop:=fewD n.ins=true∧fewD n.outs=true∧fewD n.vars=true∧n.eqs.length≤30∧n.nm.size≤100∧∀ j,j<n.eqs.length→TinyQ (n.eqs[j]?.getD default)
def TinyP(p:Pg):Prop:=EsTiny p.es∧p.ns.length≤10∧∀ j,j<p.ns.length→TinyN (p.ns[j]?.getD default)
def SmallP(w:World) (p:Pg) (e:Ending) (w':World):Prop:=∃ b,e=.returned (.bool b)∧(b=true→TinyP p)∧Below w.heap.size w w'
theorem smallP_no{w w':World}(p:Pg) (hb:Below w.heap.size w w'):SmallP w p (.returned (.bool false)) w':=⟨false,rfl,fun h=>(by cases h),hb⟩
theorem box_store{w:World}{zc cs:Array Value}{T:TypeId}{w4:World}(hw:(w.alloc (.cells zc T)).setRow w.heap.size cs=w4):
 Below w.heap.size w w4∧w.heap.size<w4.heap.size∧∀ w',Below w4.heap.size w4 w'→∀ j,w'.cell? ⟨w.heap.size,j,none⟩=cs[j]?:=by
 have h1:w4.heap[w.heap.size]?=some (.cells cs T):=by
  rw [← hw];exact setRow_heap _ _ _ _ _ _ (heap_alloc_new _ _)
 have hlt:w.heap.size<w4.heap.size:=(Array.getElem?_eq_some_iff.1 h1).1;refine⟨?_,hlt,fun w' hb j=>?_⟩
 · rw [← hw];exact below_setRow ((Below.refl _ _).alloc (Nat.le_refl _) _) (Nat.le_refl _) cs
 · rw [hb.cell (p:=⟨w.heap.size,j,none⟩) hlt];unfold World.cell?;rw [show w4.heap[(⟨w.heap.size,j,none⟩:Addr).block]?=_ from h1];rfl
theorem ndinfo:(Tryz.prog.info? 36).map (·.size)=some 5:=by kernel_rfl
theorem qninfo:(Tryz.prog.info? 54).map (·.size)=some 7:=by kernel_rfl
theorem refPgSmall(p:Pg) (E:Option Addr) (ec:Nat) (N:Option Addr) (nc:Nat) (w:World) (h:rdP w p E N):
 Calls Tryz.prog 5 #[.agg (pgA p E ec N nc)] w (SmallP w p):=by
 have HF:=Hd fun w1 hw=>pg_facts w p E ec N nc w1 hw h;have HSM:=Hd fun w1 a=>refEnSmall E p.es.length ec p.es w1 a;have HFW:=Hd fun A n c l w1 a=>refFewD A n c l w1 a;have HXS:=Hd fun x A ca B cb w1 a=>refSmall x A ca B cb w1 a;have hmx:=RdS.max h.2;have HTP:=Hd (show EsTiny p.es→p.ns.length≤10→(∀ j,j<p.ns.length→TinyN (p.ns[j]?.getD default))→TinyP p from fun a b c=>⟨a,b,c⟩);have HNO:=Hd fun w' hb=>smallP_no (w:=w) (w':=w') p hb;have HYS:=Hd fun w' (hb:Below w.heap.size w w') (ht:TinyP p)=>(show SmallP w p (.returned (.bool true)) w' from⟨true,rfl,fun _=>ht,hb⟩);unfold pgA;unfold exA at HXS;generalize TinyP p=TP at *
 go_enter Tryz.func5,Tryz.ntmps5
 go_upto_region 1 with(fail)
 generalize hw1:w.alloc _=w1;obtain⟨hb1,hg,hR1,hcell⟩:=HF.out w1 hw1;have HB1:=Hd hb1;have HC:=Hd hcell;have HEN:=Hd hR1.1;have HNS:=Hd (show RdS 5 NdAt w1 N p.ns.length p.ns from hR1.2);simp only [pgA] at HC;have q0:=HC.out w1 (Below.refl _ _) 0;have q1:=HC.out w1 (Below.refl _ _) 1;simp only [Ya,Yb,Yc] at q0 q1;clear hw1 hcell hb1 HF h hR1;generalize hns:p.ns=ns at *;generalize hnl:ns.length=n at *;have HNL:=Hd hnl;clear hnl hns
 go_wp2_with fail
 refine(HSM.out w1 HEN.out).mono ?_;rintro e w2 ⟨be,rfl,hbe,rfl⟩
 cases be with
 | false=>
  go_wp2_with fail
  go_ret
  exact HNO.out w1 HB1.out
 | true=>
  have HTE:=Hd (hbe rfl);clear hbe
  by_cases h10:10<n
  · go_wp2_with fail
    go_ret
    exact HNO.out w1 HB1.out
  · have d10:decide ((10:Int)<(n:Int))=false:=decide_eq_false (by omega)
    go_wp2_with fail
    go_loopw [3] (fun i wr=>∃ k:Nat,k≤n∧i=.int .i64 k∧(∀ j,j<k→TinyN (ns[j]?.getD default))∧Below w1.heap.size w1 wr) (fun i _=>n-(intOf i).toNat)
    case atStart=>exact⟨0,Nat.zero_le _,rfl,fun j hj=>absurd hj (by omega),Below.refl _ _⟩
    case round=>
     obtain⟨k,hk,rfl,hto,hnx⟩:=hrel;have HT:=Hd hto;have HNX:=Hd hnx;have hz:=hnx.size;have q1:=HC.out wr hnx 1;simp only [Ya,Yb,Yc] at q1;clear hto
     by_cases hlt:k<n
     · obtain⟨b,off,rfl,hb,hc⟩:=RdS.at_ (RdNs.below HNS.out hnx) (by omega);have hnd:=hc k hlt;clear hc hnx;have HS:=Hd fun(hf:TinyN (ns[k]?.getD default))=>to_next (P:=fun j=>TinyN (ns[j]?.getD default)) HT.out hf;generalize ns[k]?.getD default=x at hnd HS;have HTN:=Hd (show fewD x.ins=true→fewD x.outs=true→fewD x.vars=true→x.eqs.length≤30→x.nm.size≤100→(∀ j,j<x.eqs.length→TinyQ (x.eqs[j]?.getD default))→TinyN x from fun a b c d e f=>⟨a,b,c,d,e,f⟩);obtain⟨A1,c1,A2,c2,A3,c3,A4,c4,hrd,p10,p11,p12,p13,p14⟩:=hnd.five;have hmq:=RdS.max hrd.2.2.2;have HBX:=Hd fun zc w4 hw=>box_store (w:=wr) (zc:=zc) (cs:=ndA x A1 c1 A2 c2 A3 c3 A4 c4) (T:=36) (w4:=w4) hw;have HRD:=Hd hrd;simp only [ndA] at HBX;clear hrd hnd
       go_upto_region 7 with(refine wpList_store_row rfl _ _ _ rfl wr.heap.size _ rfl rfl _ _ (heap_alloc_new _ _) ndinfo rfl (by simp [Value.oneCell']) ?_)
       generalize hw4:World.setRow _ _ _=w4;obtain⟨hb4,hlt4,hcell4⟩:=HBX.out _ w4 hw4;have HB4:=Hd (HNX.out.trans (hb4.mono hz));have HBV:=Hd (HB1.out.trans (HB4.out.mono (by omega)));have HC4:=Hd hcell4;have HRD4:=Hd (HRD.out.below hb4);have hz4:=hb4.size;obtain⟨r0,r1,r2,r3,r4,-⟩:=Sx (hcell4 w4 (Below.refl _ _));simp only [Ya,Yb,Yc] at r0 r1 r2 r3 r4;have HF1:=Hd (HFW.out A1 x.ins.length c1 x.ins w4 HRD4.out.1);have HF2:=Hd (HFW.out A2 x.outs.length c2 x.outs w4 HRD4.out.2.1);have HF3:=Hd (HFW.out A3 x.vars.length c3 x.vars w4 HRD4.out.2.2.1);have HQS:=Hd (show RdS 7 QnAt w4 A4 x.eqs.length x.eqs from HRD4.out.2.2.2);clear hw4 hcell4 hb4 p10 p11 p12 p13 p14 q1 HBX;generalize hqs:x.eqs=qs at *;generalize hql:qs.length=nq at *;have HQL:=Hd hql;clear hql hqs;generalize wr.heap.size=gb at *
       cases g1:fewD x.ins with
       | false=>
        go_wp2_with fail
        refine HF1.out.mono ?_;rw [g1];rintro e v1 ⟨rfl,rfl⟩
        go_wp2_with fail
        go_ret
        exact HNO.out w4 HBV.out
       | true=>
        go_wp2_with fail
        refine HF1.out.mono ?_;rw [g1];rintro e v1 ⟨rfl,rfl⟩
        cases g2:fewD x.outs with
        | false=>
         go_wp2_with fail
         refine HF2.out.mono ?_;rw [g2];rintro e v2 ⟨rfl,rfl⟩
         go_wp2_with fail
         go_ret
         exact HNO.out w4 HBV.out
        | true=>
         go_wp2_with fail
         refine HF2.out.mono ?_;rw [g2];rintro e v2 ⟨rfl,rfl⟩
         cases g3:fewD x.vars with
         | false=>
          go_wp2_with fail
          refine HF3.out.mono ?_;rw [g3];rintro e v3 ⟨rfl,rfl⟩
          go_wp2_with fail
          go_ret
          exact HNO.out w4 HBV.out
         | true=>
          go_wp2_with fail
          refine HF3.out.mono ?_;rw [g3];rintro e v3 ⟨rfl,rfl⟩
          by_cases h30:30<nq
          · go_wp2_with fail
            go_ret
            exact HNO.out w4 HBV.out
          · have d30:decide ((30:Int)<(nq:Int))=false:=decide_eq_false (by omega)
            by_cases h100:100<x.nm.size
            · have d100:decide ((100:Int)<(x.nm.size:Int))=true:=decide_eq_true (by omega)
              go_wp2_with fail
              go_ret
              exact HNO.out w4 HBV.out
            · have d100:decide ((100:Int)<(x.nm.size:Int))=false:=decide_eq_false (by omega);have HTN:=Hd (HTN.out g1 g2 g3 (by omega) (by omega));generalize wr=wo at *
              go_wp2_with fail
              go_loopw [5] (fun i wq=>∃ j:Nat,j≤nq∧i=.int .i64 j∧(∀ a,a<j→TinyQ (qs[a]?.getD default))∧Below w4.heap.size w4 wq) (fun i _=>nq-(intOf i).toNat)
              case atStart=>exact⟨0,Nat.zero_le _,rfl,fun j hj=>absurd hj (by omega),Below.refl _ _⟩
              case round=>
               obtain⟨j,hj,rfl,htq,hnq⟩:=hrel;have HTQ:=Hd htq;have HNQ:=Hd hnq;have hzq:=hnq.size;have r4:=HC4.out _ hnq 4;simp only [Ya,Yb,Yc] at r4;clear htq
               by_cases hjl:j<nq
               · obtain⟨b5,off5,rfl,hb5,hc5⟩:=RdS.at_ (RdQ.below HQS.out hnq) (by omega);have hqa:=hc5 j hjl;clear hc5 hnq;have HSQ:=Hd fun(hf:TinyQ (qs[j]?.getD default))=>to_next (P:=fun a=>TinyQ (qs[a]?.getD default)) HTQ.out hf;generalize qs[j]?.getD default=q at hqa HSQ;have HTY:=Hd (show q.ns.length≤20→tinyX q.x=true→(∀ j,j<q.ns.length→(q.ns[j]?.getD ByteArray.empty).size≤100)→TinyQ q from fun a b c=>⟨a,b,c⟩);obtain⟨A6,c6,A7,c7,A8,c8,hqt,hqx,s0,s1,s2,s3,s4,s5,s6⟩:=hqa.seven;have hmt:=hqt.max;have HBX:=Hd fun zc w6 hw=>box_store (w:=wr) (zc:=zc) (cs:=qnA q A6 c6 A7 c7 A8 c8) (T:=54) (w4:=w6) hw;have HQT:=Hd hqt;have HQX:=Hd hqx;simp only [qnA] at HBX;clear hqt hqx hqa
                 go_upto_region 13 with(refine wpList_store_row rfl _ _ _ rfl wr.heap.size _ rfl rfl _ _ (heap_alloc_new _ _) qninfo rfl (by simp [Value.oneCell']) ?_)
                 generalize hw6:World.setRow _ _ _=w6;obtain⟨hb6,hlt6,hcell6⟩:=HBX.out _ w6 hw6;have HB6:=Hd (HNQ.out.trans (hb6.mono hzq));have HBU:=Hd (HBV.out.trans (HB6.out.mono HBV.out.size));have HC6:=Hd hcell6;have HQT6:=Hd (HQT.out.below hb6);have hz6:=hb6.size;obtain⟨t0,t1,t2,t3,t4,t5⟩:=Sx (hcell6 w6 (Below.refl _ _));have t6:=hcell6 w6 (Below.refl _ _) 6;simp only [Ya,Yb,Yc] at t0 t1 t2 t3 t4 t5 t6;have HX6:=Hd (HXS.out q.x A7 c7 A8 c8 w6 (HQX.out.below hb6));clear hw6 hcell6 hb6 s0 s1 s2 s3 s4 s5 s6 r4 HBX;generalize hss:q.ns=ss at *;generalize hsl:ss.length=nn at *;have HSL:=Hd hsl;clear hsl hss;generalize wr.heap.size=gq at *
                 by_cases h20:20<nn
                 · go_wp2_with fail
                   go_ret
                   exact HNO.out w6 HBU.out
                 · have d20:decide ((20:Int)<(nn:Int))=false:=decide_eq_false (by omega)
                   cases gx:tinyX q.x with
                   | false=>
                    rw [gx] at HX6
                    go_wp2_with fail
                    refine HX6.out.mono ?_;rintro e w7 ⟨rfl,hb7⟩;have HB7:=Hd (HBU.out.trans (hb7.mono HBU.out.size));clear hb7
                    go_wp2_with fail
                    go_ret
                    exact HNO.out w7 HB7.out
                   | true=>
                    rw [gx] at HX6;have HTY:=Hd (HTY.out (by omega) gx)
                    go_wp2_with fail
                    refine HX6.out.mono ?_;rintro e w7 ⟨rfl,hb7⟩;have HB7:=Hd (HBU.out.trans (hb7.mono HBU.out.size));have HB67:=Hd (HB6.out.trans (hb7.mono HB6.out.size));have u0:=HC6.out w7 hb7 0;simp only [Ya,Yb,Yc] at u0;have HQT7:=Hd (HQT6.out.below hb7);clear hb7 t0 t1 t2 t3 t4 t5 t6
                    go_wp2_with fail
                    go_loop [7] (fun i=>∃ m:Nat,m≤nn∧i=.int .i64 m∧∀ a,a<m→(ss[a]?.getD ByteArray.empty).size≤100) (fun i=>nn-(intOf i).toNat)
                    case atStart=>exact⟨0,Nat.zero_le _,rfl,fun j hj=>absurd hj (by omega)⟩
                    case round=>
                     obtain⟨m,hm,rfl,hts⟩:=hrel;have HTS:=Hd hts;clear hts
                     by_cases hml:m<nn
                     · obtain⟨b8,off8,rfl,hb8,hc8⟩:=HQT7.out.at_ hml;have hs8:=hc8 m hml;clear hc8;have HSS:=Hd fun(hf:(ss[m]?.getD ByteArray.empty).size≤100)=>to_next (P:=fun a=>(ss[a]?.getD ByteArray.empty).size≤100) HTS.out hf;generalize ss[m]?.getD ByteArray.empty=y at hs8 HSS
                       by_cases hy:100<y.size
                       · go_wp2_with fail
                         go_ret
                         exact HNO.out w7 HB7.out
                       · have HS2:=Hd (HSS.out (by omega))
                         go_wp2_with fail
                         go_round
                         case rel=>exact⟨m+1,by omega,by go_num,HS2.out⟩
                         case measure=>simp [intOf];omega
                     · have HS3:=Hd (HSQ.out (HTY.out fun a ha=>HTS.out a (by omega)))
                       go_wp2_with fail
                       go_roundw
                       case rel=>exact⟨j+1,by omega,by go_num,HS3.out,HB67.out⟩
                       case measure=>simp [intOf];omega
               · have HS4:=Hd (HS.out (HTN.out fun a ha=>HTQ.out a (by omega)));have HB8:=Hd (HB4.out.trans (HNQ.out.mono HB4.out.size))
                 go_wp2_with fail
                 go_roundw
                 case rel=>exact⟨k+1,by omega,by go_num,HS4.out,HB8.out⟩
                 case measure=>simp [intOf];omega
     · have HP:=Hd (HTP.out HTE.out (by omega) fun a ha=>HT.out a (by omega))
       go_wp2_with fail
       go_ret
       exact HYS.out wr (HB1.out.trans (HNX.out.mono (by omega))) HP.out
end
section
open Go.RowKit Go.Sort
theorem tiny_sizeX{x:Ex}(h:tinyX x=true):sizeX x≤1000000:=by
 simp only [tinyX,Bool.and_eq_true,decide_eq_true_eq] at h;omega
theorem tiny_shortX{x:Ex}(h:tinyX x=true):∀ p∈partsX x,ShortP p:=by
 simp only [tinyX,Bool.and_eq_true,List.all_eq_true] at h;exact fun p hp=>ShortP.of_few (h.2 p hp)
theorem TinyQ.ok{q:Qn}(h:TinyQ q):OkQ q:=by
 refine⟨fun s hs=>?_,tiny_sizeX h.2.1,tiny_shortX h.2.1⟩;obtain⟨j,hj,rfl⟩:=List.getElem_of_mem hs;have:=h.2.2 j hj;rw [List.getElem?_eq_getElem hj,Option.getD_some] at this;unfold maxLen;omega
theorem fewD_ok{l:List Dc}(h:fewD l=true):(∀ d∈l,OkD d)∧l.length≤20:=by
 simp only [fewD,Bool.and_eq_true,List.all_eq_true,decide_eq_true_eq] at h;refine⟨fun d hd=>?_,h.2⟩;have h1:=h.1 d hd;simp only [dcFew,Bool.and_eq_true,Bool.not_eq_true',decide_eq_false_iff_not] at h1;unfold OkD maxLen;omega
theorem TinyN.len{n:Nd}(h:TinyN n):n.all.length≤60:=by
 have h1:=(fewD_ok h.1).2;have h2:=(fewD_ok h.2.1).2;have h3:=(fewD_ok h.2.2.1).2;rw [all_len];omega
theorem TinyN.ok{n:Nd}(h:TinyN n):OkN n:=by
 refine⟨by have:=h.2.2.2.2.1;unfold maxLen;omega,fun d hd=>?_,fun q hq=>?_⟩
 · simp only [Nd.all,List.mem_append] at hd;rcases hd with(hd | hd) | hd
   · exact(fewD_ok h.1).1 d hd
   · exact(fewD_ok h.2.1).1 d hd
   · exact(fewD_ok h.2.2.1).1 d hd
 · obtain⟨j,hj,rfl⟩:=List.getElem_of_mem hq;have:=h.2.2.2.2.2 j hj;rw [List.getElem?_eq_getElem hj,Option.getD_some] at this;exact this.ok
def rightN(es:Nat) (l:List Nd):Bool:=l.all (nodeB es rightB rightX)
def onceN(l:List Nd):Bool:=l.all fun n=>onceS (namesD n.all)
def checkN(p:Pg):Int:=
 if enumsN p.es=0 then(if p.ns.length=0 then 5 else if 6<p.ns.length then 4 else if p.ns.any manyN then 4 else if rightN p.es.length p.ns then(if onceN p.ns && onceS (p.ns.map Nd.nm) then 0 else 6) else 1) else enumsN p.es
theorem nms_succ{l:List Nd}{k:Nat}(hk:k<l.length):(l.map Nd.nm).take (k+1)=(l.map Nd.nm).take k++[(l[k]?.getD default).nm]:=by
 rw [List.take_add_one,List.getElem?_map,List.getElem?_eq_getElem hk]
 simp
end
section
def firstF{α:Type} [DecidableEq α] (z:α) (f:Nat→α):Nat→α
 | 0=>z
 | n+1=>if firstF z f n=z then f n else firstF z f n
theorem firstF_no{α:Type} [DecidableEq α] {z:α}{f:Nat→α}:∀ {n:Nat},(∀ j,j<n→f j=z)→firstF z f n=z
 | 0,_=>rfl
 | n+1,h=>by rw [firstF,if_pos (firstF_no fun j hj=>h j (by omega)),h n (by omega)]
theorem firstF_hit{α:Type} [DecidableEq α] {z:α}{f:Nat→α}{k:Nat}:∀ {n:Nat},k<n→(∀ j,j<k→f j=z)→f k≠z→firstF z f n=f k
 | 0,h,_,_=>absurd h (by omega)
 | n+1,hk,hn,hf=>by
  rw [firstF]
  by_cases h:k<n
  · have h1:=firstF_hit h hn hf;rw [h1,if_neg hf]
  · obtain rfl:k=n:=by omega
    rw [if_pos (firstF_no hn)]
theorem firstF_zero{α:Type} [DecidableEq α] {z:α}{f:Nat→α}:∀ {n:Nat},firstF z f n=z→∀ j,j<n→f j=z
 | 0,_,j,hj=>absurd hj (by omega)
 | n+1,h,j,hj=>by
  rw [firstF] at h
  by_cases h1:firstF z f n=z
  · rw [if_pos h1] at h
    by_cases h2:j<n
    · exact firstF_zero h1 j h2
    · obtain rfl:j=n:=by omega
      exact h
  · rw [if_neg h1] at h;exact absurd h h1
def armR(es:List En) (s:ByteArray):Option (Int × Int × Int):=
 if(s.toList==[116,114,117,101])=true then some (2,0,1)
 else if(s.toList==[102,97,108,115,101])=true then some (2,0,0)
 else(findE es s).map fun p=>(3,(p.1:Int),(p.2.1:Int))
def nmB(s:ByteArray) (t:ByteArray):Bool:=t.data.toList==s.data.toList
def isV(n:Nd) (s:ByteArray):Bool:=(declO n s).isSome
def armV(es:List En) (s:ByteArray):Bool:=(armR es s).isSome
def ndAt(p:Pg) (i:Nat):Nd:=p.ns[i]?.getD default
def partS(p:Pg) (i:Nat) (e:Ex):Bool:=
 if((e.k==3 || e.k==11 || e.k==12) && !isV (ndAt p i) e.s)=true then false
 else if e.arms.all (armV p.es)=false then false
 else if(e.k==4)=true then armV p.es e.s
 else if(e.k==13)=true then decide (0≤findN p e.s) && decide (findN p e.s<(i:Int))
 else !(e.k==17)
def cntS(s:ByteArray) (l:List ByteArray):Nat:=(l.filter (nmB s)).length
def defN(n:Nd) (s:ByteArray) (i:Nat):Nat:=cntS s ((n.eqs.take i).flatMap Qn.ns)
def inputS(n:Nd) (s:ByteArray):Bool:=n.ins.any fun d=>nmB s d.nm
def nameS(n:Nd) (i:Nat) (ns:List ByteArray) (k:Nat):Int:=
 if isV n (ns[k]?.getD ByteArray.empty)=false then 5
 else if(inputS n (ns[k]?.getD ByteArray.empty) || decide (0<defN n (ns[k]?.getD ByteArray.empty) i))=true then 6
 else if(ns.take k).any (nmB (ns[k]?.getD ByteArray.empty))=true then 6 else 0
def eqS(p:Pg) (i j:Nat):Int:=
 if firstF (0:Int) (nameS (ndAt p i) j ((ndAt p i).eqs[j]?.getD default).ns) ((ndAt p i).eqs[j]?.getD default).ns.length=0
 then(if(partsX ((ndAt p i).eqs[j]?.getD default).x).all (partS p i)=true then 0 else 5)
 else firstF (0:Int) (nameS (ndAt p i) j ((ndAt p i).eqs[j]?.getD default).ns) ((ndAt p i).eqs[j]?.getD default).ns.length
def onS(p:Pg) (n:Nd) (d:Dc):Bool:=(d.on.toList==[]) || (isV n d.on && armV p.es d.ct)
abbrev Fl:=Int × Int × Int
def eqF(p:Pg) (i j:Nat):Fl:=if eqS p i j=0 then(0,0,0) else((i:Int),(j:Int),eqS p i j)
def nodeS(p:Pg) (i:Nat):Fl:=
 if(ndAt p i).all.all (onS p (ndAt p i))=false then((i:Int),-1,5)
 else if firstF ((0,0,0):Fl) (eqF p i) (ndAt p i).eqs.length=(0,0,0)
 then(if((ndAt p i).all.drop (ndAt p i).ins.length).all (fun d=>decide (0<defN (ndAt p i) d.nm (ndAt p i).eqs.length))=true then(0,0,0) else((i:Int),-1,5))
 else firstF ((0,0,0):Fl) (eqF p i) (ndAt p i).eqs.length
def checkS(p:Pg):Fl:=if checkN p=0 then firstF ((0,0,0):Fl) (nodeS p) p.ns.length else(0,-1,checkN p)
end
section
structure Cd where
 nm:ByteArray
 v:Int
instance :Inhabited Cd:=⟨⟨⟨#[]⟩,0⟩⟩
def eqC(a b:Cd):Bool:=(a.nm.toList==b.nm.toList) && (a.v==b.v)
theorem bytes_eq{a b:ByteArray}(h:(a.toList==b.toList)=true):a=b:=by
 rw [Lib.toList_data,Lib.toList_data,beq_iff_eq] at h;obtain⟨a⟩:=a;obtain⟨b⟩:=b;exact congrArg ByteArray.mk (Array.toList_inj.1 h)
theorem eqC_eq{a b:Cd}:eqC a b=true↔a=b:=by
 constructor
 · intro h;simp only [eqC,Bool.and_eq_true] at h;obtain⟨a1,a2⟩:=a;obtain⟨b1,b2⟩:=b;have h1:=bytes_eq h.1;have h2:=beq_iff_eq.1 h.2;simp only at h1 h2;rw [h1,h2]
 · rintro rfl
   simp [eqC]
abbrev sameC (a b:List Cd):Bool:=sameL eqC a b
theorem sameC_eq:∀ {a b:List Cd},sameC a b=true↔a=b
 | [],[]=>by simp [sameC,sameL]
 | [],b::m=>by simp [sameC,sameL]
 | a::l,[]=>by simp [sameC,sameL]
 | a::l,b::m=>by
  have ih:=sameC_eq (a:=l) (b:=m);simp only [sameC] at ih;simp only [sameC,sameL,Bool.and_eq_true,eqC_eq,ih,List.cons.injEq]
theorem sameC_refl(a:List Cd):sameC a a=true:=sameC_eq.2 rfl
theorem sameC_no{a b:List Cd}(h:a≠b):sameC a b=false:=by
 cases hc:sameC a b with
 | false=>rfl
 | true=>exact absurd (sameC_eq.1 hc) h
def condR(es:List En) (d:Dc):Option Cd:=(armR es d.ct).map fun r=>⟨d.on,r.2.2⟩
def condsR(es:List En):List Dc→Option (List Cd)
 | []=>some []
 | d::l=>match condR es d with
  | none=>none
  | some c=>(condsR es l).map (c::·)
def rowC(es:List En) (n:Nd) (s:ByteArray):Option (List Cd):=(clockO n s).bind (condsR es)
def hasC(es:List En) (n:Nd) (s:ByteArray) (on:List Cd):Bool:=match rowC es n s with
 | none=>false
 | some r=>sameC r on
theorem hasC_eq{es:List En}{n:Nd}{s:ByteArray}{on:List Cd}:hasC es n s on=true↔rowC es n s=some on:=by
 unfold hasC
 cases rowC es n s with
 | none=>simp
 | some r=>simp only [Option.some.injEq];exact sameC_eq
theorem condsR_len{es:List En}:∀ {l:List Dc}{cs:List Cd},condsR es l=some cs→cs.length=l.length
 | [],cs,h=>by injection h with h;subst h;rfl
 | d::l,cs,h=>by
  simp only [condsR] at h
  cases hc:condR es d with
  | none=>rw [hc] at h;cases h
  | some c=>
   rw [hc] at h;obtain⟨t,h1,rfl⟩:=Option.map_eq_some_iff.1 h
   simp [condsR_len h1]
theorem condsR_app{es:List En}:∀ {a b:List Dc}{ca:List Cd},condsR es a=some ca→condsR es (a++b)=(condsR es b).map (ca++·)
 | [],b,ca,h=>by injection h with h;subst h;simp
 | d::a,b,ca,h=>by
  simp only [condsR] at h
  cases hc:condR es d with
  | none=>rw [hc] at h;cases h
  | some c=>
   rw [hc] at h;obtain⟨t,h1,rfl⟩:=Option.map_eq_some_iff.1 h;simp only [List.cons_append,condsR,hc,condsR_app h1,Option.map_map];rfl
theorem condsR_take{es:List En}{l:List Dc}{cs:List Cd}{k:Nat}{c:Cd}(hk:k<l.length) (h:condsR es (l.take k)=some cs) (hc:condR es (l[k]?.getD default)=some c):condsR es (l.take (k+1))=some (cs++[c]):=by
 rw [List.getElem?_eq_getElem hk,Option.getD_some] at hc;rw [List.take_succ_eq_append_getElem hk,condsR_app h]
 simp [condsR,hc]
theorem condsR_mem{es:List En}:∀ {l:List Dc}{d:Dc},d∈l→condR es d=none→condsR es l=none
 | a::l,d,hd,h=>by
  simp only [condsR]
  cases hc:condR es a with
  | none=>rfl
  | some c=>
   rcases List.mem_cons.1 hd with rfl | hd
   · rw [h] at hc;cases hc
   · simp only [condsR_mem hd h,Option.map_none]
theorem condsR_no{es:List En}{l:List Dc}{k:Nat}(hk:k<l.length) (hc:condR es (l[k]?.getD default)=none):condsR es l=none:=by
 rw [List.getElem?_eq_getElem hk,Option.getD_some] at hc;exact condsR_mem (List.getElem_mem hk) hc
theorem clockR_len{n:Nd}:∀ (k:Nat) (s:ByteArray) (acc l:List Dc),clockR n k s acc=some l→l.length≤acc.length+k
 | 0,s,acc,l,h=>by cases h
 | k+1,s,acc,l,h=>by
  rw [clockR] at h
  cases hd:declO n s with
  | none=>rw [hd] at h;cases h
  | some d=>
   rw [hd] at h;simp only at h
   split at h
   · injection h with h;subst h;omega
   · have:=clockR_len k _ _ _ h;rw [List.length_cons] at this;omega
theorem clock_len{n:Nd}{s:ByteArray}{l:List Dc}(h:clockO n s=some l):l.length≤1000:=by
 have:=clockR_len 13 s [] l h
 simp at this
 omega
abbrev Ft:=List Cd→Bool
def fitAt(fs:List Ft) (i:Nat):Ft:=fs[i]?.getD fun _=>false
def whenC(es:List En) (n:Nd) (x:Ex) (fs:List Ft) (on:List Cd):Bool:=match rowC es n x.s with
 | none=>false
 | some row=>match armR es (x.arms[0]?.getD ByteArray.empty) with
  | none=>false
  | some r=>decide (x.arms.length=1) && decide (x.subs.length=1) && (sameC on (row++[⟨x.s,r.2.2⟩]) && fitAt fs 0 row)
def armC(es:List En) (x:Ex) (fs:List Ft) (on:List Cd) (k:Nat):Bool:=match armR es (x.arms[k]?.getD ByteArray.empty) with
 | none=>false
 | some r=>fitAt fs k (on++[⟨x.s,r.2.2⟩])
def mergeC(es:List En) (n:Nd) (x:Ex) (fs:List Ft) (on:List Cd):Bool:=
 hasC es n x.s on && decide (x.arms.length=x.subs.length) && (List.range x.subs.length).all (armC es x fs on)
def fitK(es:List En) (n:Nd) (x:Ex) (fs:List Ft) (on:List Cd):Bool:=
 if(x.k==1 || x.k==2 || x.k==4)=true then true
 else if(x.k==3)=true then hasC es n x.s on
 else if(x.k==8)=true then decide (x.subs.length=2) && fitAt fs 1 on
 else if(x.k==11)=true then whenC es n x fs on
 else if(x.k==12)=true then mergeC es n x fs on
 else if(x.k==17)=true then false
 else(List.range x.subs.length).all fun k=>fitAt fs k on
mutual
def fitX(es:List En) (n:Nd):Ex→Ft
 | .mk k m s op arms subs=>fitK es n (.mk k m s op arms subs) (fitL es n subs)
def fitL(es:List En) (n:Nd):List Ex→List Ft
 | []=>[]
 | x::l=>fitX es n x::fitL es n l
end
theorem fitL_eq(es:List En) (n:Nd):∀ l,fitL es n l=l.map (fitX es n)
 | []=>by simp only [fitL,List.map_nil]
 | x::l=>by simp only [fitL,List.map_cons,fitL_eq es n l]
theorem fitX_eq(es:List En) (n:Nd) (x:Ex):fitX es n x=fitK es n x (x.subs.map (fitX es n)):=by
 cases x
 simp only [fitX,fitL_eq,Ex.subs]
theorem fitAt_eq{es:List En}{n:Nd}{x:Ex}{i:Nat}(h:i<x.subs.length):fitAt (x.subs.map (fitX es n)) i=fitX es n (subX x i):=by
 unfold fitAt subX;rw [List.getElem?_map,List.getElem?_eq_getElem h];rfl
def rowOf(p:Pg) (i:Int) (s:ByteArray):Option (List Cd):=if i<0∨(p.ns.length:Int)≤i then none else rowC p.es (ndAt p i.toNat) s
def rowD(p:Pg) (i:Nat) (s:ByteArray):List Cd:=(rowC p.es (ndAt p i) s).getD []
def eqC17(p:Pg) (i:Nat) (q:Qn):Bool:=
 q.ns.all (fun s=>sameC (rowD p i s) (rowD p i (q.ns[0]?.getD ByteArray.empty))) && fitX p.es (ndAt p i) q.x (rowD p i (q.ns[0]?.getD ByteArray.empty))
def eqCF(p:Pg) (i j:Nat):Fl:=if eqC17 p i ((ndAt p i).eqs[j]?.getD default)=true then(0,0,0) else((i:Int),(j:Int),8)
def timedC(p:Pg) (i:Nat) (d:Dc):Bool:=(rowC p.es (ndAt p i) d.nm).isSome
def nodeCF(p:Pg) (i:Nat):Fl:=
 if(ndAt p i).all.all (timedC p i)=false then((i:Int),-1,8) else firstF ((0,0,0):Fl) (eqCF p i) (ndAt p i).eqs.length
theorem rangeC_all{n:Nat}{f:Nat→Bool}:(List.range n).all f=true↔∀ i,i<n→f i=true:=by simp [List.all_eq_true]
theorem rangeC_no{n k:Nat}{f:Nat→Bool}(hk:k<n) (h:f k=false):(List.range n).all f=false:=by
 cases hc:(List.range n).all f with
 | false=>rfl
 | true=>rw [rangeC_all.1 hc k hk] at h;cases h
end
section
open Go.RowKit Go.Sort
section
variable {P:Program}{w:World}
theorem wpList_append_dc{ops:Array Oper}{rest:List Oper}{o:Oper}{a:Act}{Q:Exit→Act→World→Prop}(hgd:o.guard=none) (s x:Operand) (t:TypeId)
 (ho:o.op=.call { callee:=.builtin .append,args:=#[s,x],argTypes:=#[t,t] })
 (base:Nat) (e:TypeId) (i:TypeInfo) (z:Value) (bytes:Nat) (ht:P.underlying t=some (.slice e)) (hi:P.info? e=some i) (hz:i.zero=some z)
 (hsize:i.size=6) (hby:i.bytes=bytes) (hzs:z.cells.size=6)
 (v:Value) (n:Nat) (xs:List Dc) (hs:a.eval s=v) (hown:w.ownsRow base e 6 v n (flD xs))
 (A:Option Addr) (m c:Nat) (l:List Dc) (hx:a.eval x=.slice A m c) (hr:RdD w A m l)
 (h63:n+m≤maxLen) (hbytes:(n+m)*bytes≤140737488355328) (hbase:base≤w.heap.size)
 (h:∀ v' w',w'.ownsRow base e 6 v' (n+m) (flD (xs++l))→w.grownBy w' v.ownBlock→wpList P ops Q rest (a.put o.dst v') w'):wpList P ops Q (o::rest) a w:=by
 obtain⟨hA,hnews⟩:=hr.news;have hlen:=RdS.len hr;rcases A with _ | ad
 · obtain rfl:m=0:=hA rfl;obtain rfl:l=[]:=List.eq_nil_of_length_eq_zero hlen;refine wpList_plain hgd fun K hK=>?_;have hrun:=run_append_nil (P:=P) (w:=w) base t o.type e i 6 ht hi v n _ hown c;unfold Oper.wp
   simp [execOp,ho,resolve,invoke,builtin,hs,hx,hrun,Result.andThen]
   exact hK _ _ (h v w (by simpa using hown) (World.grownBy.refl w _))
 · exact wpList_append_own_at w hgd s x t ho base e i z 6 bytes ht hi hz hsize hby hzs (by decide) v n _ hs hown ad m c (flD l) hx (by rw [flD_len,hlen]) (fun j u hu=>hnews ad rfl j u hu) (flD_ones l) h63 hbytes hbase fun v' w' h1 h2 _ _=>h v' w' (by rw [flD_app];exact h1) h2
end
theorem RowD.cells{w:World}{g:Nat}{d:Dc}(h:RowD w g d) (j:Nat):w.cell? ⟨g,j,none⟩=(dcA d)[j]?:=by
 unfold World.cell?;rw [show w.heap[(⟨g,j,none⟩:Addr).block]?=_ from h];rfl
def ClockPost(w:World) (o:Option (List Dc)) (e:Ending) (w':World):Prop:=
 Below w.heap.size w w'∧match o with
  | none=>e=.returned (.tuple #[.slice none 0 0,.bool false])
  | some l=>∃ A c,e=.returned (.tuple #[.slice A l.length c,.bool true])∧RdD w' A l.length l
def ClockAt(x:Nd) (out:Option (List Dc)) (w:World) (k:Nat) (t:ByteArray) (v:Value):Prop:=
 ∃ acc A c,v=.slice A acc.length c∧RdD w A acc.length acc∧acc.length=k∧clockR x (13-k) t acc=out
theorem ClockAt.below{x:Nd}{out:Option (List Dc)}{w w':World}{k:Nat}{t:ByteArray}{v:Value}(h:ClockAt x out w k t v) (hb:Below w.heap.size w w'):ClockAt x out w' k t v:=by
 obtain⟨acc,A,c,e,h1,h2⟩:=h;exact⟨acc,A,c,e,h1.below hb,h2⟩
theorem clockR_succ(x:Nd) (k:Nat) (s:ByteArray) (acc:List Dc):clockR x (k+1) s acc=match declO x s with | none=>none | some d=>if noB d.on then some acc else clockR x k d.on (d::acc):=rfl
end
section
open Go.Shelf Go.RowKit Go.Lib Go.Sort
def revD_ren:Go.Shelf.Ren:=⟨fun | 35=>62 | n=>n,fun | 22=>32 | 23=>43 | 3=>3 | 4=>4 | 0=>0 | n=>n,fun | n=>n⟩
theorem revD:Go.Proofs.SlLaysE0.n35 Tryz.prog revD_ren:={
 mixed:=by kernel_rfl
 f35:=⟨Tryz.f62.name,by decide,Tryz.func62.trans (congrArg some (by kernel_rfl))⟩
 t0:=Tryz.underlying0
 a0:=Tryz.isAgg0
 z0:=Tryz.sizeOf0
 v0:=Tryz.zeroValue0
 t3:=Tryz.underlying3
 a3:=Tryz.isAgg3
 z3:=Tryz.sizeOf3
 v3:=Tryz.zeroValue3
 t4:=Tryz.underlying4
 a4:=Tryz.isAgg4
 z4:=Tryz.sizeOf4
 v4:=Tryz.zeroValue4
 t22:=Tryz.underlying32
 a22:=Tryz.isAgg32
 z22:=Tryz.sizeOf32
 v22:=Tryz.zeroValue32 }
def growD_ren:Go.Shelf.Ren:=⟨fun | 4=>108 | n=>n,fun | 22=>32 | 25=>43 | 3=>3 | 4=>4 | 9=>9 | 20=>20 | 0=>0 | n=>n,fun | n=>n⟩
theorem growD:Go.Proofs.Lays8.n4 Tryz.prog growD_ren:={
 mixed:=by kernel_rfl
 f4:=⟨Tryz.f108.name,by decide,Tryz.func108.trans (congrArg some (by kernel_rfl))⟩
 t0:=Tryz.underlying0
 a0:=Tryz.isAgg0
 z0:=Tryz.sizeOf0
 v0:=Tryz.zeroValue0
 t3:=Tryz.underlying3
 a3:=Tryz.isAgg3
 z3:=Tryz.sizeOf3
 v3:=Tryz.zeroValue3
 t4:=Tryz.underlying4
 a4:=Tryz.isAgg4
 z4:=Tryz.sizeOf4
 v4:=Tryz.zeroValue4
 t9:=Tryz.underlying9
 a9:=Tryz.isAgg9
 z9:=Tryz.sizeOf9
 v9:=Tryz.zeroValue9
 t20:=Tryz.underlying20
 a20:=Tryz.isAgg20
 z20:=Tryz.sizeOf20
 v20:=Tryz.zeroValue20
 t22:=Tryz.underlying32
 a22:=Tryz.isAgg32
 z22:=Tryz.sizeOf32
 v22:=Tryz.zeroValue32 }
theorem dcL_len(d:Dc):(dcL d).length=6:=rfl
theorem dcL_ones(d:Dc):∀ v∈dcL d,v.oneCell'=true:=by
 intro v hv;simp only [dcL,List.mem_cons,List.not_mem_nil,or_false] at hv;rcases hv with rfl | rfl | rfl | rfl | rfl | rfl <;> rfl
theorem holds_own{w:World}{g cap n:Nat}{cur:Array Value}{l:List Dc}(hh:w.heap[g]?=some (.cells cur 43 (0,0))) (hln:l.length=n) (hnc:n≤cap) (hcs:cur.size=cap*6) (ht:cur.toList.take (n*6)=flD l):
 HoldsK dcL 6 w g 0 l.toArray:=by
 intro j hj;rw [size_flatK] at hj;have hj':j<n*6:=by rw [← hln];simpa using hj
 refine⟨?_,?_⟩
 · rw [get_flatK _ _ _ _ hj];unfold World.cell?;simp only [Nat.zero_add];rw [hh];have h1:cur.toList[j]?=(flD l)[j]?:=by rw [← ht,List.getElem?_take_of_lt hj']
   have h2:=flD_at l (j / 6) (j % 6) (by omega) (Nat.mod_lt _ (by omega));rw [show j / 6*6+j % 6=j by omega] at h2;have h3:j / 6<l.length:=by omega
   show cur[j]?=_
   rw [← Array.getElem?_toList,h1,h2,List.getElem?_eq_getElem h3];rw [getElem!_pos l.toArray (j / 6) (by simpa using h3)];simp only [Option.getD_some,List.getElem_toArray];rw [List.getElem?_eq_getElem (by rw [dcL_len];omega)]
   show some _=some (id _)
   rw [getElem!_pos (dcL l[j / 6]) (j % 6) (by rw [dcL_len];omega)];rfl
 · unfold World.frozen?;simp only [Nat.zero_add];rw [hh]
   simp
theorem slRevD(base n:Nat) (v:Value) (l:List Dc) (w:World) (h:w.ownsRow base 43 6 v n (flD l)) (hn:n≤9223372036854775807):
 Calls Tryz.prog 62 #[v] w fun e w'=>e=.returned (.tuple #[])∧Below base w w'∧∃ A c,v=.slice A n c∧RdD w' A n l.reverse:=by
 have hln:l.length=n:=by
  have:=h.1;rw [flD_len] at this;omega
 rcases h.2 with⟨rfl,rfl⟩|⟨g,cap,cur,rfl,hg,hh,hnc,hcm,hcs,ht⟩
 · refine(AnyQ.slices_Reverse_empty revD none 0 w).mono ?_;rintro e w' ⟨rfl,rfl⟩;obtain rfl:l=[]:=List.eq_nil_of_length_eq_zero hln;exact⟨rfl,Below.refl _ _,none,0,rfl,RdS.nil_ _ _ _⟩
 · have hH:=holds_own hh hln hnc hcs ht;have hsz:l.toArray.size=n:=by simpa using hln
   have hC:=AnyQ.slices_Reverse revD 6 Tryz.isAgg43 Tryz.sizeOf43 dcL dcL_len dcL_ones g 0 cap l.toArray w hH (by rw [hsz];exact hn);rw [hsz] at hC;refine hC.mono ?_;rintro e w' ⟨rfl,m,rfl⟩;have hH2:=holdsK_putRowK dcL 6 (Sort.ahead w m) g 0 l.toArray l.toArray.reverse (holdsK_ahead dcL 6 w m g 0 l.toArray hH) (by simp);have hgs:g<w.heap.size:=(Array.getElem?_eq_some_iff.1 hh).1;refine⟨rfl,⟨rfl,rfl,rfl,by simp [putRowK],fun k hk=>?_⟩,some ⟨g,0,none⟩,cap,rfl,by simpa using hln,hn,fun hp=>⟨g,0,rfl,by simpa [putRowK] using hgs,fun i hi=>?_⟩⟩
   · show(putRow id (Sort.ahead w m) g 0 _).heap[k]?=_
     unfold putRow mapBlock
     show(w.heap.modify g _)[k]?=_
     rw [Array.getElem?_modify,if_neg (by omega)]
   · intro j u hu
     have hr:l.reverse[i]?.getD default=l.toArray.reverse[i]!:=by
      rw [getElem!_pos l.toArray.reverse i (by simp;omega),List.getElem?_eq_getElem (by simp;omega)]
      simp
     rw [hr] at hu;have:=HoldsK.cells hH2 dcL_len (i:=i) (by simp;omega) j u hu
     simpa [Addr.add_lit] using this
theorem slGrowD(n:Nat) (w:World) (hn:n≤1000000):
 Calls Tryz.prog 108 #[.slice none 0 0,.int .i64 n] w fun e w'=>∃ v,e=.returned v∧w'.ownsRow w.heap.size 43 6 v 0 (flD [])∧Below w.heap.size w w':=by
 obtain⟨i0,z0,hi,hz1,hz0,hz2,hz3⟩:=info_three infoDecl;rcases Nat.eq_zero_or_pos n with rfl | hp
 · refine(Any8.slices_Grow_room growD none 0 0 0 w (Nat.le_refl _) (by omega) (by omega) (by omega)).mono ?_;rintro e w' ⟨rfl,rfl⟩;exact⟨_,rfl,⟨rfl,.inl ⟨rfl,rfl⟩⟩,Below.refl _ _⟩
 · refine(Any8.slices_Grow_grow growD i0 z0 hi hz1 (by omega) none 0 0 n [] w (Nat.le_refl _) (by omega) (by rw [hz2];omega) (by omega) (by simp) (fun _=>rfl) (fun a h=>by cases h)).mono ?_;rintro e w' ⟨rfl,rfl⟩;refine⟨_,rfl,⟨rfl,.inr ⟨w.heap.size,_,_,rfl,Nat.le_refl _,heap_alloc_new _ _,Nat.zero_le _,?_,?_,?_⟩⟩,?_⟩
   · exact grownCap_le_maxLen _ _ _ _ (by unfold maxLen;omega)
   · have:=grownCap_ge w (0+n) 0 43
     show(_:Array Value).size=grownCap w (0+n) 0 43*6
     simp only [Array.size_append,size_zeroCells,hz3,List.size_toArray,List.length_nil];rw [show growD_ren.t 25=43 from rfl];omega
   · rfl
   · exact(Below.refl _ _).drew.alloc (Nat.le_refl _) _
end
end Go.Proofs.YtkbpdoomhfkngaaGreat
