/- Parts of the proof: PrG, PrH. Conditions: each theorem's own. -/
import Derived.Laws.EntriesVeiled
import Derived.Test.YtokiaaapgkdpmaaGreatDoorV24
namespace Go.Proofs.YtokiaaapgkdpmaaGreatDoor
set_option linter.unusedVariables false
set_option linter.unusedSimpArgs false
set_option maxRecDepth 100000
set_option maxHeartbeats 40000000
section
open Go.RowKit Go.Sort
def lvF:Lv→Nat
 | .arrow=>25
 | .fby=>52
 | .or=>90
 | .and=>118
 | .cmp=>136
 | .sum=>154
 | .prod=>165
 | .un=>168
 | .post=>171
 | .atom=>177
 | .behind=>178
 | .brk=>185
abbrev fnV (K:Nat) (cap:Array Value):Value:=.func (.func K) #[] cap
abbrev lvV (b:Nat) (l:Lv):Value:=.func (.func (lvF l)) #[rp b] #[]
def Fz(L:List Nat) (w:World) (p:Nat) (v:Value):Prop:=(bls L w).cell? ⟨p,0,none⟩=some v
def MadeAt(L:List Nat) (w:World) (b eb f:Nat) (v:Value):Prop:=∃ p0 p1 p2,v=fnV 116 #[rp p0,rp p1,rp p2]∧Fz L w p0 (rp b)∧Fz L w p1 (rp eb)∧Fz L w p2 (.int .i64 (f:Int))
def EAt(L:List Nat) (w:World) (eb:Nat) (x:Ex):Prop:=eb∈L∧x.subs=[]∧∃ Aa ca,RowX w eb x Aa ca none 0∧RdT (bls L w) Aa x.arms.length x.arms
def EveryAt(L:List Nat) (w:World) (b eb f:Nat) (v:Value):Prop:=∃ p0 p1 p2 vm,v=fnV 203 #[rp p0,rp p1,rp p2]∧Fz L w p0 (rp b)∧Fz L w p1 vm∧MadeAt L w b eb f vm∧Fz L w p2 (rp eb)
def ThenAt(L:List Nat) (w:World) (ev:Bool) (b eb f:Nat) (v:Value):Prop:=if ev=true then EveryAt L w b eb f v else MadeAt L w b eb f v
def MAt(L:List Nat) (w:World) (eb:Nat) (x:Ex) (ft:List Nat):Prop:=x.subs=[]∧∃ Aa ca,RowX w eb x Aa ca none 0∧w.ownsRow 0 9 1 (.slice Aa x.arms.length ca) x.arms.length (x.arms.map Value.string)∧ft=eb::(Value.slice Aa x.arms.length ca).ownBlock.toList∧∀ k∈ft,k∈L
def MoreAt(L:List Nat) (w:World) (b eb f:Nat) (v:Value):Prop:=∃ p0 p1 p2 p3 p4 vm,v=fnV 200 #[rp p0,rp p1,rp p2]∧Fz L w p0 (rp b)∧Fz L w p1 (fnV 201 #[rp p0,rp p3,rp p4])∧Fz L w p2 vm∧MadeAt L w b eb f vm∧Fz L w p3 (rp eb)∧Fz L w p4 v
def FrAt(L:List Nat) (w:World) (b:Nat):Fr→Value→List Nat→Prop
 | .m l,v,ft=>ft=[]∧v=lvV b l
 | .sign s,v,ft=>ft=[]∧Ask s∧∃ p0 p1,v=fnV 199 #[rp p0,rp p1]∧Fz L w p0 (rp b)∧Fz L w p1 (.string (ofL s))
 | .made x f,v,ft=>∃ eb,ft=[eb]∧EAt L w eb x∧MadeAt L w b eb f v
 | .right s k o,v,ft=>ft=[]∧Ask s∧∃ p0 p1 p2 p3,v=fnV 88 #[rp p0,rp p1,rp p2,rp p3]∧Fz L w p0 (rp b)∧Fz L w p1 (.string (ofL s))∧Fz L w p2 (lvV b o)∧Fz L w p3 (.int .i64 k)
 | .left ops side,v,ft=>ft=[]∧∃ zs,zsL zs=ops∧OpsOK zs∧∃ p0 p1 p2 p3 g c1,v=fnV 133 #[rp p0,rp p1,rp p2,rp p3]∧Fz L w p0 (rp b)∧Fz L w p1 (.slice (some ⟨g,0,none⟩) zs.length c1)∧(∀ i,i<zs.length→(bls L w).cell? ⟨g,i,none⟩=some (.int .i64 (zs[i]?.getD default).1))∧Fz L w p2 (lvV b side)∧Fz L w p3 v
 | .once ops side,v,ft=>ft=[]∧∃ zs,zsL zs=ops∧OpsOK zs∧∃ p0 p1 p2 g c1,v=fnV 164 #[rp p0,rp p1,rp p2]∧Fz L w p0 (rp b)∧Fz L w p1 (.slice (some ⟨g,0,none⟩) zs.length c1)∧(∀ i,i<zs.length→(bls L w).cell? ⟨g,i,none⟩=some (.int .i64 (zs[i]?.getD default).1))∧Fz L w p2 (lvV b side)
 | .list shut ev x f,v,ft=>∃ eb,ft=[eb]∧EAt L w eb x∧Ask shut∧∃ p0 p1 p2 p3 vt,v=fnV 198 #[rp p0,rp p1,rp p2,rp p3]∧Fz L w p0 (rp b)∧Fz L w p1 v∧Fz L w p2 (.string (ofL shut))∧Fz L w p3 vt∧ThenAt L w ev b eb f vt
 | .more x f,v,ft=>∃ eb,MAt L w eb x ft∧MoreAt L w b eb f v
def FrsAt(L:List Nat) (w:World) (b:Nat):List Fr→List Value→List Nat→Prop
 | [],[],ft=>ft=[]
 | f::fs,v::vs,ft=>∃ f1 f2,ft=f1++f2∧FrAt L w b f v f1∧FrsAt L w b fs vs f2
 | _,_,_=>False
section
variable {S L L1:List Nat}{w w1:World}
theorem Fz.up(h:Tn S L L1 w w1) (hS:∀ k∈S,k∈L){p:Nat}{v:Value}(k:Fz L w p v):Fz L1 w1 p v:=h.up hS _ _ k
theorem Fz.get{p:Nat}{v:Value}(k:Fz L w p v):w.cell? ⟨p,0,none⟩=some v:=(bls_some k).1
theorem Fz.new{p:Nat}{v:Value}(h:w.cell? ⟨p,0,none⟩=some v) (hp:p∉L):Fz L w p v:=(bls_cell (p:=⟨p,0,none⟩) hp).trans h
theorem MadeAt.up(h:Tn S L L1 w w1) (hS:∀ k∈S,k∈L){b eb f:Nat}{v:Value}:MadeAt L w b eb f v→MadeAt L1 w1 b eb f v
 | ⟨p0,p1,p2,e,h0,h1,h2⟩=>⟨p0,p1,p2,e,h0.up h hS,h1.up h hS,h2.up h hS⟩
theorem EveryAt.up(h:Tn S L L1 w w1) (hS:∀ k∈S,k∈L){b eb f:Nat}{v:Value}:EveryAt L w b eb f v→EveryAt L1 w1 b eb f v
 | ⟨p0,p1,p2,vm,e,h0,h1,h2,h3⟩=>⟨p0,p1,p2,vm,e,h0.up h hS,h1.up h hS,h2.up h hS,h3.up h hS⟩
theorem ThenAt.up(h:Tn S L L1 w w1) (hS:∀ k∈S,k∈L){ev:Bool}{b eb f:Nat}{v:Value}(k:ThenAt L w ev b eb f v):ThenAt L1 w1 ev b eb f v:=by
 unfold ThenAt at k ⊢
 split
 · rename_i he
   rw [if_pos he] at k;exact k.up h hS
 · rename_i he
   rw [if_neg he] at k;exact k.up h hS
theorem RowX.stay{eb:Nat}{x:Ex}{Aa:Option Addr}{ca:Nat}{B:Option Addr}{cb:Nat}(k:RowX w eb x Aa ca B cb) (h:Tn S L L1 w w1) (hn:eb∉S):RowX w1 eb x Aa ca B cb:=(h.block eb k.lt hn).trans k
theorem EAt.up(h:Tn S L L1 w w1) (hS:∀ k∈S,k∈L){eb:Nat}{x:Ex}(hn:eb∉S):EAt L w eb x→EAt L1 w1 eb x
 | ⟨h0,hx,Aa,ca,h1,h2⟩=>⟨h.stay eb h0 hn,hx,Aa,ca,h1.stay h hn,h2.up h.ups (h.up hS)⟩
theorem MAt.up(h:Tn S L L1 w w1){eb:Nat}{x:Ex}{ft:List Nat}(hn:∀ k∈ft,k∉S):MAt L w eb x ft→MAt L1 w1 eb x ft
 | ⟨hx,Aa,ca,h1,h2,h3,h4⟩=>⟨hx,Aa,ca,h1.stay h (hn eb (by rw [h3];exact List.mem_cons_self)),own_other h2 fun k hk=>h.block k (h2.lt k hk).2 (hn k (by rw [h3];simp [hk])),h3,fun k hk=>h.stay k (h4 k hk) (hn k hk)⟩
theorem MoreAt.up(h:Tn S L L1 w w1) (hS:∀ k∈S,k∈L){b eb f:Nat}{v:Value}:MoreAt L w b eb f v→MoreAt L1 w1 b eb f v
 | ⟨p0,p1,p2,p3,p4,vm,e,h0,h1,h2,h3,h4,h5⟩=>⟨p0,p1,p2,p3,p4,vm,e,h0.up h hS,h1.up h hS,h2.up h hS,h3.up h hS,h4.up h hS,h5.up h hS⟩
theorem FrAt.up(h:Tn S L L1 w w1) (hS:∀ k∈S,k∈L){b:Nat}{f:Fr}{v:Value}{ft:List Nat}(hn:∀ k∈ft,k∉S) (k:FrAt L w b f v ft):FrAt L1 w1 b f v ft:=by
 cases f with
 | m l=>exact k
 | sign s=>
  obtain⟨e,ha,p0,p1,ev,h0,h1⟩:=k;exact⟨e,ha,p0,p1,ev,h0.up h hS,h1.up h hS⟩
 | made x f=>
  obtain⟨eb,rfl,h0,h1⟩:=k;exact⟨eb,rfl,h0.up h hS (hn eb (by simp)),h1.up h hS⟩
 | right s k1 o=>
  obtain⟨e,ha,p0,p1,p2,p3,ev,h0,h1,h2,h3⟩:=k;exact⟨e,ha,p0,p1,p2,p3,ev,h0.up h hS,h1.up h hS,h2.up h hS,h3.up h hS⟩
 | left ops side=>
  obtain⟨e,zs,hz,ho,p0,p1,p2,p3,g,c1,ev,h0,h1,h4,h2,h3⟩:=k;exact⟨e,zs,hz,ho,p0,p1,p2,p3,g,c1,ev,h0.up h hS,h1.up h hS,fun i hi=>h.up hS _ _ (h4 i hi),h2.up h hS,h3.up h hS⟩
 | once ops side=>
  obtain⟨e,zs,hz,ho,p0,p1,p2,g,c1,ev,h0,h1,h4,h2⟩:=k;exact⟨e,zs,hz,ho,p0,p1,p2,g,c1,ev,h0.up h hS,h1.up h hS,fun i hi=>h.up hS _ _ (h4 i hi),h2.up h hS⟩
 | list shut ev x f=>
  obtain⟨eb,rfl,h0,ha,p0,p1,p2,p3,vt,e,h1,h2,h3,h4,h5⟩:=k;exact⟨eb,rfl,h0.up h hS (hn eb (by simp)),ha,p0,p1,p2,p3,vt,e,h1.up h hS,h2.up h hS,h3.up h hS,h4.up h hS,h5.up h hS⟩
 | more x f=>
  obtain⟨eb,h0,h1⟩:=k;exact⟨eb,h0.up h hn,h1.up h hS⟩
theorem FrsAt.up(h:Tn S L L1 w w1) (hS:∀ k∈S,k∈L){b:Nat}:∀ {fs:List Fr}{vs:List Value}{ft:List Nat},(∀ k∈ft,k∉S)→FrsAt L w b fs vs ft→FrsAt L1 w1 b fs vs ft
 | [],[],ft,hn,k=>k
 | f::fs,v::vs,ft,hn,⟨f1,f2,e,h1,h2⟩=>⟨f1,f2,e,h1.up h hS fun k hk=>hn k (by rw [e];exact List.mem_append_left _ hk),h2.up h hS fun k hk=>hn k (by rw [e];exact List.mem_append_right _ hk)⟩
 | [],v::vs,ft,hn,k=>k.elim
 | f::fs,[],ft,hn,k=>k.elim
theorem FrAt.func{b:Nat}{f:Fr}{v:Value}{ft:List Nat}(k:FrAt L w b f v ft):∃ fn a c,v=.func fn a c:=by
 cases f with
 | m l=>exact⟨_,_,_,k.2⟩
 | sign s=>obtain⟨e,ha,p0,p1,ev,h0,h1⟩:=k;exact⟨_,_,_,ev⟩
 | made x f=>obtain⟨eb,_,h0,p0,p1,p2,ev,_⟩:=k;exact⟨_,_,_,ev⟩
 | right s k1 o=>obtain⟨e,ha,p0,p1,p2,p3,ev,_⟩:=k;exact⟨_,_,_,ev⟩
 | left ops side=>obtain⟨e,zs,hz,ho,p0,p1,p2,p3,g,c1,ev,_⟩:=k;exact⟨_,_,_,ev⟩
 | once ops side=>obtain⟨e,zs,hz,ho,p0,p1,p2,g,c1,ev,_⟩:=k;exact⟨_,_,_,ev⟩
 | list shut ev x f=>obtain⟨eb,_,h0,ha,p0,p1,p2,p3,vt,e,_⟩:=k;exact⟨_,_,_,e⟩
 | more x f=>obtain⟨eb,h0,p0,p1,p2,p3,p4,vm,e,_⟩:=k;exact⟨_,_,_,e⟩
end
def turnS(b:Nat) (va vp:Value) (ft:List Nat):List Nat:=b::(va.ownBlock.toList++(vp.ownBlock.toList++ft))
theorem turnS_push{b:Nat}{va vp:Value}{ft:List Nat}:∀ k∈pushS b va,k∈turnS b va vp ft:=by
 intro k hk;simp only [pushS,turnS,List.mem_cons,List.mem_append] at hk ⊢;rcases hk with rfl | hk
 · exact .inl rfl
 · exact .inr (.inl hk)
theorem turnS_b{b:Nat}{va vp:Value}{ft:List Nat}:∀ k∈[b],k∈turnS b va vp ft:=by
 intro k hk;rw [List.mem_singleton.1 hk];exact List.mem_cons_self
def Turn(w:World) (b:Nat) (A:Option Addr) (n c:Nat) (all:List Tk) (va:Value) (st:List Value) (vp:Value) (L ft:List Nat) (o:Out) (e:Ending) (w':World):Prop:=match o with
 | .ok z r2=>e=.returned (.tuple #[])∧∃ va' vp' L' vt fts,Mem w' b A n c all r2 va' (vt++st) vp' z.2.1 z.2.2 L'∧FrsAt L' w' b z.1 vt fts∧Tn (turnS b va vp ft) L L' w w'∧fts.Nodup ∧
  (∀ k∈fts,k∈ft∨w.heap.size≤k)∧(∀ k∈fts,k≠b∧va'.ownBlock≠some k∧vp'.ownBlock≠some k)∧GoesV w va va'∧GoesV w vp vp'
 | .bad q=>e=Pan∧(∃ L',Tn (turnS b va vp ft) L L' w w')∧∃ va' vp' sz',w'.heap[b]?=some (.cells (rdA (.slice A n c) ((n-q.length:Nat):Int) va' vp' sz') 60)
section
variable {w w1 w2 w':World}{b:Nat}{A:Option Addr}{n c:Nat}{all r r' r2:List Tk}{va va1 vp:Value}{st:List Value}{ps:List Ex}{sz:Nat}{L L1 L2 S ft:List Nat}
theorem push_sub(h:Mem w b A n c all r va st vp ps sz L):∀ k∈pushS b va,k∈L:=fun k hk=>by
 simp only [pushS,List.mem_cons,Option.mem_toList] at hk;rcases hk with rfl | hk
 · exact h.lb
 · exact h.la k hk
theorem b_sub(h:Mem w b A n c all r va st vp ps sz L):∀ k∈[b],k∈L:=fun k hk=>by
 rw [List.mem_singleton.1 hk];exact h.lb
theorem turn_next{new:List Fr}{vt:List Value}{fts:List Nat}(h:Mem w b A n c all r va st vp ps sz L) (hT:Tn (turnS b va vp ft) L L1 w w1) (h1:Mem w1 b A n c all r2 va1 st vp ps sz L1) (hg:GoesV w va va1)
 (hF:FrsAt L1 w1 b new vt fts) (hn:fts.Nodup) (hf:∀ k∈fts,k∈ft∨w.heap.size≤k) (hf2:∀ k∈fts,k≠b∧va1.ownBlock≠some k∧vp.ownBlock≠some k∧k<w1.heap.size)
 {e:Ending}(hx:e=.returned (.tuple #[])∧∃ va' L',Mem w' b A n c all r2 va' (vt++st) vp ps sz L'∧Tn (pushS b va1) L1 L' w1 w'∧GoesV w1 va1 va'):Turn w b A n c all va st vp L ft (.ok (new,ps,sz) r2) e w':=by
 obtain⟨e1,va',L',hM,hT2,hg2⟩:=hx;refine⟨e1,va',vp,L',vt,fts,hM,hF.up hT2 (push_sub h1) fun k hk hs=>?_,hT.trans hT2 h.lv fun k hk=>?_,hn,hf,fun k hk=>⟨(hf2 k hk).1,fun e=>?_,(hf2 k hk).2.2.1⟩,hg.trans hg2 hT.size,GoesV.refl _ _⟩
 · simp only [pushS,List.mem_cons,Option.mem_toList] at hs;rcases hs with hs | hs
   · exact(hf2 k hk).1 hs
   · exact(hf2 k hk).2.1 hs
 · rcases pushS_goes hg k hk with hk | hk
   · exact .inl (turnS_push k hk)
   · exact .inr hk
 · rcases hg2 with hg2 | hg2
   · exact(hf2 k hk).2.1 (hg2 ▸ e)
   · have:=hg2 k e;have:=(hf2 k hk).2.2.2;omega
theorem turn_none(h:Mem w b A n c all r va st vp ps sz L) (hq:QSt w1 b A n c all r2 va vp sz) (hb:Below w.heap.size (bl b w) (bl b w1)):Turn w b A n c all va st vp L ft (.ok ([],ps,sz) r2) (.returned (.tuple #[])) w1:=by
 obtain⟨h1,h2⟩:=h.move hq hb;exact⟨rfl,va,vp,L,[],[],h1,rfl,h2.mono turnS_b,List.nodup_nil,fun k hk=>absurd hk List.not_mem_nil,fun k hk=>absurd hk List.not_mem_nil,GoesV.refl _ _,GoesV.refl _ _⟩
theorem turn_bad(h:Mem w b A n c all r va st vp ps sz L) (hq:QSt w1 b A n c all r2 va vp sz) (hb:Below w.heap.size (bl b w) (bl b w1)):Turn w b A n c all va st vp L ft (.bad r2) Pan w1:=by
 obtain⟨h1,h2⟩:=h.move hq hb;exact⟨rfl,⟨L,h2.mono turnS_b⟩,va,vp,sz,hq.row⟩
theorem two_new(w:World) (x y:Value) (X Y:TypeId):Below w.heap.size w ((w.alloc (.cells #[x] X)).alloc (.cells #[y] Y))∧((w.alloc (.cells #[x] X)).alloc (.cells #[y] Y)).cell? ⟨w.heap.size,0,none⟩=some x ∧
 ((w.alloc (.cells #[x] X)).alloc (.cells #[y] Y)).cell? ⟨w.heap.size+1,0,none⟩=some y:=by
 refine⟨((Below.refl _ _).alloc (Nat.le_refl _) _).alloc (by simp) _,?_,?_⟩
 · rw [World.cell?_alloc_lt _ _ _ (by simp)];exact World.cell?_alloc_new w _ _ 0
 · simp
theorem three_new(w:World) (x y z:Value) (X Y Z:TypeId):Below w.heap.size w (((w.alloc (.cells #[x] X)).alloc (.cells #[y] Y)).alloc (.cells #[z] Z))∧(((w.alloc (.cells #[x] X)).alloc (.cells #[y] Y)).alloc (.cells #[z] Z)).cell? ⟨w.heap.size,0,none⟩=some x ∧
 (((w.alloc (.cells #[x] X)).alloc (.cells #[y] Y)).alloc (.cells #[z] Z)).cell? ⟨w.heap.size+1,0,none⟩=some y∧(((w.alloc (.cells #[x] X)).alloc (.cells #[y] Y)).alloc (.cells #[z] Z)).cell? ⟨w.heap.size+1+1,0,none⟩=some z:=by
 obtain⟨hb,h0,h1⟩:=two_new w x y X Y;refine⟨hb.alloc (by simp;omega) _,?_,?_,?_⟩
 · rw [World.cell?_alloc_lt _ _ _ (by simp;omega)];exact h0
 · rw [World.cell?_alloc_lt _ _ _ (by simp)];exact h1
 · have:=World.cell?_alloc_new ((w.alloc (.cells #[x] X)).alloc (.cells #[y] Y)) #[z] Z 0
   simpa using this
theorem rrMade(j eb:Nat) (h:Mem w b A n c all r va st vp ps sz L) (hj:j≤ps.length) (hp:ps.length≤1000000):
 Calls Tryz.prog 89 #[rp b,rp eb,.int .i64 (j:Int)] w fun e w'=>∃ p0 p1 p2,e=.returned (fnV 116 #[rp p0,rp p1,rp p2])∧Below w.heap.size w w' ∧
  (w.heap.size≤p0∧w.heap.size≤p1∧w.heap.size≤p2)∧w'.cell? ⟨p0,0,none⟩=some (rp b)∧w'.cell? ⟨p1,0,none⟩=some (rp eb)∧w'.cell? ⟨p2,0,none⟩=some (.int .i64 ((ps.length-j:Nat):Int)):=by
 have hmf:∀ (fn:Fn) (first cap:Array Value) (w:World),(Instr.makeFunc fn first cap).run Tryz.prog w=.ok (.func fn first cap) w:=fun _ _ _ _=>rfl;obtain⟨m,hm⟩:∃ m,m=ps.length:=⟨_,rfl⟩
 obtain⟨A3,c3,hv3⟩:∃ A3 c3,vp=.slice A3 m c3:=by
  obtain⟨cs,ho,_⟩:=h.op;rcases ho.2 with⟨h1,h2⟩|⟨g,cap,cur,h1,_⟩
  · exact⟨none,0,by rw [h1,hm,h2]⟩
  · exact⟨_,_,by rw [h1,hm]⟩
 have c3':w.cell? ⟨b,3,none⟩=some vp:=h.cell 3;rw [hv3] at c3';have hbl:=h.lt;have hw:IntKind.i64.wrap ((m:Int)-(j:Int))=((ps.length-j:Nat):Int):=by rw [IntKind.wrap_i64];omega
 have q3:=fun(o1 o2:Obj)=>(World.cell?_alloc_lt (w.alloc o1) o2 ⟨b,3,none⟩ (by simp;omega)).trans ((World.cell?_alloc_lt w o1 ⟨b,3,none⟩ hbl).trans c3');generalize ((ps.length-j:Nat):Int)=z at *;clear h hv3 hm hj
 go_enter Tryz.func89,Tryz.ntmps89
 go_wp2_with fail
 go_ret
 obtain⟨hb,k0,k1,k2⟩:=three_new w (rp b) (rp eb) (.int .i64 z) 57 98 3;exact⟨w.heap.size,w.heap.size+1,w.heap.size+1+1,rfl,hb,⟨Nat.le_refl _,by omega,by omega⟩,k0,k1,k2⟩
theorem rrSign(s:ByteArray) (w:World):
 Calls Tryz.prog 187 #[rp b,.string s] w fun e w'=>∃ p0 p1,e=.returned (fnV 199 #[rp p0,rp p1])∧Below w.heap.size w w' ∧
  (w.heap.size≤p0∧w.heap.size≤p1)∧w'.cell? ⟨p0,0,none⟩=some (rp b)∧w'.cell? ⟨p1,0,none⟩=some (.string s):=by
 have hmf:∀ (fn:Fn) (first cap:Array Value) (w:World),(Instr.makeFunc fn first cap).run Tryz.prog w=.ok (.func fn first cap) w:=fun _ _ _ _=>rfl
 go_enter Tryz.func187,Tryz.ntmps187
 go_wp2_with fail
 go_ret
 obtain⟨hb,k0,k1⟩:=two_new w (rp b) (.string s) 57 9;exact⟨w.heap.size,w.heap.size+1,rfl,hb,⟨Nat.le_refl _,by omega⟩,k0,k1⟩
theorem rrBinary(op:Int) (w:World):
 Calls Tryz.prog 135 #[.int .i64 op] w fun e w'=>e=.returned (rp w.heap.size)∧w'=w.alloc (.cells (exA (mkOp 6 op) none 0 none 0) 26):=by
 go_enter Tryz.func135,Tryz.ntmps135
 go_wp2_with fail
 go_ret
 exact⟨rfl,rfl⟩
end
end
section
open Go.RowKit Go.Sort
def allocs:World→List (Array Value × TypeId)→World
 | w,[]=>w
 | w,x::l=>allocs (w.alloc (.cells x.1 x.2)) l
theorem news_at:∀ (l:List (Array Value × TypeId)) (w:World),Below w.heap.size w (allocs w l)∧(allocs w l).heap.size=w.heap.size+l.length∧∀ i x,l[i]?=some x→(allocs w l).heap[w.heap.size+i]?=some (.cells x.1 x.2)
 | [],w=>⟨Below.refl _ _,rfl,fun i x h=>by simp at h⟩
 | y::l,w=>by
  obtain⟨h1,h2,h3⟩:=news_at l (w.alloc (.cells y.1 y.2));have hs:(w.alloc (.cells y.1 y.2)).heap.size=w.heap.size+1:=by simp
  have hb:Below w.heap.size w (w.alloc (.cells y.1 y.2)):=(Below.refl _ _).alloc (Nat.le_refl _) _;refine⟨hb.trans (h1.mono hb.size),by rw [show(allocs w (y::l)).heap.size=_ from h2,hs,List.length_cons];omega,fun i x hx=>?_⟩
  cases i with
  | zero=>
   have:=h1.block w.heap.size (by omega);rw [Nat.add_zero];refine(show(allocs w (y::l)).heap[w.heap.size]?=_ from this).trans ?_;rw [heap_alloc_new];simp only [List.getElem?_cons_zero,Option.some.injEq] at hx;rw [hx]
  | succ i=>
   have:=h3 i x (by simpa using hx);rw [hs] at this;rw [show w.heap.size+(i+1)=w.heap.size+1+i by omega];exact this
structure News (w:World) (l:List (Array Value × TypeId)) (w':World):Prop where
 below:Below w.heap.size w w'
 size:w'.heap.size=w.heap.size+l.length
 at_:∀ i x,l[i]?=some x→w'.heap[w.heap.size+i]?=some (.cells x.1 x.2)
theorem news{w w':World}{l:List (Array Value × TypeId)}(h:allocs w l=w'):News w l w':=by
 obtain⟨h1,h2,h3⟩:=news_at l w;rw [h] at h1 h2 h3;exact⟨h1,h2,h3⟩
theorem News.cell{w w':World}{l:List (Array Value × TypeId)}(h:News w l w') (i j:Nat) (x:Array Value × TypeId) (v:Value) (hx:l[i]?=some x) (hv:x.1[j]?=some v):w'.cell? ⟨w.heap.size+i,j,none⟩=some v:=by
 unfold World.cell?;rw [h.at_ i x hx]
 simpa using hv
theorem not_in{w:World}{L:List Nat}(hL:∀ k∈L,k<w.heap.size) (i:Nat):w.heap.size+i∉L:=fun h=>by have:=hL _ h;omega
section
variable {w w1 w2 w':World}{b:Nat}{A:Option Addr}{n c:Nat}{all r r' r2:List Tk}{va va1 vp:Value}{st:List Value}{ps:List Ex}{sz:Nat}{L L1 L2 S ft:List Nat}
def Fns(l:List Value):Prop:=∀ v∈l,∃ fn a c,v=.func fn a c
theorem fns_nil:Fns []:=fun v h=>absurd h List.not_mem_nil
theorem fns_cons{fn:Fn}{a c:Array Value}{l:List Value}(h:Fns l):Fns (.func fn a c::l):=fun v hv=>by
 rcases List.mem_cons.1 hv with rfl | hv
 · exact⟨_,_,_,rfl⟩
 · exact h v hv
theorem rrNextN(l:List Value) (lst:List (Array Value × TypeId)) (i:Nat) (T:TypeId) (hl:l.length≤100) (h:Mem w b A n c all r va st vp ps sz L) (hst:st.length≤1000000) (HN:News w lst w1) (hi:lst[i]?=some (l.toArray,T)) (h1:Fns l)
 (h2:Mem w1 b A n c all r va st vp ps sz L2) (hL2:w.heap.size+i∉L2):
 Calls Tryz.prog 50 #[rp b,.slice (some ⟨w.heap.size+i,0,none⟩) l.length l.length] w1 fun e w'=>e=.returned (.tuple #[]) ∧
  ∃ va' L',Mem w' b A n c all r va' (l++st) vp ps sz L'∧Tn (pushS b va) L2 L' w1 w'∧GoesV w1 va va' :=
 rrNext l _ _ hl h2 (by omega) (by rw [HN.size];have:=(List.getElem?_eq_some_iff.1 hi).1;omega) hL2 (fun j hj=>HN.cell i j _ _ hi (by simp [List.getElem?_eq_getElem hj])) h1
theorem turn_into{ft1:List Nat}{o:Out}{e:Ending}(h:Mem w b A n c all r va st vp ps sz L) (hT:Tn (turnS b va vp ft) L L1 w w1) (hft:∀ k∈ft1,k∈ft∨w.heap.size≤k) (k:Turn w1 b A n c all va st vp L1 ft1 o e w'):Turn w b A n c all va st vp L ft o e w':=by
 have hS:∀ k∈turnS b va vp ft1,k∈turnS b va vp ft∨w.heap.size≤k:=fun k hk=>by
  simp only [turnS,List.mem_cons,List.mem_append] at hk ⊢;rcases hk with hk | hk | hk | hk
  · exact .inl (.inl hk)
  · exact .inl (.inr (.inl hk))
  · exact .inl (.inr (.inr (.inl hk)))
  · rcases hft k hk with hk | hk
    · exact .inl (.inr (.inr (.inr hk)))
    · exact .inr hk
 have hgo:∀ v v':Value,GoesV w1 v v'→GoesV w v v':=fun v v' hg=>by
  rcases hg with hg | hg
  · exact .inl hg
  · exact .inr fun k hk=>Nat.le_trans hT.size (hg k hk)
 cases o with
 | ok z r3=>
  obtain⟨e1,va',vp',L',vt,fts,hM,hF,hT2,hn,hf,hf2,g1,g2⟩:=k;refine⟨e1,va',vp',L',vt,fts,hM,hF,hT.trans hT2 h.lv hS,hn,fun k hk=>?_,hf2,hgo _ _ g1,hgo _ _ g2⟩;rcases hf k hk with hk | hk
  · exact hft k hk
  · exact .inr (Nat.le_trans hT.size hk)
 | bad q=>
  obtain⟨e1,⟨L',hT2⟩,hrow⟩:=k;exact⟨e1,⟨L',hT.trans hT2 h.lv hS⟩,hrow⟩
theorem turn_push{new:List Fr}{vt:List Value}(h:Mem w b A n c all r va st vp ps sz L) (hb:Below w.heap.size w w1) (hF:FrsAt L w1 b new vt []){e:Ending}
 (hx:e=.returned (.tuple #[])∧∃ va' L',Mem w' b A n c all r va' (vt++st) vp ps sz L'∧Tn (pushS b va) L L' w1 w'∧GoesV w1 va va'):Turn w b A n c all va st vp L ft (.ok (new,ps,sz) r) e w' :=
 turn_next h (Tn.of_below hb) (h.below hb) (GoesV.refl _ _) hF List.nodup_nil (fun k hk=>absurd hk List.not_mem_nil) (fun k hk=>absurd hk List.not_mem_nil) hx
theorem rrRight(side o:Lv) (s:List UInt8) (k:Int) (hs:Ask s) (h:Mem w b A n c all r va st vp ps sz L) (hst:st.length≤1000000):
 Calls Tryz.prog 51 #[rp b,lvV b side,.string (ofL s),.int .i64 k,lvV b o] w (Turn w b A n c all va st vp L [] (.ok ([.m side,.right s k o],ps,sz) r)):=by
 have hmf:∀ (fn:Fn) (first cap:Array Value) (w:World),(Instr.makeFunc fn first cap).run Tryz.prog w=.ok (.func fn first cap) w:=fun _ _ _ _=>rfl;have HM:=Hd h;have HS:=Hd hs;clear h hs;generalize hss:ofL s=ss at *;have HSS:=Hd hss;clear hss
 go_enter Tryz.func51,Tryz.ntmps51
 go_wp2_with fail
 generalize hW:((((w.alloc _).alloc _).alloc _).alloc _).alloc _=W;have HN:=Hd (news (w:=w) (l:=[(#[rp b],57),(#[.string ss],9),(#[.int .i64 k],3),(#[lvV b o],1),(#[lvV b side,fnV 88 #[rp w.heap.size,rp (w.heap.size+1),rp (w.heap.size+1+1+1),rp (w.heap.size+1+1)]],1)]) hW);clear hW;refine(rrNextN [lvV b side,fnV 88 #[rp w.heap.size,rp (w.heap.size+1),rp (w.heap.size+1+1+1),rp (w.heap.size+1+1)]] _ 4 _ (by simp) HM.out hst HN.out rfl (fns_cons (fns_cons fns_nil)) (HM.out.below HN.out.below) (not_in HM.out.lv 4)).mono ?_;rintro e w' ⟨rfl,hx⟩;have HX:=Hd hx;clear hx
 go_wp2_with fail
 go_end0
 refine turn_push HM.out HN.out.below ?_ ⟨rfl,HX.out⟩;have hni:=fun i=>not_in HM.out.lv i;refine⟨[],[],rfl,⟨rfl,rfl⟩,[],[],rfl,⟨rfl,HS.out,_,_,_,_,rfl,Fz.new (HN.out.cell 0 0 _ _ rfl rfl) (hni 0),?_,Fz.new (HN.out.cell 3 0 _ _ rfl rfl) (hni 3),Fz.new (HN.out.cell 2 0 _ _ rfl rfl) (hni 2)⟩,rfl⟩;rw [HSS.out];exact Fz.new (HN.out.cell 1 0 _ _ rfl rfl) (hni 1)
theorem rrLeft(side:Lv) (zs:List (Int × ByteArray)) (g c1:Nat) (hz:OpsOK zs) (h:Mem w b A n c all r va st vp ps sz L) (hst:st.length≤1000000) (ho:∀ i,i<zs.length→(bls L w).cell? ⟨g,i,none⟩=some (.int .i64 (zs[i]?.getD default).1)):
 Calls Tryz.prog 117 #[rp b,lvV b side,.slice (some ⟨g,0,none⟩) zs.length c1] w (Turn w b A n c all va st vp L [] (.ok ([.m side,.left (zsL zs) side],ps,sz) r)):=by
 have hmf:∀ (fn:Fn) (first cap:Array Value) (w:World),(Instr.makeFunc fn first cap).run Tryz.prog w=.ok (.func fn first cap) w:=fun _ _ _ _=>rfl;have HM:=Hd h;have HO:=Hd ho;have HZ:=Hd hz;clear h ho hz;generalize hm:zs.length=m at *;have HMM:=Hd hm;clear hm
 go_enter Tryz.func117,Tryz.ntmps117
 go_wp2_with fail
 generalize hW:((((w.alloc _).alloc _).alloc _).alloc _).alloc _=W;have HN:=Hd (news (w:=w) (l:=[(#[rp b],57),(#[lvV b side],1),(#[.slice (some ⟨g,0,none⟩) m c1],118),(#[fnV 133 #[rp w.heap.size,rp (w.heap.size+1+1),rp (w.heap.size+1),rp (w.heap.size+1+1+1)]],1),(#[lvV b side,fnV 133 #[rp w.heap.size,rp (w.heap.size+1+1),rp (w.heap.size+1),rp (w.heap.size+1+1+1)]],1)]) hW);clear hW;refine(rrNextN [lvV b side,fnV 133 #[rp w.heap.size,rp (w.heap.size+1+1),rp (w.heap.size+1),rp (w.heap.size+1+1+1)]] _ 4 _ (by simp) HM.out hst HN.out rfl (fns_cons (fns_cons fns_nil)) (HM.out.below HN.out.below) (not_in HM.out.lv 4)).mono ?_;rintro e w' ⟨rfl,hx⟩;have HX:=Hd hx;clear hx
 go_wp2_with fail
 go_end0
 refine turn_push HM.out HN.out.below ?_ ⟨rfl,HX.out⟩;have hni:=fun i=>not_in HM.out.lv i;refine⟨[],[],rfl,⟨rfl,rfl⟩,[],[],rfl,⟨rfl,zs,rfl,HZ.out,_,_,_,_,g,c1,rfl,Fz.new (HN.out.cell 0 0 _ _ rfl rfl) (hni 0),?_,fun i hi=>?_,Fz.new (HN.out.cell 1 0 _ _ rfl rfl) (hni 1),Fz.new (HN.out.cell 3 0 _ _ rfl rfl) (hni 3)⟩,rfl⟩
 · rw [HMM.out];exact Fz.new (HN.out.cell 2 0 _ _ rfl rfl) (hni 2)
 · exact(Tn.of_below (S:=[]) HN.out.below).up (fun k hk=>absurd hk List.not_mem_nil) _ _ (HO.out i (by rw [← HMM.out];exact hi))
theorem rrOnce(side:Lv) (zs:List (Int × ByteArray)) (g c1:Nat) (hz:OpsOK zs) (h:Mem w b A n c all r va st vp ps sz L) (hst:st.length≤1000000) (ho:∀ i,i<zs.length→(bls L w).cell? ⟨g,i,none⟩=some (.int .i64 (zs[i]?.getD default).1)):
 Calls Tryz.prog 153 #[rp b,lvV b side,.slice (some ⟨g,0,none⟩) zs.length c1] w (Turn w b A n c all va st vp L [] (.ok ([.m side,.once (zsL zs) side],ps,sz) r)):=by
 have hmf:∀ (fn:Fn) (first cap:Array Value) (w:World),(Instr.makeFunc fn first cap).run Tryz.prog w=.ok (.func fn first cap) w:=fun _ _ _ _=>rfl;have HM:=Hd h;have HO:=Hd ho;have HZ:=Hd hz;clear h ho hz;generalize hm:zs.length=m at *;have HMM:=Hd hm;clear hm
 go_enter Tryz.func153,Tryz.ntmps153
 go_wp2_with fail
 generalize hW:(((w.alloc _).alloc _).alloc _).alloc _=W;have HN:=Hd (news (w:=w) (l:=[(#[rp b],57),(#[lvV b side],1),(#[.slice (some ⟨g,0,none⟩) m c1],118),(#[lvV b side,fnV 164 #[rp w.heap.size,rp (w.heap.size+1+1),rp (w.heap.size+1)]],1)]) hW);clear hW;refine(rrNextN [lvV b side,fnV 164 #[rp w.heap.size,rp (w.heap.size+1+1),rp (w.heap.size+1)]] _ 3 _ (by simp) HM.out hst HN.out rfl (fns_cons (fns_cons fns_nil)) (HM.out.below HN.out.below) (not_in HM.out.lv 3)).mono ?_;rintro e w' ⟨rfl,hx⟩;have HX:=Hd hx;clear hx
 go_wp2_with fail
 go_end0
 refine turn_push HM.out HN.out.below ?_ ⟨rfl,HX.out⟩;have hni:=fun i=>not_in HM.out.lv i;refine⟨[],[],rfl,⟨rfl,rfl⟩,[],[],rfl,⟨rfl,zs,rfl,HZ.out,_,_,_,g,c1,rfl,Fz.new (HN.out.cell 0 0 _ _ rfl rfl) (hni 0),?_,fun i hi=>?_,Fz.new (HN.out.cell 1 0 _ _ rfl rfl) (hni 1)⟩,rfl⟩
 · rw [HMM.out];exact Fz.new (HN.out.cell 2 0 _ _ rfl rfl) (hni 2)
 · exact(Tn.of_below (S:=[]) HN.out.below).up (fun k hk=>absurd hk List.not_mem_nil) _ _ (HO.out i (by rw [← HMM.out];exact hi))
theorem eat_sep(h:Mem w b A n c all r va st vp ps sz L){eb:Nat}{x:Ex}(k:EAt L w eb x):eb≠b∧va.ownBlock≠some eb∧eb<w.heap.size:=by
 obtain⟨h0,_,Aa,ca,h1,_⟩:=k;refine⟨?_,own_ne h.oa h1 (by decide),h1.lt⟩;rintro rfl;have h2:=h.row;rw [show w.heap[eb]?=_ from h1] at h2;injection h2 with h2;injection h2 with _ h2;exact absurd h2 (by decide)
theorem one_nodup(k:Nat):[k].Nodup:=by simp
theorem rrList(shut:List UInt8) (ev:Bool) (x:Ex) (f eb:Nat) (tf:Fn) (ta tc:Array Value) (hs:Ask shut) (h:Mem w b A n c all r va st vp ps sz L) (hst:st.length≤1000000) (he:EAt L w eb x) (hv:vp.ownBlock≠some eb) (ht:ThenAt L w ev b eb f (.func tf ta tc)):
 Calls Tryz.prog 186 #[rp b,.string (ofL shut),.func tf ta tc] w (Turn w b A n c all va st vp L [eb] (.ok ([.m .arrow,.list shut ev x f],ps,sz) r)):=by
 have hmf:∀ (fn:Fn) (first cap:Array Value) (w:World),(Instr.makeFunc fn first cap).run Tryz.prog w=.ok (.func fn first cap) w:=fun _ _ _ _=>rfl;have HM:=Hd h;have HE:=Hd he;have HT:=Hd ht;have HS:=Hd hs;have HV:=Hd hv;clear h he ht hs hv;generalize hss:ofL shut=ss at *;have HSS:=Hd hss;clear hss
 go_enter Tryz.func186,Tryz.ntmps186
 go_wp2_with fail
 generalize hW:((((w.alloc _).alloc _).alloc _).alloc _).alloc _=W;have HN:=Hd (news (w:=w) (l:=[(#[rp b],57),(#[.string ss],9),(#[.func tf ta tc],1),(#[fnV 198 #[rp w.heap.size,rp (w.heap.size+1+1+1),rp (w.heap.size+1),rp (w.heap.size+1+1)]],1),(#[lvV b .arrow,fnV 198 #[rp w.heap.size,rp (w.heap.size+1+1+1),rp (w.heap.size+1),rp (w.heap.size+1+1)]],1)]) hW);clear hW;refine(rrNextN [lvV b .arrow,fnV 198 #[rp w.heap.size,rp (w.heap.size+1+1+1),rp (w.heap.size+1),rp (w.heap.size+1+1)]] _ 4 _ (by simp) HM.out hst HN.out rfl (fns_cons (fns_cons fns_nil)) (HM.out.below HN.out.below) (not_in HM.out.lv 4)).mono ?_;rintro e w' ⟨rfl,hx⟩;have HX:=Hd hx;clear hx
 go_wp2_with fail
 go_end0
 obtain⟨hs1,hs2,hs3⟩:=eat_sep HM.out HE.out;have hni:=fun i=>not_in HM.out.lv i;have hTn:Tn [] L L w W:=Tn.of_below HN.out.below;have hS0:∀ k∈([]:List Nat),k∈L:=fun k hk=>absurd hk List.not_mem_nil;refine turn_next (fts:=[eb]) HM.out (Tn.of_below HN.out.below) (HM.out.below HN.out.below) (GoesV.refl _ _) ?_ (one_nodup _) (fun k hk=>.inl hk) (fun k hk=>?_) ⟨rfl,HX.out⟩
 · refine⟨[],[eb],rfl,⟨rfl,rfl⟩,[eb],[],rfl,⟨eb,rfl,HE.out.up hTn hS0 List.not_mem_nil,HS.out,_,_,_,_,_,rfl,Fz.new (HN.out.cell 0 0 _ _ rfl rfl) (hni 0),Fz.new (HN.out.cell 3 0 _ _ rfl rfl) (hni 3),?_,Fz.new (HN.out.cell 2 0 _ _ rfl rfl) (hni 2),HT.out.up hTn hS0⟩,rfl⟩;rw [HSS.out];exact Fz.new (HN.out.cell 1 0 _ _ rfl rfl) (hni 1)
 · rw [List.mem_singleton.1 hk];exact⟨hs1,hs2,HV.out,Nat.lt_of_lt_of_le hs3 HN.out.below.size⟩
theorem lv_arrow(h:Mem w b A n c all r va st vp ps sz L) (hst:st.length≤1000000):Calls Tryz.prog 25 #[rp b] w (Turn w b A n c all va st vp L [] (lvO .arrow ps sz r)):=by
 have hmf:∀ (fn:Fn) (first cap:Array Value) (w:World),(Instr.makeFunc fn first cap).run Tryz.prog w=.ok (.func fn first cap) w:=fun _ _ _ _=>rfl;have HR:=Hd (rrRight .fby .arrow arrL 9 (.inr (by decide)) h hst);clear h
 go_enter Tryz.func25,Tryz.ntmps25
 go_wp2_with fail
 refine HR.out.mono ?_;rintro e w' ⟨rfl,hx⟩;have HX:=Hd hx;clear hx
 go_wp2_with fail
 go_end0
 exact⟨rfl,HX.out⟩
theorem lv_fby(h:Mem w b A n c all r va st vp ps sz L) (hst:st.length≤1000000):Calls Tryz.prog 52 #[rp b] w (Turn w b A n c all va st vp L [] (lvO .fby ps sz r)):=by
 have hmf:∀ (fn:Fn) (first cap:Array Value) (w:World),(Instr.makeFunc fn first cap).run Tryz.prog w=.ok (.func fn first cap) w:=fun _ _ _ _=>rfl;have HR:=Hd (rrRight .or .fby fbyL 8 (.inl (by decide)) h hst);clear h
 go_enter Tryz.func52,Tryz.ntmps52
 go_wp2_with fail
 refine HR.out.mono ?_;rintro e w' ⟨rfl,hx⟩;have HX:=Hd hx;clear hx
 go_wp2_with fail
 go_end0
 exact⟨rfl,HX.out⟩
def zUn:List (Int × ByteArray):=[(1,⟨#[45]⟩),(2,⟨#[110,111,116]⟩)]
theorem ok_Un:OpsOK zUn:=by
 refine⟨by decide,fun z hz=>?_⟩;simp only [zUn,List.mem_cons,List.not_mem_nil,or_false] at hz;rcases hz with rfl | rfl
 · exact⟨by decide,.inr (by decide),by decide⟩
 · exact⟨by decide,.inl (by decide),by decide⟩
def zOr:List (Int × ByteArray):=[(9,⟨#[111,114]⟩),(10,⟨#[120,111,114]⟩)]
theorem ok_Or:OpsOK zOr:=by
 refine⟨by decide,fun z hz=>?_⟩;simp only [zOr,List.mem_cons,List.not_mem_nil,or_false] at hz;rcases hz with rfl | rfl
 · exact⟨by decide,.inl (by decide),by decide⟩
 · exact⟨by decide,.inl (by decide),by decide⟩
theorem lv_or(h:Mem w b A n c all r va st vp ps sz L) (hst:st.length≤1000000):Calls Tryz.prog 90 #[rp b] w (Turn w b A n c all va st vp L [] (lvO .or ps sz r)):=by
 have hmf:∀ (fn:Fn) (first cap:Array Value) (w:World),(Instr.makeFunc fn first cap).run Tryz.prog w=.ok (.func fn first cap) w:=fun _ _ _ _=>rfl;have HM:=Hd h;clear h
 go_enter Tryz.func90,Tryz.ntmps90
 go_wp2_with fail
 generalize hW:w.alloc _=W;have HN:=Hd (news (w:=w) (l:=[(#[.int .i64 9,.int .i64 10],3)]) hW);clear hW;refine(rrLeft .and zOr w.heap.size 2 ok_Or (HM.out.below HN.out.below) hst (fun i hi=>?_)).mono ?_
 · refine(bls_cell (not_in HM.out.lv 0)).trans ?_
   match i,hi with
   | 0,_=>exact HN.out.cell 0 0 _ _ rfl rfl
   | 1,_=>exact HN.out.cell 0 1 _ _ rfl rfl
 rintro e w' ⟨rfl,hx⟩;have HX:=Hd hx;clear hx
 go_wp2_with fail
 go_end0
 exact turn_into (o:=.ok _ _) HM.out (Tn.of_below HN.out.below) (fun k hk=>absurd hk List.not_mem_nil) ⟨rfl,HX.out⟩
def zAnd:List (Int × ByteArray):=[(8,⟨#[97,110,100]⟩)]
theorem ok_And:OpsOK zAnd:=by
 refine⟨by decide,fun z hz=>?_⟩;simp only [zAnd,List.mem_cons,List.not_mem_nil,or_false] at hz;subst hz
 · exact⟨by decide,.inl (by decide),by decide⟩
theorem lv_and(h:Mem w b A n c all r va st vp ps sz L) (hst:st.length≤1000000):Calls Tryz.prog 118 #[rp b] w (Turn w b A n c all va st vp L [] (lvO .and ps sz r)):=by
 have hmf:∀ (fn:Fn) (first cap:Array Value) (w:World),(Instr.makeFunc fn first cap).run Tryz.prog w=.ok (.func fn first cap) w:=fun _ _ _ _=>rfl;have HM:=Hd h;clear h
 go_enter Tryz.func118,Tryz.ntmps118
 go_wp2_with fail
 generalize hW:w.alloc _=W;have HN:=Hd (news (w:=w) (l:=[(#[.int .i64 8],3)]) hW);clear hW;refine(rrLeft .cmp zAnd w.heap.size 1 ok_And (HM.out.below HN.out.below) hst (fun i hi=>?_)).mono ?_
 · refine(bls_cell (not_in HM.out.lv 0)).trans ?_
   match i,hi with
   | 0,_=>exact HN.out.cell 0 0 _ _ rfl rfl
 rintro e w' ⟨rfl,hx⟩;have HX:=Hd hx;clear hx
 go_wp2_with fail
 go_end0
 exact turn_into (o:=.ok _ _) HM.out (Tn.of_below HN.out.below) (fun k hk=>absurd hk List.not_mem_nil) ⟨rfl,HX.out⟩
def zSum:List (Int × ByteArray):=[(3,⟨#[43]⟩),(4,⟨#[45]⟩)]
theorem ok_Sum:OpsOK zSum:=by
 refine⟨by decide,fun z hz=>?_⟩;simp only [zSum,List.mem_cons,List.not_mem_nil,or_false] at hz;rcases hz with rfl | rfl
 · exact⟨by decide,.inr (by decide),by decide⟩
 · exact⟨by decide,.inr (by decide),by decide⟩
theorem lv_sum(h:Mem w b A n c all r va st vp ps sz L) (hst:st.length≤1000000):Calls Tryz.prog 154 #[rp b] w (Turn w b A n c all va st vp L [] (lvO .sum ps sz r)):=by
 have hmf:∀ (fn:Fn) (first cap:Array Value) (w:World),(Instr.makeFunc fn first cap).run Tryz.prog w=.ok (.func fn first cap) w:=fun _ _ _ _=>rfl;have HM:=Hd h;clear h
 go_enter Tryz.func154,Tryz.ntmps154
 go_wp2_with fail
 generalize hW:w.alloc _=W;have HN:=Hd (news (w:=w) (l:=[(#[.int .i64 3,.int .i64 4],3)]) hW);clear hW;refine(rrLeft .prod zSum w.heap.size 2 ok_Sum (HM.out.below HN.out.below) hst (fun i hi=>?_)).mono ?_
 · refine(bls_cell (not_in HM.out.lv 0)).trans ?_
   match i,hi with
   | 0,_=>exact HN.out.cell 0 0 _ _ rfl rfl
   | 1,_=>exact HN.out.cell 0 1 _ _ rfl rfl
 rintro e w' ⟨rfl,hx⟩;have HX:=Hd hx;clear hx
 go_wp2_with fail
 go_end0
 exact turn_into (o:=.ok _ _) HM.out (Tn.of_below HN.out.below) (fun k hk=>absurd hk List.not_mem_nil) ⟨rfl,HX.out⟩
def zProd:List (Int × ByteArray):=[(5,⟨#[42]⟩),(6,⟨#[47]⟩),(7,⟨#[109,111,100]⟩)]
theorem ok_Prod:OpsOK zProd:=by
 refine⟨by decide,fun z hz=>?_⟩;simp only [zProd,List.mem_cons,List.not_mem_nil,or_false] at hz;rcases hz with rfl | rfl | rfl
 · exact⟨by decide,.inr (by decide),by decide⟩
 · exact⟨by decide,.inr (by decide),by decide⟩
 · exact⟨by decide,.inl (by decide),by decide⟩
theorem lv_prod(h:Mem w b A n c all r va st vp ps sz L) (hst:st.length≤1000000):Calls Tryz.prog 165 #[rp b] w (Turn w b A n c all va st vp L [] (lvO .prod ps sz r)):=by
 have hmf:∀ (fn:Fn) (first cap:Array Value) (w:World),(Instr.makeFunc fn first cap).run Tryz.prog w=.ok (.func fn first cap) w:=fun _ _ _ _=>rfl;have HM:=Hd h;clear h
 go_enter Tryz.func165,Tryz.ntmps165
 go_wp2_with fail
 generalize hW:w.alloc _=W;have HN:=Hd (news (w:=w) (l:=[(#[.int .i64 5,.int .i64 6,.int .i64 7],3)]) hW);clear hW;refine(rrLeft .un zProd w.heap.size 3 ok_Prod (HM.out.below HN.out.below) hst (fun i hi=>?_)).mono ?_
 · refine(bls_cell (not_in HM.out.lv 0)).trans ?_
   match i,hi with
   | 0,_=>exact HN.out.cell 0 0 _ _ rfl rfl
   | 1,_=>exact HN.out.cell 0 1 _ _ rfl rfl
   | 2,_=>exact HN.out.cell 0 2 _ _ rfl rfl
 rintro e w' ⟨rfl,hx⟩;have HX:=Hd hx;clear hx
 go_wp2_with fail
 go_end0
 exact turn_into (o:=.ok _ _) HM.out (Tn.of_below HN.out.below) (fun k hk=>absurd hk List.not_mem_nil) ⟨rfl,HX.out⟩
def zCmp:List (Int × ByteArray):=[(11,⟨#[61]⟩),(12,⟨#[60,62]⟩),(13,⟨#[60]⟩),(14,⟨#[60,61]⟩),(15,⟨#[62]⟩),(16,⟨#[62,61]⟩)]
theorem ok_Cmp:OpsOK zCmp:=by
 refine⟨by decide,fun z hz=>?_⟩;simp only [zCmp,List.mem_cons,List.not_mem_nil,or_false] at hz;rcases hz with rfl | rfl | rfl | rfl | rfl | rfl
 · exact⟨by decide,.inr (by decide),by decide⟩
 · exact⟨by decide,.inr (by decide),by decide⟩
 · exact⟨by decide,.inr (by decide),by decide⟩
 · exact⟨by decide,.inr (by decide),by decide⟩
 · exact⟨by decide,.inr (by decide),by decide⟩
 · exact⟨by decide,.inr (by decide),by decide⟩
theorem lv_cmp(h:Mem w b A n c all r va st vp ps sz L) (hst:st.length≤1000000):Calls Tryz.prog 136 #[rp b] w (Turn w b A n c all va st vp L [] (lvO .cmp ps sz r)):=by
 have hmf:∀ (fn:Fn) (first cap:Array Value) (w:World),(Instr.makeFunc fn first cap).run Tryz.prog w=.ok (.func fn first cap) w:=fun _ _ _ _=>rfl;have HM:=Hd h;clear h
 go_enter Tryz.func136,Tryz.ntmps136
 go_wp2_with fail
 generalize hW:w.alloc _=W;have HN:=Hd (news (w:=w) (l:=[(#[.int .i64 11,.int .i64 12,.int .i64 13,.int .i64 14,.int .i64 15,.int .i64 16],3)]) hW);clear hW;refine(rrOnce .sum zCmp w.heap.size 6 ok_Cmp (HM.out.below HN.out.below) hst (fun i hi=>?_)).mono ?_
 · refine(bls_cell (not_in HM.out.lv 0)).trans ?_
   match i,hi with
   | 0,_=>exact HN.out.cell 0 0 _ _ rfl rfl
   | 1,_=>exact HN.out.cell 0 1 _ _ rfl rfl
   | 2,_=>exact HN.out.cell 0 2 _ _ rfl rfl
   | 3,_=>exact HN.out.cell 0 3 _ _ rfl rfl
   | 4,_=>exact HN.out.cell 0 4 _ _ rfl rfl
   | 5,_=>exact HN.out.cell 0 5 _ _ rfl rfl
 rintro e w' ⟨rfl,hx⟩;have HX:=Hd hx;clear hx
 go_wp2_with fail
 go_end0
 exact turn_into (o:=.ok _ _) HM.out (Tn.of_below HN.out.below) (fun k hk=>absurd hk List.not_mem_nil) ⟨rfl,HX.out⟩
end
end
end Go.Proofs.YtokiaaapgkdpmaaGreatDoor
