/- Parts of the proof: TpA, TpC, TpD, TpE, TpF, TpB, TpH, TpJ, TpK, TpL, TpN, TpO, TpS, TpT, TpU. Conditions: each theorem's own. -/
import Derived.Test.YtkbpdoomhfkngaaGreatR10
import Derived.Test.YtkbpdoomhfkngaaGreatR12
import Derived.Test.YtkbpdoomhfkngaaGreatR22
namespace Go.Proofs.YtkbpdoomhfkngaaGreat
set_option linter.unusedVariables false
set_option linter.unusedSimpArgs false
set_option maxRecDepth 100000
set_option maxHeartbeats 40000000
section
open Go.RowKit Go.Sort
theorem t3_cases(a b c a' b' c':Int):(a=a'∧b=b'∧c=c'∧(((a,b,c):T3)=(a',b',c')))∨((a==a')=false∧¬ ((a,b,c):T3)=(a',b',c'))∨(a=a'∧(b==b')=false∧¬ ((a,b,c):T3)=(a',b',c'))∨(a=a'∧b=b'∧(c==c')=false∧¬ ((a,b,c):T3)=(a',b',c')):=by
 by_cases h1:a=a'
 · by_cases h2:b=b'
   · by_cases h3:c=c'
     · exact .inl ⟨h1,h2,h3,by rw [h1,h2,h3]⟩
     · exact .inr (.inr (.inr ⟨h1,h2,by simpa using h3,fun e=>h3 (by injection e with _ e;injection e)⟩))
   · exact .inr (.inr (.inl ⟨h1,by simpa using h2,fun e=>h2 (by injection e with _ e;injection e)⟩))
 · exact .inr (.inl ⟨by simpa using h1,fun e=>h1 (by injection e)⟩)
theorem f3_set{T:TypeId}{W:World}{g:Nat}{a b c:Int}(h:F3 T W g a b c) (x y z:Int):
 ((W.setCell ⟨g,0,none⟩ (.int .i64 x)).setCell ⟨g,1,none⟩ (.int .i64 y)).setCell ⟨g,2,none⟩ (.int .i64 z)=W.setRow g (f3A x y z):=by
 unfold F3 at h;rw [setCell_eq_setRow _ _ _ _ _ _ _ h];have h1:=setRow_heap _ _ _ ((f3A a b c).setIfInBounds 0 (.int .i64 x)) _ _ h;rw [setCell_eq_setRow _ _ _ _ _ _ _ h1,setRow_setRow];have h2:=setRow_heap _ _ _ (((f3A a b c).setIfInBounds 0 (.int .i64 x)).setIfInBounds 1 (.int .i64 y)) _ _ h;rw [setCell_eq_setRow _ _ _ _ _ _ _ h2,setRow_setRow];rfl
theorem f3_out{T:TypeId}{w w2 w4:World}{r:Nat}{a b c x y z:Int}(hT:F3 T w2 r a b c) (hb:Below w.heap.size w w2) (hr:w.heap.size≤r)
 (h:(((w2.setCell ⟨r,0,none⟩ (.int .i64 x)).setCell ⟨r,1,none⟩ (.int .i64 y)).setCell ⟨r,2,none⟩ (.int .i64 z)).drew=w4):F3 T w4 r x y z∧Below w.heap.size w w4:=by
 rw [f3_set hT] at h;subst h;exact⟨hT.set x y z,Below.drew (below_setRow hb hr _)⟩
end
section
open Go.RowKit Go.Sort
theorem ty_box{w w0:World}{T:TypeId}{a b c:Int}(h:w.alloc (.cells (f3A a b c) T)=w0):Below w.heap.size w w0∧F3 T w0 w.heap.size a b c∧w0.heap.size=w.heap.size+1:=by
 subst h;exact⟨(Below.refl _ _).alloc (Nat.le_refl _) _,heap_alloc_new _ _,by simp⟩
theorem F3.three{T:TypeId}{W:World}{g:Nat}{a b c:Int}(h:F3 T W g a b c):W.cell? ⟨g,0,none⟩=some (.int .i64 a)∧W.cell? ⟨g,1,none⟩=some (.int .i64 b)∧W.cell? ⟨g,2,none⟩=some (.int .i64 c):=
 ⟨h.cell 0,h.cell 1,h.cell 2⟩
end
section
open Go.RowKit Go.Sort
def tyL3(t:T3):List Value:=[.int .i64 t.1,.int .i64 t.2.1,.int .i64 t.2.2]
def TyAt(w:World) (b o:Nat) (t:T3):Prop:=w.rangeAt b o (tyL3 t)
def RdY(w:World) (A:Option Addr) (n:Nat) (l:List T3):Prop:=RdS 3 TyAt w A n l
theorem keeps_ty:KeepsAt TyAt:=fun h hb hs hk=>rangeAt_keep h hb hk
section
variable {w w':World}{A:Option Addr}{n:Nat}{l:List T3}
theorem RdY.below(h:RdY w A n l) (hb:Below w.heap.size w w'):RdY w' A n l:=RdS.keep keeps_ty h hb.size fun _ hp=>hb.cell hp
theorem RdY.len(h:RdY w A n l):l.length=n:=RdS.len h
theorem RdY.max(h:RdY w A n l):n≤9223372036854775807:=RdS.max h
theorem RdY.at_(h:RdY w A n l){i:Nat}(hi:i<n):∃ b off,A=some ⟨b,off,none⟩∧b<w.heap.size∧∀ i,i<n→w.cell? ⟨b,off+i*3,none⟩=some (.int .i64 (atT l i).1)∧w.cell? ⟨b,off+i*3+1,none⟩=some (.int .i64 (atT l i).2.1)∧w.cell? ⟨b,off+i*3+2,none⟩=some (.int .i64 (atT l i).2.2):=by
 obtain⟨b,off,e,hb,hc⟩:=RdS.at_ h (by omega);exact⟨b,off,e,hb,fun i hi=>⟨hc i hi 0 _ rfl,hc i hi 1 _ rfl,hc i hi 2 _ rfl⟩⟩
end
theorem atT_get{l:List T3}{i:Nat}(h:i<l.length):atT l i=l[i]'h:=by unfold atT;rw [List.getElem?_eq_getElem h,Option.getD_some]
end
section
open Go.RowKit Go.Sort
theorem findI_in{α:Type}{f:α→Bool}:∀ (l:List α) (i:Nat),findI f l i=-1∨∃ k:Nat,findI f l i=((i+k:Nat):Int)∧k<l.length
 | [],i=>.inl rfl
 | a::l,i=>by
  unfold findI
  cases f a with
  | true=>exact .inr ⟨0,by simp,by simp⟩
  | false=>
   rcases findI_in (f:=f) l (i+1) with h | ⟨k,h,hk⟩
   · exact .inl (by simpa using h)
   · exact .inr ⟨k+1,by simp only [Bool.false_eq_true,if_false,h];congr 1;omega,by simpa using hk⟩
theorem findN_in(p:Pg) (s:ByteArray):findN p s=-1∨∃ k:Nat,findN p s=(k:Int)∧k<p.ns.length:=by
 rcases findI_in (f:=fun n:Nd=>n.nm.data.toList==s.data.toList) p.ns 0 with h | ⟨k,h,hk⟩
 · exact .inl h
 · exact .inr ⟨k,by simpa [findN] using h,hk⟩
theorem row_later{w0:World}{g:Nat}{cs:Array Value}{T:TypeId}(h:w0.heap[g]?=some (Obj.cells cs T)):∀ w',Below w0.heap.size w0 w'→∀ j,w'.cell? ⟨g,j,none⟩=cs[j]?:=fun w' hb j=>by
 have hlt:g<w0.heap.size:=(Array.getElem?_eq_some_iff.1 h).1;have h2:=(hb.block g hlt).trans h;unfold World.cell?;rw [show w'.heap[(⟨g,j,none⟩:Addr).block]?=_ from h2];rfl
theorem range_no{n k:Nat}{f:Nat→Bool}(hk:k<n) (h:f k=false):(List.range n).all f=false:=by
 rw [List.all_eq_false];exact⟨k,List.mem_range.2 hk,by simp [h]⟩
theorem range_yes{n:Nat}{f:Nat→Bool}(h:∀ k,k<n→f k=true):(List.range n).all f=true:=by
 rw [List.all_eq_true];exact fun k hk=>h k (List.mem_range.1 hk)
end
section
open Go.RowKit Go.Sort
theorem RdY.three{w:World}{b off n c:Nat}{l:List T3}(h:RdY w (some ⟨b,off,none⟩) n l){i:Nat}(hi:i<n):w.cell? ⟨b,off+i*3,none⟩=some (.int .i64 (atT l i).1)∧w.cell? ⟨b,off+i*3+1,none⟩=some (.int .i64 (atT l i).2.1)∧w.cell? ⟨b,off+i*3+2,none⟩=some (.int .i64 (atT l i).2.2):=by
 obtain⟨b',off',e,_,hc⟩:=h.at_ hi;injection e with e;injection e with e1 e2;subst e1 e2;exact hc i hi
end
section
open Go.RowKit Go.Sort
theorem results_tmp_cell_tmp{fn:Func}{p u v:Tmp}{ty:TypeId}(h:fn.results=#[.tmp u,.cell p ty,.tmp v]) (tmps:Array Value) (P:Program) (w:World):
 (results fn tmps).run P w =
  ((asAddr (tmps.getD p undef)).run P w).andThen fun a w₁=>((loadVar ty a).run P w₁).andThen fun x w₂=>.ok (.tuple #[tmps.getD u undef,x,tmps.getD v undef]) w₂:=by
 simp only [results,h]
 simp [Sem.run_bind,Result.andThen]
theorem res_xty{fn:Func}{p u v:Tmp}(h:fn.results=#[.tmp u,.cell p 41,.tmp v]) (tmps:Array Value) (w:World) (g:Nat) (a b c:Int)
 (hp:tmps.getD p undef=.pointer (some ⟨g,0,none⟩)) (hg:F3 41 w g a b c):(results fn tmps).run Tryz.prog w=.ok (.tuple #[tmps.getD u undef,.agg (f3A a b c),tmps.getD v undef]) w:=by
 rw [results_tmp_cell_tmp h,hp];have hl:=run_loadVar_row (P:=Tryz.prog) w g 41 41 _ _ _ hg Tryz.underlying41 rfl ty3_info
 simp [asAddr,Result.andThen,hl]
theorem box_res{w w0:World}{x:Ex}{A:Option Addr}{ca:Nat}{B:Option Addr}{cb:Nat}{T U:TypeId}(h:(w.alloc (.cells (exA x A ca B cb) T)).alloc (.cells #[.int .i64 0,.int .i64 0,.int .i64 0] U)=w0):
 F3 U w0 (w.heap.size+1) 0 0 0∧(∀ w',Below w0.heap.size w0 w'→∀ j,w'.cell? ⟨w.heap.size,j,none⟩=(exA x A ca B cb)[j]?)∧Below w.heap.size w w0∧w0.heap.size=w.heap.size+2:=by
 subst h;have h0:=F3.new U (w.alloc (.cells (exA x A ca B cb) T)) 0 0 0;have e1:(w.alloc (.cells (exA x A ca B cb) T)).heap.size=w.heap.size+1:=by simp
 rw [e1] at h0;refine⟨h0,fun w' hb j=>?_,((Below.refl _ _).alloc (Nat.le_refl _) _).alloc (by simp) _,by simp⟩;have hr:((w.alloc (.cells (exA x A ca B cb) T)).alloc (.cells #[.int .i64 0,.int .i64 0,.int .i64 0] U)).heap[w.heap.size]?=some (.cells (exA x A ca B cb) T):=heap_up _ (heap_alloc_new _ _);have h2:=(hb.block w.heap.size (by simp;omega)).trans hr;unfold World.cell?;rw [show w'.heap[(⟨w.heap.size,j,none⟩:Addr).block]?=_ from h2];rfl
end
section
open Go.RowKit Go.Sort Go.BigFrame
theorem F3.regrown{T:TypeId}{W:World}{g:Nat}{a b c:Int}(h:F3 T W g a b c) (d:Nat) (os:Array Obj):F3 T (grow (redrawn W d) os) g a b c:=h.below (below_regrown W d os)
end
section
open Go.RowKit Go.Sort Go.BigFrame
theorem infoTy0:(Tryz.prog.info? 41).map (·.size)=some (f3A 0 0 0).size:=by kernel_rfl
end
section
open Go.RowKit Go.Sort Go.BigFrame
end
section
open Go.RowKit Go.Sort Go.BigFrame
end
section
open Go.RowKit Go.Sort Go.BigFrame
end
section
open Go.RowKit
def plainN(k:Int):Nat:=if(k==5)=true then 1 else if(k==6)=true then 2 else if(k==7)=true then 3 else if(k==14)=true then 1 else if(k==15)=true then 2 else 3
end
section
open Go.RowKit Go.Sort Go.BigFrame
def RdI(w:World) (A:Option Addr) (n:Nat) (l:List Int):Prop:=RdS 1 (fun w b o z=>w.cell? ⟨b,o,none⟩=some (.int .i64 z)) w A n l
def ConstAns(w:World) (o:Option (List Int × T3)) (e:Ending) (w':World):Prop:=
 ∃ S n c a b d vs,e=.returned (.tuple #[.slice S n c,.agg (f3A a b d),.bool o.isSome])∧RdI w' S n vs∧n≤c∧c≤maxLen∧((∀ r,o=some r→r=(vs,(a,b,d)))∧(o=none→vs=[]∧a=0∧b=0∧d=0))∧Below w.heap.size w w'
theorem RdI.nil_(w:World):RdI w none 0 []:=RdS.nil_ _ _ _
theorem constT_no{es:List En}{x:Ex}(h:(rightX x && constX x)=false):constT es x=none:=by unfold constT;rw [if_pos h]
theorem constT_lit{es:List En}{x:Ex}(h:(rightX x && constX x)=true) (hk:x.k≠14):constT es x=(litT es x).map fun r=>([r.2],r.1):=by
 unfold constT;rw [if_neg (by rw [h];decide),if_neg (by simpa using hk)]
theorem xt_box{w w0:World}{x:Ex}{A:Option Addr}{ca:Nat}{B:Option Addr}{cb:Nat}(h:(w.alloc (.cells (exA x A ca B cb) 52)).alloc (.cells #[.int .i64 0,.int .i64 0,.int .i64 0] 41)=w0):
 F3 41 w0 (w.heap.size+1) 0 0 0∧(∀ w',Below w0.heap.size w0 w'→∀ j,w'.cell? ⟨w.heap.size,j,none⟩=(exA x A ca B cb)[j]?)∧Below w.heap.size w w0∧w0.heap.size=w.heap.size+2:=box_res h
end
section
open Go.RowKit Go.Sort Go.BigFrame
theorem RdI.one(w:World) (T:TypeId) (v:Int):RdI (w.alloc (.cells #[.int .i64 v] T)) (some ⟨w.heap.size,0,none⟩) 1 [v]:=
 ⟨rfl,by omega,fun _=>⟨_,0,rfl,by simp,fun i hi=>by
  obtain rfl:i=0:=by omega
  show World.cell? _ ⟨w.heap.size,0+0*1,none⟩=_
  rw [World.cell?_alloc_new];rfl⟩⟩
theorem keeps_i:KeepsAt (fun(w:World) b o (z:Int)=>w.cell? ⟨b,o,none⟩=some (.int .i64 z)):=fun h hb hs hk=>(hk _ hb).trans h
theorem RdI.keep{w w':World}{A:Option Addr}{n:Nat}{l:List Int}(h:RdI w A n l) (hs:w.heap.size≤w'.heap.size) (hk:∀ p:Addr,p.block<w.heap.size→w'.cell? p=w.cell? p):RdI w' A n l:=RdS.keep keeps_i h hs hk
theorem RdI.below{w w':World}{A:Option Addr}{n:Nat}{l:List Int}(h:RdI w A n l) (hb:Below w.heap.size w w'):RdI w' A n l:=h.keep hb.size fun _ hp=>hb.cell hp
theorem RdI.set{w:World}{g r:Nat}{o n:Nat}{l:List Int}(h:RdI w (some ⟨g,o,none⟩) n l) (hn:g≠r) (cs:Array Value):RdI (w.setRow r cs) (some ⟨g,o,none⟩) n l:=
 ⟨h.1,h.2.1,fun h0=>by
  obtain⟨b,off,e,hb,hc⟩:=h.2.2 h0;injection e with e;injection e with e1 e2;subst e1 e2;exact⟨_,_,rfl,by simpa [World.setRow] using hb,fun i hi=>(World.cell?_of_block (a:=⟨g,_,none⟩) (setRow_other _ _ _ _ hn)).trans (hc i hi)⟩⟩
end
section
open Go.RowKit Go.Sort Go.BigFrame
theorem infoI64:(Tryz.prog.info? 2).map (fun i=>(i.zero,i.size,i.bytes))=some (some (.int .i64 0),1,8):=by kernel_rfl
theorem own_apart{w:World}{base:Nat}{e T:TypeId}{size:Nat}{v:Value}{n:Nat}{xs:List Value}{g:Nat}{cs:Array Value}(h:w.ownsRow base e size v n xs) (hg:w.heap[g]?=some (Obj.cells cs T)) (hT:T≠e):some g≠v.ownBlock:=by
 rcases h.2 with⟨rfl,_⟩|⟨g',cap,cur,rfl,_,h2,_⟩
 · intro e;cases e
 · intro he;have he:g=g':=by simpa [Value.ownBlock] using he
   subst he;rw [hg] at h2;have h2:=Option.some.inj h2;injection h2 with _ h3;exact hT h3
theorem own_belowU{w w':World}{base:Nat}{e:TypeId}{size n:Nat}{v:Value}{xs:List Value}(h:w.ownsRow base e size v n xs) (hb:Below w.heap.size w w'):w'.ownsRow base e size v n xs:=by
 refine⟨h.1,?_⟩;rcases h.2 with h2 | ⟨g,cap,cur,hv,hg,hh,hr⟩
 · exact .inl h2
 · exact .inr ⟨g,cap,cur,hv,hg,(hb.block g (Array.getElem?_eq_some_iff.1 hh).1).trans hh,hr⟩
theorem arrT_len{es:List En}{l:List Ex}:∀ {k:Nat}{r:List Int × T3},arrT es l k=some r→r.1.length=k
 | 0,r,h=>by simp only [arrT] at h;injection h with h;subst h;rfl
 | k+1,r,h=>by
  simp only [arrT] at h
  cases h1:arrT es l k with
  | none=>rw [h1] at h;cases h
  | some r' =>
   rw [h1] at h;simp only at h
   cases h2:litT es (l[k]?.getD default) with
   | none=>rw [h2] at h;cases h
   | some t=>
    rw [h2] at h;simp only at h
    split at h
    · cases h
    · injection h with h;subst h
      simp [arrT_len h1]
theorem constT_arr{es:List En}{x:Ex}(h:(rightX x && constX x)=true) (hk:x.k=14):constT es x=(arrT es x.subs x.subs.length).map fun r=>(r.1,(r.2.1,r.2.2.1,(x.subs.length:Int))):=by
 unfold constT;rw [if_neg (by rw [h];decide),if_pos (by rw [hk];rfl)]
theorem RdI.of_own{w:World}{base:Nat}{v:Value}{n:Nat}{l:List Int}(h:w.ownsRow base 2 1 v n (l.map (Value.int .i64))) (hn:n≤1000):∃ A c,v=.slice A n c∧RdI w A n l∧n≤c∧c≤maxLen:=by
 have hl:l.length=n:=by simpa using h.1
 rcases h.2 with⟨rfl,rfl⟩|⟨g,cap,cur,rfl,hb,hg,hnc,hcm,hcs,ht⟩
 · exact⟨none,0,rfl,⟨hl,by omega,fun h=>absurd h (by omega)⟩,Nat.le_refl _,by unfold maxLen;omega⟩
 · refine⟨_,cap,rfl,⟨hl,by omega,fun _=>⟨g,0,rfl,(Array.getElem?_eq_some_iff.1 hg).1,fun i hi=>?_⟩⟩,hnc,hcm⟩
   show w.cell? ⟨g,0+i*1,none⟩=some (.int .i64 (l[i]?.getD default))
   have h1:(cur.toList.take (n*1))[i]?=(l.map (Value.int .i64))[i]?:=by rw [ht]
   have hil:i<l.length:=by omega
   rw [List.getElem?_take,if_pos (by omega),List.getElem?_map,Array.getElem?_toList,List.getElem?_eq_getElem hil] at h1;simp only [World.cell?,hg];rw [List.getElem?_eq_getElem hil,show 0+i*1=i by omega]
   simpa using h1
end
end Go.Proofs.YtkbpdoomhfkngaaGreat
