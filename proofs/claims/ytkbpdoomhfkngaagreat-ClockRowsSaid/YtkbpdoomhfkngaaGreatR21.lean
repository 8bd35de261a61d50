/- Parts of the proof: ArT, ArV, ArK, ArW, ArU, TrO. Conditions: each theorem's own. -/
import Derived.Sort.Grow
import Derived.Laws.ResultCell
import Derived.Laws.Rows
import Derived.Laws.CopyOwn
import Derived.Laws.CopyRow
import Derived.Test.YtkbpdoomhfkngaaGreatR04
import Derived.Test.YtkbpdoomhfkngaaGreatR07
namespace Go.Proofs.YtkbpdoomhfkngaaGreat
set_option linter.unusedVariables false
set_option linter.unusedSimpArgs false
set_option maxRecDepth 100000
set_option maxHeartbeats 40000000
section
open Go.RowKit Go.Sort
abbrev tyO (k e l:Int):Obj:=.cells #[.int .i64 k,.int .i64 e,.int .i64 l] 41
theorem ty_info:(Tryz.prog.info? 41).map (·.size)=some 3:=by kernel_rfl
theorem res_ty{fn:Func}{p:Tmp}(h:fn.results=#[.cell p 41]) (tmps:Array Value) (w:World) (g:Nat) (k e l:Int)
 (hp:tmps.getD p undef=.pointer (some ⟨g,0,none⟩)) (hg:w.heap[g]?=some (tyO k e l)):(results fn tmps).run Tryz.prog w=.ok (tyV k e l) w:=
 results_cell_row h tmps w g _ _ _ _ hp hg Tryz.underlying41 rfl ty_info
theorem res_ty2{fn:Func}{p u:Tmp}(h:fn.results=#[.cell p 41,.tmp u]) (tmps:Array Value) (w:World) (g:Nat) (k e l:Int)
 (hp:tmps.getD p undef=.pointer (some ⟨g,0,none⟩)) (hg:w.heap[g]?=some (tyO k e l)):(results fn tmps).run Tryz.prog w=.ok (.tuple #[tyV k e l,tmps.getD u undef]) w:=by
 rw [results_cell_tmp h,hp];have hl:=run_loadVar_row (P:=Tryz.prog) w g 41 41 _ _ _ hg Tryz.underlying41 rfl ty_info
 simp [asAddr,Result.andThen,hl]
 rfl
theorem arOne(k:Int) (w:World):
 Calls Tryz.prog 173 #[.int .i64 k] w fun r w'=>r=.returned (tyV k 0 0)∧w'=w.alloc (tyO k 0 0):=by
 unfold tyV tyO
 go_enter Tryz.func173,Tryz.ntmps173
 go_wp2_with fail
 exact bodyPost_ret (res_ty rfl _ _ w.heap.size k 0 0 rfl (heap_alloc_new _ _)) rfl ⟨rfl,rfl⟩
theorem arOnly_yes(k e l:Int) (w:World):
 Calls Tryz.prog 172 #[tyV k e l,.bool true] w fun r w'=>r=.returned (.tuple #[tyV k e l,.bool true])∧w'=(w.alloc (tyO k e l)).alloc (tyO k e l):=by
 unfold tyV tyO
 go_enter Tryz.func172,Tryz.ntmps172
 go_wp2_with fail
 exact bodyPost_ret (res_ty2 rfl _ _ (w.heap.size+1) k e l rfl (heap_alloc2_new _ _ _)) rfl ⟨rfl,rfl⟩
theorem arOnly_no(k e l:Int) (w:World):
 Calls Tryz.prog 172 #[tyV k e l,.bool false] w fun r w'=>r=.returned (.tuple #[tyV 0 0 0,.bool false])∧w'=(w.alloc (tyO k e l)).alloc (tyO 0 0 0):=by
 unfold tyV tyO
 go_enter Tryz.func172,Tryz.ntmps172
 go_wp2_with fail
 exact bodyPost_ret (res_ty2 rfl _ _ (w.heap.size+1) 0 0 0 rfl (heap_alloc2_new _ _ _)) rfl ⟨rfl,rfl⟩
theorem heap_up{w:World}{i:Nat}{o:Obj}(B:Obj) (h:w.heap[i]?=some o):(w.alloc B).heap[i]?=some o:=by
 have hi:=(Array.getElem?_eq_some_iff.1 h).1
 show(w.heap.push B)[i]?=some o
 rw [Array.getElem?_push,if_neg (Nat.ne_of_lt hi)];exact h
theorem heap_drew{w:World}{i:Nat}{o:Obj}(h:w.heap[i]?=some o):w.drew.heap[i]?=some o:=h
def tyR(o:Option Int):Value:=match o with
 | some k=>tyV k 0 0
 | none=>tyV 0 0 0
def unTyI(op k e l:Int):Option Int:=
 if op=1∧k=1∧e=0∧l=0 then some 1 else if op=2∧k=2∧e=0∧l=0 then some 2 else none
end
section
open Go.RowKit Go.Sort
theorem heap_below{w w':World}{i:Nat}{o:Obj}(h:w.heap[i]?=some o) (hb:Below w.heap.size w w'):w'.heap[i]?=some o:=by
 rw [hb.block i (Array.getElem?_eq_some_iff.1 h).1];exact h
def Row3(W:World) (g:Nat) (k e l:Int):Prop:=W.heap[g]?=some (tyO k e l)
section
variable {W W':World}{g i:Nat}{k e l k' e' l':Int}
theorem Row3.lt(h:Row3 W g k e l):g<W.heap.size:=(Array.getElem?_eq_some_iff.1 h).1
theorem Row3.below(h:Row3 W g k e l) (hb:Below W.heap.size W W'):Row3 W' g k e l:=heap_below h hb
theorem Row3.regrown(h:Row3 W g k e l) (d:Nat) (os:Array Obj):Row3 (grow (redrawn W d) os) g k e l:=heap_below h (below_regrown W d os)
theorem Row3.alloc(h:Row3 W g k e l) (o:Obj):Row3 (W.alloc o) g k e l:=heap_up o h
theorem Row3.drew(h:Row3 W g k e l):Row3 W.drew g k e l:=h
theorem Row3.set(h:Row3 W g k e l) (k' e' l':Int):Row3 (W.setRow g #[.int .i64 k',.int .i64 e',.int .i64 l']) g k' e' l':=setRow_heap _ _ _ _ _ _ h
theorem Row3.other(h:Row3 W g k e l) (hne:g≠i) (cs:Array Value):Row3 (W.setRow i cs) g k e l:=(setRow_other _ _ _ _ hne).trans h
theorem Row3.cells(h:Row3 W g k e l):W.cell? ⟨g,0,none⟩=some (.int .i64 k)∧W.cell? ⟨g,1,none⟩=some (.int .i64 e)∧W.cell? ⟨g,2,none⟩=some (.int .i64 l):=by
 have hj:∀ j,W.cell? ⟨g,j,none⟩=(#[Value.int .i64 k,.int .i64 e,.int .i64 l]:Array Value)[j]?:=fun j=>by
  have:=cell_setRow_same W g j _ #[.int .i64 k,.int .i64 e,.int .i64 l] _ _ h;rwa [setRow_self W g _ _ _ h] at this
 exact⟨hj 0,hj 1,hj 2⟩
theorem Row3.new(W:World) (k e l:Int):Row3 (W.alloc (tyO k e l)) W.heap.size k e l:=heap_alloc_new _ _
end
end
section
open Go.RowKit Go.Sort
def isP(K k e l:Int):Bool:=decide (k=K) && decide (e=0) && decide (l=0)
def sameB(k e l k' e' l':Int):Bool:=decide (k=k') && decide (e=e') && decide (l=l') && decide (l=0)
def binTyI(op:Int) (I B S:Bool):Option Int:=
 if 3≤op∧op≤7 then(if I then some 1 else none) else if 8≤op∧op≤10 then(if B then some 2 else none)
 else if op=11∨op=12 then(if S then some 2 else none) else if 13≤op∧op≤16 then(if I then some 2 else none) else none
theorem isP_cases(K k e l:Int):(k=K∧e=0∧l=0∧isP K k e l=true)∨((k==K)=false∧isP K k e l=false)∨(k=K∧(e==0)=false∧isP K k e l=false)∨(k=K∧e=0∧(l==0)=false∧isP K k e l=false):=by
 by_cases hk:k=K
 · by_cases he:e=0
   · by_cases hl:l=0
     · exact .inl ⟨hk,he,hl,by simp [isP,hk,he,hl]⟩
     · exact .inr (.inr (.inr ⟨hk,he,by simpa using hl,by simp [isP,hl]⟩))
   · exact .inr (.inr (.inl ⟨hk,by simpa using he,by simp [isP,he]⟩))
 · exact .inr (.inl ⟨by simpa using hk,by simp [isP,hk]⟩)
theorem same_cases(k e l k' e' l':Int):(k=k'∧e=e'∧l=l'∧l=0∧sameB k e l k' e' l'=true)∨((k==k')=false∧sameB k e l k' e' l'=false)∨(k=k'∧(e==e')=false∧sameB k e l k' e' l'=false) ∨
 (k=k'∧e=e'∧(l==l')=false∧sameB k e l k' e' l'=false)∨(k=k'∧e=e'∧l=l'∧(l==0)=false∧sameB k e l k' e' l'=false):=by
 by_cases hk:k=k'
 · by_cases he:e=e'
   · by_cases hl:l=l'
     · by_cases h0:l=0
       · exact .inl ⟨hk,he,hl,h0,by simp [sameB,hk,he,← hl,h0]⟩
       · exact .inr (.inr (.inr (.inr ⟨hk,he,hl,by simpa using h0,by simp [sameB,h0]⟩)))
     · exact .inr (.inr (.inr (.inl ⟨hk,he,by simpa using hl,by simp [sameB,hl]⟩)))
   · exact .inr (.inr (.inl ⟨hk,by simpa using he,by simp [sameB,he]⟩))
 · exact .inr (.inl ⟨by simpa using hk,by simp [sameB,hk]⟩)
theorem bin_none{op:Int}{I B S:Bool}(hop:op<3∨16<op):binTyI op I B S=none:=by
 unfold binTyI
 repeat rw [if_neg (by omega)]
theorem bin_diff{op k e l k' e' l':Int}(h:sameB k e l k' e' l'=false):binTyI op (isP 1 k e l && isP 1 k' e' l') (isP 2 k e l && isP 2 k' e' l') (sameB k e l k' e' l')=none:=by
 have hI:∀ K,(isP K k e l && isP K k' e' l')=false:=fun K=>by
  rw [← h];unfold isP sameB at *
  by_cases h1:k=k' <;> by_cases h2:e=e' <;> by_cases h3:l=l' <;> by_cases h4:l=0 <;> simp_all
  all_goals omega
 rw [hI 1,hI 2,h];unfold binTyI
 simp
theorem fin{o o':Option Int}(h:o'=o):Ending.returned (.tuple #[tyR o,.bool o.isSome])=Ending.returned (.tuple #[tyR o',.bool o'.isSome]):=by rw [h]
end
section
open Go.RowKit Go.Sort
end
section
open Go.RowKit Go.Sort
theorem arUnTy1_0(w:World):
 Calls Tryz.prog 143 #[.int .i64 1,tyV 1 0 0] w fun r w'=>r=.returned (.tuple #[tyV 1 0 0,.bool true])∧Below w.heap.size w w':=by
 unfold tyV
 go_enter Tryz.func143,Tryz.ntmps143
 go_wp2_with fail
 go_region_held3 (fun W=>W.cell? ⟨w.heap.size,0,none⟩=some (.int .i64 1)∧W.cell? ⟨w.heap.size,1,none⟩=some (.int .i64 0)∧W.cell? ⟨w.heap.size,2,none⟩=some (.int .i64 0)) (first | (refine⟨?_,?_,?_⟩ <;> simp [go_sem]) | exact trivial) (first | (go_at_call 173;refine(arOne _ _).mono ?_;unfold tyV tyO;rintro r w1 ⟨rfl,rfl⟩) | (go_at_call 172;refine(arOnly_yes _ _ _ _).mono ?_;unfold tyV tyO;rintro r w1 ⟨rfl,rfl⟩))
 go_wp2_with fail
 refine bodyPost_ret (res_ty2 rfl _ _ (w.heap.size+1) 1 0 0 rfl ?_) rfl ⟨rfl,?_⟩
 · (repeat' (first | exact heap_alloc2_new _ _ _ | exact heap_alloc_new _ _ | refine heap_drew ?_ | refine heap_up _ ?_))
 · (repeat' (first | exact Below.refl _ _ | refine Below.drew ?_ | refine Below.alloc ?_ (by simp <;> omega) _))
theorem arUnTy1_1(k e l:Int) (hk:(k==1)=false) (w:World):
 Calls Tryz.prog 143 #[.int .i64 1,tyV k e l] w fun r w'=>r=.returned (.tuple #[tyV 0 0 0,.bool false])∧Below w.heap.size w w':=by
 unfold tyV
 go_enter Tryz.func143,Tryz.ntmps143
 go_wp2_with fail
 go_region_held3 (fun W=>W.cell? ⟨w.heap.size,0,none⟩=some (.int .i64 k)∧W.cell? ⟨w.heap.size,1,none⟩=some (.int .i64 e)∧W.cell? ⟨w.heap.size,2,none⟩=some (.int .i64 l)) (first | (refine⟨?_,?_,?_⟩ <;> simp [go_sem]) | exact trivial) (first | (go_at_call 173;refine(arOne _ _).mono ?_;unfold tyV tyO;rintro r w1 ⟨rfl,rfl⟩) | (go_at_call 172;refine(arOnly_no _ _ _ _).mono ?_;unfold tyV tyO;rintro r w1 ⟨rfl,rfl⟩))
 go_wp2_with fail
 refine bodyPost_ret (res_ty2 rfl _ _ (w.heap.size+1) 0 0 0 rfl ?_) rfl ⟨rfl,?_⟩
 · (repeat' (first | exact heap_alloc2_new _ _ _ | exact heap_alloc_new _ _ | refine heap_drew ?_ | refine heap_up _ ?_))
 · (repeat' (first | exact Below.refl _ _ | refine Below.drew ?_ | refine Below.alloc ?_ (by simp <;> omega) _))
theorem arUnTy1_2(e l:Int) (hk:(e==0)=false) (w:World):
 Calls Tryz.prog 143 #[.int .i64 1,tyV 1 e l] w fun r w'=>r=.returned (.tuple #[tyV 0 0 0,.bool false])∧Below w.heap.size w w':=by
 unfold tyV
 go_enter Tryz.func143,Tryz.ntmps143
 go_wp2_with fail
 go_region_held3 (fun W=>W.cell? ⟨w.heap.size,0,none⟩=some (.int .i64 1)∧W.cell? ⟨w.heap.size,1,none⟩=some (.int .i64 e)∧W.cell? ⟨w.heap.size,2,none⟩=some (.int .i64 l)) (first | (refine⟨?_,?_,?_⟩ <;> simp [go_sem]) | exact trivial) (first | (go_at_call 173;refine(arOne _ _).mono ?_;unfold tyV tyO;rintro r w1 ⟨rfl,rfl⟩) | (go_at_call 172;refine(arOnly_no _ _ _ _).mono ?_;unfold tyV tyO;rintro r w1 ⟨rfl,rfl⟩))
 go_wp2_with fail
 refine bodyPost_ret (res_ty2 rfl _ _ (w.heap.size+1) 0 0 0 rfl ?_) rfl ⟨rfl,?_⟩
 · (repeat' (first | exact heap_alloc2_new _ _ _ | exact heap_alloc_new _ _ | refine heap_drew ?_ | refine heap_up _ ?_))
 · (repeat' (first | exact Below.refl _ _ | refine Below.drew ?_ | refine Below.alloc ?_ (by simp <;> omega) _))
theorem arUnTy1_3(l:Int) (hk:(l==0)=false) (w:World):
 Calls Tryz.prog 143 #[.int .i64 1,tyV 1 0 l] w fun r w'=>r=.returned (.tuple #[tyV 0 0 0,.bool false])∧Below w.heap.size w w':=by
 unfold tyV
 go_enter Tryz.func143,Tryz.ntmps143
 go_wp2_with fail
 go_region_held3 (fun W=>W.cell? ⟨w.heap.size,0,none⟩=some (.int .i64 1)∧W.cell? ⟨w.heap.size,1,none⟩=some (.int .i64 0)∧W.cell? ⟨w.heap.size,2,none⟩=some (.int .i64 l)) (first | (refine⟨?_,?_,?_⟩ <;> simp [go_sem]) | exact trivial) (first | (go_at_call 173;refine(arOne _ _).mono ?_;unfold tyV tyO;rintro r w1 ⟨rfl,rfl⟩) | (go_at_call 172;refine(arOnly_no _ _ _ _).mono ?_;unfold tyV tyO;rintro r w1 ⟨rfl,rfl⟩))
 go_wp2_with fail
 refine bodyPost_ret (res_ty2 rfl _ _ (w.heap.size+1) 0 0 0 rfl ?_) rfl ⟨rfl,?_⟩
 · (repeat' (first | exact heap_alloc2_new _ _ _ | exact heap_alloc_new _ _ | refine heap_drew ?_ | refine heap_up _ ?_))
 · (repeat' (first | exact Below.refl _ _ | refine Below.drew ?_ | refine Below.alloc ?_ (by simp <;> omega) _))
theorem arUnTy2_0(w:World):
 Calls Tryz.prog 143 #[.int .i64 2,tyV 2 0 0] w fun r w'=>r=.returned (.tuple #[tyV 2 0 0,.bool true])∧Below w.heap.size w w':=by
 unfold tyV
 go_enter Tryz.func143,Tryz.ntmps143
 go_wp2_with fail
 go_region_held3 (fun W=>W.cell? ⟨w.heap.size,0,none⟩=some (.int .i64 2)∧W.cell? ⟨w.heap.size,1,none⟩=some (.int .i64 0)∧W.cell? ⟨w.heap.size,2,none⟩=some (.int .i64 0)) (first | (refine⟨?_,?_,?_⟩ <;> simp [go_sem]) | exact trivial) (first | (go_at_call 173;refine(arOne _ _).mono ?_;unfold tyV tyO;rintro r w1 ⟨rfl,rfl⟩) | (go_at_call 172;refine(arOnly_yes _ _ _ _).mono ?_;unfold tyV tyO;rintro r w1 ⟨rfl,rfl⟩))
 go_wp2_with fail
 refine bodyPost_ret (res_ty2 rfl _ _ (w.heap.size+1) 2 0 0 rfl ?_) rfl ⟨rfl,?_⟩
 · (repeat' (first | exact heap_alloc2_new _ _ _ | exact heap_alloc_new _ _ | refine heap_drew ?_ | refine heap_up _ ?_))
 · (repeat' (first | exact Below.refl _ _ | refine Below.drew ?_ | refine Below.alloc ?_ (by simp <;> omega) _))
theorem arUnTy2_1(k e l:Int) (hk:(k==2)=false) (w:World):
 Calls Tryz.prog 143 #[.int .i64 2,tyV k e l] w fun r w'=>r=.returned (.tuple #[tyV 0 0 0,.bool false])∧Below w.heap.size w w':=by
 unfold tyV
 go_enter Tryz.func143,Tryz.ntmps143
 go_wp2_with fail
 go_region_held3 (fun W=>W.cell? ⟨w.heap.size,0,none⟩=some (.int .i64 k)∧W.cell? ⟨w.heap.size,1,none⟩=some (.int .i64 e)∧W.cell? ⟨w.heap.size,2,none⟩=some (.int .i64 l)) (first | (refine⟨?_,?_,?_⟩ <;> simp [go_sem]) | exact trivial) (first | (go_at_call 173;refine(arOne _ _).mono ?_;unfold tyV tyO;rintro r w1 ⟨rfl,rfl⟩) | (go_at_call 172;refine(arOnly_no _ _ _ _).mono ?_;unfold tyV tyO;rintro r w1 ⟨rfl,rfl⟩))
 go_wp2_with fail
 refine bodyPost_ret (res_ty2 rfl _ _ (w.heap.size+1) 0 0 0 rfl ?_) rfl ⟨rfl,?_⟩
 · (repeat' (first | exact heap_alloc2_new _ _ _ | exact heap_alloc_new _ _ | refine heap_drew ?_ | refine heap_up _ ?_))
 · (repeat' (first | exact Below.refl _ _ | refine Below.drew ?_ | refine Below.alloc ?_ (by simp <;> omega) _))
theorem arUnTy2_2(e l:Int) (hk:(e==0)=false) (w:World):
 Calls Tryz.prog 143 #[.int .i64 2,tyV 2 e l] w fun r w'=>r=.returned (.tuple #[tyV 0 0 0,.bool false])∧Below w.heap.size w w':=by
 unfold tyV
 go_enter Tryz.func143,Tryz.ntmps143
 go_wp2_with fail
 go_region_held3 (fun W=>W.cell? ⟨w.heap.size,0,none⟩=some (.int .i64 2)∧W.cell? ⟨w.heap.size,1,none⟩=some (.int .i64 e)∧W.cell? ⟨w.heap.size,2,none⟩=some (.int .i64 l)) (first | (refine⟨?_,?_,?_⟩ <;> simp [go_sem]) | exact trivial) (first | (go_at_call 173;refine(arOne _ _).mono ?_;unfold tyV tyO;rintro r w1 ⟨rfl,rfl⟩) | (go_at_call 172;refine(arOnly_no _ _ _ _).mono ?_;unfold tyV tyO;rintro r w1 ⟨rfl,rfl⟩))
 go_wp2_with fail
 refine bodyPost_ret (res_ty2 rfl _ _ (w.heap.size+1) 0 0 0 rfl ?_) rfl ⟨rfl,?_⟩
 · (repeat' (first | exact heap_alloc2_new _ _ _ | exact heap_alloc_new _ _ | refine heap_drew ?_ | refine heap_up _ ?_))
 · (repeat' (first | exact Below.refl _ _ | refine Below.drew ?_ | refine Below.alloc ?_ (by simp <;> omega) _))
theorem arUnTy2_3(l:Int) (hk:(l==0)=false) (w:World):
 Calls Tryz.prog 143 #[.int .i64 2,tyV 2 0 l] w fun r w'=>r=.returned (.tuple #[tyV 0 0 0,.bool false])∧Below w.heap.size w w':=by
 unfold tyV
 go_enter Tryz.func143,Tryz.ntmps143
 go_wp2_with fail
 go_region_held3 (fun W=>W.cell? ⟨w.heap.size,0,none⟩=some (.int .i64 2)∧W.cell? ⟨w.heap.size,1,none⟩=some (.int .i64 0)∧W.cell? ⟨w.heap.size,2,none⟩=some (.int .i64 l)) (first | (refine⟨?_,?_,?_⟩ <;> simp [go_sem]) | exact trivial) (first | (go_at_call 173;refine(arOne _ _).mono ?_;unfold tyV tyO;rintro r w1 ⟨rfl,rfl⟩) | (go_at_call 172;refine(arOnly_no _ _ _ _).mono ?_;unfold tyV tyO;rintro r w1 ⟨rfl,rfl⟩))
 go_wp2_with fail
 refine bodyPost_ret (res_ty2 rfl _ _ (w.heap.size+1) 0 0 0 rfl ?_) rfl ⟨rfl,?_⟩
 · (repeat' (first | exact heap_alloc2_new _ _ _ | exact heap_alloc_new _ _ | refine heap_drew ?_ | refine heap_up _ ?_))
 · (repeat' (first | exact Below.refl _ _ | refine Below.drew ?_ | refine Below.alloc ?_ (by simp <;> omega) _))
theorem arUnTy_no(op k e l:Int) (h1:(op==1)=false) (h2:(op==2)=false) (w:World):
 Calls Tryz.prog 143 #[.int .i64 op,tyV k e l] w fun r w'=>r=.returned (.tuple #[tyV 0 0 0,.bool false])∧Below w.heap.size w w':=by
 unfold tyV
 go_enter Tryz.func143,Tryz.ntmps143
 go_wp2_with fail
 refine bodyPost_ret (res_ty2 rfl _ _ (w.heap.size+1) 0 0 0 rfl ?_) rfl ⟨rfl,?_⟩
 · (repeat' (first | exact heap_alloc2_new _ _ _ | exact heap_alloc_new _ _ | refine heap_drew ?_ | refine heap_up _ ?_))
 · (repeat' (first | exact Below.refl _ _ | refine Below.drew ?_ | refine Below.alloc ?_ (by simp <;> omega) _))
theorem arUnTy(op k e l:Int) (w:World):
 Calls Tryz.prog 143 #[.int .i64 op,tyV k e l] w fun r w'=>r=.returned (.tuple #[tyR (unTyI op k e l),.bool (unTyI op k e l).isSome])∧Below w.heap.size w w':=by
 by_cases o1:op=1
 · subst o1
   by_cases hk:k=1
   · subst hk
     by_cases he:e=0
     · subst he
       by_cases hl:l=0
       · subst hl;exact arUnTy1_0 w
       · have e:unTyI 1 1 0 l=none:=by simp [unTyI,hl]
         rw [e];exact arUnTy1_3 l (by simpa using hl) w
     · have e:unTyI 1 1 e l=none:=by simp [unTyI,he]
       rw [e];exact arUnTy1_2 _ l (by simpa using he) w
   · have e:unTyI 1 k e l=none:=by simp [unTyI,hk]
     rw [e];exact arUnTy1_1 k _ l (by simpa using hk) w
 · by_cases o2:op=2
   · subst o2
     by_cases hk:k=2
     · subst hk
       by_cases he:e=0
       · subst he
         by_cases hl:l=0
         · subst hl;exact arUnTy2_0 w
         · have e:unTyI 2 2 0 l=none:=by simp [unTyI,hl]
           rw [e];exact arUnTy2_3 l (by simpa using hl) w
       · have e:unTyI 2 2 e l=none:=by simp [unTyI,he]
         rw [e];exact arUnTy2_2 _ l (by simpa using he) w
     · have e:unTyI 2 k e l=none:=by simp [unTyI,hk]
       rw [e];exact arUnTy2_1 k _ l (by simpa using hk) w
   · have e:unTyI op k e l=none:=by simp [unTyI,o1,o2]
     rw [e];exact arUnTy_no op k _ l (by simpa using o1) (by simpa using o2) w
end
section
open Go.RowKit Go.Sort
theorem tyOne(k e l:Int) (w:World):
 Calls Tryz.prog 148 #[tyV k e l] w fun r w'=>r=.returned (tyV k e 0)∧Below w.heap.size w w':=by
 unfold tyV;have HB:=Hd (((Below.refl w.heap.size w).alloc (Nat.le_refl _) (.cells #[.int .i64 k,.int .i64 e,.int .i64 0] 41)).alloc (by simp) (.cells #[.int .i64 k,.int .i64 e,.int .i64 0] 41))
 go_enter Tryz.func148,Tryz.ntmps148
 go_wp2_with fail
 refine bodyPost_ret (v:=.agg #[.int .i64 k,.int .i64 e,.int .i64 0]) ?_ rfl ⟨rfl,HB.out⟩
 simp [results,Tryz.f148,go_sem]
end
end Go.Proofs.YtkbpdoomhfkngaaGreat
