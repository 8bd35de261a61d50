/- A part of the proof. Conditions: each theorem's own. -/
import Derived.Test.YtkbpdoomhfkngaaGreatC06
namespace Go.Proofs.YtkbpdoomhfkngaaGreat
set_option linter.unusedVariables false
set_option linter.unusedSimpArgs false
set_option maxRecDepth 100000
set_option maxHeartbeats 40000000
section
open Go.RowKit Go.Sort
theorem aO2(w:World)(T:TypeId)(a b c:Value):(w.alloc (.cells #[a,b,c] T)).cell? ⟨w.heap.size,0,none⟩=some a/\(w.alloc (.cells #[a,b,c] T)).cell? ⟨w.heap.size,1,none⟩=some b/\(w.alloc (.cells #[a,b,c] T)).cell? ⟨w.heap.size,2,none⟩=some c:=by
 refine⟨?_,?_,?_⟩<;>simp[go_sem]
abbrev aW (k e l:Int):Obj:=.cells #[.int .i64 k,.int .i64 e,.int .i64 l] 41
theorem cK:(Tryz.prog.info? 41).map (·.size)=some 3:=aC
theorem zK{fn:Func}{p:Tmp}(h:fn.results=#[.cell p 41])(tmps:Array Value)(w:World)(g:Nat)(k e l:Int)
 (hp:tmps.getD p undef=.pointer (some ⟨g,0,none⟩))(hg:w.heap[g]?=some (aW k e l)):(results fn tmps).run Tryz.prog w=.ok (aO k e l) w:=
 results_cell_row h tmps w g _ _ _ _ hp hg Tryz.underlying41 rfl cK
theorem bA{fn:Func}{p u:Tmp}(h:fn.results=#[.cell p 41,.tmp u])(tmps:Array Value)(w:World)(g:Nat)(k e l:Int)
 (hp:tmps.getD p undef=.pointer (some ⟨g,0,none⟩))(hg:w.heap[g]?=some (aW k e l)):(results fn tmps).run Tryz.prog w=.ok (.tuple #[aO k e l,tmps.getD u undef]) w:=by
 rw[results_cell_tmp h,hp];have hl:=run_loadVar_row (P:=Tryz.prog) w g 41 41 _ _ _ hg Tryz.underlying41 rfl cK;simp[asAddr,Result.andThen,hl];rfl
theorem mP(k:Int)(w:World):
 Calls Tryz.prog 173 #[.int .i64 k] w fun r w'=>r=.returned (aO k 0 0)/\w'=w.alloc (aW k 0 0):=by
 unfold aO aW;go_in
 go_wp2_with fail;exact Zu (zK rfl _ _ w.heap.size k 0 0 rfl (Zx _ _)) rfl ⟨rfl,rfl⟩
theorem oM(k:Int)(w:World):
 Calls Tryz.prog 181 #[.int .i64 k] w fun r w'=>r=.returned (aO k 0 0)/\w'=w.alloc (aW k 0 0):=by
 unfold aO aW;go_in
 go_wp2_with fail;exact Zu (zK rfl _ _ w.heap.size k 0 0 rfl (Zx _ _)) rfl ⟨rfl,rfl⟩
theorem uO(k e l:Int)(w:World):
 Calls Tryz.prog 172 #[aO k e l,.bool true] w fun r w'=>r=.returned (.tuple #[aO k e l,.bool true])/\w'=(w.alloc (aW k e l)).alloc (aW k e l):=by
 unfold aO aW;go_in
 go_wp2_with fail;exact Zu (bA rfl _ _ (w.heap.size+1) k e l rfl (heap_alloc2_new _ _ _)) rfl ⟨rfl,rfl⟩
theorem oK(k e l:Int)(w:World):
 Calls Tryz.prog 172 #[aO k e l,.bool false] w fun r w'=>r=.returned (.tuple #[aO 0 0 0,.bool false])/\w'=(w.alloc (aW k e l)).alloc (aW 0 0 0):=by
 unfold aO aW;go_in
 go_wp2_with fail;exact Zu (bA rfl _ _ (w.heap.size+1) 0 0 0 rfl (heap_alloc2_new _ _ _)) rfl ⟨rfl,rfl⟩
theorem hZ{w:World}{i:Nat}{o:Obj}(B:Obj)(h:w.heap[i]?=some o):(w.alloc B).heap[i]?=some o:=by
 have hi:=(Yl.1 h).1;show(w.heap.push B)[i]?=some o;rw[Array.getElem?_push,if_neg (Nat.ne_of_lt hi)];exact h
theorem qX{w:World}{i:Nat}{o:Obj}(h:w.heap[i]?=some o):w.drew.heap[i]?=some o:=h
def mE(o:Option Int):Value:=match o with
 |some k=>aO k 0 0
 |none=>aO 0 0 0
def dE(op k e l:Int):Option Int:=
 if op=1/\k=1/\e=0/\l=0 then some 1 else if op=2/\k=2/\e=0/\l=0 then some 2 else none
theorem nI(k:Int)(w:World):
 Calls Tryz.prog 181 #[.int .i64 k] w fun r w'=>r=.returned (aO k 0 0)/\Below w.heap.size w w':=
 (oM k w).mono fun r w' ⟨h,h'⟩=>⟨h,by rw[h'];exact(Yg _ _).alloc (Yh _) _⟩
theorem aHc{w w':World}{i:Nat}{o:Obj}(h:w.heap[i]?=some o)(hb:Below w.heap.size w w'):w'.heap[i]?=some o:=by
 rw[hb.block i (Yl.1 h).1];exact h
def bY(W:World)(g:Nat)(k e l:Int):Prop:=W.heap[g]?=some (aW k e l)
section
variable {W W':World}{g i:Nat}{k e l k' e' l':Int}
theorem bY.lt(h:bY W g k e l):g<W.heap.size:=(Yl.1 h).1
theorem bY.below(h:bY W g k e l)(hb:Below W.heap.size W W'):bY W' g k e l:=aHc h hb
theorem bY.regrown(h:bY W g k e l)(d:Nat)(os:Array Obj):bY (grow (redrawn W d) os) g k e l:=aHc h (Zt W d os)
theorem bY.alloc(h:bY W g k e l)(o:Obj):bY (W.alloc o) g k e l:=hZ o h
theorem bY.drew(h:bY W g k e l):bY W.drew g k e l:=h
theorem bY.set(h:bY W g k e l)(k' e' l':Int):bY (W.setRow g #[.int .i64 k',.int .i64 e',.int .i64 l']) g k' e' l':=Xd _ _ _ _ _ _ h
theorem bY.other(h:bY W g k e l)(An:g≠i)(cs:Array Value):bY (W.setRow i cs) g k e l:=(setRow_other _ _ _ _ An).trans h
theorem bY.cells(h:bY W g k e l):W.cell? ⟨g,0,none⟩=some (.int .i64 k)/\W.cell? ⟨g,1,none⟩=some (.int .i64 e)/\W.cell? ⟨g,2,none⟩=some (.int .i64 l):=by
 have hj:∀j,W.cell? ⟨g,j,none⟩=(#[Value.int .i64 k,.int .i64 e,.int .i64 l]:Array Value)[j]?:=fun j=>by
  have:=cell_setRow_same W g j _ #[.int .i64 k,.int .i64 e,.int .i64 l] _ _ h
  exact aEs
 exact⟨hj 0,hj 1,hj 2⟩
theorem bY.new(W:World)(k e l:Int):bY (W.alloc (aW k e l)) W.heap.size k e l:=Zx _ _
end
theorem aUc(w:World):
 Calls Tryz.prog 160 #[.int .i64 1,aO 1 0 0] w fun r w'=>r=.returned (.tuple #[aO 1 0 0,.bool true])/\Below w.heap.size w w':=by
 have HC:=Hd nI;have Aq:=Hd ((bY.new w 1 0 0).alloc (aW 0 0 0));have Co:Hid (bY ((w.alloc (aW 1 0 0)).alloc (aW 0 0 0)) (w.heap.size+1) 0 0 0):=Hd (heap_alloc2_new _ _ _);have Af:Hid (Below w.heap.size w ((w.alloc (aW 1 0 0)).alloc (aW 0 0 0))):=Hd oF;unfold aO at HC⊢;go_in
 go_wp2_with fail;generalize ((w.alloc (.cells #[.int .i64 1,.int .i64 0,.int .i64 0] 41)).alloc (.cells #[.int .i64 0,.int .i64 0,.int .i64 0] 41))=w1 at *;have l0:=fun d os=>Zs Aq.o.cells.1 d os;have l1:=fun d os=>Zs Aq.o.cells.2.1 d os;have l2:=fun d os=>Zs Aq.o.cells.2.2 d os;have cA:=fun d os=>Zi (HC.o 1 (grow (redrawn w1 d) os));refine Xa aC aC ?_;repeat (quiet_step (exact cA _ _))
 refine Xg ?_;intro _ Cy;obtain⟨⟨dq,Bj⟩,Bl⟩:=Cy;subst Bl;have HX:=Hd (Aq.o.regrown dq Bj);have HR:=Hd (Co.o.regrown dq Bj);have HB:=Hd (Af.o.trans ((Zt w1 dq Bj).mono Af.o.size));clear cA l0 l1 l2 Aq Co Af;generalize grow (redrawn w1 dq) Bj=wq at *;go_wp2_with (first|(refine wpList_load_row rfl _ _ rfl w.heap.size rfl _ _ _ _ HX.o Tryz.underlying41 rfl cK ?_)|(refine Zv rfl _ _ _ rfl (w.heap.size+1) _ rfl rfl _ _ HR.o cK rfl aQ ?_));exact Zu (bA rfl _ _ (w.heap.size+1) 1 0 0 rfl (HR.o.set _ _ _)) rfl ⟨rfl,Xc HB.o aA _⟩
theorem aUd(k e l:Int)(hk:(k==1)=false)(w:World):
 Calls Tryz.prog 160 #[.int .i64 1,aO k e l] w fun r w'=>r=.returned (.tuple #[aO 0 0 0,.bool false])/\Below w.heap.size w w':=by
 have HC:=Hd nI;have Aq:=Hd ((bY.new w k e l).alloc (aW 0 0 0));have Co:Hid (bY ((w.alloc (aW k e l)).alloc (aW 0 0 0)) (w.heap.size+1) 0 0 0):=Hd (heap_alloc2_new _ _ _);have Af:Hid (Below w.heap.size w ((w.alloc (aW k e l)).alloc (aW 0 0 0))):=Hd oF;unfold aO at HC⊢;go_in
 go_wp2_with fail;generalize ((w.alloc (.cells #[.int .i64 k,.int .i64 e,.int .i64 l] 41)).alloc (.cells #[.int .i64 0,.int .i64 0,.int .i64 0] 41))=w1 at *;have l0:=fun d os=>Zs Aq.o.cells.1 d os;have l1:=fun d os=>Zs Aq.o.cells.2.1 d os;have l2:=fun d os=>Zs Aq.o.cells.2.2 d os;have cA:=fun d os=>Zi (HC.o 1 (grow (redrawn w1 d) os));refine Xa aC aC ?_;repeat (quiet_step (exact cA _ _))
 refine Xg ?_;intro _ Cy;obtain⟨⟨dq,Bj⟩,Bl⟩:=Cy;subst Bl;have HX:=Hd (Aq.o.regrown dq Bj);have HR:=Hd (Co.o.regrown dq Bj);have HB:=Hd (Af.o.trans ((Zt w1 dq Bj).mono Af.o.size));clear cA l0 l1 l2 Aq Co Af;generalize grow (redrawn w1 dq) Bj=wq at *;go_wp2_with (first|(refine wpList_load_row rfl _ _ rfl w.heap.size rfl _ _ _ _ HX.o Tryz.underlying41 rfl cK ?_)|(refine Zv rfl _ _ _ rfl (w.heap.size+1) _ rfl rfl _ _ HR.o cK rfl aQ ?_));exact Zu (bA rfl _ _ (w.heap.size+1) 0 0 0 rfl (HR.o.set _ _ _)) rfl ⟨rfl,Xc HB.o aA _⟩
theorem aUe(e l:Int)(hk:(e==0)=false)(w:World):
 Calls Tryz.prog 160 #[.int .i64 1,aO 1 e l] w fun r w'=>r=.returned (.tuple #[aO 0 0 0,.bool false])/\Below w.heap.size w w':=by
 have HC:=Hd nI;have Aq:=Hd ((bY.new w 1 e l).alloc (aW 0 0 0));have Co:Hid (bY ((w.alloc (aW 1 e l)).alloc (aW 0 0 0)) (w.heap.size+1) 0 0 0):=Hd (heap_alloc2_new _ _ _);have Af:Hid (Below w.heap.size w ((w.alloc (aW 1 e l)).alloc (aW 0 0 0))):=Hd oF;unfold aO at HC⊢;go_in
 go_wp2_with fail;generalize ((w.alloc (.cells #[.int .i64 1,.int .i64 e,.int .i64 l] 41)).alloc (.cells #[.int .i64 0,.int .i64 0,.int .i64 0] 41))=w1 at *;have l0:=fun d os=>Zs Aq.o.cells.1 d os;have l1:=fun d os=>Zs Aq.o.cells.2.1 d os;have l2:=fun d os=>Zs Aq.o.cells.2.2 d os;have cA:=fun d os=>Zi (HC.o 1 (grow (redrawn w1 d) os));refine Xa aC aC ?_;repeat (quiet_step (exact cA _ _))
 refine Xg ?_;intro _ Cy;obtain⟨⟨dq,Bj⟩,Bl⟩:=Cy;subst Bl;have HX:=Hd (Aq.o.regrown dq Bj);have HR:=Hd (Co.o.regrown dq Bj);have HB:=Hd (Af.o.trans ((Zt w1 dq Bj).mono Af.o.size));clear cA l0 l1 l2 Aq Co Af;generalize grow (redrawn w1 dq) Bj=wq at *;go_wp2_with (first|(refine wpList_load_row rfl _ _ rfl w.heap.size rfl _ _ _ _ HX.o Tryz.underlying41 rfl cK ?_)|(refine Zv rfl _ _ _ rfl (w.heap.size+1) _ rfl rfl _ _ HR.o cK rfl aQ ?_));exact Zu (bA rfl _ _ (w.heap.size+1) 0 0 0 rfl (HR.o.set _ _ _)) rfl ⟨rfl,Xc HB.o aA _⟩
theorem aUf(l:Int)(hk:(l==0)=false)(w:World):
 Calls Tryz.prog 160 #[.int .i64 1,aO 1 0 l] w fun r w'=>r=.returned (.tuple #[aO 0 0 0,.bool false])/\Below w.heap.size w w':=by
 have HC:=Hd nI;have Aq:=Hd ((bY.new w 1 0 l).alloc (aW 0 0 0));have Co:Hid (bY ((w.alloc (aW 1 0 l)).alloc (aW 0 0 0)) (w.heap.size+1) 0 0 0):=Hd (heap_alloc2_new _ _ _);have Af:Hid (Below w.heap.size w ((w.alloc (aW 1 0 l)).alloc (aW 0 0 0))):=Hd oF;unfold aO at HC⊢;go_in
 go_wp2_with fail;generalize ((w.alloc (.cells #[.int .i64 1,.int .i64 0,.int .i64 l] 41)).alloc (.cells #[.int .i64 0,.int .i64 0,.int .i64 0] 41))=w1 at *;have l0:=fun d os=>Zs Aq.o.cells.1 d os;have l1:=fun d os=>Zs Aq.o.cells.2.1 d os;have l2:=fun d os=>Zs Aq.o.cells.2.2 d os;have cA:=fun d os=>Zi (HC.o 1 (grow (redrawn w1 d) os));refine Xa aC aC ?_;repeat (quiet_step (exact cA _ _))
 refine Xg ?_;intro _ Cy;obtain⟨⟨dq,Bj⟩,Bl⟩:=Cy;subst Bl;have HX:=Hd (Aq.o.regrown dq Bj);have HR:=Hd (Co.o.regrown dq Bj);have HB:=Hd (Af.o.trans ((Zt w1 dq Bj).mono Af.o.size));clear cA l0 l1 l2 Aq Co Af;generalize grow (redrawn w1 dq) Bj=wq at *;go_wp2_with (first|(refine wpList_load_row rfl _ _ rfl w.heap.size rfl _ _ _ _ HX.o Tryz.underlying41 rfl cK ?_)|(refine Zv rfl _ _ _ rfl (w.heap.size+1) _ rfl rfl _ _ HR.o cK rfl aQ ?_));exact Zu (bA rfl _ _ (w.heap.size+1) 0 0 0 rfl (HR.o.set _ _ _)) rfl ⟨rfl,Xc HB.o aA _⟩
theorem aUg(w:World):
 Calls Tryz.prog 160 #[.int .i64 2,aO 2 0 0] w fun r w'=>r=.returned (.tuple #[aO 2 0 0,.bool true])/\Below w.heap.size w w':=by
 have HC:=Hd nI;have Aq:=Hd ((bY.new w 2 0 0).alloc (aW 0 0 0));have Co:Hid (bY ((w.alloc (aW 2 0 0)).alloc (aW 0 0 0)) (w.heap.size+1) 0 0 0):=Hd (heap_alloc2_new _ _ _);have Af:Hid (Below w.heap.size w ((w.alloc (aW 2 0 0)).alloc (aW 0 0 0))):=Hd oF;unfold aO at HC⊢;go_in
 go_wp2_with fail;generalize ((w.alloc (.cells #[.int .i64 2,.int .i64 0,.int .i64 0] 41)).alloc (.cells #[.int .i64 0,.int .i64 0,.int .i64 0] 41))=w1 at *;have l0:=fun d os=>Zs Aq.o.cells.1 d os;have l1:=fun d os=>Zs Aq.o.cells.2.1 d os;have l2:=fun d os=>Zs Aq.o.cells.2.2 d os;have cA:=fun d os=>Zi (HC.o 2 (grow (redrawn w1 d) os));refine Xa aC aC ?_;repeat (quiet_step (exact cA _ _))
 refine Xg ?_;intro _ Cy;obtain⟨⟨dq,Bj⟩,Bl⟩:=Cy;subst Bl;have HX:=Hd (Aq.o.regrown dq Bj);have HR:=Hd (Co.o.regrown dq Bj);have HB:=Hd (Af.o.trans ((Zt w1 dq Bj).mono Af.o.size));clear cA l0 l1 l2 Aq Co Af;generalize grow (redrawn w1 dq) Bj=wq at *;go_wp2_with (first|(refine wpList_load_row rfl _ _ rfl w.heap.size rfl _ _ _ _ HX.o Tryz.underlying41 rfl cK ?_)|(refine Zv rfl _ _ _ rfl (w.heap.size+1) _ rfl rfl _ _ HR.o cK rfl aQ ?_));exact Zu (bA rfl _ _ (w.heap.size+1) 2 0 0 rfl (HR.o.set _ _ _)) rfl ⟨rfl,Xc HB.o aA _⟩
theorem aUh(k e l:Int)(hk:(k==2)=false)(w:World):
 Calls Tryz.prog 160 #[.int .i64 2,aO k e l] w fun r w'=>r=.returned (.tuple #[aO 0 0 0,.bool false])/\Below w.heap.size w w':=by
 have HC:=Hd nI;have Aq:=Hd ((bY.new w k e l).alloc (aW 0 0 0));have Co:Hid (bY ((w.alloc (aW k e l)).alloc (aW 0 0 0)) (w.heap.size+1) 0 0 0):=Hd (heap_alloc2_new _ _ _);have Af:Hid (Below w.heap.size w ((w.alloc (aW k e l)).alloc (aW 0 0 0))):=Hd oF;unfold aO at HC⊢;go_in
 go_wp2_with fail;generalize ((w.alloc (.cells #[.int .i64 k,.int .i64 e,.int .i64 l] 41)).alloc (.cells #[.int .i64 0,.int .i64 0,.int .i64 0] 41))=w1 at *;have l0:=fun d os=>Zs Aq.o.cells.1 d os;have l1:=fun d os=>Zs Aq.o.cells.2.1 d os;have l2:=fun d os=>Zs Aq.o.cells.2.2 d os;have cA:=fun d os=>Zi (HC.o 2 (grow (redrawn w1 d) os));refine Xa aC aC ?_;repeat (quiet_step (exact cA _ _))
 refine Xg ?_;intro _ Cy;obtain⟨⟨dq,Bj⟩,Bl⟩:=Cy;subst Bl;have HX:=Hd (Aq.o.regrown dq Bj);have HR:=Hd (Co.o.regrown dq Bj);have HB:=Hd (Af.o.trans ((Zt w1 dq Bj).mono Af.o.size));clear cA l0 l1 l2 Aq Co Af;generalize grow (redrawn w1 dq) Bj=wq at *;go_wp2_with (first|(refine wpList_load_row rfl _ _ rfl w.heap.size rfl _ _ _ _ HX.o Tryz.underlying41 rfl cK ?_)|(refine Zv rfl _ _ _ rfl (w.heap.size+1) _ rfl rfl _ _ HR.o cK rfl aQ ?_));exact Zu (bA rfl _ _ (w.heap.size+1) 0 0 0 rfl (HR.o.set _ _ _)) rfl ⟨rfl,Xc HB.o aA _⟩
theorem aUi(e l:Int)(hk:(e==0)=false)(w:World):
 Calls Tryz.prog 160 #[.int .i64 2,aO 2 e l] w fun r w'=>r=.returned (.tuple #[aO 0 0 0,.bool false])/\Below w.heap.size w w':=by
 have HC:=Hd nI;have Aq:=Hd ((bY.new w 2 e l).alloc (aW 0 0 0));have Co:Hid (bY ((w.alloc (aW 2 e l)).alloc (aW 0 0 0)) (w.heap.size+1) 0 0 0):=Hd (heap_alloc2_new _ _ _);have Af:Hid (Below w.heap.size w ((w.alloc (aW 2 e l)).alloc (aW 0 0 0))):=Hd oF;unfold aO at HC⊢;go_in
 go_wp2_with fail;generalize ((w.alloc (.cells #[.int .i64 2,.int .i64 e,.int .i64 l] 41)).alloc (.cells #[.int .i64 0,.int .i64 0,.int .i64 0] 41))=w1 at *;have l0:=fun d os=>Zs Aq.o.cells.1 d os;have l1:=fun d os=>Zs Aq.o.cells.2.1 d os;have l2:=fun d os=>Zs Aq.o.cells.2.2 d os;have cA:=fun d os=>Zi (HC.o 2 (grow (redrawn w1 d) os));refine Xa aC aC ?_;repeat (quiet_step (exact cA _ _))
 refine Xg ?_;intro _ Cy;obtain⟨⟨dq,Bj⟩,Bl⟩:=Cy;subst Bl;have HX:=Hd (Aq.o.regrown dq Bj);have HR:=Hd (Co.o.regrown dq Bj);have HB:=Hd (Af.o.trans ((Zt w1 dq Bj).mono Af.o.size));clear cA l0 l1 l2 Aq Co Af;generalize grow (redrawn w1 dq) Bj=wq at *;go_wp2_with (first|(refine wpList_load_row rfl _ _ rfl w.heap.size rfl _ _ _ _ HX.o Tryz.underlying41 rfl cK ?_)|(refine Zv rfl _ _ _ rfl (w.heap.size+1) _ rfl rfl _ _ HR.o cK rfl aQ ?_));exact Zu (bA rfl _ _ (w.heap.size+1) 0 0 0 rfl (HR.o.set _ _ _)) rfl ⟨rfl,Xc HB.o aA _⟩
theorem aUj(l:Int)(hk:(l==0)=false)(w:World):
 Calls Tryz.prog 160 #[.int .i64 2,aO 2 0 l] w fun r w'=>r=.returned (.tuple #[aO 0 0 0,.bool false])/\Below w.heap.size w w':=by
 have HC:=Hd nI;have Aq:=Hd ((bY.new w 2 0 l).alloc (aW 0 0 0));have Co:Hid (bY ((w.alloc (aW 2 0 l)).alloc (aW 0 0 0)) (w.heap.size+1) 0 0 0):=Hd (heap_alloc2_new _ _ _);have Af:Hid (Below w.heap.size w ((w.alloc (aW 2 0 l)).alloc (aW 0 0 0))):=Hd oF;unfold aO at HC⊢;go_in
 go_wp2_with fail;generalize ((w.alloc (.cells #[.int .i64 2,.int .i64 0,.int .i64 l] 41)).alloc (.cells #[.int .i64 0,.int .i64 0,.int .i64 0] 41))=w1 at *;have l0:=fun d os=>Zs Aq.o.cells.1 d os;have l1:=fun d os=>Zs Aq.o.cells.2.1 d os;have l2:=fun d os=>Zs Aq.o.cells.2.2 d os;have cA:=fun d os=>Zi (HC.o 2 (grow (redrawn w1 d) os));refine Xa aC aC ?_;repeat (quiet_step (exact cA _ _))
 refine Xg ?_;intro _ Cy;obtain⟨⟨dq,Bj⟩,Bl⟩:=Cy;subst Bl;have HX:=Hd (Aq.o.regrown dq Bj);have HR:=Hd (Co.o.regrown dq Bj);have HB:=Hd (Af.o.trans ((Zt w1 dq Bj).mono Af.o.size));clear cA l0 l1 l2 Aq Co Af;generalize grow (redrawn w1 dq) Bj=wq at *;go_wp2_with (first|(refine wpList_load_row rfl _ _ rfl w.heap.size rfl _ _ _ _ HX.o Tryz.underlying41 rfl cK ?_)|(refine Zv rfl _ _ _ rfl (w.heap.size+1) _ rfl rfl _ _ HR.o cK rfl aQ ?_));exact Zu (bA rfl _ _ (w.heap.size+1) 0 0 0 rfl (HR.o.set _ _ _)) rfl ⟨rfl,Xc HB.o aA _⟩
theorem aUk(op k e l:Int)(h1:(op==1)=false)(h2:(op==2)=false)(w:World):
 Calls Tryz.prog 160 #[.int .i64 op,aO k e l] w fun r w'=>r=.returned (.tuple #[aO 0 0 0,.bool false])/\Below w.heap.size w w':=by
 have HC:=Hd nI;have Aq:=Hd ((bY.new w k e l).alloc (aW 0 0 0));have Co:Hid (bY ((w.alloc (aW k e l)).alloc (aW 0 0 0)) (w.heap.size+1) 0 0 0):=Hd (heap_alloc2_new _ _ _);have Af:Hid (Below w.heap.size w ((w.alloc (aW k e l)).alloc (aW 0 0 0))):=Hd oF;unfold aO at HC⊢;go_in
 go_wp2_with fail;generalize ((w.alloc (.cells #[.int .i64 k,.int .i64 e,.int .i64 l] 41)).alloc (.cells #[.int .i64 0,.int .i64 0,.int .i64 0] 41))=w1 at *;have l0:=fun d os=>Zs Aq.o.cells.1 d os;have l1:=fun d os=>Zs Aq.o.cells.2.1 d os;have l2:=fun d os=>Zs Aq.o.cells.2.2 d os;refine Xa aC aC ?_;repeat (quiet_step (fail))
 refine Xg ?_;intro _ Cy;obtain⟨⟨dq,Bj⟩,Bl⟩:=Cy;subst Bl;have HX:=Hd (Aq.o.regrown dq Bj);have HR:=Hd (Co.o.regrown dq Bj);have HB:=Hd (Af.o.trans ((Zt w1 dq Bj).mono Af.o.size));clear l0 l1 l2 Aq Co Af;generalize grow (redrawn w1 dq) Bj=wq at *;go_wp2_with (first|(refine wpList_load_row rfl _ _ rfl w.heap.size rfl _ _ _ _ HX.o Tryz.underlying41 rfl cK ?_)|(refine Zv rfl _ _ _ rfl (w.heap.size+1) _ rfl rfl _ _ HR.o cK rfl aQ ?_));exact Zu (bA rfl _ _ (w.heap.size+1) 0 0 0 rfl (HR.o.set _ _ _)) rfl ⟨rfl,Xc HB.o aA _⟩
theorem bC4(op k e l:Int)(w:World):
 Calls Tryz.prog 160 #[.int .i64 op,aO k e l] w fun r w'=>r=.returned (.tuple #[mE (dE op k e l),.bool (dE op k e l).isSome])/\Below w.heap.size w w':=by
 by_cases o1:op=1
 . subst o1;by_cases hk:k=1
   . subst hk;by_cases he:e=0
     . subst he;by_cases hl:l=0
       . subst hl;exact aUc w
       . have e:dE 1 1 0 l=none:=by simp[dE,hl]
         rw[e];exact aUf l sF w
     . have e:dE 1 1 e l=none:=by simp[dE,he]
       rw[e];exact aUe _ l sH w
   . have e:dE 1 k e l=none:=by simp[dE,hk]
     rw[e];exact aUd k _ l kT w
 . by_cases o2:op=2
   . subst o2;by_cases hk:k=2
     . subst hk;by_cases he:e=0
       . subst he;by_cases hl:l=0
         . subst hl;exact aUg w
         . have e:dE 2 2 0 l=none:=by simp[dE,hl]
           rw[e];exact aUj l sF w
       . have e:dE 2 2 e l=none:=by simp[dE,he]
         rw[e];exact aUi _ l sH w
     . have e:dE 2 k e l=none:=by simp[dE,hk]
       rw[e];exact aUh k _ l kT w
   . have e:dE op k e l=none:=by simp[dE,o1,o2]
     rw[e];exact aUk op k _ l (by simpa using o1) (by simpa using o2) w
end
section
open Go.RowKit Go.Sort
def bB(K k e l:Int):Bool:=decide (k=K) && decide (e=0) && decide (l=0)
def fR(k e l k' e' l':Int):Bool:=decide (k=k') && decide (e=e') && decide (l=l') && decide (l=0)
def iT(op:Int)(I B S:Bool):Option Int:=
 if 3<=op/\op<=7 then(if I then some 1 else none)else if 8<=op/\op<=10 then(if B then some 2 else none)
 else if op=11\/op=12 then(if S then some 2 else none)else if 13<=op/\op<=16 then(if I then some 2 else none)else none
theorem pN(K k e l:Int):(k=K/\e=0/\l=0/\bB K k e l=true)\/((k==K)=false/\bB K k e l=false)\/(k=K/\(e==0)=false/\bB K k e l=false)\/(k=K/\e=0/\(l==0)=false/\bB K k e l=false):=by
 by_cases hk:k=K
 . by_cases he:e=0
   . by_cases hl:l=0;· exact .inl ⟨hk,he,hl,by simp[bB,hk,he,hl]⟩
     . exact .inr (.inr (.inr ⟨hk,he,by simpa using hl,by simp[bB,hl]⟩))
   . exact .inr (.inr (.inl ⟨hk,by simpa using he,by simp[bB,he]⟩))
 . exact .inr (.inl ⟨by simpa using hk,by simp[bB,hk]⟩)
theorem aBk(k e l k' e' l':Int):(k=k'/\e=e'/\l=l'/\l=0/\fR k e l k' e' l'=true)\/((k==k')=false/\fR k e l k' e' l'=false)\/(k=k'/\(e==e')=false/\fR k e l k' e' l'=false)\/
 (k=k'/\e=e'/\(l==l')=false/\fR k e l k' e' l'=false)\/(k=k'/\e=e'/\l=l'/\(l==0)=false/\fR k e l k' e' l'=false):=by
 by_cases hk:k=k'
 . by_cases he:e=e'
   . by_cases hl:l=l'
     . by_cases h0:l=0;· exact .inl ⟨hk,he,hl,h0,by simp[fR,hk,he,<-hl,h0]⟩
       . exact .inr (.inr (.inr (.inr ⟨hk,he,hl,by simpa using h0,by simp[fR,h0]⟩)))
     . exact .inr (.inr (.inr (.inl ⟨hk,he,by simpa using hl,by simp[fR,hl]⟩)))
   . exact .inr (.inr (.inl ⟨hk,by simpa using he,by simp[fR,he]⟩))
 . exact .inr (.inl ⟨by simpa using hk,by simp[fR,hk]⟩)
theorem aJd{op:Int}{I B S:Bool}(Ei:op<3\/16<op):iT op I B S=none:=by
 unfold iT;repeat rw[if_neg aA]
theorem aJe{op k e l k' e' l':Int}(h:fR k e l k' e' l'=false):iT op (bB 1 k e l && bB 1 k' e' l') (bB 2 k e l && bB 2 k' e' l') (fR k e l k' e' l')=none:=by
 have hI:∀K,(bB K k e l && bB K k' e' l')=false:=fun K=>by
  rw[<-h];unfold bB fR at *;by_cases h1:k=k'<;>by_cases h2:e=e'<;>by_cases h3:l=l'<;>by_cases h4:l=0<;>simp_all
  all_goals omega
 rw[hI 1,hI 2,h];unfold iT;simp
theorem jA{o o':Option Int}(h:o'=o):Ending.returned (.tuple #[mE o,.bool o.isSome])=Ending.returned (.tuple #[mE o',.bool o'.isSome]):=uC
theorem vQ{x y:Bool}(h:x=false):false=(x && y):=by rw[h];rfl
theorem aLp{x y:Bool}(h:x=true)(h':y=true):true=(x && y):=by rw[h,h'];rfl
theorem aLq{x y:Bool}(h:x=true)(h':y=false):false=(x && y):=by rw[h,h'];rfl
theorem bC5(e l:Int):bB 2 1 e l=false:=by simp[bB]
theorem aZn(op k e l k' e' l':Int)(w:World):
 Calls Tryz.prog 161 #[.int .i64 op,aO k e l,aO k' e' l'] w fun r w'=>
  r=.returned (.tuple #[mE (iT op (bB 1 k e l && bB 1 k' e' l') (bB 2 k e l && bB 2 k' e' l') (fR k e l k' e' l')),.bool (iT op (bB 1 k e l && bB 1 k' e' l') (bB 2 k e l && bB 2 k' e' l') (fR k e l k' e' l')).isSome])/\Below w.heap.size w w':=by
 have HC:=Hd nI;have Aq:=Hd (((bY.new w k e l).alloc (aW k' e' l')).alloc (aW 0 0 0));have Bp:Hid (bY (((w.alloc (aW k e l)).alloc (aW k' e' l')).alloc (aW 0 0 0)) (w.heap.size+1) k' e' l'):=Hd (hZ _ (heap_alloc2_new _ _ _))
 have Co:Hid (bY (((w.alloc (aW k e l)).alloc (aW k' e' l')).alloc (aW 0 0 0)) (w.heap.size+1+1) 0 0 0):=Hd (by
  have:=bY.new ((w.alloc (aW k e l)).alloc (aW k' e' l')) 0 0 0
  simpa using this)
 have Af:Hid (Below w.heap.size w (((w.alloc (aW k e l)).alloc (aW k' e' l')).alloc (aW 0 0 0))):=Hd oF;unfold aO at HC⊢;go_in
 go_upto_region 1 with(fail);generalize (((w.alloc (.cells #[.int .i64 k,.int .i64 e,.int .i64 l] 41)).alloc (.cells #[.int .i64 k',.int .i64 e',.int .i64 l'] 41)).alloc (.cells #[.int .i64 0,.int .i64 0,.int .i64 0] 41))=w1 at *;go_cut [8,9] (fun v8 v9 wx=>v8=.bool (bB 1 k e l && bB 1 k' e' l')/\v9=.bool (bB 2 k e l && bB 2 k' e' l')/\bY wx w.heap.size k e l/\bY wx (w.heap.size+1) k' e' l'/\bY wx (w.heap.size+1+1) 0 0 0/\Below w.heap.size w wx)
 case first=>
  rcases pN 1 k e l with⟨rfl,rfl,rfl,hp⟩|⟨hk,hp⟩|⟨rfl,hk,hp⟩|⟨rfl,rfl,hk,hp⟩
  . have Bx:bB 2 1 0 0=false:=rfl;have Jx:bB 1 1 0 0=true:=rfl;clear hp;rcases pN 1 k' e' l' with⟨rfl,rfl,rfl,hq⟩|⟨hm,hq⟩|⟨rfl,hm,hq⟩|⟨rfl,rfl,hm,hq⟩
    all_goals
     have Fp:=Hd Jx;have Il:=Hd Bx;have Io:=Hd hq;clear Jx Bx hq;have l0:=fun d os=>Zs Aq.o.cells.1 d os;have l1:=fun d os=>Zs Aq.o.cells.2.1 d os;have l2:=fun d os=>Zs Aq.o.cells.2.2 d os;have m0:=fun d os=>Zs Bp.o.cells.1 d os;have m1:=fun d os=>Zs Bp.o.cells.2.1 d os;have m2:=fun d os=>Zs Bp.o.cells.2.2 d os;have cA:=fun K d os=>Zi (HC.o K (grow (redrawn w1 d) os));refine Xa aC aC ?_;repeat (quiet_step (exact cA _ _ _))
     refine Xg ?_;intro _ Cy;obtain⟨⟨dq,Bj⟩,Bl⟩:=Cy;subst Bl;have HX:=Hd (Aq.o.regrown dq Bj);have HY:=Hd (Bp.o.regrown dq Bj);have HR:=Hd (Co.o.regrown dq Bj);have HB:=Hd (Af.o.trans ((Zt w1 dq Bj).mono Af.o.size));clear cA l0 l1 l2 m0 m1 m2 Aq Co Af Bp;generalize grow (redrawn w1 dq) Bj=wq at *;go_wp2_with fail;go_meet
     case rel=>exact⟨congrArg Value.bool fB8,congrArg Value.bool fB8,HX.o,HY.o,HR.o,HB.o⟩
  . rcases pN 2 k e l with⟨rfl,rfl,rfl,Bx⟩|⟨hk2,Bx⟩|⟨rfl,hk2,Bx⟩|⟨rfl,rfl,hk2,Bx⟩
    . clear hk;rcases pN 2 k' e' l' with⟨rfl,rfl,rfl,hq⟩|⟨hm,hq⟩|⟨rfl,hm,hq⟩|⟨rfl,rfl,hm,hq⟩
      all_goals
       have Fp:=Hd hp;have Il:=Hd Bx;have Io:=Hd hq;clear hp Bx hq;have l0:=fun d os=>Zs Aq.o.cells.1 d os;have l1:=fun d os=>Zs Aq.o.cells.2.1 d os;have l2:=fun d os=>Zs Aq.o.cells.2.2 d os;have m0:=fun d os=>Zs Bp.o.cells.1 d os;have m1:=fun d os=>Zs Bp.o.cells.2.1 d os;have m2:=fun d os=>Zs Bp.o.cells.2.2 d os;have cA:=fun K d os=>Zi (HC.o K (grow (redrawn w1 d) os));refine Xa aC aC ?_;repeat (quiet_step (exact cA _ _ _))
       refine Xg ?_;intro _ Cy;obtain⟨⟨dq,Bj⟩,Bl⟩:=Cy;subst Bl;have HX:=Hd (Aq.o.regrown dq Bj);have HY:=Hd (Bp.o.regrown dq Bj);have HR:=Hd (Co.o.regrown dq Bj);have HB:=Hd (Af.o.trans ((Zt w1 dq Bj).mono Af.o.size));clear cA l0 l1 l2 m0 m1 m2 Aq Co Af Bp;generalize grow (redrawn w1 dq) Bj=wq at *;go_wp2_with fail;go_meet
       case rel=>exact⟨congrArg Value.bool fB8,congrArg Value.bool fB8,HX.o,HY.o,HR.o,HB.o⟩
    all_goals
     have Fp:=Hd hp;have Il:=Hd Bx;clear hp Bx;have l0:=fun d os=>Zs Aq.o.cells.1 d os;have l1:=fun d os=>Zs Aq.o.cells.2.1 d os;have l2:=fun d os=>Zs Aq.o.cells.2.2 d os;have m0:=fun d os=>Zs Bp.o.cells.1 d os;have m1:=fun d os=>Zs Bp.o.cells.2.1 d os;have m2:=fun d os=>Zs Bp.o.cells.2.2 d os;have cA:=fun K d os=>Zi (HC.o K (grow (redrawn w1 d) os));refine Xa aC aC ?_;repeat (quiet_step (exact cA _ _ _))
     refine Xg ?_;intro _ Cy;obtain⟨⟨dq,Bj⟩,Bl⟩:=Cy;subst Bl;have HX:=Hd (Aq.o.regrown dq Bj);have HY:=Hd (Bp.o.regrown dq Bj);have HR:=Hd (Co.o.regrown dq Bj);have HB:=Hd (Af.o.trans ((Zt w1 dq Bj).mono Af.o.size));clear cA l0 l1 l2 m0 m1 m2 Aq Co Af Bp;generalize grow (redrawn w1 dq) Bj=wq at *;go_wp2_with fail;go_meet
     case rel=>exact⟨congrArg Value.bool aAg,congrArg Value.bool aAg,HX.o,HY.o,HR.o,HB.o⟩
  all_goals
   have Fp:=Hd hp;have Il:=Hd bC5;clear hp;have l0:=fun d os=>Zs Aq.o.cells.1 d os;have l1:=fun d os=>Zs Aq.o.cells.2.1 d os;have l2:=fun d os=>Zs Aq.o.cells.2.2 d os;have m0:=fun d os=>Zs Bp.o.cells.1 d os;have m1:=fun d os=>Zs Bp.o.cells.2.1 d os;have m2:=fun d os=>Zs Bp.o.cells.2.2 d os;have cA:=fun K d os=>Zi (HC.o K (grow (redrawn w1 d) os));refine Xa aC aC ?_;repeat (quiet_step (exact cA _ _ _))
   refine Xg ?_;intro _ Cy;obtain⟨⟨dq,Bj⟩,Bl⟩:=Cy;subst Bl;have HX:=Hd (Aq.o.regrown dq Bj);have HY:=Hd (Bp.o.regrown dq Bj);have HR:=Hd (Co.o.regrown dq Bj);have HB:=Hd (Af.o.trans ((Zt w1 dq Bj).mono Af.o.size));clear cA l0 l1 l2 m0 m1 m2 Aq Co Af Bp;generalize grow (redrawn w1 dq) Bj=wq at *;go_wp2_with fail;go_meet
   case rel=>exact⟨congrArg Value.bool aAg,congrArg Value.bool aAg,HX.o,HY.o,HR.o,HB.o⟩
 case rest=>
  obtain⟨rfl,rfl,HX,HY,HR,HB⟩:=hcut;have HR:=Hd HR;have HB:=Hd HB;clear Aq Bp Co Af HC;obtain Ei|Ei|Ei|Ei|Ei:(3<=op/\op<=7)\/(8<=op/\op<=10)\/(op=11\/op=12)\/(13<=op/\op<=16)\/(op<3\/16<op):=by omega
  . clear HX HY;generalize hI:(bB 1 k e l && bB 1 k' e' l')=I;generalize hB:(bB 2 k e l && bB 2 k' e' l')=B;have HI:=Hd hI;clear hI hB;obtain rfl|rfl|rfl|rfl|rfl:op=3\/op=4\/op=5\/op=6\/op=7:=by omega
    all_goals
     clear Ei;cases I;· exact aQp
     . go_wp2_with (first|(go_at_call 181;refine(oM _ _).mono ?_;unfold aO;rintro r w2 ⟨rfl,rfl⟩)|(refine Zv rfl _ _ _ rfl (w.heap.size+1+1) _ rfl rfl _ _ (HR.o) cK rfl aQ ?_)|(refine Zv rfl _ _ _ rfl (w.heap.size+1+1) _ rfl rfl _ _ (HR.o.alloc _) cK rfl aQ ?_));exact Zu (bA (p:=6) (u:=7) rfl _ _ (w.heap.size+1+1) 1 0 0 rfl ((HR.o.alloc _).set _ _ _)) rfl ⟨jA (o:=some 1) wK,Xc (HB.o.alloc HB.o.size _) aA _⟩
  . clear HX HY;generalize hI:(bB 1 k e l && bB 1 k' e' l')=I;generalize hB:(bB 2 k e l && bB 2 k' e' l')=B;have HP:=Hd hB;clear hI hB;obtain rfl|rfl|rfl:op=8\/op=9\/op=10:=by omega
    all_goals
     clear Ei;cases B
     . go_wp2_with (first|(go_at_call 181;refine(oM _ _).mono ?_;unfold aO;rintro r w2 ⟨rfl,rfl⟩)|(refine Zv rfl _ _ _ rfl (w.heap.size+1+1) _ rfl rfl _ _ (HR.o) cK rfl aQ ?_)|(refine Zv rfl _ _ _ rfl (w.heap.size+1+1) _ rfl rfl _ _ (HR.o.alloc _) cK rfl aQ ?_));exact Zu (bA (p:=6) (u:=7) rfl _ _ (w.heap.size+1+1) 0 0 0 rfl (HR.o.set _ _ _)) rfl ⟨jA (o:=none) (by rw[HP.o];rfl),Xc HB.o aA _⟩
     . go_wp2_with (first|(go_at_call 181;refine(oM _ _).mono ?_;unfold aO;rintro r w2 ⟨rfl,rfl⟩)|(refine Zv rfl _ _ _ rfl (w.heap.size+1+1) _ rfl rfl _ _ (HR.o) cK rfl aQ ?_)|(refine Zv rfl _ _ _ rfl (w.heap.size+1+1) _ rfl rfl _ _ (HR.o.alloc _) cK rfl aQ ?_));exact Zu (bA (p:=6) (u:=7) rfl _ _ (w.heap.size+1+1) 2 0 0 rfl ((HR.o.alloc _).set _ _ _)) rfl ⟨jA (o:=some 2) (by rw[HP.o];rfl),Xc (HB.o.alloc HB.o.size _) aA _⟩
  . have hS:=aBk k e l k' e' l';generalize (bB 1 k e l && bB 1 k' e' l')=I;generalize (bB 2 k e l && bB 2 k' e' l')=B;have c0:=HX.cells.1;have c1:=HX.cells.2.1;have c2:=HX.cells.2.2;have d0:=HY.cells.1;have d1:=HY.cells.2.1;have d2:=HY.cells.2.2;clear HX HY;rcases hS with⟨rfl,rfl,rfl,rfl,hs⟩|hS
    . have HS:=Hd hs;clear hs;rcases Ei with rfl|rfl
      all_goals
       go_wp2_with (first|(go_at_call 181;refine(oM _ _).mono ?_;unfold aO;rintro r w2 ⟨rfl,rfl⟩)|(refine Zv rfl _ _ _ rfl (w.heap.size+1+1) _ rfl rfl _ _ (HR.o) cK rfl aQ ?_)|(refine Zv rfl _ _ _ rfl (w.heap.size+1+1) _ rfl rfl _ _ (HR.o.alloc _) cK rfl aQ ?_));exact Zu (bA (p:=6) (u:=7) rfl _ _ (w.heap.size+1+1) 2 0 0 rfl ((HR.o.alloc _).set _ _ _)) rfl ⟨jA (o:=some 2) (by rw[HS.o];rfl),Xc (HB.o.alloc HB.o.size _) aA _⟩
    . rcases hS with⟨hk,hs⟩|⟨rfl,hk,hs⟩|⟨rfl,rfl,hk,hs⟩|⟨rfl,rfl,rfl,hk,hs⟩
      all_goals
       have HS:=Hd hs;clear hs;rcases Ei with rfl|rfl
       all_goals
        go_wp2_with (first|(go_at_call 181;refine(oM _ _).mono ?_;unfold aO;rintro r w2 ⟨rfl,rfl⟩)|(refine Zv rfl _ _ _ rfl (w.heap.size+1+1) _ rfl rfl _ _ (HR.o) cK rfl aQ ?_)|(refine Zv rfl _ _ _ rfl (w.heap.size+1+1) _ rfl rfl _ _ (HR.o.alloc _) cK rfl aQ ?_));exact Zu (bA (p:=6) (u:=7) rfl _ _ (w.heap.size+1+1) 0 0 0 rfl (HR.o.set _ _ _)) rfl ⟨jA (o:=none) (by rw[HS.o];rfl),Xc HB.o aA _⟩
  . clear HX HY;generalize hI:(bB 1 k e l && bB 1 k' e' l')=I;generalize hB:(bB 2 k e l && bB 2 k' e' l')=B;have HI:=Hd hI;clear hI hB;obtain rfl|rfl|rfl|rfl:op=13\/op=14\/op=15\/op=16:=by omega
    all_goals
     clear Ei;cases I;· exact aQp
     . go_wp2_with (first|(go_at_call 181;refine(oM _ _).mono ?_;unfold aO;rintro r w2 ⟨rfl,rfl⟩)|(refine Zv rfl _ _ _ rfl (w.heap.size+1+1) _ rfl rfl _ _ (HR.o) cK rfl aQ ?_)|(refine Zv rfl _ _ _ rfl (w.heap.size+1+1) _ rfl rfl _ _ (HR.o.alloc _) cK rfl aQ ?_));exact Zu (bA (p:=6) (u:=7) rfl _ _ (w.heap.size+1+1) 2 0 0 rfl ((HR.o.alloc _).set _ _ _)) rfl ⟨jA (o:=some 2) wK,Xc (HB.o.alloc HB.o.size _) aA _⟩
  . clear HX HY;generalize hI:(bB 1 k e l && bB 1 k' e' l')=I;generalize hB:(bB 2 k e l && bB 2 k' e' l')=B;clear hI hB;have HN:=Hd (fun I B S=>aJd (I:=I) (B:=B) (S:=S) Ei);have Nt:(op==11)=false:=mV;have Nu:(op==12)=false:=mV;rcases Ei with Ei|Ei
    all_goals
     go_wp2_with (first|(go_at_call 181;refine(oM _ _).mono ?_;unfold aO;rintro r w2 ⟨rfl,rfl⟩)|(refine Zv rfl _ _ _ rfl (w.heap.size+1+1) _ rfl rfl _ _ (HR.o) cK rfl aQ ?_)|(refine Zv rfl _ _ _ rfl (w.heap.size+1+1) _ rfl rfl _ _ (HR.o.alloc _) cK rfl aQ ?_));exact Zu (bA (p:=6) (u:=7) rfl _ _ (w.heap.size+1+1) 0 0 0 rfl (HR.o.set _ _ _)) rfl ⟨jA (o:=none) (HN.o _ _ _),Xc HB.o aA _⟩
theorem aWd(w:World):
 Calls Tryz.prog 143 #[.int .i64 1,aO 1 0 0] w fun r w'=>r=.returned (.tuple #[aO 1 0 0,.bool true])/\Below w.heap.size w w':=by
 unfold aO;go_in
 go_wp2_with fail;go_region_held3 (fun W=>W.cell? ⟨w.heap.size,0,none⟩=some (.int .i64 1)/\W.cell? ⟨w.heap.size,1,none⟩=some (.int .i64 0)/\W.cell? ⟨w.heap.size,2,none⟩=some (.int .i64 0)) (first|(refine⟨?_,?_,?_⟩<;>simp[go_sem])|exact trivial) (first|(go_at_call 173;refine(mP _ _).mono ?_;unfold aO aW;rintro r w1 ⟨rfl,rfl⟩)|(go_at_call 172;refine(uO _ _ _ _).mono ?_;unfold aO aW;rintro r w1 ⟨rfl,rfl⟩));go_wp2_with fail;refine Zu (bA rfl _ _ (w.heap.size+1) 1 0 0 rfl ?_) rfl ⟨rfl,?_⟩;· exact oZ
 . exact pC
theorem aWe(k e l:Int)(hk:(k==1)=false)(w:World):
 Calls Tryz.prog 143 #[.int .i64 1,aO k e l] w fun r w'=>r=.returned (.tuple #[aO 0 0 0,.bool false])/\Below w.heap.size w w':=by
 unfold aO;go_in
 go_wp2_with fail;go_region_held3 (fun W=>W.cell? ⟨w.heap.size,0,none⟩=some (.int .i64 k)/\W.cell? ⟨w.heap.size,1,none⟩=some (.int .i64 e)/\W.cell? ⟨w.heap.size,2,none⟩=some (.int .i64 l)) (first|(refine⟨?_,?_,?_⟩<;>simp[go_sem])|exact trivial) (first|(go_at_call 173;refine(mP _ _).mono ?_;unfold aO aW;rintro r w1 ⟨rfl,rfl⟩)|(go_at_call 172;refine(oK _ _ _ _).mono ?_;unfold aO aW;rintro r w1 ⟨rfl,rfl⟩));go_wp2_with fail;refine Zu (bA rfl _ _ (w.heap.size+1) 0 0 0 rfl ?_) rfl ⟨rfl,?_⟩;· exact oZ
 . exact pC
theorem aWf(e l:Int)(hk:(e==0)=false)(w:World):
 Calls Tryz.prog 143 #[.int .i64 1,aO 1 e l] w fun r w'=>r=.returned (.tuple #[aO 0 0 0,.bool false])/\Below w.heap.size w w':=by
 unfold aO;go_in
 go_wp2_with fail;go_region_held3 (fun W=>W.cell? ⟨w.heap.size,0,none⟩=some (.int .i64 1)/\W.cell? ⟨w.heap.size,1,none⟩=some (.int .i64 e)/\W.cell? ⟨w.heap.size,2,none⟩=some (.int .i64 l)) (first|(refine⟨?_,?_,?_⟩<;>simp[go_sem])|exact trivial) (first|(go_at_call 173;refine(mP _ _).mono ?_;unfold aO aW;rintro r w1 ⟨rfl,rfl⟩)|(go_at_call 172;refine(oK _ _ _ _).mono ?_;unfold aO aW;rintro r w1 ⟨rfl,rfl⟩));go_wp2_with fail;refine Zu (bA rfl _ _ (w.heap.size+1) 0 0 0 rfl ?_) rfl ⟨rfl,?_⟩;· exact oZ
 . exact pC
theorem aWg(l:Int)(hk:(l==0)=false)(w:World):
 Calls Tryz.prog 143 #[.int .i64 1,aO 1 0 l] w fun r w'=>r=.returned (.tuple #[aO 0 0 0,.bool false])/\Below w.heap.size w w':=by
 unfold aO;go_in
 go_wp2_with fail;go_region_held3 (fun W=>W.cell? ⟨w.heap.size,0,none⟩=some (.int .i64 1)/\W.cell? ⟨w.heap.size,1,none⟩=some (.int .i64 0)/\W.cell? ⟨w.heap.size,2,none⟩=some (.int .i64 l)) (first|(refine⟨?_,?_,?_⟩<;>simp[go_sem])|exact trivial) (first|(go_at_call 173;refine(mP _ _).mono ?_;unfold aO aW;rintro r w1 ⟨rfl,rfl⟩)|(go_at_call 172;refine(oK _ _ _ _).mono ?_;unfold aO aW;rintro r w1 ⟨rfl,rfl⟩));go_wp2_with fail;refine Zu (bA rfl _ _ (w.heap.size+1) 0 0 0 rfl ?_) rfl ⟨rfl,?_⟩;· exact oZ
 . exact pC
theorem aWh(w:World):
 Calls Tryz.prog 143 #[.int .i64 2,aO 2 0 0] w fun r w'=>r=.returned (.tuple #[aO 2 0 0,.bool true])/\Below w.heap.size w w':=by
 unfold aO;go_in
 go_wp2_with fail;go_region_held3 (fun W=>W.cell? ⟨w.heap.size,0,none⟩=some (.int .i64 2)/\W.cell? ⟨w.heap.size,1,none⟩=some (.int .i64 0)/\W.cell? ⟨w.heap.size,2,none⟩=some (.int .i64 0)) (first|(refine⟨?_,?_,?_⟩<;>simp[go_sem])|exact trivial) (first|(go_at_call 173;refine(mP _ _).mono ?_;unfold aO aW;rintro r w1 ⟨rfl,rfl⟩)|(go_at_call 172;refine(uO _ _ _ _).mono ?_;unfold aO aW;rintro r w1 ⟨rfl,rfl⟩));go_wp2_with fail;refine Zu (bA rfl _ _ (w.heap.size+1) 2 0 0 rfl ?_) rfl ⟨rfl,?_⟩;· exact oZ
 . exact pC
theorem aWi(k e l:Int)(hk:(k==2)=false)(w:World):
 Calls Tryz.prog 143 #[.int .i64 2,aO k e l] w fun r w'=>r=.returned (.tuple #[aO 0 0 0,.bool false])/\Below w.heap.size w w':=by
 unfold aO;go_in
 go_wp2_with fail;go_region_held3 (fun W=>W.cell? ⟨w.heap.size,0,none⟩=some (.int .i64 k)/\W.cell? ⟨w.heap.size,1,none⟩=some (.int .i64 e)/\W.cell? ⟨w.heap.size,2,none⟩=some (.int .i64 l)) (first|(refine⟨?_,?_,?_⟩<;>simp[go_sem])|exact trivial) (first|(go_at_call 173;refine(mP _ _).mono ?_;unfold aO aW;rintro r w1 ⟨rfl,rfl⟩)|(go_at_call 172;refine(oK _ _ _ _).mono ?_;unfold aO aW;rintro r w1 ⟨rfl,rfl⟩));go_wp2_with fail;refine Zu (bA rfl _ _ (w.heap.size+1) 0 0 0 rfl ?_) rfl ⟨rfl,?_⟩;· exact oZ
 . exact pC
theorem aWj(e l:Int)(hk:(e==0)=false)(w:World):
 Calls Tryz.prog 143 #[.int .i64 2,aO 2 e l] w fun r w'=>r=.returned (.tuple #[aO 0 0 0,.bool false])/\Below w.heap.size w w':=by
 unfold aO;go_in
 go_wp2_with fail;go_region_held3 (fun W=>W.cell? ⟨w.heap.size,0,none⟩=some (.int .i64 2)/\W.cell? ⟨w.heap.size,1,none⟩=some (.int .i64 e)/\W.cell? ⟨w.heap.size,2,none⟩=some (.int .i64 l)) (first|(refine⟨?_,?_,?_⟩<;>simp[go_sem])|exact trivial) (first|(go_at_call 173;refine(mP _ _).mono ?_;unfold aO aW;rintro r w1 ⟨rfl,rfl⟩)|(go_at_call 172;refine(oK _ _ _ _).mono ?_;unfold aO aW;rintro r w1 ⟨rfl,rfl⟩));go_wp2_with fail;refine Zu (bA rfl _ _ (w.heap.size+1) 0 0 0 rfl ?_) rfl ⟨rfl,?_⟩;· exact oZ
 . exact pC
theorem aWk(l:Int)(hk:(l==0)=false)(w:World):
 Calls Tryz.prog 143 #[.int .i64 2,aO 2 0 l] w fun r w'=>r=.returned (.tuple #[aO 0 0 0,.bool false])/\Below w.heap.size w w':=by
 unfold aO;go_in
 go_wp2_with fail;go_region_held3 (fun W=>W.cell? ⟨w.heap.size,0,none⟩=some (.int .i64 2)/\W.cell? ⟨w.heap.size,1,none⟩=some (.int .i64 0)/\W.cell? ⟨w.heap.size,2,none⟩=some (.int .i64 l)) (first|(refine⟨?_,?_,?_⟩<;>simp[go_sem])|exact trivial) (first|(go_at_call 173;refine(mP _ _).mono ?_;unfold aO aW;rintro r w1 ⟨rfl,rfl⟩)|(go_at_call 172;refine(oK _ _ _ _).mono ?_;unfold aO aW;rintro r w1 ⟨rfl,rfl⟩));go_wp2_with fail;refine Zu (bA rfl _ _ (w.heap.size+1) 0 0 0 rfl ?_) rfl ⟨rfl,?_⟩;· exact oZ
 . exact pC
theorem aWl(op k e l:Int)(h1:(op==1)=false)(h2:(op==2)=false)(w:World):
 Calls Tryz.prog 143 #[.int .i64 op,aO k e l] w fun r w'=>r=.returned (.tuple #[aO 0 0 0,.bool false])/\Below w.heap.size w w':=by
 unfold aO;go_in
 go_wp2_with fail;refine Zu (bA rfl _ _ (w.heap.size+1) 0 0 0 rfl ?_) rfl ⟨rfl,?_⟩;· exact oZ
 . exact pC
theorem bF0(op k e l:Int)(w:World):
 Calls Tryz.prog 143 #[.int .i64 op,aO k e l] w fun r w'=>r=.returned (.tuple #[mE (dE op k e l),.bool (dE op k e l).isSome])/\Below w.heap.size w w':=by
 by_cases o1:op=1
 . subst o1;by_cases hk:k=1
   . subst hk;by_cases he:e=0
     . subst he;by_cases hl:l=0
       . subst hl;exact aWd w
       . have e:dE 1 1 0 l=none:=by simp[dE,hl]
         rw[e];exact aWg l sF w
     . have e:dE 1 1 e l=none:=by simp[dE,he]
       rw[e];exact aWf _ l sH w
   . have e:dE 1 k e l=none:=by simp[dE,hk]
     rw[e];exact aWe k _ l kT w
 . by_cases o2:op=2
   . subst o2;by_cases hk:k=2
     . subst hk;by_cases he:e=0
       . subst he;by_cases hl:l=0
         . subst hl;exact aWh w
         . have e:dE 2 2 0 l=none:=by simp[dE,hl]
           rw[e];exact aWk l sF w
       . have e:dE 2 2 e l=none:=by simp[dE,he]
         rw[e];exact aWj _ l sH w
     . have e:dE 2 k e l=none:=by simp[dE,hk]
       rw[e];exact aWi k _ l kT w
   . have e:dE op k e l=none:=by simp[dE,o1,o2]
     rw[e];exact aWl op k _ l (by simpa using o1) (by simpa using o2) w
theorem aEy(k e l:Int)(w:World):
 Calls Tryz.prog 148 #[aO k e l] w fun r w'=>r=.returned (aO k e 0)/\Below w.heap.size w w':=by
 unfold aO;have HB:=Hd (((Yg w.heap.size w).alloc (Yh _) (.cells #[.int .i64 k,.int .i64 e,.int .i64 0] 41)).alloc aG (.cells #[.int .i64 k,.int .i64 e,.int .i64 0] 41));go_in
 go_wp2_with fail;refine Zu (v:=.agg #[.int .i64 k,.int .i64 e,.int .i64 0]) ?_ rfl ⟨rfl,HB.o⟩;simp[results,Tryz.f148,go_sem]
end
end Go.Proofs.YtkbpdoomhfkngaaGreat
