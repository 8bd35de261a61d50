/- A part of the proof. Conditions: each theorem's own. -/
import Derived.Test.YtkbpdoomhfkngaaGreatC08
import Derived.Test.YtkbpdoomhfkngaaGreatC09
import Derived.Test.YtkbpdoomhfkngaaGreatC11
import Derived.Test.YtkbpdoomhfkngaaGreatC14
namespace Go.Proofs.YtkbpdoomhfkngaaGreat
set_option linter.unusedVariables false
set_option linter.unusedSimpArgs false
set_option maxRecDepth 100000
set_option maxHeartbeats 40000000
section
open Go.RowKit Go.Sort
theorem kR{op:Int}(h:op<3\/16<op)(k:Int)(hk:3<=k/\k<=16):(op==k)=false:=by
 rw[Xb];omega
theorem aHt(w:World)(A B C:Obj):(((w.alloc A).alloc B).alloc C).heap[w.heap.size+1+1]?=some C:=by
 have:=Zx ((w.alloc A).alloc B) C
 simpa using this
theorem aS4(op k e l k' e' l':Int)(hS:fR k e l k' e' l'=false)(w:World):
 Calls Tryz.prog 144 #[.int .i64 op,aO k e l,aO k' e' l'] w fun r w'=>
  r=.returned (.tuple #[mE (iT op (bB 1 k e l && bB 1 k' e' l') (bB 2 k e l && bB 2 k' e' l') (fR k e l k' e' l')),.bool (iT op (bB 1 k e l && bB 1 k' e' l') (bB 2 k e l && bB 2 k' e' l') (fR k e l k' e' l')).isSome])/\Below w.heap.size w w':=by
 have HS:=Hd hS;have hc:=aBk k e l k' e' l';rw[hS]at hc;clear hS;unfold aO;rcases hc with⟨_,_,_,_,h0⟩|⟨hk,_⟩|⟨rfl,hk,_⟩|⟨rfl,rfl,hk,_⟩|⟨rfl,rfl,rfl,hk,_⟩;· cases h0
 all_goals
  go_in
  go_wp2_with fail;exact Zu (bA (p:=6) (u:=7) rfl _ _ (w.heap.size+1+1) 0 0 0 rfl (by(repeat' (first|exact aHt _ _ _ _|refine qX ?_|refine hZ _ ?_)))) rfl ⟨jA (o:=none) (by first|exact aJe HS.o|simpa using aJe (op:=op) HS.o),by(repeat' (first|exact Yg _ _|refine Below.drew ?_|refine Below.alloc ?_ aE3 _))⟩
theorem bEh(w:World)(A B C D:Obj):((((w.alloc A).alloc B).alloc C).alloc D).heap[w.heap.size+1+1+1]?=some D:=by
 have:=Zx (((w.alloc A).alloc B).alloc C) D
 simpa using this
theorem bEi(w:World)(A B C D E:Obj):(((((w.alloc A).alloc B).alloc C).alloc D).alloc E).heap[w.heap.size+1+1+1+1]?=some E:=by
 have:=Zx ((((w.alloc A).alloc B).alloc C).alloc D) E
 simpa using this
theorem bEj(w:World)(A B C D E F:Obj):((((((w.alloc A).alloc B).alloc C).alloc D).alloc E).alloc F).heap[w.heap.size+1+1+1+1+1]?=some F:=by
 have:=Zx (((((w.alloc A).alloc B).alloc C).alloc D).alloc E) F
 simpa using this
theorem fD(w:World)(k e:Int)(X Y Z:Obj):bY ((((((w.alloc (aW k e 0)).alloc (aW k e 0)).alloc (aW 0 0 0)).alloc X).alloc Y).alloc Z).drew w.heap.size k e 0/\
 bY ((((((w.alloc (aW k e 0)).alloc (aW k e 0)).alloc (aW 0 0 0)).alloc X).alloc Y).alloc Z).drew (w.heap.size+1+1) 0 0 0/\Below w.heap.size w ((((((w.alloc (aW k e 0)).alloc (aW k e 0)).alloc (aW 0 0 0)).alloc X).alloc Y).alloc Z).drew:=
 ⟨((((((bY.new w k e 0).alloc _).alloc _).alloc X).alloc Y).alloc Z).drew,qX (hZ _ (hZ _ (hZ _ (aHt w _ _ _)))),by(repeat' (first|exact Yg _ _|refine Below.drew ?_|refine Below.alloc ?_ aE3 _))⟩
theorem aE0(w:World)(A B C Y Z:Obj):bY ((((((w.alloc A).alloc B).alloc C).alloc (aW 2 0 0)).alloc Y).alloc Z).drew (w.heap.size+1+1+1) 2 0 0:=qX (hZ _ (hZ _ (bEh w _ _ _ _)))
theorem aE1(w:World)(A B C X Z:Obj):bY ((((((w.alloc A).alloc B).alloc C).alloc X).alloc (aW 2 0 0)).alloc Z).drew (w.heap.size+1+1+1+1) 2 0 0:=qX (hZ _ (bEi w _ _ _ _ _))
theorem aE2(w:World)(A B C X Y:Obj):bY ((((((w.alloc A).alloc B).alloc C).alloc X).alloc Y).alloc (aW 2 0 0)).drew (w.heap.size+1+1+1+1+1) 2 0 0:=qX (bEj w _ _ _ _ _ _)
theorem bHr(k e l:Int)(b:Bool)(w:World):
 Calls Tryz.prog 172 #[aO k e l,.bool b] w fun r w'=>r=.returned (.tuple #[if b=true then aO k e l else aO 0 0 0,.bool b])/\Below w.heap.size w w':=by
 cases b;· exact(oK k e l w).mono fun r w' ⟨h,h'⟩=>⟨h,by rw[h'];exact((Yg _ _).alloc (Yh _) _).alloc aG _⟩
 . exact(uO k e l w).mono fun r w' ⟨h,h'⟩=>⟨h,by rw[h'];exact((Yg _ _).alloc (Yh _) _).alloc aG _⟩
theorem aTm(op k e:Int)(w:World):
 Calls Tryz.prog 144 #[.int .i64 op,aO k e 0,aO k e 0] w fun r w'=>
  r=.returned (.tuple #[mE (iT op (bB 1 k e 0) (bB 2 k e 0) true),.bool (iT op (bB 1 k e 0) (bB 2 k e 0) true).isSome])/\Below w.heap.size w w':=by
 have HC:=Hd bHr;unfold aO at HC⊢;go_in
 go_upto_region 3 with(fail);go_cut [8,9] (fun v8 v9 wx=>v8=.bool (bB 1 k e 0)/\∃g,v9=.pointer (some ⟨g,0,none⟩)/\w.heap.size+1+1<g/\bY wx w.heap.size k e 0/\bY wx (w.heap.size+1+1) 0 0 0/\bY wx g 2 0 0/\Below w.heap.size w wx)
 case first=>
  rcases pN 1 k e 0 with⟨rfl,rfl,_,hp⟩|⟨hk,hp⟩|⟨rfl,hk,hp⟩|⟨_,_,h0,_⟩
  . go_region_held3 (fun W=>W.cell? ⟨w.heap.size,0,none⟩=some (.int .i64 1)/\W.cell? ⟨w.heap.size,1,none⟩=some (.int .i64 0)/\W.cell? ⟨w.heap.size,2,none⟩=some (.int .i64 0)) (first|(refine⟨?_,?_,?_⟩<;>simp[go_sem])|exact trivial) (first|(go_at_call 173;refine(mP _ _).mono ?_;unfold aO aW;rintro r w2 ⟨rfl,rfl⟩))
    all_goals
     go_wp2_with fail;go_meet
     case rel=>first|(refine⟨congrArg Value.bool hp.symm,w.heap.size+1+1+1,rfl,?_,?_,?_,?_,?_⟩;omega;exact(fD w 1 0 _ _ _).1;exact(fD w 1 0 _ _ _).2.1;exact aE0 w _ _ _ _ _;exact(fD w 1 0 _ _ _).2.2)|(refine⟨congrArg Value.bool hp.symm,w.heap.size+1+1+1+1,rfl,?_,?_,?_,?_,?_⟩;omega;exact(fD w 1 0 _ _ _).1;exact(fD w 1 0 _ _ _).2.1;exact aE1 w _ _ _ _ _;exact(fD w 1 0 _ _ _).2.2)|(refine⟨congrArg Value.bool hp.symm,w.heap.size+1+1+1+1+1,rfl,?_,?_,?_,?_,?_⟩;omega;exact(fD w 1 0 _ _ _).1;exact(fD w 1 0 _ _ _).2.1;exact aE2 w _ _ _ _ _;exact(fD w 1 0 _ _ _).2.2)
  . go_region_held3 (fun W=>W.cell? ⟨w.heap.size,0,none⟩=some (.int .i64 k)/\W.cell? ⟨w.heap.size,1,none⟩=some (.int .i64 e)/\W.cell? ⟨w.heap.size,2,none⟩=some (.int .i64 0)) (first|(refine⟨?_,?_,?_⟩<;>simp[go_sem])|exact trivial) (first|(go_at_call 173;refine(mP _ _).mono ?_;unfold aO aW;rintro r w2 ⟨rfl,rfl⟩))
    all_goals
     go_wp2_with fail;go_meet
     case rel=>first|(refine⟨congrArg Value.bool hp.symm,w.heap.size+1+1+1,rfl,?_,?_,?_,?_,?_⟩;omega;exact(fD w k e _ _ _).1;exact(fD w k e _ _ _).2.1;exact aE0 w _ _ _ _ _;exact(fD w k e _ _ _).2.2)|(refine⟨congrArg Value.bool hp.symm,w.heap.size+1+1+1+1,rfl,?_,?_,?_,?_,?_⟩;omega;exact(fD w k e _ _ _).1;exact(fD w k e _ _ _).2.1;exact aE1 w _ _ _ _ _;exact(fD w k e _ _ _).2.2)|(refine⟨congrArg Value.bool hp.symm,w.heap.size+1+1+1+1+1,rfl,?_,?_,?_,?_,?_⟩;omega;exact(fD w k e _ _ _).1;exact(fD w k e _ _ _).2.1;exact aE2 w _ _ _ _ _;exact(fD w k e _ _ _).2.2)
  . go_region_held3 (fun W=>W.cell? ⟨w.heap.size,0,none⟩=some (.int .i64 1)/\W.cell? ⟨w.heap.size,1,none⟩=some (.int .i64 e)/\W.cell? ⟨w.heap.size,2,none⟩=some (.int .i64 0)) (first|(refine⟨?_,?_,?_⟩<;>simp[go_sem])|exact trivial) (first|(go_at_call 173;refine(mP _ _).mono ?_;unfold aO aW;rintro r w2 ⟨rfl,rfl⟩))
    all_goals
     go_wp2_with fail;go_meet
     case rel=>first|(refine⟨congrArg Value.bool hp.symm,w.heap.size+1+1+1,rfl,?_,?_,?_,?_,?_⟩;omega;exact(fD w 1 e _ _ _).1;exact(fD w 1 e _ _ _).2.1;exact aE0 w _ _ _ _ _;exact(fD w 1 e _ _ _).2.2)|(refine⟨congrArg Value.bool hp.symm,w.heap.size+1+1+1+1,rfl,?_,?_,?_,?_,?_⟩;omega;exact(fD w 1 e _ _ _).1;exact(fD w 1 e _ _ _).2.1;exact aE1 w _ _ _ _ _;exact(fD w 1 e _ _ _).2.2)|(refine⟨congrArg Value.bool hp.symm,w.heap.size+1+1+1+1+1,rfl,?_,?_,?_,?_,?_⟩;omega;exact(fD w 1 e _ _ _).1;exact(fD w 1 e _ _ _).2.1;exact aE2 w _ _ _ _ _;exact(fD w 1 e _ _ _).2.2)
  . cases h0
 case rest=>
  obtain⟨rfl,g,rfl,hg,hX,hR,hT,hB⟩:=hcut;have An:w.heap.size+1+1≠g:=aA;have HX:=Hd hX;have HR:=Hd hR;have HT:=Hd hT;have HB:=Hd hB;clear hX hR hT hB;obtain Ei|Ei|Ei|Ei|Ei:(3<=op/\op<=7)\/(8<=op/\op<=10)\/(op=11\/op=12)\/(13<=op/\op<=16)\/(op<3\/16<op):=by omega
  . cases hI:bB 1 k e 0
    . have HI:=Hd hI;clear hI;obtain rfl|rfl|rfl|rfl|rfl:op=3\/op=4\/op=5\/op=6\/op=7:=by omega
      all_goals
       clear Ei;go_upto_region 19 with(fail);go_wp2_with (first|(go_at_call 172;refine(oK _ _ _ _).mono ?_;unfold aO aW;rintro r w2 ⟨rfl,rfl⟩)|(refine wpList_load_row rfl _ _ rfl (w.heap.size) rfl _ _ _ _ (HX.o) Tryz.underlying41 rfl cK ?_)|(refine Zv rfl _ _ _ rfl (g) _ rfl rfl _ _ (HT.o) cK rfl aQ ?_)|(refine wpList_load_row rfl _ _ rfl (g) rfl _ _ _ _ (HT.o.set _ _ _) Tryz.underlying41 rfl cK ?_)|(refine Zv rfl _ _ _ rfl (w.heap.size+1+1) _ rfl rfl _ _ (((HR.o.other An _).alloc _).alloc _) cK rfl aQ ?_));exact Zu (bA (p:=6) (u:=7) rfl _ _ (w.heap.size+1+1) 0 0 0 rfl ((((HR.o.other An _).alloc _).alloc _).set _ _ _)) rfl ⟨jA (o:=none) wK,by repeat' (first|exact HB.o|refine Xc ?_ aA _|refine Below.alloc ?_ tX _)⟩
    . obtain⟨rfl,rfl⟩:k=1/\e=0:=by simpa[bB]using hI
      clear hI;obtain rfl|rfl|rfl|rfl|rfl:op=3\/op=4\/op=5\/op=6\/op=7:=by omega
      all_goals
       clear Ei;go_upto_region 19 with(fail);go_wp2_with (first|(go_at_call 172;refine(uO _ _ _ _).mono ?_;unfold aO aW;rintro r w2 ⟨rfl,rfl⟩)|(refine wpList_load_row rfl _ _ rfl (w.heap.size) rfl _ _ _ _ (HX.o) Tryz.underlying41 rfl cK ?_)|(refine Zv rfl _ _ _ rfl (g) _ rfl rfl _ _ (HT.o) cK rfl aQ ?_)|(refine wpList_load_row rfl _ _ rfl (g) rfl _ _ _ _ (HT.o.set _ _ _) Tryz.underlying41 rfl cK ?_)|(refine Zv rfl _ _ _ rfl (w.heap.size+1+1) _ rfl rfl _ _ (((HR.o.other An _).alloc _).alloc _) cK rfl aQ ?_));exact Zu (bA (p:=6) (u:=7) rfl _ _ (w.heap.size+1+1) 1 0 0 rfl ((((HR.o.other An _).alloc _).alloc _).set _ _ _)) rfl ⟨jA (o:=some 1) (rfl),by repeat' (first|exact HB.o|refine Xc ?_ aA _|refine Below.alloc ?_ tX _)⟩
  . rcases pN 2 k e 0 with⟨rfl,rfl,_,hp⟩|⟨hk,hp⟩|⟨rfl,hk,hp⟩|⟨_,_,h0,_⟩
    . have HP:=Hd hp;clear hp;obtain rfl|rfl|rfl:op=8\/op=9\/op=10:=by omega
      all_goals
       clear Ei;go_upto_region 21 with(fail);have l0:=fun d os=>Zs HX.o.cells.1 d os;have l1:=fun d os=>Zs HX.o.cells.2.1 d os;have l2:=fun d os=>Zs HX.o.cells.2.2 d os;have m0:=fun d os=>Zs HT.o.cells.1 d os;have m1:=fun d os=>Zs HT.o.cells.2.1 d os;have m2:=fun d os=>Zs HT.o.cells.2.2 d os;have cA:=fun d os=>Zi (HC.o 2 0 0 true (grow (redrawn wc d) os));refine kE (l1:=[_,_,_,_,_,_,_]) (l2:=[_,_]) aC aC aC aC aC ?_;repeat (quiet_step (exact cA _ _))
       refine Xg ?_;intro _ Cy;obtain⟨⟨dq,Bj⟩,Bl⟩:=Cy;subst Bl;have Bi:=Hd (HR.o.regrown dq Bj);have Ac:=Hd (HB.o.trans ((Zt wc dq Bj).mono HB.o.size));clear cA l0 l1 l2 m0 m1 m2 HX HR HB HT;generalize grow (redrawn wc dq) Bj=wq at *;go_wp2_with (first|(refine Zv rfl _ _ _ rfl (w.heap.size+1+1) _ rfl rfl _ _ (Bi.o) cK rfl aQ ?_));exact Zu (bA (p:=6) (u:=7) rfl _ _ (w.heap.size+1+1) 2 0 0 rfl (Bi.o.set _ _ _)) rfl ⟨jA (o:=some 2) (rfl),Xc Ac.o aA _⟩
    . exact aP3
    . exact aP3
    . cases h0
  . rcases Ei with rfl|rfl
    all_goals
     go_upto_region 22 with(fail);go_wp2_with (first|(refine wpList_load_row rfl _ _ rfl (g) rfl _ _ _ _ (HT.o) Tryz.underlying41 rfl cK ?_)|(refine Zv rfl _ _ _ rfl (w.heap.size+1+1) _ rfl rfl _ _ (HR.o) cK rfl aQ ?_));exact Zu (bA (p:=6) (u:=7) rfl _ _ (w.heap.size+1+1) 2 0 0 rfl ((HR.o).set _ _ _)) rfl ⟨jA (o:=some 2) (rfl),by repeat' (first|exact HB.o|refine Xc ?_ aA _|refine Below.alloc ?_ tX _)⟩
  . cases hI:bB 1 k e 0
    . have HI:=Hd hI;clear hI;obtain rfl|rfl|rfl|rfl:op=13\/op=14\/op=15\/op=16:=by omega
      all_goals
       clear Ei;go_upto_region 20 with(fail);go_wp2_with (first|(go_at_call 172;refine(oK _ _ _ _).mono ?_;unfold aO aW;rintro r w2 ⟨rfl,rfl⟩)|(refine wpList_load_row rfl _ _ rfl (g) rfl _ _ _ _ (HT.o) Tryz.underlying41 rfl cK ?_)|(refine Zv rfl _ _ _ rfl (w.heap.size+1+1) _ rfl rfl _ _ ((HR.o.alloc _).alloc _) cK rfl aQ ?_));exact Zu (bA (p:=6) (u:=7) rfl _ _ (w.heap.size+1+1) 0 0 0 rfl (((HR.o.alloc _).alloc _).set _ _ _)) rfl ⟨jA (o:=none) wK,by repeat' (first|exact HB.o|refine Xc ?_ aA _|refine Below.alloc ?_ tX _)⟩
    . obtain⟨rfl,rfl⟩:k=1/\e=0:=by simpa[bB]using hI
      clear hI;obtain rfl|rfl|rfl|rfl:op=13\/op=14\/op=15\/op=16:=by omega
      all_goals
       clear Ei;go_upto_region 20 with(fail);go_wp2_with (first|(go_at_call 172;refine(uO _ _ _ _).mono ?_;unfold aO aW;rintro r w2 ⟨rfl,rfl⟩)|(refine wpList_load_row rfl _ _ rfl (g) rfl _ _ _ _ (HT.o) Tryz.underlying41 rfl cK ?_)|(refine Zv rfl _ _ _ rfl (w.heap.size+1+1) _ rfl rfl _ _ ((HR.o.alloc _).alloc _) cK rfl aQ ?_));exact Zu (bA (p:=6) (u:=7) rfl _ _ (w.heap.size+1+1) 2 0 0 rfl (((HR.o.alloc _).alloc _).set _ _ _)) rfl ⟨jA (o:=some 2) (rfl),by repeat' (first|exact HB.o|refine Xc ?_ aA _|refine Below.alloc ?_ tX _)⟩
  . have HN:=Hd (fun I B S=>aJd (I:=I) (B:=B) (S:=S) Ei);have b3:=kR Ei 3 aA;have b4:=kR Ei 4 aA;have b5:=kR Ei 5 aA;have b6:=kR Ei 6 aA;have b7:=kR Ei 7 aA;have b8:=kR Ei 8 aA;have b9:=kR Ei 9 aA;have Jx:=kR Ei 10 aA;have Bx:=kR Ei 11 aA;have Nu:=kR Ei 12 aA;have Nt:=kR Ei 13 aA;have Bp:=kR Ei 14 aA;have Nv:=kR Ei 15 aA;have Aq:=kR Ei 16 aA;clear Ei;go_upto_region 23 with(fail);go_wp2_with (first|(refine Zv rfl _ _ _ rfl (w.heap.size+1+1) _ rfl rfl _ _ (HR.o) cK rfl aQ ?_));exact Zu (bA (p:=6) (u:=7) rfl _ _ (w.heap.size+1+1) 0 0 0 rfl ((HR.o).set _ _ _)) rfl ⟨jA (o:=none) (HN.o _ _ _),by repeat' (first|exact HB.o|refine Xc ?_ aA _|refine Below.alloc ?_ tX _)⟩
theorem bEk(op k e l k' e' l':Int)(w:World):
 Calls Tryz.prog 144 #[.int .i64 op,aO k e l,aO k' e' l'] w fun r w'=>
  r=.returned (.tuple #[mE (iT op (bB 1 k e l && bB 1 k' e' l') (bB 2 k e l && bB 2 k' e' l') (fR k e l k' e' l')),.bool (iT op (bB 1 k e l && bB 1 k' e' l') (bB 2 k e l && bB 2 k' e' l') (fR k e l k' e' l')).isSome])/\Below w.heap.size w w':=by
 cases hS:fR k e l k' e' l' with
 |false=>
  have:=aS4 op k e l k' e' l' hS w
  rwa[hS]at this
 |true=>
  rcases aBk k e l k' e' l' with⟨rfl,rfl,rfl,rfl,_⟩|⟨_,h⟩|⟨_,_,h⟩|⟨_,_,_,h⟩|⟨_,_,_,_,h⟩
  . have:=aTm op k e w
    simpa using this
  all_goals (rw[hS]at h;cases h)
def jC(c:Cd):List Value:=[.string c.nm,.int .i64 c.v]
def gD(c:Cd):Array Value:=#[.string c.nm,.int .i64 c.v]
def aA5(w:World)(b o:Nat)(c:Cd):Prop:=w.rangeAt b o (jC c)
def bW(w:World)(A:Option Addr)(n:Nat)(l:List Cd):Prop:=aI 2 aA5 w A n l
theorem bBa:rJ aA5:=fun h hb hs hk=>fT h hb hk
theorem aA5.two{w:World}{b o:Nat}{c:Cd}(h:aA5 w b o c):w.cell? ⟨b,o,none⟩=some (.string c.nm)/\w.cell? ⟨b,o+1,none⟩=some (.int .i64 c.v):=⟨h 0 _ rfl,h 1 _ rfl⟩
def fA(l:List Cd):List Value:=l.flatMap jC
theorem zC(l:List Cd):(fA l).length=l.length*2:=by
 induction l with
 |nil=>rfl
 |cons d l ih=>simp only[fA,List.flatMap_cons,Yn,Yo]at ih⊢;rw[ih];simp[jC];omega
theorem aK9(a b:List Cd):fA (a++b)=fA a++fA b:=by simp[fA]
theorem bEl(d:Cd):fA [d]=jC d:=by simp[fA]
theorem aDy:∀(l:List Cd)(i j:Nat),i<l.length->j<2->(fA l)[i*2+j]?=(jC (l[i]?.getD default))[j]?
 |t::ts,0,j,_,hj=>by
  have hz:j<(jC t).length:=by simpa[jC]using hj
  simp only[fA,List.flatMap_cons,Nat.zero_mul,Nat.zero_add];exact aEr
 |t::ts,i+1,j,hi,hj=>by
  have ih:=aDy ts i j qI hj;have hz:(jC t).length=2:=by simp[jC]
  simp only[fA,List.flatMap_cons];rw[List.getElem?_append_right (by rw[hz];omega),hz,show(i+1)*2+j-2=i*2+j by omega];simpa[fA]using ih
theorem bBb(l:List Cd):∀u∈fA l,u.oneCell'=true:=by
 intro u hu;simp only[fA,List.mem_flatMap]at hu;obtain⟨t,_,hu⟩:=hu;simp[jC]at hu;rcases hu with rfl|rfl<;>rfl
section
variable {w w':World}{A:Option Addr}{n:Nat}{l:List Cd}
theorem bW.keep(h:bW w A n l)(hs:w.heap.size<=w'.heap.size)(hk:∀p:Addr,p.block<w.heap.size->w'.cell? p=w.cell? p):bW w' A n l:=aI.keep bBa h hs hk
theorem bW.below(h:bW w A n l)(hb:Below w.heap.size w w'):bW w' A n l:=h.keep hb.size fun _ hp=>hb.cell hp
theorem bW.of_own{base:Nat}{e:TypeId}{v:Value}(h:w.ownsRow base e 2 v n (fA l))(hm:n<=9223372036854775807):∃A c,v=.slice A n c/\bW w A n l:=by
 have hl:l.length=n:=by
  have:=h.1
  rw[zC]at this;omega
 rcases h.2 with⟨rfl,rfl⟩|⟨g,cap,cur,rfl,hg,hh,hnc,hcm,hcs,ht⟩;· exact aEd
 . refine⟨_,cap,rfl,hl,hm,fun hn=>⟨g,0,rfl,(Yl.1 hh).1,fun i hi=>?_⟩⟩;intro j v hv;have hj:j<2:=by
    rcases Nat.lt_or_ge j 2 with h|h;· exact h
    . rw[List.getElem?_eq_none (by simpa[jC]using h)]at hv;cases hv
   rw[Nat.zero_add,h.cellAt (i*2+j) aA,aDy l i j aA hj,hv]
theorem bW.news(h:bW w A n l):(A=none->n=0)/\∀ad,A=some ad->∀j u,(fA l)[j]?=some u->w.cell? (ad.add j)=some u:=by
 constructor;· exact aNx
 . rintro ad rfl j u hu;have hj:j<l.length*2:=by
    rcases Nat.lt_or_ge j (l.length*2)with h1|h1;· exact h1
    . rw[List.getElem?_eq_none (by rw[zC];exact h1)]at hu;cases hu
   have Aq:=aI.len h;obtain⟨b,off,e,hb,hc⟩:=aI.at_ h aA;injection e with e;subst e;have h6:j / 2*2+j % 2=j:=aA;have h7:j % 2<2:=aA;have h1:=hc (j / 2) aA;rw[aI8];have h2:=aDy l (j / 2) (j % 2) aA h7;rw[h6,hu]at h2;have h3:=h1 (j % 2) u h2.symm;rwa[show off+j / 2*2+j % 2=off+j by omega]at h3
theorem bW.take(h:bW w A n l){k:Nat}(hk:k<=n):bW w A k (l.take k):=by
 refine⟨by rw[List.length_take,h.1];omega,by have:=h.2.1;omega,fun h0=>?_⟩;obtain⟨b,off,e,hb,hc⟩:=aI.at_ h aA;refine⟨b,off,e,hb,fun i hi=>?_⟩
 have:=hc i aA
 rwa[List.getElem?_take_of_lt hi]
end
theorem yI:(Tryz.prog.info? 45).map (fun i=>(i.size,i.bytes,i.zero.map fun z=>z.cells.size))=some (2,24,some 2):=aC
section
variable {P:Program}{w:World}
theorem wZ{ops:Array Oper}{rest:List Oper}{o:Oper}{a:Act}{Q:Exit->Act->World->Prop}(Nv:o.guard=none)(s x:Operand)(t:TypeId)
 (ho:o.op=.call { callee:=.builtin .append,args:=#[s,x],argTypes:=#[t,t] })
 (base:Nat)(e:TypeId)(i:TypeInfo)(z:Value)(Aq:Nat)(ht:P.underlying t=some (.slice e))(hi:P.info? e=some i)(hz:i.zero=some z)
 (Bx:i.size=2)(Nx:i.bytes=Aq)(Ny:z.cells.size=2)
 (v:Value)(n:Nat)(xs:List Cd)(hs:a.eval s=v)(Bq:w.ownsRow base e 2 v n (fA xs))
 (A:Option Addr)(m c:Nat)(l:List Cd)(hx:a.eval x=.slice A m c)(hr:bW w A m l)
 (Nw:n+m<=maxLen)(Bp:(n+m)*Aq<=140737488355328)(Jx:base<=w.heap.size)
 (h:∀v' w',w'.ownsRow base e 2 v' (n+m) (fA (xs++l))->w.grownBy w' v.ownBlock->wpList P ops Q rest (a.put o.dst v') w'):wpList P ops Q (o::rest) a w:=by
 obtain⟨hA,Nu⟩:=hr.news;have Nt:=aI.len hr;rcases A with _|ad
 . obtain rfl:m=0:=hA rfl;obtain rfl:l=[]:=Zr Nt;refine wpList_plain Nv fun K hK=>?_;have Jg:=xA (P:=P) (w:=w) base t o.type e i 2 ht hi v n _ Bq c;exact aM5
 . exact wpList_append_own_at w Nv s x t ho base e i z 2 Aq ht hi hz Bx Nx Ny bS v n _ hs Bq ad m c (fA l) hx (by rw[zC,Nt]) (fun j u hu=>Nu ad rfl j u hu) (bBb l) Nw Bp Jx fun v' w' h1 h2 _ _=>h v' w' (by rw[aK9];exact h1) h2
end
theorem aDz(w:World)(d:Cd):bW (w.alloc (.cells (gD d) 45)) (some ⟨w.heap.size,0,none⟩) 1 [d]:=by
 refine⟨rfl,by omega,fun _=>⟨w.heap.size,0,rfl,by simp,fun i hi=>?_⟩⟩;obtain rfl:i=0:=by omega
 intro j v hv;rw[show 0+0*2+j=j by omega,Zp]
 have:(jC d)[j]?=some v:=by simpa using hv
 rw[<-this];show(jC d).toArray[j]?=_;simp
theorem aD0{w:World}{A:Option Addr}{n i:Nat}{l:List Nd}(h:eX w A n l)(hi:i<n):
 ∃b off A1 c1 A2 c2 A3 c3 A4 c4,A=some ⟨b,off,none⟩/\b<w.heap.size/\cF w (l[i]?.getD default) A1 A2 A3 A4/\
 w.cell? ⟨b,off+i*5,none⟩=some (.string (l[i]?.getD default).nm)/\w.cell? ⟨b,off+i*5+1,none⟩=some (.slice A1 (l[i]?.getD default).ins.length c1)/\w.cell? ⟨b,off+i*5+2,none⟩=some (.slice A2 (l[i]?.getD default).outs.length c2)/\w.cell? ⟨b,off+i*5+3,none⟩=some (.slice A3 (l[i]?.getD default).vars.length c3)/\w.cell? ⟨b,off+i*5+4,none⟩=some (.slice A4 (l[i]?.getD default).eqs.length c4):=by
 obtain⟨b,off,e,hb,hc⟩:=aI.at_ h aA;obtain⟨A1,c1,A2,c2,A3,c3,A4,c4,h1,h2⟩:=hc i hi;obtain⟨d0,d1,d2,d3,d4⟩:=uX h1;exact⟨b,off,A1,c1,A2,c2,A3,c3,A4,c4,e,hb,h2,d0,d1,d2,d3,d4⟩
theorem aL2{w:World}{A:Option Addr}{n i:Nat}{l:List Dc}(h:bZ w A n l)(hi:i<n):
 ∃b off,A=some ⟨b,off,none⟩/\b<w.heap.size/\w.cell? ⟨b,off+i*6,none⟩=some (.string (l[i]?.getD default).nm)/\w.cell? ⟨b,off+i*6+1,none⟩=some (.int .i64 (l[i]?.getD default).k)/\w.cell? ⟨b,off+i*6+2,none⟩=some (.int .i64 (l[i]?.getD default).e)/\
  w.cell? ⟨b,off+i*6+3,none⟩=some (.int .i64 (l[i]?.getD default).l)/\w.cell? ⟨b,off+i*6+4,none⟩=some (.string (l[i]?.getD default).on)/\w.cell? ⟨b,off+i*6+5,none⟩=some (.string (l[i]?.getD default).ct):=by
 obtain⟨b,off,e,hb,hc⟩:=aI.at_ h aA;exact⟨b,off,e,hb,(hc i hi).six⟩
theorem iV{w w1:World}{cs:Array Value}{T:TypeId}(h:w.alloc (.cells cs T)=w1):Below w.heap.size w w1/\w1.heap.size=w.heap.size+1/\∀w',Below w1.heap.size w1 w'->∀j,w'.cell? ⟨w.heap.size,j,none⟩=cs[j]?:=by
 subst h;refine⟨(Yg _ _).alloc (Yh _) _,by simp,fun w' hb j=>?_⟩;rw[hb.cell (p:=⟨w.heap.size,j,none⟩) aG,Zp]
theorem gH{w w1:World}{cs ds:Array Value}{T U:TypeId}(h:(w.alloc (.cells cs T)).alloc (.cells ds U)=w1):Below w.heap.size w w1/\w1.heap.size=w.heap.size+2/\(∀w',Below w1.heap.size w1 w'->∀j,w'.cell? ⟨w.heap.size,j,none⟩=cs[j]?)/\(∀w',Below w1.heap.size w1 w'->∀j,w'.cell? ⟨w.heap.size+1,j,none⟩=ds[j]?):=by
 generalize h0:w.alloc (.cells cs T)=w0 at h;obtain⟨b0,e0,k0⟩:=iV h0;obtain⟨b1,e1,k1⟩:=iV h;rw[e0]at k1;exact⟨b0.tr b1,by omega,fun w' hb j=>k0 w' (b1.tr hb) j,k1⟩
theorem aV{w w1 w2:World}(h:Below w.heap.size w w1)(hb:Below w1.heap.size w1 w2):Below w.heap.size w w2:=h.tr hb
theorem qV{w w':World}{base:Nat}{e:TypeId}{size n:Nat}{v:Value}{xs:List Value}(h:w.ownsRow base e size v n xs)(hb:Below w.heap.size w w'):w'.ownsRow base e size v n xs:=by
 exact aD7
theorem gF{a b:Bool}(h:a=b):Ending.returned (.bool a)=.returned (.bool b):=uC
def vJ(w:World)(o:Option (List Cd))(e:Ending)(w':World):Prop:=
 Below w.heap.size w w'/\match o with
  |none=>e=.returned (.tuple #[.slice none 0 0,.bool false])
  |some l=>∃A c,e=.returned (.tuple #[.slice A l.length c,.bool true])/\bW w' A l.length l
end
section
open Go.RowKit Go.Sort
theorem aCw(a:Cd):gB a a=true:=aDq.2 rfl
theorem xT(A:Option Addr)(n c:Nat)(l:List Cd)(B:Option Addr)(m d:Nat)(r:List Cd)(w:World)(hl:bW w A n l)(hr:bW w B m r):
 Calls Tryz.prog 11 #[.slice A n c,.slice B m d] w fun e w'=>e=.returned (.bool (dD l r))/\Below w.heap.size w w':=by
 have Da:=aI.len hl;have Gy:=aI.len hr;have Aq:=aI.max hl;have Bp:=aI.max hr;by_cases Df:n=m
 . subst Df;have Cj:=Hd fun(i:Nat) hi hf=>aCg (f:=gB) (l:=l) (m:=r) (i:=i) (by rw[Da];exact hi) aAx hf;have Ix:=Hd fun hf=>aB1 (f:=gB) (l:=l) (m:=r) aAx (by rw[Da];exact hf);unfold dD;generalize kO gB l r=Au at *;have dn:decide ((n:Int)=(n:Int))=true:=Zy rfl;go_in
   go_wp2_with fail;go_loopw [5] (fun i wr=>∃k:Nat,k<=n/\i=.int .i64 k/\(∀j,j<k->gB (l[j]?.getD default) (r[j]?.getD default)=true)/\Below w.heap.size w wr) (fun i _=>n-(intOf i).toNat)
   case atStart=>exact⟨0,Yq _,rfl,fun j hj=>absurd hj aA,Yg _ _⟩
   case round=>
    exact fK6
 . exact aRo
theorem bBc(A:Option Addr)(n c:Nat)(l:List Cd)(B:Option Addr)(m d:Nat)(r:List Cd)(w:World)(hl:bW w A n l)(hr:bW w B m r):
 Calls Tryz.prog 52 #[.slice A n c,.slice B m d] w fun e w'=>e=.returned (.bool (dD l r))/\Below w.heap.size w w':=by
 have Da:=aI.len hl;have Gy:=aI.len hr;have Aq:=aI.max hl;have Bp:=aI.max hr;by_cases Df:n=m
 . subst Df;have Cj:=Hd fun(i:Nat) hi hf=>aCg (f:=gB) (l:=l) (m:=r) (i:=i) (by rw[Da];exact hi) aAx hf;have Ix:=Hd fun hf=>aB1 (f:=gB) (l:=l) (m:=r) aAx (by rw[Da];exact hf);unfold dD;generalize kO gB l r=Au at *;have dn:decide ((n:Int)=(n:Int))=true:=Zy rfl;go_in
   go_wp2_with fail;go_loopw [13] (fun i wr=>∃k:Nat,k<=n/\i=.int .i64 k/\(∀j,j<k->gB (l[j]?.getD default) (r[j]?.getD default)=true)/\Below w.heap.size w wr) (fun i _=>n-(intOf i).toNat)
   case atStart=>exact⟨0,Yq _,rfl,fun j hj=>absurd hj aA,Yg _ _⟩
   case round=>
    exact fK6
 . exact aRo
end
section
open Go.RowKit Go.Sort Go.BigFrame
theorem aN{P:Program}{ops:Array Oper}{Q:Exit->Act->World->Prop}{md:Region.Mode}{S:World->Prop}{i:Nat}{oi:Oper}{v:Value}{Bp:Nat}{Aq:Array Bool}{a:Act}{w:World}(hS:S w)(h:wpAnyH P md ops Q S Bp (Aq.setIfInBounds i true) (a.put oi.dst v) w)
 (hi:ops[i]?=some oi:=by
  simp only[Ya,Yb,Yc]
  rfl)
 (hs:Region.noSelect ops=true:=by kernel_rfl)(hf:Region.free md ops Aq i=true:=by kernel_rfl)(hr:(Region.ready md ops Aq).contains i=true:=by kernel_rfl)
 (hQ:∀c a w,Q (.panic c) (a.put oi.dst v) w->Q (.panic c) a w:=by exact fun _ _ _ h=>h)
 (hy:YieldsIf P ops S oi v a:=by
  refine Or.inl ⟨rfl,?_⟩;intro Wz Mi;have Bx:=HK.o Wz Mi;go_split_ands
  first|(go_simp;done)|(go_simp;with_reducible rfl)):wpAnyH P md ops Q S (Bp+1) Aq a w:=Zw hi hs hf hr hQ hy hS h
theorem qM{P:Program}{ops:Array Oper}{Q:Exit->Act->World->Prop}{md:Region.Mode}{S:World->Prop}{i:Nat}{oi:Oper}{Bp:Nat}{Aq:Array Bool}{a:Act}{w:World}(hS:S w)(h:wpAnyH P md ops Q S Bp (Aq.setIfInBounds i true) (a.put oi.dst undef) w)
 (hi:ops[i]?=some oi:=by
  simp only[Ya,Yb,Yc]
  rfl)
 (hs:Region.noSelect ops=true:=by kernel_rfl)(hf:Region.free md ops Aq i=true:=by kernel_rfl)(hr:(Region.ready md ops Aq).contains i=true:=by kernel_rfl)
 (hQ:∀c a w,Q (.panic c) (a.put oi.dst undef) w->Q (.panic c) a w:=by exact fun _ _ _ h=>h)
 (hy:YieldsIf P ops S oi undef a:=by exact Or.inr ⟨rfl,rfl⟩):wpAnyH P md ops Q S (Bp+1) Aq a w:=Zw hi hs hf hr hQ hy hS h
end
end Go.Proofs.YtkbpdoomhfkngaaGreat
