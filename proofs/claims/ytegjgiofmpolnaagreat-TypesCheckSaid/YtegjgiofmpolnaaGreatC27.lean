/- Parts of the proof: EyH, EyK. Conditions: each theorem's own. -/
import Derived.Test.YtegjgiofmpolnaaGreatC26
namespace Go.Proofs.YtegjgiofmpolnaaGreat
set_option linter.unusedVariables false
set_option linter.unusedSimpArgs false
set_option maxRecDepth 100000
set_option maxHeartbeats 40000000
section
open Go.RowKit Go.Sort
theorem aKw(w:World) (n:Int) (s:ByteArray) (op:Int) (A:Option Addr) (Aa ca:Nat) (h:Bool) (lo hi:Int) (w1:World) (e:w.alloc (.cells (dM 0 n s op A Aa ca h lo hi) 143)=w1):
 Below w.heap.size w w1/\w.heap.size<w1.heap.size/\w1.cell? ⟨w.heap.size,0,none⟩=some (.int .i64 0)/\w1.frozen? ⟨w.heap.size,0,none⟩=false /\
  ∀ (k:Int) (w2:World),w1.setCell ⟨w.heap.size,0,none⟩ (.int .i64 k)=w2->Below w.heap.size w w2/\∀ w3,Below w2.heap.size w2 w3->∀ j,w3.cell? ⟨w.heap.size,j,none⟩=(dM k n s op A Aa ca h lo hi)[j]?:=by
 subst e;have hn:(w.alloc (.cells (dM 0 n s op A Aa ca h lo hi) 143)).heap[w.heap.size]?=some (Obj.cells (dM 0 n s op A Aa ca h lo hi) 143):=World.alloc_heap_new _ _;have hb:Below w.heap.size w (w.alloc (.cells (dM 0 n s op A Aa ca h lo hi) 143)):=(Yg _ _).alloc (Yh _) _
 have hc:∀ j,(w.alloc (.cells (dM 0 n s op A Aa ca h lo hi) 143)).cell? ⟨w.heap.size,j,none⟩=(dM 0 n s op A Aa ca h lo hi)[j]?:=fun j=>by
  rw [Zo]
 refine⟨hb,by simp,by rw [hc];rfl,by simp only [World.frozen?,hn];rfl,fun k w2 e2=>?_⟩;subst e2;refine⟨hb.setCell (p:=⟨w.heap.size,0,none⟩) (Yh _) _,fun w3 h3 j=>?_⟩;rw [h3.cell (p:=⟨w.heap.size,j,none⟩) (by have:=(grownBy_setCell' (w.alloc (.cells (dM 0 n s op A Aa ca h lo hi) 143)) w.heap.size (.int .i64 k)).size;simp at this ⊢)]
 cases j with
 | zero=>exact World.cell?_setCell_same' _ _ _ (by rw [hc];rfl)
 | succ j=>
  rw [World.cell?_setCell_other _ _ _ _ (by intro e;injection e with _ e;exact absurd e (by simp)),hc];rfl
theorem aSc(k n:Int) (s:ByteArray) (op:Int) (arms:List ByteArray):(kT k n s op arms).k=k:=rfl
theorem aSd(k n:Int) (s:ByteArray) (op:Int) (arms:List ByteArray):(kT k n s op arms).n=n:=rfl
theorem aSe(k n:Int) (s:ByteArray) (op:Int) (arms:List ByteArray):(kT k n s op arms).s=s:=rfl
theorem aQj(k n:Int) (s:ByteArray) (op:Int) (arms:List ByteArray):(kT k n s op arms).op=op:=rfl
theorem aKx(k n:Int) (s:ByteArray) (op:Int) (arms:List ByteArray):(kT k n s op arms).arms=arms:=rfl
theorem aKy(k n:Int) (s:ByteArray) (op:Int) (arms:List ByteArray):(kT k n s op arms).subs=[]:=rfl
theorem aSf{w:World}{A:Option Addr}{arms:List ByteArray}(k n:Int) (s:ByteArray) (op:Int) (h:aN w A arms.length arms):aJ w (kT k n s op arms) A none:=
 oE.2 ⟨h,eA.nil_ _⟩
theorem aSg(x:Ex) (A:Option Addr) (ca:Nat) (B:Option Addr) (cb:Nat) (w:World) (hr:aJ w x A B) (Bi:cL x):
 Calls Tryz.prog 76 #[.agg (aE x A ca B cb)] w fun e w'=>e=.returned (.bool (bA x))/\Below w.heap.size w w':=by
 have HF:=Hd fun w1 h=>eC w x A ca B cb w1 h hr;have Aw:=Hd fun w1 (h:Below w.heap.size w w1)=>aQi x A ca B cb w1 (hr.below h) Bi;have Aq:=Hd fun(n:Int) (s:ByteArray) (op:Int) (A':Option Addr) (arms:List ByteArray) (An:Nat) (w1:World) (h:Below w.heap.size w w1) (hA:aN w1 A' arms.length arms)=>aL9 x A ca B cb (kT x.k n s op arms) A' An none 0 w1 (hr.below h) (aSf x.k n s op hA);have Br:=hr.subs.max;clear hr;unfold aE at HF Aw Aq ⊢;simp only [aSc,aSd,aSe,aQj,aKx,aKy,Zd] at Aq;generalize Af:bA x=Ah;have Ax:=Hd Af;clear Af;generalize Ai:x.subs.length=Ap at *;have Az:=Hd Ai;clear Ai;generalize x.arms.length=Bt at *
 go_enter Tryz.func76,Tryz.ntmps76
 go_upto_region 1 with(fail)
 generalize Bd:w.alloc _=w1;obtain⟨Au,hg,Bo,Ac⟩:=HF.o w1 Bd;have Bh:=Hd Au;have HC:=Hd Ac;obtain⟨q0,q1,q2,q3,q4,q5⟩:=Sx (Ac w1 (Yg _ _));have Bn:=Hd (Aw.o w1 Au);clear Ac Au Bo Bd HF Aw
 go_wp2_with fail
 refine Bn.o.mono ?_;rintro r w2 ⟨n,s,op,A',arms,An,hh,lo,hi,rfl,Bf,Aj,Av⟩;have Bg:=Hd (Bh.o.trans (Av.mono Bh.o.size));have Am:=Hd Av;have Bj:=Hd Bf;have HS:=Hd (show Ah=(hh && pE x (kT x.k n s op arms) && decide (lo<=(Ap:Int)) && decide ((Ap:Int)<=hi)) by rw [<- Ax.o,<- Az.o];exact Aj.symm);have Ar:=Hd fun w3 h=>aKw w2 n s op A' arms.length An hh lo hi w3 h;have Bb:=Hd fun w4 h hA=>Aq.o n s op A' arms An w4 h hA;clear q0 q1 q2 q3 q4 q5 Bf Aj Av Aq;unfold dM at Ar ⊢;generalize pE x (kT x.k n s op arms)=fb at *
 go_upto_region 2 with(fail)
 generalize Bc:w2.alloc _=w3;obtain⟨Ay,Bq,Bl,Bm,Ak⟩:=Ar.o w3 Bc;have q0:=HC.o w3 (Am.o.trans (Ay.mono Am.o.size)) 0;have Ag:=Hd Ak;have Bp:=Hd Ay;clear Ak Ay Bc Ar
 go_upto_region 3 with(fail)
 generalize Ba:w3.setCell _ _=w4;obtain⟨Ao,Aa⟩:=Ag.o _ w4 Ba;have Ad:=Hd (Bg.o.trans (Ao.mono Bg.o.size));have Bk:=Hd (Am.o.trans (Ao.mono Am.o.size));have Al:=Hd Aa;have As:=Hd (Bb.o w4 Ad.o (Bj.o.below Ao));obtain⟨q0,q1,q2,q3,q4,q5⟩:=Sx (HC.o w4 Bk.o);obtain⟨r0,r1,r2,r3,r4,r5⟩:=Sx (Aa w4 (Yg _ _));have r6:=Aa w4 (Yg _ _) 6;clear Aa Ao Ba Ag Bl Bm Bb
 cases hh with
 | false=>
  have HN:=Hd (show Ah=false by rw [HS.o];simp)
  go_wp2_with fail
  go_ret
  exact⟨aF HN.o.symm,Ad.o⟩
 | true=>
  cases fb with
  | false=>
   have HN:=Hd (show Ah=false by rw [HS.o];simp)
   go_wp2_with fail
   refine As.o.mono ?_;rintro r w5 ⟨rfl,Ab⟩;have Ae:=Hd (Ad.o.trans (Ab.mono Ad.o.size));clear Ab q0 q1 q2 q3 q4 q5 r0 r1 r2 r3 r4 r5 r6
   go_wp2_with fail
   go_ret
   exact⟨aF HN.o.symm,Ae.o⟩
  | true=>
   cases Be:decide (lo<=(Ap:Int)) with
   | false=>
    have HN:=Hd (show Ah=false by rw [HS.o,Be];simp)
    go_wp2_with fail
    refine As.o.mono ?_;rintro r w5 ⟨rfl,Ab⟩;have Ae:=Hd (Ad.o.trans (Ab.mono Ad.o.size));have r7:=Al.o w5 Ab 7;have r8:=Al.o w5 Ab 8;clear Ab q0 q1 q2 q3 q4 q5 r0 r1 r2 r3 r4 r5 r6
    go_wp2_with fail
    go_ret
    exact⟨aF HN.o.symm,Ae.o⟩
   | true=>
    have HN:=Hd (show Ah=decide ((Ap:Int)<=hi) by rw [HS.o,Be];simp)
    go_wp2_with fail
    refine As.o.mono ?_;rintro r w5 ⟨rfl,Ab⟩;have Ae:=Hd (Ad.o.trans (Ab.mono Ad.o.size));have r7:=Al.o w5 Ab 7;have r8:=Al.o w5 Ab 8;clear Ab q0 q1 q2 q3 q4 q5 r0 r1 r2 r3 r4 r5 r6
    go_wp2_with fail
    go_ret
    exact⟨aF HN.o.symm,Ae.o⟩
end
section
open Go.RowKit Go.Shelf
attribute [local go_sem] Oper.semAt_some
theorem sU{B:Nat}{W W':World}(h:Below W.heap.size W W'):KeepsFrom B W W':=KeepsFrom.of_grownBy (rF h) (fun j e=>by cases e)
theorem tF{W W':World}{B:Nat}{t:TypeId}{v:Value}(h:Boxed W B t v){n:Nat}(hb:Below n W W') (hn:B<n):Boxed W' B t v:=(hb.block B hn).trans h
theorem aBn{W:World}{Bs:Nat}{cs:Array Value}{B:Nat}{t:TypeId}{v:Value}(h:W.heap[Bs]?=some (Obj.cells cs 35)) (hb:Boxed W B t v) (ht:t≠35) (u:Value):(W.setCell ⟨B,0,none⟩ u).heap[Bs]?=some (Obj.cells cs 35):=fV.setCell hb ht u _ _ _ h
theorem aIr{x:Ex}{l:List Ex}(h:l <+: bI x) (hl:60<l.length):bB x=false:=by
 have:=h.length_le;rw [pV] at this
 simp [bB,show 60<bG x by omega]
theorem aKz{x z:Ex}{l:List Ex}(h:l <+: bI x) (hz:z∈l) (hp:bA z=false):bB x=false:=by
 have:(bI x).all bA=false:=by
  rw [List.all_eq_false];exact⟨z,h.subset hz,by simp [hp]⟩
 simp [bB,this]
theorem aK0{x:Ex}{l:List Ex}(h:l=bI x) (hl:l.length<=60) (hp:∀ z∈l,bA z=true):bB x=decide ((gF x:Int)<=12):=by
 subst h;rw [pV] at hl;have:(bI x).all bA=true:=Zf.2 hp
 have h2:(!decide (12<gF x))=decide ((gF x:Int)<=12):=by
  rw [Zm];simp;omega
 have h3:(!decide (60<bG x))=true:=by simp;omega
 simp only [bB,this,h2,h3,Bool.true_and,Bool.and_true]
theorem aIs(n:Nat) (hn:6<=n) (x:Ex) (A:Option Addr) (ca:Nat) (B:Option Addr) (cb:Nat) (w:World) (hr:aJ w x A B) (hs:bG x<=1000000) (Bm:∀ p∈bI x,cL p):
 CallsIn Fence.wide n Tryz.prog 40 #[.agg (aE x A ca B cb)] w fun e w'=>e=.returned (.bool (bB x))/\Below w.heap.size w w':=by
 have h1:1<=n:=by omega
 have HF:=Hd fun w1 h=>eC w x A ca B cb w1 h hr;have HR:=Hd hr;have Bw:=Hd Bm;have Be:=Hd fun w1 (h:Below w.heap.size w w1)=>aE7 x A ca B cb w1 (hr.below h);have Bt:=Hd fun w1 (h:Below w.heap.size w w1)=>aO0 x A ca B cb w1 (hr.below h) hs;have Cj:=Hd fun(n Bs:Nat) (w0 w1:World) h hb Av=>aA0 n Bs x A ca B cb w0 w1 h hb Av;clear Bm;have Co:=pW x;unfold aE at Be Bt ⊢;refine callsIn_of_wp_marks Tryz.func40 rfl trivial ?_ rfl;simp only [Tryz.ntmps40,List.size_toArray,Yo,Zd,Nat.reduceAdd,Nat.reduceSub,Array.replicate_succ,Array.replicate_zero,List.push_toArray,List.append_toArray,Ze,Yv];obtain⟨Az,Ax,Br,Ab⟩:=HF.o _ rfl;unfold aE at Az Ax Br Ab;have Au:Below w.heap.size w (((w.alloc (.cells #[.int .i64 x.k,.int .i64 x.n,.string x.s,.int .i64 x.op,.slice A x.arms.length ca,.slice B x.subs.length cb] 35)).alloc (.cells #[.bool false] 4)).alloc (.cells #[.int .i64 0] 3)):=(Az.alloc (Nat.le_of_lt Ax) _).alloc (by simp;omega) _;have Bj:=((Yg (w.alloc (.cells #[.int .i64 x.k,.int .i64 x.n,.string x.s,.int .i64 x.op,.slice A x.arms.length ca,.slice B x.subs.length cb] 35)).heap.size (w.alloc (.cells #[.int .i64 x.k,.int .i64 x.n,.string x.s,.int .i64 x.op,.slice A x.arms.length ca,.slice B x.subs.length cb] 35))).alloc (Yh _) (.cells #[.bool false] 4)).alloc (by simp) (.cells #[.int .i64 0] 3);obtain⟨q0,q1,q2,q3,q4,q5⟩:=Sx (Ab _ Bj)
 have Ah:(((w.alloc (.cells #[.int .i64 x.k,.int .i64 x.n,.string x.s,.int .i64 x.op,.slice A x.arms.length ca,.slice B x.subs.length cb] 35)).alloc (.cells #[.bool false] 4)).alloc (.cells #[.int .i64 0] 3)).heap[w.heap.size]?=some (Obj.cells (aE x A ca B cb) 35):=by
  rw [Bj.block _ (by simp)];exact World.alloc_heap_new _ _
 have Ar:=Hd (Be.o _ Au);clear HF Az Ax Br Ab hr Be Bj
 gi_wp2_with fail
 refine⟨trivial,(callsIn_wide.2 Ar.o).mono ?_⟩;rintro e w' ⟨rfl,rfl⟩
 gi_wp2_with fail
 have Bp:Boxed (((w.alloc (.cells #[.int .i64 x.k,.int .i64 x.n,.string x.s,.int .i64 x.op,.slice A x.arms.length ca,.slice B x.subs.length cb] 35)).alloc (.cells #[.bool false] 4)).alloc (.cells #[.int .i64 0] 3)) (w.heap.size+1) 4 (.bool false):=by
  have:=(Boxed.new (w.alloc (.cells #[.int .i64 x.k,.int .i64 x.n,.string x.s,.int .i64 x.op,.slice A x.arms.length ca,.slice B x.subs.length cb] 35)) 4 (.bool false)).alloc (.cells #[.int .i64 0] 3);rwa [World.size_alloc] at this
 have Bl:Boxed (((w.alloc (.cells #[.int .i64 x.k,.int .i64 x.n,.string x.s,.int .i64 x.op,.slice A x.arms.length ca,.slice B x.subs.length cb] 35)).alloc (.cells #[.bool false] 4)).alloc (.cells #[.int .i64 0] 3)) (w.heap.size+1+1) 3 (.int .i64 0):=by
  have:=Boxed.new ((w.alloc (.cells #[.int .i64 x.k,.int .i64 x.n,.string x.s,.int .i64 x.op,.slice A x.arms.length ca,.slice B x.subs.length cb] 35)).alloc (.cells #[.bool false] 4)) 3 (.int .i64 0);rwa [World.size_alloc,World.size_alloc] at this
 have Bd:(((w.alloc (.cells #[.int .i64 x.k,.int .i64 x.n,.string x.s,.int .i64 x.op,.slice A x.arms.length ca,.slice B x.subs.length cb] 35)).alloc (.cells #[.bool false] 4)).alloc (.cells #[.int .i64 0] 3)).heap.size=w.heap.size+1+1+1:=by simp
 clear q0 q1 q2 q3 q4 q5 Ar;generalize ((w.alloc _).alloc _).alloc _=w2 at *
 have Ce:(w2.alloc (.cells #[.int .i64 x.k,.int .i64 x.n,.string x.s,.int .i64 x.op,.slice A x.arms.length ca,.slice B x.subs.length cb] 35)).heap[w.heap.size+1+1+1]?=some (Obj.cells (aE x A ca B cb) 35):=by
  rw [<- Bd];exact World.alloc_heap_new _ _
 have Bz:(w2.alloc (.cells #[.int .i64 x.k,.int .i64 x.n,.string x.s,.int .i64 x.op,.slice A x.arms.length ca,.slice B x.subs.length cb] 35)).heap[w.heap.size]?=some (Obj.cells (aE x A ca B cb) 35):=(((Yg _ w2).alloc (Yh _) _).block _ (by omega)).trans Ah;have Ci:=Bp.alloc (.cells #[.int .i64 x.k,.int .i64 x.n,.string x.s,.int .i64 x.op,.slice A x.arms.length ca,.slice B x.subs.length cb] 35);have Bu:=Bl.alloc (.cells #[.int .i64 x.k,.int .i64 x.n,.string x.s,.int .i64 x.op,.slice A x.arms.length ca,.slice B x.subs.length cb] 35);have Bo:=Au.alloc Au.size (.cells #[.int .i64 x.k,.int .i64 x.n,.string x.s,.int .i64 x.op,.slice A x.arms.length ca,.slice B x.subs.length cb] 35);have Cr:(w2.alloc (.cells #[.int .i64 x.k,.int .i64 x.n,.string x.s,.int .i64 x.op,.slice A x.arms.length ca,.slice B x.subs.length cb] 35)).heap.size=w.heap.size+4:=by simp [Bd]
 clear Bl Au Bp Ah;generalize w2.alloc _=W0 at *;clear Bd
 refine wpIn_rangeFunc_ownH rfl h1 (gf:=111) (lb:=#[.pointer (some ⟨w.heap.size+1+1+1,0,none⟩)]) rfl trivial (enters_of Tryz.func111 (by kernel_rfl) rfl)
  (Cj.o (n-1) (w.heap.size+1+1+1) w W0 HR.o Bo Ce) (fun h k=>h.trans k) (aFp (by omega)) (Yg _ _) (fun _=>rfl)
  (fun(Aa:List (hM w x)) W=>((Boxed W (w.heap.size+1) 4 (.bool false)/\Boxed W (w.heap.size+1+1) 3 (.int .i64 (Aa.length:Nat)))/\W.heap[w.heap.size]?=some (Obj.cells (aE x A ca B cb) 35))/\(Aa.length<=60/\∀ z∈dW Aa,bA z=true)/\Below w.heap.size w W)
  (fun c (Aa:List (hM w x)) W=>(c=.ret/\(60<(dW Aa).length\/∃ z∈dW Aa,bA z=false))/\Boxed W (w.heap.size+1) 4 (.bool false)/\Below w.heap.size w W)
  (OwnFrom.and (Own.from (fun s X Y row hs hg hr=>⟨⟨boxed_own _ _ (fun _=>_) () X Y row hs.1.1 hg hr,boxed_own _ _ (fun(Aa:List (hM w x))=>Value.int .i64 (Aa.length:Nat)) s X Y row hs.1.2 hg hr⟩,yQ (β:=Unit) _ _ _ () X Y row hs.2 hg hr⟩) _) (OwnFrom.and (ownFrom_pure _ _) (ownFrom_below (Yh _) (by omega))))
  (fun c=>OwnFrom.and (ownFrom_pure _ _) (OwnFrom.and (Own.from (boxed_own _ _ (fun _=>_)) _) (ownFrom_below (Yh _) (by omega))))
  ⟨⟨⟨Ci,Bu⟩,Bz⟩,⟨Yq _,by simp [dW]⟩,Bo⟩
  (fun(y:hM w x) a' W=>∃ Bx:Nat,W.heap[Bx]?=some (Obj.cells (aE y.1.x y.1.A y.1.ca y.1.B y.1.cb) 35)/\a'={ tmps:=#[.agg #[.int .i64 x.k,.int .i64 x.n,.string x.s,.int .i64 x.op,.slice A x.arms.length ca,.slice B x.subs.length cb],.pointer (some ⟨w.heap.size,0,none⟩),.pointer (some ⟨w.heap.size+1,0,none⟩),.pointer (some ⟨w.heap.size+1+1,0,none⟩),.pointer (some ⟨Bx,0,none⟩),.agg #[.int .i64 x.k,.int .i64 x.n,.string x.s,.int .i64 x.op,.slice A x.arms.length ca,.slice B x.subs.length cb],.func (.func 111) #[] #[.pointer (some ⟨w.heap.size+1+1+1,0,none⟩)],.agg (aE y.1.x y.1.A y.1.ca y.1.B y.1.cb),undef,undef,undef,undef,undef,undef,undef,undef,undef,undef,undef,undef],defers:=[] })
  (fun y a' s X Y row hs hg hr=>by obtain⟨Bx,h2,h3⟩:=hs;exact⟨Bx,(yQ (β:=Unit) Bx _ _).from W0.heap.size () X Y row h2 hg hr,h3⟩)
  ?assign ?body ?done ?stop
 case assign=>
  rintro l Aa y W K ⟨⟨⟨Aj,Ag⟩,Ah⟩,An,hB⟩ hK;have hz:∀ v:Value,(#[7]:Array Tmp).zip #[v]=#[(7,v)]:=fun v=>by first | rfl | simp
  simp only [sM,hz];unfold aE at hK ⊢
  gi_wp2
  exact hK _ _ ((KeepsOthers.alloc _ _).from _) (iL.of_below ((Yg _ _).alloc (Yh _) _) hB.size) ⟨⟨⟨Aj.alloc _,Ag.alloc _⟩,fV.alloc _ _ _ _ _ Ah⟩,An,hB.alloc hB.size _⟩ ⟨W.heap.size,World.alloc_heap_new _ _,rfl⟩
 case body=>
  rintro l Aa y a' W hl _ ⟨⟨⟨Aj,Ag⟩,Ah⟩,⟨Ao,An⟩,hB⟩ ⟨Bx,Av,rfl⟩ Cq
  have Ae:∀ W1,Below w.heap.size w W1->Calls Tryz.prog 76 #[.agg (aE y.1.x y.1.A y.1.ca y.1.B y.1.cb)] W1 fun e w'=>e=.returned (.bool (bA y.1.x))/\Below W1.heap.size W1 w':=fun W1 h=>
   aSg y.1.x y.1.A y.1.ca y.1.B y.1.cb W1 (y.2.1.below h) (Bw.o _ y.2.2)
  have Ch:=Hd Ae;have e1:=Ag.cell;have f1:=Ag.frozen;have Bc:=Ag.set (.int .i64 ((Aa.length:Int)+1));have Ai:=Aj.other (B':=w.heap.size+1+1) (by omega) (.int .i64 ((Aa.length:Int)+1));have e2:=Bc.cell;have e3:=Ai.cell;have f3:=Ai.frozen;have Aq:=aBn Av Ag (by decide) (.int .i64 ((Aa.length:Int)+1));have Ap:=aBn Ah Ag (by decide) (.int .i64 ((Aa.length:Int)+1));have Ab:∀ j,(W.setCell ⟨w.heap.size+1+1,0,none⟩ (.int .i64 ((Aa.length:Int)+1))).cell? ⟨Bx,j,none⟩=(aE y.1.x y.1.A y.1.ca y.1.B y.1.cb)[j]?:=fun j=>by simp only [World.cell?,Aq];rfl
  obtain⟨q0,q1,q2,q3,q4,q5⟩:=Sx Ab;have Bh:Below w.heap.size w (W.setCell ⟨w.heap.size+1+1,0,none⟩ (.int .i64 ((Aa.length:Int)+1))):=hB.setCell (p:=⟨w.heap.size+1+1,0,none⟩) (by show w.heap.size<=w.heap.size+1+1;omega) _;have Cg:=Hd (show Below w.heap.size W (W.setCell ⟨w.heap.size+1+1,0,none⟩ (.int .i64 ((Aa.length:Int)+1))) from(Yg _ _).setCell (p:=⟨w.heap.size+1+1,0,none⟩) (by show w.heap.size<=w.heap.size+1+1;omega) _);have Bg:=Hd (KeepsOthers.setCell W ⟨w.heap.size+1+1,0,none⟩ (.int .i64 ((Aa.length:Int)+1)));have Cb:=Hd (fV.setCell Ag (by decide) (.int .i64 ((Aa.length:Int)+1)));have Ck:(W.setCell ⟨w.heap.size+1+1,0,none⟩ (.int .i64 ((Aa.length:Int)+1))).heap.size=W.heap.size:=by simp [World.setCell]
  have Am:=Hd (Ae _ Bh);have Aw:=Hd Bh;have Al:=Hd Ai;have Bb:=Hd (show Boxed (W.setCell ⟨w.heap.size+1+1,0,none⟩ (.int .i64 ((Aa.length:Int)+1))) (w.heap.size+1+1) 3 (.int .i64 ((Aa++[y]).length:Nat)) by simpa using Bc);have Bf:=Hd Ap;have Bn:=Hd (show dW (Aa++[y])=dW Aa++[y.1.x] by rw [uI];rfl);have Ay:=Aj.lt;have Cp:=Ag.lt;have Cn:=(Yl.1 Ah).1;clear Ab Aq Ap Av Ah Ae Bh Bc Ai Ch;unfold aE at q0 q1 q2 q3 q4 q5 Am ⊢
  by_cases Cs:60<=Aa.length
  . have hd:decide ((60:Int)<(Aa.length:Int)+1)=true:=Zx (by omega);have Bi:60<(dW (Aa++[y])).length:=by rw [xU];simp;omega
    gi_wp2_with fail
    first | refine⟨trivial,?_⟩ | skip
    gi_wp2_with fail
    exact⟨(Bg.o.from _).trans ((KeepsOthers.setCell _ _ _).from _),⟨rfl,.inl Bi⟩,Al.o.set _,Aw.o.setCell (p:=⟨w.heap.size+1,0,none⟩) (Nat.le_succ _) _⟩
  . have hd:decide ((60:Int)<(Aa.length:Int)+1)=false:=Zy (by omega)
    cases hp:bA y.1.x with
    | true=>
     rw [hp] at Am
     have Cd:=Hd (show ∀ z∈dW (Aa++[y]),bA z=true from fun z hz=>by
      rw [Bn.o] at hz;rcases Zn.1 hz with h | h
      . exact An z h
      . obtain rfl:z=y.1.x:=by simpa using h
        exact hp)
     have Cm:1<=n-1-1:=by omega
     gi_wp2_with fail
     refine⟨trivial,(CallsIn.inRound l (callsIn_wide.2 Am.o)).mono ?_⟩;rintro e w3 ⟨rfl,Af⟩;have Ad:=Hd Af;clear Af
     gi_wp2_with fail
     exact⟨(Bg.o.from _).trans (sU Ad.o),⟨Cg.o.trans (Ad.o.mono (by rw [Ck];omega)),Cb.o.trans (fV.of_below Ad.o)⟩,
      ⟨⟨tF Al.o Ad.o (by omega),tF Bb.o Ad.o (by omega)⟩,fV.of_below Ad.o _ _ _ Bf.o⟩,⟨by simp;omega,Cd.o⟩,Aw.o.trans (Ad.o.mono (by omega))⟩
    | false=>
     rw [hp] at Am;have Cl:=Hd (show ∃ z∈dW (Aa++[y]),bA z=false from⟨y.1.x,by rw [Bn.o];simp,hp⟩);have Cm:1<=n-1-1:=by omega
     gi_wp2_with fail
     refine⟨trivial,(CallsIn.inRound l (callsIn_wide.2 Am.o)).mono ?_⟩;rintro e w3 ⟨rfl,Af⟩;have Ad:=Hd Af;have Ac:=tF Al.o Af (by omega);have e5:=Ac.cell;have f5:=Ac.frozen;have Ak:=Hd Ac;clear Af Ac
     gi_wp2_with fail
     exact⟨((Bg.o.from _).trans (sU Ad.o)).trans ((KeepsOthers.setCell _ _ _).from _),⟨rfl,.inr Cl.o⟩,Ak.o.set _,(Aw.o.trans (Ad.o.mono (by omega))).setCell (p:=⟨w.heap.size+1,0,none⟩) (Nat.le_succ _) _⟩
 case done=>
  rintro D ys W hD Cf ⟨⟨⟨Aj,Ag⟩,Ah⟩,⟨Ao,An⟩,hB⟩ hK;have Ab:∀ j,W.cell? ⟨w.heap.size,j,none⟩=(aE x A ca B cb)[j]?:=fun j=>by simp only [World.cell?,Ah];rfl
  obtain⟨q0,q1,q2,q3,q4,q5⟩:=Sx Ab;unfold aE at q0 q1 q2 q3 q4 q5;have Bv:=Hd (Bt.o W hB);have Bk:=Hd (aK0 Cf (by rw [xU];exact Ao) An);have Ay:=Aj.lt;have Ca:=(Yl.1 hK).1;clear Ab
  gi_wp2_with fail
  refine⟨trivial,(callsIn_wide.2 Bv.o).mono ?_⟩;rintro e w3 ⟨rfl,Af⟩;have Ac:=tF Aj Af Ay;have e5:=Ac.cell;have f5:=Ac.frozen;have Ak:=Hd Ac;have Ad:=Hd (hB.trans (Af.mono hB.size));have Cc:=(Af.block D Ca).trans hK;clear Af Ac q0 q1 q2 q3 q4 q5
  gi_wp2_with fail
  have Bq:=(KeepsOthers.setCell w3 ⟨w.heap.size+1,0,none⟩ (.bool (decide ((gF x:Int)<=12)))).same D _ Cc rfl;have k1:=((Ak.o.set (.bool (decide ((gF x:Int)<=12)))).kept (grownBy_putObj' _ D (.deferred none)) (fun e=>by cases e;omega)).cell;refine⟨by simp,.inl ⟨_,_,rfl,run_takeDeferred Bq,?_⟩⟩;refine⟨.bool (decide ((gF x:Int)<=12)),?_,by rw [Bk.o],(Ad.o.setCell (p:=⟨w.heap.size+1,0,none⟩) (Nat.le_succ _) _).trans (belowK_b (w:=w) (Yh _) _ D _ _ (by omega) Bq rfl rfl)⟩
  simp [results,Tryz.f40,go_sem,k1]
 case stop=>
  rintro D c Aa W hD As ⟨⟨rfl,Ba⟩,hb,hB⟩ hK;have Bk:=Hd (show bB x=false from Ba.elim (fun h=>aIr As h) (fun⟨z,hz,h⟩=>aKz As hz h));have Ay:=hb.lt
  gi_wp2_with fail
  have k1:=(hb.kept (grownBy_putObj' _ D (.deferred none)) (fun e=>by cases e;omega)).cell;refine⟨by simp,.inl ⟨_,_,rfl,run_takeDeferred hK,?_⟩⟩;refine⟨.bool false,?_,by rw [Bk.o],hB.trans (belowK_b (w:=w) (Yh _) _ D _ _ (by omega) hK rfl rfl)⟩
  simp [results,Tryz.f40,go_sem,k1]
theorem rY(x:Ex) (A:Option Addr) (ca:Nat) (B:Option Addr) (cb:Nat) (w:World) (hr:aJ w x A B) (hs:bG x<=1000000) (Aa:∀ p∈bI x,cL p):
 Calls Tryz.prog 40 #[.agg (aE x A ca B cb)] w fun e w'=>e=.returned (.bool (bB x))/\Below w.heap.size w w' :=
 callsIn_wide.1 (aIs 6 (Yh _) x A ca B cb w hr hs Aa)
end
end Go.Proofs.YtegjgiofmpolnaaGreat
