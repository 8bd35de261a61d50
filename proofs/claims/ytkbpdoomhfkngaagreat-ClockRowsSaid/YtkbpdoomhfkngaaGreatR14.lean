/- Parts of the proof: EyH, EyK, ClC, ClD, ClE, ClF, ClG, ClH. Conditions: each theorem's own. -/
import Derived.Deep.AppendLies
import Derived.Deep.RegionHeld
import Derived.Test.YtkbpdoomhfkngaaGreatR11
import Derived.Test.YtkbpdoomhfkngaaGreatR12
import Derived.Test.YtkbpdoomhfkngaaGreatR13
namespace Go.Proofs.YtkbpdoomhfkngaaGreat
set_option linter.unusedVariables false
set_option linter.unusedSimpArgs false
set_option maxRecDepth 100000
set_option maxHeartbeats 40000000
section
open Go.RowKit Go.Sort
theorem row_block(w:World) (n:Int) (s:ByteArray) (op:Int) (A:Option Addr) (len ca:Nat) (h:Bool) (lo hi:Int) (w1:World) (e:w.alloc (.cells (rowA 0 n s op A len ca h lo hi) 186)=w1):
 Below w.heap.size w w1∧w.heap.size<w1.heap.size∧w1.cell? ⟨w.heap.size,0,none⟩=some (.int .i64 0)∧w1.frozen? ⟨w.heap.size,0,none⟩=false ∧
  ∀ (k:Int) (w2:World),w1.setCell ⟨w.heap.size,0,none⟩ (.int .i64 k)=w2→Below w.heap.size w w2∧∀ w3,Below w2.heap.size w2 w3→∀ j,w3.cell? ⟨w.heap.size,j,none⟩=(rowA k n s op A len ca h lo hi)[j]?:=by
 subst e;have hn:(w.alloc (.cells (rowA 0 n s op A len ca h lo hi) 186)).heap[w.heap.size]?=some (Obj.cells (rowA 0 n s op A len ca h lo hi) 186):=World.alloc_heap_new _ _;have hb:Below w.heap.size w (w.alloc (.cells (rowA 0 n s op A len ca h lo hi) 186)):=(Below.refl _ _).alloc (Nat.le_refl _) _
 have hc:∀ j,(w.alloc (.cells (rowA 0 n s op A len ca h lo hi) 186)).cell? ⟨w.heap.size,j,none⟩=(rowA 0 n s op A len ca h lo hi)[j]?:=fun j=>by
  rw [World.cell?_alloc_new]
 refine⟨hb,by simp,by rw [hc];rfl,by simp only [World.frozen?,hn];rfl,fun k w2 e2=>?_⟩;subst e2;refine⟨hb.setCell (p:=⟨w.heap.size,0,none⟩) (Nat.le_refl _) _,fun w3 h3 j=>?_⟩;rw [h3.cell (p:=⟨w.heap.size,j,none⟩) (by have:=(grownBy_setCell' (w.alloc (.cells (rowA 0 n s op A len ca h lo hi) 186)) w.heap.size (.int .i64 k)).size;simp at this ⊢)]
 cases j with
 | zero=>exact World.cell?_setCell_same' _ _ _ (by rw [hc];rfl)
 | succ j=>
  rw [World.cell?_setCell_other _ _ _ _ (by intro e;injection e with _ e;exact absurd e (by simp)),hc];rfl
theorem namX_k(k n:Int) (s:ByteArray) (op:Int) (arms:List ByteArray):(namX k n s op arms).k=k:=rfl
theorem namX_n(k n:Int) (s:ByteArray) (op:Int) (arms:List ByteArray):(namX k n s op arms).n=n:=rfl
theorem namX_s(k n:Int) (s:ByteArray) (op:Int) (arms:List ByteArray):(namX k n s op arms).s=s:=rfl
theorem namX_op(k n:Int) (s:ByteArray) (op:Int) (arms:List ByteArray):(namX k n s op arms).op=op:=rfl
theorem namX_arms(k n:Int) (s:ByteArray) (op:Int) (arms:List ByteArray):(namX k n s op arms).arms=arms:=rfl
theorem namX_subs(k n:Int) (s:ByteArray) (op:Int) (arms:List ByteArray):(namX k n s op arms).subs=[]:=rfl
theorem rd_nam{w:World}{A:Option Addr}{arms:List ByteArray}(k n:Int) (s:ByteArray) (op:Int) (h:RdT w A arms.length arms):rdX w (namX k n s op arms) A none:=
 rdX_eq.2 ⟨h,RdX.nil_ _⟩
theorem exFits(x:Ex) (A:Option Addr) (ca:Nat) (B:Option Addr) (cb:Nat) (w:World) (hr:rdX w x A B) (hsh:ShortP x):
 Calls Tryz.prog 168 #[.agg (exA x A ca B cb)] w fun e w'=>e=.returned (.bool (partX x))∧Below w.heap.size w w':=by
 have HF:=Hd fun w1 h=>box_facts w x A ca B cb w1 h hr;have HAS:=Hd fun w1 (h:Below w.heap.size w w1)=>exAsked x A ca B cb w1 (hr.below h) hsh;have HFL:=Hd fun(n:Int) (s:ByteArray) (op:Int) (A':Option Addr) (arms:List ByteArray) (ca':Nat) (w1:World) (h:Below w.heap.size w w1) (hA:RdT w1 A' arms.length arms)=>exFields x A ca B cb (namX x.k n s op arms) A' ca' none 0 w1 (hr.below h) (rd_nam x.k n s op hA);have hmx:=hr.subs.max;clear hr;unfold exA at HF HAS HFL ⊢;simp only [namX_k,namX_n,namX_s,namX_op,namX_arms,namX_subs,List.length_nil] at HFL;generalize hres:partX x=res;have HRES:=Hd hres;clear hres;generalize hlen:x.subs.length=len at *;have HLEN:=Hd hlen;clear hlen;generalize x.arms.length=lar at *
 go_enter Tryz.func168,Tryz.ntmps168
 go_upto_region 1 with(fail)
 generalize hw1:w.alloc _=w1;obtain⟨hb1,hg,hr1,hcell⟩:=HF.out w1 hw1;have HB1:=Hd hb1;have HC:=Hd hcell;obtain⟨q0,q1,q2,q3,q4,q5⟩:=Sx (hcell w1 (Below.refl _ _));have HA1:=Hd (HAS.out w1 hb1);clear hcell hb1 hr1 hw1 HF HAS
 go_wp2_with fail
 refine HA1.out.mono ?_;rintro r w2 ⟨n,s,op,A',arms,ca',hh,lo,hi,rfl,hrt,hrow,hb2⟩;have HB2:=Hd (HB1.out.trans (hb2.mono HB1.out.size));have HW2:=Hd hb2;have HRT:=Hd hrt;have HS:=Hd (show res=(hh && fieldsB x (namX x.k n s op arms) && decide (lo≤(len:Int)) && decide ((len:Int)≤hi)) by rw [← HRES.out,← HLEN.out];exact hrow.symm);have HRB:=Hd fun w3 h=>row_block w2 n s op A' arms.length ca' hh lo hi w3 h;have HF1:=Hd fun w4 h hA=>HFL.out n s op A' arms ca' w4 h hA;clear q0 q1 q2 q3 q4 q5 hrt hrow hb2 HFL;unfold rowA at HRB ⊢;generalize fieldsB x (namX x.k n s op arms)=fb at *
 go_upto_region 2 with(fail)
 generalize hw3:w2.alloc _=w3;obtain⟨hb3,hg3,hc0,hf0,hset⟩:=HRB.out w3 hw3;have q0:=HC.out w3 (HW2.out.trans (hb3.mono HW2.out.size)) 0;have HSET:=Hd hset;have HB3:=Hd hb3;clear hset hb3 hw3 HRB
 go_upto_region 3 with(fail)
 generalize hw4:w3.setCell _ _=w4;obtain⟨hb4,hcell4⟩:=HSET.out _ w4 hw4;have HB4:=Hd (HB2.out.trans (hb4.mono HB2.out.size));have HW4:=Hd (HW2.out.trans (hb4.mono HW2.out.size));have HC4:=Hd hcell4;have HF4:=Hd (HF1.out w4 HB4.out (HRT.out.below hb4));obtain⟨q0,q1,q2,q3,q4,q5⟩:=Sx (HC.out w4 HW4.out);obtain⟨r0,r1,r2,r3,r4,r5⟩:=Sx (hcell4 w4 (Below.refl _ _));have r6:=hcell4 w4 (Below.refl _ _) 6;clear hcell4 hb4 hw4 HSET hc0 hf0 HF1
 cases hh with
 | false=>
  have HN:=Hd (show res=false by rw [HS.out];simp)
  go_wp2_with fail
  go_ret
  exact⟨ret_bool HN.out.symm,HB4.out⟩
 | true=>
  cases fb with
  | false=>
   have HN:=Hd (show res=false by rw [HS.out];simp)
   go_wp2_with fail
   refine HF4.out.mono ?_;rintro r w5 ⟨rfl,hb5⟩;have HB5:=Hd (HB4.out.trans (hb5.mono HB4.out.size));clear hb5 q0 q1 q2 q3 q4 q5 r0 r1 r2 r3 r4 r5 r6
   go_wp2_with fail
   go_ret
   exact⟨ret_bool HN.out.symm,HB5.out⟩
  | true=>
   cases hlo:decide (lo≤(len:Int)) with
   | false=>
    have HN:=Hd (show res=false by rw [HS.out,hlo];simp)
    go_wp2_with fail
    refine HF4.out.mono ?_;rintro r w5 ⟨rfl,hb5⟩;have HB5:=Hd (HB4.out.trans (hb5.mono HB4.out.size));have r7:=HC4.out w5 hb5 7;have r8:=HC4.out w5 hb5 8;clear hb5 q0 q1 q2 q3 q4 q5 r0 r1 r2 r3 r4 r5 r6
    go_wp2_with fail
    go_ret
    exact⟨ret_bool HN.out.symm,HB5.out⟩
   | true=>
    have HN:=Hd (show res=decide ((len:Int)≤hi) by rw [HS.out,hlo];simp)
    go_wp2_with fail
    refine HF4.out.mono ?_;rintro r w5 ⟨rfl,hb5⟩;have HB5:=Hd (HB4.out.trans (hb5.mono HB4.out.size));have r7:=HC4.out w5 hb5 7;have r8:=HC4.out w5 hb5 8;clear hb5 q0 q1 q2 q3 q4 q5 r0 r1 r2 r3 r4 r5 r6
    go_wp2_with fail
    go_ret
    exact⟨ret_bool HN.out.symm,HB5.out⟩
end
section
open Go.RowKit Go.Shelf
attribute [local go_sem] Oper.semAt_some
theorem keepsFromBelow{B:Nat}{W W':World}(h:Below W.heap.size W W'):KeepsFrom B W W':=KeepsFrom.of_grownBy (grownBy_of_below' h) (fun j e=>by cases e)
theorem boxedBelow{W W':World}{B:Nat}{t:TypeId}{v:Value}(h:Boxed W B t v){n:Nat}(hb:Below n W W') (hn:B<n):Boxed W' B t v:=(hb.block B hn).trans h
theorem keepsE_new{W:World}{Bs:Nat}{cs:Array Value}{B:Nat}{t:TypeId}{v:Value}(h:W.heap[Bs]?=some (Obj.cells cs 52)) (hb:Boxed W B t v) (ht:t≠52) (u:Value):(W.setCell ⟨B,0,none⟩ u).heap[Bs]?=some (Obj.cells cs 52):=KeepsE.setCell hb ht u _ _ _ h
theorem right_many{x:Ex}{l:List Ex}(h:l <+: partsX x) (hl:60<l.length):rightX x=false:=by
 have:=h.length_le;rw [partsX_len] at this
 simp [rightX,show 60<sizeX x by omega]
theorem right_bad{x z:Ex}{l:List Ex}(h:l <+: partsX x) (hz:z∈l) (hp:partX z=false):rightX x=false:=by
 have:(partsX x).all partX=false:=by
  rw [List.all_eq_false];exact⟨z,h.subset hz,by simp [hp]⟩
 simp [rightX,this]
theorem right_all{x:Ex}{l:List Ex}(h:l=partsX x) (hl:l.length≤60) (hp:∀ z∈l,partX z=true):rightX x=decide ((depthX x:Int)≤12):=by
 subst h;rw [partsX_len] at hl;have:(partsX x).all partX=true:=List.all_eq_true.2 hp
 have h2:(!decide (12<depthX x))=decide ((depthX x:Int)≤12):=by
  rw [Bool.eq_iff_iff];simp;omega
 have h3:(!decide (60<sizeX x))=true:=by simp;omega
 simp only [rightX,this,h2,h3,Bool.true_and,Bool.and_true]
theorem exRight_in(n:Nat) (hn:6≤n) (x:Ex) (A:Option Addr) (ca:Nat) (B:Option Addr) (cb:Nat) (w:World) (hr:rdX w x A B) (hs:sizeX x≤1000000) (hsh:∀ p∈partsX x,ShortP p):
 CallsIn Fence.wide n Tryz.prog 138 #[.agg (exA x A ca B cb)] w fun e w'=>e=.returned (.bool (rightX x))∧Below w.heap.size w w':=by
 have h1:1≤n:=by omega
 have HF:=Hd fun w1 h=>box_facts w x A ca B cb w1 h hr;have HR:=Hd hr;have HSH:=Hd hsh;have HEA:=Hd fun w1 (h:Below w.heap.size w w1)=>exEach x A ca B cb w1 (hr.below h);have HDP:=Hd fun w1 (h:Below w.heap.size w w1)=>exDepth x A ca B cb w1 (hr.below h) hs;have HST:=Hd fun(n Bs:Nat) (w0 w1:World) h hb hbx=>each_stops n Bs x A ca B cb w0 w1 h hb hbx;clear hsh;have hds:=depth_size x;unfold exA at HEA HDP ⊢;refine callsIn_of_wp_marks Tryz.func138 rfl trivial ?_ rfl;simp only [Tryz.ntmps138,List.size_toArray,List.length_cons,List.length_nil,Nat.reduceAdd,Nat.reduceSub,Array.replicate_succ,Array.replicate_zero,List.push_toArray,List.append_toArray,List.nil_append,List.cons_append];obtain⟨hb1,hg1,hr1,hcell⟩:=HF.out _ rfl;unfold exA at hb1 hg1 hr1 hcell;have hbN:Below w.heap.size w (((w.alloc (.cells #[.int .i64 x.k,.int .i64 x.n,.string x.s,.int .i64 x.op,.slice A x.arms.length ca,.slice B x.subs.length cb] 52)).alloc (.cells #[.bool false] 4)).alloc (.cells #[.int .i64 0] 3)):=(hb1.alloc (Nat.le_of_lt hg1) _).alloc (by simp;omega) _;have hbM:=((Below.refl (w.alloc (.cells #[.int .i64 x.k,.int .i64 x.n,.string x.s,.int .i64 x.op,.slice A x.arms.length ca,.slice B x.subs.length cb] 52)).heap.size (w.alloc (.cells #[.int .i64 x.k,.int .i64 x.n,.string x.s,.int .i64 x.op,.slice A x.arms.length ca,.slice B x.subs.length cb] 52))).alloc (Nat.le_refl _) (.cells #[.bool false] 4)).alloc (by simp) (.cells #[.int .i64 0] 3);obtain⟨q0,q1,q2,q3,q4,q5⟩:=Sx (hcell _ hbM)
 have hbe:(((w.alloc (.cells #[.int .i64 x.k,.int .i64 x.n,.string x.s,.int .i64 x.op,.slice A x.arms.length ca,.slice B x.subs.length cb] 52)).alloc (.cells #[.bool false] 4)).alloc (.cells #[.int .i64 0] 3)).heap[w.heap.size]?=some (Obj.cells (exA x A ca B cb) 52):=by
  rw [hbM.block _ (by simp)];exact World.alloc_heap_new _ _
 have HEA2:=Hd (HEA.out _ hbN);clear HF hb1 hg1 hr1 hcell hr HEA hbM
 gi_wp2_with fail
 refine⟨trivial,(callsIn_wide.2 HEA2.out).mono ?_⟩;rintro e w' ⟨rfl,rfl⟩
 gi_wp2_with fail
 have hR0:Boxed (((w.alloc (.cells #[.int .i64 x.k,.int .i64 x.n,.string x.s,.int .i64 x.op,.slice A x.arms.length ca,.slice B x.subs.length cb] 52)).alloc (.cells #[.bool false] 4)).alloc (.cells #[.int .i64 0] 3)) (w.heap.size+1) 4 (.bool false):=by
  have:=(Boxed.new (w.alloc (.cells #[.int .i64 x.k,.int .i64 x.n,.string x.s,.int .i64 x.op,.slice A x.arms.length ca,.slice B x.subs.length cb] 52)) 4 (.bool false)).alloc (.cells #[.int .i64 0] 3);rwa [World.size_alloc] at this
 have hN0:Boxed (((w.alloc (.cells #[.int .i64 x.k,.int .i64 x.n,.string x.s,.int .i64 x.op,.slice A x.arms.length ca,.slice B x.subs.length cb] 52)).alloc (.cells #[.bool false] 4)).alloc (.cells #[.int .i64 0] 3)) (w.heap.size+1+1) 3 (.int .i64 0):=by
  have:=Boxed.new ((w.alloc (.cells #[.int .i64 x.k,.int .i64 x.n,.string x.s,.int .i64 x.op,.slice A x.arms.length ca,.slice B x.subs.length cb] 52)).alloc (.cells #[.bool false] 4)) 3 (.int .i64 0);rwa [World.size_alloc,World.size_alloc] at this
 have hsz:(((w.alloc (.cells #[.int .i64 x.k,.int .i64 x.n,.string x.s,.int .i64 x.op,.slice A x.arms.length ca,.slice B x.subs.length cb] 52)).alloc (.cells #[.bool false] 4)).alloc (.cells #[.int .i64 0] 3)).heap.size=w.heap.size+1+1+1:=by simp
 clear q0 q1 q2 q3 q4 q5 HEA2;generalize ((w.alloc _).alloc _).alloc _=w2 at *
 have hbk:(w2.alloc (.cells #[.int .i64 x.k,.int .i64 x.n,.string x.s,.int .i64 x.op,.slice A x.arms.length ca,.slice B x.subs.length cb] 52)).heap[w.heap.size+1+1+1]?=some (Obj.cells (exA x A ca B cb) 52):=by
  rw [← hsz];exact World.alloc_heap_new _ _
 have hbE:(w2.alloc (.cells #[.int .i64 x.k,.int .i64 x.n,.string x.s,.int .i64 x.op,.slice A x.arms.length ca,.slice B x.subs.length cb] 52)).heap[w.heap.size]?=some (Obj.cells (exA x A ca B cb) 52):=(((Below.refl _ w2).alloc (Nat.le_refl _) _).block _ (by omega)).trans hbe;have hR1:=hR0.alloc (.cells #[.int .i64 x.k,.int .i64 x.n,.string x.s,.int .i64 x.op,.slice A x.arms.length ca,.slice B x.subs.length cb] 52);have hN1:=hN0.alloc (.cells #[.int .i64 x.k,.int .i64 x.n,.string x.s,.int .i64 x.op,.slice A x.arms.length ca,.slice B x.subs.length cb] 52);have hB1:=hbN.alloc hbN.size (.cells #[.int .i64 x.k,.int .i64 x.n,.string x.s,.int .i64 x.op,.slice A x.arms.length ca,.slice B x.subs.length cb] 52);have hs1:(w2.alloc (.cells #[.int .i64 x.k,.int .i64 x.n,.string x.s,.int .i64 x.op,.slice A x.arms.length ca,.slice B x.subs.length cb] 52)).heap.size=w.heap.size+4:=by simp [hsz]
 clear hN0 hbN hR0 hbe;generalize w2.alloc _=W0 at *;clear hsz
 refine wpIn_rangeFunc_ownH rfl h1 (gf:=139) (lb:=#[.pointer (some ⟨w.heap.size+1+1+1,0,none⟩)]) rfl trivial (enters_of Tryz.func139 (by kernel_rfl) rfl)
  (HST.out (n-1) (w.heap.size+1+1+1) w W0 HR.out hB1 hbk) (fun h k=>h.trans k) (kpE_b (by omega)) (Below.refl _ _) (fun _=>rfl)
  (fun(pre:List (PtIn w x)) W=>((Boxed W (w.heap.size+1) 4 (.bool false)∧Boxed W (w.heap.size+1+1) 3 (.int .i64 (pre.length:Nat)))∧W.heap[w.heap.size]?=some (Obj.cells (exA x A ca B cb) 52))∧(pre.length≤60∧∀ z∈exs pre,partX z=true)∧Below w.heap.size w W)
  (fun c (pre:List (PtIn w x)) W=>(c=.ret∧(60<(exs pre).length∨∃ z∈exs pre,partX z=false))∧Boxed W (w.heap.size+1) 4 (.bool false)∧Below w.heap.size w W)
  (OwnFrom.and (Own.from (fun s X Y row hs hg hr=>⟨⟨boxed_own _ _ (fun _=>_) () X Y row hs.1.1 hg hr,boxed_own _ _ (fun(pre:List (PtIn w x))=>Value.int .i64 (pre.length:Nat)) s X Y row hs.1.2 hg hr⟩,blkOwn (β:=Unit) _ _ _ () X Y row hs.2 hg hr⟩) _) (OwnFrom.and (ownFrom_pure _ _) (ownFrom_below (Nat.le_refl _) (by omega))))
  (fun c=>OwnFrom.and (ownFrom_pure _ _) (OwnFrom.and (Own.from (boxed_own _ _ (fun _=>_)) _) (ownFrom_below (Nat.le_refl _) (by omega))))
  ⟨⟨⟨hR1,hN1⟩,hbE⟩,⟨Nat.zero_le _,by simp [exs]⟩,hB1⟩
  (fun(y:PtIn w x) a' W=>∃ Bx:Nat,W.heap[Bx]?=some (Obj.cells (exA y.1.x y.1.A y.1.ca y.1.B y.1.cb) 52)∧a'={ tmps:=#[.agg #[.int .i64 x.k,.int .i64 x.n,.string x.s,.int .i64 x.op,.slice A x.arms.length ca,.slice B x.subs.length cb],.pointer (some ⟨w.heap.size,0,none⟩),.pointer (some ⟨w.heap.size+1,0,none⟩),.pointer (some ⟨w.heap.size+1+1,0,none⟩),.pointer (some ⟨Bx,0,none⟩),.agg #[.int .i64 x.k,.int .i64 x.n,.string x.s,.int .i64 x.op,.slice A x.arms.length ca,.slice B x.subs.length cb],.func (.func 139) #[] #[.pointer (some ⟨w.heap.size+1+1+1,0,none⟩)],.agg (exA y.1.x y.1.A y.1.ca y.1.B y.1.cb),undef,undef,undef,undef,undef,undef,undef,undef,undef,undef,undef,undef],defers:=[] })
  (fun y a' s X Y row hs hg hr=>by obtain⟨Bx,h2,h3⟩:=hs;exact⟨Bx,(blkOwn (β:=Unit) Bx _ _).from W0.heap.size () X Y row h2 hg hr,h3⟩)
  ?assign ?body ?done ?stop
 case assign=>
  rintro l pre y W K ⟨⟨⟨hbr,hbn⟩,hbe⟩,hpp,hB⟩ hK;have hz:∀ v:Value,(#[7]:Array Tmp).zip #[v]=#[(7,v)]:=fun v=>by first | rfl | simp
  simp only [encP,hz];unfold exA at hK ⊢
  gi_wp2
  exact hK _ _ ((KeepsOthers.alloc _ _).from _) (KpE.of_below ((Below.refl _ _).alloc (Nat.le_refl _) _) hB.size) ⟨⟨⟨hbr.alloc _,hbn.alloc _⟩,KeepsE.alloc _ _ _ _ _ hbe⟩,hpp,hB.alloc hB.size _⟩ ⟨W.heap.size,World.alloc_heap_new _ _,rfl⟩
 case body=>
  rintro l pre y a' W hl _ ⟨⟨⟨hbr,hbn⟩,hbe⟩,⟨hp60,hpp⟩,hB⟩ ⟨Bx,hbx,rfl⟩ hlt
  have hfits:∀ W1,Below w.heap.size w W1→Calls Tryz.prog 168 #[.agg (exA y.1.x y.1.A y.1.ca y.1.B y.1.cb)] W1 fun e w'=>e=.returned (.bool (partX y.1.x))∧Below W1.heap.size W1 w':=fun W1 h=>
   exFits y.1.x y.1.A y.1.ca y.1.B y.1.cb W1 (y.2.1.below h) (HSH.out _ y.2.2)
  have HFI:=Hd hfits;have e1:=hbn.cell;have f1:=hbn.frozen;have hbs:=hbn.set (.int .i64 ((pre.length:Int)+1));have hbrs:=hbr.other (B':=w.heap.size+1+1) (by omega) (.int .i64 ((pre.length:Int)+1));have e2:=hbs.cell;have e3:=hbrs.cell;have f3:=hbrs.frozen;have hbxs:=keepsE_new hbx hbn (by decide) (.int .i64 ((pre.length:Int)+1));have hbes:=keepsE_new hbe hbn (by decide) (.int .i64 ((pre.length:Int)+1));have hcell:∀ j,(W.setCell ⟨w.heap.size+1+1,0,none⟩ (.int .i64 ((pre.length:Int)+1))).cell? ⟨Bx,j,none⟩=(exA y.1.x y.1.A y.1.ca y.1.B y.1.cb)[j]?:=fun j=>by simp only [World.cell?,hbxs];rfl
  obtain⟨q0,q1,q2,q3,q4,q5⟩:=Sx hcell;have hBS:Below w.heap.size w (W.setCell ⟨w.heap.size+1+1,0,none⟩ (.int .i64 ((pre.length:Int)+1))):=hB.setCell (p:=⟨w.heap.size+1+1,0,none⟩) (by show w.heap.size≤w.heap.size+1+1;omega) _;have HWS:=Hd (show Below w.heap.size W (W.setCell ⟨w.heap.size+1+1,0,none⟩ (.int .i64 ((pre.length:Int)+1))) from(Below.refl _ _).setCell (p:=⟨w.heap.size+1+1,0,none⟩) (by show w.heap.size≤w.heap.size+1+1;omega) _);have HKS:=Hd (KeepsOthers.setCell W ⟨w.heap.size+1+1,0,none⟩ (.int .i64 ((pre.length:Int)+1)));have HES:=Hd (KeepsE.setCell hbn (by decide) (.int .i64 ((pre.length:Int)+1)));have hsS:(W.setCell ⟨w.heap.size+1+1,0,none⟩ (.int .i64 ((pre.length:Int)+1))).heap.size=W.heap.size:=by simp [World.setCell]
  have HFS:=Hd (hfits _ hBS);have HBS:=Hd hBS;have HBRS:=Hd hbrs;have HBNS:=Hd (show Boxed (W.setCell ⟨w.heap.size+1+1,0,none⟩ (.int .i64 ((pre.length:Int)+1))) (w.heap.size+1+1) 3 (.int .i64 ((pre++[y]).length:Nat)) by simpa using hbs);have HBES:=Hd hbes;have HEY:=Hd (show exs (pre++[y])=exs pre++[y.1.x] by rw [exs_app];rfl);have hlr:=hbr.lt;have hln:=hbn.lt;have hxl:=(Array.getElem?_eq_some_iff.1 hbe).1;clear hcell hbxs hbes hbx hbe hfits hBS hbs hbrs HFI;unfold exA at q0 q1 q2 q3 q4 q5 HFS ⊢
  by_cases h60:60≤pre.length
  · have hd:decide ((60:Int)<(pre.length:Int)+1)=true:=decide_eq_true (by omega);have hlen:60<(exs (pre++[y])).length:=by rw [exs_len];simp;omega
    gi_wp2_with fail
    first | refine⟨trivial,?_⟩ | skip
    gi_wp2_with fail
    exact⟨(HKS.out.from _).trans ((KeepsOthers.setCell _ _ _).from _),⟨rfl,.inl hlen⟩,HBRS.out.set _,HBS.out.setCell (p:=⟨w.heap.size+1,0,none⟩) (Nat.le_succ _) _⟩
  · have hd:decide ((60:Int)<(pre.length:Int)+1)=false:=decide_eq_false (by omega)
    cases hp:partX y.1.x with
    | true=>
     rw [hp] at HFS
     have HAL:=Hd (show ∀ z∈exs (pre++[y]),partX z=true from fun z hz=>by
      rw [HEY.out] at hz;rcases List.mem_append.1 hz with h | h
      · exact hpp z h
      · obtain rfl:z=y.1.x:=by simpa using h
        exact hp)
     have hd1:1≤n-1-1:=by omega
     gi_wp2_with fail
     refine⟨trivial,(CallsIn.inRound l (callsIn_wide.2 HFS.out)).mono ?_⟩;rintro e w3 ⟨rfl,hb3⟩;have HB3:=Hd hb3;clear hb3
     gi_wp2_with fail
     exact⟨(HKS.out.from _).trans (keepsFromBelow HB3.out),⟨HWS.out.trans (HB3.out.mono (by rw [hsS];omega)),HES.out.trans (KeepsE.of_below HB3.out)⟩,
      ⟨⟨boxedBelow HBRS.out HB3.out (by omega),boxedBelow HBNS.out HB3.out (by omega)⟩,KeepsE.of_below HB3.out _ _ _ HBES.out⟩,⟨by simp;omega,HAL.out⟩,HBS.out.trans (HB3.out.mono (by omega))⟩
    | false=>
     rw [hp] at HFS;have HEX:=Hd (show ∃ z∈exs (pre++[y]),partX z=false from⟨y.1.x,by rw [HEY.out];simp,hp⟩);have hd1:1≤n-1-1:=by omega
     gi_wp2_with fail
     refine⟨trivial,(CallsIn.inRound l (callsIn_wide.2 HFS.out)).mono ?_⟩;rintro e w3 ⟨rfl,hb3⟩;have HB3:=Hd hb3;have hbr3:=boxedBelow HBRS.out hb3 (by omega);have e5:=hbr3.cell;have f5:=hbr3.frozen;have HBR3:=Hd hbr3;clear hb3 hbr3
     gi_wp2_with fail
     exact⟨((HKS.out.from _).trans (keepsFromBelow HB3.out)).trans ((KeepsOthers.setCell _ _ _).from _),⟨rfl,.inr HEX.out⟩,HBR3.out.set _,(HBS.out.trans (HB3.out.mono (by omega))).setCell (p:=⟨w.heap.size+1,0,none⟩) (Nat.le_succ _) _⟩
 case done=>
  rintro D ys W hD hys ⟨⟨⟨hbr,hbn⟩,hbe⟩,⟨hp60,hpp⟩,hB⟩ hK;have hcell:∀ j,W.cell? ⟨w.heap.size,j,none⟩=(exA x A ca B cb)[j]?:=fun j=>by simp only [World.cell?,hbe];rfl
  obtain⟨q0,q1,q2,q3,q4,q5⟩:=Sx hcell;unfold exA at q0 q1 q2 q3 q4 q5;have HDW:=Hd (HDP.out W hB);have HRR:=Hd (right_all hys (by rw [exs_len];exact hp60) hpp);have hlr:=hbr.lt;have hDl:=(Array.getElem?_eq_some_iff.1 hK).1;clear hcell
  gi_wp2_with fail
  refine⟨trivial,(callsIn_wide.2 HDW.out).mono ?_⟩;rintro e w3 ⟨rfl,hb3⟩;have hbr3:=boxedBelow hbr hb3 hlr;have e5:=hbr3.cell;have f5:=hbr3.frozen;have HBR3:=Hd hbr3;have HB3:=Hd (hB.trans (hb3.mono hB.size));have hK3:=(hb3.block D hDl).trans hK;clear hb3 hbr3 q0 q1 q2 q3 q4 q5
  gi_wp2_with fail
  have hK':=(KeepsOthers.setCell w3 ⟨w.heap.size+1,0,none⟩ (.bool (decide ((depthX x:Int)≤12)))).same D _ hK3 rfl;have k1:=((HBR3.out.set (.bool (decide ((depthX x:Int)≤12)))).kept (grownBy_putObj' _ D (.deferred none)) (fun e=>by cases e;omega)).cell;refine⟨by simp,.inl ⟨_,_,rfl,run_takeDeferred hK',?_⟩⟩;refine⟨.bool (decide ((depthX x:Int)≤12)),?_,by rw [HRR.out],(HB3.out.setCell (p:=⟨w.heap.size+1,0,none⟩) (Nat.le_succ _) _).trans (belowK_b (w:=w) (Nat.le_refl _) _ D _ _ (by omega) hK' rfl rfl)⟩
  simp [results,Tryz.f138,go_sem,k1]
 case stop=>
  rintro D c pre W hD hpre ⟨⟨rfl,hbad⟩,hb,hB⟩ hK;have HRR:=Hd (show rightX x=false from hbad.elim (fun h=>right_many hpre h) (fun⟨z,hz,h⟩=>right_bad hpre hz h));have hlr:=hb.lt
  gi_wp2_with fail
  have k1:=(hb.kept (grownBy_putObj' _ D (.deferred none)) (fun e=>by cases e;omega)).cell;refine⟨by simp,.inl ⟨_,_,rfl,run_takeDeferred hK,?_⟩⟩;refine⟨.bool false,?_,by rw [HRR.out],hB.trans (belowK_b (w:=w) (Nat.le_refl _) _ D _ _ (by omega) hK rfl rfl)⟩
  simp [results,Tryz.f138,go_sem,k1]
theorem exRight(x:Ex) (A:Option Addr) (ca:Nat) (B:Option Addr) (cb:Nat) (w:World) (hr:rdX w x A B) (hs:sizeX x≤1000000) (hsh:∀ p∈partsX x,ShortP p):
 Calls Tryz.prog 138 #[.agg (exA x A ca B cb)] w fun e w'=>e=.returned (.bool (rightX x))∧Below w.heap.size w w' :=
 callsIn_wide.1 (exRight_in 6 (Nat.le_refl _) x A ca B cb w hr hs hsh)
end
section
open Go.RowKit Go.Sort Go.BigFrame
theorem rowOf_no{p:Pg}{i:Int}{s:ByteArray}(h:i<0∨(p.ns.length:Int)≤i):rowOf p i s=none:=if_pos h
theorem rowOf_in{p:Pg}{i:Nat}{s:ByteArray}(h:i<p.ns.length):rowOf p i s=rowC p.es (ndAt p i) s:=by
 unfold rowOf;rw [if_neg (by omega)];rfl
end
section
open Go.RowKit Go.Sort Go.BigFrame
theorem RdC.of_ownC{w:World}{base n:Nat}{e:TypeId}{v:Value}{l:List Cd}(h:w.ownsRow base e 2 v n (flC l)) (hm:n≤9223372036854775807):∃ A c,v=.slice A n c∧RdC w A n l∧n≤c:=by
 obtain⟨A,c,e1,h1⟩:=RdC.of_own h hm;refine⟨A,c,e1,h1,?_⟩;rcases h.2 with⟨h2,h3⟩|⟨g,cap,cur,hv,hg,hh,hnc,hr⟩
 · omega
 · rw [e1] at hv;injection hv with _ _ hc;omega
end
section
open Go.RowKit Go.Sort Go.BigFrame
theorem row_len{es:List En}{n:Nd}{s:ByteArray}{row:List Cd}(h:rowC es n s=some row):row.length≤1000:=by
 unfold rowC at h;obtain⟨l,hl,hc⟩:=Option.bind_eq_some_iff.1 h;rw [condsR_len hc];exact clock_len hl
theorem RdT.cellC{w:World}{A:Option Addr}{n k:Nat}{l:List ByteArray}(h:RdT w A n l) (hk:k<n):∃ b off,A=some ⟨b,off,none⟩∧b<w.heap.size∧w.cell? ⟨b,off+k,none⟩=some (.string (l[k]?.getD ByteArray.empty)):=by
 obtain⟨b,off,e,hb,hc⟩:=h.at_ hk;exact⟨b,off,e,hb,hc k hk⟩
end
section
open Go.RowKit Go.Sort Go.BigFrame
theorem mergeC_no{es:List En}{n:Nd}{x:Ex}{fs:List Ft}{on:List Cd}{k:Nat}(hk:k<x.subs.length) (h:armC es x fs on k=false):mergeC es n x fs on=false:=by
 unfold mergeC;rw [rangeC_no hk h,Bool.and_false]
theorem armC_eq(es:List En) (x:Ex) (fs:List Ft) (on:List Cd) (k:Nat):armC es x fs on k=match armR es (x.arms[k]?.getD ByteArray.empty) with
 | none=>false
 | some r=>fitAt fs k (on++[⟨x.s,r.2.2⟩]):=rfl
end
section
open Go.RowKit Go.Sort Go.BigFrame
end
section
open Go.RowKit Go.Sort Go.BigFrame
end
end Go.Proofs.YtkbpdoomhfkngaaGreat
