/- Parts of the proof: TyR, EyI, EyF, EyJ. Conditions: each theorem's own. -/
import Derived.RangeFuncNested
import Derived.RangeFuncBound
import Derived.RangeFuncCalls
import Derived.RangeFuncLeaves
import Derived.Shelf.Abstract
import Derived.Shelf.RegionOpen
import Derived.OwnWalkIn
import Derived.TacticsInMore
import Derived.LoopNIn
import Derived.LoopIn
import Derived.RangeFuncBox
import Derived.Test.YtkbpdoomhfkngaaGreatR02
namespace Go.Proofs.YtkbpdoomhfkngaaGreat
set_option linter.unusedVariables false
set_option linter.unusedSimpArgs false
set_option maxRecDepth 100000
set_option maxHeartbeats 40000000
section
open Go.RowKit
def tyV(k e l:Int):Value:=.agg #[.int .i64 k,.int .i64 e,.int .i64 l]
def rightB(n:Nat) (k e l:Int):Bool:=
 decide (0≤l∧l≤8) && (if k=1∨k=2 then decide (e=0) else decide (k=3∧0≤e∧e<n))
section
variable {n:Nat}{k e l:Int}
theorem right_len(h:l<0∨8<l):rightB n k e l=false:=by
 simp only [rightB,decide_eq_false (show ¬ (0≤l∧l≤8) by omega),Bool.false_and]
theorem right_base(h:0≤l∧l≤8) (hk:k=1∨k=2):rightB n k e l=decide (e=0):=by
 simp only [rightB,decide_eq_true h,Bool.true_and,if_pos hk]
theorem right_enum(h:0≤l∧l≤8) (hk:k=3):rightB n k e l=decide (0≤e∧e<n):=by
 subst hk
 simp [rightB,decide_eq_true h]
theorem right_kind(hk:¬ (k=1∨k=2)) (h3:k≠3):rightB n k e l=false:=by
 simp [rightB,if_neg hk,h3]
end
end
section
open Go.RowKit Go.Shelf
attribute [local go_sem] Oper.semAt_some
theorem roundAnyDepth{F:Fence}(hd:F.depth=none){m m':Nat}{P:Program}{l:Nat}{f:FuncId}{tmps:Array Value}{assign body:Code}{w:World}{R:Ending→World→Prop}
 (h:RoundIn F m P l f tmps assign body w R):RoundIn F m' P l f tmps assign body w R:=⟨h.1,fun c cs _=>h.2 c cs (fun d h=>by rw [hd] at h;cases h)⟩
theorem yieldAnyDepth{F:Fence}(hd:F.depth=none){m:Nat}(m':Nat){P:Program}{l:Nat}{args:Array Value}{W:World}{R:Ending→World→Prop}(h:YieldAt F m P l args W R):YieldAt F m' P l args W R:=by
 obtain⟨fn,tmps,assign,body,hy,hR⟩:=h;exact⟨fn,tmps,assign,body,hy,roundAnyDepth hd hR⟩
theorem grownBy_of_below'{W W':World}(h:Below W.heap.size W W'):W.grownBy W' none:=⟨h.os,h.tape,h.output,h.size,fun i hi _=>h.block i hi⟩
structure Pt where
 x:Ex
 A:Option Addr
 ca:Nat
 B:Option Addr
 cb:Nat
def encP(p:Pt):Array Value:=#[.agg (exA p.x p.A p.ca p.B p.cb)]
abbrev PtIn (w0:World) (e:Ex):={ p:Pt // rdX w0 p.x p.A p.B∧p.x∈partsX e }
def exs{w0:World}{e:Ex}(l:List (PtIn w0 e)):List Ex:=l.map fun p=>p.1.x
theorem exs_app{w0:World}{e:Ex}(a b:List (PtIn w0 e)):exs (a++b)=exs a++exs b:=by simp [exs]
theorem exs_len{w0:World}{e:Ex}(a:List (PtIn w0 e)):(exs a).length=a.length:=by simp [exs]
def KeepsE(W W':World):Prop:=∀ (k:Nat) (cs:Array Value) (h:Nat × Nat),W.heap[k]?=some (Obj.cells cs 52 h)→W'.heap[k]?=some (Obj.cells cs 52 h)
theorem KeepsE.refl(W:World):KeepsE W W:=fun _ _ _ h=>h
theorem KeepsE.trans{A B C:World}(h:KeepsE A B) (k:KeepsE B C):KeepsE A C:=fun i cs t e=>k i cs t (h i cs t e)
theorem memPartssI:∀ {l:List Ex}{i:Nat}{q:Ex},i<l.length→q∈partsX (l[i]?.getD default)→q∈partssX l
 | [],i,q,h,_=>absurd h (by simp)
 | x::l,0,q,_,hq=>by
  simp only [List.getElem?_cons_zero,Option.getD_some] at hq;simp only [partssX];exact List.mem_append_left _ hq
 | x::l,i+1,q,h,hq=>by
  simp only [List.getElem?_cons_succ] at hq;simp only [partssX];exact List.mem_append_right _ (memPartssI (by simpa using h) hq)
theorem KeepsE.of_below{W W':World}(h:Below W.heap.size W W'):KeepsE W W':=fun k cs t e=>(h.block k (Array.getElem?_eq_some_iff.1 e).1).trans e
theorem KeepsE.cell{W W':World}(h:KeepsE W W'){k:Nat}{cs:Array Value}(e:W.heap[k]?=some (Obj.cells cs 52)) (j:Nat):W'.cell? ⟨k,j,none⟩=W.cell? ⟨k,j,none⟩ :=
 World.cell?_of_block (a:=⟨k,j,none⟩) ((h k cs _ e).trans e.symm)
def KpE(n:Nat) (W W':World):Prop:=Below n W W'∧KeepsE W W'
theorem KpE.refl(n:Nat) (W:World):KpE n W W:=⟨Below.refl _ _,KeepsE.refl _⟩
theorem KpE.trans{n:Nat}{A B C:World}(h:KpE n A B) (k:KpE n B C):KpE n A C:=⟨h.1.trans k.1,h.2.trans k.2⟩
theorem KpE.of_below{n:Nat}{W W':World}(h:Below W.heap.size W W') (hn:n≤W.heap.size):KpE n W W':=⟨h.mono hn,KeepsE.of_below h⟩
theorem kpE_b{n₀:Nat}{w:World}(hn:n₀≤w.heap.size) (W:World) (l:Nat) (o o':Obj) (hl:w.heap.size≤l) (h:W.heap[l]?=some o) (hc:o.isCells=false) (hw:o.isWalk=false):KpE n₀ W (W.putObj l o'):=
 ⟨belowK_b hn W l o o' hl h hc hw,fun k cs t e=>by
  refine(World.putObj_heap_other (fun e'=>?_)).trans e;subst e';rw [h] at e;injection e with e;subst e
  cases hc⟩
theorem each_in(l N D:Nat) (e0:Ex) (w0:World) (J Jx:List (PtIn w0 e0)→World→Prop) (hJ:AbidesFrom D J)
 (hY:∀ m pre (x:PtIn w0 e0) W,J pre W→pre.length<N→YieldAt Fence.wide m Tryz.prog l (encP x.1) W fun e W' =>
  (e=.returned (.bool true)∧J (pre++[x]) W'∧KpE w0.heap.size W W')∨(e=.returned (.bool false)∧Jx (pre++[x]) W')):
 ∀ (x:Ex) (A:Option Addr) (ca:Nat) (B:Option Addr) (cb n:Nat) (pre:List (PtIn w0 e0)) (W:World),rdX w0 x A B→(∀ q∈partsX x,q∈partsX e0)→Below w0.heap.size w0 W→J pre W→pre.length+sizeX x≤N →
  CallsIn Fence.wide n Tryz.prog 140 #[.agg (exA x A ca B cb),.func (.yield l) #[] #[]] W fun e W' =>
   (e=.returned (.bool true)∧∃ ps:List (PtIn w0 e0),exs ps=partsX x∧J (pre++ps) W'∧KpE w0.heap.size W W')∨(e=.returned (.bool false)∧∃ ps:List (PtIn w0 e0),exs ps <+: partsX x∧Jx (pre++ps) W'):=by
 refine size_ind fun x ih A ca B cb n pre W hr hin hb0 hJ0 hN=>?_;have hJB:∀ pre W W',Below W.heap.size W W'→J pre W→J pre W':=fun pre W W' h hj=>hJ _ _ _ none hj (grownBy_of_below' h) (fun r e=>by cases e);have hsx:=sizeX_eq x;have hmx:=hr.subs.max;have hpx:=partsX_eq x;have HIH:=Hd ih;have HIN:=Hd hin;have HB0:=Hd hb0;have HR0:=Hd hr;have HJB:=Hd hJB;have HPX:=Hd hpx;have hmem:x∈partsX e0:=hin x (by rw [hpx];exact List.mem_cons_self);have HSUBS:=Hd fun k (hk:k<x.subs.length) (q:Ex) (hq:q∈partsX (subX x k))=>hin q (by rw [hpx];exact List.mem_cons_of_mem _ (memPartssI hk hq));have HSN:=Hd fun i (hi:i<x.subs.length)=>sizes_snoc hi;have HPN:=Hd fun i (hi:i<x.subs.length)=>partss_snoc hi;have HLE:=Hd fun i=>sizes_take x.subs i;have HTL:=Hd (List.take_length (l:=x.subs));have HTP:=Hd fun k=>(show partssX (x.subs.take k) <+: partssX x.subs from⟨partssX (x.subs.drop k),by rw [← partssX_app,List.take_append_drop]⟩);have hbA:Below W.heap.size W (W.alloc (.cells (exA x A ca B cb) 52)):=(Below.refl _ _).alloc (Nat.le_refl _) _;have hblk:(W.alloc (.cells (exA x A ca B cb) 52)).heap[W.heap.size]?=some (.cells (exA x A ca B cb) 52):=World.alloc_heap_new _ _;obtain⟨xp,hxp⟩:∃ xp:PtIn w0 e0,xp.1=⟨x,A,ca,B,cb⟩:=⟨⟨_,hr,hmem⟩,rfl⟩;have hxx:exs [xp]=[x]:=by simp [exs,hxp]
 have HXX:=Hd hxx;obtain⟨fn,tmps,assign,body,hy,hR⟩:=hY (n-1) pre xp _ (hJB _ _ _ hbA hJ0) (by have:=size_pos x;omega);obtain⟨_,_,_,hcell⟩:=box_facts W x A ca B cb _ rfl (hr.below hb0);obtain⟨q0,q1,q2,q3,q4,q5⟩:=Sx (hcell _ (Below.refl _ _));have HBK:=Hd hblk;have HBA:=Hd hbA;have HJ0:=Hd hJ0;clear hJ0 hr hin hb0 ih hpx hmem hcell hblk hbA hJB hY hxx;rw [hxp] at hy
 dsimp only [encP] at hy
 unfold exA at hy q0 q1 q2 q3 q4 q5 HBK HBA HIH;have HR:=Hd hR;clear hR;unfold exA at HR ⊢;clear hxp;generalize hlen:x.subs.length=len at *;refine callsIn_of_wp Tryz.func140 rfl trivial ?_ rfl;simp only [Tryz.ntmps140,List.size_toArray,List.length_cons,List.length_nil,Nat.reduceAdd,Nat.reduceSub,Array.replicate_succ,Array.replicate_zero,List.push_toArray,List.append_toArray,List.nil_append,List.cons_append]
 gi_wp2_with fail
 refine⟨fun h=>(by cases h),HR.out.mono ?_⟩;rintro e W3 (⟨rfl,hJ3,hk3⟩|⟨rfl,hJx3⟩)
 · have HJ3:=Hd hJ3;have HK3:=Hd (show KpE w0.heap.size W W3 from⟨(HBA.out.mono HB0.out.size).trans hk3.1,(KeepsE.of_below HBA.out).trans hk3.2⟩);have r5:=(hk3.2.cell HBK.out 5).trans q5;clear q0 q1 q2 q3 q4 q5 hJ3 hk3 hy
   gi_wp2_with fail
   gi_loopw [14] (fun i wr=>∃ (k:Nat) (ps:List (PtIn w0 e0)),k≤len∧i=.int .i64 k∧exs ps=x::partssX (x.subs.take k)∧J (pre++ps) wr∧KpE w0.heap.size W wr) (fun i _=>len-(intOf i).toNat)
   case atStart=>exact⟨0,[xp],Nat.zero_le _,rfl,by rw [HXX.out];simp [partssX],HJ3.out,HK3.out⟩
   case round=>
    obtain⟨k,ps,hk,rfl,hps,hJk,hkp⟩:=hrel;have HPS:=Hd hps;have HJK:=Hd hJk;have HKP:=Hd hkp;have HBW:=Hd (HB0.out.trans hkp.1);have hpl:ps.length=1+sizesX (x.subs.take k):=by rw [← exs_len,hps,List.length_cons,partssX_len];omega
    have hle:=HLE.out k;clear hps hJk hkp
    by_cases hlt:k<len
    · obtain⟨b,off,rfl,hb,hat⟩:=HR0.out.sub (i:=k) (by omega);obtain⟨A',ca',B',cb',hrg,hrd⟩:=hat k (by omega);obtain⟨c0,c1,c2,c3,c4,c5⟩:=rangeAt_six (rangeAt_keep hrg hb fun p hp=>HBW.out.cell hp);obtain⟨hbE,_,_,hcE⟩:=box_facts wr (subX x k) A' ca' B' cb' _ rfl (hrd.below HBW.out);have HBE:=Hd hbE;obtain⟨d0,d1,d2,d3,d4,d5⟩:=Sx (hcE _ (Below.refl _ _));have hsn:=HSN.out k (by omega);have hle2:=HLE.out (k+1);have HPNK:=Hd (HPN.out k (by omega));have hBWE:=HBW.out.trans (hbE.mono HBW.out.size);have HCL:=Hd (HIH.out k (by omega) A' ca' B' cb' (n-1) (pre++ps) _ hrd (HSUBS.out k (by omega)) hBWE (HJB.out _ _ _ hbE HJK.out) (by simp;omega));clear hat hrg hrd hbE hcE hBWE;unfold exA at HCL HBE d0 d1 d2 d3 d4 d5;generalize subX x k=y at *
      gi_wp2_with fail
      refine⟨trivial,fun h=>(by cases h),(HCL.out).mono ?_⟩;rintro e W4 (⟨rfl,qs,hqs,hJ4,hk4⟩|⟨rfl,qs,hqs,hJx4⟩)
      · have HQS:=Hd hqs;have HJ4:=Hd hJ4;have HK4:=Hd (show KpE w0.heap.size W W4 from HKP.out.trans (((KpE.of_below HBE.out HBW.out.size)).trans hk4));clear hqs hJ4 hk4
        gi_wp2_with fail
        go_roundw
        case rel=>exact⟨k+1,ps++qs,by omega,by go_num,by rw [exs_app,HPS.out,HQS.out,HPNK.out];rfl,by rw [← List.append_assoc];exact HJ4.out,HK4.out⟩
        case measure=>simp [intOf];omega
      · have HQS:=Hd hqs;have HJ4:=Hd hJx4;have HTK:=Hd (HTP.out (k+1));clear hqs hJx4
        gi_wp2_with fail
        go_ret
        refine .inr ⟨rfl,ps++qs,?_,by rw [← List.append_assoc];exact HJ4.out⟩;rw [exs_app,HPS.out,HPX.out,List.cons_append];refine(List.prefix_cons_inj _).2 (List.IsPrefix.trans ?_ HTK.out);rw [HPNK.out];exact(List.prefix_append_right_inj _).2 HQS.out
    · have hkl:k=len:=by omega
      subst hkl;have HE:=Hd (hlen ▸ HTL.out:x.subs.take k=x.subs)
      gi_wp2_with fail
      go_ret
      refine .inl ⟨rfl,ps,?_,HJK.out,HKP.out⟩;rw [HPS.out,HE.out,HPX.out]
 · have HJ3:=Hd hJx3;clear hJx3
   gi_wp2_with fail
   go_ret
   refine .inr ⟨rfl,[xp],?_,HJ3.out⟩;rw [HXX.out,HPX.out];exact⟨_,rfl⟩
theorem each_stops(n Bs:Nat) (x:Ex) (A:Option Addr) (ca:Nat) (B:Option Addr) (cb:Nat) (w0 w:World) (hr:rdX w0 x A B) (hb:Below w0.heap.size w0 w) (hbx:w.heap[Bs]?=some (Obj.cells (exA x A ca B cb) 52)):
 SeqStopsK Fence.wide n Tryz.prog 139 #[.pointer (some ⟨Bs,0,none⟩)] (fun p:PtIn w0 x=>encP p.1) (KpE w0.heap.size) (fun ys=>exs ys=partsX x) (fun pre=>exs pre <+: partsX x) (sizeX x) w:=fun l J Jx W hW hJ _ hY h0=>by
 have hbl:=(Array.getElem?_eq_some_iff.1 hbx).1;have hblk:=(hW.block Bs hbl).trans hbx;have HCL:=Hd (each_in l (sizeX x) W.heap.size x w0 J Jx hJ (fun m pre p W1 hj hl=>yieldAnyDepth rfl m (hY pre p W1 hj hl)) x A ca B cb (n-1) [] W hr (fun q hq=>hq) (hb.trans (hW.mono hb.size)) h0 (by simp));have hcell:∀ j,W.cell? ⟨Bs,j,none⟩=(exA x A ca B cb)[j]?:=fun j=>by simp [World.cell?,hblk]
 obtain⟨q0,q1,q2,q3,q4,q5⟩:=Sx hcell;clear hcell hbx hblk hY hr hW hJ h0;unfold exA at HCL q0 q1 q2 q3 q4 q5;refine callsIn_of_wp Tryz.func139 rfl trivial ?_ rfl;simp only [Tryz.ntmps139,List.size_toArray,List.length_cons,List.length_nil,Nat.reduceAdd,Nat.reduceSub,Array.replicate_succ,Array.replicate_zero,List.push_toArray,List.append_toArray,List.nil_append,List.cons_append]
 gi_wp2_with fail
 refine⟨trivial,fun h=>(by cases h),(HCL.out).mono ?_⟩;rintro e W4 (⟨rfl,qs,hqs,hJ4,hk4⟩|⟨rfl,qs,hqs,hJx4⟩)
 · have HQS:=Hd hqs;have HJ4:=Hd hJ4;clear hqs hJ4 hk4
   gi_wp2_with fail
   go_end0
   exact⟨⟨_,rfl⟩,.inl ⟨qs,HQS.out,HJ4.out⟩⟩
 · have HQS:=Hd hqs;have HJ4:=Hd hJx4;clear hqs hJx4
   gi_wp2_with fail
   go_end0
   exact⟨⟨_,rfl⟩,.inr ⟨qs,HQS.out,HJ4.out⟩⟩
end
section
open Go.RowKit Go.Shelf
attribute [local go_sem] Oper.semAt_some
theorem exEach(x:Ex) (A:Option Addr) (ca:Nat) (B:Option Addr) (cb:Nat) (w:World) (hr:rdX w x A B):
 Calls Tryz.prog 112 #[.agg (exA x A ca B cb)] w fun r w'=>r=.returned (.func (.func 139) #[] #[.pointer (some ⟨w.heap.size,0,none⟩)])∧w'=w.alloc (Obj.cells (exA x A ca B cb) 52):=by
 have hmk:∀ fn first cap w,(Instr.makeFunc fn first cap).run Tryz.prog w=.ok (.func fn first cap) w:=fun _ _ _ _=>rfl
 clear hr;unfold exA
 go_enter Tryz.func112,Tryz.ntmps112
 go_wp2_with fail
 go_ret
 exact⟨rfl,rfl⟩
theorem KeepsE.setCell{W:World}{B:Nat}{t:TypeId}{v:Value}(h:Boxed W B t v) (ht:t≠52) (u:Value):KeepsE W (W.setCell ⟨B,0,none⟩ u):=fun k cs hh e=>by
 have hne:some k≠some B:=by
  intro e';injection e' with e';subst e';rw [show W.heap[k]?=_ from h] at e;injection e with e;injection e with _ e;exact ht e
 have hk:=(Array.getElem?_eq_some_iff.1 e).1;exact((grownBy_setCell' W B u).block k hk hne).trans e
end
section
open Go.RowKit Go.Shelf
attribute [local go_sem] Oper.semAt_some
theorem blkOwn{β:Type}(B:Nat) (cs:Array Value) (t:TypeId):Own (fun(_:β) W=>W.heap[B]?=some (Obj.cells cs t)):=fun s X Y row hs hg hrow=>
 (hg.block B (Array.getElem?_eq_some_iff.1 hs).1 (fun e'=>by obtain⟨o,ho,hc⟩:=hrow B e'.symm;rw [hs] at ho;cases ho;cases hc)).trans hs
theorem KeepsE.alloc(W:World) (o:Obj):KeepsE W (W.alloc o):=KeepsE.of_below ((Below.refl _ _).alloc (Nat.le_refl _) o)
end
end Go.Proofs.YtkbpdoomhfkngaaGreat
