/- Parts: EyK, ShA, ShV. Conditions: each theorem's own. -/
import Derived.Test.YtokiaaapgkdpmaaGreatDoorU18
namespace Go.Proofs.YtokiaaapgkdpmaaGreatDoor
set_option linter.unusedVariables false
set_option linter.unusedSimpArgs false
set_option maxRecDepth 100000
set_option maxHeartbeats 40000000
section
open Go.RowKit Go.Shelf
attribute [local go_sem] Oper.semAt_some
theorem keepsFromBelow{B:Nat}{W W':World}(h:Below W.heap.size W W'):KeepsFrom B W W':=KeepsFrom.of_grownBy (grownBy_of_below' h) (fun j e=>by cases e)
theorem boxedBelow{W W':World}{B:Nat}{t:TypeId}{v:Value}(h:Boxed W B t v){n:Nat}(hb:Below n W W')(hn:B<n):Boxed W' B t v:=(hb.block B hn).trans h
theorem keepsE_new{W:World}{Bs:Nat}{cs:Array Value}{B:Nat}{t:TypeId}{v:Value}(h:W.heap[Bs]?=some (Obj.cells cs 26))(hb:Boxed W B t v)(ht:t≠26)(u:Value):(W.setCell ⟨B,0,none⟩ u).heap[Bs]?=some (Obj.cells cs 26):=KeepsE.setCell hb ht u _ _ _ h
theorem right_many{x:Ex}{l:List Ex}(h:l <+: partsX x)(hl:60<l.length):rightX x=false:=by
 have:=h.length_le;rw[partsX_len] at this
 simp[rightX,show 60<sizeX x by omega]
theorem right_bad{x z:Ex}{l:List Ex}(h:l <+: partsX x)(hz:z∈l)(hp:partX z=false):rightX x=false:=by
 have:(partsX x).all partX=false:=by
  rw[List.all_eq_false];exact⟨z,h.subset hz,by simp[hp]⟩
 simp[rightX,this]
theorem right_all{x:Ex}{l:List Ex}(h:l=partsX x)(hl:l.length≤60)(hp:∀ z∈l,partX z=true):rightX x=decide ((depthX x:Int)≤12):=by
 subst h;rw[partsX_len] at hl;have:(partsX x).all partX=true:=List.all_eq_true.2 hp
 have h2:(!decide (12<depthX x))=decide ((depthX x:Int)≤12):=by
  rw[Bool.eq_iff_iff];simp;omega
 have h3:(!decide (60<sizeX x))=true:=by simp;omega
 simp only[rightX,this,h2,h3,Bool.true_and,Bool.and_true]
theorem exRight_in(n:Nat)(hn:6≤n)(x:Ex)(A:Option Addr)(ca:Nat)(B:Option Addr)(cb:Nat)(w:World)(hr:rdX w x A B)(hs:sizeX x≤1000000)(hsh:∀ p∈partsX x,ShortP p):
 CallsIn Fence.wide n Tryz.prog 27 #[.agg (exA x A ca B cb)] w fun e w'=>e=.returned (.bool (rightX x))∧Below w.heap.size w w':=by
 have h1:1≤n:=by omega
 have HF:=Hd fun w1 h=>box_facts w x A ca B cb w1 h hr;have HR:=Hd hr;have HSH:=Hd hsh;have HEA:=Hd fun w1 (h:Below w.heap.size w w1)=>exEach x A ca B cb w1 (hr.below h);have HDP:=Hd fun w1 (h:Below w.heap.size w w1)=>exDepth x A ca B cb w1 (hr.below h) hs;have HST:=Hd fun(n Bs:Nat) (w0 w1:World) h hb hbx=>each_stops n Bs x A ca B cb w0 w1 h hb hbx;clear hsh;have hds:=depth_size x;unfold exA at HEA HDP ⊢;refine callsIn_of_wp_marks Tryz.func27 rfl trivial ?_ rfl;simp only[Tryz.ntmps27,List.size_toArray,List.length_cons,List.length_nil,Nat.reduceAdd,Nat.reduceSub,Array.replicate_succ,Array.replicate_zero,List.push_toArray,List.append_toArray,List.nil_append,List.cons_append];obtain⟨hb1,hg1,hr1,hcell⟩:=HF.out _ rfl;unfold exA at hb1 hg1 hr1 hcell;have hbN:Below w.heap.size w (((w.alloc (.cells #[.int .i64 x.k,.int .i64 x.n,.string x.s,.int .i64 x.op,.slice A x.arms.length ca,.slice B x.subs.length cb] 26)).alloc (.cells #[.bool false] 4)).alloc (.cells #[.int .i64 0] 3)):=(hb1.alloc (Nat.le_of_lt hg1) _).alloc (by simp;omega) _;have hbM:=((Below.refl (w.alloc (.cells #[.int .i64 x.k,.int .i64 x.n,.string x.s,.int .i64 x.op,.slice A x.arms.length ca,.slice B x.subs.length cb] 26)).heap.size (w.alloc (.cells #[.int .i64 x.k,.int .i64 x.n,.string x.s,.int .i64 x.op,.slice A x.arms.length ca,.slice B x.subs.length cb] 26))).alloc (Nat.le_refl _) (.cells #[.bool false] 4)).alloc (by simp) (.cells #[.int .i64 0] 3);obtain⟨q0,q1,q2,q3,q4,q5⟩:=Sx (hcell _ hbM)
 have hbe:(((w.alloc (.cells #[.int .i64 x.k,.int .i64 x.n,.string x.s,.int .i64 x.op,.slice A x.arms.length ca,.slice B x.subs.length cb] 26)).alloc (.cells #[.bool false] 4)).alloc (.cells #[.int .i64 0] 3)).heap[w.heap.size]?=some (Obj.cells (exA x A ca B cb) 26):=by
  rw[hbM.block _ (by simp)];exact World.alloc_heap_new _ _
 have HEA2:=Hd (HEA.out _ hbN);clear HF hb1 hg1 hr1 hcell hr HEA hbM
 gi_wp2_with fail
 refine⟨trivial,(callsIn_wide.2 HEA2.out).mono ?_⟩;rintro e w' ⟨rfl,rfl⟩
 gi_wp2_with fail
 have hR0:Boxed (((w.alloc (.cells #[.int .i64 x.k,.int .i64 x.n,.string x.s,.int .i64 x.op,.slice A x.arms.length ca,.slice B x.subs.length cb] 26)).alloc (.cells #[.bool false] 4)).alloc (.cells #[.int .i64 0] 3)) (w.heap.size+1) 4 (.bool false):=by
  have:=(Boxed.new (w.alloc (.cells #[.int .i64 x.k,.int .i64 x.n,.string x.s,.int .i64 x.op,.slice A x.arms.length ca,.slice B x.subs.length cb] 26)) 4 (.bool false)).alloc (.cells #[.int .i64 0] 3);rwa [World.size_alloc] at this
 have hN0:Boxed (((w.alloc (.cells #[.int .i64 x.k,.int .i64 x.n,.string x.s,.int .i64 x.op,.slice A x.arms.length ca,.slice B x.subs.length cb] 26)).alloc (.cells #[.bool false] 4)).alloc (.cells #[.int .i64 0] 3)) (w.heap.size+1+1) 3 (.int .i64 0):=by
  have:=Boxed.new ((w.alloc (.cells #[.int .i64 x.k,.int .i64 x.n,.string x.s,.int .i64 x.op,.slice A x.arms.length ca,.slice B x.subs.length cb] 26)).alloc (.cells #[.bool false] 4)) 3 (.int .i64 0);rwa [World.size_alloc,World.size_alloc] at this
 have hsz:(((w.alloc (.cells #[.int .i64 x.k,.int .i64 x.n,.string x.s,.int .i64 x.op,.slice A x.arms.length ca,.slice B x.subs.length cb] 26)).alloc (.cells #[.bool false] 4)).alloc (.cells #[.int .i64 0] 3)).heap.size=w.heap.size+1+1+1:=by simp
 clear q0 q1 q2 q3 q4 q5 HEA2;generalize ((w.alloc _).alloc _).alloc _=w2 at *
 have hbk:(w2.alloc (.cells #[.int .i64 x.k,.int .i64 x.n,.string x.s,.int .i64 x.op,.slice A x.arms.length ca,.slice B x.subs.length cb] 26)).heap[w.heap.size+1+1+1]?=some (Obj.cells (exA x A ca B cb) 26):=by
  rw[← hsz];exact World.alloc_heap_new _ _
 have hbE:(w2.alloc (.cells #[.int .i64 x.k,.int .i64 x.n,.string x.s,.int .i64 x.op,.slice A x.arms.length ca,.slice B x.subs.length cb] 26)).heap[w.heap.size]?=some (Obj.cells (exA x A ca B cb) 26):=(((Below.refl _ w2).alloc (Nat.le_refl _) _).block _ (by omega)).trans hbe;have hR1:=hR0.alloc (.cells #[.int .i64 x.k,.int .i64 x.n,.string x.s,.int .i64 x.op,.slice A x.arms.length ca,.slice B x.subs.length cb] 26);have hN1:=hN0.alloc (.cells #[.int .i64 x.k,.int .i64 x.n,.string x.s,.int .i64 x.op,.slice A x.arms.length ca,.slice B x.subs.length cb] 26);have hB1:=hbN.alloc hbN.size (.cells #[.int .i64 x.k,.int .i64 x.n,.string x.s,.int .i64 x.op,.slice A x.arms.length ca,.slice B x.subs.length cb] 26);have hs1:(w2.alloc (.cells #[.int .i64 x.k,.int .i64 x.n,.string x.s,.int .i64 x.op,.slice A x.arms.length ca,.slice B x.subs.length cb] 26)).heap.size=w.heap.size+4:=by simp[hsz]
 clear hN0 hbN hR0 hbe;generalize w2.alloc _=W0 at *;clear hsz
 refine wpIn_rangeFunc_ownH rfl h1 (gf:=91) (lb:=#[.pointer (some ⟨w.heap.size+1+1+1,0,none⟩)]) rfl trivial (enters_of Tryz.func91 (by kernel_rfl) rfl)
  (HST.out (n-1) (w.heap.size+1+1+1) w W0 HR.out hB1 hbk) (fun h k=>h.trans k) (kpE_b (by omega)) (Below.refl _ _) (fun _=>rfl)
  (fun(pre:List (PtIn w x)) W=>((Boxed W (w.heap.size+1) 4 (.bool false)∧Boxed W (w.heap.size+1+1) 3 (.int .i64 (pre.length:Nat)))∧W.heap[w.heap.size]?=some (Obj.cells (exA x A ca B cb) 26))∧(pre.length≤60∧∀ z∈exs pre,partX z=true)∧Below w.heap.size w W)
  (fun c (pre:List (PtIn w x)) W=>(c=.ret∧(60<(exs pre).length∨∃ z∈exs pre,partX z=false))∧Boxed W (w.heap.size+1) 4 (.bool false)∧Below w.heap.size w W)
  (OwnFrom.and (Own.from (fun s X Y row hs hg hr=>⟨⟨boxed_own _ _ (fun _=>_) () X Y row hs.1.1 hg hr,boxed_own _ _ (fun(pre:List (PtIn w x))=>Value.int .i64 (pre.length:Nat)) s X Y row hs.1.2 hg hr⟩,blkOwn (β:=Unit) _ _ _ () X Y row hs.2 hg hr⟩) _) (OwnFrom.and (ownFrom_pure _ _) (ownFrom_below (Nat.le_refl _) (by omega))))
  (fun c=>OwnFrom.and (ownFrom_pure _ _) (OwnFrom.and (Own.from (boxed_own _ _ (fun _=>_)) _) (ownFrom_below (Nat.le_refl _) (by omega))))
  ⟨⟨⟨hR1,hN1⟩,hbE⟩,⟨Nat.zero_le _,by simp[exs]⟩,hB1⟩
  (fun(y:PtIn w x) a' W=>∃ Bx:Nat,W.heap[Bx]?=some (Obj.cells (exA y.1.x y.1.A y.1.ca y.1.B y.1.cb) 26)∧a'={ tmps:=#[.agg #[.int .i64 x.k,.int .i64 x.n,.string x.s,.int .i64 x.op,.slice A x.arms.length ca,.slice B x.subs.length cb],.pointer (some ⟨w.heap.size,0,none⟩),.pointer (some ⟨w.heap.size+1,0,none⟩),.pointer (some ⟨w.heap.size+1+1,0,none⟩),.pointer (some ⟨Bx,0,none⟩),.agg #[.int .i64 x.k,.int .i64 x.n,.string x.s,.int .i64 x.op,.slice A x.arms.length ca,.slice B x.subs.length cb],.func (.func 91) #[] #[.pointer (some ⟨w.heap.size+1+1+1,0,none⟩)],.agg (exA y.1.x y.1.A y.1.ca y.1.B y.1.cb),undef,undef,undef,undef,undef,undef,undef,undef,undef,undef,undef,undef],defers:=[] })
  (fun y a' s X Y row hs hg hr=>by obtain⟨Bx,h2,h3⟩:=hs;exact⟨Bx,(blkOwn (β:=Unit) Bx _ _).from W0.heap.size () X Y row h2 hg hr,h3⟩)
  ?assign ?body ?done ?stop
 case assign=>
  rintro l pre y W K ⟨⟨⟨hbr,hbn⟩,hbe⟩,hpp,hB⟩ hK;have hz:∀ v:Value,(#[7]:Array Tmp).zip #[v]=#[(7,v)]:=fun v=>by first | rfl | simp
  simp only[encP,hz];unfold exA at hK ⊢
  gi_wp2
  exact hK _ _ ((KeepsOthers.alloc _ _).from _) (KpE.of_below ((Below.refl _ _).alloc (Nat.le_refl _) _) hB.size) ⟨⟨⟨hbr.alloc _,hbn.alloc _⟩,KeepsE.alloc _ _ _ _ _ hbe⟩,hpp,hB.alloc hB.size _⟩ ⟨W.heap.size,World.alloc_heap_new _ _,rfl⟩
 case body=>
  rintro l pre y a' W hl _ ⟨⟨⟨hbr,hbn⟩,hbe⟩,⟨hp60,hpp⟩,hB⟩ ⟨Bx,hbx,rfl⟩ hlt
  have hfits:∀ W1,Below w.heap.size w W1→Calls Tryz.prog 54 #[.agg (exA y.1.x y.1.A y.1.ca y.1.B y.1.cb)] W1 fun e w'=>e=.returned (.bool (partX y.1.x))∧Below W1.heap.size W1 w':=fun W1 h=>
   exFits y.1.x y.1.A y.1.ca y.1.B y.1.cb W1 (y.2.1.below h) (HSH.out _ y.2.2)
  have HFI:=Hd hfits;have e1:=hbn.cell;have f1:=hbn.frozen;have hbs:=hbn.set (.int .i64 ((pre.length:Int)+1));have hbrs:=hbr.other (B':=w.heap.size+1+1) (by omega) (.int .i64 ((pre.length:Int)+1));have e2:=hbs.cell;have e3:=hbrs.cell;have f3:=hbrs.frozen;have hbxs:=keepsE_new hbx hbn (by decide) (.int .i64 ((pre.length:Int)+1));have hbes:=keepsE_new hbe hbn (by decide) (.int .i64 ((pre.length:Int)+1));have hcell:∀ j,(W.setCell ⟨w.heap.size+1+1,0,none⟩ (.int .i64 ((pre.length:Int)+1))).cell? ⟨Bx,j,none⟩=(exA y.1.x y.1.A y.1.ca y.1.B y.1.cb)[j]?:=fun j=>by simp only[World.cell?,hbxs];rfl
  obtain⟨q0,q1,q2,q3,q4,q5⟩:=Sx hcell;have hBS:Below w.heap.size w (W.setCell ⟨w.heap.size+1+1,0,none⟩ (.int .i64 ((pre.length:Int)+1))):=hB.setCell (p:=⟨w.heap.size+1+1,0,none⟩) (by show w.heap.size≤w.heap.size+1+1;omega) _;have HWS:=Hd (show Below w.heap.size W (W.setCell ⟨w.heap.size+1+1,0,none⟩ (.int .i64 ((pre.length:Int)+1))) from(Below.refl _ _).setCell (p:=⟨w.heap.size+1+1,0,none⟩) (by show w.heap.size≤w.heap.size+1+1;omega) _);have HKS:=Hd (KeepsOthers.setCell W ⟨w.heap.size+1+1,0,none⟩ (.int .i64 ((pre.length:Int)+1)));have HES:=Hd (KeepsE.setCell hbn (by decide) (.int .i64 ((pre.length:Int)+1)));have hsS:(W.setCell ⟨w.heap.size+1+1,0,none⟩ (.int .i64 ((pre.length:Int)+1))).heap.size=W.heap.size:=by simp[World.setCell]
  have HFS:=Hd (hfits _ hBS);have HBS:=Hd hBS;have HBRS:=Hd hbrs;have HBNS:=Hd (show Boxed (W.setCell ⟨w.heap.size+1+1,0,none⟩ (.int .i64 ((pre.length:Int)+1))) (w.heap.size+1+1) 3 (.int .i64 ((pre++[y]).length:Nat)) by simpa using hbs);have HBES:=Hd hbes;have HEY:=Hd (show exs (pre++[y])=exs pre++[y.1.x] by rw[exs_app];rfl);have hlr:=hbr.lt;have hln:=hbn.lt;have hxl:=(Array.getElem?_eq_some_iff.1 hbe).1;clear hcell hbxs hbes hbx hbe hfits hBS hbs hbrs HFI;unfold exA at q0 q1 q2 q3 q4 q5 HFS ⊢
  by_cases h60:60≤pre.length
  · have hd:decide ((60:Int)<(pre.length:Int)+1)=true:=decide_eq_true (by omega);have hlen:60<(exs (pre++[y])).length:=by rw[exs_len];simp;omega
    gi_wp2_with fail
    first | refine⟨trivial,?_⟩ | skip
    gi_wp2_with fail
    exact⟨(HKS.out.from _).trans ((KeepsOthers.setCell _ _ _).from _),⟨rfl,.inl hlen⟩,HBRS.out.set _,HBS.out.setCell (p:=⟨w.heap.size+1,0,none⟩) (Nat.le_succ _) _⟩
  · have hd:decide ((60:Int)<(pre.length:Int)+1)=false:=decide_eq_false (by omega)
    cases hp:partX y.1.x with
    | true=>
     rw[hp] at HFS
     have HAL:=Hd (show ∀ z∈exs (pre++[y]),partX z=true from fun z hz=>by
      rw[HEY.out] at hz;rcases List.mem_append.1 hz with h | h
      · exact hpp z h
      · obtain rfl:z=y.1.x:=by simpa using h
        exact hp)
     have hd1:1≤n-1-1:=by omega
     gi_wp2_with fail
     refine⟨trivial,(CallsIn.inRound l (callsIn_wide.2 HFS.out)).mono ?_⟩;rintro e w3 ⟨rfl,hb3⟩;have HB3:=Hd hb3;clear hb3
     gi_wp2_with fail
     exact⟨(HKS.out.from _).trans (keepsFromBelow HB3.out),⟨HWS.out.trans (HB3.out.mono (by rw[hsS];omega)),HES.out.trans (KeepsE.of_below HB3.out)⟩,
      ⟨⟨boxedBelow HBRS.out HB3.out (by omega),boxedBelow HBNS.out HB3.out (by omega)⟩,KeepsE.of_below HB3.out _ _ _ HBES.out⟩,⟨by simp;omega,HAL.out⟩,HBS.out.trans (HB3.out.mono (by omega))⟩
    | false=>
     rw[hp] at HFS;have HEX:=Hd (show ∃ z∈exs (pre++[y]),partX z=false from⟨y.1.x,by rw[HEY.out];simp,hp⟩);have hd1:1≤n-1-1:=by omega
     gi_wp2_with fail
     refine⟨trivial,(CallsIn.inRound l (callsIn_wide.2 HFS.out)).mono ?_⟩;rintro e w3 ⟨rfl,hb3⟩;have HB3:=Hd hb3;have hbr3:=boxedBelow HBRS.out hb3 (by omega);have e5:=hbr3.cell;have f5:=hbr3.frozen;have HBR3:=Hd hbr3;clear hb3 hbr3
     gi_wp2_with fail
     exact⟨((HKS.out.from _).trans (keepsFromBelow HB3.out)).trans ((KeepsOthers.setCell _ _ _).from _),⟨rfl,.inr HEX.out⟩,HBR3.out.set _,(HBS.out.trans (HB3.out.mono (by omega))).setCell (p:=⟨w.heap.size+1,0,none⟩) (Nat.le_succ _) _⟩
 case done=>
  rintro D ys W hD hys ⟨⟨⟨hbr,hbn⟩,hbe⟩,⟨hp60,hpp⟩,hB⟩ hK;have hcell:∀ j,W.cell? ⟨w.heap.size,j,none⟩=(exA x A ca B cb)[j]?:=fun j=>by simp only[World.cell?,hbe];rfl
  obtain⟨q0,q1,q2,q3,q4,q5⟩:=Sx hcell;unfold exA at q0 q1 q2 q3 q4 q5;have HDW:=Hd (HDP.out W hB);have HRR:=Hd (right_all hys (by rw[exs_len];exact hp60) hpp);have hlr:=hbr.lt;have hDl:=(Array.getElem?_eq_some_iff.1 hK).1;clear hcell
  gi_wp2_with fail
  refine⟨trivial,(callsIn_wide.2 HDW.out).mono ?_⟩;rintro e w3 ⟨rfl,hb3⟩;have hbr3:=boxedBelow hbr hb3 hlr;have e5:=hbr3.cell;have f5:=hbr3.frozen;have HBR3:=Hd hbr3;have HB3:=Hd (hB.trans (hb3.mono hB.size));have hK3:=(hb3.block D hDl).trans hK;clear hb3 hbr3 q0 q1 q2 q3 q4 q5
  gi_wp2_with fail
  have hK':=(KeepsOthers.setCell w3 ⟨w.heap.size+1,0,none⟩ (.bool (decide ((depthX x:Int)≤12)))).same D _ hK3 rfl;have k1:=((HBR3.out.set (.bool (decide ((depthX x:Int)≤12)))).kept (grownBy_putObj' _ D (.deferred none)) (fun e=>by cases e;omega)).cell;refine⟨by simp,.inl ⟨_,_,rfl,run_takeDeferred hK',?_⟩⟩;refine⟨.bool (decide ((depthX x:Int)≤12)),?_,by rw[HRR.out],(HB3.out.setCell (p:=⟨w.heap.size+1,0,none⟩) (Nat.le_succ _) _).trans (belowK_b (w:=w) (Nat.le_refl _) _ D _ _ (by omega) hK' rfl rfl)⟩
  simp[results,Tryz.f27,go_sem,k1]
 case stop=>
  rintro D c pre W hD hpre ⟨⟨rfl,hbad⟩,hb,hB⟩ hK;have HRR:=Hd (show rightX x=false from hbad.elim (fun h=>right_many hpre h) (fun⟨z,hz,h⟩=>right_bad hpre hz h));have hlr:=hb.lt
  gi_wp2_with fail
  have k1:=(hb.kept (grownBy_putObj' _ D (.deferred none)) (fun e=>by cases e;omega)).cell;refine⟨by simp,.inl ⟨_,_,rfl,run_takeDeferred hK,?_⟩⟩;refine⟨.bool false,?_,by rw[HRR.out],hB.trans (belowK_b (w:=w) (Nat.le_refl _) _ D _ _ (by omega) hK rfl rfl)⟩
  simp[results,Tryz.f27,go_sem,k1]
theorem exRight(x:Ex)(A:Option Addr)(ca:Nat)(B:Option Addr)(cb:Nat)(w:World)(hr:rdX w x A B)(hs:sizeX x≤1000000)(hsh:∀ p∈partsX x,ShortP p):
 Calls Tryz.prog 27 #[.agg (exA x A ca B cb)] w fun e w'=>e=.returned (.bool (rightX x))∧Below w.heap.size w w' :=
 callsIn_wide.1 (exRight_in 6 (Nat.le_refl _) x A ca B cb w hr hs hsh)
end
section
open Go.RowKit Go.Sort
theorem refLeaf(x:Ex)(A:Option Addr)(ca:Nat)(B:Option Addr)(cb:Nat)(w:World)(hr:rdX w x A B)(hn:NumP x):
 Calls Tryz.prog 75 #[.agg (exA x A ca B cb)] w fun e w'=>e=.returned (.string (ofB (leafT x.k x.n x.s.data.toList)))∧Below w.heap.size w w':=by
 obtain⟨hs,hn0,hn1⟩:=hn;have HF:=Hd fun w1 h=>box_facts w x A ca B cb w1 h hr;have HL:=Hd (show leafT x.k x.n x.s.data.toList=if x.k=1 then Lib.itoa x.n else if x.k=2 then(if x.n=1 then trueL else falseL) else if x.k=17 then 39::(x.s.data.toList++[39]) else x.s.data.toList from rfl);clear hr;unfold exA at HF ⊢;generalize leafT x.k x.n x.s.data.toList=lt at *;generalize x.k=k at *;generalize x.s=s at *;generalize x.n=n at *;have z1:(9223372036854775807<1+s.size)=False:=by rw[eq_iff_iff,iff_false];omega
 have z2:(9223372036854775807<s.size+1)=False:=by rw[eq_iff_iff,iff_false];omega
 have z3:(9223372036854775807<1+s.size+1)=False:=by rw[eq_iff_iff,iff_false];omega
 by_cases h1:k=1
 · subst h1;have HE:=Hd (show(⟨(Lib.itoa n).toArray⟩:ByteArray)=ofB lt by rw[HL.out];rfl);have HD:=Hd fun w=>refDigits n hn0 hn1 w
   go_enter Tryz.func75,Tryz.ntmps75
   go_upto_region 1 with(fail)
   generalize hw1:w.alloc _=w1;obtain⟨hb1,hg,hr1,hcell⟩:=HF.out w1 hw1;have HB1:=Hd hb1;have q0:=hcell w1 (Below.refl _ _) 0;have q1:=hcell w1 (Below.refl _ _) 1;clear hcell hb1 hr1 hw1 HF
   go_wp2_with fail
   refine(HD.out _).mono ?_;rintro r w2 ⟨rfl,hb2⟩;have HB2:=Hd (HB1.out.trans (hb2.mono HB1.out.size));clear hb2
   go_wp2_with fail
   go_ret
   exact⟨ret_strV HE.out,HB2.out⟩
 by_cases h2:k=2
 · subst h2
   by_cases hn:n=1
   · subst hn;have HE:=Hd (show(⟨#[116,114,117,101]⟩:ByteArray)=ofB lt by rw[HL.out];rfl)
     go_enter Tryz.func75,Tryz.ntmps75
     go_upto_region 1 with(fail)
     generalize hw1:w.alloc _=w1;obtain⟨hb1,hg,hr1,hcell⟩:=HF.out w1 hw1;have HB1:=Hd hb1;have q0:=hcell w1 (Below.refl _ _) 0;have q1:=hcell w1 (Below.refl _ _) 1;clear hcell hb1 hr1 hw1 HF
     go_wp2_with fail
     go_ret
     exact⟨ret_strV HE.out,HB1.out⟩
   · have hne:(n==1)=false:=by simpa using hn
     have HE:=Hd (show(⟨#[102,97,108,115,101]⟩:ByteArray)=ofB lt by rw[HL.out,if_neg (by decide),if_pos rfl,if_neg hn];rfl)
     go_enter Tryz.func75,Tryz.ntmps75
     go_upto_region 1 with(fail)
     generalize hw1:w.alloc _=w1;obtain⟨hb1,hg,hr1,hcell⟩:=HF.out w1 hw1;have HB1:=Hd hb1;have q0:=hcell w1 (Below.refl _ _) 0;have q1:=hcell w1 (Below.refl _ _) 1;clear hcell hb1 hr1 hw1 HF
     go_wp2_with fail
     go_ret
     exact⟨ret_strV HE.out,HB1.out⟩
 by_cases h17:k=17
 · subst h17
   have HE:=Hd (show(⟨#[39]⟩:ByteArray)++s++⟨#[39]⟩=ofB lt by
    rw[HL.out,if_neg (by decide),if_neg (by decide),if_pos rfl];exact ba_ext (by rw[ofB_data];simp))
   go_enter Tryz.func75,Tryz.ntmps75
   go_upto_region 1 with(fail)
   generalize hw1:w.alloc _=w1;obtain⟨hb1,hg,hr1,hcell⟩:=HF.out w1 hw1;have HB1:=Hd hb1;have q0:=hcell w1 (Below.refl _ _) 0;have q2:=hcell w1 (Below.refl _ _) 2;clear hcell hb1 hr1 hw1 HF
   go_wp2_with fail
   go_ret
   exact⟨ret_strV HE.out,HB1.out⟩
 have e1:(k==1)=false:=by simpa using h1
 have e2:(k==2)=false:=by simpa using h2
 have e17:(k==17)=false:=by simpa using h17
 have HE:=Hd (show s=ofB lt by rw[HL.out,if_neg h1,if_neg h2,if_neg h17,ofB_self])
 go_enter Tryz.func75,Tryz.ntmps75
 go_upto_region 1 with(fail)
 generalize hw1:w.alloc _=w1;obtain⟨hb1,hg,hr1,hcell⟩:=HF.out w1 hw1;have HB1:=Hd hb1;have q0:=hcell w1 (Below.refl _ _) 0;have q2:=hcell w1 (Below.refl _ _) 2;clear hcell hb1 hr1 hw1 HF
 go_wp2_with fail
 go_ret
 exact⟨ret_strV HE.out,HB1.out⟩
theorem ofB_sizeS(l:List UInt8):(ofB l).size=l.length:=by
 show l.toArray.size=l.length
 simp
theorem join_take_len(l:List Ex)(k:Nat)(h:∀ y∈l,(textL y).length≤1300*sizeX y):(joinC ((l.map textL).take k)).length≤1302*sizesX l:=by
 have h1:=joinC_len ((l.map textL).take k);have h2:=lensT_take (l.map textL) k;have h3:=lens_subs l h;have h4:=sizes_len l;have h5:((l.map textL).take k).length≤l.length:=by simp;omega
 omega
end
section
open Go.RowKit Go.Sort
section Lists
def txSV(l:List Ex):List ByteArray:=l.map fun y=>ofB (textL y)
theorem txS_lenV(l:List Ex):(txSV l).length=l.length:=by simp[txSV]
theorem txS_snocV{l:List Ex}{k:Nat}(h:k<l.length):(txSV l).take (k+1)=(txSV l).take k++[ofB (textL (l[k]?.getD default))]:=by
 unfold txSV;rw[List.take_succ_eq_append_getElem (by simpa using h)]
 simp[List.getElem?_eq_getElem h]
theorem txS_atV{l:List Ex}{k:Nat}(h:k<l.length):(txSV l)[k]?.getD ByteArray.empty=ofB (textL (l[k]?.getD default)):=by
 simp[txSV,List.getElem?_eq_getElem h]
theorem sign_dataV(op:Int)(h1:3≤op)(h2:op≤16):(signS op).data.toList=signL op:=by
 obtain rfl | rfl | rfl | rfl | rfl | rfl | rfl | rfl | rfl | rfl | rfl | rfl | rfl | rfl:op=3∨op=4∨op=5∨op=6∨op=7∨op=8∨op=9∨op=10∨op=11∨op=12∨op=13∨op=14∨op=15∨op=16:=by omega
 all_goals rfl
theorem sign_sizeV(op:Int)(h1:3≤op)(h2:op≤16):(signS op).size≤3:=by
 obtain rfl | rfl | rfl | rfl | rfl | rfl | rfl | rfl | rfl | rfl | rfl | rfl | rfl | rfl:op=3∨op=4∨op=5∨op=6∨op=7∨op=8∨op=9∨op=10∨op=11∨op=12∨op=13∨op=14∨op=15∨op=16:=by omega
 all_goals decide
end Lists
def TxV(y:Ex):Prop:=∀ (A:Option Addr) (ca:Nat) (B:Option Addr) (cb:Nat) (w:World),rdX w y A B →
 Calls Tryz.prog 38 #[.agg (exA y A ca B cb)] w fun e w'=>e=.returned (.string (ofB (textL y)))∧Below w.heap.size w w'
theorem refTextV:∀ x:Ex,okX x→(∀ p∈partsX x,NumP p)→sizeX x≤1000→(∀ p∈partsX x,p.k=1∨p.k=3∨p.k=6)→TxV x:=by
 refine size_ind fun x ih hx hp hs hpl A ca B cb w hr=>?_;have HPK:=Hd (hpl x (by rw[partsX_eq];exact List.mem_cons_self));have hpls:∀ y∈x.subs,∀ p∈partsX y,p.k=1∨p.k=3∨p.k=6:=fun y hy p hp'=>hpl p (by rw[partsX_eq];exact List.mem_cons_of_mem _ (parts_of_mem hy hp'));obtain⟨i0,hi,hz0,hz1,hz2⟩:=info_parts infoString;have hf:=hx.part;have hsx:=sizeX_eq x;have hnum:=hp x (by rw[partsX_eq];exact List.mem_cons_self);have hmem:∀ i,i<x.subs.length→subX x i∈x.subs:=fun i hi=>subX_mem hi;have hpsub:∀ y∈x.subs,∀ p∈partsX y,NumP p:=fun y hy p hp'=>hp p (by rw[partsX_eq];exact List.mem_cons_of_mem _ (parts_of_mem hy hp'));have hlen:∀ y∈x.subs,(textL y).length≤1300*sizeX y:=fun y hy=>text_len y (hx.sub hy) (hpsub y hy);have hlen2:∀ y∈x.subs,(textL y).length≤1300000:=fun y hy=>by have h1:=hlen y hy;have h2:=sizes_mem hy;omega
 have hih:∀ i,i<x.subs.length→TxV (subX x i):=fun i hi=>ih i hi (hx.sub (hmem i hi)) (hpsub _ (hmem i hi)) (by have:=sizes_mem (hmem i hi);omega) (hpls _ (hmem i hi));have HLS:=Hd hlen2;have HLEAF:=Hd fun w1 (h:Below w.heap.size w w1)=>refLeaf x A ca B cb w1 (hr.below h) hnum
 have HIH:=Hd fun k (hk:k<x.subs.length) w1 (h:Below w.heap.size w w1)=>(show ∃ b off,B=some ⟨b,off,none⟩∧∃ A' ca' B' cb',w1.rangeAt b (off+k*6) (exL (subX x k) A' ca' B' cb') ∧
  Calls Tryz.prog 38 #[.agg (exA (subX x k) A' ca' B' cb')] w1 fun e w'=>e=.returned (.string (ofB (textL (subX x k))))∧Below w1.heap.size w1 w' from by
  obtain⟨b,off,e,hbl,hat⟩:=hr.sub (i:=k) hk;obtain⟨A',ca',B',cb',hrg,hrd⟩:=hat k hk;exact⟨b,off,e,A',ca',B',cb',rangeAt_keep hrg hbl fun p hp=>h.cell hp,hih k hk A' ca' B' cb' w1 (hrd.below h)⟩)
 have HF:=Hd fun w1 h=>box_facts w x A ca B cb w1 h hr;have HTS:=Hd fun k (hk:k<x.subs.length)=>(show(txSV x.subs).take (k+1)=(txSV x.subs).take k++[ofB (textL (subX x k))] from txS_snocV hk);have HTL:=Hd fun k (hk:k<x.subs.length)=>hlen2 _ (hmem k hk);have HTX:=Hd (textL_eq x);have hjl0:=join_take_len x.subs x.subs.length hlen;rw[List.take_of_length_le (by simp)] at hjl0;have HJL:=Hd (show(joinC (x.subs.map textL)).length≤1302000 by omega);have HAR:=Hd fun w1 (h:Below w.heap.size w w1)=>(hr.below h).arms;have HLT:=Hd (show lensT (x.subs.map textL)≤1300000 by have:=lens_subs x.subs hlen;omega);clear hjl0;have hmx:=hr.subs.max;have hsl:=sizes_len x.subs;clear ih hp hr hmem hpsub hlen hlen2 hih hpl hpls;unfold exA at HF HIH HLEAF ⊢;generalize textL x=tx at *;generalize hln:x.subs.length=n at *;have HLEN:=Hd hln;clear hln
 go_enter Tryz.func38,Tryz.ntmps38
 go_upto_region 1 with(fail)
 generalize hw1:w.alloc _=w1;obtain⟨hb1,hg,hr1,hcell⟩:=HF.out w1 hw1;have HB1:=Hd hb1;have HC:=Hd fun w2 (h:Below w1.heap.size w1 w2)=>hcell w2 h;clear hcell hb1 hr1 hw1 HF;have HL0:=Hd (World.ownsRow_lit (base:=w1.heap.size) (e:=9) (size:=1) w1 #[] 0 (Nat.le_refl _) (by decide) rfl);have HA0:=Hd ((Below.refl w1.heap.size w1).alloc (Nat.le_refl _) (.cells #[] 9))
 go_wp2_with fail
 go_loopw [3,4] (fun v i wr=>∃ k:Nat,k≤n∧i=.int .i64 k∧wr.ownsRow w1.heap.size 9 1 v k (((txSV x.subs).take k).map Value.string)∧Below w1.heap.size w1 wr) (fun _ i _=>n-(intOf i).toNat)
 case atStart=>exact⟨0,Nat.zero_le _,rfl,HL0.out,HA0.out⟩
 case round=>
  obtain⟨k,hk,rfl,hrow,hbw⟩:=hrel;have HRW:=Hd hrow;have HBW:=Hd hbw;have hbs:=hbw.size
  by_cases hlt:k<n
  · have q5:=HC.out wr hbw 5;obtain⟨b,off,rfl,A',ca',B',cb',hrg,hcl⟩:=HIH.out k hlt wr (HB1.out.trans (hbw.mono HB1.out.size));obtain⟨d0,d1,d2,d3,d4,d5⟩:=rangeAt_six hrg;have HCL:=Hd hcl;have HTK:=Hd (HTS.out k hlt);have htl:=HTL.out k hlt;clear hrg hcl hrow hbw HIH;generalize subX x k=y at *;have hsy:(ofB (textL y)).size≤1300000:=by rw[ofB_sizeS];exact htl
    generalize ofB (textL y)=sy at *
    go_wp2_with fail
    refine HCL.out.mono ?_;rintro r w3 ⟨rfl,hb3⟩;have hrow3:=own_belowX HRW.out hb3;have HB3:=Hd (HBW.out.trans (hb3.mono HBW.out.size));have hbs3:=HB3.out.size;clear hb3
    go_wp2_with (at_builtin;go_must (refine wpList_append_own_at _ rfl _ _ 23 rfl w1.heap.size 9 i0 (.string ByteArray.empty) 1 16 Tryz.underlying23 hi hz0 hz1 hz2 rfl (by decide) _ _ _ rfl (hrow3.alloc _) ⟨w3.heap.size,0,none⟩ 1 1 [.string sy] rfl rfl (cell_one_new _ _ _) (string_cells [sy]) (by unfold maxLen;omega) (by omega) (by simp;omega) ?_;intro v' w4 hown' hgrow hnil hloc))
    have HB4:=Hd ((HB3.out.alloc hbs3 (.cells #[.string sy] 9)).grown hgrow (by simp;omega) (fun j hj=>(hrow3.lt j hj).1));have HOW:=Hd hown';clear hgrow hnil hown' hloc
    go_roundw
    case rel=>
     refine⟨k+1,by omega,by go_num,?_,HB4.out⟩;rw[HTK.out,List.map_append];exact HOW.out
    case measure=>simp[intOf];omega
  · have hkl:k=n:=by omega
    subst hkl;have HTK:=(show(txSV x.subs).take x.subs.length=txSV x.subs from List.take_of_length_le (by rw[txS_lenV];exact Nat.le_refl _));rw[HLEN.out] at HTK;rw[HTK] at HRW;obtain⟨A1,c1,rfl,hR1,_⟩:=RdT.of_own HRW.out (by omega);have HR1:=Hd hR1;obtain⟨q0,q1,q2,q3,q4,q5⟩:=Sx (HC.out wr HBW.out);clear HTK hR1 hrow hbw HIH HTS HTL;have h5:¬ x.k=5:=by have:=HPK.out;omega
    by_cases h6:x.k=6
    · have hkd:=h6;rw[h6] at q0;obtain⟨a,b,hab⟩:=len2 (subs_len hf (m:=2) (by simp[subsX,hkd]));have hk2:k=2:=by rw[← HLEN.out,hab];rfl
      subst hk2;obtain⟨b1,off1,rfl,hb1l,hat1⟩:=HR1.out.at_ (i:=0) (by omega);have t0:=hat1 0 (by omega);rw[txS_atV (by rw[HLEN.out];omega),hab] at t0;simp only[List.getElem?_cons_succ,List.getElem?_cons_zero,Option.getD_some] at t0;have t1:=hat1 1 (by omega);rw[txS_atV (by rw[HLEN.out];omega),hab] at t1;simp only[List.getElem?_cons_succ,List.getElem?_cons_zero,Option.getD_some] at t1;have hz0:(ofB (textL a)).size≤1300000:=by rw[ofB_sizeS];exact HLS.out a (by rw[hab];simp)
      have hz1:(ofB (textL b)).size≤1300000:=by rw[ofB_sizeS];exact HLS.out b (by rw[hab];simp)
      obtain⟨ho1,ho2⟩:=hf.op6 hkd;have hsg:=sign_dataV x.op ho1 ho2;have hsz:=sign_sizeV x.op ho1 ho2;have HSG:=Hd fun w=>refSign x.op w
      have HE:=Hd (show(⟨#[40]⟩:ByteArray)++ofB (textL a)++(⟨#[32]⟩:ByteArray)++signS x.op++(⟨#[32]⟩:ByteArray)++ofB (textL b)++(⟨#[41]⟩:ByteArray)=ofB tx by
       rw[HTX.out,hkd,hab];exact ba_ext (by simp[ofB,textK,gT,hsg]))
      clear hat1 HR1 HLS hsg;generalize ofB (textL a)=sa at *;generalize ofB (textL b)=sb at *;generalize signS x.op=sg at *;generalize x.op=op at *;have z1:(9223372036854775807<1+sa.size)=False:=by rw[eq_iff_iff,iff_false];omega
      have z2:(9223372036854775807<1+sa.size+1)=False:=by rw[eq_iff_iff,iff_false];omega
      have z3:(9223372036854775807<1+sa.size+1+sg.size)=False:=by rw[eq_iff_iff,iff_false];omega
      have z4:(9223372036854775807<1+sa.size+1+sg.size+1)=False:=by rw[eq_iff_iff,iff_false];omega
      have z5:(9223372036854775807<1+sa.size+1+sg.size+1+sb.size)=False:=by rw[eq_iff_iff,iff_false];omega
      have z6:(9223372036854775807<1+sa.size+1+sg.size+1+sb.size+1)=False:=by rw[eq_iff_iff,iff_false];omega
      simp only[Nat.add_zero] at t0;have lt0:=fun d os=>cell_regrown t0 d os;have lt1:=fun d os=>cell_regrown t1 d os;have lq3:=fun d os=>cell_regrown q3 d os;have cA:=fun d os=>Calls.regrown_of (HSG.out (grow (redrawn wr d) os))
      go_wp2_with fail
      refine wp_region_quiet_below (by kernel_rfl) (by kernel_rfl) ?_
      repeat (quiet_step (exact cA _ _))
      refine wpQuiet_nil ?_;intro _ hw';obtain⟨⟨dq,osq⟩,hw''⟩:=hw';subst hw'';have HBR:=Hd (HBW.out.trans ((below_regrown wr dq osq).mono HBW.out.size));clear cA lt0 lt1 lq3;generalize grow (redrawn wr dq) osq=wq at *
      go_wp2_with fail
      go_ret
      exact⟨ret_strV HE.out,HB1.out.trans (HBR.out.mono HB1.out.size)⟩
    have h7:¬ x.k=7:=by have:=HPK.out;omega
    have h8:¬ x.k=8:=by have:=HPK.out;omega
    have h9:¬ x.k=9:=by have:=HPK.out;omega
    have h10:¬ x.k=10:=by have:=HPK.out;omega
    have h11:¬ x.k=11:=by have:=HPK.out;omega
    have h12:¬ x.k=12:=by have:=HPK.out;omega
    have h13:¬ x.k=13:=by have:=HPK.out;omega
    have h14:¬ x.k=14:=by have:=HPK.out;omega
    have h15:¬ x.k=15:=by have:=HPK.out;omega
    have h16:¬ x.k=16:=by have:=HPK.out;omega
    have HBX:=Hd (HB1.out.trans (HBW.out.mono HB1.out.size));have HE:=Hd (show ofB (leafT x.k x.n x.s.data.toList)=ofB tx by rw[HTX.out];simp[textK,h5,h6,h7,h8,h9,h10,h11,h12,h13,h14,h15,h16]);have HCL:=Hd (HLEAF.out wr HBX.out);have e5:(x.k==5)=false:=by simpa using h5
    have e6:(x.k==6)=false:=by simpa using h6
    have e7:(x.k==7)=false:=by simpa using h7
    have e8:(x.k==8)=false:=by simpa using h8
    have e9:(x.k==9)=false:=by simpa using h9
    have e10:(x.k==10)=false:=by simpa using h10
    have e11:(x.k==11)=false:=by simpa using h11
    have e12:(x.k==12)=false:=by simpa using h12
    have e13:(x.k==13)=false:=by simpa using h13
    have e14:(x.k==14)=false:=by simpa using h14
    have e15:(x.k==15)=false:=by simpa using h15
    have e16:(x.k==16)=false:=by simpa using h16
    go_wp2_with fail
    refine HCL.out.mono ?_;rintro r w3 ⟨rfl,hb3⟩;have HB3:=Hd (HBX.out.trans (hb3.mono HBX.out.size));clear hb3
    go_wp2_with fail
    go_ret
    exact⟨ret_strV HE.out,HB3.out⟩
theorem right_sizeV{x:Ex}(h:rightX x=true):sizeX x≤60:=by
 simp only[rightX,Bool.and_eq_true,Bool.not_eq_true',decide_eq_false_iff_not] at h;omega
theorem refExprV(x:Ex)(A:Option Addr)(ca:Nat)(B:Option Addr)(cb:Nat)(w:World)(hr:rdX w x A B)(hrx:rightX x=true)(hpl:∀ p∈partsX x,p.k=1∨p.k=3∨p.k=6)(hsh:∀ p∈partsX x,ShortP p)(hn:∀ p∈partsX x,NumP p):
 Calls Tryz.prog 18 #[.agg (exA x A ca B cb)] w fun e w'=>e=.returned (.string (ofB (textL x)))∧Below w.heap.size w w':=by
 have HF:=Hd fun w1 h=>box_facts w x A ca B cb w1 h hr;have HRT:=Hd fun w1 (h:Below w.heap.size w w1)=>refRight x A ca B cb w1 (hr.below h) (by have:=right_sizeV hrx;omega) hsh;have HTX:=Hd fun(_:True) w1 (h:Below w.heap.size w w1)=>refTextV x (right_ok hrx) hn (by have:=right_sizeV hrx;omega) hpl A ca B cb w1 (hr.below h);rw[hrx] at HRT;clear hr hsh hn hpl hrx;unfold exA at HF HRT HTX ⊢;generalize ofB (textL x)=ts at *
 go_enter Tryz.func18,Tryz.ntmps18
 go_upto_region 1 with(fail)
 generalize hw1:w.alloc _=w1;obtain⟨hb1,hg,hr1,hcell⟩:=HF.out w1 hw1;have HB1:=Hd hb1;have HC:=Hd hcell;obtain⟨q0,q1,q2,q3,q4,q5⟩:=Sx (hcell w1 (Below.refl _ _));clear hcell hb1 hr1 hw1 HF
 go_wp2_with fail
 refine(HRT.out w1 HB1.out).mono ?_;rintro r w2 ⟨rfl,hb⟩;have HB2:=Hd (HB1.out.trans (hb.mono HB1.out.size));have HW2:=Hd hb;clear hb q0 q1 q2 q3 q4 q5;obtain⟨q0,q1,q2,q3,q4,q5⟩:=Sx (HC.out w2 HW2.out)
 go_wp2_with fail
 refine(HTX.out (by first | trivial | rfl) w2 HB2.out).mono ?_;rintro r w3 ⟨rfl,hb⟩;have HB3:=Hd (HB2.out.trans (hb.mono HB2.out.size));clear hb
 go_wp2_with fail
 go_ret
 exact⟨ret_strV rfl,HB3.out⟩
end
end Go.Proofs.YtokiaaapgkdpmaaGreatDoor
