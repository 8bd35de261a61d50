/- Parts of the proof: PgI, ScA, ClA, ClB, PhD, SlR. Conditions: each theorem's own. -/
import Derived.Shelf.SlicesQ.Reverse
import Derived.Ground.SlgnProg
import Derived.Test.YtkbpdoomhfkngaaF08
namespace Go.Proofs.Ytkbpdoomhfkngaa
set_option linter.unusedVariables false
set_option linter.unusedSimpArgs false
set_option maxRecDepth 100000
set_option maxHeartbeats 40000000
section
open Go.RowKit Go.Sort
section
variable {P:Program}{w:World}
theorem wpList_append_dc{ops:Array Oper}{rest:List Oper}{o:Oper}{a:Act}{Q:Exit→Act→World→Prop}(hgd:o.guard=none) (s x:Operand) (t:TypeId)
 (ho:o.op=.call { callee:=.builtin .append,args:=#[s,x],argTypes:=#[t,t] })
 (base:Nat) (e:TypeId) (i:TypeInfo) (z:Value) (bytes:Nat) (ht:P.underlying t=some (.slice e)) (hi:P.info? e=some i) (hz:i.zero=some z)
 (hsize:i.size=6) (hby:i.bytes=bytes) (hzs:z.cells.size=6)
 (v:Value) (n:Nat) (xs:List Dc) (hs:a.eval s=v) (hown:w.ownsRow base e 6 v n (flD xs))
 (A:Option Addr) (m c:Nat) (l:List Dc) (hx:a.eval x=.slice A m c) (hr:RdD w A m l)
 (h63:n+m≤maxLen) (hbytes:(n+m)*bytes≤140737488355328) (hbase:base≤w.heap.size)
 (h:∀ v' w',w'.ownsRow base e 6 v' (n+m) (flD (xs++l))→w.grownBy w' v.ownBlock→wpList P ops Q rest (a.put o.dst v') w'):wpList P ops Q (o::rest) a w:=by
 obtain⟨hA,hnews⟩:=hr.news;have hlen:=RdS.len hr;rcases A with _ | ad
 · obtain rfl:m=0:=hA rfl;obtain rfl:l=[]:=List.eq_nil_of_length_eq_zero hlen;refine wpList_plain hgd fun K hK=>?_;have hrun:=run_append_nil (P:=P) (w:=w) base t o.type e i 6 ht hi v n _ hown c;unfold Oper.wp
   simp [execOp,ho,resolve,invoke,builtin,hs,hx,hrun,Result.andThen]
   exact hK _ _ (h v w (by simpa using hown) (World.grownBy.refl w _))
 · exact wpList_append_own_at w hgd s x t ho base e i z 6 bytes ht hi hz hsize hby hzs (by decide) v n _ hs hown ad m c (flD l) hx (by rw [flD_len,hlen]) (fun j u hu=>hnews ad rfl j u hu) (flD_ones l) h63 hbytes hbase fun v' w' h1 h2 _ _=>h v' w' (by rw [flD_app];exact h1) h2
end
theorem RowD.cells{w:World}{g:Nat}{d:Dc}(h:RowD w g d) (j:Nat):w.cell? ⟨g,j,none⟩=(dcA d)[j]?:=by
 unfold World.cell?;rw [show w.heap[(⟨g,j,none⟩:Addr).block]?=_ from h];rfl
def ClockPost(w:World) (o:Option (List Dc)) (e:Ending) (w':World):Prop:=
 Below w.heap.size w w'∧match o with
  | none=>e=.returned (.tuple #[.slice none 0 0,.bool false])
  | some l=>∃ A c,e=.returned (.tuple #[.slice A l.length c,.bool true])∧RdD w' A l.length l
def ClockAt(x:Nd) (out:Option (List Dc)) (w:World) (k:Nat) (t:ByteArray) (v:Value):Prop:=
 ∃ acc A c,v=.slice A acc.length c∧RdD w A acc.length acc∧acc.length=k∧clockR x (13-k) t acc=out
theorem ClockAt.below{x:Nd}{out:Option (List Dc)}{w w':World}{k:Nat}{t:ByteArray}{v:Value}(h:ClockAt x out w k t v) (hb:Below w.heap.size w w'):ClockAt x out w' k t v:=by
 obtain⟨acc,A,c,e,h1,h2⟩:=h;exact⟨acc,A,c,e,h1.below hb,h2⟩
theorem clockR_succ(x:Nd) (k:Nat) (s:ByteArray) (acc:List Dc):clockR x (k+1) s acc=match declO x s with | none=>none | some d=>if noB d.on then some acc else clockR x k d.on (d::acc):=rfl
theorem refClock(x:Nd) (A1:Option Addr) (c1:Nat) (A2:Option Addr) (c2:Nat) (A3:Option Addr) (c3:Nat) (A4:Option Addr) (c4:Nat) (s:ByteArray) (w:World) (h:rdN w x A1 A2 A3 A4) (hn:x.all.length≤1000):
 Calls Try.prog 25 #[.agg (ndA x A1 c1 A2 c2 A3 c3 A4 c4),.string s] w (ClockPost w (clockO x s)):=by
 have HF:=Hd fun w1 hw=>nd_facts w x A1 c1 A2 c2 A3 c3 A4 c4 w1 hw h;have HDC:=Hd fun t w1 (hw:rdN w1 x A1 A2 A3 A4)=>refDeclN x A1 c1 A2 c2 A3 c3 A4 c4 t w1 hw hn;obtain⟨i0,z0,hi,hz1,hz0,hz2,hz3⟩:=info_three infoDecl;have HOUT:=Hd (show clockR x 13 s []=clockO x s from rfl);unfold ndA at HDC ⊢;generalize clockO x s=out at *
 go_enter Try.func25,Try.ntmps25
 go_upto_region 1 with(fail)
 generalize hw1:w.alloc _=w1;obtain⟨hb1,hg,hR1,hcell⟩:=HF.out w1 hw1;have HB1:=Hd hb1;have HC:=Hd hcell;have HR1:=Hd hR1
 have HC0:=Hd (show ClockAt x out (w1.alloc (.cells #[] 58)) 0 s (.slice (some ⟨w1.heap.size,0,none⟩) 0 0) from by
  obtain⟨A,c,e,hr⟩:=RdD.of_own (l:=[]) (World.ownsRow_lit (base:=w1.heap.size) (e:=58) (size:=6) w1 #[] 0 (Nat.le_refl _) (by decide) rfl) (by omega);exact⟨[],A,c,e,hr,rfl,HOUT.out⟩)
 have HW0:=Hd ((Below.refl w1.heap.size w1).alloc (Nat.le_refl _) (.cells #[] 58));simp only [ndA] at HC;rw [hg] at HC0;clear hw1 hcell hb1 HF h hR1 HOUT
 go_wp2_with fail
 go_loopw [1,6,7] (fun nm v i wr=>∃ (k:Nat) (t:ByteArray),k≤13∧i=.int .i64 k∧nm=.string t∧ClockAt x out wr k t v∧Below w1.heap.size w1 wr) (fun _ _ i _=>13-(intOf i).toNat)
 case atStart=>exact⟨0,s,by omega,rfl,rfl,HC0.out,HW0.out⟩
 case round=>
  obtain⟨k,t,hk,rfl,rfl,hat,hnx⟩:=hrel;have HNX:=Hd hnx;have hz:=hnx.size;rw [hg] at hz
  by_cases hlt:k<13
  · obtain⟨acc,A,c,rfl,hrd,hal,hcl⟩:=hat;have HRD:=Hd hrd;have HCL:=Hd hcl;obtain⟨q0,q1,q2,q3,q4,-⟩:=Sx (HC.out wr hnx);simp only [Ya,Yb,Yc] at q0 q1 q2 q3 q4;have HD:=Hd (HDC.out t wr (HR1.out.below hnx));have d12:decide ((k:Int)≤12)=true:=decide_eq_true (by omega);rw [show 13-k=(12-k)+1 by omega,clockR_succ] at HCL;clear hrd hcl hnx
    cases hd:declO x t with
    | none=>
     rw [hd] at HD HCL;have HO:=Hd (show none=out from HCL.out)
     go_wp2_with fail
     refine HD.out.mono ?_;rintro e w2 ⟨rfl,hb2⟩;have HN3:=Hd (show RowD (w2.alloc (.cells (dcA default) 58)) w2.heap.size default from heap_alloc_new _ _);have HB2:=Hd (HNX.out.trans (hb2.mono HNX.out.size));have HB3:=Hd (below_setRow ((HB2.out).alloc HB2.out.size (.cells (dcA default) 58)) (g:=w2.heap.size) HB2.out.size (dcA default));unfold declV dcA;unfold dcA at HN3 HB3;simp only [Option.getD_none,Option.isSome_none];clear q0 q1 q2 q3 q4
     go_upto_region 6 with(refine wpList_store_row rfl _ _ _ rfl w2.heap.size _ rfl rfl _ _ HN3.out dcinfo rfl (by simp [Value.oneCell']) ?_)
     go_wp2_with fail
     refine bodyPost_ret (results_tmp2 rfl _ _ _) rfl ?_;refine⟨HB1.out.trans (HB3.out.mono (by omega)),?_⟩;rw [← HO.out];rfl
    | some d=>
     rw [hd] at HD HCL;have HCL:=Hd (show(if noB d.on then some acc else clockR x (12-k) d.on (d::acc))=out from HCL.out)
     go_wp2_with fail
     refine HD.out.mono ?_;rintro e w2 ⟨rfl,hb2⟩;have HN3:=Hd (show RowD (w2.alloc (.cells (dcA default) 58)) w2.heap.size default from heap_alloc_new _ _);have HB2:=Hd (HNX.out.trans (hb2.mono HNX.out.size));have hB3:=below_setRow ((HB2.out).alloc HB2.out.size (.cells (dcA default) 58)) (g:=w2.heap.size) HB2.out.size (dcA d);have hN4:=HN3.out.set d;have hW4:=below_setRow ((Below.refl w2.heap.size w2).alloc (Nat.le_refl _) (.cells (dcA default) 58)) (g:=w2.heap.size) (Nat.le_refl _) (dcA d);have hrd4:=(HRD.out.below hb2).below hW4;have HRS:=Hd fun w4 (hw:(w2.alloc (.cells (dcA default) 58)).setRow w2.heap.size (dcA d)=w4)=>(show RowD w4 w2.heap.size d∧Below w1.heap.size w1 w4∧RdD w4 A acc.length acc by subst hw;exact⟨hN4,hB3,hrd4⟩);unfold declV dcA;unfold dcA at HN3;simp only [Option.getD_some,Option.isSome_some];clear q0 q1 q2 q3 q4 hB3 hN4 hW4 hrd4 hb2
     go_upto_region 6 with(refine wpList_store_row rfl _ _ _ rfl w2.heap.size _ rfl rfl _ _ HN3.out dcinfo rfl (by simp [Value.oneCell']) ?_)
     generalize hw4:World.setRow _ _ _=w4;obtain⟨hN4,hB4,hrd4⟩:=HRS.out w4 hw4;have HN4:=Hd hN4;have HB4:=Hd hB4;have HRD4:=Hd hrd4;generalize w2.heap.size=gb at *;obtain⟨r0,r1,r2,r3,r4,r5⟩:=Sx hN4.cells;simp only [dcA,List.getElem?_toArray,List.getElem?_cons_zero,List.getElem?_cons_succ] at r0 r1 r2 r3 r4 r5;clear hw4 HRS hN4 hB4 hrd4 HN3
     cases h1:(d.on.toList==[]) with
     | true=>
      have HO:=Hd (show some acc=out by have h:=HCL.out;rwa [show noB d.on=true by rw [Lib.toList_data] at h1;exact h1,if_pos rfl] at h);rw [hal] at HRD4
      go_wp2_with fail
      refine bodyPost_ret (results_tmp2 rfl _ _ _) rfl ?_;refine⟨HB1.out.trans (HB4.out.mono (by omega)),?_⟩;rw [← HO.out];exact⟨A,c,by rw [hal];rfl,by rw [hal];exact HRD4.out⟩
     | false=>
      have HO:=Hd (show clockR x (13-(k+1)) d.on (d::acc)=out by have h:=HCL.out;rw [show noB d.on=false by rw [Lib.toList_data] at h1;exact h1,if_neg (by simp)] at h;rwa [show 13-(k+1)=12-k by omega]);have HLIT:=Hd (World.ownsRow_lit (base:=w4.heap.size) (e:=58) (size:=6) w4 (dcA d) 1 (Nat.le_refl _) (by decide) rfl);have HAL:=Hd ((Below.refl w4.heap.size w4).alloc (Nat.le_refl _) (.cells (dcA d) 58));have HRD5:=Hd (HRD4.out.below HAL.out);rw [hal] at HRD5;have HFL:=Hd (show flD ([d]++acc)=flD (d::acc) from rfl);have HF1:=Hd (show(dcA d).toList=flD [d] by rw [flD_one];rfl);rw [HF1.out] at HLIT;unfold dcA at HLIT HAL HRD5
      go_wp2_with (at_builtin;refine wpList_append_dc rfl _ _ 45 rfl w4.heap.size 58 i0 z0 72 Try.underlying45 hi hz1 hz0 hz2 hz3 _ 1 [d] rfl HLIT.out A k c acc rfl HRD5.out (by unfold maxLen;omega) (by omega) HAL.out.size ?_;intro v' w5 hown' hgrow;have hB5:=HAL.out.grown hgrow HAL.out.size (fun j hj=>(HLIT.out.lt j hj).1);have HO5:=Hd hown';have HB5:=Hd hB5;have s4:=(hB5.cell (p:=⟨gb,4,none⟩) (World.block_lt_of_cell? _ _ r4)).trans r4;clear hown' hgrow hB5)
      have hO5:=HO5.out;obtain⟨A9,c9,e9,hrd9⟩:=RdD.of_own (l:=d::acc) hO5 (by omega);subst e9;have HRD9:=Hd hrd9;clear hO5 hrd9
      go_wp2_with fail
      go_roundw
      case rel=>exact⟨k+1,d.on,by omega,by go_num,rfl,⟨d::acc,A9,c9,by rw [List.length_cons,hal,Nat.add_comm],by rw [List.length_cons,hal,Nat.add_comm k 1];exact HRD9.out,by rw [List.length_cons,hal],HO.out⟩,HB4.out.trans (HB5.out.mono HB4.out.size)⟩
      case measure=>simp [intOf];omega
  · obtain rfl:k=13:=by omega
    have HO:=Hd (show none=out by obtain⟨acc,A,c,e,h1,h2,h3⟩:=hat;exact h3);have d12:decide (((13:Nat):Int)≤12)=false:=by decide
    obtain⟨acc,A,c,rfl,-,hal,-⟩:=hat
    go_wp2_with fail
    refine bodyPost_ret (results_tmp2 rfl _ _ _) rfl ?_;refine⟨HB1.out.trans (HNX.out.mono (by omega)),?_⟩;rw [← HO.out];rfl
end
section
open Go.RowKit Go.Sort
def f3A(a b c:Int):Array Value:=#[.int .i64 a,.int .i64 b,.int .i64 c]
def F3(T:TypeId) (W:World) (g:Nat) (a b c:Int):Prop:=W.heap[g]?=some (Obj.cells (f3A a b c) T)
section
variable {T:TypeId}{W W':World}{g:Nat}{a b c:Int}
theorem F3.lt(h:F3 T W g a b c):g<W.heap.size:=(Array.getElem?_eq_some_iff.1 h).1
theorem F3.below(h:F3 T W g a b c) (hb:Below W.heap.size W W'):F3 T W' g a b c:=(hb.block g h.lt).trans h
theorem F3.set(h:F3 T W g a b c) (x y z:Int):F3 T (W.setRow g (f3A x y z)) g x y z:=setRow_heap _ _ _ _ _ _ h
theorem F3.cell(h:F3 T W g a b c) (j:Nat):W.cell? ⟨g,j,none⟩=(f3A a b c)[j]?:=by
 have:=cell_setRow_same W g j _ (f3A a b c) _ _ h;rwa [setRow_self W g _ _ _ h] at this
theorem F3.new(T:TypeId) (W:World) (a b c:Int):F3 T (W.alloc (.cells (f3A a b c) T)) W.heap.size a b c:=heap_alloc_new _ _
end
theorem ty3_info:(Try.prog.info? 56).map (·.size)=some 3:=by kernel_rfl
theorem results_cell_two{fn:Func}{p u v:Tmp}{ty:TypeId}(h:fn.results=#[.cell p ty,.tmp u,.tmp v]) (tmps:Array Value) (P:Program) (w:World):
 (results fn tmps).run P w =
  ((asAddr (tmps.getD p undef)).run P w).andThen fun a w₁=>((loadVar ty a).run P w₁).andThen fun x w₂=>.ok (.tuple #[x,tmps.getD u undef,tmps.getD v undef]) w₂:=by
 simp only [results,h]
 simp [Sem.run_bind,Result.andThen]
theorem res_ty3{fn:Func}{p u v:Tmp}(h:fn.results=#[.cell p 56,.tmp u,.tmp v]) (tmps:Array Value) (w:World) (g:Nat) (a b c:Int)
 (hp:tmps.getD p undef=.pointer (some ⟨g,0,none⟩)) (hg:F3 56 w g a b c):(results fn tmps).run Try.prog w=.ok (.tuple #[.agg (f3A a b c),tmps.getD u undef,tmps.getD v undef]) w:=by
 rw [results_cell_two h,hp];have hl:=run_loadVar_row (P:=Try.prog) w g 56 56 _ _ _ hg Try.underlying56 rfl ty3_info
 simp [asAddr,Result.andThen,hl]
theorem f3_box{w w0:World}{T:TypeId}(h:w.alloc (.cells #[.int .i64 0,.int .i64 0,.int .i64 0] T)=w0):Below w.heap.size w w0∧F3 T w0 w.heap.size 0 0 0∧w0.heap.size=w.heap.size+1:=by
 subst h;exact⟨(Below.refl _ _).alloc (Nat.le_refl _) _,heap_alloc_new _ _,by simp⟩
def armW(o:Option (Int × Int × Int)):Value:=.tuple #[.agg (f3A ((o.map (·.1)).getD 0) ((o.map (·.2.1)).getD 0) 0),.int .i64 ((o.map (·.2.2)).getD 0),.bool o.isSome]
theorem below_set3{w w1:World}{v:Array Value}(h:Below w.heap.size w w1):Below w.heap.size w (w1.setRow w.heap.size v):=below_setRow h (Nat.le_refl _) _
theorem refArm15(A:Option Addr) (n c:Nat) (es:List En) (s:ByteArray) (w:World) (hE:RdE w A n es):
 Calls Try.prog 26 #[.slice A n c,.string s] w fun e w'=>e=.returned (armW (armR es s))∧Below w.heap.size w w':=by
 have HC:=Hd fun w1 (hb:Below w.heap.size w w1)=>refCtor A n c es s w1 (hE.below hb);have HA:=Hd (show armR es s=if(s.toList==[116,114,117,101])=true then some (2,0,1) else if(s.toList==[102,97,108,115,101])=true then some (2,0,0) else(findE es s).map fun p=>(3,(p.1:Int),(p.2.1:Int)) from rfl);generalize armR es s=ar at *;clear hE
 cases h1:(s.toList==[116,114,117,101]) with
 | true=>
  have HE:=Hd (show ar=some (2,0,1) by rw [HA.out,if_pos h1]);rw [HE.out]
  go_enter Try.func26,Try.ntmps26
  go_upto_region 1 with(fail)
  generalize hw0:w.alloc _=w0;obtain⟨hb0,hR,hg0⟩:=f3_box hw0;have HB0:=Hd hb0;have HR:=Hd hR;clear hb0 hR hw0
  go_wp2_with (refine wpList_store_row rfl _ _ _ rfl (w.heap.size) _ rfl rfl _ _ HR.out ty3_info rfl (by simp [Value.oneCell']) ?_)
  exact bodyPost_ret (res_ty3 (p:=4) (u:=5) (v:=6) rfl _ _ w.heap.size 2 0 0 rfl (HR.out.set 2 0 0)) rfl ⟨rfl,below_set3 HB0.out⟩
 | false=>
  cases h2:(s.toList==[102,97,108,115,101]) with
  | true=>
   have HE:=Hd (show ar=some (2,0,0) by rw [HA.out,if_neg (by rw [h1];simp),if_pos h2]);rw [HE.out]
   go_enter Try.func26,Try.ntmps26
   go_upto_region 1 with(fail)
   generalize hw0:w.alloc _=w0;obtain⟨hb0,hR,hg0⟩:=f3_box hw0;have HB0:=Hd hb0;have HR:=Hd hR;clear hb0 hR hw0
   go_wp2_with (refine wpList_store_row rfl _ _ _ rfl (w.heap.size) _ rfl rfl _ _ HR.out ty3_info rfl (by simp [Value.oneCell']) ?_)
   exact bodyPost_ret (res_ty3 (p:=4) (u:=5) (v:=6) rfl _ _ w.heap.size 2 0 0 rfl (HR.out.set 2 0 0)) rfl ⟨rfl,below_set3 HB0.out⟩
  | false=>
   have HE:=Hd (show ar=(findE es s).map fun p=>(3,(p.1:Int),(p.2.1:Int)) by rw [HA.out,if_neg (by rw [h1];simp),if_neg (by rw [h2];simp)]);unfold ctorV at HC;rw [HE.out];clear HA HE
   cases hf:findE es s with
   | none=>
    rw [hf] at HC;simp only [Option.map_none,Option.getD_none,Option.isSome_none] at HC
    go_enter Try.func26,Try.ntmps26
    go_upto_region 1 with(fail)
    generalize hw0:w.alloc _=w0;obtain⟨hb0,hR,hg0⟩:=f3_box hw0;have HB0:=Hd hb0;have HR:=Hd hR;clear hb0 hR hw0
    go_wp2_with fail
    refine(HC.out _ HB0.out).mono ?_;rintro e w1 ⟨rfl,hb1⟩;have HR1:=Hd (HR.out.below hb1);have HB1:=Hd (HB0.out.trans (hb1.mono HB0.out.size));clear hb1
    go_wp2_with (refine wpList_store_row rfl _ _ _ rfl (w.heap.size) _ rfl rfl _ _ HR1.out ty3_info rfl (by simp [Value.oneCell']) ?_)
    exact bodyPost_ret (res_ty3 (p:=4) (u:=5) (v:=6) rfl _ _ w.heap.size 0 0 0 rfl (HR1.out.set 0 0 0)) rfl ⟨rfl,below_set3 HB1.out⟩
   | some q=>
    rw [hf] at HC;simp only [Option.map_some,Option.getD_some,Option.isSome_some] at HC;rw [show(some q).map (fun p:Pl=>((3:Int),(p.1:Int),(p.2.1:Int)))=some (3,(q.1:Int),(q.2.1:Int)) from rfl];generalize q.1=qa at *;generalize q.2.1=qb at *
    go_enter Try.func26,Try.ntmps26
    go_upto_region 1 with(fail)
    generalize hw0:w.alloc _=w0;obtain⟨hb0,hR,hg0⟩:=f3_box hw0;have HB0:=Hd hb0;have HR:=Hd hR;clear hb0 hR hw0
    go_wp2_with fail
    refine(HC.out _ HB0.out).mono ?_;rintro e w1 ⟨rfl,hb1⟩;have HR1:=Hd (HR.out.below hb1);have HB1:=Hd (HB0.out.trans (hb1.mono HB0.out.size));clear hb1
    go_wp2_with (refine wpList_store_row rfl _ _ _ rfl (w.heap.size) _ rfl rfl _ _ HR1.out ty3_info rfl (by simp [Value.oneCell']) ?_)
    exact bodyPost_ret (res_ty3 (p:=4) (u:=5) (v:=6) rfl _ _ w.heap.size 3 qa 0 rfl (HR1.out.set 3 qa 0)) rfl ⟨rfl,below_set3 HB1.out⟩
end
section
open Go.RowKit Go.Sort
def cdL(c:Cd):List Value:=[.string c.nm,.int .i64 c.v]
def cdA(c:Cd):Array Value:=#[.string c.nm,.int .i64 c.v]
def CdAt(w:World) (b o:Nat) (c:Cd):Prop:=w.rangeAt b o (cdL c)
def RdC(w:World) (A:Option Addr) (n:Nat) (l:List Cd):Prop:=RdS 2 CdAt w A n l
theorem keeps_cd:KeepsAt CdAt:=fun h hb hs hk=>rangeAt_keep h hb hk
theorem CdAt.two{w:World}{b o:Nat}{c:Cd}(h:CdAt w b o c):w.cell? ⟨b,o,none⟩=some (.string c.nm)∧w.cell? ⟨b,o+1,none⟩=some (.int .i64 c.v):=⟨h 0 _ rfl,h 1 _ rfl⟩
def flC(l:List Cd):List Value:=l.flatMap cdL
theorem flC_len(l:List Cd):(flC l).length=l.length*2:=by
 induction l with
 | nil=>rfl
 | cons d l ih=>simp only [flC,List.flatMap_cons,List.length_append,List.length_cons] at ih ⊢;rw [ih];simp [cdL];omega
theorem flC_app(a b:List Cd):flC (a++b)=flC a++flC b:=by simp [flC]
theorem flC_one(d:Cd):flC [d]=cdL d:=by simp [flC]
theorem flC_at:∀ (l:List Cd) (i j:Nat),i<l.length→j<2→(flC l)[i*2+j]?=(cdL (l[i]?.getD default))[j]?
 | t::ts,0,j,_,hj=>by
  have hz:j<(cdL t).length:=by simpa [cdL] using hj
  simp only [flC,List.flatMap_cons,Nat.zero_mul,Nat.zero_add];rw [List.getElem?_append_left hz]
  simp
 | t::ts,i+1,j,hi,hj=>by
  have ih:=flC_at ts i j (by simpa using hi) hj;have hz:(cdL t).length=2:=by simp [cdL]
  simp only [flC,List.flatMap_cons];rw [List.getElem?_append_right (by rw [hz];omega),hz,show(i+1)*2+j-2=i*2+j by omega]
  simpa [flC] using ih
theorem flC_ones(l:List Cd):∀ u∈flC l,u.oneCell'=true:=by
 intro u hu;simp only [flC,List.mem_flatMap] at hu;obtain⟨t,_,hu⟩:=hu
 simp [cdL] at hu
 rcases hu with rfl | rfl <;> rfl
section
variable {w w':World}{A:Option Addr}{n:Nat}{l:List Cd}
theorem RdC.keep(h:RdC w A n l) (hs:w.heap.size≤w'.heap.size) (hk:∀ p:Addr,p.block<w.heap.size→w'.cell? p=w.cell? p):RdC w' A n l:=RdS.keep keeps_cd h hs hk
theorem RdC.below(h:RdC w A n l) (hb:Below w.heap.size w w'):RdC w' A n l:=h.keep hb.size fun _ hp=>hb.cell hp
theorem RdC.of_own{base:Nat}{e:TypeId}{v:Value}(h:w.ownsRow base e 2 v n (flC l)) (hm:n≤9223372036854775807):∃ A c,v=.slice A n c∧RdC w A n l:=by
 have hl:l.length=n:=by
  have:=h.1;rw [flC_len] at this;omega
 rcases h.2 with⟨rfl,rfl⟩|⟨g,cap,cur,rfl,hg,hh,hnc,hcm,hcs,ht⟩
 · obtain rfl:l=[]:=List.eq_nil_of_length_eq_zero hl;exact⟨none,0,rfl,RdS.nil_ _ _ _⟩
 · refine⟨_,cap,rfl,hl,hm,fun hn=>⟨g,0,rfl,(Array.getElem?_eq_some_iff.1 hh).1,fun i hi=>?_⟩⟩;intro j v hv
   have hj:j<2:=by
    rcases Nat.lt_or_ge j 2 with h | h
    · exact h
    · rw [List.getElem?_eq_none (by simpa [cdL] using h)] at hv;cases hv
   rw [Nat.zero_add,h.cellAt (i*2+j) (by omega),flC_at l i j (by omega) hj,hv]
theorem RdC.news(h:RdC w A n l):(A=none→n=0)∧∀ ad,A=some ad→∀ j u,(flC l)[j]?=some u→w.cell? (ad.add j)=some u:=by
 constructor
 · rintro rfl;rcases Nat.eq_zero_or_pos n with h0 | h0
   · exact h0
   · obtain⟨b,off,e,_⟩:=RdS.at_ h h0;cases e
 · rintro ad rfl j u hu
   have hj:j<l.length*2:=by
    rcases Nat.lt_or_ge j (l.length*2) with h1 | h1
    · exact h1
    · rw [List.getElem?_eq_none (by rw [flC_len];exact h1)] at hu;cases hu
   have hlen:=RdS.len h;obtain⟨b,off,e,hb,hc⟩:=RdS.at_ h (by omega);injection e with e;subst e;have h6:j / 2*2+j % 2=j:=by omega
   have h7:j % 2<2:=by omega
   have h1:=hc (j / 2) (by omega);rw [add_addr];have h2:=flC_at l (j / 2) (j % 2) (by omega) h7;rw [h6,hu] at h2;have h3:=h1 (j % 2) u h2.symm;rwa [show off+j / 2*2+j % 2=off+j by omega] at h3
theorem RdC.take(h:RdC w A n l){k:Nat}(hk:k≤n):RdC w A k (l.take k):=by
 refine⟨by rw [List.length_take,h.1];omega,by have:=h.2.1;omega,fun h0=>?_⟩;obtain⟨b,off,e,hb,hc⟩:=RdS.at_ h (by omega);refine⟨b,off,e,hb,fun i hi=>?_⟩;have:=hc i (by omega);rwa [List.getElem?_take_of_lt hi]
end
theorem infoCond:(Try.prog.info? 60).map (fun i=>(i.size,i.bytes,i.zero.map fun z=>z.cells.size))=some (2,24,some 2):=by kernel_rfl
theorem cells_cd:Try.prog.cellsOf 60=2:=by kernel_rfl
section
variable {P:Program}{w:World}
theorem wpList_append_cd{ops:Array Oper}{rest:List Oper}{o:Oper}{a:Act}{Q:Exit→Act→World→Prop}(hgd:o.guard=none) (s x:Operand) (t:TypeId)
 (ho:o.op=.call { callee:=.builtin .append,args:=#[s,x],argTypes:=#[t,t] })
 (base:Nat) (e:TypeId) (i:TypeInfo) (z:Value) (bytes:Nat) (ht:P.underlying t=some (.slice e)) (hi:P.info? e=some i) (hz:i.zero=some z)
 (hsize:i.size=2) (hby:i.bytes=bytes) (hzs:z.cells.size=2)
 (v:Value) (n:Nat) (xs:List Cd) (hs:a.eval s=v) (hown:w.ownsRow base e 2 v n (flC xs))
 (A:Option Addr) (m c:Nat) (l:List Cd) (hx:a.eval x=.slice A m c) (hr:RdC w A m l)
 (h63:n+m≤maxLen) (hbytes:(n+m)*bytes≤140737488355328) (hbase:base≤w.heap.size)
 (h:∀ v' w',w'.ownsRow base e 2 v' (n+m) (flC (xs++l))→w.grownBy w' v.ownBlock→wpList P ops Q rest (a.put o.dst v') w'):wpList P ops Q (o::rest) a w:=by
 obtain⟨hA,hnews⟩:=hr.news;have hlen:=RdS.len hr;rcases A with _ | ad
 · obtain rfl:m=0:=hA rfl;obtain rfl:l=[]:=List.eq_nil_of_length_eq_zero hlen;refine wpList_plain hgd fun K hK=>?_;have hrun:=run_append_nil (P:=P) (w:=w) base t o.type e i 2 ht hi v n _ hown c;unfold Oper.wp
   simp [execOp,ho,resolve,invoke,builtin,hs,hx,hrun,Result.andThen]
   exact hK _ _ (h v w (by simpa using hown) (World.grownBy.refl w _))
 · exact wpList_append_own_at w hgd s x t ho base e i z 2 bytes ht hi hz hsize hby hzs (by decide) v n _ hs hown ad m c (flC l) hx (by rw [flC_len,hlen]) (fun j u hu=>hnews ad rfl j u hu) (flC_ones l) h63 hbytes hbase fun v' w' h1 h2 _ _=>h v' w' (by rw [flC_app];exact h1) h2
end
theorem cd_lit(w:World) (d:Cd):RdC (w.alloc (.cells (cdA d) 60)) (some ⟨w.heap.size,0,none⟩) 1 [d]:=by
 refine⟨rfl,by omega,fun _=>⟨w.heap.size,0,rfl,by simp,fun i hi=>?_⟩⟩;obtain rfl:i=0:=by omega
 intro j v hv;rw [show 0+0*2+j=j by omega,World.cell?_alloc_new];have:(cdL d)[j]?=some v:=by simpa using hv
 rw [← this]
 show(cdL d).toArray[j]?=_
 simp
theorem nd_atC{w:World}{A:Option Addr}{n i:Nat}{l:List Nd}(h:RdNs w A n l) (hi:i<n):
 ∃ b off A1 c1 A2 c2 A3 c3 A4 c4,A=some ⟨b,off,none⟩∧b<w.heap.size∧rdN w (l[i]?.getD default) A1 A2 A3 A4 ∧
 w.cell? ⟨b,off+i*5,none⟩=some (.string (l[i]?.getD default).nm)∧w.cell? ⟨b,off+i*5+1,none⟩=some (.slice A1 (l[i]?.getD default).ins.length c1)∧w.cell? ⟨b,off+i*5+2,none⟩=some (.slice A2 (l[i]?.getD default).outs.length c2)∧w.cell? ⟨b,off+i*5+3,none⟩=some (.slice A3 (l[i]?.getD default).vars.length c3)∧w.cell? ⟨b,off+i*5+4,none⟩=some (.slice A4 (l[i]?.getD default).eqs.length c4):=by
 obtain⟨b,off,e,hb,hc⟩:=RdS.at_ h (by omega);obtain⟨A1,c1,A2,c2,A3,c3,A4,c4,h1,h2⟩:=hc i hi;obtain⟨d0,d1,d2,d3,d4⟩:=ndL_five h1;exact⟨b,off,A1,c1,A2,c2,A3,c3,A4,c4,e,hb,h2,d0,d1,d2,d3,d4⟩
theorem dc_atC{w:World}{A:Option Addr}{n i:Nat}{l:List Dc}(h:RdD w A n l) (hi:i<n):
 ∃ b off,A=some ⟨b,off,none⟩∧b<w.heap.size∧w.cell? ⟨b,off+i*6,none⟩=some (.string (l[i]?.getD default).nm)∧w.cell? ⟨b,off+i*6+1,none⟩=some (.int .i64 (l[i]?.getD default).k)∧w.cell? ⟨b,off+i*6+2,none⟩=some (.int .i64 (l[i]?.getD default).e) ∧
  w.cell? ⟨b,off+i*6+3,none⟩=some (.int .i64 (l[i]?.getD default).l)∧w.cell? ⟨b,off+i*6+4,none⟩=some (.string (l[i]?.getD default).on)∧w.cell? ⟨b,off+i*6+5,none⟩=some (.string (l[i]?.getD default).ct):=by
 obtain⟨b,off,e,hb,hc⟩:=RdS.at_ h (by omega);exact⟨b,off,e,hb,(hc i hi).six⟩
theorem cl_box{w w1:World}{cs:Array Value}{T:TypeId}(h:w.alloc (.cells cs T)=w1):Below w.heap.size w w1∧w1.heap.size=w.heap.size+1∧∀ w',Below w1.heap.size w1 w'→∀ j,w'.cell? ⟨w.heap.size,j,none⟩=cs[j]?:=by
 subst h;refine⟨(Below.refl _ _).alloc (Nat.le_refl _) _,by simp,fun w' hb j=>?_⟩;rw [hb.cell (p:=⟨w.heap.size,j,none⟩) (by simp),World.cell?_alloc_new]
theorem cl_box2{w w1:World}{cs ds:Array Value}{T U:TypeId}(h:(w.alloc (.cells cs T)).alloc (.cells ds U)=w1):Below w.heap.size w w1∧w1.heap.size=w.heap.size+2∧(∀ w',Below w1.heap.size w1 w'→∀ j,w'.cell? ⟨w.heap.size,j,none⟩=cs[j]?)∧(∀ w',Below w1.heap.size w1 w'→∀ j,w'.cell? ⟨w.heap.size+1,j,none⟩=ds[j]?):=by
 generalize h0:w.alloc (.cells cs T)=w0 at h;obtain⟨b0,e0,k0⟩:=cl_box h0;obtain⟨b1,e1,k1⟩:=cl_box h;rw [e0] at k1;exact⟨b0.trans (b1.mono b0.size),by omega,fun w' hb j=>k0 w' (b1.trans (hb.mono b1.size)) j,k1⟩
theorem below_nextC{w w1 w2:World}(h:Below w.heap.size w w1) (hb:Below w1.heap.size w1 w2):Below w.heap.size w w2:=h.trans (hb.mono h.size)
theorem own_belowC{w w':World}{base:Nat}{e:TypeId}{size n:Nat}{v:Value}{xs:List Value}(h:w.ownsRow base e size v n xs) (hb:Below w.heap.size w w'):w'.ownsRow base e size v n xs:=by
 refine⟨h.1,?_⟩;rcases h.2 with h2 | ⟨g,cap,cur,hv,hg,hh,hr⟩
 · exact .inl h2
 · exact .inr ⟨g,cap,cur,hv,hg,(hb.block g (Array.getElem?_eq_some_iff.1 hh).1).trans hh,hr⟩
theorem ret_boolC{a b:Bool}(h:a=b):Ending.returned (.bool a)=.returned (.bool b):=by rw [h]
def RowPost(w:World) (o:Option (List Cd)) (e:Ending) (w':World):Prop:=
 Below w.heap.size w w'∧match o with
  | none=>e=.returned (.tuple #[.slice none 0 0,.bool false])
  | some l=>∃ A c,e=.returned (.tuple #[.slice A l.length c,.bool true])∧RdC w' A l.length l
end
section
open Go.RowKit Go.Sort
theorem eqC_refl(a:Cd):eqC a a=true:=eqC_eq.2 rfl
theorem refSame17(A:Option Addr) (n c:Nat) (l:List Cd) (B:Option Addr) (m d:Nat) (r:List Cd) (w:World) (hl:RdC w A n l) (hr:RdC w B m r):
 Calls Try.prog 11 #[.slice A n c,.slice B m d] w fun e w'=>e=.returned (.bool (sameC l r))∧Below w.heap.size w w':=by
 have hln:=RdS.len hl;have hrn:=RdS.len hr;have hlm:=RdS.max hl;have hrm:=RdS.max hr
 by_cases hnm:n=m
 · subst hnm;have HNO:=Hd fun(i:Nat) hi hf=>sameL_no (f:=eqC) (l:=l) (m:=r) (i:=i) (by rw [hln];exact hi) (by rw [hln,hrn]) hf;have HYES:=Hd fun hf=>sameL_yes (f:=eqC) (l:=l) (m:=r) (by rw [hln,hrn]) (by rw [hln];exact hf);unfold sameC;generalize sameL eqC l r=out at *;have dn:decide ((n:Int)=(n:Int))=true:=decide_eq_true rfl
   go_enter Try.func11,Try.ntmps11
   go_wp2_with fail
   go_loopw [5] (fun i wr=>∃ k:Nat,k≤n∧i=.int .i64 k∧(∀ j,j<k→eqC (l[j]?.getD default) (r[j]?.getD default)=true)∧Below w.heap.size w wr) (fun i _=>n-(intOf i).toNat)
   case atStart=>exact⟨0,Nat.zero_le _,rfl,fun j hj=>absurd hj (by omega),Below.refl _ _⟩
   case round=>
    obtain⟨k,hk,rfl,hto,hnx⟩:=hrel;have HT:=Hd hto;have HNX:=Hd hnx;clear hto
    by_cases hlt:k<n
    · obtain⟨b,off,rfl,hb,hc⟩:=RdS.at_ (hl.below hnx) (by omega);obtain⟨b',off',rfl,hb',hc'⟩:=RdS.at_ (hr.below hnx) (by omega);obtain⟨p0,p1⟩:=(hc k hlt).two;obtain⟨q0,q1⟩:=(hc' k hlt).two;clear hc hc' hnx;have HN:=Hd (HNO.out k hlt);have HS:=Hd fun(hf:eqC (l[k]?.getD default) (r[k]?.getD default)=true)=>to_next (P:=fun j=>eqC (l[j]?.getD default) (r[j]?.getD default)=true) HT.out hf;generalize l[k]?.getD default=x at p0 p1 HN HS;generalize r[k]?.getD default=y at q0 q1 HN HS;obtain⟨x0,x1⟩:=x;obtain⟨y0,y1⟩:=y;simp only at p0 p1 q0 q1
      by_cases e0:x0=y0
      · subst e0
        by_cases e1:x1=y1
        · subst e1;have HS2:=Hd (HS.out (eqC_refl _))
          go_upto_region 6 with(fail)
          go_quiet (fail)
          go_wp2_with fail
          go_roundw
          case rel=>exact⟨k+1,by omega,by go_num,HS2.out,below_drewN HNX.out _⟩
          case measure=>simp [intOf];omega
        · have f1:(x1==y1)=false:=by rw [beq_eq_false_iff_ne];exact e1
          have HN2:=Hd (HN.out (by simp [eqC,f1]))
          go_upto_region 6 with(fail)
          go_quiet (fail)
          go_wp2_with fail
          go_ret
          exact⟨ret_bool HN2.out.symm,below_drewN HNX.out _⟩
      · have f0:(x0.toList==y0.toList)=false:=by
         cases h:(x0.toList==y0.toList) with
         | false=>rfl
         | true=>exact absurd (bytes_eq h) e0
        have HN2:=Hd (HN.out (by simp [eqC,f0]))
        go_upto_region 6 with(fail)
        go_quiet (fail)
        go_wp2_with fail
        go_ret
        exact⟨ret_bool HN2.out.symm,below_drewN HNX.out _⟩
    · have hkn:k=n:=by omega
      have HY:=Hd (HYES.out fun i hi=>HT.out i (by omega))
      go_wp2_with fail
      go_ret
      exact⟨ret_bool HY.out.symm,HNX.out⟩
 · have dn:decide ((n:Int)=(m:Int))=false:=decide_eq_false (by omega);have dm:((n:Int)==(m:Int))=false:=by rw [beq_eq_false_iff_ne];omega
   have HE:=Hd (sameL_len (f:=eqC) (l:=l) (m:=r) (by rw [hln,hrn];exact hnm))
   go_enter Try.func11,Try.ntmps11
   go_wp2_with fail
   go_ret
   exact⟨ret_bool HE.out.symm,Below.refl _ _⟩
theorem slEqualC(A:Option Addr) (n c:Nat) (l:List Cd) (B:Option Addr) (m d:Nat) (r:List Cd) (w:World) (hl:RdC w A n l) (hr:RdC w B m r):
 Calls Try.prog 59 #[.slice A n c,.slice B m d] w fun e w'=>e=.returned (.bool (sameC l r))∧Below w.heap.size w w':=by
 have hln:=RdS.len hl;have hrn:=RdS.len hr;have hlm:=RdS.max hl;have hrm:=RdS.max hr
 by_cases hnm:n=m
 · subst hnm;have HNO:=Hd fun(i:Nat) hi hf=>sameL_no (f:=eqC) (l:=l) (m:=r) (i:=i) (by rw [hln];exact hi) (by rw [hln,hrn]) hf;have HYES:=Hd fun hf=>sameL_yes (f:=eqC) (l:=l) (m:=r) (by rw [hln,hrn]) (by rw [hln];exact hf);unfold sameC;generalize sameL eqC l r=out at *;have dn:decide ((n:Int)=(n:Int))=true:=decide_eq_true rfl
   go_enter Try.func59,Try.ntmps59
   go_wp2_with fail
   go_loopw [13] (fun i wr=>∃ k:Nat,k≤n∧i=.int .i64 k∧(∀ j,j<k→eqC (l[j]?.getD default) (r[j]?.getD default)=true)∧Below w.heap.size w wr) (fun i _=>n-(intOf i).toNat)
   case atStart=>exact⟨0,Nat.zero_le _,rfl,fun j hj=>absurd hj (by omega),Below.refl _ _⟩
   case round=>
    obtain⟨k,hk,rfl,hto,hnx⟩:=hrel;have HT:=Hd hto;have HNX:=Hd hnx;clear hto
    by_cases hlt:k<n
    · obtain⟨b,off,rfl,hb,hc⟩:=RdS.at_ (hl.below hnx) (by omega);obtain⟨b',off',rfl,hb',hc'⟩:=RdS.at_ (hr.below hnx) (by omega);obtain⟨p0,p1⟩:=(hc k hlt).two;obtain⟨q0,q1⟩:=(hc' k hlt).two;clear hc hc' hnx;have HN:=Hd (HNO.out k hlt);have HS:=Hd fun(hf:eqC (l[k]?.getD default) (r[k]?.getD default)=true)=>to_next (P:=fun j=>eqC (l[j]?.getD default) (r[j]?.getD default)=true) HT.out hf;generalize l[k]?.getD default=x at p0 p1 HN HS;generalize r[k]?.getD default=y at q0 q1 HN HS;obtain⟨x0,x1⟩:=x;obtain⟨y0,y1⟩:=y;simp only at p0 p1 q0 q1
      by_cases e0:x0=y0
      · subst e0
        by_cases e1:x1=y1
        · subst e1;have HS2:=Hd (HS.out (eqC_refl _))
          go_upto_region 6 with(fail)
          go_quiet (fail)
          go_wp2_with fail
          go_roundw
          case rel=>exact⟨k+1,by omega,by go_num,HS2.out,below_drewN HNX.out _⟩
          case measure=>simp [intOf];omega
        · have f1:(x1==y1)=false:=by rw [beq_eq_false_iff_ne];exact e1
          have HN2:=Hd (HN.out (by simp [eqC,f1]))
          go_upto_region 6 with(fail)
          go_quiet (fail)
          go_wp2_with fail
          go_ret
          exact⟨ret_bool HN2.out.symm,below_drewN HNX.out _⟩
      · have f0:(x0.toList==y0.toList)=false:=by
         cases h:(x0.toList==y0.toList) with
         | false=>rfl
         | true=>exact absurd (bytes_eq h) e0
        have HN2:=Hd (HN.out (by simp [eqC,f0]))
        go_upto_region 6 with(fail)
        go_quiet (fail)
        go_wp2_with fail
        go_ret
        exact⟨ret_bool HN2.out.symm,below_drewN HNX.out _⟩
    · have hkn:k=n:=by omega
      have HY:=Hd (HYES.out fun i hi=>HT.out i (by omega))
      go_wp2_with fail
      go_ret
      exact⟨ret_bool HY.out.symm,HNX.out⟩
 · have dn:decide ((n:Int)=(m:Int))=false:=decide_eq_false (by omega);have dm:((n:Int)==(m:Int))=false:=by rw [beq_eq_false_iff_ne];omega
   have HE:=Hd (sameL_len (f:=eqC) (l:=l) (m:=r) (by rw [hln,hrn];exact hnm))
   go_enter Try.func59,Try.ntmps59
   go_wp2_with fail
   go_ret
   exact⟨ret_bool HE.out.symm,Below.refl _ _⟩
end
section
open Go.RowKit Go.Sort
def listK(x:Nd) (k:Nat):List Dc:=match k with | 0=>x.ins | 1=>x.outs | _=>x.vars
def restO(x:Nd) (s:ByteArray) (k:Nat):Option Dc:=match k with
 | 0=>declO x s
 | 1=>(x.outs++x.vars).find? fun d=>d.nm.data.toList==s.data.toList
 | 2=>x.vars.find? fun d=>d.nm.data.toList==s.data.toList
 | _=>none
theorem restO_hit{x:Nd}{s:ByteArray}{k:Nat}{d:Dc}(hk:k<3) (h:(listK x k).find? (fun d=>d.nm.data.toList==s.data.toList)=some d):restO x s k=some d:=by
 match k,hk with
 | 0,_=>
  have h:x.ins.find? (fun d=>d.nm.data.toList==s.data.toList)=some d:=h
  show(x.ins++x.outs++x.vars).find? _=_
  rw [List.append_assoc,List.find?_append,h];rfl
 | 1,_=>
  have h:x.outs.find? (fun d=>d.nm.data.toList==s.data.toList)=some d:=h
  show(x.outs++x.vars).find? _=_
  rw [List.find?_append,h];rfl
 | 2,_=>exact h
theorem restO_next{x:Nd}{s:ByteArray}{k:Nat}(hk:k<3) (h:(listK x k).find? (fun d=>d.nm.data.toList==s.data.toList)=none):restO x s k=restO x s (k+1):=by
 match k,hk with
 | 0,_=>
  have h:x.ins.find? (fun d=>d.nm.data.toList==s.data.toList)=none:=h
  show(x.ins++x.outs++x.vars).find? _=(x.outs++x.vars).find? _
  rw [List.append_assoc,List.find?_append,h];rfl
 | 1,_=>
  have h:x.outs.find? (fun d=>d.nm.data.toList==s.data.toList)=none:=h
  show(x.outs++x.vars).find? _=x.vars.find? _
  rw [List.find?_append,h];rfl
 | 2,_=>exact h
def lists3(x:Nd) (A1:Option Addr) (c1:Nat) (A2:Option Addr) (c2:Nat) (A3:Option Addr) (c3:Nat):Array Value:=#[.slice A1 x.ins.length c1,.slice A2 x.outs.length c2,.slice A3 x.vars.length c3]
theorem lists_at{x:Nd}{A1:Option Addr}{c1:Nat}{A2:Option Addr}{c2:Nat}{A3:Option Addr}{c3:Nat}{A4:Option Addr}{w:World}(h:rdN w x A1 A2 A3 A4){k:Nat}(hk:k<3):
 ∃ A c,(lists3 x A1 c1 A2 c2 A3 c3)[k]?=some (.slice A (listK x k).length c)∧RdD w A (listK x k).length (listK x k):=by
 match k,hk with
 | 0,_=>exact⟨A1,c1,rfl,h.1⟩
 | 1,_=>exact⟨A2,c2,rfl,h.2.1⟩
 | 2,_=>exact⟨A3,c3,rfl,h.2.2.1⟩
theorem pgDecl(x:Nd) (A1:Option Addr) (c1:Nat) (A2:Option Addr) (c2:Nat) (A3:Option Addr) (c3:Nat) (A4:Option Addr) (c4:Nat) (s:ByteArray) (w:World) (h:rdN w x A1 A2 A3 A4):
 Calls Try.prog 56 #[.agg (ndA x A1 c1 A2 c2 A3 c3 A4 c4),.string s] w (DeclPost w (declO x s)):=by
 have HF:=Hd fun w1 hw=>nd_facts w x A1 c1 A2 c2 A3 c3 A4 c4 w1 hw h;have HDC:=Hd dc_facts;have H0:=Hd (show restO x s 0=declO x s from rfl);have HEND:=Hd (show restO x s 3=none from rfl);have HHITK:=Hd fun(k:Nat) hk d h=>restO_hit (x:=x) (s:=s) (k:=k) (d:=d) hk h;have HNEXT:=Hd fun(k:Nat) hk h=>restO_next (x:=x) (s:=s) (k:=k) hk h;have HLS:=Hd fun(w:World) (h:rdN w x A1 A2 A3 A4) (k:Nat) hk=>lists_at (c1:=c1) (c2:=c2) (c3:=c3) h (k:=k) hk;unfold ndA;unfold lists3 at HLS;generalize declO x s=out at *;generalize restO x s=rest at *;unfold dcA at HDC
 go_enter Try.func56,Try.ntmps56
 go_upto_region 1 with(fail)
 generalize hw1:w.alloc _=w1;obtain⟨hb1,hg,hR1,hcell⟩:=HF.out w1 hw1;have HB1:=Hd hb1;have HCE:=Hd hcell;have HR1:=Hd hR1
 have HN2:=Hd fun w2 (hw:w1.alloc (.cells (dcA default) 58)=w2)=>(show RowD w2 (w.heap.size+1) default∧Below w1.heap.size w1 w2∧w2.heap.size=w.heap.size+2 by
  subst hw;exact⟨by rw [← hg];exact heap_alloc_new _ _,(Below.refl _ _).alloc (Nat.le_refl _) _,by simp [hg]⟩)
 clear hw1 hcell hb1 HF h hR1;generalize hw2:w1.alloc _=w2;obtain⟨hr2,hb2,hg2⟩:=HN2.out w2 hw2;have HROW:=Hd hr2;simp only [ndA] at HCE;obtain⟨-,q1,q2,q3,-,-⟩:=Sx (HCE.out w2 hb2);simp only [Ya,Yb,Yc] at q1 q2 q3;have HW2:=Hd (HB1.out.trans (hb2.mono HB1.out.size));have HR2:=Hd (HR1.out.below hb2)
 have HN3:=Hd fun w3 (hw:w2.alloc (.cells #[.slice A1 x.ins.length c1,.slice A2 x.outs.length c2,.slice A3 x.vars.length c3] 45)=w3)=>(show Below w2.heap.size w2 w3∧w3.heap.size=w.heap.size+3∧∀ w',Below w3.heap.size w3 w'→∀ j,w'.cell? ⟨w.heap.size+2,j,none⟩=(#[.slice A1 x.ins.length c1,.slice A2 x.outs.length c2,.slice A3 x.vars.length c3]:Array Value)[j]? by
  subst hw;refine⟨(Below.refl _ _).alloc (Nat.le_refl _) _,by simp [hg2],fun w' hb j=>?_⟩;rw [← hg2,hb.cell (p:=⟨w2.heap.size,j,none⟩) (by simp),World.cell?_alloc_new])
 clear hw2 hr2 hb2 HN2 HCE HR1
 go_upto_region 2 with(fail)
 generalize hw3:w2.alloc _=w3;obtain⟨hb3,hg3,hcell3⟩:=HN3.out w3 hw3;have HC3:=Hd hcell3;have HROW3:=Hd (HROW.out.below hb3);have HW3:=Hd (HW2.out.trans (hb3.mono HW2.out.size));have HR3:=Hd (HR2.out.below hb3);clear hw3 HN3 hb3 hcell3 q1 q2 q3 HROW HW2 HR2
 go_loopw [18] (fun i wr=>∃ k:Nat,k≤3∧i=.int .i64 k∧rest k=out∧Below w3.heap.size w3 wr) (fun i _=>3-(intOf i).toNat)
 case atStart=>exact⟨0,by omega,rfl,H0.out,Below.refl _ _⟩
 case round=>
  obtain⟨k,hk,rfl,hto,hnx⟩:=hrel;have HT:=Hd hto;have HNX:=Hd hnx;clear hto
  by_cases hlt:k<3
  · obtain⟨A,c,hAk,hrd⟩:=HLS.out wr (HR3.out.below hnx) k hlt;have e0:=HC3.out wr hnx k;rw [hAk] at e0;have HRD:=Hd hrd;have hln:=RdS.len hrd;have hmx:=RdS.max hrd;have HHIT:=Hd (fun(j:Nat) hj hn hy=>HHITK.out k hlt _ (find_hit (l:=listK x k) (f:=fun d:Dc=>d.nm.data.toList==s.data.toList) (k:=j) hj hn hy));have HNO:=Hd (fun hn=>HNEXT.out k hlt (find_none (l:=listK x k) (f:=fun d:Dc=>d.nm.data.toList==s.data.toList) hn));clear hAk hrd hnx;generalize listK x k=l at *;generalize l.length=n at *
    go_upto_region 5 with(fail)
    generalize wr=wo at *
    go_loopw [24] (fun i wr=>∃ j:Nat,j≤n∧i=.int .i64 j∧(∀ m,m<j→((l[m]?.getD default).nm.data.toList==s.data.toList)=false)∧Below wo.heap.size wo wr) (fun i _=>n-(intOf i).toNat)
    case atStart=>exact⟨0,by omega,rfl,fun j hj=>absurd hj (by omega),Below.refl _ _⟩
    case round=>
     obtain⟨j,hj,rfl,hto,hny⟩:=hrel;have HT2:=Hd hto;have HNY:=Hd hny;have HNZ:=Hd (HNX.out.trans (hny.mono HNX.out.size));clear hto
     by_cases hjt:j<n
     · obtain⟨b,off,rfl,hb,hc⟩:=RdS.at_ (RdD.below HRD.out hny) (by omega);obtain⟨d0,d1,d2,d3,d4,d5⟩:=(hc j hjt).six;clear hc;have HH:=Hd (HHIT.out j (by omega) HT2.out);have HS:=Hd fun(hf:((l[j]?.getD default).nm.data.toList==s.data.toList)=false)=>to_next (P:=fun m=>((l[m]?.getD default).nm.data.toList==s.data.toList)=false) HT2.out hf;generalize l[j]?.getD default=d at d0 d1 d2 d3 d4 d5 HH HS;have HD4:=Hd fun w4 hw=>HDC.out wr d w4 hw;clear hny
       go_upto_region 7 with(fail)
       generalize hw4:World.alloc _ _=w4;obtain⟨hb4,hg4,hcell4⟩:=HD4.out _ hw4;obtain⟨r0,r1,r2,r3,r4,r5⟩:=Sx (hcell4 w4 (Below.refl _ _));simp only [Ya,Yb,Yc] at r0 r1 r2 r3 r4 r5;have HROW4:=Hd (HROW3.out.below (HNZ.out.trans (hb4.mono HNZ.out.size)));have HW4:=Hd (HW3.out.trans ((HNZ.out.trans (hb4.mono HNZ.out.size)).mono HW3.out.size));have HNY4:=Hd (HNY.out.trans (hb4.mono HNY.out.size));clear d0 d1 d2 d3 d4 d5 hb4 hcell4 hw4 HD4
       cases h1:(d.nm.toList==s.toList) with
       | true=>
        have HH2:=Hd (HH.out (by rw [← Lib.toList_data,← Lib.toList_data];exact h1));have HSET:=Hd (HROW4.out.set d);have HBS:=Hd (below_setRow HW4.out (g:=w.heap.size+1) (by omega) (dcA d));unfold dcA at HSET HBS;have HO:=Hd (show some d=out from HH2.out.symm.trans HT.out)
        go_wp2_with (refine wpList_store_row rfl _ _ _ rfl (w.heap.size+1) _ rfl rfl _ _ HROW4.out dcinfo rfl (by simp [Value.oneCell']) ?_)
        exact bodyPost_ret (res_dc2 (p:=4) (u:=5) rfl _ _ (w.heap.size+1) rfl HSET.out) rfl ⟨by rw [← HO.out];rfl,HBS.out⟩
       | false=>
        have HS2:=Hd (HS.out (by rw [← Lib.toList_data,← Lib.toList_data];exact h1))
        go_wp2_with fail
        go_roundw
        case rel=>exact⟨j+1,by omega,by go_num,HS2.out,HNY4.out⟩
        case measure=>simp [intOf];omega
     · have hjn:j=n:=by omega
       have HN:=Hd (show rest (k+1)=out from(HNO.out fun m hm=>HT2.out m (by omega)).symm.trans HT.out)
       go_wp2_with fail
       go_roundw
       case rel=>exact⟨k+1,by omega,by go_num,HN.out,HNZ.out⟩
       case measure=>simp [intOf];omega
  · have hk3:k=3:=by omega
    subst hk3;have HO:=Hd (show none=out from HEND.out.symm.trans HT.out);have HROW4:=Hd (HROW3.out.below hnx);have HW4:=Hd (HW3.out.trans (hnx.mono HW3.out.size));have HSET:=Hd (HROW4.out.set default);have HBS:=Hd (below_setRow HW4.out (g:=w.heap.size+1) (by omega) (dcA default))
    go_wp2_with (refine wpList_store_row rfl _ _ _ rfl (w.heap.size+1) _ rfl rfl _ _ HROW4.out dcinfo rfl (by simp [Value.oneCell']) ?_)
    exact bodyPost_ret (res_dc2 (d:=default) (p:=4) (u:=5) rfl _ _ (w.heap.size+1) rfl HSET.out) rfl ⟨by rw [← HO.out];rfl,HBS.out⟩
end
section
open Go.Shelf Go.RowKit Go.Lib Go.Sort
def revD_ren:Go.Shelf.Ren:=⟨fun | 35=>57 | n=>n,fun | 22=>45 | 23=>58 | 3=>3 | 4=>4 | 0=>0 | n=>n,fun | n=>n⟩
theorem revD:Go.Proofs.SlLaysE0.n35 Try.prog revD_ren:={
 mixed:=by kernel_rfl
 f35:=⟨Try.f57.name,by decide,Try.func57.trans (congrArg some (by kernel_rfl))⟩
 t0:=Try.underlying0
 a0:=Try.isAgg0
 z0:=Try.sizeOf0
 v0:=Try.zeroValue0
 t3:=Try.underlying3
 a3:=Try.isAgg3
 z3:=Try.sizeOf3
 v3:=Try.zeroValue3
 t4:=Try.underlying4
 a4:=Try.isAgg4
 z4:=Try.sizeOf4
 v4:=Try.zeroValue4
 t22:=Try.underlying45
 a22:=Try.isAgg45
 z22:=Try.sizeOf45
 v22:=Try.zeroValue45 }
theorem dcL_len(d:Dc):(dcL d).length=6:=rfl
theorem dcL_ones(d:Dc):∀ v∈dcL d,v.oneCell'=true:=by
 intro v hv;simp only [dcL,List.mem_cons,List.not_mem_nil,or_false] at hv;rcases hv with rfl | rfl | rfl | rfl | rfl | rfl <;> rfl
theorem holds_own{w:World}{g cap n:Nat}{cur:Array Value}{l:List Dc}(hh:w.heap[g]?=some (.cells cur 58 (0,0))) (hln:l.length=n) (hnc:n≤cap) (hcs:cur.size=cap*6) (ht:cur.toList.take (n*6)=flD l):
 HoldsK dcL 6 w g 0 l.toArray:=by
 intro j hj;rw [size_flatK] at hj;have hj':j<n*6:=by rw [← hln];simpa using hj
 refine⟨?_,?_⟩
 · rw [get_flatK _ _ _ _ hj];unfold World.cell?;simp only [Nat.zero_add];rw [hh];have h1:cur.toList[j]?=(flD l)[j]?:=by rw [← ht,List.getElem?_take_of_lt hj']
   have h2:=flD_at l (j / 6) (j % 6) (by omega) (Nat.mod_lt _ (by omega));rw [show j / 6*6+j % 6=j by omega] at h2;have h3:j / 6<l.length:=by omega
   show cur[j]?=_
   rw [← Array.getElem?_toList,h1,h2,List.getElem?_eq_getElem h3];rw [getElem!_pos l.toArray (j / 6) (by simpa using h3)];simp only [Option.getD_some,List.getElem_toArray];rw [List.getElem?_eq_getElem (by rw [dcL_len];omega)]
   show some _=some (id _)
   rw [getElem!_pos (dcL l[j / 6]) (j % 6) (by rw [dcL_len];omega)];rfl
 · unfold World.frozen?;simp only [Nat.zero_add];rw [hh]
   simp
theorem slRevD(base n:Nat) (v:Value) (l:List Dc) (w:World) (h:w.ownsRow base 58 6 v n (flD l)) (hn:n≤9223372036854775807):
 Calls Try.prog 57 #[v] w fun e w'=>e=.returned (.tuple #[])∧Below base w w'∧∃ A c,v=.slice A n c∧RdD w' A n l.reverse:=by
 have hln:l.length=n:=by
  have:=h.1;rw [flD_len] at this;omega
 rcases h.2 with⟨rfl,rfl⟩|⟨g,cap,cur,rfl,hg,hh,hnc,hcm,hcs,ht⟩
 · refine(AnyQ.slices_Reverse_empty revD none 0 w).mono ?_;rintro e w' ⟨rfl,rfl⟩;obtain rfl:l=[]:=List.eq_nil_of_length_eq_zero hln;exact⟨rfl,Below.refl _ _,none,0,rfl,RdS.nil_ _ _ _⟩
 · have hH:=holds_own hh hln hnc hcs ht;have hsz:l.toArray.size=n:=by simpa using hln
   have hC:=AnyQ.slices_Reverse revD 6 Try.isAgg58 Try.sizeOf58 dcL dcL_len dcL_ones g 0 cap l.toArray w hH (by rw [hsz];exact hn);rw [hsz] at hC;refine hC.mono ?_;rintro e w' ⟨rfl,m,rfl⟩;have hH2:=holdsK_putRowK dcL 6 (Sort.ahead w m) g 0 l.toArray l.toArray.reverse (holdsK_ahead dcL 6 w m g 0 l.toArray hH) (by simp);have hgs:g<w.heap.size:=(Array.getElem?_eq_some_iff.1 hh).1;refine⟨rfl,⟨rfl,rfl,rfl,by simp [putRowK],fun k hk=>?_⟩,some ⟨g,0,none⟩,cap,rfl,by simpa using hln,hn,fun hp=>⟨g,0,rfl,by simpa [putRowK] using hgs,fun i hi=>?_⟩⟩
   · show(putRow id (Sort.ahead w m) g 0 _).heap[k]?=_
     unfold putRow mapBlock
     show(w.heap.modify g _)[k]?=_
     rw [Array.getElem?_modify,if_neg (by omega)]
   · intro j u hu
     have hr:l.reverse[i]?.getD default=l.toArray.reverse[i]!:=by
      rw [getElem!_pos l.toArray.reverse i (by simp;omega),List.getElem?_eq_getElem (by simp;omega)]
      simp
     rw [hr] at hu;have:=HoldsK.cells hH2 dcL_len (i:=i) (by simp;omega) j u hu
     simpa [Addr.add_lit] using this
end
end Go.Proofs.Ytkbpdoomhfkngaa
