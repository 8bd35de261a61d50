/- Parts of the proof: LxA, LxR, PcZ. Conditions: each theorem's own. -/
import Derived.Sort.Grow
import Derived.Laws.ResultCell
import Derived.Laws.Rows
import Derived.Laws.Tables
import Derived.Laws.CopyOwn
import Derived.Laws.CopyRow
import Derived.Test.YtokiaaapgkdpmaaGreatDoorU02
import Derived.Test.YtokiaaapgkdpmaaGreatDoorU06
namespace Go.Proofs.YtokiaaapgkdpmaaGreatDoor
set_option linter.unusedVariables false
set_option linter.unusedSimpArgs false
set_option maxRecDepth 100000
set_option maxHeartbeats 40000000
section
open Go.RowKit
theorem lxLetter(x:Int) (w:World):Calls Tryz.prog 79 #[.int .u8 x] w fun e w'=>e=.returned (.bool (letB x))∧w=w':=by
 by_cases h1:97≤x
 all_goals by_cases h2:x≤122
 all_goals by_cases h3:65≤x
 all_goals
  go_enter Tryz.func79,Tryz.ntmps79
  go_wp2
  go_ret
  exact⟨ret_bool (by rw [Bool.eq_iff_iff];simp [letB,smallB,greatB,h1,h2,h3] <;> omega),rfl⟩
theorem lxDigit(x:Int) (w:World):Calls Tryz.prog 81 #[.int .u8 x] w fun e w'=>e=.returned (.bool (digitB x))∧w=w':=by
 by_cases h1:48≤x
 all_goals
  go_enter Tryz.func81,Tryz.ntmps81
  go_wp2
  go_ret
  exact⟨ret_bool (by rw [Bool.eq_iff_iff];simp [digitB,h1] <;> omega),rfl⟩
theorem lxInName(x:Int) (w:World):Calls Tryz.prog 108 #[.int .u8 x] w fun e w'=>e=.returned (.bool (nameC x))∧w=w':=by
 by_cases h1:letB x=true
 · go_enter Tryz.func108,Tryz.ntmps108
   go_wp2_with fail
   refine(lxLetter x _).mono ?_;rintro e w' ⟨rfl,rfl⟩
   go_wp2_with fail
   go_ret
   exact⟨ret_bool (by simp only [letB] at h1;simp [nameC,h1]),rfl⟩
 · have h1:letB x=false:=by simpa using h1
   by_cases h3:digitB x=true
   all_goals
    go_enter Tryz.func108,Tryz.ntmps108
    go_wp2_with fail
    refine(lxLetter x _).mono ?_;rintro e w' ⟨rfl,rfl⟩
    go_wp2_with fail
    refine(lxDigit x _).mono ?_;rintro e w' ⟨rfl,rfl⟩
    go_wp2_with fail
    go_ret
    exact⟨ret_bool (by simp only [letB] at h1;rw [Bool.eq_iff_iff];simp [nameC,h1,h3]),rfl⟩
section
variable {p:UInt8→Bool}{s:ByteArray}{k:Nat}
def AllTo(p:UInt8→Bool) (s:ByteArray) (k:Nat):Prop:=∀ j (h:j<s.size),j<k→p (s[j]'h)=true
theorem allTo_zero:AllTo p s 0:=fun j _ hj=>absurd hj (by omega)
theorem allTo_snoc(H:AllTo p s k) (hlt:k<s.size) (hx:p (s[k]'hlt)=true):AllTo p s (k+1):=fun j h hj=>by
 rcases Nat.lt_or_ge j k with h1 | h1
 · exact H j h h1
 · obtain rfl:j=k:=by omega
   exact hx
theorem allTo_mem(H:AllTo p s k):∀ c∈s.data.toList.take k,p c=true:=by
 intro c hc;obtain⟨j,hj,e⟩:=List.getElem_of_mem hc;have hj2:j<k∧j<s.data.toList.length:=by rw [List.length_take] at hj;omega
 have hs:j<s.size:=by rw [Lib.size_eq];exact hj2.2
 rw [← e,List.getElem_take,at_list s j hs];exact H j hs hj2.1
theorem allTo_stop(H:AllTo p s k) (hlt:k<s.size) (hx:p (s[k]'hlt)=false):s.data.toList.takeWhile p=s.data.toList.take k:=by
 refine tw_eq (allTo_mem H) (.inr ⟨s[k]'hlt,s.data.toList.drop (k+1),?_,hx⟩);have hl:k<s.data.toList.length:=by rw [← Lib.size_eq];exact hlt
 rw [← at_list s k hlt,← List.drop_eq_getElem_cons hl,List.take_append_drop]
theorem allTo_end(H:AllTo p s k) (hk:s.size≤k):s.data.toList.takeWhile p=s.data.toList:=by
 refine tw_eq (fun c hc=>?_) (.inl rfl);have e:s.data.toList.take k=s.data.toList:=List.take_of_length_le (by rw [← Lib.size_eq];exact hk);exact allTo_mem H c (by rw [e];exact hc)
end
theorem lxRunName(s:ByteArray) (w:World) (hs:s.size≤9223372036854775807):
 Calls Tryz.prog 107 #[.string s,.func (.func 108) #[] #[]] w fun e w'=>e=.returned (.int .i64 ((nameL s.data.toList).length:Nat))∧w=w':=by
 go_enter Tryz.func107,Tryz.ntmps107
 go_wp2_with fail
 go_loop [5] (fun i=>∃ k:Nat,k≤s.size∧i=.int .i64 k∧AllTo (fun c=>nameC (c.toNat:Int)) s k) (fun i=>s.size-(intOf i).toNat)
 case atStart=>exact⟨0,by omega,rfl,allTo_zero⟩
 case round=>
  obtain⟨k,hk,rfl,hrel⟩:=hrel;have HR:=Hd hrel;clear hrel
  by_cases hlt:k<s.size
  · by_cases hx:nameC ((s[k]'hlt).toNat:Int)=true
    · have HX:=Hd hx
      go_wp2_with (go_at_call 108;refine(lxInName _ _).mono ?_;rintro e w' ⟨rfl,rfl⟩)
      go_round
      case rel=>exact⟨k+1,by omega,by go_num,allTo_snoc HR.out hlt HX.out⟩
      case measure=>simp [intOf];omega
    · have hx:nameC ((s[k]'hlt).toNat:Int)=false:=by simpa using hx
      have HE:=Hd (show(k:Int)=((nameL s.data.toList).length:Nat) by rw [nameL,allTo_stop HR.out hlt hx,List.length_take,← Lib.size_eq];omega)
      go_wp2_with (go_at_call 108;refine(lxInName _ _).mono ?_;rintro e w' ⟨rfl,rfl⟩)
      go_ret
      exact⟨ret_int HE.out,rfl⟩
  · have HE:=Hd (show(k:Int)=((nameL s.data.toList).length:Nat) by rw [nameL,allTo_end HR.out (by omega),← Lib.size_eq];omega)
    go_wp2_with fail
    go_ret
    exact⟨ret_int HE.out,rfl⟩
theorem lxRunDig(s:ByteArray) (w:World) (hs:s.size≤9223372036854775807):
 Calls Tryz.prog 107 #[.string s,.func (.func 81) #[] #[]] w fun e w'=>e=.returned (.int .i64 ((digL s.data.toList).length:Nat))∧w=w':=by
 go_enter Tryz.func107,Tryz.ntmps107
 go_wp2_with fail
 go_loop [5] (fun i=>∃ k:Nat,k≤s.size∧i=.int .i64 k∧AllTo (fun c=>digitB (c.toNat:Int)) s k) (fun i=>s.size-(intOf i).toNat)
 case atStart=>exact⟨0,by omega,rfl,allTo_zero⟩
 case round=>
  obtain⟨k,hk,rfl,hrel⟩:=hrel;have HR:=Hd hrel;clear hrel
  by_cases hlt:k<s.size
  · by_cases hx:digitB ((s[k]'hlt).toNat:Int)=true
    · have HX:=Hd hx
      go_wp2_with (go_at_call 81;refine(lxDigit _ _).mono ?_;rintro e w' ⟨rfl,rfl⟩)
      go_round
      case rel=>exact⟨k+1,by omega,by go_num,allTo_snoc HR.out hlt HX.out⟩
      case measure=>simp [intOf];omega
    · have hx:digitB ((s[k]'hlt).toNat:Int)=false:=by simpa using hx
      have HE:=Hd (show(k:Int)=((digL s.data.toList).length:Nat) by rw [digL,allTo_stop HR.out hlt hx,List.length_take,← Lib.size_eq];omega)
      go_wp2_with (go_at_call 81;refine(lxDigit _ _).mono ?_;rintro e w' ⟨rfl,rfl⟩)
      go_ret
      exact⟨ret_int HE.out,rfl⟩
  · have HE:=Hd (show(k:Int)=((digL s.data.toList).length:Nat) by rw [digL,allTo_end HR.out (by omega),← Lib.size_eq];omega)
    go_wp2_with fail
    go_ret
    exact⟨ret_int HE.out,rfl⟩
end
section
open Go.RowKit Go.Sort
def tkA(t:Tk):Array Value:=#[.int .i64 t.k,.string (ofL t.s),.int .i64 t.n,.int .i64 (t.a:Int)]
def tkV(t:Tk):Value:=.agg (tkA t)
def tk0:Tk:=⟨0,[],0,0⟩
def Row4(T:TypeId) (W:World) (g:Nat) (t:Tk):Prop:=W.heap[g]?=some (.cells (tkA t) T)
section
variable {T:TypeId}{W W':World}{g i:Nat}{t:Tk}
theorem Row4.lt(h:Row4 T W g t):g<W.heap.size:=(Array.getElem?_eq_some_iff.1 h).1
theorem Row4.below(h:Row4 T W g t) (hb:Below W.heap.size W W'):Row4 T W' g t:=by
 unfold Row4;rw [hb.block g h.lt];exact h
theorem Row4.up(h:Row4 T W g t){B:Nat}(hb:Below B W W') (hg:g<B):Row4 T W' g t:=by
 unfold Row4;rw [hb.block g hg];exact h
theorem Row4.alloc(h:Row4 T W g t) (o:Obj):Row4 T (W.alloc o) g t:=h.below ((Below.refl _ _).alloc (Nat.le_refl _) o)
theorem Row4.drew(h:Row4 T W g t):Row4 T W.drew g t:=h
theorem Row4.set(h:Row4 T W g t) (u:Tk):Row4 T (W.setRow g (tkA u)) g u:=setRow_heap _ _ _ _ _ _ h
theorem Row4.other(h:Row4 T W g t) (hne:g≠i) (cs:Array Value):Row4 T (W.setRow i cs) g t:=(setRow_other _ _ _ _ hne).trans h
theorem Row4.cell(h:Row4 T W g t) (j:Nat):W.cell? ⟨g,j,none⟩=(tkA t)[j]?:=by
 have:=cell_setRow_same W g j _ (tkA t) _ _ h;rwa [setRow_self W g _ _ _ h] at this
theorem Row4.c0(h:Row4 T W g t):W.cell? ⟨g,0,none⟩=some (.int .i64 t.k):=h.cell 0
theorem Row4.c1(h:Row4 T W g t):W.cell? ⟨g,1,none⟩=some (.string (ofL t.s)):=h.cell 1
theorem Row4.c2(h:Row4 T W g t):W.cell? ⟨g,2,none⟩=some (.int .i64 t.n):=h.cell 2
theorem Row4.c3(h:Row4 T W g t):W.cell? ⟨g,3,none⟩=some (.int .i64 (t.a:Int)):=h.cell 3
theorem Row4.new(T:TypeId) (W:World) (t:Tk):Row4 T (W.alloc (.cells (tkA t) T)) W.heap.size t:=heap_alloc_new _ _
end
theorem tk_info:(Tryz.prog.info? 41).map (·.size)=some 4:=by kernel_rfl
theorem tr_info:(Tryz.prog.info? 40).map (·.size)=some 4:=by kernel_rfl
theorem results_cell_tmp2{fn:Func}{p u v:Tmp}{ty:TypeId}(h:fn.results=#[.cell p ty,.tmp u,.tmp v]) (tmps:Array Value) (P:Program) (w:World):
 (results fn tmps).run P w =
  ((asAddr (tmps.getD p undef)).run P w).andThen fun a w₁=>((loadVar ty a).run P w₁).andThen fun x w₂=>.ok (.tuple #[x,tmps.getD u undef,tmps.getD v undef]) w₂:=by
 simp only [results,h]
 simp [Sem.run_bind,Result.andThen]
theorem res_tk2{fn:Func}{p u:Tmp}(h:fn.results=#[.cell p 41,.tmp u]) (tmps:Array Value) (w:World) (g:Nat) (t:Tk)
 (hp:tmps.getD p undef=.pointer (some ⟨g,0,none⟩)) (hg:Row4 41 w g t):(results fn tmps).run Tryz.prog w=.ok (.tuple #[tkV t,tmps.getD u undef]) w:=by
 rw [results_cell_tmp h,hp];have hl:=run_loadVar_row (P:=Tryz.prog) w g 41 41 _ _ _ hg Tryz.underlying41 rfl tk_info
 simp [asAddr,Result.andThen,hl]
 rfl
theorem res_tr2{fn:Func}{p u:Tmp}(h:fn.results=#[.cell p 40,.tmp u]) (tmps:Array Value) (w:World) (g:Nat) (t:Tk)
 (hp:tmps.getD p undef=.pointer (some ⟨g,0,none⟩)) (hg:Row4 40 w g t):(results fn tmps).run Tryz.prog w=.ok (.tuple #[tkV t,tmps.getD u undef]) w:=by
 rw [results_cell_tmp h,hp];have hl:=run_loadVar_row (P:=Tryz.prog) w g 40 40 _ _ _ hg Tryz.underlying40 rfl tr_info
 simp [asAddr,Result.andThen,hl]
 rfl
theorem res_tr3{fn:Func}{p u v:Tmp}(h:fn.results=#[.cell p 40,.tmp u,.tmp v]) (tmps:Array Value) (w:World) (g:Nat) (t:Tk)
 (hp:tmps.getD p undef=.pointer (some ⟨g,0,none⟩)) (hg:Row4 40 w g t):(results fn tmps).run Tryz.prog w=.ok (.tuple #[tkV t,tmps.getD u undef,tmps.getD v undef]) w:=by
 rw [results_cell_tmp2 h,hp];have hl:=run_loadVar_row (P:=Tryz.prog) w g 40 40 _ _ _ hg Tryz.underlying40 rfl tr_info
 simp [asAddr,Result.andThen,hl]
 rfl
def tkR:Option (Tk × Nat)→Value
 | some (t,z)=>.tuple #[tkV t,.int .i64 (z:Int)]
 | none=>.tuple #[tkV tk0,.int .i64 0]
theorem ext_list(s:ByteArray) (n:Nat):(s.extract 0 n).data.toList=s.data.toList.take n:=by
 rw [Lib.extract_data];simp
end
section
open Go.RowKit Go.ChangeShapes Go.WideShapes Go.Deep
section
variable {H:Type}{enc:TypeId × Value→H}{P:Program}{w:World}{base:Nat}{spare:Nat→Bool}{held:Bool}{fuel:Nat}{t e:TypeId}{cs:List Value}{p:List MemPlace}
theorem texts_of_trod{n:Nat}{ms:List (List UInt8)}(ht:P.underlying t=some (.array n e)) (he:P.underlying e=some .string) (hce:P.cellsOf e=1) (hct:P.cellsOf t=n)
 (h:DataW.trod enc P w base spare held fuel t cs=some (.agg (ms.map fun m=>.lit (.string m)),p)):cs=ms.map fun m=>Value.string (ofL m):=by
 obtain⟨xs,m,_,hx,hl,hn,hel⟩:=DataW.trod_array ht h
 have hxs:xs.map (·.1)=ms.map fun m=>(DataW.lit (.string m):DataW H):=by
  have:=congrArg Prod.fst hx
  simpa using this.symm
 have hml:ms.length=n:=by
  have:=congrArg List.length hxs
  simp at this
  omega
 apply List.ext_getElem?
 intro i
 by_cases hi:i<n
 · have h1:=hel i hi;rw [hce,Nat.mul_one] at h1;have h2:∃ b,xs[i]?=some b:=⟨xs[i]'(by omega),List.getElem?_eq_getElem (by omega)⟩;obtain⟨b,hb⟩:=h2;rw [hb] at h1;obtain⟨s,hc,hx2,_⟩:=DataW.trod_string he h1
   have h3:cs[i]?=some (.string s):=by
    have:=congrArg (·[0]?) hc
    simpa [List.getElem?_take,List.getElem?_drop] using this
   have h4:(xs.map (·.1))[i]?=some (DataW.lit (.string s.data.toList):DataW H):=by simp [hb,hx2]
   rw [hxs] at h4;simp only [List.getElem?_map,Option.map_eq_some_iff,DataW.lit.injEq,Lit.string.injEq] at h4;obtain⟨m',hm',rfl⟩:=h4;rw [h3,List.getElem?_map,hm'];rfl
 · rw [List.getElem?_eq_none (by omega),List.getElem?_eq_none (by simp;omega)]
end
theorem marks_laid:Rows.parseReadsRow.laid.filter (fun x=>x.1==marksN)=[(marksN,.agg (marksL.map fun m=>.lit (.string m)))]:=by kernel_rfl
theorem range_laid:Rows.parseReadsRow.laid.filter (fun x=>x.1==rangeN)=[(rangeN,Rows.laid_strconv_ErrRange)]:=by kernel_rfl
theorem vars_of_laid{W:World}(h:laidMetH Tryz.prog Rows.parseReadsRow.laid W):Vars W:=by
 constructor
 · have h1:=h.filter (fun x=>x.1==rangeN);rw [range_laid] at h1;have h2:laidMet Tryz.prog [(rangeN,Rows.laid_strconv_ErrRange)] W:=(laidMetH_iff.1 h1).1;obtain⟨ps,⟨g',t',cs,fuel,p,q,hg',ht',hvar,hd,_,_⟩,_⟩:=h2;obtain rfl:=Option.some.inj (range_named.symm.trans hg');obtain rfl:=Option.some.inj ((show(Tryz.prog.globals[(3:Nat)]?).map (·.type)=some 109 by kernel_rfl).symm.trans ht');obtain⟨f1,u,v,hcs,_⟩:=iface_of_trod Tryz.underlying109 hd;refine⟨u,v,?_⟩;rw [hvar]
   congr 1
   apply Array.toList_inj.1
   simpa using hcs
 · have h1:=h.filter (fun x=>x.1==marksN);rw [marks_laid] at h1;have h2:laidMet Tryz.prog [(marksN,.agg (marksL.map fun m=>.lit (.string m)))] W:=(laidMetH_iff.1 h1).1;obtain⟨ps,⟨g',t',cs,fuel,p,q,hg',ht',hvar,hd,_,_⟩,_⟩:=h2;obtain rfl:=Option.some.inj (marks_named.symm.trans hg');obtain rfl:=Option.some.inj ((show(Tryz.prog.globals[(0:Nat)]?).map (·.type)=some 112 by kernel_rfl).symm.trans ht');have hcs:=texts_of_trod Tryz.underlying112 Tryz.underlying9 (by kernel_rfl) (by kernel_rfl) hd;rw [hvar]
   congr 1
   apply Array.toList_inj.1
   rw [hcs];rfl
end
end Go.Proofs.YtokiaaapgkdpmaaGreatDoor
