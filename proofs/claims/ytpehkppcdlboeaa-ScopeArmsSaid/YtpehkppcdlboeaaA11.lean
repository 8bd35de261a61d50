/- Parts of the proof: ScA, ScB, ScC, ScD, ScE, ScF, ScG, ScP, ScN. Conditions: each theorem's own. -/
import Derived.Test.YtpehkppcdlboeaaA09
namespace Go.Proofs.Ytpehkppcdlboeaa
set_option linter.unusedVariables false
set_option linter.unusedSimpArgs false
set_option maxRecDepth 100000
set_option maxHeartbeats 40000000
section
open Go.RowKit Go.Sort
def f3A(a b c:Int):Array Value:=#[.int .i64 a,.int .i64 b,.int .i64 c]
def F3(T:TypeId) (W:World) (g:Nat) (a b c:Int):Prop:=W.heap[g]?=some (Obj.cells (f3A a b c) T)
section
variable {T:TypeId}{W W':World}{g:Nat}{a b c:Int}
theorem F3.lt(h:F3 T W g a b c):g<W.heap.size:=(Array.getElem?_eq_some_iff.1 h).1
theorem F3.below(h:F3 T W g a b c) (hb:Below W.heap.size W W'):F3 T W' g a b c:=(hb.block g h.lt).trans h
theorem F3.set(h:F3 T W g a b c) (x y z:Int):F3 T (W.setRow g (f3A x y z)) g x y z:=setRow_heap _ _ _ _ _ _ h
theorem F3.cell(h:F3 T W g a b c) (j:Nat):W.cell? ⟨g,j,none⟩=(f3A a b c)[j]?:=by
 have:=cell_setRow_same W g j _ (f3A a b c) _ _ h;rwa [setRow_self W g _ _ _ h] at this
theorem F3.new(T:TypeId) (W:World) (a b c:Int):F3 T (W.alloc (.cells (f3A a b c) T)) W.heap.size a b c:=heap_alloc_new _ _
end
theorem fl_info:(Try.prog.info? 36).map (·.size)=some 3:=by kernel_rfl
theorem ty3_info:(Try.prog.info? 26).map (·.size)=some 3:=by kernel_rfl
theorem res_f3{fn:Func}{p:Tmp}(h:fn.results=#[.cell p 36]) (tmps:Array Value) (w:World) (i:Nat) (a b c:Int)
 (hp:tmps.getD p undef=.pointer (some ⟨i,0,none⟩)) (hg:F3 36 w i a b c):(results fn tmps).run Try.prog w=.ok (.agg (f3A a b c)) w:=
 results_cell_row h tmps w i _ _ _ _ hp hg Try.underlying36 rfl fl_info
theorem results_cell_two{fn:Func}{p u v:Tmp}{ty:TypeId}(h:fn.results=#[.cell p ty,.tmp u,.tmp v]) (tmps:Array Value) (P:Program) (w:World):
 (results fn tmps).run P w =
  ((asAddr (tmps.getD p undef)).run P w).andThen fun a w₁=>((loadVar ty a).run P w₁).andThen fun x w₂=>.ok (.tuple #[x,tmps.getD u undef,tmps.getD v undef]) w₂:=by
 simp only [results,h]
 simp [Sem.run_bind,Result.andThen]
theorem res_ty3{fn:Func}{p u v:Tmp}(h:fn.results=#[.cell p 26,.tmp u,.tmp v]) (tmps:Array Value) (w:World) (g:Nat) (a b c:Int)
 (hp:tmps.getD p undef=.pointer (some ⟨g,0,none⟩)) (hg:F3 26 w g a b c):(results fn tmps).run Try.prog w=.ok (.tuple #[.agg (f3A a b c),tmps.getD u undef,tmps.getD v undef]) w:=by
 rw [results_cell_two h,hp];have hl:=run_loadVar_row (P:=Try.prog) w g 26 26 _ _ _ hg Try.underlying26 rfl ty3_info
 simp [asAddr,Result.andThen,hl]
theorem f3_box{w w0:World}{T:TypeId}(h:w.alloc (.cells #[.int .i64 0,.int .i64 0,.int .i64 0] T)=w0):Below w.heap.size w w0∧F3 T w0 w.heap.size 0 0 0∧w0.heap.size=w.heap.size+1:=by
 subst h;exact⟨(Below.refl _ _).alloc (Nat.le_refl _) _,heap_alloc_new _ _,by simp⟩
def armW(o:Option (Int × Int × Int)):Value:=.tuple #[.agg (f3A ((o.map (·.1)).getD 0) ((o.map (·.2.1)).getD 0) 0),.int .i64 ((o.map (·.2.2)).getD 0),.bool o.isSome]
theorem below_set3{w w1:World}{v:Array Value}(h:Below w.heap.size w w1):Below w.heap.size w (w1.setRow w.heap.size v):=below_setRow h (Nat.le_refl _) _
theorem refFault(a b c:Int) (w:World):Calls Try.prog 15 #[.int .i64 a,.int .i64 b,.int .i64 c] w fun e w'=>e=.returned (.agg (f3A a b c))∧Below w.heap.size w w':=by
 go_enter Try.func15,Try.ntmps15
 go_upto_region 1 with(fail)
 generalize hw0:w.alloc _=w0;obtain⟨hb0,hR,hg0⟩:=f3_box hw0;have HB0:=Hd hb0;have HR:=Hd hR;clear hb0 hR hw0
 go_wp2_with (refine wpList_store_row rfl _ _ _ rfl (w.heap.size) _ rfl rfl _ _ HR.out fl_info rfl (by simp [Value.oneCell']) ?_)
 exact bodyPost_ret (res_f3 (p:=6) rfl _ _ w.heap.size a b c rfl (HR.out.set a b c)) rfl ⟨rfl,below_set3 HB0.out⟩
theorem refArm15(A:Option Addr) (n c:Nat) (es:List En) (s:ByteArray) (w:World) (hE:RdE w A n es):
 Calls Try.prog 8 #[.slice A n c,.string s] w fun e w'=>e=.returned (armW (armR es s))∧Below w.heap.size w w':=by
 have HC:=Hd fun w1 (hb:Below w.heap.size w w1)=>refCtor A n c es s w1 (hE.below hb);have HA:=Hd (show armR es s=if(s.toList==[116,114,117,101])=true then some (2,0,1) else if(s.toList==[102,97,108,115,101])=true then some (2,0,0) else(findE es s).map fun p=>(3,(p.1:Int),(p.2.1:Int)) from rfl);generalize armR es s=ar at *;clear hE
 cases h1:(s.toList==[116,114,117,101]) with
 | true=>
  have HE:=Hd (show ar=some (2,0,1) by rw [HA.out,if_pos h1]);rw [HE.out]
  go_enter Try.func8,Try.ntmps8
  go_upto_region 1 with(fail)
  generalize hw0:w.alloc _=w0;obtain⟨hb0,hR,hg0⟩:=f3_box hw0;have HB0:=Hd hb0;have HR:=Hd hR;clear hb0 hR hw0
  go_wp2_with (refine wpList_store_row rfl _ _ _ rfl (w.heap.size) _ rfl rfl _ _ HR.out ty3_info rfl (by simp [Value.oneCell']) ?_)
  exact bodyPost_ret (res_ty3 (p:=4) (u:=5) (v:=6) rfl _ _ w.heap.size 2 0 0 rfl (HR.out.set 2 0 0)) rfl ⟨rfl,below_set3 HB0.out⟩
 | false=>
  cases h2:(s.toList==[102,97,108,115,101]) with
  | true=>
   have HE:=Hd (show ar=some (2,0,0) by rw [HA.out,if_neg (by rw [h1];simp),if_pos h2]);rw [HE.out]
   go_enter Try.func8,Try.ntmps8
   go_upto_region 1 with(fail)
   generalize hw0:w.alloc _=w0;obtain⟨hb0,hR,hg0⟩:=f3_box hw0;have HB0:=Hd hb0;have HR:=Hd hR;clear hb0 hR hw0
   go_wp2_with (refine wpList_store_row rfl _ _ _ rfl (w.heap.size) _ rfl rfl _ _ HR.out ty3_info rfl (by simp [Value.oneCell']) ?_)
   exact bodyPost_ret (res_ty3 (p:=4) (u:=5) (v:=6) rfl _ _ w.heap.size 2 0 0 rfl (HR.out.set 2 0 0)) rfl ⟨rfl,below_set3 HB0.out⟩
  | false=>
   have HE:=Hd (show ar=(findE es s).map fun p=>(3,(p.1:Int),(p.2.1:Int)) by rw [HA.out,if_neg (by rw [h1];simp),if_neg (by rw [h2];simp)]);unfold ctorV at HC;rw [HE.out];clear HA HE
   cases hf:findE es s with
   | none=>
    rw [hf] at HC;simp only [Option.map_none,Option.getD_none,Option.isSome_none] at HC
    go_enter Try.func8,Try.ntmps8
    go_upto_region 1 with(fail)
    generalize hw0:w.alloc _=w0;obtain⟨hb0,hR,hg0⟩:=f3_box hw0;have HB0:=Hd hb0;have HR:=Hd hR;clear hb0 hR hw0
    go_wp2_with fail
    refine(HC.out _ HB0.out).mono ?_;rintro e w1 ⟨rfl,hb1⟩;have HR1:=Hd (HR.out.below hb1);have HB1:=Hd (HB0.out.trans (hb1.mono HB0.out.size));clear hb1
    go_wp2_with (refine wpList_store_row rfl _ _ _ rfl (w.heap.size) _ rfl rfl _ _ HR1.out ty3_info rfl (by simp [Value.oneCell']) ?_)
    exact bodyPost_ret (res_ty3 (p:=4) (u:=5) (v:=6) rfl _ _ w.heap.size 0 0 0 rfl (HR1.out.set 0 0 0)) rfl ⟨rfl,below_set3 HB1.out⟩
   | some q=>
    rw [hf] at HC;simp only [Option.map_some,Option.getD_some,Option.isSome_some] at HC;rw [show(some q).map (fun p:Pl=>((3:Int),(p.1:Int),(p.2.1:Int)))=some (3,(q.1:Int),(q.2.1:Int)) from rfl];generalize q.1=qa at *;generalize q.2.1=qb at *
    go_enter Try.func8,Try.ntmps8
    go_upto_region 1 with(fail)
    generalize hw0:w.alloc _=w0;obtain⟨hb0,hR,hg0⟩:=f3_box hw0;have HB0:=Hd hb0;have HR:=Hd hR;clear hb0 hR hw0
    go_wp2_with fail
    refine(HC.out _ HB0.out).mono ?_;rintro e w1 ⟨rfl,hb1⟩;have HR1:=Hd (HR.out.below hb1);have HB1:=Hd (HB0.out.trans (hb1.mono HB0.out.size));clear hb1
    go_wp2_with (refine wpList_store_row rfl _ _ _ rfl (w.heap.size) _ rfl rfl _ _ HR1.out ty3_info rfl (by simp [Value.oneCell']) ?_)
    exact bodyPost_ret (res_ty3 (p:=4) (u:=5) (v:=6) rfl _ _ w.heap.size 3 qa 0 rfl (HR1.out.set 3 qa 0)) rfl ⟨rfl,below_set3 HB1.out⟩
end
section
open Go.RowKit Go.Sort
theorem ret_boolS{a b:Bool}(h:a=b):Ending.returned (.bool a)=.returned (.bool b):=by rw [h]
theorem below_box{w w1 w2:World}{o:Obj}(h:Below w.heap.size w w1) (e:w1.alloc o=w2):Below w.heap.size w w2:=by
 subst e;exact h.alloc h.size _
end
section
open Go.RowKit Go.Sort
def FewQ(n:Nd):Prop:=n.eqs.length≤1000∧∀ q∈n.eqs,q.ns.length≤1000
theorem FewQ.at_{n:Nd}(h:FewQ n){i:Nat}(hi:i<n.eqs.length):(n.eqs[i]?.getD default).ns.length≤1000:=by
 rw [List.getElem?_eq_getElem hi,Option.getD_some];exact h.2 _ (List.getElem_mem _)
end
section
open Go.RowKit Go.Sort Go.BigFrame
end
section
open Go.RowKit Go.Sort Go.BigFrame
theorem eqS_hit{p:Pg}{i j k:Nat}(hk:k<((ndAt p i).eqs[j]?.getD default).ns.length) (hn:∀ a,a<k→nameS (ndAt p i) j ((ndAt p i).eqs[j]?.getD default).ns a=0) (h:nameS (ndAt p i) j ((ndAt p i).eqs[j]?.getD default).ns k≠0):
 eqS p i j=nameS (ndAt p i) j ((ndAt p i).eqs[j]?.getD default).ns k:=by
 unfold eqS;rw [firstF_hit hk hn h,if_neg h]
theorem eqS_parts{p:Pg}{i j:Nat}(hn:∀ a,a<((ndAt p i).eqs[j]?.getD default).ns.length→nameS (ndAt p i) j ((ndAt p i).eqs[j]?.getD default).ns a=0):
 eqS p i j=if(partsX ((ndAt p i).eqs[j]?.getD default).x).all (partS p i)=true then 0 else 5:=by
 unfold eqS;rw [firstF_no hn,if_pos rfl]
end
section
open Go.RowKit Go.Sort Go.BigFrame
def flV(f:Fl):Value:=.agg (f3A f.1 f.2.1 f.2.2)
end
section
open Go.RowKit Go.Sort
theorem tiny_few{n:Nd}(h:TinyN n):n.all.length≤1000∧FewQ n∧∀ j,j<n.eqs.length→sizeX (n.eqs[j]?.getD default).x≤1000000:=by
 have h1:=(fewD_ok h.1).2;have h2:=(fewD_ok h.2.1).2;have h3:=(fewD_ok h.2.2.1).2;have h4:=h.2.2.2.1;refine⟨by rw [all_len];omega,⟨by omega,fun q hq=>?_⟩,fun j hj=>tiny_sizeX (h.2.2.2.2.2 j hj).2.1⟩;obtain⟨j,hj,rfl⟩:=List.getElem_of_mem hq;have:=(h.2.2.2.2.2 j hj).1;rw [List.getElem?_eq_getElem hj,Option.getD_some] at this;omega
theorem checkS_hit{p:Pg}{k:Nat}(h0:checkN p=0) (hk:k<p.ns.length) (hn:∀ a,a<k→nodeS p a=(0,0,0)) (h:nodeS p k≠(0,0,0)):checkS p=nodeS p k:=by
 unfold checkS;rw [if_pos h0];exact firstF_hit hk hn h
theorem checkS_no{p:Pg}(h0:checkN p=0) (hn:∀ a,a<p.ns.length→nodeS p a=(0,0,0)):checkS p=(0,0,0):=by
 unfold checkS;rw [if_pos h0];exact firstF_no hn
end
section
theorem nmB_eq{s t:ByteArray}:nmB s t=true↔t.data.toList=s.data.toList:=by simp [nmB]
theorem cntS_zero{s:ByteArray}{l:List ByteArray}(h:l.any (nmB s)=false):cntS s l=0:=by
 unfold cntS;rw [List.length_eq_zero_iff,List.filter_eq_nil_iff];intro x hx;have:=List.any_eq_false.1 h x hx
 simpa using this
end
section
def leadsB(vs nds:List ByteArray) (es:List En) (e:Ex):Bool:=
 if e.k==3 then vs.any (nmB e.s)
 else if e.k==11 || e.k==12 then vs.any (nmB e.s) && !(e.arms.any fun a=>!armV es a)
 else if e.k==4 then armV es e.s
 else if e.k==13 then nds.any (nmB e.s)
 else !(e.k==17)
def defineB(vs ds:List ByteArray) (s:ByteArray):Int:=if vs.any (nmB s)=false then 5 else if ds.any (nmB s)=true then 6 else 0
def dsTo(n:Nd) (j:Nat):List ByteArray:=namesD n.ins++(n.eqs.take j).flatMap Qn.ns
def offB(vs:List ByteArray) (es:List En) (d:Dc):Bool:=!(d.on.toList==[]) && (!vs.any (nmB d.on) || !armV es d.ct)
theorem isV_any(n:Nd) (s:ByteArray):isV n s=(namesD n.all).any (nmB s):=by
 unfold isV declO namesD;rw [List.any_map,Bool.eq_iff_iff,List.find?_isSome,List.any_eq_true];rfl
theorem input_any(n:Nd) (s:ByteArray):inputS n s=(namesD n.ins).any (nmB s):=by
 unfold inputS namesD;rw [List.any_map];rfl
theorem cnt_any(s:ByteArray) (l:List ByteArray):decide (0<cntS s l)=l.any (nmB s):=by
 cases h:l.any (nmB s) with
 | false=>rw [cntS_zero h];rfl
 | true=>
  obtain⟨x,hx,hn⟩:=List.any_eq_true.1 h;refine decide_eq_true ?_;unfold cntS;exact List.length_pos_of_mem (List.mem_filter.2 ⟨hx,hn⟩)
theorem findI_ge{α:Type}(f:α→Bool):∀ (l:List α) (o:Nat),findI f l o=-1∨(o:Int)≤findI f l o
 | [],o=>.inl rfl
 | a::l,o=>by
  rw [findI]
  cases f a with
  | true=>exact .inr (by simp)
  | false=>
   rcases findI_ge f l (o+1) with h | h
   · exact .inl (by simpa using h)
   · exact .inr (by simp only [Bool.false_eq_true,if_false];omega)
theorem findI_take{α:Type}(f:α→Bool):∀ (l:List α) (i o:Nat),(decide (0≤findI f l o) && decide (findI f l o<((o+i:Nat):Int)))=(l.take i).any f
 | [],i,o=>by simp [findI]
 | a::l,0,o=>by
  rcases findI_ge f (a::l) o with h | h
  · rw [h];simp
  · rw [show decide (findI f (a::l) o<((o+0:Nat):Int))=false from decide_eq_false (by omega)]
    simp
 | a::l,i+1,o=>by
  rw [findI,List.take_succ_cons,List.any_cons]
  cases h:f a with
  | true=>
   simp only [if_true,Bool.true_or,Bool.and_eq_true,decide_eq_true_eq];omega
  | false=>
   simp only [Bool.false_eq_true,if_false,Bool.false_or];rw [← findI_take f l i (o+1),show o+1+i=o+(i+1) by omega]
theorem findN_any(p:Pg) (i:Nat) (s:ByteArray):(decide (0≤findN p s) && decide (findN p s<(i:Int)))=((p.ns.take i).map Nd.nm).any (nmB s):=by
 unfold findN;have:=findI_take (fun n:Nd=>n.nm.data.toList==s.data.toList) p.ns i 0;rw [Nat.zero_add] at this;rw [this,List.any_map];rfl
theorem part_arms{e:Ex}(h:partX e=true) (h1:(e.k==11)=false) (h2:(e.k==12)=false):e.arms=[]:=by
 unfold partX at h;simp only [Bool.and_eq_true] at h;have ha:armsX e=true:=h.1.1.1.2;unfold armsX at ha;simp only [h1,h2,Bool.and_eq_true,Bool.false_eq_true,if_false] at ha;exact List.length_eq_zero_iff.1 (by simpa using ha.2)
theorem leads_eq{p:Pg}{i:Nat}{e:Ex}(h:partX e=true):leadsB (namesD (ndAt p i).all) ((p.ns.take i).map Nd.nm) p.es e=partS p i e:=by
 have hA:=part_arms h;unfold leadsB partS;rw [← isV_any,findN_any];rw [show(!(e.arms.any fun a=>!armV p.es a))=e.arms.all (armV p.es) by rw [← List.not_all_eq_any_not,Bool.not_not]]
 by_cases h3:e.k=3
 · rw [hA (by rw [h3];rfl) (by rw [h3];rfl),h3]
   cases isV (ndAt p i) e.s <;> rfl
 · by_cases h11:e.k=11
   · rw [h11]
     cases isV (ndAt p i) e.s <;> cases e.arms.all (armV p.es) <;> rfl
   · by_cases h12:e.k=12
     · rw [h12]
       cases isV (ndAt p i) e.s <;> cases e.arms.all (armV p.es) <;> rfl
     · have b3:(e.k==3)=false:=beq_eq_false_iff_ne.2 h3;have b11:(e.k==11)=false:=beq_eq_false_iff_ne.2 h11;have b12:(e.k==12)=false:=beq_eq_false_iff_ne.2 h12;rw [hA b11 b12];simp only [b3,b11,b12,Bool.false_or,Bool.false_and,Bool.false_eq_true,if_false,List.all_nil,Bool.true_eq_false]
theorem nameS_eq(n:Nd) (j:Nat) (ns:List ByteArray) (k:Nat):nameS n j ns k=defineB (namesD n.all) (dsTo n j++ns.take k) (ns[k]?.getD ByteArray.empty):=by
 unfold nameS defineB dsTo defN;rw [isV_any,input_any,cnt_any];generalize ns[k]?.getD ByteArray.empty=s;rw [List.any_append,List.any_append]
 cases (namesD n.all).any (nmB s) <;> cases (namesD n.ins).any (nmB s) <;> cases ((n.eqs.take j).flatMap Qn.ns).any (nmB s) <;> cases (ns.take k).any (nmB s) <;> rfl
theorem off_eq(p:Pg) (n:Nd) (d:Dc):offB (namesD n.all) p.es d=!onS p n d:=by
 unfold offB onS;rw [isV_any]
 cases (d.on.toList==[]) <;> cases (namesD n.all).any (nmB d.on) <;> cases armV p.es d.ct <;> rfl
theorem dsTo_succ{n:Nd}{j:Nat}(h:j<n.eqs.length):dsTo n (j+1)=dsTo n j++(n.eqs[j]?.getD default).ns:=by
 unfold dsTo;rw [List.take_add_one,List.getElem?_eq_getElem h,List.flatMap_append,List.append_assoc]
 simp
theorem dsTo_zero(n:Nd):dsTo n 0=namesD n.ins:=by simp [dsTo]
def NodeR(p:Pg) (i:Nat) (a e:Int):Prop:=nodeS p i=if e=0 then((0,0,0):Fl) else((i:Int),a,e)
theorem nodeR_off{p:Pg}{i:Nat}(h:(ndAt p i).vars.any (offB (namesD (ndAt p i).all) p.es)=true):NodeR p i (-1) 5:=by
 unfold NodeR nodeS;rw [if_pos,if_neg (by decide)];obtain⟨d,hd,ho⟩:=List.any_eq_true.1 h;rw [off_eq,Bool.not_eq_true'] at ho;rw [List.all_eq_false];exact⟨d,by unfold Nd.all;exact List.mem_append_right _ hd,by rw [ho];decide⟩
theorem ports_on{p:Pg}{n:Nd}(hp:portsB n=true) (h:n.vars.any (offB (namesD n.all) p.es)=false):n.all.all (onS p n)=true:=by
 rw [List.all_eq_true];intro d hd;unfold Nd.all at hd;rcases List.mem_append.1 hd with hd | hd
 · have:=List.all_eq_true.1 hp d hd;unfold noB at this;unfold onS;rw [Lib.toList_data,this];rfl
 · have:=List.any_eq_false.1 h d hd;rw [off_eq] at this
   simpa using this
theorem nodeR_eq{p:Pg}{i k:Nat}(hp:portsB (ndAt p i)=true) (h:(ndAt p i).vars.any (offB (namesD (ndAt p i).all) p.es)=false) (hk:k<(ndAt p i).eqs.length) (hn:∀ j,j<k→eqS p i j=0) (he:eqS p i k≠0):NodeR p i k (eqS p i k):=by
 unfold NodeR nodeS;rw [if_neg (by rw [ports_on hp h];decide),if_neg he];have h1:firstF ((0,0,0):Fl) (eqF p i) (ndAt p i).eqs.length=eqF p i k:=firstF_hit hk (fun j hj=>by unfold eqF;rw [if_pos (hn j hj)]) (by unfold eqF;rw [if_neg he];intro e;injection e with _ e;injection e with _ e;exact he e);have h2:eqF p i k=((i:Int),(k:Int),eqS p i k):=by unfold eqF;rw [if_neg he]
 rw [h1,h2,if_neg (by intro e;injection e with _ e;injection e with _ e;exact he e)]
theorem once_apart{n:Nd}(h:onceS (namesD n.all)=true){d:Dc}(hd:d∈n.outs++n.vars):(namesD n.ins).any (nmB d.nm)=false:=by
 unfold onceS onceB at h;have h:=of_decide_eq_true h;rw [List.any_eq_false];intro s hs hn;have e:n.all=n.ins++(n.outs++n.vars):=by unfold Nd.all;rw [List.append_assoc]
 rw [e] at h;unfold namesD at h hs;rw [List.map_append,List.map_append,List.nodup_append] at h;exact h.2.2 _ (List.mem_map.2 ⟨s,hs,rfl⟩) _ (List.mem_map.2 ⟨d.nm,List.mem_map.2 ⟨d,hd,rfl⟩,rfl⟩) (nmB_eq.1 hn)
theorem undef_eq{n:Nd}(h:onceS (namesD n.all)=true):(n.outs.any (fun d=>!(dsTo n n.eqs.length).any (nmB d.nm)) || n.vars.any (fun d=>!(dsTo n n.eqs.length).any (nmB d.nm)))=!((n.all.drop n.ins.length).all fun d=>decide (0<defN n d.nm n.eqs.length)):=by
 have e:n.all.drop n.ins.length=n.outs++n.vars:=by unfold Nd.all;rw [List.append_assoc,List.drop_left]
 rw [e,← List.any_append,List.not_all_eq_any_not];rw [Bool.eq_iff_iff,List.any_eq_true,List.any_eq_true]
 have key:∀ d∈n.outs++n.vars,(dsTo n n.eqs.length).any (nmB d.nm)=decide (0<defN n d.nm n.eqs.length):=fun d hd=>by
  unfold dsTo defN;rw [List.any_append,once_apart h hd,cnt_any,Bool.false_or]
 exact⟨fun⟨d,hd,hn⟩=>⟨d,hd,by rw [← key d hd];exact hn⟩,fun⟨d,hd,hn⟩=>⟨d,hd,by rw [key d hd];exact hn⟩⟩
theorem nodeR_end{p:Pg}{i:Nat}(hp:portsB (ndAt p i)=true) (ho:onceS (namesD (ndAt p i).all)=true) (h:(ndAt p i).vars.any (offB (namesD (ndAt p i).all) p.es)=false) (hn:∀ j,j<(ndAt p i).eqs.length→eqS p i j=0)
 {b:Bool}(hb:((ndAt p i).outs.any (fun d=>!(dsTo (ndAt p i) (ndAt p i).eqs.length).any (nmB d.nm)) || (ndAt p i).vars.any (fun d=>!(dsTo (ndAt p i) (ndAt p i).eqs.length).any (nmB d.nm)))=b):NodeR p i (-1) (if b=true then 5 else 0):=by
 rw [undef_eq ho] at hb;unfold NodeR nodeS;rw [if_neg (by rw [ports_on hp h];decide),if_pos (firstF_no fun j hj=>by unfold eqF;rw [if_pos (hn j hj)])]
 cases b with
 | true=>
  rw [Bool.not_eq_true'] at hb;rw [if_neg (by rw [hb];decide)];rfl
 | false=>
  rw [Bool.not_eq_false'] at hb;rw [if_pos hb];rfl
end
end Go.Proofs.Ytpehkppcdlboeaa
