/- Parts of the proof: ScA, ScB, ScC, ScD, ScE, ScF, ScG, ScP, ScN, ClA, ClB, ClO, TyZ, PgZ. Conditions: each theorem's own. -/
import Derived.Test.YtkbpdoomhfkngaaGreatR08
namespace Go.Proofs.YtkbpdoomhfkngaaGreat
set_option linter.unusedVariables false
set_option linter.unusedSimpArgs false
set_option maxRecDepth 100000
set_option maxHeartbeats 40000000
section
open Go.RowKit Go.Sort
def f3A(a b c:Int):Array Value:=#[.int .i64 a,.int .i64 b,.int .i64 c]
def F3(T:TypeId) (W:World) (g:Nat) (a b c:Int):Prop:=W.heap[g]?=some (Obj.cells (f3A a b c) T)
section
variable {T:TypeId}{W W':World}{g:Nat}{a b c:Int}
theorem F3.lt(h:F3 T W g a b c):g<W.heap.size:=(Array.getElem?_eq_some_iff.1 h).1
theorem F3.below(h:F3 T W g a b c) (hb:Below W.heap.size W W'):F3 T W' g a b c:=(hb.block g h.lt).trans h
theorem F3.set(h:F3 T W g a b c) (x y z:Int):F3 T (W.setRow g (f3A x y z)) g x y z:=setRow_heap _ _ _ _ _ _ h
theorem F3.cell(h:F3 T W g a b c) (j:Nat):W.cell? ⟨g,j,none⟩=(f3A a b c)[j]?:=by
 have:=cell_setRow_same W g j _ (f3A a b c) _ _ h;rwa [setRow_self W g _ _ _ h] at this
theorem F3.new(T:TypeId) (W:World) (a b c:Int):F3 T (W.alloc (.cells (f3A a b c) T)) W.heap.size a b c:=heap_alloc_new _ _
end
theorem fl_info:(Tryz.prog.info? 30).map (·.size)=some 3:=by kernel_rfl
theorem ty3_info:(Tryz.prog.info? 41).map (·.size)=some 3:=by kernel_rfl
theorem res_f3{fn:Func}{p:Tmp}(h:fn.results=#[.cell p 30]) (tmps:Array Value) (w:World) (i:Nat) (a b c:Int)
 (hp:tmps.getD p undef=.pointer (some ⟨i,0,none⟩)) (hg:F3 30 w i a b c):(results fn tmps).run Tryz.prog w=.ok (.agg (f3A a b c)) w:=
 results_cell_row h tmps w i _ _ _ _ hp hg Tryz.underlying30 rfl fl_info
theorem results_cell_two{fn:Func}{p u v:Tmp}{ty:TypeId}(h:fn.results=#[.cell p ty,.tmp u,.tmp v]) (tmps:Array Value) (P:Program) (w:World):
 (results fn tmps).run P w =
  ((asAddr (tmps.getD p undef)).run P w).andThen fun a w₁=>((loadVar ty a).run P w₁).andThen fun x w₂=>.ok (.tuple #[x,tmps.getD u undef,tmps.getD v undef]) w₂:=by
 simp only [results,h]
 simp [Sem.run_bind,Result.andThen]
theorem res_ty3{fn:Func}{p u v:Tmp}(h:fn.results=#[.cell p 41,.tmp u,.tmp v]) (tmps:Array Value) (w:World) (g:Nat) (a b c:Int)
 (hp:tmps.getD p undef=.pointer (some ⟨g,0,none⟩)) (hg:F3 41 w g a b c):(results fn tmps).run Tryz.prog w=.ok (.tuple #[.agg (f3A a b c),tmps.getD u undef,tmps.getD v undef]) w:=by
 rw [results_cell_two h,hp];have hl:=run_loadVar_row (P:=Tryz.prog) w g 41 41 _ _ _ hg Tryz.underlying41 rfl ty3_info
 simp [asAddr,Result.andThen,hl]
theorem f3_box{w w0:World}{T:TypeId}(h:w.alloc (.cells #[.int .i64 0,.int .i64 0,.int .i64 0] T)=w0):Below w.heap.size w w0∧F3 T w0 w.heap.size 0 0 0∧w0.heap.size=w.heap.size+1:=by
 subst h;exact⟨(Below.refl _ _).alloc (Nat.le_refl _) _,heap_alloc_new _ _,by simp⟩
def armW(o:Option (Int × Int × Int)):Value:=.tuple #[.agg (f3A ((o.map (·.1)).getD 0) ((o.map (·.2.1)).getD 0) 0),.int .i64 ((o.map (·.2.2)).getD 0),.bool o.isSome]
theorem below_set3{w w1:World}{v:Array Value}(h:Below w.heap.size w w1):Below w.heap.size w (w1.setRow w.heap.size v):=below_setRow h (Nat.le_refl _) _
end
section
open Go.RowKit Go.Sort
theorem ret_boolS{a b:Bool}(h:a=b):Ending.returned (.bool a)=.returned (.bool b):=by rw [h]
theorem below_box{w w1 w2:World}{o:Obj}(h:Below w.heap.size w w1) (e:w1.alloc o=w2):Below w.heap.size w w2:=by
 subst e;exact h.alloc h.size _
end
section
open Go.RowKit Go.Sort
def FewQ(n:Nd):Prop:=n.eqs.length≤1000∧∀ q∈n.eqs,q.ns.length≤1000
theorem FewQ.at_{n:Nd}(h:FewQ n){i:Nat}(hi:i<n.eqs.length):(n.eqs[i]?.getD default).ns.length≤1000:=by
 rw [List.getElem?_eq_getElem hi,Option.getD_some];exact h.2 _ (List.getElem_mem _)
end
section
open Go.RowKit Go.Sort Go.BigFrame
theorem nd_at15{w:World}{A:Option Addr}{n i:Nat}{l:List Nd}(h:RdNs w A n l) (hi:i<n):
 ∃ b off A1 c1 A2 c2 A3 c3 A4 c4,A=some ⟨b,off,none⟩∧b<w.heap.size∧rdN w (l[i]?.getD default) A1 A2 A3 A4 ∧
 w.cell? ⟨b,off+i*5,none⟩=some (.string (l[i]?.getD default).nm)∧w.cell? ⟨b,off+i*5+1,none⟩=some (.slice A1 (l[i]?.getD default).ins.length c1)∧w.cell? ⟨b,off+i*5+2,none⟩=some (.slice A2 (l[i]?.getD default).outs.length c2)∧w.cell? ⟨b,off+i*5+3,none⟩=some (.slice A3 (l[i]?.getD default).vars.length c3)∧w.cell? ⟨b,off+i*5+4,none⟩=some (.slice A4 (l[i]?.getD default).eqs.length c4):=by
 obtain⟨b,off,e,hb,hc⟩:=RdS.at_ h (by omega);obtain⟨A1,c1,A2,c2,A3,c3,A4,c4,h1,h2⟩:=hc i hi;obtain⟨d0,d1,d2,d3,d4⟩:=ndL_five h1;exact⟨b,off,A1,c1,A2,c2,A3,c3,A4,c4,e,hb,h2,d0,d1,d2,d3,d4⟩
end
section
open Go.RowKit Go.Sort Go.BigFrame
theorem eqS_hit{p:Pg}{i j k:Nat}(hk:k<((ndAt p i).eqs[j]?.getD default).ns.length) (hn:∀ a,a<k→nameS (ndAt p i) j ((ndAt p i).eqs[j]?.getD default).ns a=0) (h:nameS (ndAt p i) j ((ndAt p i).eqs[j]?.getD default).ns k≠0):
 eqS p i j=nameS (ndAt p i) j ((ndAt p i).eqs[j]?.getD default).ns k:=by
 unfold eqS;rw [firstF_hit hk hn h,if_neg h]
theorem eqS_parts{p:Pg}{i j:Nat}(hn:∀ a,a<((ndAt p i).eqs[j]?.getD default).ns.length→nameS (ndAt p i) j ((ndAt p i).eqs[j]?.getD default).ns a=0):
 eqS p i j=if(partsX ((ndAt p i).eqs[j]?.getD default).x).all (partS p i)=true then 0 else 5:=by
 unfold eqS;rw [firstF_no hn,if_pos rfl]
end
section
open Go.RowKit Go.Sort Go.BigFrame
def flV(f:Fl):Value:=.agg (f3A f.1 f.2.1 f.2.2)
end
section
open Go.RowKit Go.Sort
theorem tiny_few{n:Nd}(h:TinyN n):n.all.length≤1000∧FewQ n∧∀ j,j<n.eqs.length→sizeX (n.eqs[j]?.getD default).x≤1000000:=by
 have h1:=(fewD_ok h.1).2;have h2:=(fewD_ok h.2.1).2;have h3:=(fewD_ok h.2.2.1).2;have h4:=h.2.2.2.1;refine⟨by rw [all_len];omega,⟨by omega,fun q hq=>?_⟩,fun j hj=>tiny_sizeX (h.2.2.2.2.2 j hj).2.1⟩;obtain⟨j,hj,rfl⟩:=List.getElem_of_mem hq;have:=(h.2.2.2.2.2 j hj).1;rw [List.getElem?_eq_getElem hj,Option.getD_some] at this;omega
theorem checkS_hit{p:Pg}{k:Nat}(h0:checkN p=0) (hk:k<p.ns.length) (hn:∀ a,a<k→nodeS p a=(0,0,0)) (h:nodeS p k≠(0,0,0)):checkS p=nodeS p k:=by
 unfold checkS;rw [if_pos h0];exact firstF_hit hk hn h
theorem checkS_no{p:Pg}(h0:checkN p=0) (hn:∀ a,a<p.ns.length→nodeS p a=(0,0,0)):checkS p=(0,0,0):=by
 unfold checkS;rw [if_pos h0];exact firstF_no hn
end
section
theorem nmB_eq{s t:ByteArray}:nmB s t=true↔t.data.toList=s.data.toList:=by simp [nmB]
theorem cntS_zero{s:ByteArray}{l:List ByteArray}(h:l.any (nmB s)=false):cntS s l=0:=by
 unfold cntS;rw [List.length_eq_zero_iff,List.filter_eq_nil_iff];intro x hx;have:=List.any_eq_false.1 h x hx
 simpa using this
end
section
def leadsB(vs nds:List ByteArray) (es:List En) (e:Ex):Bool:=
 if e.k==3 then vs.any (nmB e.s)
 else if e.k==11 || e.k==12 then vs.any (nmB e.s) && !(e.arms.any fun a=>!armV es a)
 else if e.k==4 then armV es e.s
 else if e.k==13 then nds.any (nmB e.s)
 else !(e.k==17)
def defineB(vs ds:List ByteArray) (s:ByteArray):Int:=if vs.any (nmB s)=false then 5 else if ds.any (nmB s)=true then 6 else 0
def dsTo(n:Nd) (j:Nat):List ByteArray:=namesD n.ins++(n.eqs.take j).flatMap Qn.ns
def offB(vs:List ByteArray) (es:List En) (d:Dc):Bool:=!(d.on.toList==[]) && (!vs.any (nmB d.on) || !armV es d.ct)
theorem isV_any(n:Nd) (s:ByteArray):isV n s=(namesD n.all).any (nmB s):=by
 unfold isV declO namesD;rw [List.any_map,Bool.eq_iff_iff,List.find?_isSome,List.any_eq_true];rfl
theorem input_any(n:Nd) (s:ByteArray):inputS n s=(namesD n.ins).any (nmB s):=by
 unfold inputS namesD;rw [List.any_map];rfl
theorem cnt_any(s:ByteArray) (l:List ByteArray):decide (0<cntS s l)=l.any (nmB s):=by
 cases h:l.any (nmB s) with
 | false=>rw [cntS_zero h];rfl
 | true=>
  obtain⟨x,hx,hn⟩:=List.any_eq_true.1 h;refine decide_eq_true ?_;unfold cntS;exact List.length_pos_of_mem (List.mem_filter.2 ⟨hx,hn⟩)
theorem findI_ge{α:Type}(f:α→Bool):∀ (l:List α) (o:Nat),findI f l o=-1∨(o:Int)≤findI f l o
 | [],o=>.inl rfl
 | a::l,o=>by
  rw [findI]
  cases f a with
  | true=>exact .inr (by simp)
  | false=>
   rcases findI_ge f l (o+1) with h | h
   · exact .inl (by simpa using h)
   · exact .inr (by simp only [Bool.false_eq_true,if_false];omega)
theorem findI_take{α:Type}(f:α→Bool):∀ (l:List α) (i o:Nat),(decide (0≤findI f l o) && decide (findI f l o<((o+i:Nat):Int)))=(l.take i).any f
 | [],i,o=>by simp [findI]
 | a::l,0,o=>by
  rcases findI_ge f (a::l) o with h | h
  · rw [h];simp
  · rw [show decide (findI f (a::l) o<((o+0:Nat):Int))=false from decide_eq_false (by omega)]
    simp
 | a::l,i+1,o=>by
  rw [findI,List.take_succ_cons,List.any_cons]
  cases h:f a with
  | true=>
   simp only [if_true,Bool.true_or,Bool.and_eq_true,decide_eq_true_eq];omega
  | false=>
   simp only [Bool.false_eq_true,if_false,Bool.false_or];rw [← findI_take f l i (o+1),show o+1+i=o+(i+1) by omega]
theorem findN_any(p:Pg) (i:Nat) (s:ByteArray):(decide (0≤findN p s) && decide (findN p s<(i:Int)))=((p.ns.take i).map Nd.nm).any (nmB s):=by
 unfold findN;have:=findI_take (fun n:Nd=>n.nm.data.toList==s.data.toList) p.ns i 0;rw [Nat.zero_add] at this;rw [this,List.any_map];rfl
theorem part_arms{e:Ex}(h:partX e=true) (h1:(e.k==11)=false) (h2:(e.k==12)=false):e.arms=[]:=by
 unfold partX at h;simp only [Bool.and_eq_true] at h;have ha:armsX e=true:=h.1.1.1.2;unfold armsX at ha;simp only [h1,h2,Bool.and_eq_true,Bool.false_eq_true,if_false] at ha;exact List.length_eq_zero_iff.1 (by simpa using ha.2)
theorem leads_eq{p:Pg}{i:Nat}{e:Ex}(h:partX e=true):leadsB (namesD (ndAt p i).all) ((p.ns.take i).map Nd.nm) p.es e=partS p i e:=by
 have hA:=part_arms h;unfold leadsB partS;rw [← isV_any,findN_any];rw [show(!(e.arms.any fun a=>!armV p.es a))=e.arms.all (armV p.es) by rw [← List.not_all_eq_any_not,Bool.not_not]]
 by_cases h3:e.k=3
 · rw [hA (by rw [h3];rfl) (by rw [h3];rfl),h3]
   cases isV (ndAt p i) e.s <;> rfl
 · by_cases h11:e.k=11
   · rw [h11]
     cases isV (ndAt p i) e.s <;> cases e.arms.all (armV p.es) <;> rfl
   · by_cases h12:e.k=12
     · rw [h12]
       cases isV (ndAt p i) e.s <;> cases e.arms.all (armV p.es) <;> rfl
     · have b3:(e.k==3)=false:=beq_eq_false_iff_ne.2 h3;have b11:(e.k==11)=false:=beq_eq_false_iff_ne.2 h11;have b12:(e.k==12)=false:=beq_eq_false_iff_ne.2 h12;rw [hA b11 b12];simp only [b3,b11,b12,Bool.false_or,Bool.false_and,Bool.false_eq_true,if_false,List.all_nil,Bool.true_eq_false]
theorem nameS_eq(n:Nd) (j:Nat) (ns:List ByteArray) (k:Nat):nameS n j ns k=defineB (namesD n.all) (dsTo n j++ns.take k) (ns[k]?.getD ByteArray.empty):=by
 unfold nameS defineB dsTo defN;rw [isV_any,input_any,cnt_any];generalize ns[k]?.getD ByteArray.empty=s;rw [List.any_append,List.any_append]
 cases (namesD n.all).any (nmB s) <;> cases (namesD n.ins).any (nmB s) <;> cases ((n.eqs.take j).flatMap Qn.ns).any (nmB s) <;> cases (ns.take k).any (nmB s) <;> rfl
theorem off_eq(p:Pg) (n:Nd) (d:Dc):offB (namesD n.all) p.es d=!onS p n d:=by
 unfold offB onS;rw [isV_any]
 cases (d.on.toList==[]) <;> cases (namesD n.all).any (nmB d.on) <;> cases armV p.es d.ct <;> rfl
theorem dsTo_succ{n:Nd}{j:Nat}(h:j<n.eqs.length):dsTo n (j+1)=dsTo n j++(n.eqs[j]?.getD default).ns:=by
 unfold dsTo;rw [List.take_add_one,List.getElem?_eq_getElem h,List.flatMap_append,List.append_assoc]
 simp
theorem dsTo_zero(n:Nd):dsTo n 0=namesD n.ins:=by simp [dsTo]
def NodeR(p:Pg) (i:Nat) (a e:Int):Prop:=nodeS p i=if e=0 then((0,0,0):Fl) else((i:Int),a,e)
theorem nodeR_off{p:Pg}{i:Nat}(h:(ndAt p i).vars.any (offB (namesD (ndAt p i).all) p.es)=true):NodeR p i (-1) 5:=by
 unfold NodeR nodeS;rw [if_pos,if_neg (by decide)];obtain⟨d,hd,ho⟩:=List.any_eq_true.1 h;rw [off_eq,Bool.not_eq_true'] at ho;rw [List.all_eq_false];exact⟨d,by unfold Nd.all;exact List.mem_append_right _ hd,by rw [ho];decide⟩
theorem ports_on{p:Pg}{n:Nd}(hp:portsB n=true) (h:n.vars.any (offB (namesD n.all) p.es)=false):n.all.all (onS p n)=true:=by
 rw [List.all_eq_true];intro d hd;unfold Nd.all at hd;rcases List.mem_append.1 hd with hd | hd
 · have:=List.all_eq_true.1 hp d hd;unfold noB at this;unfold onS;rw [Lib.toList_data,this];rfl
 · have:=List.any_eq_false.1 h d hd;rw [off_eq] at this
   simpa using this
theorem nodeR_eq{p:Pg}{i k:Nat}(hp:portsB (ndAt p i)=true) (h:(ndAt p i).vars.any (offB (namesD (ndAt p i).all) p.es)=false) (hk:k<(ndAt p i).eqs.length) (hn:∀ j,j<k→eqS p i j=0) (he:eqS p i k≠0):NodeR p i k (eqS p i k):=by
 unfold NodeR nodeS;rw [if_neg (by rw [ports_on hp h];decide),if_neg he];have h1:firstF ((0,0,0):Fl) (eqF p i) (ndAt p i).eqs.length=eqF p i k:=firstF_hit hk (fun j hj=>by unfold eqF;rw [if_pos (hn j hj)]) (by unfold eqF;rw [if_neg he];intro e;injection e with _ e;injection e with _ e;exact he e);have h2:eqF p i k=((i:Int),(k:Int),eqS p i k):=by unfold eqF;rw [if_neg he]
 rw [h1,h2,if_neg (by intro e;injection e with _ e;injection e with _ e;exact he e)]
theorem once_apart{n:Nd}(h:onceS (namesD n.all)=true){d:Dc}(hd:d∈n.outs++n.vars):(namesD n.ins).any (nmB d.nm)=false:=by
 unfold onceS onceB at h;have h:=of_decide_eq_true h;rw [List.any_eq_false];intro s hs hn;have e:n.all=n.ins++(n.outs++n.vars):=by unfold Nd.all;rw [List.append_assoc]
 rw [e] at h;unfold namesD at h hs;rw [List.map_append,List.map_append,List.nodup_append] at h;exact h.2.2 _ (List.mem_map.2 ⟨s,hs,rfl⟩) _ (List.mem_map.2 ⟨d.nm,List.mem_map.2 ⟨d,hd,rfl⟩,rfl⟩) (nmB_eq.1 hn)
theorem undef_eq{n:Nd}(h:onceS (namesD n.all)=true):(n.outs.any (fun d=>!(dsTo n n.eqs.length).any (nmB d.nm)) || n.vars.any (fun d=>!(dsTo n n.eqs.length).any (nmB d.nm)))=!((n.all.drop n.ins.length).all fun d=>decide (0<defN n d.nm n.eqs.length)):=by
 have e:n.all.drop n.ins.length=n.outs++n.vars:=by unfold Nd.all;rw [List.append_assoc,List.drop_left]
 rw [e,← List.any_append,List.not_all_eq_any_not];rw [Bool.eq_iff_iff,List.any_eq_true,List.any_eq_true]
 have key:∀ d∈n.outs++n.vars,(dsTo n n.eqs.length).any (nmB d.nm)=decide (0<defN n d.nm n.eqs.length):=fun d hd=>by
  unfold dsTo defN;rw [List.any_append,once_apart h hd,cnt_any,Bool.false_or]
 exact⟨fun⟨d,hd,hn⟩=>⟨d,hd,by rw [← key d hd];exact hn⟩,fun⟨d,hd,hn⟩=>⟨d,hd,by rw [key d hd];exact hn⟩⟩
theorem nodeR_end{p:Pg}{i:Nat}(hp:portsB (ndAt p i)=true) (ho:onceS (namesD (ndAt p i).all)=true) (h:(ndAt p i).vars.any (offB (namesD (ndAt p i).all) p.es)=false) (hn:∀ j,j<(ndAt p i).eqs.length→eqS p i j=0)
 {b:Bool}(hb:((ndAt p i).outs.any (fun d=>!(dsTo (ndAt p i) (ndAt p i).eqs.length).any (nmB d.nm)) || (ndAt p i).vars.any (fun d=>!(dsTo (ndAt p i) (ndAt p i).eqs.length).any (nmB d.nm)))=b):NodeR p i (-1) (if b=true then 5 else 0):=by
 rw [undef_eq ho] at hb;unfold NodeR nodeS;rw [if_neg (by rw [ports_on hp h];decide),if_pos (firstF_no fun j hj=>by unfold eqF;rw [if_pos (hn j hj)])]
 cases b with
 | true=>
  rw [Bool.not_eq_true'] at hb;rw [if_neg (by rw [hb];decide)];rfl
 | false=>
  rw [Bool.not_eq_false'] at hb;rw [if_pos hb];rfl
end
section
open Go.RowKit Go.Sort
def cdL(c:Cd):List Value:=[.string c.nm,.int .i64 c.v]
def cdA(c:Cd):Array Value:=#[.string c.nm,.int .i64 c.v]
def CdAt(w:World) (b o:Nat) (c:Cd):Prop:=w.rangeAt b o (cdL c)
def RdC(w:World) (A:Option Addr) (n:Nat) (l:List Cd):Prop:=RdS 2 CdAt w A n l
theorem keeps_cd:KeepsAt CdAt:=fun h hb hs hk=>rangeAt_keep h hb hk
theorem CdAt.two{w:World}{b o:Nat}{c:Cd}(h:CdAt w b o c):w.cell? ⟨b,o,none⟩=some (.string c.nm)∧w.cell? ⟨b,o+1,none⟩=some (.int .i64 c.v):=⟨h 0 _ rfl,h 1 _ rfl⟩
def flC(l:List Cd):List Value:=l.flatMap cdL
theorem flC_len(l:List Cd):(flC l).length=l.length*2:=by
 induction l with
 | nil=>rfl
 | cons d l ih=>simp only [flC,List.flatMap_cons,List.length_append,List.length_cons] at ih ⊢;rw [ih];simp [cdL];omega
theorem flC_app(a b:List Cd):flC (a++b)=flC a++flC b:=by simp [flC]
theorem flC_one(d:Cd):flC [d]=cdL d:=by simp [flC]
theorem flC_at:∀ (l:List Cd) (i j:Nat),i<l.length→j<2→(flC l)[i*2+j]?=(cdL (l[i]?.getD default))[j]?
 | t::ts,0,j,_,hj=>by
  have hz:j<(cdL t).length:=by simpa [cdL] using hj
  simp only [flC,List.flatMap_cons,Nat.zero_mul,Nat.zero_add];rw [List.getElem?_append_left hz]
  simp
 | t::ts,i+1,j,hi,hj=>by
  have ih:=flC_at ts i j (by simpa using hi) hj;have hz:(cdL t).length=2:=by simp [cdL]
  simp only [flC,List.flatMap_cons];rw [List.getElem?_append_right (by rw [hz];omega),hz,show(i+1)*2+j-2=i*2+j by omega]
  simpa [flC] using ih
theorem flC_ones(l:List Cd):∀ u∈flC l,u.oneCell'=true:=by
 intro u hu;simp only [flC,List.mem_flatMap] at hu;obtain⟨t,_,hu⟩:=hu
 simp [cdL] at hu
 rcases hu with rfl | rfl <;> rfl
section
variable {w w':World}{A:Option Addr}{n:Nat}{l:List Cd}
theorem RdC.keep(h:RdC w A n l) (hs:w.heap.size≤w'.heap.size) (hk:∀ p:Addr,p.block<w.heap.size→w'.cell? p=w.cell? p):RdC w' A n l:=RdS.keep keeps_cd h hs hk
theorem RdC.below(h:RdC w A n l) (hb:Below w.heap.size w w'):RdC w' A n l:=h.keep hb.size fun _ hp=>hb.cell hp
theorem RdC.of_own{base:Nat}{e:TypeId}{v:Value}(h:w.ownsRow base e 2 v n (flC l)) (hm:n≤9223372036854775807):∃ A c,v=.slice A n c∧RdC w A n l:=by
 have hl:l.length=n:=by
  have:=h.1;rw [flC_len] at this;omega
 rcases h.2 with⟨rfl,rfl⟩|⟨g,cap,cur,rfl,hg,hh,hnc,hcm,hcs,ht⟩
 · obtain rfl:l=[]:=List.eq_nil_of_length_eq_zero hl;exact⟨none,0,rfl,RdS.nil_ _ _ _⟩
 · refine⟨_,cap,rfl,hl,hm,fun hn=>⟨g,0,rfl,(Array.getElem?_eq_some_iff.1 hh).1,fun i hi=>?_⟩⟩;intro j v hv
   have hj:j<2:=by
    rcases Nat.lt_or_ge j 2 with h | h
    · exact h
    · rw [List.getElem?_eq_none (by simpa [cdL] using h)] at hv;cases hv
   rw [Nat.zero_add,h.cellAt (i*2+j) (by omega),flC_at l i j (by omega) hj,hv]
theorem RdC.news(h:RdC w A n l):(A=none→n=0)∧∀ ad,A=some ad→∀ j u,(flC l)[j]?=some u→w.cell? (ad.add j)=some u:=by
 constructor
 · rintro rfl;rcases Nat.eq_zero_or_pos n with h0 | h0
   · exact h0
   · obtain⟨b,off,e,_⟩:=RdS.at_ h h0;cases e
 · rintro ad rfl j u hu
   have hj:j<l.length*2:=by
    rcases Nat.lt_or_ge j (l.length*2) with h1 | h1
    · exact h1
    · rw [List.getElem?_eq_none (by rw [flC_len];exact h1)] at hu;cases hu
   have hlen:=RdS.len h;obtain⟨b,off,e,hb,hc⟩:=RdS.at_ h (by omega);injection e with e;subst e;have h6:j / 2*2+j % 2=j:=by omega
   have h7:j % 2<2:=by omega
   have h1:=hc (j / 2) (by omega);rw [add_addr];have h2:=flC_at l (j / 2) (j % 2) (by omega) h7;rw [h6,hu] at h2;have h3:=h1 (j % 2) u h2.symm;rwa [show off+j / 2*2+j % 2=off+j by omega] at h3
theorem RdC.take(h:RdC w A n l){k:Nat}(hk:k≤n):RdC w A k (l.take k):=by
 refine⟨by rw [List.length_take,h.1];omega,by have:=h.2.1;omega,fun h0=>?_⟩;obtain⟨b,off,e,hb,hc⟩:=RdS.at_ h (by omega);refine⟨b,off,e,hb,fun i hi=>?_⟩;have:=hc i (by omega);rwa [List.getElem?_take_of_lt hi]
end
theorem infoCond:(Tryz.prog.info? 45).map (fun i=>(i.size,i.bytes,i.zero.map fun z=>z.cells.size))=some (2,24,some 2):=by kernel_rfl
section
variable {P:Program}{w:World}
theorem wpList_append_cd{ops:Array Oper}{rest:List Oper}{o:Oper}{a:Act}{Q:Exit→Act→World→Prop}(hgd:o.guard=none) (s x:Operand) (t:TypeId)
 (ho:o.op=.call { callee:=.builtin .append,args:=#[s,x],argTypes:=#[t,t] })
 (base:Nat) (e:TypeId) (i:TypeInfo) (z:Value) (bytes:Nat) (ht:P.underlying t=some (.slice e)) (hi:P.info? e=some i) (hz:i.zero=some z)
 (hsize:i.size=2) (hby:i.bytes=bytes) (hzs:z.cells.size=2)
 (v:Value) (n:Nat) (xs:List Cd) (hs:a.eval s=v) (hown:w.ownsRow base e 2 v n (flC xs))
 (A:Option Addr) (m c:Nat) (l:List Cd) (hx:a.eval x=.slice A m c) (hr:RdC w A m l)
 (h63:n+m≤maxLen) (hbytes:(n+m)*bytes≤140737488355328) (hbase:base≤w.heap.size)
 (h:∀ v' w',w'.ownsRow base e 2 v' (n+m) (flC (xs++l))→w.grownBy w' v.ownBlock→wpList P ops Q rest (a.put o.dst v') w'):wpList P ops Q (o::rest) a w:=by
 obtain⟨hA,hnews⟩:=hr.news;have hlen:=RdS.len hr;rcases A with _ | ad
 · obtain rfl:m=0:=hA rfl;obtain rfl:l=[]:=List.eq_nil_of_length_eq_zero hlen;refine wpList_plain hgd fun K hK=>?_;have hrun:=run_append_nil (P:=P) (w:=w) base t o.type e i 2 ht hi v n _ hown c;unfold Oper.wp
   simp [execOp,ho,resolve,invoke,builtin,hs,hx,hrun,Result.andThen]
   exact hK _ _ (h v w (by simpa using hown) (World.grownBy.refl w _))
 · exact wpList_append_own_at w hgd s x t ho base e i z 2 bytes ht hi hz hsize hby hzs (by decide) v n _ hs hown ad m c (flC l) hx (by rw [flC_len,hlen]) (fun j u hu=>hnews ad rfl j u hu) (flC_ones l) h63 hbytes hbase fun v' w' h1 h2 _ _=>h v' w' (by rw [flC_app];exact h1) h2
end
theorem cd_lit(w:World) (d:Cd):RdC (w.alloc (.cells (cdA d) 45)) (some ⟨w.heap.size,0,none⟩) 1 [d]:=by
 refine⟨rfl,by omega,fun _=>⟨w.heap.size,0,rfl,by simp,fun i hi=>?_⟩⟩;obtain rfl:i=0:=by omega
 intro j v hv;rw [show 0+0*2+j=j by omega,World.cell?_alloc_new];have:(cdL d)[j]?=some v:=by simpa using hv
 rw [← this]
 show(cdL d).toArray[j]?=_
 simp
theorem nd_atC{w:World}{A:Option Addr}{n i:Nat}{l:List Nd}(h:RdNs w A n l) (hi:i<n):
 ∃ b off A1 c1 A2 c2 A3 c3 A4 c4,A=some ⟨b,off,none⟩∧b<w.heap.size∧rdN w (l[i]?.getD default) A1 A2 A3 A4 ∧
 w.cell? ⟨b,off+i*5,none⟩=some (.string (l[i]?.getD default).nm)∧w.cell? ⟨b,off+i*5+1,none⟩=some (.slice A1 (l[i]?.getD default).ins.length c1)∧w.cell? ⟨b,off+i*5+2,none⟩=some (.slice A2 (l[i]?.getD default).outs.length c2)∧w.cell? ⟨b,off+i*5+3,none⟩=some (.slice A3 (l[i]?.getD default).vars.length c3)∧w.cell? ⟨b,off+i*5+4,none⟩=some (.slice A4 (l[i]?.getD default).eqs.length c4):=by
 obtain⟨b,off,e,hb,hc⟩:=RdS.at_ h (by omega);obtain⟨A1,c1,A2,c2,A3,c3,A4,c4,h1,h2⟩:=hc i hi;obtain⟨d0,d1,d2,d3,d4⟩:=ndL_five h1;exact⟨b,off,A1,c1,A2,c2,A3,c3,A4,c4,e,hb,h2,d0,d1,d2,d3,d4⟩
theorem dc_atC{w:World}{A:Option Addr}{n i:Nat}{l:List Dc}(h:RdD w A n l) (hi:i<n):
 ∃ b off,A=some ⟨b,off,none⟩∧b<w.heap.size∧w.cell? ⟨b,off+i*6,none⟩=some (.string (l[i]?.getD default).nm)∧w.cell? ⟨b,off+i*6+1,none⟩=some (.int .i64 (l[i]?.getD default).k)∧w.cell? ⟨b,off+i*6+2,none⟩=some (.int .i64 (l[i]?.getD default).e) ∧
  w.cell? ⟨b,off+i*6+3,none⟩=some (.int .i64 (l[i]?.getD default).l)∧w.cell? ⟨b,off+i*6+4,none⟩=some (.string (l[i]?.getD default).on)∧w.cell? ⟨b,off+i*6+5,none⟩=some (.string (l[i]?.getD default).ct):=by
 obtain⟨b,off,e,hb,hc⟩:=RdS.at_ h (by omega);exact⟨b,off,e,hb,(hc i hi).six⟩
theorem cl_box{w w1:World}{cs:Array Value}{T:TypeId}(h:w.alloc (.cells cs T)=w1):Below w.heap.size w w1∧w1.heap.size=w.heap.size+1∧∀ w',Below w1.heap.size w1 w'→∀ j,w'.cell? ⟨w.heap.size,j,none⟩=cs[j]?:=by
 subst h;refine⟨(Below.refl _ _).alloc (Nat.le_refl _) _,by simp,fun w' hb j=>?_⟩;rw [hb.cell (p:=⟨w.heap.size,j,none⟩) (by simp),World.cell?_alloc_new]
theorem cl_box2{w w1:World}{cs ds:Array Value}{T U:TypeId}(h:(w.alloc (.cells cs T)).alloc (.cells ds U)=w1):Below w.heap.size w w1∧w1.heap.size=w.heap.size+2∧(∀ w',Below w1.heap.size w1 w'→∀ j,w'.cell? ⟨w.heap.size,j,none⟩=cs[j]?)∧(∀ w',Below w1.heap.size w1 w'→∀ j,w'.cell? ⟨w.heap.size+1,j,none⟩=ds[j]?):=by
 generalize h0:w.alloc (.cells cs T)=w0 at h;obtain⟨b0,e0,k0⟩:=cl_box h0;obtain⟨b1,e1,k1⟩:=cl_box h;rw [e0] at k1;exact⟨b0.trans (b1.mono b0.size),by omega,fun w' hb j=>k0 w' (b1.trans (hb.mono b1.size)) j,k1⟩
theorem below_nextC{w w1 w2:World}(h:Below w.heap.size w w1) (hb:Below w1.heap.size w1 w2):Below w.heap.size w w2:=h.trans (hb.mono h.size)
theorem own_belowC{w w':World}{base:Nat}{e:TypeId}{size n:Nat}{v:Value}{xs:List Value}(h:w.ownsRow base e size v n xs) (hb:Below w.heap.size w w'):w'.ownsRow base e size v n xs:=by
 refine⟨h.1,?_⟩;rcases h.2 with h2 | ⟨g,cap,cur,hv,hg,hh,hr⟩
 · exact .inl h2
 · exact .inr ⟨g,cap,cur,hv,hg,(hb.block g (Array.getElem?_eq_some_iff.1 hh).1).trans hh,hr⟩
theorem ret_boolC{a b:Bool}(h:a=b):Ending.returned (.bool a)=.returned (.bool b):=by rw [h]
end
section
open Go.RowKit Go.Sort
theorem eqC_refl(a:Cd):eqC a a=true:=eqC_eq.2 rfl
theorem refSame17(A:Option Addr) (n c:Nat) (l:List Cd) (B:Option Addr) (m d:Nat) (r:List Cd) (w:World) (hl:RdC w A n l) (hr:RdC w B m r):
 Calls Tryz.prog 11 #[.slice A n c,.slice B m d] w fun e w'=>e=.returned (.bool (sameC l r))∧Below w.heap.size w w':=by
 have hln:=RdS.len hl;have hrn:=RdS.len hr;have hlm:=RdS.max hl;have hrm:=RdS.max hr
 by_cases hnm:n=m
 · subst hnm;have HNO:=Hd fun(i:Nat) hi hf=>sameL_no (f:=eqC) (l:=l) (m:=r) (i:=i) (by rw [hln];exact hi) (by rw [hln,hrn]) hf;have HYES:=Hd fun hf=>sameL_yes (f:=eqC) (l:=l) (m:=r) (by rw [hln,hrn]) (by rw [hln];exact hf);unfold sameC;generalize sameL eqC l r=out at *;have dn:decide ((n:Int)=(n:Int))=true:=decide_eq_true rfl
   go_enter Tryz.func11,Tryz.ntmps11
   go_wp2_with fail
   go_loopw [5] (fun i wr=>∃ k:Nat,k≤n∧i=.int .i64 k∧(∀ j,j<k→eqC (l[j]?.getD default) (r[j]?.getD default)=true)∧Below w.heap.size w wr) (fun i _=>n-(intOf i).toNat)
   case atStart=>exact⟨0,Nat.zero_le _,rfl,fun j hj=>absurd hj (by omega),Below.refl _ _⟩
   case round=>
    obtain⟨k,hk,rfl,hto,hnx⟩:=hrel;have HT:=Hd hto;have HNX:=Hd hnx;clear hto
    by_cases hlt:k<n
    · obtain⟨b,off,rfl,hb,hc⟩:=RdS.at_ (hl.below hnx) (by omega);obtain⟨b',off',rfl,hb',hc'⟩:=RdS.at_ (hr.below hnx) (by omega);obtain⟨p0,p1⟩:=(hc k hlt).two;obtain⟨q0,q1⟩:=(hc' k hlt).two;clear hc hc' hnx;have HN:=Hd (HNO.out k hlt);have HS:=Hd fun(hf:eqC (l[k]?.getD default) (r[k]?.getD default)=true)=>to_next (P:=fun j=>eqC (l[j]?.getD default) (r[j]?.getD default)=true) HT.out hf;generalize l[k]?.getD default=x at p0 p1 HN HS;generalize r[k]?.getD default=y at q0 q1 HN HS;obtain⟨x0,x1⟩:=x;obtain⟨y0,y1⟩:=y;simp only at p0 p1 q0 q1
      by_cases e0:x0=y0
      · subst e0
        by_cases e1:x1=y1
        · subst e1;have HS2:=Hd (HS.out (eqC_refl _))
          go_upto_region 6 with(fail)
          go_quiet (fail)
          go_wp2_with fail
          go_roundw
          case rel=>exact⟨k+1,by omega,by go_num,HS2.out,below_drewN HNX.out _⟩
          case measure=>simp [intOf];omega
        · have f1:(x1==y1)=false:=by rw [beq_eq_false_iff_ne];exact e1
          have HN2:=Hd (HN.out (by simp [eqC,f1]))
          go_upto_region 6 with(fail)
          go_quiet (fail)
          go_wp2_with fail
          go_ret
          exact⟨ret_bool HN2.out.symm,below_drewN HNX.out _⟩
      · have f0:(x0.toList==y0.toList)=false:=by
         cases h:(x0.toList==y0.toList) with
         | false=>rfl
         | true=>exact absurd (bytes_eq h) e0
        have HN2:=Hd (HN.out (by simp [eqC,f0]))
        go_upto_region 6 with(fail)
        go_quiet (fail)
        go_wp2_with fail
        go_ret
        exact⟨ret_bool HN2.out.symm,below_drewN HNX.out _⟩
    · have hkn:k=n:=by omega
      have HY:=Hd (HYES.out fun i hi=>HT.out i (by omega))
      go_wp2_with fail
      go_ret
      exact⟨ret_bool HY.out.symm,HNX.out⟩
 · have dn:decide ((n:Int)=(m:Int))=false:=decide_eq_false (by omega);have dm:((n:Int)==(m:Int))=false:=by rw [beq_eq_false_iff_ne];omega
   have HE:=Hd (sameL_len (f:=eqC) (l:=l) (m:=r) (by rw [hln,hrn];exact hnm))
   go_enter Tryz.func11,Tryz.ntmps11
   go_wp2_with fail
   go_ret
   exact⟨ret_bool HE.out.symm,Below.refl _ _⟩
theorem slEqualC(A:Option Addr) (n c:Nat) (l:List Cd) (B:Option Addr) (m d:Nat) (r:List Cd) (w:World) (hl:RdC w A n l) (hr:RdC w B m r):
 Calls Tryz.prog 52 #[.slice A n c,.slice B m d] w fun e w'=>e=.returned (.bool (sameC l r))∧Below w.heap.size w w':=by
 have hln:=RdS.len hl;have hrn:=RdS.len hr;have hlm:=RdS.max hl;have hrm:=RdS.max hr
 by_cases hnm:n=m
 · subst hnm;have HNO:=Hd fun(i:Nat) hi hf=>sameL_no (f:=eqC) (l:=l) (m:=r) (i:=i) (by rw [hln];exact hi) (by rw [hln,hrn]) hf;have HYES:=Hd fun hf=>sameL_yes (f:=eqC) (l:=l) (m:=r) (by rw [hln,hrn]) (by rw [hln];exact hf);unfold sameC;generalize sameL eqC l r=out at *;have dn:decide ((n:Int)=(n:Int))=true:=decide_eq_true rfl
   go_enter Tryz.func52,Tryz.ntmps52
   go_wp2_with fail
   go_loopw [13] (fun i wr=>∃ k:Nat,k≤n∧i=.int .i64 k∧(∀ j,j<k→eqC (l[j]?.getD default) (r[j]?.getD default)=true)∧Below w.heap.size w wr) (fun i _=>n-(intOf i).toNat)
   case atStart=>exact⟨0,Nat.zero_le _,rfl,fun j hj=>absurd hj (by omega),Below.refl _ _⟩
   case round=>
    obtain⟨k,hk,rfl,hto,hnx⟩:=hrel;have HT:=Hd hto;have HNX:=Hd hnx;clear hto
    by_cases hlt:k<n
    · obtain⟨b,off,rfl,hb,hc⟩:=RdS.at_ (hl.below hnx) (by omega);obtain⟨b',off',rfl,hb',hc'⟩:=RdS.at_ (hr.below hnx) (by omega);obtain⟨p0,p1⟩:=(hc k hlt).two;obtain⟨q0,q1⟩:=(hc' k hlt).two;clear hc hc' hnx;have HN:=Hd (HNO.out k hlt);have HS:=Hd fun(hf:eqC (l[k]?.getD default) (r[k]?.getD default)=true)=>to_next (P:=fun j=>eqC (l[j]?.getD default) (r[j]?.getD default)=true) HT.out hf;generalize l[k]?.getD default=x at p0 p1 HN HS;generalize r[k]?.getD default=y at q0 q1 HN HS;obtain⟨x0,x1⟩:=x;obtain⟨y0,y1⟩:=y;simp only at p0 p1 q0 q1
      by_cases e0:x0=y0
      · subst e0
        by_cases e1:x1=y1
        · subst e1;have HS2:=Hd (HS.out (eqC_refl _))
          go_upto_region 6 with(fail)
          go_quiet (fail)
          go_wp2_with fail
          go_roundw
          case rel=>exact⟨k+1,by omega,by go_num,HS2.out,below_drewN HNX.out _⟩
          case measure=>simp [intOf];omega
        · have f1:(x1==y1)=false:=by rw [beq_eq_false_iff_ne];exact e1
          have HN2:=Hd (HN.out (by simp [eqC,f1]))
          go_upto_region 6 with(fail)
          go_quiet (fail)
          go_wp2_with fail
          go_ret
          exact⟨ret_bool HN2.out.symm,below_drewN HNX.out _⟩
      · have f0:(x0.toList==y0.toList)=false:=by
         cases h:(x0.toList==y0.toList) with
         | false=>rfl
         | true=>exact absurd (bytes_eq h) e0
        have HN2:=Hd (HN.out (by simp [eqC,f0]))
        go_upto_region 6 with(fail)
        go_quiet (fail)
        go_wp2_with fail
        go_ret
        exact⟨ret_bool HN2.out.symm,below_drewN HNX.out _⟩
    · have hkn:k=n:=by omega
      have HY:=Hd (HYES.out fun i hi=>HT.out i (by omega))
      go_wp2_with fail
      go_ret
      exact⟨ret_bool HY.out.symm,HNX.out⟩
 · have dn:decide ((n:Int)=(m:Int))=false:=decide_eq_false (by omega);have dm:((n:Int)==(m:Int))=false:=by rw [beq_eq_false_iff_ne];omega
   have HE:=Hd (sameL_len (f:=eqC) (l:=l) (m:=r) (by rw [hln,hrn];exact hnm))
   go_enter Tryz.func52,Tryz.ntmps52
   go_wp2_with fail
   go_ret
   exact⟨ret_bool HE.out.symm,Below.refl _ _⟩
end
section
theorem right_part{x y:Ex}(h:rightX x=true) (hy:y∈partsX x):partX y=true:=by
 unfold rightX at h;simp only [Bool.and_eq_true] at h;exact List.all_eq_true.1 h.2 y hy
theorem parts_sub{x:Ex}{k:Nat}(hk:k<x.subs.length):∀ z∈partsX (subX x k),z∈partsX x:=by
 intro z hz;rw [partsX_eq];refine List.mem_cons_of_mem _ ?_
 have key:∀ (l:List Ex) (y:Ex),y∈l→z∈partsX y→z∈partssX l:=by
  intro l
  induction l with
  | nil=>intro y hy;cases hy
  | cons a l ih=>
   intro y hy hz;simp only [partssX,List.mem_append];rcases List.mem_cons.1 hy with rfl | hy
   · exact .inl hz
   · exact .inr (ih y hy hz)
 exact key _ _ (subX_mem hk) hz
theorem part_len{x:Ex}(h:partX x=true):(subsX x).1≤x.subs.length∧(x.subs.length:Int)≤(subsX x).2∧(x.k=8→constX (subX x 0)=true):=by
 unfold partX at h;simp only [Bool.and_eq_true,decide_eq_true_eq] at h;refine⟨h.1.1.2,h.1.2,fun hk=>?_⟩;have h2:=h.2;rw [hk] at h2
 simpa using h2
end
section
set_option maxRecDepth 100000
open Go.RowKit Go.ChangeShapes Go.WideShapes Go.Deep
theorem cells_en:Tryz.prog.cellsOf 66=2:=by kernel_rfl
theorem cells_ty:Tryz.prog.cellsOf 41=3:=by kernel_rfl
theorem cells_iT:Tryz.prog.cellsOf 3=1:=by kernel_rfl
theorem cells_sT:Tryz.prog.cellsOf 9=1:=by kernel_rfl
theorem cells_ssT:Tryz.prog.cellsOf 49=1:=by kernel_rfl
section
variable {H:Type}{enc:TypeId × Value→H}{w:World}{base:Nat}{spare:Nat→Bool}{held:Bool}
theorem strs_open{fuel:Nat}{v:Value}{x:DataW H × List MemPlace}(h:DataW.trod enc Tryz.prog w base spare held fuel 49 [v]=some x):∃ A n c ss,v=.slice A n c∧RdT w A n ss:=by
 rcases Go.ChangeShapes.open_strings Tryz.underlying49 Tryz.underlying9 (by kernel_rfl) h with⟨hcs,_⟩|⟨x,l,c,ss,hcs,_,hl,hm,hss,_,hcell,hz⟩
 · simp at hcs
   subst hcs;exact⟨none,0,0,[],rfl,RdT.nil_ _⟩
 · simp at hcs
   subst hcs;have hle:l≤ss.length:=by rw [hss];split <;> omega
   exact⟨some x,l,c,ss.take l,rfl,rdT_arg hle (by unfold maxLen at hm;omega) hcell⟩
theorem en_open{fuel:Nat}{cs:List Value}{x:DataW H × List MemPlace}(h:DataW.trod enc Tryz.prog w base spare held fuel 66 cs=some x) (hl:cs.length=2):
 ∃ e:En,∃ A n c,cs=[.string e.1,.slice A n c]∧RdT w A n e.2:=by
 obtain⟨ys,m,_,_,_,hy,hf⟩:=DataW.trod_struct Tryz.underlying66 h
 match cs,hl with
 | [v0,v1],_=>
  match ys,hy with
  | [y0,y1],_=>
   have t0:=hf 0 _ rfl;have t1:=hf 1 _ rfl
   simp [cells_sT,cells_ssT] at t0 t1
   obtain⟨s,e0,_,_⟩:=DataW.trod_string Tryz.underlying9 t0;obtain⟨A,n,c,ss,rfl,hr⟩:=strs_open t1;injection e0 with e0;subst e0;exact⟨(s,ss),A,n,c,rfl,hr⟩
theorem enums_open{fuel:Nat}{A:Option Addr}{n c:Nat}{x:DataW H × List MemPlace}(h:DataW.trod enc Tryz.prog w base spare held fuel 22 [.slice A n c]=some x):∃ es,RdE w A n es:=by
 rcases open_slice Tryz.underlying22 h with⟨hcs,_⟩|⟨a,len,cap,m,nn,D,Pl,hcs,_,hl,hm,hmm,_,hi⟩
 · simp at hcs
   obtain⟨rfl,rfl,rfl⟩:=hcs;exact⟨[],RdE.nil_ _⟩
 · simp at hcs
   obtain⟨rfl,rfl,rfl⟩:=hcs;have hnm:n≤m:=by rw [hmm];split <;> omega
   have hone:∀ i,i<n→∃ e:En,w.cell? (a.add (i*2))=some (.string e.1)∧∃ A' n' c',w.cell? (a.add (i*2+1))=some (.slice A' n' c')∧RdT w A' n' e.2:=by
    intro i him;obtain⟨cs',hc,ht⟩:=hi i (by omega);rw [cells_en] at hc;obtain⟨_,hcl,hat⟩:=World.cells?_some hc;obtain⟨e,A',n',c',e1,hp⟩:=en_open ht hcl;have h0:=hat (i:=0) (by omega);have h1:=hat (i:=1) (by omega);rw [e1] at h0 h1;rw [Go.Deep.add_add] at h0 h1;exact⟨e,by simpa using h0,A',n',c',by simpa using h1,hp⟩
   obtain⟨f,hf⟩:=choose_lt (α:=En) hone;have hget:∀ i,i<n→((List.range n).map f)[i]?.getD (ByteArray.empty,[])=f i:=fun i hi=>by simp [List.getElem?_map,List.getElem?_range hi]
   refine⟨(List.range n).map f,by simp,by unfold maxLen at hm;omega,fun hn=>?_⟩;obtain⟨b,off,spot⟩:=a;have h0:=(hf 0 hn).1;have hspot:spot=none:=by simpa [Addr.add] using World.cell?_spot h0
   subst hspot;have hadd:∀ i,(⟨b,off,none⟩:Addr).add i=⟨b,off+i,none⟩:=fun i=>by unfold Addr.add;split <;> simp_all
   refine⟨b,off,rfl,World.block_lt_of_cell? w _ ((hadd 0) ▸ h0),fun i hi=>?_⟩;obtain⟨hc,A',n',c',h2,h3⟩:=hf i hi;rw [hadd] at hc h2;unfold nmE csE;rw [hget i hi];exact⟨hc,A',n',c',h2,h3⟩
theorem ty_cells{fuel:Nat}{cs:List Value}{x:DataW H × List MemPlace}(h:DataW.trod enc Tryz.prog w base spare held fuel 41 cs=some x) (hl:cs.length=3):
 ∃ k e l:Int,cs=[.int .i64 k,.int .i64 e,.int .i64 l]:=by
 obtain⟨ys,m,_,_,_,hy,hf⟩:=DataW.trod_struct Tryz.underlying41 h
 match cs,hl with
 | [v0,v1,v2],_=>
  match ys,hy with
  | [y0,y1,y2],_=>
   have t0:=hf 0 _ rfl;have t1:=hf 1 _ rfl;have t2:=hf 2 _ rfl
   simp [cells_iT] at t0 t1 t2
   obtain⟨k,e0,_,_⟩:=DataW.trod_int Tryz.underlying3 t0;obtain⟨e,e1,_,_⟩:=DataW.trod_int Tryz.underlying3 t1;obtain⟨l,e2,_,_⟩:=DataW.trod_int Tryz.underlying3 t2;injection e0 with e0;injection e1 with e1;injection e2 with e2;subst e0 e1 e2;exact⟨k,e,l,rfl⟩
end
end
section
set_option maxRecDepth 100000
open Go.RowKit Go.ChangeShapes Go.WideShapes Go.Deep
theorem cells_ds:Tryz.prog.cellsOf 32=1:=by kernel_rfl
theorem cells_qs:Tryz.prog.cellsOf 34=1:=by kernel_rfl
theorem cells_ns:Tryz.prog.cellsOf 23=1:=by kernel_rfl
theorem cells_es:Tryz.prog.cellsOf 22=1:=by kernel_rfl
theorem cells_pg:Tryz.prog.cellsOf 25=2:=by kernel_rfl
theorem cells_exZ:Tryz.prog.cellsOf 52=6:=by kernel_rfl
section
variable {H:Type}{enc:TypeId × Value→H}{w:World}{base:Nat}{spare:Nat→Bool}{held:Bool}
theorem rdS_open{α:Type} [Inhabited α] {k:Nat}{T ST:TypeId}{At:World→Nat→Nat→α→Prop}(hu:Tryz.prog.underlying ST=some (.slice T)) (hck:Tryz.prog.cellsOf T=k) (hk:0<k)
 (h1:∀ {w:World}{b o:Nat}{x:α},At w b o x→∃ v,w.cell? ⟨b,o,none⟩=some v)
 (hone:∀ {fuel:Nat}{cs:List Value}{x:DataW H × List MemPlace},DataW.trod enc Tryz.prog w base spare held fuel T cs=some x→cs.length=k→∃ e:α,∀ b o,(∀ j v,cs[j]?=some v→w.cell? ⟨b,o+j,none⟩=some v)→At w b o e)
 {fuel:Nat}{A:Option Addr}{n c:Nat}{x:DataW H × List MemPlace}(h:DataW.trod enc Tryz.prog w base spare held fuel ST [.slice A n c]=some x):∃ l,RdS k At w A n l:=by
 rcases open_slice hu h with⟨hcs,_⟩|⟨a,len,cap,m,nn,D,Pl,hcs,_,hl,hm,hmm,_,hi⟩
 · simp at hcs
   obtain⟨rfl,rfl,rfl⟩:=hcs;exact⟨[],RdS.nil_ _ _ _⟩
 · simp at hcs
   obtain⟨rfl,rfl,rfl⟩:=hcs;have hnm:n≤m:=by rw [hmm];split <;> omega
   have hsp:0<n→a.spot=none:=fun hn=>by
    obtain⟨cs',hc,ht⟩:=hi 0 (by omega);rw [hck] at hc;obtain⟨_,hcl,hat⟩:=World.cells?_some hc;have h0:=hat (i:=0) hk;rw [List.getElem?_eq_getElem (by omega)] at h0
    simpa [Addr.add] using World.cell?_spot h0
   have hf:∀ i,i<n→∃ e:α,∀ b off,a=⟨b,off,none⟩→At w b (off+i*k) e:=by
    intro i him;obtain⟨cs',hc,ht⟩:=hi i (by omega);rw [hck] at hc;obtain⟨_,hcl,hat⟩:=World.cells?_some hc;obtain⟨e,he⟩:=hone ht hcl;refine⟨e,fun b off ea=>he b (off+i*k) fun j v hv=>?_⟩
    have hj:j<k:=by
     rcases Nat.lt_or_ge j k with h | h
     · exact h
     · rw [List.getElem?_eq_none (by omega)] at hv;cases hv
    have h2:=hat (i:=j) hj;rw [hv] at h2;have hadd:∀ i,(⟨b,off,none⟩:Addr).add i=⟨b,off+i,none⟩:=fun i=>by unfold Addr.add;split <;> simp_all
    rw [Go.Deep.add_add,ea,hadd,← Nat.add_assoc] at h2;exact h2
   obtain⟨f,hf⟩:=choose_lt (α:=α) hf;have hget:∀ i,i<n→((List.range n).map f)[i]?.getD default=f i:=fun i hi=>by simp [List.getElem?_map,List.getElem?_range hi]
   refine⟨(List.range n).map f,by simp,by unfold maxLen at hm;omega,fun hn=>?_⟩;obtain⟨b,off,spot⟩:=a;have hspot:=hsp hn;simp only at hspot;subst hspot;have h0:=hf 0 hn b off rfl;obtain⟨v0,hv0⟩:=h1 h0;exact⟨b,off,rfl,World.block_lt_of_cell? _ _ hv0,fun i hi=>by rw [hget i hi];exact hf i hi b off rfl⟩
theorem dc_open{fuel:Nat}{cs:List Value}{x:DataW H × List MemPlace}(h:DataW.trod enc Tryz.prog w base spare held fuel 43 cs=some x) (hl:cs.length=6):∃ d:Dc,cs=dcL d:=by
 obtain⟨ys,m,_,_,_,hy,hf⟩:=DataW.trod_struct Tryz.underlying43 h
 match cs,hl with
 | [v0,v1,v2,v3,v4,v5],_=>
  match ys,hy with
  | [y0,y1,y2,y3],_=>
   have t0:=hf 0 _ rfl;have t1:=hf 1 _ rfl;have t2:=hf 2 _ rfl;have t3:=hf 3 _ rfl
   simp [cells_s,cells_ty] at t0 t1 t2 t3
   obtain⟨s0,e0,_,_⟩:=DataW.trod_string Tryz.underlying9 t0;obtain⟨tk,te,tl,e1⟩:=ty_cells t1 rfl;obtain⟨s2,e2,_,_⟩:=DataW.trod_string Tryz.underlying9 t2;obtain⟨s3,e3,_,_⟩:=DataW.trod_string Tryz.underlying9 t3;injection e0 with e0;injection e1 with e1 e1';injection e1' with e1' e1'';injection e1'' with e1'';injection e2 with e2;injection e3 with e3;subst e0 e1 e1' e1'' e2 e3;exact⟨⟨s0,tk,te,tl,s2,s3⟩,rfl⟩
theorem decls_open{fuel:Nat}{v:Value}{x:DataW H × List MemPlace}(h:DataW.trod enc Tryz.prog w base spare held fuel 32 [v]=some x):∃ A n c l,v=.slice A n c∧RdD w A n l:=by
 obtain⟨A,n,c,rfl⟩:∃ A n c,v=.slice A n c:=by
  rcases open_slice Tryz.underlying32 h with⟨hcs,_⟩|⟨a,len,cap,m,nn,D,Pl,hcs,_⟩
  · simp at hcs;exact⟨_,_,_,hcs⟩
  · simp at hcs;exact⟨_,_,_,hcs⟩
 obtain⟨l,hl⟩:=rdS_open (α:=Dc) (k:=6) (At:=DcAt) Tryz.underlying32 cells_dc (by decide) (fun h=>⟨_,h 0 _ rfl⟩) (fun ht hl=>by
  obtain⟨d,rfl⟩:=dc_open ht hl;exact⟨d,fun b o hc j v hv=>hc j v hv⟩) h
 exact⟨A,n,c,l,rfl,hl⟩
end
end
end Go.Proofs.YtkbpdoomhfkngaaGreat
