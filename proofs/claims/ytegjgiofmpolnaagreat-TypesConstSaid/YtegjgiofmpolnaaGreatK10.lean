/- Parts of the proof: PgE, PgF, PgG, PgH, PgJ, PgK, PgN, PgO, PgQ, PgP, ScM, ScA, ScB, ScC, ScD, ScE, ScF, ScG, TpM, TpA, TpC, TpD, TpE, TpF, TpB, TpS, EyD, PgI, SlR, ScP, ScN. Conditions: each theorem's own. -/
import Derived.Laws.Tables
import Derived.Shelf.Spec.SlicesGrow
import Derived.Ground.Names8Prog
import Derived.Test.YtegjgiofmpolnaaGreatK05
import Derived.Test.YtegjgiofmpolnaaGreatK09
namespace Go.Proofs.YtegjgiofmpolnaaGreat
set_option linter.unusedVariables false
set_option linter.unusedSimpArgs false
set_option maxRecDepth 100000
set_option maxHeartbeats 40000000
section
open Go.RowKit
def OkQ(q:Qn):Prop:=(∀ s∈q.ns,s.size≤maxLen)∧sizeX q.x≤1000000∧∀ p∈partsX q.x,ShortP p
end
section
open Go.RowKit Go.Sort
def OkN(n:Nd):Prop:=n.nm.size≤maxLen∧(∀ d∈n.all,OkD d)∧∀ q∈n.eqs,OkQ q
theorem getD_memA{α:Type} [Inhabited α] {l:List α}{k:Nat}(h:k<l.length):l[k]?.getD default∈l:=by
 rw [List.getElem?_eq_getElem h];exact List.getElem_mem _
end
section
open Go.RowKit Go.Sort
def pgA(p:Pg) (E:Option Addr) (ec:Nat) (N:Option Addr) (nc:Nat):Array Value:=#[.slice E p.es.length ec,.slice N p.ns.length nc]
def rdP(w:World) (p:Pg) (E N:Option Addr):Prop:=RdE w E p.es.length p.es∧RdNs w N p.ns.length p.ns
theorem rdP.below{w w':World}{p:Pg}{E N:Option Addr}(h:rdP w p E N) (hb:Below w.heap.size w w'):rdP w' p E N:=⟨h.1.below hb,h.2.below hb⟩
theorem pg_facts(w:World) (p:Pg) (E:Option Addr) (ec:Nat) (N:Option Addr) (nc:Nat) (w1:World) (h:w.alloc (.cells (pgA p E ec N nc) 25)=w1) (hr:rdP w p E N):
 Below w.heap.size w w1∧w1.heap.size=w.heap.size+1∧rdP w1 p E N∧∀ w',Below w1.heap.size w1 w'→∀ j,w'.cell? ⟨w.heap.size,j,none⟩=(pgA p E ec N nc)[j]?:=by
 subst h;have hb:=(Below.refl w.heap.size w).alloc (Nat.le_refl _) (.cells (pgA p E ec N nc) 25);refine⟨hb,by simp,hr.below hb,fun w' hb j=>?_⟩;rw [hb.cell (p:=⟨w.heap.size,j,none⟩) (by simp),World.cell?_alloc_new]
theorem findI_hit{α:Type} [Inhabited α] {f:α→Bool}:∀ {l:List α}{k i:Nat},k<l.length→(∀ j,j<k→f (l[j]?.getD default)=false)→f (l[k]?.getD default)=true→findI f l i=((i+k:Nat):Int)
 | [],k,i,h,_,_=>by simp at h
 | a::l,0,i,_,_,h=>by
  have h:f a=true:=by simpa using h
  simp [findI,h]
 | a::l,k+1,i,hk,hn,h=>by
  have h0:f a=false:=by simpa using hn 0 (by omega)
  rw [findI,h0,if_neg (by simp),findI_hit (k:=k) (by simpa using hk) (fun j hj=>by simpa using hn (j+1) (by omega)) (by simpa using h)]
  congr 1
  omega
theorem findI_none{α:Type} [Inhabited α] {f:α→Bool}:∀ {l:List α}{i:Nat},(∀ j,j<l.length→f (l[j]?.getD default)=false)→findI f l i=-1
 | [],i,_=>rfl
 | a::l,i,hn=>by
  have h0:f a=false:=by simpa using hn 0 (by simp)
  rw [findI,h0,if_neg (by simp)];exact findI_none fun j hj=>by simpa using hn (j+1) (by simpa using hj)
theorem to_next{P:Nat→Prop}{k:Nat}(h:∀ j,j<k→P j) (hk:P k):∀ j,j<k+1→P j:=fun j hj=>by
 rcases Nat.lt_or_ge j k with h1 | h1
 · exact h j h1
 · obtain rfl:j=k:=by omega
   exact hk
end
section
open Go.RowKit Go.Sort
def RowD(w:World) (g:Nat) (d:Dc):Prop:=w.heap[g]?=some (Obj.cells (dcA d) 58)
theorem dcinfo:(Tryz.prog.info? 58).map (·.size)=some 6:=by kernel_rfl
theorem dcinfo'(d:Dc):(Tryz.prog.info? 58).map (·.size)=some (dcA d).size:=dcinfo
theorem res_dc2{fn:Func}{p u:Tmp}(h:fn.results=#[.cell p 58,.tmp u]) (tmps:Array Value) (w:World) (g:Nat){d:Dc}
 (hp:tmps.getD p undef=.pointer (some ⟨g,0,none⟩)) (hg:RowD w g d):(results fn tmps).run Tryz.prog w=.ok (.tuple #[.agg (dcA d),tmps.getD u undef]) w:=by
 rw [results_cell_tmp h,hp];have hl:=run_loadVar_row (P:=Tryz.prog) w g 58 58 _ _ _ hg Tryz.underlying58 rfl (dcinfo' d)
 simp [asAddr,Result.andThen,hl]
theorem RowD.below{w w':World}{g:Nat}{d:Dc}(h:RowD w g d) (hb:Below w.heap.size w w'):RowD w' g d:=by
 have hl:g<w.heap.size:=(Array.getElem?_eq_some_iff.1 h).1;exact(hb.block g hl).trans h
theorem RowD.set{w:World}{g:Nat}{d:Dc}(h:RowD w g d) (d':Dc):RowD (w.setRow g (dcA d')) g d':=setRow_heap _ _ _ _ _ _ h
theorem find_hit{α:Type} [Inhabited α] {f:α→Bool}:∀ {l:List α}{k:Nat},k<l.length→(∀ j,j<k→f (l[j]?.getD default)=false)→f (l[k]?.getD default)=true→l.find? f=some (l[k]?.getD default)
 | [],k,h,_,_=>by simp at h
 | a::l,0,_,_,h=>by
  have h:f a=true:=by simpa using h
  simp [List.find?,h]
 | a::l,k+1,hk,hn,h=>by
  have h0:f a=false:=by simpa using hn 0 (by omega)
  rw [List.find?_cons_of_neg (by simp [h0]),find_hit (k:=k) (by simpa using hk) (fun j hj=>by simpa using hn (j+1) (by omega)) (by simpa using h)]
  simp
theorem find_none{α:Type} [Inhabited α] {f:α→Bool}{l:List α}(hn:∀ j,j<l.length→f (l[j]?.getD default)=false):l.find? f=none:=by
 rw [List.find?_eq_none];intro a ha;obtain⟨j,hj,rfl⟩:=List.getElem_of_mem ha;have:=hn j hj;rw [List.getElem?_eq_getElem hj] at this
 simpa using this
def declV(o:Option Dc):Value:=.tuple #[.agg (dcA (o.getD default)),.bool o.isSome]
def DeclPost(w:World) (o:Option Dc) (e:Ending) (w':World):Prop:=e=.returned (declV o)∧Below w.heap.size w w'
end
section
open Go.RowKit Go.Sort
end
section
open Go.RowKit Go.Sort Go.BigFrame
end
section
open Go.RowKit Go.Sort Go.BigFrame
end
section
open Go.RowKit Go.Sort Go.BigFrame
theorem NdAt.five{w:World}{b o:Nat}{x:Nd}(h:NdAt w b o x):∃ A1 c1 A2 c2 A3 c3 A4 c4,rdN w x A1 A2 A3 A4 ∧
 w.cell? ⟨b,o,none⟩=some (.string x.nm)∧w.cell? ⟨b,o+1,none⟩=some (.slice A1 x.ins.length c1)∧w.cell? ⟨b,o+2,none⟩=some (.slice A2 x.outs.length c2)∧w.cell? ⟨b,o+3,none⟩=some (.slice A3 x.vars.length c3)∧w.cell? ⟨b,o+4,none⟩=some (.slice A4 x.eqs.length c4):=by
 obtain⟨A1,c1,A2,c2,A3,c3,A4,c4,h1,h2⟩:=h;obtain⟨d0,d1,d2,d3,d4⟩:=ndL_five h1;exact⟨A1,c1,A2,c2,A3,c3,A4,c4,h2,d0,d1,d2,d3,d4⟩
end
section
open Go.RowKit Go.Sort
def TinyQ(q:Qn):Prop:=q.ns.length≤20∧tinyX q.x=true∧∀ j,j<q.ns.length→(q.ns[j]?.getD ByteArray.empty).size≤100
def TinyN(n:Nd):Prop:=fewD n.ins=true∧fewD n.outs=true∧fewD n.vars=true∧n.eqs.length≤30∧n.nm.size≤100∧∀ j,j<n.eqs.length→TinyQ (n.eqs[j]?.getD default)
def TinyP(p:Pg):Prop:=EsTiny p.es∧p.ns.length≤10∧∀ j,j<p.ns.length→TinyN (p.ns[j]?.getD default)
end
section
open Go.RowKit Go.Sort
theorem tiny_sizeX{x:Ex}(h:tinyX x=true):sizeX x≤1000000:=by
 simp only [tinyX,Bool.and_eq_true,decide_eq_true_eq] at h;omega
theorem tiny_shortX{x:Ex}(h:tinyX x=true):∀ p∈partsX x,ShortP p:=by
 simp only [tinyX,Bool.and_eq_true,List.all_eq_true] at h;exact fun p hp=>ShortP.of_few (h.2 p hp)
theorem TinyQ.ok{q:Qn}(h:TinyQ q):OkQ q:=by
 refine⟨fun s hs=>?_,tiny_sizeX h.2.1,tiny_shortX h.2.1⟩;obtain⟨j,hj,rfl⟩:=List.getElem_of_mem hs;have:=h.2.2 j hj;rw [List.getElem?_eq_getElem hj,Option.getD_some] at this;unfold maxLen;omega
theorem fewD_ok{l:List Dc}(h:fewD l=true):(∀ d∈l,OkD d)∧l.length≤20:=by
 simp only [fewD,Bool.and_eq_true,List.all_eq_true,decide_eq_true_eq] at h;refine⟨fun d hd=>?_,h.2⟩;have h1:=h.1 d hd;simp only [dcFew,Bool.and_eq_true,Bool.not_eq_true',decide_eq_false_iff_not] at h1;unfold OkD maxLen;omega
theorem TinyN.len{n:Nd}(h:TinyN n):n.all.length≤60:=by
 have h1:=(fewD_ok h.1).2;have h2:=(fewD_ok h.2.1).2;have h3:=(fewD_ok h.2.2.1).2;rw [all_len];omega
theorem TinyN.ok{n:Nd}(h:TinyN n):OkN n:=by
 refine⟨by have:=h.2.2.2.2.1;unfold maxLen;omega,fun d hd=>?_,fun q hq=>?_⟩
 · simp only [Nd.all,List.mem_append] at hd;rcases hd with(hd | hd) | hd
   · exact(fewD_ok h.1).1 d hd
   · exact(fewD_ok h.2.1).1 d hd
   · exact(fewD_ok h.2.2.1).1 d hd
 · obtain⟨j,hj,rfl⟩:=List.getElem_of_mem hq;have:=h.2.2.2.2.2 j hj;rw [List.getElem?_eq_getElem hj,Option.getD_some] at this;exact this.ok
def rightN(es:Nat) (l:List Nd):Bool:=l.all (nodeB es rightB rightX)
def onceN(l:List Nd):Bool:=l.all fun n=>onceS (namesD n.all)
def checkN(p:Pg):Int:=
 if enumsN p.es=0 then(if p.ns.length=0 then 5 else if 6<p.ns.length then 4 else if p.ns.any manyN then 4 else if rightN p.es.length p.ns then(if onceN p.ns && onceS (p.ns.map Nd.nm) then 0 else 6) else 1) else enumsN p.es
end
section
def armR(es:List En) (s:ByteArray):Option (Int × Int × Int):=
 if(s.toList==[116,114,117,101])=true then some (2,0,1)
 else if(s.toList==[102,97,108,115,101])=true then some (2,0,0)
 else(findE es s).map fun p=>(3,(p.1:Int),(p.2.1:Int))
def ndAt(p:Pg) (i:Nat):Nd:=p.ns[i]?.getD default
end
section
open Go.RowKit Go.Sort
def f3A(a b c:Int):Array Value:=#[.int .i64 a,.int .i64 b,.int .i64 c]
def F3(T:TypeId) (W:World) (g:Nat) (a b c:Int):Prop:=W.heap[g]?=some (Obj.cells (f3A a b c) T)
section
variable {T:TypeId}{W W':World}{g:Nat}{a b c:Int}
theorem F3.lt(h:F3 T W g a b c):g<W.heap.size:=(Array.getElem?_eq_some_iff.1 h).1
theorem F3.below(h:F3 T W g a b c) (hb:Below W.heap.size W W'):F3 T W' g a b c:=(hb.block g h.lt).trans h
theorem F3.set(h:F3 T W g a b c) (x y z:Int):F3 T (W.setRow g (f3A x y z)) g x y z:=setRow_heap _ _ _ _ _ _ h
theorem F3.cell(h:F3 T W g a b c) (j:Nat):W.cell? ⟨g,j,none⟩=(f3A a b c)[j]?:=by
 have:=cell_setRow_same W g j _ (f3A a b c) _ _ h;rwa [setRow_self W g _ _ _ h] at this
theorem F3.new(T:TypeId) (W:World) (a b c:Int):F3 T (W.alloc (.cells (f3A a b c) T)) W.heap.size a b c:=heap_alloc_new _ _
end
theorem ty3_info:(Tryz.prog.info? 38).map (·.size)=some 3:=by kernel_rfl
theorem results_cell_two{fn:Func}{p u v:Tmp}{ty:TypeId}(h:fn.results=#[.cell p ty,.tmp u,.tmp v]) (tmps:Array Value) (P:Program) (w:World):
 (results fn tmps).run P w =
  ((asAddr (tmps.getD p undef)).run P w).andThen fun a w₁=>((loadVar ty a).run P w₁).andThen fun x w₂=>.ok (.tuple #[x,tmps.getD u undef,tmps.getD v undef]) w₂:=by
 simp only [results,h]
 simp [Sem.run_bind,Result.andThen]
theorem res_ty3{fn:Func}{p u v:Tmp}(h:fn.results=#[.cell p 38,.tmp u,.tmp v]) (tmps:Array Value) (w:World) (g:Nat) (a b c:Int)
 (hp:tmps.getD p undef=.pointer (some ⟨g,0,none⟩)) (hg:F3 38 w g a b c):(results fn tmps).run Tryz.prog w=.ok (.tuple #[.agg (f3A a b c),tmps.getD u undef,tmps.getD v undef]) w:=by
 rw [results_cell_two h,hp];have hl:=run_loadVar_row (P:=Tryz.prog) w g 38 38 _ _ _ hg Tryz.underlying38 rfl ty3_info
 simp [asAddr,Result.andThen,hl]
theorem f3_box{w w0:World}{T:TypeId}(h:w.alloc (.cells #[.int .i64 0,.int .i64 0,.int .i64 0] T)=w0):Below w.heap.size w w0∧F3 T w0 w.heap.size 0 0 0∧w0.heap.size=w.heap.size+1:=by
 subst h;exact⟨(Below.refl _ _).alloc (Nat.le_refl _) _,heap_alloc_new _ _,by simp⟩
def armW(o:Option (Int × Int × Int)):Value:=.tuple #[.agg (f3A ((o.map (·.1)).getD 0) ((o.map (·.2.1)).getD 0) 0),.int .i64 ((o.map (·.2.2)).getD 0),.bool o.isSome]
theorem below_set3{w w1:World}{v:Array Value}(h:Below w.heap.size w w1):Below w.heap.size w (w1.setRow w.heap.size v):=below_setRow h (Nat.le_refl _) _
theorem refArm15(A:Option Addr) (n c:Nat) (es:List En) (s:ByteArray) (w:World) (hE:RdE w A n es):
 Calls Tryz.prog 29 #[.slice A n c,.string s] w fun e w'=>e=.returned (armW (armR es s))∧Below w.heap.size w w':=by
 have HC:=Hd fun w1 (hb:Below w.heap.size w w1)=>refCtor A n c es s w1 (hE.below hb);have HA:=Hd (show armR es s=if(s.toList==[116,114,117,101])=true then some (2,0,1) else if(s.toList==[102,97,108,115,101])=true then some (2,0,0) else(findE es s).map fun p=>(3,(p.1:Int),(p.2.1:Int)) from rfl);generalize armR es s=ar at *;clear hE
 cases h1:(s.toList==[116,114,117,101]) with
 | true=>
  have HE:=Hd (show ar=some (2,0,1) by rw [HA.out,if_pos h1]);rw [HE.out]
  go_enter Tryz.func29,Tryz.ntmps29
  go_upto_region 1 with(fail)
  generalize hw0:w.alloc _=w0;obtain⟨hb0,hR,hg0⟩:=f3_box hw0;have HB0:=Hd hb0;have HR:=Hd hR;clear hb0 hR hw0
  go_wp2_with (refine wpList_store_row rfl _ _ _ rfl (w.heap.size) _ rfl rfl _ _ HR.out ty3_info rfl (by simp [Value.oneCell']) ?_)
  exact bodyPost_ret (res_ty3 (p:=4) (u:=5) (v:=6) rfl _ _ w.heap.size 2 0 0 rfl (HR.out.set 2 0 0)) rfl ⟨rfl,below_set3 HB0.out⟩
 | false=>
  cases h2:(s.toList==[102,97,108,115,101]) with
  | true=>
   have HE:=Hd (show ar=some (2,0,0) by rw [HA.out,if_neg (by rw [h1];simp),if_pos h2]);rw [HE.out]
   go_enter Tryz.func29,Tryz.ntmps29
   go_upto_region 1 with(fail)
   generalize hw0:w.alloc _=w0;obtain⟨hb0,hR,hg0⟩:=f3_box hw0;have HB0:=Hd hb0;have HR:=Hd hR;clear hb0 hR hw0
   go_wp2_with (refine wpList_store_row rfl _ _ _ rfl (w.heap.size) _ rfl rfl _ _ HR.out ty3_info rfl (by simp [Value.oneCell']) ?_)
   exact bodyPost_ret (res_ty3 (p:=4) (u:=5) (v:=6) rfl _ _ w.heap.size 2 0 0 rfl (HR.out.set 2 0 0)) rfl ⟨rfl,below_set3 HB0.out⟩
  | false=>
   have HE:=Hd (show ar=(findE es s).map fun p=>(3,(p.1:Int),(p.2.1:Int)) by rw [HA.out,if_neg (by rw [h1];simp),if_neg (by rw [h2];simp)]);unfold ctorV at HC;rw [HE.out];clear HA HE
   cases hf:findE es s with
   | none=>
    rw [hf] at HC;simp only [Option.map_none,Option.getD_none,Option.isSome_none] at HC
    go_enter Tryz.func29,Tryz.ntmps29
    go_upto_region 1 with(fail)
    generalize hw0:w.alloc _=w0;obtain⟨hb0,hR,hg0⟩:=f3_box hw0;have HB0:=Hd hb0;have HR:=Hd hR;clear hb0 hR hw0
    go_wp2_with fail
    refine(HC.out _ HB0.out).mono ?_;rintro e w1 ⟨rfl,hb1⟩;have HR1:=Hd (HR.out.below hb1);have HB1:=Hd (HB0.out.trans (hb1.mono HB0.out.size));clear hb1
    go_wp2_with (refine wpList_store_row rfl _ _ _ rfl (w.heap.size) _ rfl rfl _ _ HR1.out ty3_info rfl (by simp [Value.oneCell']) ?_)
    exact bodyPost_ret (res_ty3 (p:=4) (u:=5) (v:=6) rfl _ _ w.heap.size 0 0 0 rfl (HR1.out.set 0 0 0)) rfl ⟨rfl,below_set3 HB1.out⟩
   | some q=>
    rw [hf] at HC;simp only [Option.map_some,Option.getD_some,Option.isSome_some] at HC;rw [show(some q).map (fun p:Pl=>((3:Int),(p.1:Int),(p.2.1:Int)))=some (3,(q.1:Int),(q.2.1:Int)) from rfl];generalize q.1=qa at *;generalize q.2.1=qb at *
    go_enter Tryz.func29,Tryz.ntmps29
    go_upto_region 1 with(fail)
    generalize hw0:w.alloc _=w0;obtain⟨hb0,hR,hg0⟩:=f3_box hw0;have HB0:=Hd hb0;have HR:=Hd hR;clear hb0 hR hw0
    go_wp2_with fail
    refine(HC.out _ HB0.out).mono ?_;rintro e w1 ⟨rfl,hb1⟩;have HR1:=Hd (HR.out.below hb1);have HB1:=Hd (HB0.out.trans (hb1.mono HB0.out.size));clear hb1
    go_wp2_with (refine wpList_store_row rfl _ _ _ rfl (w.heap.size) _ rfl rfl _ _ HR1.out ty3_info rfl (by simp [Value.oneCell']) ?_)
    exact bodyPost_ret (res_ty3 (p:=4) (u:=5) (v:=6) rfl _ _ w.heap.size 3 qa 0 rfl (HR1.out.set 3 qa 0)) rfl ⟨rfl,below_set3 HB1.out⟩
end
section
open Go.RowKit Go.Sort
end
section
open Go.RowKit Go.Sort
def FewQ(n:Nd):Prop:=n.eqs.length≤1000∧∀ q∈n.eqs,q.ns.length≤1000
theorem FewQ.at_{n:Nd}(h:FewQ n){i:Nat}(hi:i<n.eqs.length):(n.eqs[i]?.getD default).ns.length≤1000:=by
 rw [List.getElem?_eq_getElem hi,Option.getD_some];exact h.2 _ (List.getElem_mem _)
end
section
open Go.RowKit Go.Sort Go.BigFrame
theorem nd_at15{w:World}{A:Option Addr}{n i:Nat}{l:List Nd}(h:RdNs w A n l) (hi:i<n):
 ∃ b off A1 c1 A2 c2 A3 c3 A4 c4,A=some ⟨b,off,none⟩∧b<w.heap.size∧rdN w (l[i]?.getD default) A1 A2 A3 A4 ∧
 w.cell? ⟨b,off+i*5,none⟩=some (.string (l[i]?.getD default).nm)∧w.cell? ⟨b,off+i*5+1,none⟩=some (.slice A1 (l[i]?.getD default).ins.length c1)∧w.cell? ⟨b,off+i*5+2,none⟩=some (.slice A2 (l[i]?.getD default).outs.length c2)∧w.cell? ⟨b,off+i*5+3,none⟩=some (.slice A3 (l[i]?.getD default).vars.length c3)∧w.cell? ⟨b,off+i*5+4,none⟩=some (.slice A4 (l[i]?.getD default).eqs.length c4):=by
 obtain⟨b,off,e,hb,hc⟩:=RdS.at_ h (by omega);obtain⟨A1,c1,A2,c2,A3,c3,A4,c4,h1,h2⟩:=hc i hi;obtain⟨d0,d1,d2,d3,d4⟩:=ndL_five h1;exact⟨b,off,A1,c1,A2,c2,A3,c3,A4,c4,e,hb,h2,d0,d1,d2,d3,d4⟩
end
section
open Go.RowKit Go.Sort Go.BigFrame
end
section
open Go.RowKit Go.Sort Go.BigFrame
end
section
open Go.RowKit Go.Sort
theorem tiny_few{n:Nd}(h:TinyN n):n.all.length≤1000∧FewQ n∧∀ j,j<n.eqs.length→sizeX (n.eqs[j]?.getD default).x≤1000000:=by
 have h1:=(fewD_ok h.1).2;have h2:=(fewD_ok h.2.1).2;have h3:=(fewD_ok h.2.2.1).2;have h4:=h.2.2.2.1;refine⟨by rw [all_len];omega,⟨by omega,fun q hq=>?_⟩,fun j hj=>tiny_sizeX (h.2.2.2.2.2 j hj).2.1⟩;obtain⟨j,hj,rfl⟩:=List.getElem_of_mem hq;have:=(h.2.2.2.2.2 j hj).1;rw [List.getElem?_eq_getElem hj,Option.getD_some] at this;omega
end
section
open Go.RowKit
abbrev T3:=Int × Int × Int
def tyD(d:Dc):T3:=(d.k,d.e,d.l)
def dcTy(o:Option Dc):T3:=(o.map tyD).getD (0,0,0)
def optT(o:Option Int):Option T3:=o.map fun k=>(k,0,0)
def litT(es:List En) (x:Ex):Option (T3 × Int):=
 if(x.k==1)=true then some ((1,0,0),x.n)
 else if(x.k==2)=true then some ((2,0,0),x.n)
 else if(x.k==5)=true then some ((1,0,0),wrap64 (-(subX x 0).n))
 else(armR es x.s).map fun r=>((r.1,r.2.1,0),r.2.2)
def arrT(es:List En) (l:List Ex):Nat→Option (List Int × T3)
 | 0=>some ([],(0,0,0))
 | k+1=>match arrT es l k with
  | none=>none
  | some r=>match litT es (l[k]?.getD default) with
   | none=>none
   | some t=>if 0<k∧¬ t.1=r.2 then none else some (r.1++[t.2],t.1)
def constT(es:List En) (x:Ex):Option (List Int × T3):=
 if(rightX x && constX x)=false then none
 else if(x.k==14)=true then(arrT es x.subs x.subs.length).map fun r=>(r.1,(r.2.1,r.2.2.1,(x.subs.length:Int)))
 else(litT es x).map fun r=>([r.2],r.1)
def truthT(t:T3):Bool:=decide (t=(2,0,0))
def wholeT(t:T3):Bool:=decide (t=(1,0,0))
def oneT(t:T3):T3:=(t.1,t.2.1,0)
def atT(l:List T3) (i:Nat):T3:=l[i]?.getD (0,0,0)
def allT(l:List T3):Bool:=l.all fun t=>decide (t=atT l 0)
def armsT(es:List En) (t:T3) (arms:List ByteArray):Bool:=
 if truthT t=true then decide (arms.length=2) && (((arms[0]?.getD ByteArray.empty).toList==[116,114,117,101]) && ((arms[1]?.getD ByteArray.empty).toList==[102,97,108,115,101]))
 else decide (t.1=3) && (decide (t.2.2=0) && sameT arms (csE es t.2.1.toNat))
def callT(p:Pg) (x:Ex) (ts:List T3):Option Nat:=
 if findN p x.s<0 then none
 else if ¬ ((ts.length:Int)-x.n=((ndAt p (findN p x.s).toNat).ins.length:Int)) then none
 else if(x.n==1 && !truthT (atT ts (ts.length-1)))=true then none
 else if(List.range (ndAt p (findN p x.s).toNat).ins.length).all (fun k=>decide (tyD ((ndAt p (findN p x.s).toNat).ins[k]?.getD default)=atT ts k))=true then some (findN p x.s).toNat else none
def flowT(p:Pg) (i:Nat) (x:Ex) (ts:List T3):Option T3:=
 if(x.k==9)=true then(if atT ts 0=atT ts 1 then some (atT ts 0) else none)
 else if(x.k==10)=true then some (atT ts 0)
 else if(x.k==11)=true then
  match declO (ndAt p i) x.s with
  | none=>none
  | some d=>match armR p.es (x.arms[0]?.getD ByteArray.empty) with
   | none=>none
   | some r=>if((r.1,r.2.1,0):T3)=tyD d then some (atT ts 0) else none
 else if(x.k==12)=true then
  match declO (ndAt p i) x.s with
  | none=>none
  | some d=>if(allT ts && armsT p.es (tyD d) x.arms)=true then some (atT ts 0) else none
 else match callT p x ts with
  | none=>none
  | some j=>if(ndAt p j).outs.length=1 then some (tyD ((ndAt p j).outs[0]?.getD default)) else none
def plainT(x:Ex) (ts:List T3):Option T3:=
 if(x.k==5)=true then optT (unTyI x.op (atT ts 0).1 (atT ts 0).2.1 (atT ts 0).2.2)
 else if(x.k==6)=true then optT (binTyI x.op (isP 1 (atT ts 0).1 (atT ts 0).2.1 (atT ts 0).2.2 && isP 1 (atT ts 1).1 (atT ts 1).2.1 (atT ts 1).2.2)
  (isP 2 (atT ts 0).1 (atT ts 0).2.1 (atT ts 0).2.2 && isP 2 (atT ts 1).1 (atT ts 1).2.1 (atT ts 1).2.2) (sameB (atT ts 0).1 (atT ts 0).2.1 (atT ts 0).2.2 (atT ts 1).1 (atT ts 1).2.1 (atT ts 1).2.2))
 else if(x.k==7)=true then(if(truthT (atT ts 0) && decide (atT ts 1=atT ts 2))=true then some (atT ts 1) else none)
 else if(x.k==14)=true then(if(allT ts && decide ((atT ts 0).2.2=0))=true then some ((atT ts 0).1,(atT ts 0).2.1,(ts.length:Int)) else none)
 else if(x.k==15)=true then(if(decide (0<(atT ts 0).2.2) && wholeT (atT ts 1))=true then some (oneT (atT ts 0)) else none)
 else if(decide (0<(atT ts 0).2.2) && (wholeT (atT ts 1) && decide (atT ts 2=oneT (atT ts 0))))=true then some (atT ts 0) else none
def seqO{α:Type}:List (Option α)→Option (List α)
 | []=>some []
 | none::_=>none
 | some a::l=>(seqO l).map (a::·)
def ofT(p:Pg) (i:Nat) (x:Ex) (l:List (Option T3)):Option T3:=
 if(x.k==1 || x.k==2 || x.k==4)=true then(constT p.es x).map (·.2)
 else if(x.k==3)=true then(declO (ndAt p i) x.s).map tyD
 else if(x.k==8)=true then
  match constT p.es (subX x 0) with
  | none=>none
  | some c=>match l[1]?.getD none with
   | none=>none
   | some u=>if c.2=u then some u else none
 else if(x.k==17)=true then none
 else match seqO l with
  | none=>none
  | some ts=>if(decide (9≤x.k) && decide (x.k≤13))=true then flowT p i x ts else plainT x ts
mutual
def typX(p:Pg) (i:Nat):Ex→Option T3
 | .mk k n s op arms subs=>ofT p i (.mk k n s op arms subs) (typL p i subs)
def typL(p:Pg) (i:Nat):List Ex→List (Option T3)
 | []=>[]
 | x::l=>typX p i x::typL p i l
end
theorem typL_eq(p:Pg) (i:Nat):∀ l,typL p i l=l.map (typX p i)
 | []=>by simp only [typL,List.map_nil]
 | x::l=>by simp only [typL,List.map_cons,typL_eq p i l]
theorem typX_eq(p:Pg) (i:Nat) (x:Ex):typX p i x=ofT p i x (x.subs.map (typX p i)):=by
 cases x
 simp only [typX,typL_eq,Ex.subs]
def typOf(p:Pg) (i:Int) (x:Ex):Option T3:=if i<0∨(p.ns.length:Int)≤i then none else typX p i.toNat x
theorem seqO_len{α:Type}:∀ {l:List (Option α)}{ts:List α},seqO l=some ts→ts.length=l.length
 | [],ts,h=>by injection h with h;subst h;rfl
 | none::l,ts,h=>by cases h
 | some a::l,ts,h=>by
  simp only [seqO,Option.map_eq_some_iff] at h;obtain⟨t,h1,rfl⟩:=h
  simp [seqO_len h1]
theorem seqO_take{α:Type} [Inhabited α]:∀ {l:List (Option α)}{ts:List α}{k:Nat},k<l.length→seqO (l.take k)=some ts→∀ {a:α},l[k]?.getD none=some a→seqO (l.take (k+1))=some (ts++[a])
 | [],ts,k,hk,_,_,_=>by simp at hk
 | o::l,ts,0,_,h,a,ha=>by
  simp only [List.take_zero,seqO] at h;injection h with h;subst h;have ha:o=some a:=by simpa using ha
  subst ha
  simp [seqO]
 | none::l,ts,k+1,_,h,a,ha=>by simp [seqO] at h
 | some b::l,ts,k+1,hk,h,a,ha=>by
  simp only [List.take_succ_cons,seqO,Option.map_eq_some_iff] at h;obtain⟨t,h1,rfl⟩:=h;have:=seqO_take (l:=l) (by simpa using hk) h1 (a:=a) (by simpa using ha);rw [List.take_succ_cons];simp only [seqO];rw [this]
  simp
theorem seqO_none{α:Type}:∀ {l:List (Option α)}{k:Nat},k<l.length→l[k]?.getD none=none→seqO l=none
 | [],k,hk,_=>by simp at hk
 | none::l,0,_,_=>rfl
 | some b::l,0,_,h=>by simp at h
 | none::l,k+1,_,_=>rfl
 | some b::l,k+1,hk,h=>by
  have:=seqO_none (l:=l) (k:=k) (by simpa using hk) (by simpa using h);simp only [seqO,this,Option.map_none]
end
section
open Go.RowKit Go.Sort
theorem t3_cases(a b c a' b' c':Int):(a=a'∧b=b'∧c=c'∧(((a,b,c):T3)=(a',b',c')))∨((a==a')=false∧¬ ((a,b,c):T3)=(a',b',c'))∨(a=a'∧(b==b')=false∧¬ ((a,b,c):T3)=(a',b',c'))∨(a=a'∧b=b'∧(c==c')=false∧¬ ((a,b,c):T3)=(a',b',c')):=by
 by_cases h1:a=a'
 · by_cases h2:b=b'
   · by_cases h3:c=c'
     · exact .inl ⟨h1,h2,h3,by rw [h1,h2,h3]⟩
     · exact .inr (.inr (.inr ⟨h1,h2,by simpa using h3,fun e=>h3 (by injection e with _ e;injection e)⟩))
   · exact .inr (.inr (.inl ⟨h1,by simpa using h2,fun e=>h2 (by injection e with _ e;injection e)⟩))
 · exact .inr (.inl ⟨by simpa using h1,fun e=>h1 (by injection e)⟩)
theorem f3_set{T:TypeId}{W:World}{g:Nat}{a b c:Int}(h:F3 T W g a b c) (x y z:Int):
 ((W.setCell ⟨g,0,none⟩ (.int .i64 x)).setCell ⟨g,1,none⟩ (.int .i64 y)).setCell ⟨g,2,none⟩ (.int .i64 z)=W.setRow g (f3A x y z):=by
 unfold F3 at h;rw [setCell_eq_setRow _ _ _ _ _ _ _ h];have h1:=setRow_heap _ _ _ ((f3A a b c).setIfInBounds 0 (.int .i64 x)) _ _ h;rw [setCell_eq_setRow _ _ _ _ _ _ _ h1,setRow_setRow];have h2:=setRow_heap _ _ _ (((f3A a b c).setIfInBounds 0 (.int .i64 x)).setIfInBounds 1 (.int .i64 y)) _ _ h;rw [setCell_eq_setRow _ _ _ _ _ _ _ h2,setRow_setRow];rfl
theorem f3_out{T:TypeId}{w w2 w4:World}{r:Nat}{a b c x y z:Int}(hT:F3 T w2 r a b c) (hb:Below w.heap.size w w2) (hr:w.heap.size≤r)
 (h:(((w2.setCell ⟨r,0,none⟩ (.int .i64 x)).setCell ⟨r,1,none⟩ (.int .i64 y)).setCell ⟨r,2,none⟩ (.int .i64 z)).drew=w4):F3 T w4 r x y z∧Below w.heap.size w w4:=by
 rw [f3_set hT] at h;subst h;exact⟨hT.set x y z,Below.drew (below_setRow hb hr _)⟩
end
section
open Go.RowKit Go.Sort
theorem ty_box{w w0:World}{T:TypeId}{a b c:Int}(h:w.alloc (.cells (f3A a b c) T)=w0):Below w.heap.size w w0∧F3 T w0 w.heap.size a b c∧w0.heap.size=w.heap.size+1:=by
 subst h;exact⟨(Below.refl _ _).alloc (Nat.le_refl _) _,heap_alloc_new _ _,by simp⟩
theorem F3.three{T:TypeId}{W:World}{g:Nat}{a b c:Int}(h:F3 T W g a b c):W.cell? ⟨g,0,none⟩=some (.int .i64 a)∧W.cell? ⟨g,1,none⟩=some (.int .i64 b)∧W.cell? ⟨g,2,none⟩=some (.int .i64 c):=
 ⟨h.cell 0,h.cell 1,h.cell 2⟩
end
section
open Go.RowKit Go.Sort
def tyL3(t:T3):List Value:=[.int .i64 t.1,.int .i64 t.2.1,.int .i64 t.2.2]
def TyAt(w:World) (b o:Nat) (t:T3):Prop:=w.rangeAt b o (tyL3 t)
def RdY(w:World) (A:Option Addr) (n:Nat) (l:List T3):Prop:=RdS 3 TyAt w A n l
theorem keeps_ty:KeepsAt TyAt:=fun h hb hs hk=>rangeAt_keep h hb hk
section
variable {w w':World}{A:Option Addr}{n:Nat}{l:List T3}
theorem RdY.below(h:RdY w A n l) (hb:Below w.heap.size w w'):RdY w' A n l:=RdS.keep keeps_ty h hb.size fun _ hp=>hb.cell hp
theorem RdY.len(h:RdY w A n l):l.length=n:=RdS.len h
theorem RdY.max(h:RdY w A n l):n≤9223372036854775807:=RdS.max h
theorem RdY.at_(h:RdY w A n l){i:Nat}(hi:i<n):∃ b off,A=some ⟨b,off,none⟩∧b<w.heap.size∧∀ i,i<n→w.cell? ⟨b,off+i*3,none⟩=some (.int .i64 (atT l i).1)∧w.cell? ⟨b,off+i*3+1,none⟩=some (.int .i64 (atT l i).2.1)∧w.cell? ⟨b,off+i*3+2,none⟩=some (.int .i64 (atT l i).2.2):=by
 obtain⟨b,off,e,hb,hc⟩:=RdS.at_ h (by omega);exact⟨b,off,e,hb,fun i hi=>⟨hc i hi 0 _ rfl,hc i hi 1 _ rfl,hc i hi 2 _ rfl⟩⟩
end
theorem atT_get{l:List T3}{i:Nat}(h:i<l.length):atT l i=l[i]'h:=by unfold atT;rw [List.getElem?_eq_getElem h,Option.getD_some]
end
section
open Go.RowKit Go.Sort
theorem findI_in{α:Type}{f:α→Bool}:∀ (l:List α) (i:Nat),findI f l i=-1∨∃ k:Nat,findI f l i=((i+k:Nat):Int)∧k<l.length
 | [],i=>.inl rfl
 | a::l,i=>by
  unfold findI
  cases f a with
  | true=>exact .inr ⟨0,by simp,by simp⟩
  | false=>
   rcases findI_in (f:=f) l (i+1) with h | ⟨k,h,hk⟩
   · exact .inl (by simpa using h)
   · exact .inr ⟨k+1,by simp only [Bool.false_eq_true,if_false,h];congr 1;omega,by simpa using hk⟩
theorem findN_in(p:Pg) (s:ByteArray):findN p s=-1∨∃ k:Nat,findN p s=(k:Int)∧k<p.ns.length:=by
 rcases findI_in (f:=fun n:Nd=>n.nm.data.toList==s.data.toList) p.ns 0 with h | ⟨k,h,hk⟩
 · exact .inl h
 · exact .inr ⟨k,by simpa [findN] using h,hk⟩
theorem row_later{w0:World}{g:Nat}{cs:Array Value}{T:TypeId}(h:w0.heap[g]?=some (Obj.cells cs T)):∀ w',Below w0.heap.size w0 w'→∀ j,w'.cell? ⟨g,j,none⟩=cs[j]?:=fun w' hb j=>by
 have hlt:g<w0.heap.size:=(Array.getElem?_eq_some_iff.1 h).1;have h2:=(hb.block g hlt).trans h;unfold World.cell?;rw [show w'.heap[(⟨g,j,none⟩:Addr).block]?=_ from h2];rfl
end
section
open Go.RowKit Go.Sort
theorem RdY.three{w:World}{b off n c:Nat}{l:List T3}(h:RdY w (some ⟨b,off,none⟩) n l){i:Nat}(hi:i<n):w.cell? ⟨b,off+i*3,none⟩=some (.int .i64 (atT l i).1)∧w.cell? ⟨b,off+i*3+1,none⟩=some (.int .i64 (atT l i).2.1)∧w.cell? ⟨b,off+i*3+2,none⟩=some (.int .i64 (atT l i).2.2):=by
 obtain⟨b',off',e,_,hc⟩:=h.at_ hi;injection e with e;injection e with e1 e2;subst e1 e2;exact hc i hi
end
section
open Go.RowKit Go.Sort
theorem results_tmp_cell_tmp{fn:Func}{p u v:Tmp}{ty:TypeId}(h:fn.results=#[.tmp u,.cell p ty,.tmp v]) (tmps:Array Value) (P:Program) (w:World):
 (results fn tmps).run P w =
  ((asAddr (tmps.getD p undef)).run P w).andThen fun a w₁=>((loadVar ty a).run P w₁).andThen fun x w₂=>.ok (.tuple #[tmps.getD u undef,x,tmps.getD v undef]) w₂:=by
 simp only [results,h]
 simp [Sem.run_bind,Result.andThen]
theorem res_xty{fn:Func}{p u v:Tmp}(h:fn.results=#[.tmp u,.cell p 38,.tmp v]) (tmps:Array Value) (w:World) (g:Nat) (a b c:Int)
 (hp:tmps.getD p undef=.pointer (some ⟨g,0,none⟩)) (hg:F3 38 w g a b c):(results fn tmps).run Tryz.prog w=.ok (.tuple #[tmps.getD u undef,.agg (f3A a b c),tmps.getD v undef]) w:=by
 rw [results_tmp_cell_tmp h,hp];have hl:=run_loadVar_row (P:=Tryz.prog) w g 38 38 _ _ _ hg Tryz.underlying38 rfl ty3_info
 simp [asAddr,Result.andThen,hl]
def litV(o:Option (T3 × Int)):Value:=.tuple #[.int .i64 ((o.map (·.2)).getD 0),.agg (f3A ((o.map (·.1.1)).getD 0) ((o.map (·.1.2.1)).getD 0) ((o.map (·.1.2.2)).getD 0)),.bool o.isSome]
theorem box_res{w w0:World}{x:Ex}{A:Option Addr}{ca:Nat}{B:Option Addr}{cb:Nat}{T U:TypeId}(h:(w.alloc (.cells (exA x A ca B cb) T)).alloc (.cells #[.int .i64 0,.int .i64 0,.int .i64 0] U)=w0):
 F3 U w0 (w.heap.size+1) 0 0 0∧(∀ w',Below w0.heap.size w0 w'→∀ j,w'.cell? ⟨w.heap.size,j,none⟩=(exA x A ca B cb)[j]?)∧Below w.heap.size w w0∧w0.heap.size=w.heap.size+2:=by
 subst h;have h0:=F3.new U (w.alloc (.cells (exA x A ca B cb) T)) 0 0 0;have e1:(w.alloc (.cells (exA x A ca B cb) T)).heap.size=w.heap.size+1:=by simp
 rw [e1] at h0;refine⟨h0,fun w' hb j=>?_,((Below.refl _ _).alloc (Nat.le_refl _) _).alloc (by simp) _,by simp⟩;have hr:((w.alloc (.cells (exA x A ca B cb) T)).alloc (.cells #[.int .i64 0,.int .i64 0,.int .i64 0] U)).heap[w.heap.size]?=some (.cells (exA x A ca B cb) T):=heap_up _ (heap_alloc_new _ _);have h2:=(hb.block w.heap.size (by simp;omega)).trans hr;unfold World.cell?;rw [show w'.heap[(⟨w.heap.size,j,none⟩:Addr).block]?=_ from h2];rfl
theorem refLit16(l:Option Addr) (n c:Nat) (es:List En) (x:Ex) (A:Option Addr) (ca:Nat) (B:Option Addr) (cb:Nat) (w:World) (hE:RdE w l n es) (hr:rdX w x A B) (hx:literalX x=true):
 Calls Tryz.prog 49 #[.slice l n c,.agg (exA x A ca B cb)] w fun e w'=>e=.returned (litV (litT es x))∧Below w.heap.size w w':=by
 have HF:=Hd fun w0 h=>box_res (w:=w) (w0:=w0) (x:=x) (A:=A) (ca:=ca) (B:=B) (cb:=cb) (T:=35) (U:=38) h;have HAR:=Hd fun w1 (hb:Below w.heap.size w w1)=>refArm15 l n c es x.s w1 (hE.below hb);have HS:=Hd (show litT es x=if(x.k==1)=true then some ((1,0,0),x.n) else if(x.k==2)=true then some ((2,0,0),x.n) else if(x.k==5)=true then some ((1,0,0),wrap64 (-(subX x 0).n)) else(armR es x.s).map fun r=>((r.1,r.2.1,0),r.2.2) from rfl)
 have HSB:=Hd fun w1 (hb:Below w.heap.size w w1) (h5:x.k=5)=>(show ∃ b off,B=some ⟨b,off,none⟩∧x.subs.length=1∧w1.cell? ⟨b,off+1,none⟩=some (.int .i64 (subX x 0).n) from by
  have h1:x.subs.length=1:=by
   unfold literalX at hx;rw [h5] at hx
   simp at hx
   exact hx.1.2
  obtain⟨b,off,e,hb',hat⟩:=(hr.below hb).sub (i:=0) (by omega);obtain⟨A',c',B',d',hrg,_⟩:=hat 0 (by omega);obtain⟨c0,c1,-⟩:=rangeAt_six hrg;exact⟨b,off,e,h1,by simpa using c1⟩)
 clear hE hr hx;unfold exA at HF ⊢;generalize litT es x=out at *;generalize armR es x.s=ar at *;generalize hk:x.k=k at *
 by_cases h1:k=1
 · subst h1;have HN:=Hd (show out=some ((1,0,0),x.n) from HS.out);rw [HN.out]
   go_enter Tryz.func49,Tryz.ntmps49
   go_upto_region 1 with(fail)
   generalize hw0:(w.alloc _).alloc _=w0;obtain⟨hR,hcell,hb0,hsz⟩:=HF.out w0 hw0;have HR:=Hd hR;have HB0:=Hd hb0;have q0:=hcell w0 (Below.refl _ _) 0;have q1:=hcell w0 (Below.refl _ _) 1;simp only [Ya,Yb,Yc] at q0 q1;clear hw0 hR hcell hb0 hsz HF HSB HAR HS
   go_wp2_with (refine wpList_store_row rfl _ _ _ rfl (w.heap.size+1) _ rfl rfl _ _ HR.out ty3_info rfl (by simp [Value.oneCell']) ?_)
   exact bodyPost_ret (res_xty (p:=5) (u:=4) (v:=6) rfl _ _ (w.heap.size+1) 1 0 0 rfl (HR.out.set 1 0 0)) rfl ⟨rfl,below_setRow HB0.out (by omega) _⟩
 by_cases h2:k=2
 · subst h2;have HN:=Hd (show out=some ((2,0,0),x.n) from HS.out);rw [HN.out]
   go_enter Tryz.func49,Tryz.ntmps49
   go_upto_region 1 with(fail)
   generalize hw0:(w.alloc _).alloc _=w0;obtain⟨hR,hcell,hb0,hsz⟩:=HF.out w0 hw0;have HR:=Hd hR;have HB0:=Hd hb0;have q0:=hcell w0 (Below.refl _ _) 0;have q1:=hcell w0 (Below.refl _ _) 1;simp only [Ya,Yb,Yc] at q0 q1;clear hw0 hR hcell hb0 hsz HF HSB HAR HS
   go_wp2_with (refine wpList_store_row rfl _ _ _ rfl (w.heap.size+1) _ rfl rfl _ _ HR.out ty3_info rfl (by simp [Value.oneCell']) ?_)
   exact bodyPost_ret (res_xty (p:=5) (u:=4) (v:=6) rfl _ _ (w.heap.size+1) 2 0 0 rfl (HR.out.set 2 0 0)) rfl ⟨rfl,below_setRow HB0.out (by omega) _⟩
 have e1:(k==1)=false:=by simpa using h1
 have e2:(k==2)=false:=by simpa using h2
 by_cases h5:k=5
 · subst h5;obtain⟨b,off,rfl,hl,hc⟩:=HSB.out w (Below.refl _ _) rfl;have HSC:=Hd hc;generalize (subX x 0).n=z at *;have HN:=Hd (show out=some ((1,0,0),wrap64 (-z)) from HS.out);rw [HN.out];rw [hl] at HF ⊢;have hbl:=World.block_lt_of_cell? _ _ hc
   go_enter Tryz.func49,Tryz.ntmps49
   go_upto_region 1 with(fail)
   generalize hw0:(w.alloc _).alloc _=w0;obtain⟨hR,hcell,hb0,hsz⟩:=HF.out w0 hw0;have HR:=Hd hR;have HB0:=Hd hb0;have q0:=hcell w0 (Below.refl _ _) 0;have q5:=hcell w0 (Below.refl _ _) 5;simp only [Ya,Yb,Yc] at q0 q5;have c1:=(hb0.cell (p:=⟨b,off+1,none⟩) hbl).trans HSC.out;clear hw0 hR hcell hb0 hsz HF HSB HAR HS hc hbl h1 h2 e1 e2
   go_wp2_with (refine wpList_store_row rfl _ _ _ rfl (w.heap.size+1) _ rfl rfl _ _ HR.out ty3_info rfl (by simp [Value.oneCell']) ?_)
   exact bodyPost_ret (res_xty (p:=5) (u:=4) (v:=6) rfl _ _ (w.heap.size+1) 1 0 0 rfl (HR.out.set 1 0 0)) rfl ⟨rfl,below_setRow HB0.out (by omega) _⟩
 have e5:(k==5)=false:=by simpa using h5
 have HV:=Hd (show litV out=.tuple #[.int .i64 ((ar.map (·.2.2)).getD 0),.agg (f3A ((ar.map (·.1)).getD 0) ((ar.map (·.2.1)).getD 0) 0),.bool ar.isSome] from by
  rw [HS.out,e1,e2,e5]
  cases ar <;> rfl)
 unfold armW at HAR;rw [HV.out];clear HV HS h1 h2 h5 HSB;generalize (ar.map (·.2.2)).getD 0=z at *;generalize (ar.map (·.1)).getD 0=a at *;generalize (ar.map (·.2.1)).getD 0=b at *;generalize ar.isSome=t at *;clear out ar
 go_enter Tryz.func49,Tryz.ntmps49
 go_upto_region 1 with(fail)
 generalize hw0:(w.alloc _).alloc _=w0;obtain⟨hR,hcell,hb0,hsz⟩:=HF.out w0 hw0;have HR:=Hd hR;have HB0:=Hd hb0;have q0:=hcell w0 (Below.refl _ _) 0;have q2:=hcell w0 (Below.refl _ _) 2;simp only [Ya,Yb,Yc] at q0 q2;clear hw0 hR hcell hb0 HF;have hlt:w.heap.size+1<w0.heap.size:=by omega
 clear hsz
 go_wp2_with fail
 refine(HAR.out w0 HB0.out).mono ?_;rintro e w1 ⟨rfl,hb1⟩;have HR1:=Hd (HR.out.below hb1);have HB1:=Hd (HB0.out.trans (hb1.mono HB0.out.size));have hlt1:w.heap.size+1<w1.heap.size:=by have:=hb1.size;omega
 clear hb1 q0 q2 hlt;unfold f3A
 go_upto_region 9 with(fail)
 generalize hw2:w1.alloc _=w2
 have h3:F3 38 w2 w1.heap.size a b 0∧F3 38 w2 (w.heap.size+1) 0 0 0∧Below w.heap.size w w2:=by
  subst hw2;exact⟨F3.new _ _ _ _ _,heap_up _ HR1.out,HB1.out.alloc HB1.out.size _⟩
 obtain⟨hS,hT,hb2⟩:=h3;have HT:=Hd hT;have HB2:=Hd hb2;obtain⟨s0,s1,s2,-,-,-⟩:=Sx hS.cell;obtain⟨t0,t1,t2,-,-,-⟩:=Sx hT.cell;simp only [f3A,List.getElem?_toArray,List.getElem?_cons_zero,List.getElem?_cons_succ] at s0 s1 s2 t0 t1 t2;have fz:∀ j,w2.frozen? ⟨w.heap.size+1,j,none⟩=false:=fun j=>frozen_of_row w2 _ j _ _ hT;have n1:w.heap.size+1≠w1.heap.size:=by omega
 have n2:w1.heap.size≠w.heap.size+1:=by omega
 clear hw2 hS hT hb2;generalize w1.heap.size=g at *
 go_region
 generalize hw4:World.drew _=w4;obtain⟨hF,hB⟩:=f3_out HT.out HB2.out (by omega) hw4;have HF4:=Hd hF;have HB4:=Hd hB;clear hw4 hF hB
 go_wp2_with fail
 exact bodyPost_ret (res_xty (p:=5) (u:=4) (v:=6) rfl _ _ (w.heap.size+1) a b 0 rfl HF4.out) rfl ⟨rfl,HB4.out⟩
end
section
open Go.RowKit Go.Sort Go.BigFrame
def RdI(w:World) (A:Option Addr) (n:Nat) (l:List Int):Prop:=RdS 1 (fun w b o z=>w.cell? ⟨b,o,none⟩=some (.int .i64 z)) w A n l
def ConstAns(w:World) (o:Option (List Int × T3)) (e:Ending) (w':World):Prop:=
 ∃ S n c a b d vs,e=.returned (.tuple #[.slice S n c,.agg (f3A a b d),.bool o.isSome])∧RdI w' S n vs∧n≤c∧c≤maxLen∧((∀ r,o=some r→r=(vs,(a,b,d)))∧(o=none→vs=[]∧a=0∧b=0∧d=0))∧Below w.heap.size w w'
theorem RdI.nil_(w:World):RdI w none 0 []:=RdS.nil_ _ _ _
theorem constT_no{es:List En}{x:Ex}(h:(rightX x && constX x)=false):constT es x=none:=by unfold constT;rw [if_pos h]
theorem constT_lit{es:List En}{x:Ex}(h:(rightX x && constX x)=true) (hk:x.k≠14):constT es x=(litT es x).map fun r=>([r.2],r.1):=by
 unfold constT;rw [if_neg (by rw [h];decide),if_neg (by simpa using hk)]
theorem xt_box{w w0:World}{x:Ex}{A:Option Addr}{ca:Nat}{B:Option Addr}{cb:Nat}(h:(w.alloc (.cells (exA x A ca B cb) 35)).alloc (.cells #[.int .i64 0,.int .i64 0,.int .i64 0] 38)=w0):
 F3 38 w0 (w.heap.size+1) 0 0 0∧(∀ w',Below w0.heap.size w0 w'→∀ j,w'.cell? ⟨w.heap.size,j,none⟩=(exA x A ca B cb)[j]?)∧Below w.heap.size w w0∧w0.heap.size=w.heap.size+2:=box_res h
theorem refConstNo(l:Option Addr) (n c:Nat) (x:Ex) (A:Option Addr) (ca:Nat) (B:Option Addr) (cb:Nat) (w:World) (hr:rdX w x A B) (hs:sizeX x≤1000000) (hsh:∀ p∈partsX x,ShortP p) (hno:(rightX x && constX x)=false):
 Calls Tryz.prog 18 #[.slice l n c,.agg (exA x A ca B cb)] w (ConstAns w none):=by
 have HF:=Hd fun w0 h=>xt_box (w:=w) (w0:=w0) (x:=x) (A:=A) (ca:=ca) (B:=B) (cb:=cb) h;have HRI:=Hd fun w1 (hb:Below w.heap.size w w1)=>refRight x A ca B cb w1 (hr.below hb) hs hsh;have HCO:=Hd fun w1 (hb:Below w.heap.size w w1)=>refConst x A ca B cb w1 (hr.below hb);clear hr hs hsh;generalize rightX x=br at *;generalize constX x=bc at *;unfold exA at HF HRI HCO ⊢
 go_enter Tryz.func18,Tryz.ntmps18
 go_upto_region 1 with(fail)
 generalize hw0:(w.alloc _).alloc _=w0;obtain⟨hR,hx,hb0,hsz⟩:=HF.out w0 hw0;have HR:=Hd hR;have HX:=Hd hx;have HB0:=Hd hb0;obtain⟨q0,q1,q2,q3,q4,q5⟩:=Sx (hx w0 (Below.refl _ _));simp only [Ya,Yb,Yc] at q0 q1 q2 q3 q4 q5;have HR1:=Hd (HRI.out w0 hb0);clear hw0 hR hx hb0 hsz HF HRI
 cases br with
 | false=>
  go_wp2_with fail
  refine HR1.out.mono ?_;rintro e w1 ⟨rfl,hb1⟩;have HRY:=Hd (HR.out.below hb1);have HB1:=Hd (HB0.out.trans (hb1.mono HB0.out.size));clear hb1 q0 q1 q2 q3 q4 q5 HR1 HCO
  go_upto_region 2 with(fail)
  go_wp2_with (refine wpList_store_row rfl _ _ _ rfl (w.heap.size+1) _ rfl rfl _ _ HRY.out ty3_info rfl (by simp [Value.oneCell']) ?_)
  exact bodyPost_ret (res_xty (p:=5) (u:=4) (v:=6) rfl _ _ (w.heap.size+1) 0 0 0 rfl (HRY.out.set _ _ _)) rfl ⟨none,0,0,0,0,0,[],rfl,RdI.nil_ _,Nat.le_refl _,by unfold maxLen;omega,⟨fun r h=>(by cases h),fun _=>⟨rfl,rfl,rfl,rfl⟩⟩,below_setRow HB1.out (by omega) _⟩
 | true=>
  obtain rfl:bc=false:=by simpa using hno
  go_wp2_with fail
  refine HR1.out.mono ?_;rintro e w1 ⟨rfl,hb1⟩;have HRY:=Hd (HR.out.below hb1);have HB1:=Hd (HB0.out.trans (hb1.mono HB0.out.size));obtain⟨r0,r1,r2,r3,r4,r5⟩:=Sx (HX.out w1 hb1);simp only [Ya,Yb,Yc] at r0 r1 r2 r3 r4 r5;have HC1:=Hd (HCO.out w1 HB1.out);clear hb1 q0 q1 q2 q3 q4 q5 HR1 HCO
  go_wp2_with fail
  refine HC1.out.mono ?_;rintro e w2 ⟨rfl,hb2⟩;have HRZ:=Hd (HRY.out.below hb2);have HB2:=Hd (HB1.out.trans (hb2.mono HB1.out.size));clear hb2 r0 r1 r2 r3 r4 r5 HC1
  go_upto_region 2 with(fail)
  go_wp2_with (refine wpList_store_row rfl _ _ _ rfl (w.heap.size+1) _ rfl rfl _ _ HRZ.out ty3_info rfl (by simp [Value.oneCell']) ?_)
  exact bodyPost_ret (res_xty (p:=5) (u:=4) (v:=6) rfl _ _ (w.heap.size+1) 0 0 0 rfl (HRZ.out.set _ _ _)) rfl ⟨none,0,0,0,0,0,[],rfl,RdI.nil_ _,Nat.le_refl _,by unfold maxLen;omega,⟨fun r h=>(by cases h),fun _=>⟨rfl,rfl,rfl,rfl⟩⟩,below_setRow HB2.out (by omega) _⟩
end
section
open Go.RowKit Go.Sort
def bitB(n:Int):Bool:=(n==0) || (n==1)
theorem exBit(n:Int) (w:World):Calls Tryz.prog 158 #[.int .i64 n] w fun e w'=>e=.returned (.bool (bitB n))∧w=w':=by
 have HS:=Hd (show bitB n=((n==0) || (n==1)) from rfl);generalize bitB n=res at *
 cases h0:(n==0) <;> cases h1:(n==1)
 all_goals (
  rw [h0,h1] at HS
  go_enter Tryz.func158,Tryz.ntmps158
  go_wp2_with fail
  go_ret
  exact⟨ret_bool HS.out.symm,rfl⟩)
theorem exArm(s:ByteArray) (w:World) (hs:s.size≤9223372036854775807):Calls Tryz.prog 177 #[.string s] w fun e w'=>e=.returned (.bool (armB s))∧Below w.heap.size w w':=by
 have HS:=Hd (show armB s=(highB s.data.toList || (s.toList==[116,114,117,101]) || (s.toList==[102,97,108,115,101])) from rfl);have HH:=Hd (idHigh s w hs);generalize armB s=res at *;generalize highB s.data.toList=bh at *
 cases bh <;> cases ht:(s.toList==[116,114,117,101]) <;> cases hf:(s.toList==[102,97,108,115,101])
 all_goals (
  rw [ht,hf] at HS
  go_enter Tryz.func177,Tryz.ntmps177
  go_wp2_with fail
  refine HH.out.mono ?_;rintro r w2 ⟨rfl,hb⟩
  go_wp2_with fail
  go_ret
  exact⟨ret_bool HS.out.symm,hb⟩)
def armsB(l:List ByteArray) (m:Int):Bool:=decide (1≤l.length) && decide ((l.length:Int)≤m) && l.all armB && onceS l
theorem exArms(A:Option Addr) (n c:Nat) (m:Int) (l:List ByteArray) (w:World) (hr:RdT w A n l) (hz:∀ t∈l,t.size≤9223372036854775807) (hm:n≤100):
 Calls Tryz.prog 161 #[.slice A n c,.int .i64 m] w fun e w'=>e=.returned (.bool (armsB l m))∧Below w.heap.size w w':=by
 have HS:=Hd (show armsB l m=(decide (1≤l.length) && decide ((l.length:Int)≤m) && l.all armB && onceS l) from rfl);have hlen:=hr.len;have HAR:=Hd hr;have HAL:=Hd fun i (hi:i<l.length) (h:armB (l[i]?.getD ByteArray.empty)=false)=>all_false (f:=armB) hi h;have HAS:=Hd fun k (hk:k<l.length) h (hx:armB (l[k]?.getD ByteArray.empty)=true)=>all_take_succ (f:=armB) hk h hx;have HAE:=Hd fun k h (hk:l.length≤k)=>all_take_end (l:=l) (f:=armB) (k:=k) h hk;have HZ:=Hd fun i (hi:i<l.length)=>hz (l[i]?.getD ByteArray.empty) (by rw [List.getElem?_eq_getElem hi];exact List.getElem_mem _);have HON:=Hd fun w1 (h:Below w.heap.size w w1)=>idOnce A n c l w1 (hr.below h) hz hm;clear hr hz;rw [hlen] at HS HAL HAS HAE HZ;clear hlen;generalize armsB l m=res at *
 by_cases h1:1≤n
 · by_cases h2:(n:Int)≤m
   · have d1:decide ((n:Int)<1)=false:=decide_eq_false (by omega);have d2:decide (m<(n:Int))=false:=decide_eq_false (by omega);have HSS:=Hd (show res=(l.all armB && onceS l) by rw [HS.out];simp [h1,h2])
     go_enter Tryz.func161,Tryz.ntmps161
     go_wp2_with fail
     go_loopw [18] (fun i wr=>∃ j:Nat,j≤n∧i=.int .i64 j∧(l.take j).all armB=true∧Below w.heap.size w wr) (fun i _=>n-(intOf i).toNat)
     case atStart=>exact⟨0,Nat.zero_le _,rfl,by simp,Below.refl _ _⟩
     case round=>
      obtain⟨j,hj,rfl,hall,hbw⟩:=hrel;have HA:=Hd hall;have HBW:=Hd hbw;clear hall
      by_cases hlt:j<n
      · obtain⟨b,off,rfl,hb,hat⟩:=(HAR.out.below hbw).at_ hlt;have c0:=hat j hlt;have HAL':=Hd (HAL.out j (by omega));have HAS':=Hd (HAS.out j (by omega) HA.out);have hzz:=HZ.out j (by omega);clear hat hbw;generalize l[j]?.getD ByteArray.empty=t at *;have HT:=Hd (exArm t wr hzz);clear hzz
        cases ht:armB t with
        | false=>
         rw [ht] at HT;have HF':=Hd (HAL'.out ht);have HN:=Hd (show res=false by rw [HSS.out,HF'.out];rfl)
         go_wp2_with fail
         refine HT.out.mono ?_;rintro r w2 ⟨rfl,hb2⟩;have HB2:=Hd (HBW.out.trans (hb2.mono HBW.out.size));clear hb2
         go_wp2_with fail
         go_ret
         exact⟨ret_bool HN.out.symm,HB2.out⟩
        | true=>
         rw [ht] at HT;have HF':=Hd (HAS'.out ht)
         go_wp2_with fail
         refine HT.out.mono ?_;rintro r w2 ⟨rfl,hb2⟩;have HB2:=Hd (HBW.out.trans (hb2.mono HBW.out.size));clear hb2
         go_wp2_with fail
         go_roundw
         case rel=>exact⟨j+1,by omega,by go_num,HF'.out,HB2.out⟩
         case measure=>simp [intOf];omega
      · have HE:=HAE.out j HA.out (by omega);have HN:=Hd (show res=onceS l by rw [HSS.out,HE];rfl);have HO1:=Hd (HON.out wr HBW.out);clear HE HAL HAS HAE HA hbw
        go_wp2_with fail
        refine HO1.out.mono ?_;rintro r w2 ⟨rfl,hb2⟩;have HB2:=Hd (HBW.out.trans (hb2.mono HBW.out.size));clear hb2
        go_wp2_with fail
        go_ret
        exact⟨ret_bool HN.out.symm,HB2.out⟩
   · have d1:decide ((n:Int)<1)=false:=decide_eq_false (by omega);have d2:decide (m<(n:Int))=true:=decide_eq_true (by omega);have HN:=Hd (show res=false by rw [HS.out];simp [h2])
     go_enter Tryz.func161,Tryz.ntmps161
     go_wp2_with fail
     go_ret
     exact⟨ret_bool HN.out.symm,Below.refl _ _⟩
 · have d1:decide ((n:Int)<1)=true:=decide_eq_true (by omega);have HN:=Hd (show res=false by rw [HS.out];simp [h1])
   go_enter Tryz.func161,Tryz.ntmps161
   go_wp2_with fail
   go_ret
   exact⟨ret_bool HN.out.symm,Below.refl _ _⟩
end
section
open Go.RowKit Go.Sort
section
variable {P:Program}{w:World}
end
theorem RowD.cells{w:World}{g:Nat}{d:Dc}(h:RowD w g d) (j:Nat):w.cell? ⟨g,j,none⟩=(dcA d)[j]?:=by
 unfold World.cell?;rw [show w.heap[(⟨g,j,none⟩:Addr).block]?=_ from h];rfl
def ClockAt(x:Nd) (out:Option (List Dc)) (w:World) (k:Nat) (t:ByteArray) (v:Value):Prop:=
 ∃ acc A c,v=.slice A acc.length c∧RdD w A acc.length acc∧acc.length=k∧clockR x (13-k) t acc=out
theorem ClockAt.below{x:Nd}{out:Option (List Dc)}{w w':World}{k:Nat}{t:ByteArray}{v:Value}(h:ClockAt x out w k t v) (hb:Below w.heap.size w w'):ClockAt x out w' k t v:=by
 obtain⟨acc,A,c,e,h1,h2⟩:=h;exact⟨acc,A,c,e,h1.below hb,h2⟩
end
section
open Go.Shelf Go.RowKit Go.Lib Go.Sort
end
section

end
section

end
end Go.Proofs.YtegjgiofmpolnaaGreat
