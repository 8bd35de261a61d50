/- Parts of the proof: TpG, TpQ, TpP, TpR, TpV, TpW, TpX, TpY, TpZ, TqA, TqB, TqC, TqF, TqD, TrM. Conditions: each theorem's own. -/
import Derived.Deep.AppendLies
import Derived.Test.YtkbpdoomhfkngaaGreatR13
import Derived.Test.YtkbpdoomhfkngaaGreatR23
namespace Go.Proofs.YtkbpdoomhfkngaaGreat
set_option linter.unusedVariables false
set_option linter.unusedSimpArgs false
set_option maxRecDepth 100000
set_option maxHeartbeats 40000000
section
open Go.RowKit Go.Sort Go.BigFrame
end
section
open Go.RowKit Go.Sort Go.BigFrame
end
section
open Go.RowKit Go.Sort Go.BigFrame
end
section
open Go.RowKit Go.Sort
def flowN(k:Int):Nat:=if k=9 then 2 else if k=13 then 0 else 1
end
section
open Go.RowKit Go.Sort
def flY(l:List T3):List Value:=l.flatMap tyL3
theorem flY_len(l:List T3):(flY l).length=l.length*3:=by
 induction l with
 | nil=>rfl
 | cons d l ih=>simp only [flY,List.flatMap_cons,List.length_append,List.length_cons] at ih ⊢;rw [ih];simp [tyL3];omega
theorem flY_app(a b:List T3):flY (a++b)=flY a++flY b:=by simp [flY]
theorem flY_one(d:T3):flY [d]=tyL3 d:=by simp [flY]
theorem flY_at:∀ (l:List T3) (i j:Nat),i<l.length→j<3→(flY l)[i*3+j]?=(tyL3 (l[i]?.getD default))[j]?
 | t::ts,0,j,_,hj=>by
  have hz:j<(tyL3 t).length:=by simpa [tyL3] using hj
  simp only [flY,List.flatMap_cons,Nat.zero_mul,Nat.zero_add];rw [List.getElem?_append_left hz]
  simp
 | t::ts,i+1,j,hi,hj=>by
  have ih:=flY_at ts i j (by simpa using hi) hj;have hz:(tyL3 t).length=3:=by simp [tyL3]
  simp only [flY,List.flatMap_cons];rw [List.getElem?_append_right (by rw [hz];omega),hz,show(i+1)*3+j-3=i*3+j by omega]
  simpa [flY] using ih
section
variable {w w':World}{A:Option Addr}{n:Nat}{l:List T3}
theorem RdY.of_own{base:Nat}{e:TypeId}{v:Value}(h:w.ownsRow base e 3 v n (flY l)) (hm:n≤9223372036854775807):∃ A c,v=.slice A n c∧RdY w A n l:=by
 have hl:l.length=n:=by
  have:=h.1;rw [flY_len] at this;omega
 rcases h.2 with⟨rfl,rfl⟩|⟨g,cap,cur,rfl,hg,hh,hnc,hcm,hcs,ht⟩
 · obtain rfl:l=[]:=List.eq_nil_of_length_eq_zero hl;exact⟨none,0,rfl,RdS.nil_ _ _ _⟩
 · refine⟨_,cap,rfl,hl,hm,fun hn=>⟨g,0,rfl,(Array.getElem?_eq_some_iff.1 hh).1,fun i hi=>?_⟩⟩;intro j v hv
   have hj:j<3:=by
    rcases Nat.lt_or_ge j 3 with h | h
    · exact h
    · rw [List.getElem?_eq_none (by simpa [tyL3] using h)] at hv;cases hv
   rw [Nat.zero_add,h.cellAt (i*3+j) (by omega),flY_at l i j (by omega) hj,hv]
end
theorem infoTy3:(Tryz.prog.info? 41).map (fun i=>(i.size,i.bytes,i.zero.map fun z=>z.cells.size))=some (3,24,some 3):=by kernel_rfl
def TyZ(w:World) (o:Option T3) (e:Ending) (w':World):Prop:=e=.returned (.tuple #[.agg (f3A (o.getD (0,0,0)).1 (o.getD (0,0,0)).2.1 (o.getD (0,0,0)).2.2),.bool o.isSome])∧Below w.heap.size w w'
def SubsAns(w:World) (o:Option (List T3)) (e:Ending) (w':World):Prop:=
 ∃ S n c ts,e=.returned (.tuple #[.slice S n c,.bool o.isSome])∧(∀ r,o=some r→r=ts∧RdY w' S n ts)∧Below w.heap.size w w'
end
section
open Go.RowKit Go.Sort Go.BigFrame
end
section
open Go.RowKit Go.Sort Go.BigFrame
end
section
open Go.RowKit Go.Sort Go.BigFrame
end
section
open Go.RowKit Go.Sort Go.BigFrame
end
section
open Go.RowKit Go.Sort
def fbyT(oc:Option (List Int × T3)) (ou:Option T3):Option T3:=match oc with | none=>none | some c=>match ou with | none=>none | some u=>if c.2=u then some u else none
def GoodX(x:Ex):Prop:=sizeX x≤1000000∧∀ q∈partsX x,ShortP q∧partX q=true
theorem mem_partss:∀ {l:List Ex}{i:Nat}{q:Ex},i<l.length→q∈partsX (l[i]?.getD default)→q∈partssX l
 | [],i,q,h,_=>absurd h (by simp)
 | x::l,0,q,_,hq=>by
  simp only [List.getElem?_cons_zero,Option.getD_some] at hq;simp only [partssX];exact List.mem_append_left _ hq
 | x::l,i+1,q,h,hq=>by
  simp only [List.getElem?_cons_succ] at hq;simp only [partssX];exact List.mem_append_right _ (mem_partss (by simpa using h) hq)
theorem GoodX.sub{x:Ex}(h:GoodX x){k:Nat}(hk:k<x.subs.length):GoodX (subX x k):=by
 have hm:subX x k∈x.subs:=by unfold subX;rw [List.getElem?_eq_getElem hk];exact List.getElem_mem _
 refine⟨?_,fun q hq=>h.2 q ?_⟩
 · have h1:=h.1;have h2:=sizes_mem hm;rw [sizeX_eq] at h1;omega
 · rw [partsX_eq];exact List.mem_cons_of_mem _ (mem_partss hk hq)
theorem GoodX.self{x:Ex}(h:GoodX x):ShortP x∧partX x=true:=h.2 x (by rw [partsX_eq];exact List.mem_cons_self)
theorem typ_get{p:Pg}{i:Nat}{x:Ex}{k:Nat}(hk:k<x.subs.length):(x.subs.map (typX p i))[k]?.getD none=typX p i (subX x k):=by
 unfold subX;rw [List.getElem?_map,List.getElem?_eq_getElem hk];rfl
theorem part_subs{x:Ex}(h:partX x=true):(subsX x).1≤x.subs.length:=by
 unfold partX at h;simp only [Bool.and_eq_true,decide_eq_true_eq] at h;exact h.1.1.2
theorem part_kind{x:Ex}(h:partX x=true):1≤x.k∧x.k≤17:=by
 unfold partX at h;simp only [Bool.and_eq_true,decide_eq_true_eq] at h;exact⟨h.1.1.1.1.1.1.1,h.1.1.1.1.1.1.2⟩
theorem part_armsB{x:Ex}(h:partX x=true):armsX x=true:=by
 unfold partX at h;simp only [Bool.and_eq_true] at h;exact h.1.1.1.2
theorem part_n13{x:Ex}(h:partX x=true) (hk:x.k=13):x.n=0∨x.n=1:=by
 unfold partX at h;simp only [Bool.and_eq_true] at h;exact numbers_13 h.1.1.1.1.1.2 hk
theorem part_plain{x:Ex}(h:partX x=true) (hk:x.k=5∨x.k=6∨x.k=7∨x.k=14∨x.k=15∨x.k=16):plainN x.k≤x.subs.length:=by
 have h1:=part_subs h;rcases hk with hk | hk | hk | hk | hk | hk <;> (unfold subsX at h1;rw [hk] at h1 ⊢;simp [plainN] at h1 ⊢;omega)
theorem part_flow{x:Ex}(h:partX x=true) (hk1:9≤x.k) (hk2:x.k≤13):flowN x.k≤x.subs.length∧(x.k=11→0<x.arms.length):=by
 have h1:=part_subs h;have h2:=part_armsB h;rcases(show x.k=9∨x.k=10∨x.k=11∨x.k=12∨x.k=13 by omega) with hk | hk | hk | hk | hk <;> (unfold subsX at h1;unfold armsX at h2;rw [hk] at h1 h2 ⊢;(try simp [flowN] at h1 h2 ⊢) <;> (try omega))
theorem ofT_const{p:Pg}{i:Nat}{x:Ex}{l:List (Option T3)}(hk:x.k=1∨x.k=2∨x.k=4):(constT p.es x).map (·.2)=ofT p i x l:=by rcases hk with hk | hk | hk <;> (unfold ofT;rw [hk];rfl)
theorem ofT_var{p:Pg}{i:Nat}{x:Ex}{l:List (Option T3)}(hk:x.k=3):(declO (ndAt p i) x.s).map tyD=ofT p i x l:=by unfold ofT;rw [hk];rfl
theorem ofT_fby{p:Pg}{i:Nat}{x:Ex}{l:List (Option T3)}(hk:x.k=8):ofT p i x l=fbyT (constT p.es (subX x 0)) (l[1]?.getD none):=by
 unfold ofT fbyT;rw [hk];rfl
theorem ofT_old{p:Pg}{i:Nat}{x:Ex}{l:List (Option T3)}(hk:x.k=17):none=ofT p i x l:=by unfold ofT;rw [hk];rfl
theorem ofT_none{p:Pg}{i:Nat}{x:Ex}{l:List (Option T3)}(hk:(x.k=5∨x.k=6∨x.k=7∨x.k=14∨x.k=15∨x.k=16)∨(9≤x.k∧x.k≤13)) (h:seqO l=none):ofT p i x l=none:=by
 unfold ofT;rw [h];rcases(show x.k=5∨x.k=6∨x.k=7∨x.k=14∨x.k=15∨x.k=16∨x.k=9∨x.k=10∨x.k=11∨x.k=12∨x.k=13 by omega) with hk | hk | hk | hk | hk | hk | hk | hk | hk | hk | hk <;> (rw [hk];rfl)
theorem ofT_flow{p:Pg}{i:Nat}{x:Ex}{l:List (Option T3)}{ts:List T3}(hk1:9≤x.k) (hk2:x.k≤13) (h:seqO l=some ts):ofT p i x l=flowT p i x ts:=by
 unfold ofT;rw [h];rcases(show x.k=9∨x.k=10∨x.k=11∨x.k=12∨x.k=13 by omega) with hk | hk | hk | hk | hk <;> (rw [hk];rfl)
theorem ofT_plain{p:Pg}{i:Nat}{x:Ex}{l:List (Option T3)}{ts:List T3}(hk:x.k=5∨x.k=6∨x.k=7∨x.k=14∨x.k=15∨x.k=16) (h:seqO l=some ts):ofT p i x l=plainT x ts:=by
 unfold ofT;rw [h];rcases hk with hk | hk | hk | hk | hk | hk <;> (rw [hk];rfl)
end
section
open Go.RowKit Go.Sort Go.BigFrame
end
section
open Go.RowKit Go.Sort Go.BigFrame
end
section
open Go.RowKit Go.Sort Go.BigFrame
theorem set3_cell{W:World}{g r j:Nat}{x y z:Value}(hn:g≠r):(((W.setCell ⟨r,0,none⟩ x).setCell ⟨r,1,none⟩ y).setCell ⟨r,2,none⟩ z).cell? ⟨g,j,none⟩=W.cell? ⟨g,j,none⟩ :=
 World.cell?_of_block (a:=⟨g,j,none⟩) (by rw [Below.heap_setCell _ _ _ _ (by exact hn),Below.heap_setCell _ _ _ _ (by exact hn),Below.heap_setCell _ _ _ _ (by exact hn)])
end
section
open Go.RowKit Go.Sort Go.BigFrame
theorem checkS_N{p:Pg}(h:checkS p=(0,0,0)):checkN p=0:=by
 unfold checkS at h
 split at h
 · assumption
 · have:=congrArg (·.2.1) h
   simp at this
theorem types_of{p:Pg}{i:Nat}(ht:TinyP p) (h0:checkN p=0) (hi:i<p.ns.length):(∀ s d,declO (ndAt p i) s=some d→rightB p.es.length d.k d.e d.l=true)∧∀ j,j<(ndAt p i).eqs.length→GoodX ((ndAt p i).eqs[j]?.getD default).x:=by
 have hx:ndAt p i∈p.ns:=by
  unfold ndAt;rw [List.getElem?_eq_getElem hi];exact List.getElem_mem hi
 unfold checkN rightN at h0
 split at h0 <;> try (rename_i he;exact absurd h0 he)
 split at h0 <;> try (cases h0;done)
 split at h0 <;> try (cases h0;done)
 split at h0 <;> try (cases h0;done)
 split at h0 <;> try (cases h0;done)
 rename_i hr
 have h1:=List.all_eq_true.1 hr _ hx;unfold nodeB at h1;simp only [Bool.and_eq_true] at h1;refine⟨fun s d hd=>?_,fun k hk=>?_⟩
 · unfold declO at hd;have h2:=List.all_eq_true.1 h1.1.1.1.1 d (List.mem_of_find?_eq_some hd);unfold declB at h2;simp only [Bool.and_eq_true] at h2;simp only [h2]
 · have hm:(ndAt p i).eqs[k]?.getD default∈(ndAt p i).eqs:=by
    rw [List.getElem?_eq_getElem hk];exact List.getElem_mem hk
   have h3:=List.all_eq_true.1 h1.1.1.2 _ hm;unfold eqB at h3;simp only [Bool.and_eq_true] at h3;have h4:=h3.1.2;unfold rightX at h4;simp only [Bool.and_eq_true] at h4;have hq:=(ht.2.2 i hi).2.2.2.2.2 k hk;exact⟨tiny_sizeX hq.2.1,fun z hz=>⟨tiny_shortX hq.2.1 z hz,List.all_eq_true.1 h4.2 z hz⟩⟩
end
section
def allB(t:T3) (l:List T3):Bool:=l.all fun u=>decide (u=t)
theorem allT_allB(l:List T3):allT l=allB (atT l 0) l:=rfl
theorem allB_one(t u:T3):allB t [u]=decide (u=t):=by simp [allB]
theorem allB_no{t:T3}{l:List T3}{i:Nat}(h:i<l.length) (hn:¬ atT l i=t):allB t l=false:=by
 unfold allB;rw [List.all_eq_false];exact⟨_,List.getElem_mem h,by rw [← atT_get h];simpa using hn⟩
theorem allB_yes{t:T3}{l:List T3}(h:∀ j,j<l.length→atT l j=t):allB t l=true:=by
 unfold allB;rw [List.all_eq_true];intro u hu;obtain⟨j,hj,rfl⟩:=List.getElem_of_mem hu;rw [← atT_get hj]
 simpa using h j hj
theorem two_of{α:Type}:∀ {l:List α},l.length=2→∃ a b,l=[a,b]
 | [a,b],_=>⟨a,b,rfl⟩
 | [],h=>by simp at h
 | [a],h=>by simp at h
 | a::b::c::l,h=>by simp at h
theorem seqO_snoc{α:Type}:∀ (l:List (Option α)) (o:Option α),seqO (l++[o])=match seqO l with | none=>none | some ts=>o.map fun a=>ts++[a]
 | [],o=>by cases o <;> rfl
 | none::l,o=>rfl
 | some a::l,o=>by
  simp only [List.cons_append,seqO,seqO_snoc l o]
  cases seqO l with
  | none=>rfl
  | some ts=>cases o <;> rfl
def valsR(rs:List (T3 × Int)):Option (List Int × T3):=if allT (rs.map (·.1))=true then some (rs.map (·.2),atT (rs.map (·.1)) 0) else none
def valsT(es:List En) (l:List Ex):Option (List Int × T3):=match seqO (l.map (litT es)) with | none=>none | some rs=>valsR rs
theorem atT_snoc{ts:List T3}{t:T3}(h:0<ts.length):atT (ts++[t]) 0=atT ts 0:=by
 unfold atT;rw [List.getElem?_append_left h]
theorem allT_snoc{ts:List T3}{t:T3}(h:0<ts.length):allT (ts++[t])=(allT ts && decide (t=atT ts 0)):=by
 unfold allT;rw [List.all_append,atT_snoc h]
 simp
theorem arr_vals(es:List En) (l:List Ex):∀ k,k≤l.length→arrT es l k=valsT es (l.take k)
 | 0,_=>rfl
 | k+1,hk=>by
  have ih:=arr_vals es l k (by omega)
  have hx:l.take (k+1)=l.take k++[l[k]?.getD default]:=by
   rw [List.take_succ_eq_append_getElem (by omega),List.getElem?_eq_getElem (by omega)];rfl
  rw [arrT,ih,hx];unfold valsT;rw [List.map_append,List.map_cons,List.map_nil,seqO_snoc]
  cases hs:seqO ((l.take k).map (litT es)) with
  | none=>rfl
  | some rs=>
   have hl:rs.length=k:=by
    have:=seqO_len hs;rw [List.length_map,List.length_take] at this;omega
   cases ht:litT es (l[k]?.getD default) with
   | none=>
    simp only [Option.map_none];unfold valsR
    split <;> rfl
   | some t=>
    simp only [Option.map_some];unfold valsR;rw [List.map_append,List.map_append];simp only [List.map_cons,List.map_nil]
    by_cases h0:k=0
    · subst h0;obtain rfl:rs=[]:=List.length_eq_zero_iff.1 hl
      simp [allT,atT]
    · have hp:0<(rs.map (·.1)).length:=by rw [List.length_map];omega
      rw [allT_snoc hp,atT_snoc hp]
      cases ha:allT (rs.map (·.1)) with
      | false=>simp
      | true=>
       simp only [if_true,Bool.true_and]
       by_cases he:t.1=atT (rs.map (·.1)) 0
       · rw [if_neg (by simp [he]),if_pos (by simp [he]),he]
       · rw [if_pos ⟨by omega,he⟩,if_neg (by simpa using he)]
theorem vals_one(es:List En) (x:Ex):valsT es [x]=(litT es x).map fun r=>([r.2],r.1):=by
 unfold valsT;simp only [List.map_cons,List.map_nil]
 cases litT es x with
 | none=>rfl
 | some r=>simp [seqO,valsR,allT,atT]
theorem vals_arr(es:List En) (l:List Ex):arrT es l l.length=valsT es l:=by
 have:=arr_vals es l l.length (Nat.le_refl _);rwa [List.take_length] at this
theorem depths_mem{l:List Ex}{x:Ex}(h:x∈l):depthX x≤depthsX l:=by
 induction l with
 | nil=>cases h
 | cons y l ih=>
  simp only [depthsX];rcases List.mem_cons.1 h with rfl | h
  · omega
  · have:=ih h;omega
theorem right_sub{x:Ex}(h:rightX x=true){k:Nat}(hk:k<x.subs.length):rightX (subX x k)=true:=by
 unfold rightX at h ⊢;simp only [Bool.and_eq_true,Bool.not_eq_true',decide_eq_false_iff_not,List.all_eq_true] at h ⊢;have hm:=subX_mem hk;refine⟨⟨?_,?_⟩,fun p hp=>h.2 p ?_⟩
 · have:=size_sub hm;omega
 · have:=depths_mem hm;have h2:=depthX_eq x;omega
 · rw [partsX_eq];exact List.mem_cons_of_mem _ (mem_partss hk hp)
theorem right_mem{x y:Ex}(h:rightX x=true) (hy:y∈x.subs):rightX y=true:=by
 obtain⟨k,hk,rfl⟩:=List.getElem_of_mem hy;have:=right_sub h hk;unfold subX at this;rwa [List.getElem?_eq_getElem hk] at this
theorem lit_len{es:List En}{x:Ex}{r:T3 × Int}(h:litT es x=some r):r.1.2.2=0:=by
 unfold litT at h
 split at h
 · injection h with h;subst h;rfl
 split at h
 · injection h with h;subst h;rfl
 split at h
 · injection h with h;subst h;rfl
 obtain⟨q,_,rfl⟩:=Option.map_eq_some_iff.1 h;rfl
theorem lit_flat{p:Pg}{i:Nat}{x:Ex}(hr:rightX x=true) (hl:literalX x=true) (hk:x.k=1∨x.k=2∨x.k=4):typX p i x=(litT p.es x).map (·.1):=by
 rw [typX_eq,← ofT_const hk]
 have hc:constX x=true:=by
  unfold constX;rw [if_neg (by rcases hk with hk | hk | hk <;> (rw [hk];decide))];exact hl
 rw [constT_lit (by rw [hr,hc];rfl) (by rcases hk with hk | hk | hk <;> (rw [hk];decide))]
 cases litT p.es x <;> rfl
theorem lit_typ{p:Pg}{i:Nat}{x:Ex}(hr:rightX x=true) (hl:literalX x=true){r:T3 × Int}(h:litT p.es x=some r):typX p i x=some r.1:=by
 by_cases h5:x.k=5
 · have hl2:=hl;unfold literalX at hl2;rw [if_pos (by rw [h5];rfl)] at hl2;simp only [Bool.and_eq_true,beq_iff_eq] at hl2;obtain⟨⟨ho,hn⟩,h1⟩:=hl2
   have hty:typX p i (subX x 0)=some (1,0,0):=by
    rw [lit_flat (right_sub hr (by omega)) (by unfold literalX;rw [h1];rfl) (.inl h1)];unfold litT;rw [h1];rfl
   obtain⟨y,hy⟩:∃ y,x.subs=[y]:=List.length_eq_one_iff.1 hn;have hs:subX x 0=y:=by unfold subX;rw [hy];rfl
   rw [hs] at hty;have hq:seqO (x.subs.map (typX p i))=some [(1,0,0)]:=by rw [hy];simp [seqO,hty]
   rw [typX_eq,ofT_plain (.inl h5) hq]
   have hr1:r.1=(1,0,0):=by
    unfold litT at h;rw [h5] at h;injection h with h;rw [← h]
   rw [hr1];unfold plainT;rw [h5,ho];rfl
 · have hk:x.k=1∨x.k=2∨x.k=4:=by
    have hl2:=hl;unfold literalX at hl2;rw [if_neg (by simpa using h5)] at hl2;simp only [Bool.or_eq_true,beq_iff_eq] at hl2;omega
   rw [lit_flat hr hl hk,h];rfl
theorem seq_fst{α β:Type}{f:Ex→Option α}{g:Ex→Option (α × β)}:∀ {l:List Ex}{rs:List (α × β)},(∀ x∈l,∀ r,g x=some r→f x=some r.1)→seqO (l.map g)=some rs→seqO (l.map f)=some (rs.map (·.1))
 | [],rs,_,h=>by injection h with h;subst h;rfl
 | x::l,rs,hx,h=>by
  simp only [List.map_cons] at h ⊢
  cases hg:g x with
  | none=>rw [hg] at h;cases h
  | some r=>
   rw [hg] at h;simp only [seqO,Option.map_eq_some_iff] at h;obtain⟨t,h1,rfl⟩:=h;rw [hx x (by simp) r hg];simp only [seqO];rw [seq_fst (fun y hy=>hx y (by simp [hy])) h1];rfl
theorem seq_all{β:Type}{g:Ex→Option β}{P:β→Prop}:∀ {l:List Ex}{rs:List β},(∀ x∈l,∀ r,g x=some r→P r)→seqO (l.map g)=some rs→∀ r∈rs,P r
 | [],rs,_,h=>by injection h with h;subst h;intro r hr;cases hr
 | x::l,rs,hx,h=>by
  simp only [List.map_cons] at h
  cases hg:g x with
  | none=>rw [hg] at h;cases h
  | some r=>
   rw [hg] at h;simp only [seqO,Option.map_eq_some_iff] at h;obtain⟨t,h1,rfl⟩:=h;intro q hq;rcases List.mem_cons.1 hq with rfl | hq
   · exact hx x (by simp) q hg
   · exact seq_all (fun y hy=>hx y (by simp [hy])) h1 q hq
theorem const_typ{p:Pg}{i:Nat}{x:Ex}{c:List Int × T3}(h:constT p.es x=some c):typX p i x=some c.2:=by
 cases hrc:(rightX x && constX x) with
 | false=>rw [constT_no hrc] at h;cases h
 | true=>
  have hr2:=hrc;simp only [Bool.and_eq_true] at hr2
  by_cases hk:x.k=14
  · rw [constT_arr hrc hk] at h;obtain⟨r,hr,rfl⟩:=Option.map_eq_some_iff.1 h;rw [vals_arr] at hr;unfold valsT at hr
    cases hs:seqO (x.subs.map (litT p.es)) with
    | none=>rw [hs] at hr;cases hr
    | some rs=>
     rw [hs] at hr;simp only at hr;unfold valsR at hr
     split at hr
     · rename_i ha
       injection hr with hr;subst hr
       have hcs:x.subs.all literalX=true:=by
        have:=hr2.2;unfold constX at this;rwa [if_pos (by rw [hk];rfl)] at this
       have hq:=seq_fst (f:=typX p i) (fun y hy r hg=>lit_typ (right_mem hr2.1 hy) (List.all_eq_true.1 hcs y hy) hg) hs
       have hz:(atT (rs.map (·.1)) 0).2.2=0:=by
        cases rs with
        | nil=>rfl
        | cons r rs=>exact seq_all (P:=fun r=>r.1.2.2=0) (fun y hy r hg=>lit_len hg) hs r (by simp)
       have hln:(rs.map (·.1)).length=x.subs.length:=by
        have:=seqO_len hq
        simpa using this
       rw [typX_eq,ofT_plain (.inr (.inr (.inr (.inl hk)))) hq];unfold plainT;rw [hk]
       show(if(allT (rs.map (·.1)) && decide ((atT (rs.map (·.1)) 0).2.2=0))=true then some ((atT (rs.map (·.1)) 0).1,(atT (rs.map (·.1)) 0).2.1,((rs.map (·.1)).length:Int)) else none)=_
       rw [if_pos (by rw [ha,hz];rfl),hln]
     · cases hr
  · rw [constT_lit hrc hk] at h;obtain⟨r,hr,rfl⟩:=Option.map_eq_some_iff.1 h
    have hl:literalX x=true:=by
     have:=hr2.2;unfold constX at this;rwa [if_neg (by simpa using hk)] at this
    exact lit_typ hr2.1 hl hr
def fbyP(oc:Option (List Int × T3)) (l:List T3):Option T3:=match oc with | none=>none | some c=>if atT l 1=c.2 then some (atT l 1) else none
theorem fby_eq{p:Pg}{i:Nat}{x:Ex}(hk:x.k=8) (hl:x.subs.length=2):typX p i x=match seqO (x.subs.map (typX p i)) with | none=>none | some l=>fbyP (constT p.es (subX x 0)) l:=by
 obtain⟨a,b,hab⟩:∃ a b,x.subs=[a,b]:=two_of hl;have h0:subX x 0=a:=by unfold subX;rw [hab];rfl
 rw [typX_eq,ofT_fby hk,h0,hab];simp only [List.map_cons,List.map_nil]
 show fbyT (constT p.es a) (typX p i b)=_
 cases hc:constT p.es a with
 | none=>
  unfold fbyT;simp only
  split <;> rfl
 | some c=>
  rw [const_typ hc]
  cases typX p i b with
  | none=>rfl
  | some u=>
   show(if c.2=u then some u else none)=(if atT [c.2,u] 1=c.2 then some (atT [c.2,u] 1) else none)
   show _=(if u=c.2 then some u else none)
   by_cases he:c.2=u
   · rw [if_pos he,if_pos he.symm]
   · rw [if_neg he,if_neg fun e=>he e.symm]
def hasB(n:Nd) (s:ByteArray) (t:T3):Bool:=match declO n s with | none=>false | some d=>decide (tyD d=t)
def takeB(es:List En) (n:Nd) (s a:ByteArray):Bool:=match armR es a with | none=>false | some r=>hasB n s (r.1,r.2.1,0)
def takesB(es:List En) (n:Nd) (s:ByteArray) (arms:List ByteArray):Bool:=arms.all (takeB es n s)
def trueA:ByteArray:=⟨#[116,114,117,101]⟩
def falseA:ByteArray:=⟨#[102,97,108,115,101]⟩
def mergesB(es:List En) (n:Nd) (s:ByteArray) (arms:List ByteArray):Bool:=
 takesB es n s arms && (if((dcTy (declO n s)).1==2)=true then sameT arms [trueA,falseA] else sameT arms (csE es (dcTy (declO n s)).2.1.toNat))
theorem arm_cases{es:List En}{a:ByteArray}{r:Int × Int × Int}(h:armR es a=some r):(r.1=2∧r.2.1=0)∨r.1=3:=by
 unfold armR at h
 split at h
 · injection h with h;subst h;exact .inl ⟨rfl,rfl⟩
 split at h
 · injection h with h;subst h;exact .inl ⟨rfl,rfl⟩
 obtain⟨q,_,rfl⟩:=Option.map_eq_some_iff.1 h;exact .inr rfl
theorem take_ty{es:List En}{n:Nd}{s a:ByteArray}{d:Dc}(hd:declO n s=some d) (h:takeB es n s a=true):tyD d=(2,0,0)∨(tyD d).1=3∧(tyD d).2.2=0:=by
 unfold takeB at h
 cases hr:armR es a with
 | none=>rw [hr] at h;cases h
 | some r=>
  rw [hr] at h;simp only at h;unfold hasB at h;rw [hd] at h;have h:=of_decide_eq_true h;rcases arm_cases hr with⟨h1,h2⟩ | h1
  · exact .inl (by rw [h,h1,h2])
  · exact .inr ⟨by rw [h,h1],by rw [h]⟩
theorem sameT_two{arms:List ByteArray}:sameT arms [trueA,falseA]=(decide (arms.length=2) && (((arms[0]?.getD ByteArray.empty).toList==[116,114,117,101]) && ((arms[1]?.getD ByteArray.empty).toList==[102,97,108,115,101]))):=by
 have ht:trueA.toList=[116,114,117,101]:=by rw [Lib.toList_data];rfl
 have hf:falseA.toList=[102,97,108,115,101]:=by rw [Lib.toList_data];rfl
 unfold sameT;rw [Bool.eq_iff_iff];simp only [List.map_cons,List.map_nil,decide_eq_true_eq,Bool.and_eq_true,beq_iff_eq,ht,hf]
 constructor
 · intro h;have hl:arms.length=2:=by simpa using congrArg List.length h
   obtain⟨a,b,rfl⟩:=two_of hl;simp only [List.map_cons,List.map_nil,List.cons.injEq] at h;exact⟨rfl,h.1,h.2.1⟩
 · rintro ⟨hl,h1,h2⟩;obtain⟨a,b,rfl⟩:=two_of hl;simp only [List.map_cons,List.map_nil];rw [show a.toList=_ from h1,show b.toList=_ from h2]
theorem findE_own{es:List En}(ha:onceS (allE es)=true){i k:Nat}(hi:i<es.length) (hk:k<(csE es i).length){a:ByteArray}(he:a.toList=(ctAt es i k).toList):findE es a=some (i,k,ctAt es i k):=by
 have hm:=upTo_mem hi hk;unfold onceS onceB at ha;have ha:=of_decide_eq_true ha;unfold allE at ha;rw [List.map_map] at ha
 cases hf:findE es a with
 | none=>
  unfold findE at hf;have:=List.find?_eq_none.1 hf _ hm;unfold isNm at this;rw [he] at this
  simp at this
 | some q=>
  unfold findE at hf;have hq:=List.mem_of_find?_eq_some hf;have hp:=List.find?_some hf;unfold isNm at hp;have hp:q.2.2.toList=a.toList:=by simpa using hp
  congr 1
  obtain⟨j,hj,hjq⟩:=List.getElem_of_mem hq;obtain⟨m,hm1,hmq⟩:=List.getElem_of_mem hm
  have hjm:j=m:=by
   have hl:∀ z,z<(flatE es).length→z<((flatE es).map ((fun s:ByteArray=>s.data.toList) ∘ fun x:Pl=>x.2.2)).length:=fun z hz=>by rw [List.length_map];exact hz
   refine(List.getElem_inj (h₀:=hl j hj) (h₁:=hl m hm1) ha).1 ?_;rw [List.getElem_map,List.getElem_map,hjq,hmq]
   show q.2.2.data.toList=(ctAt es i k).data.toList
   rw [← Lib.toList_data,← Lib.toList_data,hp,he]
  subst hjm;rw [← hjq,hmq]
theorem high_arm{s:List UInt8}(h:highB s=true):s≠[116,114,117,101]∧s≠[102,97,108,115,101]:=
 ⟨fun e=>by subst e;revert h;decide,fun e=>by subst e;revert h;decide⟩
theorem arm_own{es:List En}(he:enumsN es=0){i k:Nat}(hi:i<es.length) (hk:k<(csE es i).length){a:ByteArray}(ha:a.toList=(ctAt es i k).toList):armR es a=some (3,(i:Int),(k:Int)):=by
 unfold enumsN at he
 split at he
 · cases he
 split at he
 · rename_i hn
   split at he
   · rename_i hap
     unfold namedB at hn;unfold apartB at hap;simp only [Bool.and_eq_true] at hn hap
     have hh:highB a.toList=true:=by
      have h1:=List.all_eq_true.1 hn.2 (ctAt es i k) (List.mem_map.2 ⟨_,upTo_mem hi hk,rfl⟩);rw [ha,Lib.toList_data];exact h1
     obtain⟨n1,n2⟩:=high_arm hh;unfold armR;rw [if_neg (by simpa using n1),if_neg (by simpa using n2),findE_own hap.2 hi hk ha];rfl
   · cases he
 · cases he
theorem merges_eq{es:List En}{n:Nd}{s:ByteArray}{arms:List ByteArray}(he:enumsN es=0) (h1:0<arms.length) (hrt:∀ d,declO n s=some d→rightB es.length d.k d.e d.l=true):
 mergesB es n s arms=match declO n s with | none=>false | some d=>armsT es (tyD d) arms:=by
 unfold mergesB;obtain⟨a0,rest,hcons⟩:∃ a r,arms=a::r:=List.exists_cons_of_length_pos h1
 cases hd:declO n s with
 | none=>
  have:takesB es n s arms=false:=by
   rw [hcons];unfold takesB;rw [List.all_cons]
   have:takeB es n s a0=false:=by
    unfold takeB hasB;rw [hd]
    split <;> rfl
   rw [this,Bool.false_and]
  rw [this,Bool.false_and]
 | some d=>
  simp only;have hdt:dcTy (some d)=tyD d:=rfl;rw [hdt];have hrd:=hrt d hd;unfold armsT
  by_cases ht:tyD d=(2,0,0)
  · rw [if_pos (show truthT (tyD d)=true from decide_eq_true ht),ht,← sameT_two]
    show(takesB es n s arms && sameT arms [trueA,falseA])=sameT arms [trueA,falseA]
    cases hs:sameT arms [trueA,falseA] with
    | false=>rw [Bool.and_false]
    | true=>
     rw [Bool.and_true];rw [sameT_two] at hs;simp only [Bool.and_eq_true,decide_eq_true_eq,beq_iff_eq] at hs;obtain⟨hl,e1,e2⟩:=hs;obtain⟨a,b,rfl⟩:=two_of hl;have e1:a.toList=[116,114,117,101]:=e1;have e2:b.toList=[102,97,108,115,101]:=e2
     have k:∀ c:ByteArray,(c.toList=[116,114,117,101]∨c.toList=[102,97,108,115,101])→takeB es n s c=true:=fun c hc=>by
      unfold takeB armR;rcases hc with hc | hc
      · rw [if_pos (by rw [hc];rfl)];unfold hasB;rw [hd];exact decide_eq_true ht
      · rw [if_neg (by rw [hc];decide),if_pos (by rw [hc];rfl)];unfold hasB;rw [hd];exact decide_eq_true ht
     unfold takesB;rw [List.all_cons,List.all_cons,List.all_nil,k a (.inl e1),k b (.inr e2)];rfl
  · rw [if_neg (show ¬ truthT (tyD d)=true from fun h=>ht (of_decide_eq_true h))]
    by_cases hb:(tyD d).1=3∧(tyD d).2.2=0
    · obtain⟨hk3,hl0⟩:=hb;rw [if_neg (by rw [hk3];decide),decide_eq_true hk3,decide_eq_true hl0,Bool.true_and,Bool.true_and]
      cases hs:sameT arms (csE es (tyD d).2.1.toNat) with
      | false=>rw [Bool.and_false]
      | true=>
       rw [Bool.and_true]
       have hin:0≤d.e∧d.e<es.length:=by
        unfold rightB at hrd;have:d.k=3:=hk3;rw [this] at hrd;simp only [Bool.and_eq_true,decide_eq_true_eq] at hrd;have h2:=hrd.2;rw [if_neg (by omega)] at h2;have h2:=of_decide_eq_true h2;exact h2.2
       unfold sameT at hs;have hs:=of_decide_eq_true hs;unfold takesB;rw [List.all_eq_true];intro a hmem;have hm2:a.toList∈(csE es (tyD d).2.1.toNat).map fun s=>s.toList:=by rw [← hs];exact List.mem_map.2 ⟨a,hmem,rfl⟩
       obtain⟨c,hc,hca⟩:=List.mem_map.1 hm2;obtain⟨k,hk,rfl⟩:=List.getElem_of_mem hc
       have ho:=arm_own he (i:=(tyD d).2.1.toNat) (k:=k) (by have:(tyD d).2.1=d.e:=rfl;omega) hk (a:=a) (by
        rw [← hca];unfold ctAt;rw [List.getElem?_eq_getElem hk];rfl)
       unfold takeB;rw [ho];simp only;unfold hasB;rw [hd];refine decide_eq_true ?_;have e1:d.k=3:=hk3;have e3:d.l=0:=hl0
       show((d.k,d.e,d.l):T3)=(3,((d.e.toNat:Nat):Int),0)
       rw [e1,e3,Int.toNat_of_nonneg hin.1]
    · have h0:takesB es n s arms=false:=by
       rw [hcons];unfold takesB;rw [List.all_cons]
       have:takeB es n s a0=false:=by
        cases h:takeB es n s a0 with
        | false=>rfl
        | true=>
         rcases take_ty hd h with h | h
         · exact absurd h ht
         · exact absurd h hb
       rw [this,Bool.false_and]
      rw [h0,Bool.false_and]
      by_cases hk3:(tyD d).1=3
      · have:(tyD d).2.2≠0:=fun e=>hb ⟨hk3,e⟩;rw [decide_eq_false this,Bool.false_and,Bool.and_false]
      · rw [decide_eq_false hk3,Bool.false_and]
def callP(p:Pg) (x:Ex) (ts:List T3):Option Nat:=
 if findN p x.s<0 then none
 else if(decide (ts.take (ts.length-x.n.toNat)=(ndAt p (findN p x.s).toNat).ins.map tyD) && allB (2,0,0) (ts.drop (ts.length-x.n.toNat)))=true then some (findN p x.s).toNat else none
theorem take_at{ts us:List T3}{m:Nat}(hm:m≤ts.length):ts.take m=us↔us.length=m∧∀ k,k<m→us[k]?.getD (0,0,0)=atT ts k:=by
 constructor
 · rintro rfl;refine⟨by rw [List.length_take];omega,fun k hk=>?_⟩;unfold atT;rw [List.getElem?_take_of_lt hk]
 · rintro ⟨hl,h⟩
   apply List.ext_getElem
   · rw [List.length_take];omega
   · intro k h1 h2;have h3:k<m:=by omega
     have:=h k h3;rw [atT_get (by omega),List.getElem?_eq_getElem h2,Option.getD_some] at this;rw [List.getElem_take,this]
theorem call_eq{p:Pg}{x:Ex}{ts:List T3}(hn:x.n=0∨x.n=1) (hl:x.n≤ts.length):callP p x ts=callT p x ts:=by
 unfold callP callT
 by_cases hf:findN p x.s<0
 · rw [if_pos hf,if_pos hf]
 rw [if_neg hf,if_neg hf];generalize (findN p x.s).toNat=i
 have hins:∀ k,((ndAt p i).ins.map tyD)[k]?.getD (0,0,0)=if k<(ndAt p i).ins.length then tyD ((ndAt p i).ins[k]?.getD default) else(0,0,0):=fun k=>by
  rw [List.getElem?_map]
  by_cases hk:k<(ndAt p i).ins.length
  · rw [if_pos hk,List.getElem?_eq_getElem hk];rfl
  · rw [if_neg hk,List.getElem?_eq_none (by omega)];rfl
 have key:∀ m,m≤ts.length→(decide (ts.take m=(ndAt p i).ins.map tyD))=(decide ((ndAt p i).ins.length=m) && (List.range (ndAt p i).ins.length).all fun k=>decide (tyD ((ndAt p i).ins[k]?.getD default)=atT ts k)):=fun m hm=>by
  rw [Bool.eq_iff_iff,decide_eq_true_eq,take_at hm,Bool.and_eq_true,decide_eq_true_eq,List.all_eq_true,List.length_map]
  constructor
  · rintro ⟨h1,h2⟩;refine⟨h1,fun k hk=>?_⟩;have hk:=List.mem_range.1 hk;have:=h2 k (by omega);rw [hins,if_pos hk] at this;exact decide_eq_true this
  · rintro ⟨h1,h2⟩;refine⟨h1,fun k hk=>?_⟩;rw [hins,if_pos (by omega)];exact of_decide_eq_true (h2 k (List.mem_range.2 (by omega)))
 have cond:(decide (ts.take (ts.length-x.n.toNat)=(ndAt p i).ins.map tyD) && allB (2,0,0) (ts.drop (ts.length-x.n.toNat)))=(decide ((ts.length:Int)-x.n=((ndAt p i).ins.length:Int)) && (!(x.n==1 && !truthT (atT ts (ts.length-1))) && (List.range (ndAt p i).ins.length).all fun k=>decide (tyD ((ndAt p i).ins[k]?.getD default)=atT ts k))):=by
  rw [key _ (Nat.sub_le _ _)];generalize ((List.range (ndAt p i).ins.length).all fun k=>decide (tyD ((ndAt p i).ins[k]?.getD default)=atT ts k))=C;rcases hn with hn | hn
  · rw [hn,show(0:Int).toNat=0 from rfl,Nat.sub_zero,List.drop_length,show((0:Int)==1)=false from rfl,show allB (2,0,0) []=true from rfl]
    have e:decide ((ndAt p i).ins.length=ts.length)=decide ((ts.length:Int)-0=((ndAt p i).ins.length:Int)):=by
     rw [Bool.eq_iff_iff,decide_eq_true_eq,decide_eq_true_eq];omega
    rw [e]
    simp
  · have hd:ts.drop (ts.length-1)=[atT ts (ts.length-1)]:=by
     rw [List.drop_eq_getElem_cons (by omega),atT_get (by omega),List.drop_eq_nil_of_le (by omega)]
    rw [hn,show(1:Int).toNat=1 from rfl,hd,allB_one,show((1:Int)==1)=true from rfl]
    have e:decide ((ndAt p i).ins.length=ts.length-1)=decide ((ts.length:Int)-1=((ndAt p i).ins.length:Int)):=by
     rw [Bool.eq_iff_iff,decide_eq_true_eq,decide_eq_true_eq];omega
    rw [e];unfold truthT
    cases decide ((ts.length:Int)-1=((ndAt p i).ins.length:Int)) <;> cases C <;> cases decide (atT ts (ts.length-1)=(2,0,0)) <;> rfl
 rw [cond]
 by_cases hA:(ts.length:Int)-x.n=((ndAt p i).ins.length:Int)
 · rw [if_neg (show ¬ ¬ _ from fun h=>h hA),decide_eq_true hA,Bool.true_and]
   cases (x.n==1 && !truthT (atT ts (ts.length-1))) with
   | true=>rfl
   | false=>rfl
 · rw [if_pos hA,decide_eq_false hA,Bool.false_and];rfl
end
end Go.Proofs.YtkbpdoomhfkngaaGreat
