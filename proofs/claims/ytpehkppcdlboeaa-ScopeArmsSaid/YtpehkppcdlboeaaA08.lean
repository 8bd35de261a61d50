/- Parts of the proof: PgA, TyN, TyP, TyQ, TyS, PgB, PgC, PgD, PgE, PgF, PgG, PgH, PgJ, PgK, PgN, PgO, TyL, PgQ, PhD. Conditions: each theorem's own. -/
import Derived.BigRegion
import Derived.Sort.Grow
import Derived.Laws.ResultCell
import Derived.Laws.Rows
import Derived.Laws.Tables
import Derived.Laws.CopyOwn
import Derived.Test.YtpehkppcdlboeaaA02
import Derived.Test.YtpehkppcdlboeaaA07
namespace Go.Proofs.Ytpehkppcdlboeaa
set_option linter.unusedVariables false
set_option linter.unusedSimpArgs false
set_option maxRecDepth 100000
set_option maxHeartbeats 40000000
section
open Go.RowKit
def dcFew(d:Dc):Bool:=!decide (100<d.nm.size) && !decide (100<d.on.size) && !decide (100<d.ct.size)
def fewD(l:List Dc):Bool:=l.all dcFew && decide (l.length≤20)
end
section
open Go.RowKit Go.Shelf
attribute [local go_sem] Oper.semAt_some
def enB(e:En):Bool:=lowB e.1.data.toList && !e.2.isEmpty
def hiB(s:ByteArray):Bool:=highB s.data.toList
def namedB(es:List En):Bool:=es.all enB && (allE es).all hiB
def namedTo(es:List En) (k:Nat):Prop:=∀ j,j<k→lowB (nmE es j).data.toList=true∧0<(csE es j).length
section
variable {es:List En}{k:Nat}
theorem en_at(h:k<es.length):es[k]'h=(nmE es k,csE es k):=by
 simp [nmE,csE,List.getElem?_eq_getElem h]
theorem enB_at(h:k<es.length):enB (es[k]'h)=(lowB (nmE es k).data.toList && decide (0<(csE es k).length)):=by
 rw [en_at h];unfold enB
 cases csE es k <;> simp
theorem named_bad(h:k<es.length) (hb:lowB (nmE es k).data.toList=false∨(csE es k).length=0):namedB es=false:=by
 have:es.all enB=false:=by
  rw [List.all_eq_false];refine⟨es[k]'h,List.getElem_mem h,?_⟩;rw [enB_at h];rcases hb with h | h <;> simp [h]
 unfold namedB;rw [this,Bool.false_and]
theorem namedTo_all(H:namedTo es k) (h:es.length≤k):es.all enB=true:=by
 rw [List.all_eq_true];intro e he;obtain⟨j,hj,rfl⟩:=List.getElem_of_mem he;have:=H j (by omega);rw [enB_at hj,this.1,decide_eq_true this.2];rfl
theorem namedTo_succ(H:namedTo es k) (h1:lowB (nmE es k).data.toList=true) (h2:0<(csE es k).length):namedTo es (k+1):=fun j hj=>by
 rcases Nat.lt_or_ge j k with h | h
 · exact H j h
 · obtain rfl:j=k:=by omega
   exact⟨h1,h2⟩
theorem named_yes(h:es.all enB=true) (hp:∀ p∈flatE es,hiB p.2.2=true):namedB es=true:=by
 unfold namedB;rw [h,Bool.true_and,List.all_eq_true];intro s hs;obtain⟨p,hp',rfl⟩:=List.mem_map.1 hs;exact hp p hp'
theorem named_no{ini:List Pl}{x:Pl}(hp:ini++[x] <+: flatE es) (hx:hiB x.2.2=false):namedB es=false:=by
 unfold namedB;have hm:x∈flatE es:=hp.subset (by simp)
 have:(allE es).all hiB=false:=by
  rw [List.all_eq_false];exact⟨x.2.2,List.mem_map.2 ⟨x,hm,rfl⟩,by simp [hx]⟩
 rw [this,Bool.and_false]
theorem EsOk.flat(h:EsOk es):∀ p∈flatE es,p.2.2.size≤maxLen:=by
 intro p hp;have h1:p.2.2∈namesTo es es.length:=List.mem_map.2 ⟨p,hp,rfl⟩;obtain⟨j,hj,hm⟩:=namesTo_mem h1;exact(h j hj).2 _ hm
end
theorem cell_l1(w:World) (u v:Value) (T:TypeId):(w.alloc (.cells #[u,v] T)).cell? ⟨w.heap.size,1,none⟩=some v:=(Box2.new w T u v).c1
theorem tyNamed_in(n:Nat) (hn:6≤n) (A:Option Addr) (len cap:Nat) (es:List En) (w:World) (hE:RdE w A len es) (hok:EsOk es):
 CallsIn Fence.wide n Try.prog 43 #[.slice A len cap] w fun e w'=>e=.returned (.bool (namedB es))∧Below w.heap.size w w':=by
 have h1:1≤n:=by omega
 have hlen:=hE.len;have hmx:=hE.max;refine callsIn_of_wp_marks Try.func43 rfl trivial ?_ rfl;simp only [Try.ntmps43,List.size_toArray,List.length_cons,List.length_nil,Nat.reduceAdd,Nat.reduceSub,Array.replicate_succ,Array.replicate_zero,List.push_toArray,List.append_toArray,List.nil_append,List.cons_append]
 gi_wp2_with fail
 gi_loopw [9] (fun i wr=>∃ k:Nat,k≤len∧i=.int .i64 k∧namedTo es k∧Boxed wr w.heap.size 4 (.bool false)∧Below w.heap.size w wr)
  (fun i _=>len-(intOf i).toNat)
 case atStart=>exact⟨0,Nat.zero_le _,rfl,fun j hj=>absurd hj (by omega),Boxed.new _ _ _,(Below.refl _ _).alloc (Nat.le_refl _) _⟩
 case round=>
  obtain⟨k,hk,rfl,hto,hbx,hnx⟩:=hrel;have HT:=Hd hto;clear hto
  by_cases hlt:k<len
  · obtain⟨b,off,rfl,hb,hc⟩:=hE.at_ hlt;obtain⟨hn0,A',n',c',hs0,hR0⟩:=hc k hlt;have hn1:wr.cell? ⟨b,off+k*2,none⟩=some (.string (nmE es k)):=(hnx.cell (p:=⟨b,off+k*2,none⟩) hb).trans hn0;have hs1:wr.cell? ⟨b,off+k*2+1,none⟩=some (.slice A' n' c'):=(hnx.cell (p:=⟨b,off+k*2+1,none⟩) hb).trans hs0;have hkl:k<es.length:=by omega
    have hcl:=hR0.len;have hcm:=hR0.max;have HBAD:=Hd fun h=>named_bad hkl h;have HNX:=Hd fun h1 h2=>namedTo_succ HT.out h1 h2;have hzl:=(hok k hkl).1;unfold maxLen at hzl;generalize hxn:nmE es k=x at hn1 hzl HBAD HNX
    by_cases hlow:lowB x.data.toList=true
    · rcases Nat.eq_zero_or_pos n' with hz | hz
      · have HE:=Hd (HBAD.out (.inr (by omega)));subst hz
        gi_wp2_with fail
        refine⟨trivial,(callsIn_wide.2 (idLow x _ (by omega))).mono ?_⟩;rw [hlow];rintro e w3 ⟨rfl,hb3⟩;have d1:=(hb3.cell (p:=⟨wr.heap.size,1,none⟩) (by simp)).trans (cell_l1 wr _ _ _);have hbx3:=boxed_below (hbx.alloc (.cells #[.string x,.slice A' 0 c'] 55)) hb3 (by have:=hbx.lt;simp;omega);have HX:=Hd hbx3;have e2:=hbx3.cell;have f2:=hbx3.frozen;have HB3:=Hd ((hnx.alloc hnx.size (.cells #[.string x,.slice A' 0 c'] 55)).trans (hb3.mono (by have:=hnx.size;simp;omega)));clear hb3 hbx3
        gi_wp2_with fail
        refine⟨_,?_,ret_bool HE.out.symm,HB3.out.setCell (p:=⟨w.heap.size,0,none⟩) (Nat.le_refl _) _⟩;have k1:=(HX.out.set (.bool false)).cell
        simp [results,Try.f43,go_sem,k1]
      · have HN:=Hd (HNX.out hlow (by omega));have hnz:((n':Int)==0)=false:=by rw [beq_eq_false_iff_ne];omega
        gi_wp2_with fail
        refine⟨trivial,(callsIn_wide.2 (idLow x _ (by omega))).mono ?_⟩;rw [hlow];rintro e w3 ⟨rfl,hb3⟩;have d1:=(hb3.cell (p:=⟨wr.heap.size,1,none⟩) (by simp)).trans (cell_l1 wr _ _ _);have hbx3:=boxed_below (hbx.alloc (.cells #[.string x,.slice A' n' c'] 55)) hb3 (by have:=hbx.lt;simp;omega);have HX:=Hd hbx3;have HB3:=Hd ((hnx.alloc hnx.size (.cells #[.string x,.slice A' n' c'] 55)).trans (hb3.mono (by have:=hnx.size;simp;omega)));clear hb3 hbx3
        gi_wp2_with fail
        go_roundw
        case rel=>exact⟨k+1,by omega,by go_num,HN.out,HX.out,HB3.out⟩
        case measure=>simp [intOf];omega
    · have hlow:lowB x.data.toList=false:=by simpa using hlow
      have HE:=Hd (HBAD.out (.inl hlow))
      gi_wp2_with fail
      refine⟨trivial,(callsIn_wide.2 (idLow x _ (by omega))).mono ?_⟩;rw [hlow];rintro e w3 ⟨rfl,hb3⟩;have hbx3:=boxed_below (hbx.alloc (.cells #[.string x,.slice A' n' c'] 55)) hb3 (by have:=hbx.lt;simp;omega);have HX:=Hd hbx3;have e2:=hbx3.cell;have f2:=hbx3.frozen;have HB3:=Hd ((hnx.alloc hnx.size (.cells #[.string x,.slice A' n' c'] 55)).trans (hb3.mono (by have:=hnx.size;simp;omega)));clear hb3 hbx3
      gi_wp2_with fail
      refine⟨_,?_,ret_bool HE.out.symm,HB3.out.setCell (p:=⟨w.heap.size,0,none⟩) (Nat.le_refl _) _⟩;have k1:=(HX.out.set (.bool false)).cell
      simp [results,Try.f43,go_sem,k1]
  · obtain rfl:k=len:=by omega
    have HALL:=Hd (namedTo_all HT.out (by omega));have hbel:=hnx;clear HT
    gi_wp2_with fail
    refine⟨trivial,(callsIn_wide.2 (tyCtors _ _ _ _)).mono ?_⟩;rintro e w' ⟨rfl,rfl⟩
    gi_wp2_with fail
    have b4:=Boxed.new wr 22 (.slice A k cap);have hbx4:=hbx.alloc (.cells #[.slice A k cap] 22);have hB0:=hnx.alloc hnx.size (.cells #[.slice A k cap] 22);have hsz:(wr.alloc (.cells #[.slice A k cap] 22)).heap.size=wr.heap.size+1:=by simp
    have hlb:=hbx.lt;have hws:=hnx.size;obtain⟨W0,hW0⟩:∃ W0,wr.alloc (.cells #[.slice A k cap] 22)=W0:=⟨_,rfl⟩;rw [hW0] at b4 hbx4 hB0 hsz ⊢;clear hW0
    refine wpIn_rangeFunc_ownG rfl h1 (gf:=40) (lb:=#[.pointer (some ⟨wr.heap.size,0,none⟩)]) rfl trivial (enters_of Try.func40 (by kernel_rfl) rfl)
     (tyIter_stopsIn (n-1) (by omega) wr.heap.size w A k cap es hE W0 hB0 (by omega) b4.cell) belowK_t (belowK_b (by omega)) (Below.refl _ _) (fun _=>rfl)
     (fun pre W=>(Boxed W w.heap.size 4 (.bool false)∧∀ p∈pre,hiB p.1.2.2=true)∧Below w.heap.size w W)
     (fun c pre W=>((c=.ret∧∃ ini last,pre=ini++[last]∧hiB last.1.2.2=false)∧Boxed W w.heap.size 4 (.bool false))∧Below w.heap.size w W)
     (OwnFrom.and (OwnFrom.and (Own.from (boxed_own _ _ (fun _=>_)) _) (ownFrom_pure _ _)) (ownFrom_below (Nat.le_refl _) (by omega)))
     (fun c=>OwnFrom.and (OwnFrom.and (ownFrom_pure _ _) (Own.from (boxed_own _ _ (fun _=>_)) _)) (ownFrom_below (Nat.le_refl _) (by omega)))
     ⟨⟨hbx4,by simp⟩,hB0⟩
     (fun x=>{ tmps:=#[.slice A k cap,undef,.pointer (some ⟨w.heap.size,0,none⟩),undef,u4,undef,.string x.1.2.2,.slice A k cap,.int .i64 k,.int .i64 k,.bool false,u11,u12,u13,u14,u15,u16,u17,u18,u19,u20,u21,u22,u23,.slice A k cap,.func (.func 40) #[] #[.pointer (some ⟨wr.heap.size,0,none⟩)],.agg #[.int .i64 (x.1.1:Int),.int .i64 (x.1.2.1:Int)],.string x.1.2.2,undef,undef,undef],defers:=[] }) ?assign ?body ?done ?stop
    case assign=>
     intro l x W K hK;simp only [encPl]
     gi_wp2
     exact hK
    case body=>
     rintro l pre ⟨⟨xi,xk,xc⟩,hx⟩ W ⟨⟨hb,hp⟩,hB⟩ hlt;have hxz:=hok.flat _ hx
     dsimp only at hxz
     unfold maxLen at hxz;have e1:=hb.cell;have f1:=hb.frozen;have hd:1≤n-1-1:=by omega
     have HHI:=Hd (show hiB xc=highB xc.data.toList from rfl)
     by_cases hhi:highB xc.data.toList=true
     · gi_wp2_with fail
       refine⟨trivial,(CallsIn.inRound l (callsIn_wide.2 (idHigh xc _ (by omega)))).mono ?_⟩;rw [hhi];rintro e w3 ⟨rfl,hb3⟩;have HB3:=Hd hb3;clear hb3
       gi_wp2_with fail
       exact⟨keepsFrom_below HB3.out,HB3.out.mono hB.size,⟨boxed_below hb HB3.out hb.lt,fun p hp'=>(List.mem_append.1 hp').elim (hp p) (fun e=>by simp at e;subst e;exact HHI.out.trans hhi)⟩,hB.trans (HB3.out.mono hB.size)⟩
     · have hhi:highB xc.data.toList=false:=by simpa using hhi
       gi_wp2_with fail
       refine⟨trivial,(CallsIn.inRound l (callsIn_wide.2 (idHigh xc _ (by omega)))).mono ?_⟩;rw [hhi];rintro e w3 ⟨rfl,hb3⟩;have HB3:=Hd hb3;clear hb3;have hb':=boxed_below hb HB3.out hb.lt;have e2:=hb'.cell;have f2:=hb'.frozen
       gi_wp2_with fail
       exact⟨((keepsFrom_below HB3.out).trans ((KeepsOthers.setCell _ _ _).from _)),⟨⟨rfl,pre,_,rfl,HHI.out.trans hhi⟩,hb'.set (.bool false)⟩,(hB.trans (HB3.out.mono hB.size)).setCell (p:=⟨w.heap.size,0,none⟩) (Nat.le_refl _) _⟩
    case done=>
     rintro D ys W hD hys ⟨⟨hb,hp⟩,hB⟩ hK;have e1:=hb.cell;have f1:=hb.frozen
     gi_wp2
     have hK':=(KeepsOthers.setCell W ⟨w.heap.size,0,none⟩ (.bool true)).same D _ hK rfl;have k1:=((hb.set (.bool true)).kept (grownBy_putObj' _ D (.deferred none)) (fun e=>by cases e;omega)).cell;refine⟨by simp,.inl ⟨_,_,rfl,run_takeDeferred hK',?_⟩⟩;refine⟨.bool true,?_,by rw [named_yes HALL.out fun p hp'=>by rw [← hys] at hp';obtain⟨q,hq,rfl⟩:=List.mem_map.1 hp';exact hp q hq],(hB.setCell (p:=⟨w.heap.size,0,none⟩) (Nat.le_refl _) _).trans (belowK_b (w:=w) (Nat.le_refl _) _ D _ _ (by omega) hK' rfl rfl)⟩
     simp [results,Try.f43,go_sem,k1]
    case stop=>
     rintro D c pre W hD hpre ⟨⟨⟨rfl,ini,last,rfl,hl⟩,hb⟩,hB⟩ hK
     gi_wp2
     have k1:=(hb.kept (grownBy_putObj' _ D (.deferred none)) (fun e=>by cases e;omega)).cell;refine⟨by simp,.inl ⟨_,_,rfl,run_takeDeferred hK,?_⟩⟩;refine⟨.bool false,?_,by rw [named_no (ini:=ini.map (·.1)) (x:=last.1) (by simpa using hpre) hl],hB.trans (belowK_b (w:=w) (Nat.le_refl _) _ D _ _ (by omega) hK rfl rfl)⟩
     simp [results,Try.f43,go_sem,k1]
theorem tyNamed(A:Option Addr) (len cap:Nat) (es:List En) (w:World) (hE:RdE w A len es) (hok:EsOk es):
 Calls Try.prog 43 #[.slice A len cap] w fun e w'=>e=.returned (.bool (namedB es))∧Below w.heap.size w w' :=
 callsIn_wide.1 (tyNamed_in 6 (Nat.le_refl _) A len cap es w hE hok)
end
section
open Go.RowKit Go.Shelf
attribute [local go_sem] Oper.semAt_some
def nmsE(es:List En):List ByteArray:=es.map (·.1)
def apartB(es:List En):Bool:=onceS (nmsE es) && onceS (allE es)
def EsFew(es:List En):Prop:=es.length≤8∧∀ j,j<es.length→(csE es j).length≤12
section
variable {es:List En}
theorem EsFew.flat(h:EsFew es):(flatE es).length≤96:=by
 have h1:=namesTo_len (es:=es) (i:=es.length) h.2;have h2:(namesTo es es.length).length=(flatE es).length:=by simp [namesTo,flatE]
 have:=h.1;omega
theorem EsOk.nms(h:EsOk es):∀ s∈nmsE es,s.size≤maxLen:=by
 intro s hs;obtain⟨e,he,rfl⟩:=List.mem_map.1 hs;obtain⟨j,hj,rfl⟩:=List.getElem_of_mem he;have:=(h j hj).1;unfold nmE at this;rwa [List.getElem?_eq_getElem hj] at this
theorem EsOk.all(h:EsOk es):∀ s∈allE es,s.size≤maxLen:=by
 intro s hs;obtain⟨p,hp,rfl⟩:=List.mem_map.1 hs;exact h.flat p hp
theorem nmsE_len:(nmsE es).length=es.length:=by simp [nmsE]
theorem nmsE_succ{k:Nat}(h:k<es.length):(nmsE es).take (k+1)=(nmsE es).take k++[nmE es k]:=by
 rw [take_snocT (by rw [nmsE_len];exact h)];unfold nmsE;rw [nm_map]
end
theorem cell_one_new2(w:World) (o:Obj) (v:Value) (T:TypeId) (h:o.isCells=true∨True):∀ j u,[v][j]?=some u→((w.alloc o).alloc (.cells #[v] T)).cell? ((⟨w.heap.size+1,0,none⟩:Addr).add j)=some u:=by
 have:=cell_one_new (w.alloc o) v T
 simpa using this
theorem row_own{β:Type}(base:Nat) (e:TypeId) (size:Nat) (v:Value) (k:Nat) (xs:List Value):Own (fun(_:β) W=>W.ownsRow base e size v k xs):=fun s X Y row hs hg hrow=>by
 refine hs.kept hg ?_;rcases hs.2 with⟨rfl,_⟩|⟨g,cap,cur,rfl,_,hgb,_⟩
 · exact .inl rfl
 · refine .inr fun e'=>?_;obtain⟨o,ho,hc⟩:=hrow g (by simpa [Value.ownBlock] using e'.symm);rw [hgb] at ho;cases ho;cases hc
theorem boxed_appended{W w1:World}{n₀ m₀ B:Nat}{t e:TypeId}{size:Nat}{v v':Value}{k m:Nat}{xs ys:List Value}{tmp:Obj}
 (hv:Boxed W B t v) (hte:t≠e) (hrow:W.ownsRow n₀ e size v k xs) (hn₀:n₀≤W.heap.size) (hm:m₀≤n₀) (hB:m₀≤B)
 (hown':w1.ownsRow n₀ e size v' m ys) (hgrow:(W.alloc tmp).grownBy w1 v.ownBlock):
 Boxed w1 B t v∧Boxed (w1.setCell ⟨B,0,none⟩ v') B t v'∧(w1.setCell ⟨B,0,none⟩ v').ownsRow n₀ e size v' m ys∧KeepsOthers W (w1.setCell ⟨B,0,none⟩ v')∧Below m₀ W (w1.setCell ⟨B,0,none⟩ v') ∧
  ∀ {base sz:Nat}{u:Value}{ku:Nat}{us:List Value},W.ownsRow base e sz u ku us→(∀ g,u.ownBlock=some g→g<n₀)→(w1.setCell ⟨B,0,none⟩ v').ownsRow base e sz u ku us:=by
 have hv1:Boxed w1 B t v:=(hv.alloc tmp).kept hgrow (hv.not_row hte hrow);refine⟨hv1,hv1.set v',hown'.kept (grownBy_setCell' w1 B v') (.inr (hv1.not_row hte hown').symm),?_,?_,?_⟩
 · refine((KeepsOthers.alloc W tmp).trans (KeepsOthers.of_grownBy hgrow fun j o ej hj=>?_)).trans (KeepsOthers.setCell _ _ _);rcases(hrow.alloc tmp).2 with⟨rfl,_⟩|⟨g,cap,cur,rfl,_,hgb,_⟩
   · simp [Value.ownBlock] at ej
   · obtain rfl:g=j:=by simpa [Value.ownBlock] using ej
     rw [hgb] at hj;cases hj;rfl
 · refine(((Below.refl m₀ W).alloc (by omega) tmp).grown hgrow (by simp;omega) fun j ej=>?_).setCell (p:=⟨B,0,none⟩) hB v';have:=(hrow.lt j ej).1;omega
 · intro base sz u ku us hu hlt
   have h2:w1.ownsRow base e sz u ku us:=(hu.alloc tmp).kept hgrow (by
    rcases hub:u.ownBlock with _ | g
    · exact .inl rfl
    · refine .inr fun e'=>?_;have h3:=hlt g hub;have h4:=(hrow.lt g e'.symm).1;omega)
   exact h2.kept (grownBy_setCell' w1 B v') (.inr (hv1.not_row hte h2).symm)
theorem tyApart_in(n:Nat) (hn:6≤n) (A:Option Addr) (len cap:Nat) (es:List En) (w:World) (hE:RdE w A len es) (hok:EsOk es) (hfew:EsFew es):
 CallsIn Fence.wide n Try.prog 44 #[.slice A len cap] w fun e w'=>e=.returned (.bool (apartB es))∧Below w.heap.size w w':=by
 have h1:1≤n:=by omega
 have hlen:=hE.len;have hmx:=hE.max;have hl8:=hfew.1;obtain⟨i0,hi,hz0,hz1,hz2⟩:=info_parts infoString;refine callsIn_of_wp_marks Try.func44 rfl trivial ?_ rfl;simp only [Try.ntmps44,List.size_toArray,List.length_cons,List.length_nil,Nat.reduceAdd,Nat.reduceSub,Array.replicate_succ,Array.replicate_zero,List.push_toArray,List.append_toArray,List.nil_append,List.cons_append]
 gi_wp2_with fail
 gi_loopw [3,11] (fun v i wr=>∃ k:Nat,k≤len∧i=.int .i64 k∧wr.ownsRow (w.heap.size+1) 9 1 v k (((nmsE es).take k).map Value.string)∧Boxed wr w.heap.size 48 (.slice none 0 0)∧Below w.heap.size w wr)
  (fun _ i _=>len-(intOf i).toNat)
 case atStart=>exact⟨0,Nat.zero_le _,rfl,World.ownsRow_nil _ _ _ _,Boxed.new _ _ _,(Below.refl _ _).alloc (Nat.le_refl _) _⟩
 case round=>
  obtain⟨k,hk,rfl,hrow,hbx,hnx⟩:=hrel;have hblt:=hbx.lt
  by_cases hlt:k<len
  · obtain⟨b,off,rfl,hb,hc⟩:=hE.at_ hlt;obtain⟨hn0,A',n',c',hs0,hR0⟩:=hc k hlt;have hn1:wr.cell? ⟨b,off+k*2,none⟩=some (.string (nmE es k)):=(hnx.cell (p:=⟨b,off+k*2,none⟩) hb).trans hn0;have hs1:wr.cell? ⟨b,off+k*2+1,none⟩=some (.slice A' n' c'):=(hnx.cell (p:=⟨b,off+k*2+1,none⟩) hb).trans hs0;have hkl:k<es.length:=by omega
    have hNM:=Hd (nmsE_succ hkl);generalize hxn:nmE es k=x at hn1 hNM
    gi_wp2_with (gi_at_builtin;refine wpListIn_append_own _ rfl _ _ 48 rfl (w.heap.size+1) 9 i0 (.string ByteArray.empty) 1 16 Try.underlying48 hi hz0 hz1 hz2 rfl (by decide) _ _ _ rfl ((hrow.alloc _).alloc _) ⟨wr.heap.size+1,0,none⟩ 1 1 [.string x] rfl rfl (cell_one_new2 _ _ _ _ (.inr trivial)) (string_cells [x]) (by unfold maxLen;omega) (by omega) (by simp;omega) ?_;intro v' w1 hown' hgrow _)
    have HO:=Hd hown';have hbx1:=(hbx.alloc (.cells #[.string x,.slice A' n' c'] 55)).alloc (.cells #[.string x] 9);have HB1:=Hd (hbx1.kept hgrow (hbx1.not_row (by decide) ((hrow.alloc _).alloc _)));have HG:=Hd ((((hnx.alloc hnx.size (.cells #[.string x,.slice A' n' c'] 55))).alloc (by have:=hnx.size;simp;omega) (.cells #[.string x] 9)).grown hgrow (by have:=hnx.size;simp;omega) (fun j hj=>by have:=(hrow.lt j hj).1;omega));clear hown' hgrow hbx1 hrow
    go_roundw
    case rel=>exact⟨k+1,by omega,by go_num,by rw [hNM.out,List.map_append];exact HO.out,HB1.out,HG.out⟩
    case measure=>simp [intOf];omega
  · obtain rfl:k=len:=by omega
    gi_wp2_with fail
    refine⟨trivial,(callsIn_wide.2 (tyCtors _ _ _ _)).mono ?_⟩;rintro e w' ⟨rfl,rfl⟩
    gi_wp2_with fail
    have b4:=Boxed.new wr 22 (.slice A k cap);have hbx4:=hbx.alloc (.cells #[.slice A k cap] 22);have hrow4:=hrow.alloc (.cells #[.slice A k cap] 22);have hB0:=hnx.alloc hnx.size (.cells #[.slice A k cap] 22);have hsz:(wr.alloc (.cells #[.slice A k cap] 22)).heap.size=wr.heap.size+1:=by simp
    have hlb:=hbx.lt;have hws:=hnx.size;have hu3:∀ g,u3.ownBlock=some g→g<wr.heap.size+1:=fun g hg=>by have:=(hrow.lt g hg).2;omega
    have hk12:=hfew.flat;obtain⟨W0,hW0⟩:∃ W0,wr.alloc (.cells #[.slice A k cap] 22)=W0:=⟨_,rfl⟩;rw [hW0] at b4 hbx4 hrow4 hB0 hsz ⊢;clear hW0 hrow hbx hnx
    refine wpIn_rangeFunc_ownG rfl h1 (gf:=40) (lb:=#[.pointer (some ⟨wr.heap.size,0,none⟩)]) rfl trivial (enters_of Try.func40 (by kernel_rfl) rfl)
     (tyIter_stops (n-1) (by omega) wr.heap.size w A k cap es hE W0 hB0 (by omega) b4.cell) belowK_t (belowK_b (by omega)) (Below.refl _ _) (fun _=>rfl)
     (fun pre W=>((∃ v,Boxed W w.heap.size 48 v∧W.ownsRow (wr.heap.size+1) 9 1 v pre.length (pre.map fun p=>Value.string p.2.2)∧True)∧W.ownsRow (w.heap.size+1) 9 1 u3 k (((nmsE es).take k).map Value.string)∧wr.heap.size+1≤W.heap.size)∧Below w.heap.size w W)
     (fun _ _ _=>False)
     (OwnFrom.and (OwnFrom.and (Own.from (holdsRow_own (wr.heap.size+1) w.heap.size 48 9 1 (fun(pre:List Pl)=>pre.length) (fun(pre:List Pl)=>pre.map fun p=>Value.string p.2.2) (fun _ _=>True)) _) (OwnFrom.and (Own.from (row_own _ _ _ _ _ _) _) (fun s X Y row hs hg hr=>Nat.le_trans hs hg.size))) (ownFrom_below (Nat.le_refl _) (by omega)))
     (fun _ _ _ _ _ hs _ _=>hs)
     ⟨⟨⟨_,hbx4,World.ownsRow_nil _ _ _ _,trivial⟩,hrow4,by omega⟩,hB0⟩
     (fun x=>{ tmps:=#[.slice A k cap,undef,.bool false,u3,.pointer (some ⟨w.heap.size,0,none⟩),undef,u6,undef,.string x.2.2,.slice A k cap,.int .i64 k,.int .i64 k,.bool false,u13,u14,u15,u16,u17,u18,u19,u20,.slice A k cap,.func (.func 40) #[] #[.pointer (some ⟨wr.heap.size,0,none⟩)],.agg #[.int .i64 (x.1:Int),.int .i64 (x.2.1:Int)],.string x.2.2,undef,undef,undef,undef,undef,undef,undef,undef,undef,undef],defers:=[] }) ?assign ?body ?done ?stop
    case assign=>
     intro l x W K hK;simp only [encPl]
     gi_wp2
     exact hK
    case body=>
     rintro l pre x W ⟨⟨⟨v,hv,hrw,_⟩,hrow,hWs⟩,hB⟩ hlt2;have hc:=hv.cell;generalize hx:x.2.2=xc
     gi_wp2_with (gi_at_builtin;refine wpListIn_append_own _ rfl _ _ 48 rfl (wr.heap.size+1) 9 i0 (.string ByteArray.empty) 1 16 Try.underlying48 hi hz0 hz1 hz2 rfl (by decide) _ _ _ rfl (hrw.alloc _) ⟨W.heap.size,0,none⟩ 1 1 [.string xc] rfl rfl (cell_one_new _ _ _) (string_cells [xc]) (by unfold maxLen;omega) (by omega) (by simp;omega) ?_;intro v' w1 hown' hgrow _;obtain⟨g',cap',rfl⟩:=ownsRow_succ hown';obtain⟨hv1,hv2,hr2,hk2,hb2,ho2⟩:=boxed_appended hv (by decide) hrw hWs (by omega) (Nat.le_refl _) hown' hgrow;have hc1:=hv1.cell;have hf1:=hv1.frozen)
     exact⟨hk2.from _,hb2,⟨⟨_,hv2,by rw [List.map_append,List.length_append];simpa [hx] using hr2,trivial⟩,ho2 hrow hu3,Nat.le_trans hWs hk2.size⟩,hB.trans hb2⟩
    case done=>
     rintro D ys W hD rfl ⟨⟨⟨v,hv,hrw,_⟩,hrow,hWs⟩,hB⟩ hK;have hc:=hv.cell;have hDl:=(Array.getElem?_eq_some_iff.1 hK).1;obtain⟨A1,c1,rfl,hR1,_⟩:=RdT.of_own hrow (by omega);have hnm:(nmsE es).take k=nmsE es:=List.take_of_length_le (by rw [nmsE_len];omega);rw [hnm] at hR1;rw [show(flatE es).map (fun p=>Value.string p.2.2)=(allE es).map Value.string by simp [allE]] at hrw;obtain⟨A2,c2,rfl,hR2,_⟩:=RdT.of_own hrw (by omega)
     by_cases ho:onceS (nmsE es)=true
     · have HE:=Hd (show onceS (allE es)=apartB es by simp [apartB,ho])
       gi_wp2_with fail
       refine⟨trivial,(callsIn_wide.2 (idOnce A1 k c1 (nmsE es) _ hR1 hok.nms (by omega))).mono ?_⟩;rw [ho];rintro e w3 ⟨rfl,hb3⟩;have hc3:=(hb3.cell (p:=⟨w.heap.size,0,none⟩) hv.lt).trans hc;have hK3:=(hb3.block D hDl).trans hK;have hR3:=hR2.below hb3;have HB3:=Hd (hB.trans (hb3.mono hB.size));have hs3:=hb3.size;clear hb3
       gi_wp2_with fail
       refine⟨trivial,(callsIn_wide.2 (idOnce A2 _ c2 (allE es) _ hR3 hok.all (by omega))).mono ?_⟩;rw [HE.out];rintro e w4 ⟨rfl,hb4⟩;have hK4:=(hb4.block D (by omega)).trans hK3;have HB4:=Hd (HB3.out.trans (hb4.mono HB3.out.size));clear hb4
       gi_wp2_with fail
       refine⟨by simp,.inl ⟨_,_,rfl,run_takeDeferred hK4,?_⟩⟩;exact⟨_,results_tmp rfl _ _ _,rfl,HB4.out.trans (belowK_b (w:=w) (Nat.le_refl _) _ D _ _ (by omega) hK4 rfl rfl)⟩
     · have ho:onceS (nmsE es)=false:=by simpa using ho
       have HE:=Hd (show false=apartB es by simp [apartB,ho])
       gi_wp2_with fail
       refine⟨trivial,(callsIn_wide.2 (idOnce A1 k c1 (nmsE es) _ hR1 hok.nms (by omega))).mono ?_⟩;rw [ho];rintro e w3 ⟨rfl,hb3⟩;have hK3:=(hb3.block D hDl).trans hK;have HB3:=Hd (hB.trans (hb3.mono hB.size));clear hb3
       gi_wp2_with fail
       refine⟨trivial,?_⟩
       gi_wp2_with fail
       refine⟨by simp,.inl ⟨_,_,rfl,run_takeDeferred hK3,?_⟩⟩;rw [← HE.out];exact⟨_,results_tmp rfl _ _ _,rfl,HB3.out.trans (belowK_b (w:=w) (Nat.le_refl _) _ D _ _ (by omega) hK3 rfl rfl)⟩
    case stop=>
     rintro D c pre W _ _ h _;exact h.elim
theorem tyApart(A:Option Addr) (len cap:Nat) (es:List En) (w:World) (hE:RdE w A len es) (hok:EsOk es) (hfew:EsFew es):
 Calls Try.prog 44 #[.slice A len cap] w fun e w'=>e=.returned (.bool (apartB es))∧Below w.heap.size w w' :=
 callsIn_wide.1 (tyApart_in 6 (Nat.le_refl _) A len cap es w hE hok hfew)
end
section
open Go.RowKit
def manyB(es:List En):Bool:=decide (4<es.length) || es.any fun e=>decide (6<e.2.length)
def fewTo(es:List En) (k:Nat):Prop:=∀ j,j<k→(csE es j).length≤6
def enumsN(es:List En):Int:=if manyB es then 4 else if namedB es then(if apartB es then 0 else 6) else 1
section
variable {es:List En}{k:Nat}
theorem many_at(h:k<es.length) (hb:6<(csE es k).length):manyB es=true:=by
 unfold manyB;rw [Bool.or_eq_true,List.any_eq_true];refine .inr ⟨es[k]'h,List.getElem_mem h,?_⟩;rw [en_at h];exact decide_eq_true hb
theorem many_no(h4:es.length≤4) (H:fewTo es k) (h:es.length≤k):manyB es=false:=by
 unfold manyB;rw [Bool.or_eq_false_iff,List.any_eq_false];refine⟨decide_eq_false (by omega),fun e he=>?_⟩;obtain⟨j,hj,rfl⟩:=List.getElem_of_mem he;have:=H j (by omega);rw [en_at hj];simp only [decide_eq_true_eq];omega
theorem fewTo_succ(H:fewTo es k) (h:(csE es k).length≤6):fewTo es (k+1):=fun j hj=>by
 rcases Nat.lt_or_ge j k with h1 | h1
 · exact H j h1
 · obtain rfl:j=k:=by omega
   exact h
end
theorem tyMany(A:Option Addr) (len cap:Nat) (es:List En) (w:World) (hE:RdE w A len es):
 Calls Try.prog 42 #[.slice A len cap] w fun e w'=>e=.returned (.bool (manyB es))∧Below w.heap.size w w':=by
 have hlen:=hE.len;have hmx:=hE.max
 by_cases h4:4<len
 · go_enter Try.func42,Try.ntmps42
   go_wp2_with fail
   go_ret
   exact⟨ret_bool (by simp [manyB,hlen,h4]),Below.refl _ _⟩
 · have hd4:decide ((4:Int)<(len:Int))=false:=decide_eq_false (by omega)
   go_enter Try.func42,Try.ntmps42
   go_wp2_with fail
   go_loopw [10] (fun i wr=>∃ k:Nat,k≤len∧i=.int .i64 k∧fewTo es k∧Below w.heap.size w wr) (fun i _=>len-(intOf i).toNat)
   case atStart=>exact⟨0,Nat.zero_le _,rfl,fun j hj=>absurd hj (by omega),Below.refl _ _⟩
   case round=>
    obtain⟨k,hk,rfl,hto,hnx⟩:=hrel;have HT:=Hd hto;clear hto
    by_cases hlt:k<len
    · obtain⟨b,off,rfl,hb,hc⟩:=hE.at_ hlt;obtain⟨hn0,A',n',c',hs0,hR0⟩:=hc k hlt;have hn1:wr.cell? ⟨b,off+k*2,none⟩=some (.string (nmE es k)):=(hnx.cell (p:=⟨b,off+k*2,none⟩) hb).trans hn0;have hs1:wr.cell? ⟨b,off+k*2+1,none⟩=some (.slice A' n' c'):=(hnx.cell (p:=⟨b,off+k*2+1,none⟩) hb).trans hs0;have hkl:k<es.length:=by omega
      have hcl:=hR0.len;have hcm:=hR0.max
      by_cases h6:6<n'
      · have HE:=Hd (many_at hkl (by omega))
        go_wp2_with fail
        go_ret
        exact⟨ret_bool HE.out.symm,hnx.alloc hnx.size _⟩
      · have HN:=Hd (fewTo_succ HT.out (by omega));have hd6:decide ((6:Int)<(n':Int))=false:=decide_eq_false (by omega)
        go_wp2_with fail
        go_roundw
        case rel=>exact⟨k+1,by omega,by go_num,HN.out,hnx.alloc hnx.size _⟩
        case measure=>simp [intOf];omega
    · go_wp2_with fail
      go_ret
      exact⟨ret_bool (many_no (by omega) HT.out (by omega)).symm,hnx⟩
theorem tyEnums(A:Option Addr) (len cap:Nat) (es:List En) (w:World) (hE:RdE w A len es) (hok:EsOk es) (hfew:EsFew es):
 Calls Try.prog 29 #[.slice A len cap] w fun e w'=>e=.returned (.int .i64 (enumsN es))∧Below w.heap.size w w':=by
 have HE:=Hd hE;clear hE
 cases hm:manyB es with
 | true=>
  have hN:=Hd (show(4:Int)=enumsN es by simp [enumsN,hm])
  go_enter Try.func29,Try.ntmps29
  go_wp2_with fail
  refine(tyMany A len cap es w HE.out).mono ?_;rw [hm];rintro e w1 ⟨rfl,hb1⟩;have HB1:=Hd hb1;clear hb1
  go_wp2_with fail
  go_ret
  exact⟨ret_int hN.out,HB1.out⟩
 | false=>
  cases hn:namedB es with
  | false=>
   have hN:=Hd (show(1:Int)=enumsN es by simp [enumsN,hm,hn])
   go_enter Try.func29,Try.ntmps29
   go_wp2_with fail
   refine(tyMany A len cap es w HE.out).mono ?_;rw [hm];rintro e w1 ⟨rfl,hb1⟩;have HB1:=Hd hb1;clear hb1
   go_wp2_with fail
   refine(tyNamed A len cap es _ (HE.out.below HB1.out) hok).mono ?_;rw [hn];rintro e w2 ⟨rfl,hb2⟩;have HB2:=Hd (below_trans2 HB1.out hb2);clear hb2
   go_wp2_with fail
   go_ret
   exact⟨ret_int hN.out,HB2.out⟩
  | true=>
   cases ha:apartB es with
   | false=>
    have hN:=Hd (show(6:Int)=enumsN es by simp [enumsN,hm,hn,ha])
    go_enter Try.func29,Try.ntmps29
    go_wp2_with fail
    refine(tyMany A len cap es w HE.out).mono ?_;rw [hm];rintro e w1 ⟨rfl,hb1⟩;have HB1:=Hd hb1;clear hb1
    go_wp2_with fail
    refine(tyNamed A len cap es _ (HE.out.below HB1.out) hok).mono ?_;rw [hn];rintro e w2 ⟨rfl,hb2⟩;have HB2:=Hd (below_trans2 HB1.out hb2);clear hb2
    go_wp2_with fail
    refine(tyApart A len cap es _ (HE.out.below HB2.out) hok hfew).mono ?_;rw [ha];rintro e w3 ⟨rfl,hb3⟩;have HB3:=Hd (below_trans2 HB2.out hb3);clear hb3
    go_wp2_with fail
    go_ret
    exact⟨ret_int hN.out,HB3.out⟩
   | true=>
    have hN:=Hd (show(0:Int)=enumsN es by simp [enumsN,hm,hn,ha])
    go_enter Try.func29,Try.ntmps29
    go_wp2_with fail
    refine(tyMany A len cap es w HE.out).mono ?_;rw [hm];rintro e w1 ⟨rfl,hb1⟩;have HB1:=Hd hb1;clear hb1
    go_wp2_with fail
    refine(tyNamed A len cap es _ (HE.out.below HB1.out) hok).mono ?_;rw [hn];rintro e w2 ⟨rfl,hb2⟩;have HB2:=Hd (below_trans2 HB1.out hb2);clear hb2
    go_wp2_with fail
    refine(tyApart A len cap es _ (HE.out.below HB2.out) hok hfew).mono ?_;rw [ha];rintro e w3 ⟨rfl,hb3⟩;have HB3:=Hd (below_trans2 HB2.out hb3);clear hb3
    go_wp2_with fail
    go_ret
    exact⟨ret_int hN.out,HB3.out⟩
end
section
open Go.RowKit
theorem RdT.news{w:World}{a:Addr}{n:Nat}{l:List ByteArray}(h:RdT w (some a) n l) (j:Nat) (u:Value) (hu:(l.map Value.string)[j]?=some u):w.cell? (a.add j)=some u:=by
 have hj:j<l.length:=by
  rcases Nat.lt_or_ge j l.length with h | h
  · exact h
  · rw [List.getElem?_eq_none (by simpa using h)] at hu;cases hu
 obtain⟨b,off,e,_,hc⟩:=h.at_ (i:=j) (by rw [← h.len];exact hj);injection e with e;subst e;have:=hc j (by rw [← h.len];exact hj);have e2:(⟨b,off,none⟩:Addr).add j=⟨b,off+j,none⟩:=by unfold Addr.add;split <;> simp_all
 rw [e2,this,← hu]
 simp [List.getElem?_eq_getElem hj]
section
variable {P:Program}{w:World}
end
def Apt(u v:Value):Prop:=∀ g,u.ownBlock=some g→v.ownBlock≠some g
theorem Apt.symm{u v:Value}(h:Apt u v):Apt v u:=fun g hg e=>h g e hg
theorem Apt.ne{u v:Value}(h:Apt u v):u.ownBlock=none∨u.ownBlock≠v.ownBlock:=by
 rcases hub:u.ownBlock with _ | g
 · exact .inl rfl
 · exact .inr fun e=>h g hub e.symm
end
section
open Go.RowKit
theorem names_succ{l:List Dc}{k:Nat}(hk:k<l.length):(namesD l).take (k+1)=(namesD l).take k++[(l[k]?.getD default).nm]:=by
 rw [namesD,List.take_add_one,List.getElem?_map,List.getElem?_eq_getElem hk]
 simp
theorem names_len(l:List Dc):(namesD l).length=l.length:=by simp [namesD]
end
section
open Go.RowKit Go.Sort
def flD(l:List Dc):List Value:=l.flatMap dcL
theorem flD_len(l:List Dc):(flD l).length=l.length*6:=by
 induction l with
 | nil=>rfl
 | cons d l ih=>simp only [flD,List.flatMap_cons,List.length_append,List.length_cons] at ih ⊢;rw [ih];simp [dcL];omega
theorem flD_app(a b:List Dc):flD (a++b)=flD a++flD b:=by simp [flD]
theorem flD_at:∀ (l:List Dc) (i j:Nat),i<l.length→j<6→(flD l)[i*6+j]?=(dcL (l[i]?.getD default))[j]?
 | t::ts,0,j,_,hj=>by
  have hz:j<(dcL t).length:=by simpa [dcL] using hj
  simp only [flD,List.flatMap_cons,Nat.zero_mul,Nat.zero_add];rw [List.getElem?_append_left hz]
  simp
 | t::ts,i+1,j,hi,hj=>by
  have ih:=flD_at ts i j (by simpa using hi) hj;have hz:(dcL t).length=6:=by simp [dcL]
  simp only [flD,List.flatMap_cons];rw [List.getElem?_append_right (by rw [hz];omega),hz,show(i+1)*6+j-6=i*6+j by omega]
  simpa [flD] using ih
theorem flD_ones(l:List Dc):∀ u∈flD l,u.oneCell'=true:=by
 intro u hu;simp only [flD,List.mem_flatMap] at hu;obtain⟨t,_,hu⟩:=hu
 simp [dcL] at hu
 rcases hu with rfl | rfl | rfl | rfl | rfl | rfl <;> rfl
section
variable {w w':World}{A:Option Addr}{n:Nat}{l:List Dc}
theorem RdD.of_own{base:Nat}{e:TypeId}{v:Value}(h:w.ownsRow base e 6 v n (flD l)) (hm:n≤9223372036854775807):∃ A c,v=.slice A n c∧RdD w A n l:=by
 have hl:l.length=n:=by
  have:=h.1;rw [flD_len] at this;omega
 rcases h.2 with⟨rfl,rfl⟩|⟨g,cap,cur,rfl,hg,hh,hnc,hcm,hcs,ht⟩
 · obtain rfl:l=[]:=List.eq_nil_of_length_eq_zero hl;exact⟨none,0,rfl,RdS.nil_ _ _ _⟩
 · refine⟨_,cap,rfl,hl,hm,fun hn=>⟨g,0,rfl,(Array.getElem?_eq_some_iff.1 hh).1,fun i hi=>?_⟩⟩;intro j v hv
   have hj:j<6:=by
    rcases Nat.lt_or_ge j 6 with h | h
    · exact h
    · rw [List.getElem?_eq_none (by simpa [dcL] using h)] at hv;cases hv
   rw [Nat.zero_add,h.cellAt (i*6+j) (by omega),flD_at l i j (by omega) hj,hv]
theorem RdD.news(h:RdD w A n l):(A=none→n=0)∧∀ ad,A=some ad→∀ j u,(flD l)[j]?=some u→w.cell? (ad.add j)=some u:=by
 constructor
 · rintro rfl;rcases Nat.eq_zero_or_pos n with h0 | h0
   · exact h0
   · obtain⟨b,off,e,_⟩:=RdS.at_ h h0;cases e
 · rintro ad rfl j u hu
   have hj:j<l.length*6:=by
    rcases Nat.lt_or_ge j (l.length*6) with h1 | h1
    · exact h1
    · rw [List.getElem?_eq_none (by rw [flD_len];exact h1)] at hu;cases hu
   have hlen:=RdS.len h;obtain⟨b,off,e,hb,hc⟩:=RdS.at_ h (by omega);injection e with e;subst e;have h6:j / 6*6+j % 6=j:=by omega
   have h7:j % 6<6:=by omega
   have h1:=hc (j / 6) (by omega);rw [add_addr];have h2:=flD_at l (j / 6) (j % 6) (by omega) h7;rw [h6,hu] at h2;have h3:=h1 (j % 6) u h2.symm;rwa [show off+j / 6*6+j % 6=off+j by omega] at h3
end
theorem infoDecl:(Try.prog.info? 45).map (fun i=>(i.size,i.bytes,i.zero.map fun z=>z.cells.size))=some (6,72,some 6):=by kernel_rfl
theorem info_three{P:Program}{t:TypeId}{a b c:Nat}(h:(P.info? t).map (fun i=>(i.size,i.bytes,i.zero.map fun z=>z.cells.size))=some (a,b,some c)):∃ i z,P.info? t=some i∧i.zero=some z∧i.size=a∧i.bytes=b∧z.cells.size=c:=by
 obtain⟨i,h1,h2⟩:=Option.map_eq_some_iff.1 h;simp only [Prod.mk.injEq,Option.map_eq_some_iff] at h2;obtain⟨h3,h4,z,h5,h6⟩:=h2;exact⟨i,z,h1,h5,h3,h4,h6⟩
theorem nd_facts(w:World) (x:Nd) (A1:Option Addr) (c1:Nat) (A2:Option Addr) (c2:Nat) (A3:Option Addr) (c3:Nat) (A4:Option Addr) (c4:Nat) (w1:World) (h:w.alloc (.cells (ndA x A1 c1 A2 c2 A3 c3 A4 c4) 41)=w1) (hr:rdN w x A1 A2 A3 A4):
 Below w.heap.size w w1∧w1.heap.size=w.heap.size+1∧rdN w1 x A1 A2 A3 A4∧∀ w',Below w1.heap.size w1 w'→∀ j,w'.cell? ⟨w.heap.size,j,none⟩=(ndA x A1 c1 A2 c2 A3 c3 A4 c4)[j]?:=by
 subst h;refine⟨(Below.refl _ _).alloc (Nat.le_refl _) _,by simp,hr.below ((Below.refl _ _).alloc (Nat.le_refl _) _),fun w' hb j=>?_⟩;rw [hb.cell (p:=⟨w.heap.size,j,none⟩) (by simp),World.cell?_alloc_new]
def DeclsPost(w:World) (n:Nat) (l:List Dc) (e:Ending) (w':World):Prop:=∃ A c,e=.returned (.slice A n c)∧RdD w' A n l∧Below w.heap.size w w'
end
section
open Go.RowKit
def OkD(d:Dc):Prop:=d.nm.size≤maxLen∧d.on.size≤maxLen∧d.ct.size≤maxLen
theorem dc_facts(w:World) (d:Dc) (w1:World) (h:w.alloc (.cells (dcA d) 45)=w1):
 Below w.heap.size w w1∧w1.heap.size=w.heap.size+1∧∀ w',Below w1.heap.size w1 w'→∀ j,w'.cell? ⟨w.heap.size,j,none⟩=(dcA d)[j]?:=by
 subst h;refine⟨(Below.refl _ _).alloc (Nat.le_refl _) _,by simp,fun w' hb j=>?_⟩;rw [hb.cell (p:=⟨w.heap.size,j,none⟩) (by simp),World.cell?_alloc_new]
theorem below_next{w w1 w2:World}(h:Below w.heap.size w w1) (hb:Below w1.heap.size w1 w2):Below w.heap.size w w2:=h.trans (hb.mono h.size)
end
section
open Go.RowKit
def qnA(q:Qn) (A:Option Addr) (c:Nat) (A':Option Addr) (ca:Nat) (B':Option Addr) (cb:Nat):Array Value:=
 #[.slice A q.ns.length c,.int .i64 q.x.k,.int .i64 q.x.n,.string q.x.s,.int .i64 q.x.op,.slice A' q.x.arms.length ca,.slice B' q.x.subs.length cb]
def OkQ(q:Qn):Prop:=(∀ s∈q.ns,s.size≤maxLen)∧sizeX q.x≤1000000∧∀ p∈partsX q.x,ShortP p
theorem qn_facts(w:World) (q:Qn) (A:Option Addr) (c:Nat) (A':Option Addr) (ca:Nat) (B':Option Addr) (cb:Nat) (w1:World) (h:w.alloc (.cells (qnA q A c A' ca B' cb) 52)=w1) (hr:RdT w A q.ns.length q.ns) (hx:rdX w q.x A' B'):
 Below w.heap.size w w1∧w1.heap.size=w.heap.size+1∧RdT w1 A q.ns.length q.ns∧rdX w1 q.x A' B'∧∀ w',Below w1.heap.size w1 w'→∀ j,w'.cell? ⟨w.heap.size,j,none⟩=(qnA q A c A' ca B' cb)[j]?:=by
 subst h;have hb:=(Below.refl w.heap.size w).alloc (Nat.le_refl _) (.cells (qnA q A c A' ca B' cb) 52);refine⟨hb,by simp,hr.below hb,hx.below hb,fun w' hb j=>?_⟩;rw [hb.cell (p:=⟨w.heap.size,j,none⟩) (by simp),World.cell?_alloc_new]
theorem getD_mem{ss:List ByteArray}{k:Nat}(h:k<ss.length):ss[k]?.getD ByteArray.empty∈ss:=by
 rw [List.getElem?_eq_getElem h];exact List.getElem_mem _
end
section
open Go.RowKit Go.Sort
def OkN(n:Nd):Prop:=n.nm.size≤maxLen∧(∀ d∈n.all,OkD d)∧∀ q∈n.eqs,OkQ q
theorem getD_memA{α:Type} [Inhabited α] {l:List α}{k:Nat}(h:k<l.length):l[k]?.getD default∈l:=by
 rw [List.getElem?_eq_getElem h];exact List.getElem_mem _
end
section
open Go.RowKit Go.Sort
def pgA(p:Pg) (E:Option Addr) (ec:Nat) (N:Option Addr) (nc:Nat):Array Value:=#[.slice E p.es.length ec,.slice N p.ns.length nc]
def rdP(w:World) (p:Pg) (E N:Option Addr):Prop:=RdE w E p.es.length p.es∧RdNs w N p.ns.length p.ns
theorem rdP.below{w w':World}{p:Pg}{E N:Option Addr}(h:rdP w p E N) (hb:Below w.heap.size w w'):rdP w' p E N:=⟨h.1.below hb,h.2.below hb⟩
theorem pg_facts(w:World) (p:Pg) (E:Option Addr) (ec:Nat) (N:Option Addr) (nc:Nat) (w1:World) (h:w.alloc (.cells (pgA p E ec N nc) 32)=w1) (hr:rdP w p E N):
 Below w.heap.size w w1∧w1.heap.size=w.heap.size+1∧rdP w1 p E N∧∀ w',Below w1.heap.size w1 w'→∀ j,w'.cell? ⟨w.heap.size,j,none⟩=(pgA p E ec N nc)[j]?:=by
 subst h;have hb:=(Below.refl w.heap.size w).alloc (Nat.le_refl _) (.cells (pgA p E ec N nc) 32);refine⟨hb,by simp,hr.below hb,fun w' hb j=>?_⟩;rw [hb.cell (p:=⟨w.heap.size,j,none⟩) (by simp),World.cell?_alloc_new]
theorem findI_hit{α:Type} [Inhabited α] {f:α→Bool}:∀ {l:List α}{k i:Nat},k<l.length→(∀ j,j<k→f (l[j]?.getD default)=false)→f (l[k]?.getD default)=true→findI f l i=((i+k:Nat):Int)
 | [],k,i,h,_,_=>by simp at h
 | a::l,0,i,_,_,h=>by
  have h:f a=true:=by simpa using h
  simp [findI,h]
 | a::l,k+1,i,hk,hn,h=>by
  have h0:f a=false:=by simpa using hn 0 (by omega)
  rw [findI,h0,if_neg (by simp),findI_hit (k:=k) (by simpa using hk) (fun j hj=>by simpa using hn (j+1) (by omega)) (by simpa using h)]
  congr 1
  omega
theorem findI_none{α:Type} [Inhabited α] {f:α→Bool}:∀ {l:List α}{i:Nat},(∀ j,j<l.length→f (l[j]?.getD default)=false)→findI f l i=-1
 | [],i,_=>rfl
 | a::l,i,hn=>by
  have h0:f a=false:=by simpa using hn 0 (by simp)
  rw [findI,h0,if_neg (by simp)];exact findI_none fun j hj=>by simpa using hn (j+1) (by simpa using hj)
theorem to_next{P:Nat→Prop}{k:Nat}(h:∀ j,j<k→P j) (hk:P k):∀ j,j<k+1→P j:=fun j hj=>by
 rcases Nat.lt_or_ge j k with h1 | h1
 · exact h j h1
 · obtain rfl:j=k:=by omega
   exact hk
end
section
open Go.RowKit Go.Sort
def RowD(w:World) (g:Nat) (d:Dc):Prop:=w.heap[g]?=some (Obj.cells (dcA d) 45)
theorem RowD.below{w w':World}{g:Nat}{d:Dc}(h:RowD w g d) (hb:Below w.heap.size w w'):RowD w' g d:=by
 have hl:g<w.heap.size:=(Array.getElem?_eq_some_iff.1 h).1;exact(hb.block g hl).trans h
theorem RowD.set{w:World}{g:Nat}{d:Dc}(h:RowD w g d) (d':Dc):RowD (w.setRow g (dcA d')) g d':=setRow_heap _ _ _ _ _ _ h
end
section
open Go.RowKit Go.Sort
end
section
open Go.RowKit Go.Sort Go.BigFrame
end
section
open Go.RowKit Go.Sort Go.BigFrame
end
section
open Go.RowKit Go.Sort Go.BigFrame
theorem NdAt.five{w:World}{b o:Nat}{x:Nd}(h:NdAt w b o x):∃ A1 c1 A2 c2 A3 c3 A4 c4,rdN w x A1 A2 A3 A4 ∧
 w.cell? ⟨b,o,none⟩=some (.string x.nm)∧w.cell? ⟨b,o+1,none⟩=some (.slice A1 x.ins.length c1)∧w.cell? ⟨b,o+2,none⟩=some (.slice A2 x.outs.length c2)∧w.cell? ⟨b,o+3,none⟩=some (.slice A3 x.vars.length c3)∧w.cell? ⟨b,o+4,none⟩=some (.slice A4 x.eqs.length c4):=by
 obtain⟨A1,c1,A2,c2,A3,c3,A4,c4,h1,h2⟩:=h;obtain⟨d0,d1,d2,d3,d4⟩:=ndL_five h1;exact⟨A1,c1,A2,c2,A3,c3,A4,c4,h2,d0,d1,d2,d3,d4⟩
end
section
open Go.RowKit
def tinyTo(es:List En) (k:Nat):Prop:=∀ j,j<k→(csE es j).length≤12∧(nmE es j).size≤100∧∀ q,q<(csE es j).length→(ctAt es j q).size≤100
def EsTiny(es:List En):Prop:=es.length≤8∧tinyTo es es.length
theorem EsTiny.few{es:List En}(h:EsTiny es):EsFew es:=⟨h.1,fun j hj=>(h.2 j hj).1⟩
theorem EsTiny.ok{es:List En}(h:EsTiny es):EsOk es:=fun j hj=>by
 have h1:=h.2 j hj;unfold maxLen;refine⟨by omega,fun s hs=>?_⟩;obtain⟨q,hq,rfl⟩:=List.getElem_of_mem hs;have:=h1.2.2 q hq;unfold ctAt at this;rw [List.getElem?_eq_getElem hq,Option.getD_some] at this;omega
theorem tinyTo_succ{es:List En}{k:Nat}(H:tinyTo es k) (h1:(csE es k).length≤12) (h2:(nmE es k).size≤100) (h3:∀ q,q<(csE es k).length→(ctAt es k q).size≤100):tinyTo es (k+1):=fun j hj=>by
 rcases Nat.lt_or_ge j k with h | h
 · exact H j h
 · obtain rfl:j=k:=by omega
   exact⟨h1,h2,h3⟩
def SmallPost(es:List En) (w:World) (e:Ending) (w':World):Prop:=∃ b,e=.returned (.bool b)∧(b=true→EsTiny es)∧w=w'
theorem small_no(es:List En) (w:World):SmallPost es w (.returned (.bool false)) w:=⟨false,rfl,fun h=>(by cases h),rfl⟩
theorem small_yes{es:List En}(h:EsTiny es) (w:World):SmallPost es w (.returned (.bool true)) w:=⟨true,rfl,fun _=>h,rfl⟩
theorem refEnSmall(A:Option Addr) (len cap:Nat) (es:List En) (w:World) (hE:RdE w A len es):
 Calls Try.prog 5 #[.slice A len cap] w (SmallPost es w):=by
 have hlen:=hE.len;have hmx:=hE.max
 by_cases h8:8<len
 · go_enter Try.func5,Try.ntmps5
   go_wp2_with fail
   go_ret
   exact small_no es w
 · have hd8:decide ((8:Int)<(len:Int))=false:=decide_eq_false (by omega)
   go_enter Try.func5,Try.ntmps5
   go_wp2_with fail
   go_loop [3] (fun i=>∃ k:Nat,k≤len∧i=.int .i64 k∧tinyTo es k) (fun i=>len-(intOf i).toNat)
   case atStart=>exact⟨0,Nat.zero_le _,rfl,fun j hj=>absurd hj (by omega)⟩
   case round=>
    obtain⟨k,hk,rfl,hto⟩:=hrel;have HT:=Hd hto;clear hto
    by_cases hlt:k<len
    · obtain⟨b,off,rfl,hb,hc⟩:=hE.at_ hlt;obtain⟨hn0,A',n',c',hs0,hR0⟩:=hc k hlt;have hkl:k<es.length:=by omega
      have hcl:=hR0.len;have hcm:=hR0.max;clear hc
      by_cases h12:12<n'
      · go_wp2_with fail
        go_ret
        exact small_no es w
      · have HS:=Hd fun h2 h3=>tinyTo_succ HT.out (show(csE es k).length≤12 by omega) h2 h3;have hd12:decide ((12:Int)<(n':Int))=false:=decide_eq_false (by omega);generalize nmE es k=x at hn0 HS
        by_cases h100:100<x.size
        · go_wp2_with fail
          go_ret
          exact small_no es w
        · have HS:=Hd fun h3=>HS.out (by omega) h3;have hd100:decide ((100:Int)<(x.size:Int))=false:=decide_eq_false (by omega)
          go_wp2_with fail
          go_loop [4] (fun i=>∃ m:Nat,m≤n'∧i=.int .i64 m∧∀ q,q<m→(ctAt es k q).size≤100) (fun i=>n' - (intOf i).toNat)
          case atStart=>exact⟨0,Nat.zero_le _,rfl,fun j hj=>absurd hj (by omega)⟩
          case round=>
           obtain⟨m,hm,rfl,hto⟩:=hrel;have HT2:=Hd hto;clear hto
           by_cases hltm:m<n'
           · obtain⟨b2,off2,rfl,hb2,hc2⟩:=hR0.at_ hltm;have hcm2:=hc2 m hltm;clear hc2;rw [show(csE es k)[m]?.getD ByteArray.empty=ctAt es k m from rfl] at hcm2
             have HN:=Hd (show(ctAt es k m).size≤100→∀ q,q<m+1→(ctAt es k q).size≤100 from fun h q hq=>by
              rcases Nat.lt_or_ge q m with h1 | h1
              · exact HT2.out q h1
              · obtain rfl:q=m:=by omega
                exact h)
             generalize ctAt es k m=y at hcm2 HN
             by_cases hy:100<y.size
             · go_wp2_with fail
               go_ret
               exact small_no es w
             · have HN:=Hd (HN.out (by omega))
               go_wp2_with fail
               go_round
               case rel=>exact⟨m+1,by omega,by go_num,HN.out⟩
               case measure=>simp [intOf];omega
           · have HS:=Hd (HS.out fun q hq=>HT2.out q (by omega))
             go_wp2_with fail
             go_round
             case rel=>exact⟨k+1,by omega,by go_num,HS.out⟩
             case measure=>simp [intOf];omega
    · have hkl:k=es.length:=by omega
      have hno:=HT.out;rw [hkl] at hno;have HY:=Hd (show EsTiny es from⟨by omega,hno⟩)
      go_wp2_with fail
      go_ret
      exact small_yes HY.out w
end
section
open Go.RowKit Go.Sort
def TinyQ(q:Qn):Prop:=q.ns.length≤20∧tinyX q.x=true∧∀ j,j<q.ns.length→(q.ns[j]?.getD ByteArray.empty).size≤100
def TinyN(n:Nd):Prop:=fewD n.ins=true∧fewD n.outs=true∧fewD n.vars=true∧n.eqs.length≤30∧n.nm.size≤100∧∀ j,j<n.eqs.length→TinyQ (n.eqs[j]?.getD default)
def TinyP(p:Pg):Prop:=EsTiny p.es∧p.ns.length≤10∧∀ j,j<p.ns.length→TinyN (p.ns[j]?.getD default)
end
section
open Go.RowKit Go.Sort
def listK(x:Nd) (k:Nat):List Dc:=match k with | 0=>x.ins | 1=>x.outs | _=>x.vars
def lists3(x:Nd) (A1:Option Addr) (c1:Nat) (A2:Option Addr) (c2:Nat) (A3:Option Addr) (c3:Nat):Array Value:=#[.slice A1 x.ins.length c1,.slice A2 x.outs.length c2,.slice A3 x.vars.length c3]
theorem lists_at{x:Nd}{A1:Option Addr}{c1:Nat}{A2:Option Addr}{c2:Nat}{A3:Option Addr}{c3:Nat}{A4:Option Addr}{w:World}(h:rdN w x A1 A2 A3 A4){k:Nat}(hk:k<3):
 ∃ A c,(lists3 x A1 c1 A2 c2 A3 c3)[k]?=some (.slice A (listK x k).length c)∧RdD w A (listK x k).length (listK x k):=by
 match k,hk with
 | 0,_=>exact⟨A1,c1,rfl,h.1⟩
 | 1,_=>exact⟨A2,c2,rfl,h.2.1⟩
 | 2,_=>exact⟨A3,c3,rfl,h.2.2.1⟩
end
end Go.Proofs.Ytpehkppcdlboeaa
