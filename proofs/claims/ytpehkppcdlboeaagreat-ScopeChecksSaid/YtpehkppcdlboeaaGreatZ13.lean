/- Parts of the proof: TyN, TyP, TyQ, TyS. Conditions: each theorem's own. -/
import Derived.RangeFuncBox
import Derived.Test.YtpehkppcdlboeaaGreatZ03
import Derived.Test.YtpehkppcdlboeaaGreatZ06
namespace Go.Proofs.YtpehkppcdlboeaaGreat
set_option linter.unusedVariables false
set_option linter.unusedSimpArgs false
set_option maxRecDepth 100000
set_option maxHeartbeats 40000000
section
open Go.RowKit Go.Shelf
attribute [local go_sem] Oper.semAt_some
def enB(e:En):Bool:=lowB e.1.data.toList && !e.2.isEmpty
def hiB(s:ByteArray):Bool:=highB s.data.toList
def namedB(es:List En):Bool:=es.all enB && (allE es).all hiB
def namedTo(es:List En) (k:Nat):Prop:=∀ j,j<k→lowB (nmE es j).data.toList=true∧0<(csE es j).length
section
variable {es:List En}{k:Nat}
theorem en_at(h:k<es.length):es[k]'h=(nmE es k,csE es k):=by
 simp [nmE,csE,List.getElem?_eq_getElem h]
theorem enB_at(h:k<es.length):enB (es[k]'h)=(lowB (nmE es k).data.toList && decide (0<(csE es k).length)):=by
 rw [en_at h];unfold enB
 cases csE es k <;> simp
theorem named_bad(h:k<es.length) (hb:lowB (nmE es k).data.toList=false∨(csE es k).length=0):namedB es=false:=by
 have:es.all enB=false:=by
  rw [List.all_eq_false];refine⟨es[k]'h,List.getElem_mem h,?_⟩;rw [enB_at h];rcases hb with h | h <;> simp [h]
 unfold namedB;rw [this,Bool.false_and]
theorem namedTo_all(H:namedTo es k) (h:es.length≤k):es.all enB=true:=by
 rw [List.all_eq_true];intro e he;obtain⟨j,hj,rfl⟩:=List.getElem_of_mem he;have:=H j (by omega);rw [enB_at hj,this.1,decide_eq_true this.2];rfl
theorem namedTo_succ(H:namedTo es k) (h1:lowB (nmE es k).data.toList=true) (h2:0<(csE es k).length):namedTo es (k+1):=fun j hj=>by
 rcases Nat.lt_or_ge j k with h | h
 · exact H j h
 · obtain rfl:j=k:=by omega
   exact⟨h1,h2⟩
theorem named_yes(h:es.all enB=true) (hp:∀ p∈flatE es,hiB p.2.2=true):namedB es=true:=by
 unfold namedB;rw [h,Bool.true_and,List.all_eq_true];intro s hs;obtain⟨p,hp',rfl⟩:=List.mem_map.1 hs;exact hp p hp'
theorem named_no{ini:List Pl}{x:Pl}(hp:ini++[x] <+: flatE es) (hx:hiB x.2.2=false):namedB es=false:=by
 unfold namedB;have hm:x∈flatE es:=hp.subset (by simp)
 have:(allE es).all hiB=false:=by
  rw [List.all_eq_false];exact⟨x.2.2,List.mem_map.2 ⟨x,hm,rfl⟩,by simp [hx]⟩
 rw [this,Bool.and_false]
theorem EsOk.flat(h:EsOk es):∀ p∈flatE es,p.2.2.size≤maxLen:=by
 intro p hp;have h1:p.2.2∈namesTo es es.length:=List.mem_map.2 ⟨p,hp,rfl⟩;obtain⟨j,hj,hm⟩:=namesTo_mem h1;exact(h j hj).2 _ hm
end
theorem cell_l1(w:World) (u v:Value) (T:TypeId):(w.alloc (.cells #[u,v] T)).cell? ⟨w.heap.size,1,none⟩=some v:=(Box2.new w T u v).c1
theorem tyNamed_in(n:Nat) (hn:6≤n) (A:Option Addr) (len cap:Nat) (es:List En) (w:World) (hE:RdE w A len es) (hok:EsOk es):
 CallsIn Fence.wide n Tryz.prog 45 #[.slice A len cap] w fun e w'=>e=.returned (.bool (namedB es))∧Below w.heap.size w w':=by
 have h1:1≤n:=by omega
 have hlen:=hE.len;have hmx:=hE.max;refine callsIn_of_wp_marks Tryz.func45 rfl trivial ?_ rfl;simp only [Tryz.ntmps45,List.size_toArray,List.length_cons,List.length_nil,Nat.reduceAdd,Nat.reduceSub,Array.replicate_succ,Array.replicate_zero,List.push_toArray,List.append_toArray,List.nil_append,List.cons_append]
 gi_wp2_with fail
 gi_loopw [9] (fun i wr=>∃ k:Nat,k≤len∧i=.int .i64 k∧namedTo es k∧Boxed wr w.heap.size 4 (.bool false)∧Below w.heap.size w wr)
  (fun i _=>len-(intOf i).toNat)
 case atStart=>exact⟨0,Nat.zero_le _,rfl,fun j hj=>absurd hj (by omega),Boxed.new _ _ _,(Below.refl _ _).alloc (Nat.le_refl _) _⟩
 case round=>
  obtain⟨k,hk,rfl,hto,hbx,hnx⟩:=hrel;have HT:=Hd hto;clear hto
  by_cases hlt:k<len
  · obtain⟨b,off,rfl,hb,hc⟩:=hE.at_ hlt;obtain⟨hn0,A',n',c',hs0,hR0⟩:=hc k hlt;have hn1:wr.cell? ⟨b,off+k*2,none⟩=some (.string (nmE es k)):=(hnx.cell (p:=⟨b,off+k*2,none⟩) hb).trans hn0;have hs1:wr.cell? ⟨b,off+k*2+1,none⟩=some (.slice A' n' c'):=(hnx.cell (p:=⟨b,off+k*2+1,none⟩) hb).trans hs0;have hkl:k<es.length:=by omega
    have hcl:=hR0.len;have hcm:=hR0.max;have HBAD:=Hd fun h=>named_bad hkl h;have HNX:=Hd fun h1 h2=>namedTo_succ HT.out h1 h2;have hzl:=(hok k hkl).1;unfold maxLen at hzl;generalize hxn:nmE es k=x at hn1 hzl HBAD HNX
    by_cases hlow:lowB x.data.toList=true
    · rcases Nat.eq_zero_or_pos n' with hz | hz
      · have HE:=Hd (HBAD.out (.inr (by omega)));subst hz
        gi_wp2_with fail
        refine⟨trivial,(callsIn_wide.2 (idLow x _ (by omega))).mono ?_⟩;rw [hlow];rintro e w3 ⟨rfl,hb3⟩;have d1:=(hb3.cell (p:=⟨wr.heap.size,1,none⟩) (by simp)).trans (cell_l1 wr _ _ _);have hbx3:=boxed_below (hbx.alloc (.cells #[.string x,.slice A' 0 c'] 62)) hb3 (by have:=hbx.lt;simp;omega);have HX:=Hd hbx3;have e2:=hbx3.cell;have f2:=hbx3.frozen;have HB3:=Hd ((hnx.alloc hnx.size (.cells #[.string x,.slice A' 0 c'] 62)).trans (hb3.mono (by have:=hnx.size;simp;omega)));clear hb3 hbx3
        gi_wp2_with fail
        refine⟨_,?_,ret_bool HE.out.symm,HB3.out.setCell (p:=⟨w.heap.size,0,none⟩) (Nat.le_refl _) _⟩;have k1:=(HX.out.set (.bool false)).cell
        simp [results,Tryz.f45,go_sem,k1]
      · have HN:=Hd (HNX.out hlow (by omega));have hnz:((n':Int)==0)=false:=by rw [beq_eq_false_iff_ne];omega
        gi_wp2_with fail
        refine⟨trivial,(callsIn_wide.2 (idLow x _ (by omega))).mono ?_⟩;rw [hlow];rintro e w3 ⟨rfl,hb3⟩;have d1:=(hb3.cell (p:=⟨wr.heap.size,1,none⟩) (by simp)).trans (cell_l1 wr _ _ _);have hbx3:=boxed_below (hbx.alloc (.cells #[.string x,.slice A' n' c'] 62)) hb3 (by have:=hbx.lt;simp;omega);have HX:=Hd hbx3;have HB3:=Hd ((hnx.alloc hnx.size (.cells #[.string x,.slice A' n' c'] 62)).trans (hb3.mono (by have:=hnx.size;simp;omega)));clear hb3 hbx3
        gi_wp2_with fail
        go_roundw
        case rel=>exact⟨k+1,by omega,by go_num,HN.out,HX.out,HB3.out⟩
        case measure=>simp [intOf];omega
    · have hlow:lowB x.data.toList=false:=by simpa using hlow
      have HE:=Hd (HBAD.out (.inl hlow))
      gi_wp2_with fail
      refine⟨trivial,(callsIn_wide.2 (idLow x _ (by omega))).mono ?_⟩;rw [hlow];rintro e w3 ⟨rfl,hb3⟩;have hbx3:=boxed_below (hbx.alloc (.cells #[.string x,.slice A' n' c'] 62)) hb3 (by have:=hbx.lt;simp;omega);have HX:=Hd hbx3;have e2:=hbx3.cell;have f2:=hbx3.frozen;have HB3:=Hd ((hnx.alloc hnx.size (.cells #[.string x,.slice A' n' c'] 62)).trans (hb3.mono (by have:=hnx.size;simp;omega)));clear hb3 hbx3
      gi_wp2_with fail
      refine⟨_,?_,ret_bool HE.out.symm,HB3.out.setCell (p:=⟨w.heap.size,0,none⟩) (Nat.le_refl _) _⟩;have k1:=(HX.out.set (.bool false)).cell
      simp [results,Tryz.f45,go_sem,k1]
  · obtain rfl:k=len:=by omega
    have HALL:=Hd (namedTo_all HT.out (by omega));have hbel:=hnx;clear HT
    gi_wp2_with fail
    refine⟨trivial,(callsIn_wide.2 (tyCtors _ _ _ _)).mono ?_⟩;rintro e w' ⟨rfl,rfl⟩
    gi_wp2_with fail
    have b4:=Boxed.new wr 22 (.slice A k cap);have hbx4:=hbx.alloc (.cells #[.slice A k cap] 22);have hB0:=hnx.alloc hnx.size (.cells #[.slice A k cap] 22);have hsz:(wr.alloc (.cells #[.slice A k cap] 22)).heap.size=wr.heap.size+1:=by simp
    have hlb:=hbx.lt;have hws:=hnx.size;obtain⟨W0,hW0⟩:∃ W0,wr.alloc (.cells #[.slice A k cap] 22)=W0:=⟨_,rfl⟩;rw [hW0] at b4 hbx4 hB0 hsz ⊢;clear hW0
    refine wpIn_rangeFunc_ownG rfl h1 (gf:=93) (lb:=#[.pointer (some ⟨wr.heap.size,0,none⟩)]) rfl trivial (enters_of Tryz.func93 (by kernel_rfl) rfl)
     (tyIter_stopsIn (n-1) (by omega) wr.heap.size w A k cap es hE W0 hB0 (by omega) b4.cell) belowK_t (belowK_b (by omega)) (Below.refl _ _) (fun _=>rfl)
     (fun pre W=>(Boxed W w.heap.size 4 (.bool false)∧∀ p∈pre,hiB p.1.2.2=true)∧Below w.heap.size w W)
     (fun c pre W=>((c=.ret∧∃ ini last,pre=ini++[last]∧hiB last.1.2.2=false)∧Boxed W w.heap.size 4 (.bool false))∧Below w.heap.size w W)
     (OwnFrom.and (OwnFrom.and (Own.from (boxed_own _ _ (fun _=>_)) _) (ownFrom_pure _ _)) (ownFrom_below (Nat.le_refl _) (by omega)))
     (fun c=>OwnFrom.and (OwnFrom.and (ownFrom_pure _ _) (Own.from (boxed_own _ _ (fun _=>_)) _)) (ownFrom_below (Nat.le_refl _) (by omega)))
     ⟨⟨hbx4,by simp⟩,hB0⟩
     (fun x=>{ tmps:=#[.slice A k cap,undef,.pointer (some ⟨w.heap.size,0,none⟩),undef,u4,undef,.string x.1.2.2,.slice A k cap,.int .i64 k,.int .i64 k,.bool false,u11,u12,u13,u14,u15,u16,u17,u18,u19,u20,u21,u22,u23,.slice A k cap,.func (.func 93) #[] #[.pointer (some ⟨wr.heap.size,0,none⟩)],.agg #[.int .i64 (x.1.1:Int),.int .i64 (x.1.2.1:Int)],.string x.1.2.2,undef,undef,undef],defers:=[] }) ?assign ?body ?done ?stop
    case assign=>
     intro l x W K hK;simp only [encPl]
     gi_wp2
     exact hK
    case body=>
     rintro l pre ⟨⟨xi,xk,xc⟩,hx⟩ W ⟨⟨hb,hp⟩,hB⟩ hlt;have hxz:=hok.flat _ hx
     dsimp only at hxz
     unfold maxLen at hxz;have e1:=hb.cell;have f1:=hb.frozen;have hd:1≤n-1-1:=by omega
     have HHI:=Hd (show hiB xc=highB xc.data.toList from rfl)
     by_cases hhi:highB xc.data.toList=true
     · gi_wp2_with fail
       refine⟨trivial,(CallsIn.inRound l (callsIn_wide.2 (idHigh xc _ (by omega)))).mono ?_⟩;rw [hhi];rintro e w3 ⟨rfl,hb3⟩;have HB3:=Hd hb3;clear hb3
       gi_wp2_with fail
       exact⟨keepsFrom_below HB3.out,HB3.out.mono hB.size,⟨boxed_below hb HB3.out hb.lt,fun p hp'=>(List.mem_append.1 hp').elim (hp p) (fun e=>by simp at e;subst e;exact HHI.out.trans hhi)⟩,hB.trans (HB3.out.mono hB.size)⟩
     · have hhi:highB xc.data.toList=false:=by simpa using hhi
       gi_wp2_with fail
       refine⟨trivial,(CallsIn.inRound l (callsIn_wide.2 (idHigh xc _ (by omega)))).mono ?_⟩;rw [hhi];rintro e w3 ⟨rfl,hb3⟩;have HB3:=Hd hb3;clear hb3;have hb':=boxed_below hb HB3.out hb.lt;have e2:=hb'.cell;have f2:=hb'.frozen
       gi_wp2_with fail
       exact⟨((keepsFrom_below HB3.out).trans ((KeepsOthers.setCell _ _ _).from _)),⟨⟨rfl,pre,_,rfl,HHI.out.trans hhi⟩,hb'.set (.bool false)⟩,(hB.trans (HB3.out.mono hB.size)).setCell (p:=⟨w.heap.size,0,none⟩) (Nat.le_refl _) _⟩
    case done=>
     rintro D ys W hD hys ⟨⟨hb,hp⟩,hB⟩ hK;have e1:=hb.cell;have f1:=hb.frozen
     gi_wp2
     have hK':=(KeepsOthers.setCell W ⟨w.heap.size,0,none⟩ (.bool true)).same D _ hK rfl;have k1:=((hb.set (.bool true)).kept (grownBy_putObj' _ D (.deferred none)) (fun e=>by cases e;omega)).cell;refine⟨by simp,.inl ⟨_,_,rfl,run_takeDeferred hK',?_⟩⟩;refine⟨.bool true,?_,by rw [named_yes HALL.out fun p hp'=>by rw [← hys] at hp';obtain⟨q,hq,rfl⟩:=List.mem_map.1 hp';exact hp q hq],(hB.setCell (p:=⟨w.heap.size,0,none⟩) (Nat.le_refl _) _).trans (belowK_b (w:=w) (Nat.le_refl _) _ D _ _ (by omega) hK' rfl rfl)⟩
     simp [results,Tryz.f45,go_sem,k1]
    case stop=>
     rintro D c pre W hD hpre ⟨⟨⟨rfl,ini,last,rfl,hl⟩,hb⟩,hB⟩ hK
     gi_wp2
     have k1:=(hb.kept (grownBy_putObj' _ D (.deferred none)) (fun e=>by cases e;omega)).cell;refine⟨by simp,.inl ⟨_,_,rfl,run_takeDeferred hK,?_⟩⟩;refine⟨.bool false,?_,by rw [named_no (ini:=ini.map (·.1)) (x:=last.1) (by simpa using hpre) hl],hB.trans (belowK_b (w:=w) (Nat.le_refl _) _ D _ _ (by omega) hK rfl rfl)⟩
     simp [results,Tryz.f45,go_sem,k1]
theorem tyNamed(A:Option Addr) (len cap:Nat) (es:List En) (w:World) (hE:RdE w A len es) (hok:EsOk es):
 Calls Tryz.prog 45 #[.slice A len cap] w fun e w'=>e=.returned (.bool (namedB es))∧Below w.heap.size w w' :=
 callsIn_wide.1 (tyNamed_in 6 (Nat.le_refl _) A len cap es w hE hok)
end
section
open Go.RowKit Go.Shelf
attribute [local go_sem] Oper.semAt_some
def nmsE(es:List En):List ByteArray:=es.map (·.1)
def apartB(es:List En):Bool:=onceS (nmsE es) && onceS (allE es)
def EsFew(es:List En):Prop:=es.length≤8∧∀ j,j<es.length→(csE es j).length≤12
section
variable {es:List En}
theorem EsFew.flat(h:EsFew es):(flatE es).length≤96:=by
 have h1:=namesTo_len (es:=es) (i:=es.length) h.2;have h2:(namesTo es es.length).length=(flatE es).length:=by simp [namesTo,flatE]
 have:=h.1;omega
theorem EsOk.nms(h:EsOk es):∀ s∈nmsE es,s.size≤maxLen:=by
 intro s hs;obtain⟨e,he,rfl⟩:=List.mem_map.1 hs;obtain⟨j,hj,rfl⟩:=List.getElem_of_mem he;have:=(h j hj).1;unfold nmE at this;rwa [List.getElem?_eq_getElem hj] at this
theorem EsOk.all(h:EsOk es):∀ s∈allE es,s.size≤maxLen:=by
 intro s hs;obtain⟨p,hp,rfl⟩:=List.mem_map.1 hs;exact h.flat p hp
theorem nmsE_len:(nmsE es).length=es.length:=by simp [nmsE]
theorem nmsE_succ{k:Nat}(h:k<es.length):(nmsE es).take (k+1)=(nmsE es).take k++[nmE es k]:=by
 rw [take_snocT (by rw [nmsE_len];exact h)];unfold nmsE;rw [nm_map]
end
theorem cell_one_new2(w:World) (o:Obj) (v:Value) (T:TypeId) (h:o.isCells=true∨True):∀ j u,[v][j]?=some u→((w.alloc o).alloc (.cells #[v] T)).cell? ((⟨w.heap.size+1,0,none⟩:Addr).add j)=some u:=by
 have:=cell_one_new (w.alloc o) v T
 simpa using this
theorem row_own{β:Type}(base:Nat) (e:TypeId) (size:Nat) (v:Value) (k:Nat) (xs:List Value):Own (fun(_:β) W=>W.ownsRow base e size v k xs):=fun s X Y row hs hg hrow=>by
 refine hs.kept hg ?_;rcases hs.2 with⟨rfl,_⟩|⟨g,cap,cur,rfl,_,hgb,_⟩
 · exact .inl rfl
 · refine .inr fun e'=>?_;obtain⟨o,ho,hc⟩:=hrow g (by simpa [Value.ownBlock] using e'.symm);rw [hgb] at ho;cases ho;cases hc
theorem boxed_appended{W w1:World}{n₀ m₀ B:Nat}{t e:TypeId}{size:Nat}{v v':Value}{k m:Nat}{xs ys:List Value}{tmp:Obj}
 (hv:Boxed W B t v) (hte:t≠e) (hrow:W.ownsRow n₀ e size v k xs) (hn₀:n₀≤W.heap.size) (hm:m₀≤n₀) (hB:m₀≤B)
 (hown':w1.ownsRow n₀ e size v' m ys) (hgrow:(W.alloc tmp).grownBy w1 v.ownBlock):
 Boxed w1 B t v∧Boxed (w1.setCell ⟨B,0,none⟩ v') B t v'∧(w1.setCell ⟨B,0,none⟩ v').ownsRow n₀ e size v' m ys∧KeepsOthers W (w1.setCell ⟨B,0,none⟩ v')∧Below m₀ W (w1.setCell ⟨B,0,none⟩ v') ∧
  ∀ {base sz:Nat}{u:Value}{ku:Nat}{us:List Value},W.ownsRow base e sz u ku us→(∀ g,u.ownBlock=some g→g<n₀)→(w1.setCell ⟨B,0,none⟩ v').ownsRow base e sz u ku us:=by
 have hv1:Boxed w1 B t v:=(hv.alloc tmp).kept hgrow (hv.not_row hte hrow);refine⟨hv1,hv1.set v',hown'.kept (grownBy_setCell' w1 B v') (.inr (hv1.not_row hte hown').symm),?_,?_,?_⟩
 · refine((KeepsOthers.alloc W tmp).trans (KeepsOthers.of_grownBy hgrow fun j o ej hj=>?_)).trans (KeepsOthers.setCell _ _ _);rcases(hrow.alloc tmp).2 with⟨rfl,_⟩|⟨g,cap,cur,rfl,_,hgb,_⟩
   · simp [Value.ownBlock] at ej
   · obtain rfl:g=j:=by simpa [Value.ownBlock] using ej
     rw [hgb] at hj;cases hj;rfl
 · refine(((Below.refl m₀ W).alloc (by omega) tmp).grown hgrow (by simp;omega) fun j ej=>?_).setCell (p:=⟨B,0,none⟩) hB v';have:=(hrow.lt j ej).1;omega
 · intro base sz u ku us hu hlt
   have h2:w1.ownsRow base e sz u ku us:=(hu.alloc tmp).kept hgrow (by
    rcases hub:u.ownBlock with _ | g
    · exact .inl rfl
    · refine .inr fun e'=>?_;have h3:=hlt g hub;have h4:=(hrow.lt g e'.symm).1;omega)
   exact h2.kept (grownBy_setCell' w1 B v') (.inr (hv1.not_row hte h2).symm)
theorem tyApart_in(n:Nat) (hn:6≤n) (A:Option Addr) (len cap:Nat) (es:List En) (w:World) (hE:RdE w A len es) (hok:EsOk es) (hfew:EsFew es):
 CallsIn Fence.wide n Tryz.prog 46 #[.slice A len cap] w fun e w'=>e=.returned (.bool (apartB es))∧Below w.heap.size w w':=by
 have h1:1≤n:=by omega
 have hlen:=hE.len;have hmx:=hE.max;have hl8:=hfew.1;obtain⟨i0,hi,hz0,hz1,hz2⟩:=info_parts infoString;refine callsIn_of_wp_marks Tryz.func46 rfl trivial ?_ rfl;simp only [Tryz.ntmps46,List.size_toArray,List.length_cons,List.length_nil,Nat.reduceAdd,Nat.reduceSub,Array.replicate_succ,Array.replicate_zero,List.push_toArray,List.append_toArray,List.nil_append,List.cons_append]
 gi_wp2_with fail
 gi_loopw [3,11] (fun v i wr=>∃ k:Nat,k≤len∧i=.int .i64 k∧wr.ownsRow (w.heap.size+1) 9 1 v k (((nmsE es).take k).map Value.string)∧Boxed wr w.heap.size 38 (.slice none 0 0)∧Below w.heap.size w wr)
  (fun _ i _=>len-(intOf i).toNat)
 case atStart=>exact⟨0,Nat.zero_le _,rfl,World.ownsRow_nil _ _ _ _,Boxed.new _ _ _,(Below.refl _ _).alloc (Nat.le_refl _) _⟩
 case round=>
  obtain⟨k,hk,rfl,hrow,hbx,hnx⟩:=hrel;have hblt:=hbx.lt
  by_cases hlt:k<len
  · obtain⟨b,off,rfl,hb,hc⟩:=hE.at_ hlt;obtain⟨hn0,A',n',c',hs0,hR0⟩:=hc k hlt;have hn1:wr.cell? ⟨b,off+k*2,none⟩=some (.string (nmE es k)):=(hnx.cell (p:=⟨b,off+k*2,none⟩) hb).trans hn0;have hs1:wr.cell? ⟨b,off+k*2+1,none⟩=some (.slice A' n' c'):=(hnx.cell (p:=⟨b,off+k*2+1,none⟩) hb).trans hs0;have hkl:k<es.length:=by omega
    have hNM:=Hd (nmsE_succ hkl);generalize hxn:nmE es k=x at hn1 hNM
    gi_wp2_with (gi_at_builtin;refine wpListIn_append_own _ rfl _ _ 38 rfl (w.heap.size+1) 9 i0 (.string ByteArray.empty) 1 16 Tryz.underlying38 hi hz0 hz1 hz2 rfl (by decide) _ _ _ rfl ((hrow.alloc _).alloc _) ⟨wr.heap.size+1,0,none⟩ 1 1 [.string x] rfl rfl (cell_one_new2 _ _ _ _ (.inr trivial)) (string_cells [x]) (by unfold maxLen;omega) (by omega) (by simp;omega) ?_;intro v' w1 hown' hgrow _)
    have HO:=Hd hown';have hbx1:=(hbx.alloc (.cells #[.string x,.slice A' n' c'] 62)).alloc (.cells #[.string x] 9);have HB1:=Hd (hbx1.kept hgrow (hbx1.not_row (by decide) ((hrow.alloc _).alloc _)));have HG:=Hd ((((hnx.alloc hnx.size (.cells #[.string x,.slice A' n' c'] 62))).alloc (by have:=hnx.size;simp;omega) (.cells #[.string x] 9)).grown hgrow (by have:=hnx.size;simp;omega) (fun j hj=>by have:=(hrow.lt j hj).1;omega));clear hown' hgrow hbx1 hrow
    go_roundw
    case rel=>exact⟨k+1,by omega,by go_num,by rw [hNM.out,List.map_append];exact HO.out,HB1.out,HG.out⟩
    case measure=>simp [intOf];omega
  · obtain rfl:k=len:=by omega
    gi_wp2_with fail
    refine⟨trivial,(callsIn_wide.2 (tyCtors _ _ _ _)).mono ?_⟩;rintro e w' ⟨rfl,rfl⟩
    gi_wp2_with fail
    have b4:=Boxed.new wr 22 (.slice A k cap);have hbx4:=hbx.alloc (.cells #[.slice A k cap] 22);have hrow4:=hrow.alloc (.cells #[.slice A k cap] 22);have hB0:=hnx.alloc hnx.size (.cells #[.slice A k cap] 22);have hsz:(wr.alloc (.cells #[.slice A k cap] 22)).heap.size=wr.heap.size+1:=by simp
    have hlb:=hbx.lt;have hws:=hnx.size;have hu3:∀ g,u3.ownBlock=some g→g<wr.heap.size+1:=fun g hg=>by have:=(hrow.lt g hg).2;omega
    have hk12:=hfew.flat;obtain⟨W0,hW0⟩:∃ W0,wr.alloc (.cells #[.slice A k cap] 22)=W0:=⟨_,rfl⟩;rw [hW0] at b4 hbx4 hrow4 hB0 hsz ⊢;clear hW0 hrow hbx hnx
    refine wpIn_rangeFunc_ownG rfl h1 (gf:=93) (lb:=#[.pointer (some ⟨wr.heap.size,0,none⟩)]) rfl trivial (enters_of Tryz.func93 (by kernel_rfl) rfl)
     (tyIter_stops (n-1) (by omega) wr.heap.size w A k cap es hE W0 hB0 (by omega) b4.cell) belowK_t (belowK_b (by omega)) (Below.refl _ _) (fun _=>rfl)
     (fun pre W=>((∃ v,Boxed W w.heap.size 38 v∧W.ownsRow (wr.heap.size+1) 9 1 v pre.length (pre.map fun p=>Value.string p.2.2)∧True)∧W.ownsRow (w.heap.size+1) 9 1 u3 k (((nmsE es).take k).map Value.string)∧wr.heap.size+1≤W.heap.size)∧Below w.heap.size w W)
     (fun _ _ _=>False)
     (OwnFrom.and (OwnFrom.and (Own.from (holdsRow_own (wr.heap.size+1) w.heap.size 38 9 1 (fun(pre:List Pl)=>pre.length) (fun(pre:List Pl)=>pre.map fun p=>Value.string p.2.2) (fun _ _=>True)) _) (OwnFrom.and (Own.from (row_own _ _ _ _ _ _) _) (fun s X Y row hs hg hr=>Nat.le_trans hs hg.size))) (ownFrom_below (Nat.le_refl _) (by omega)))
     (fun _ _ _ _ _ hs _ _=>hs)
     ⟨⟨⟨_,hbx4,World.ownsRow_nil _ _ _ _,trivial⟩,hrow4,by omega⟩,hB0⟩
     (fun x=>{ tmps:=#[.slice A k cap,undef,.bool false,u3,.pointer (some ⟨w.heap.size,0,none⟩),undef,u6,undef,.string x.2.2,.slice A k cap,.int .i64 k,.int .i64 k,.bool false,u13,u14,u15,u16,u17,u18,u19,u20,.slice A k cap,.func (.func 93) #[] #[.pointer (some ⟨wr.heap.size,0,none⟩)],.agg #[.int .i64 (x.1:Int),.int .i64 (x.2.1:Int)],.string x.2.2,undef,undef,undef,undef,undef,undef,undef,undef,undef,undef],defers:=[] }) ?assign ?body ?done ?stop
    case assign=>
     intro l x W K hK;simp only [encPl]
     gi_wp2
     exact hK
    case body=>
     rintro l pre x W ⟨⟨⟨v,hv,hrw,_⟩,hrow,hWs⟩,hB⟩ hlt2;have hc:=hv.cell;generalize hx:x.2.2=xc
     gi_wp2_with (gi_at_builtin;refine wpListIn_append_own _ rfl _ _ 38 rfl (wr.heap.size+1) 9 i0 (.string ByteArray.empty) 1 16 Tryz.underlying38 hi hz0 hz1 hz2 rfl (by decide) _ _ _ rfl (hrw.alloc _) ⟨W.heap.size,0,none⟩ 1 1 [.string xc] rfl rfl (cell_one_new _ _ _) (string_cells [xc]) (by unfold maxLen;omega) (by omega) (by simp;omega) ?_;intro v' w1 hown' hgrow _;obtain⟨g',cap',rfl⟩:=ownsRow_succ hown';obtain⟨hv1,hv2,hr2,hk2,hb2,ho2⟩:=boxed_appended hv (by decide) hrw hWs (by omega) (Nat.le_refl _) hown' hgrow;have hc1:=hv1.cell;have hf1:=hv1.frozen)
     exact⟨hk2.from _,hb2,⟨⟨_,hv2,by rw [List.map_append,List.length_append];simpa [hx] using hr2,trivial⟩,ho2 hrow hu3,Nat.le_trans hWs hk2.size⟩,hB.trans hb2⟩
    case done=>
     rintro D ys W hD rfl ⟨⟨⟨v,hv,hrw,_⟩,hrow,hWs⟩,hB⟩ hK;have hc:=hv.cell;have hDl:=(Array.getElem?_eq_some_iff.1 hK).1;obtain⟨A1,c1,rfl,hR1,_⟩:=RdT.of_own hrow (by omega);have hnm:(nmsE es).take k=nmsE es:=List.take_of_length_le (by rw [nmsE_len];omega);rw [hnm] at hR1;rw [show(flatE es).map (fun p=>Value.string p.2.2)=(allE es).map Value.string by simp [allE]] at hrw;obtain⟨A2,c2,rfl,hR2,_⟩:=RdT.of_own hrw (by omega)
     by_cases ho:onceS (nmsE es)=true
     · have HE:=Hd (show onceS (allE es)=apartB es by simp [apartB,ho])
       gi_wp2_with fail
       refine⟨trivial,(callsIn_wide.2 (idOnce A1 k c1 (nmsE es) _ hR1 hok.nms (by omega))).mono ?_⟩;rw [ho];rintro e w3 ⟨rfl,hb3⟩;have hc3:=(hb3.cell (p:=⟨w.heap.size,0,none⟩) hv.lt).trans hc;have hK3:=(hb3.block D hDl).trans hK;have hR3:=hR2.below hb3;have HB3:=Hd (hB.trans (hb3.mono hB.size));have hs3:=hb3.size;clear hb3
       gi_wp2_with fail
       refine⟨trivial,(callsIn_wide.2 (idOnce A2 _ c2 (allE es) _ hR3 hok.all (by omega))).mono ?_⟩;rw [HE.out];rintro e w4 ⟨rfl,hb4⟩;have hK4:=(hb4.block D (by omega)).trans hK3;have HB4:=Hd (HB3.out.trans (hb4.mono HB3.out.size));clear hb4
       gi_wp2_with fail
       refine⟨by simp,.inl ⟨_,_,rfl,run_takeDeferred hK4,?_⟩⟩;exact⟨_,results_tmp rfl _ _ _,rfl,HB4.out.trans (belowK_b (w:=w) (Nat.le_refl _) _ D _ _ (by omega) hK4 rfl rfl)⟩
     · have ho:onceS (nmsE es)=false:=by simpa using ho
       have HE:=Hd (show false=apartB es by simp [apartB,ho])
       gi_wp2_with fail
       refine⟨trivial,(callsIn_wide.2 (idOnce A1 k c1 (nmsE es) _ hR1 hok.nms (by omega))).mono ?_⟩;rw [ho];rintro e w3 ⟨rfl,hb3⟩;have hK3:=(hb3.block D hDl).trans hK;have HB3:=Hd (hB.trans (hb3.mono hB.size));clear hb3
       gi_wp2_with fail
       refine⟨trivial,?_⟩
       gi_wp2_with fail
       refine⟨by simp,.inl ⟨_,_,rfl,run_takeDeferred hK3,?_⟩⟩;rw [← HE.out];exact⟨_,results_tmp rfl _ _ _,rfl,HB3.out.trans (belowK_b (w:=w) (Nat.le_refl _) _ D _ _ (by omega) hK3 rfl rfl)⟩
    case stop=>
     rintro D c pre W _ _ h _;exact h.elim
theorem tyApart(A:Option Addr) (len cap:Nat) (es:List En) (w:World) (hE:RdE w A len es) (hok:EsOk es) (hfew:EsFew es):
 Calls Tryz.prog 46 #[.slice A len cap] w fun e w'=>e=.returned (.bool (apartB es))∧Below w.heap.size w w' :=
 callsIn_wide.1 (tyApart_in 6 (Nat.le_refl _) A len cap es w hE hok hfew)
end
section
open Go.RowKit
def manyB(es:List En):Bool:=decide (4<es.length) || es.any fun e=>decide (6<e.2.length)
def fewTo(es:List En) (k:Nat):Prop:=∀ j,j<k→(csE es j).length≤6
def enumsN(es:List En):Int:=if manyB es then 4 else if namedB es then(if apartB es then 0 else 6) else 1
section
variable {es:List En}{k:Nat}
theorem many_at(h:k<es.length) (hb:6<(csE es k).length):manyB es=true:=by
 unfold manyB;rw [Bool.or_eq_true,List.any_eq_true];refine .inr ⟨es[k]'h,List.getElem_mem h,?_⟩;rw [en_at h];exact decide_eq_true hb
theorem many_no(h4:es.length≤4) (H:fewTo es k) (h:es.length≤k):manyB es=false:=by
 unfold manyB;rw [Bool.or_eq_false_iff,List.any_eq_false];refine⟨decide_eq_false (by omega),fun e he=>?_⟩;obtain⟨j,hj,rfl⟩:=List.getElem_of_mem he;have:=H j (by omega);rw [en_at hj];simp only [decide_eq_true_eq];omega
theorem fewTo_succ(H:fewTo es k) (h:(csE es k).length≤6):fewTo es (k+1):=fun j hj=>by
 rcases Nat.lt_or_ge j k with h1 | h1
 · exact H j h1
 · obtain rfl:j=k:=by omega
   exact h
end
theorem tyMany(A:Option Addr) (len cap:Nat) (es:List En) (w:World) (hE:RdE w A len es):
 Calls Tryz.prog 44 #[.slice A len cap] w fun e w'=>e=.returned (.bool (manyB es))∧Below w.heap.size w w':=by
 have hlen:=hE.len;have hmx:=hE.max
 by_cases h4:4<len
 · go_enter Tryz.func44,Tryz.ntmps44
   go_wp2_with fail
   go_ret
   exact⟨ret_bool (by simp [manyB,hlen,h4]),Below.refl _ _⟩
 · have hd4:decide ((4:Int)<(len:Int))=false:=decide_eq_false (by omega)
   go_enter Tryz.func44,Tryz.ntmps44
   go_wp2_with fail
   go_loopw [10] (fun i wr=>∃ k:Nat,k≤len∧i=.int .i64 k∧fewTo es k∧Below w.heap.size w wr) (fun i _=>len-(intOf i).toNat)
   case atStart=>exact⟨0,Nat.zero_le _,rfl,fun j hj=>absurd hj (by omega),Below.refl _ _⟩
   case round=>
    obtain⟨k,hk,rfl,hto,hnx⟩:=hrel;have HT:=Hd hto;clear hto
    by_cases hlt:k<len
    · obtain⟨b,off,rfl,hb,hc⟩:=hE.at_ hlt;obtain⟨hn0,A',n',c',hs0,hR0⟩:=hc k hlt;have hn1:wr.cell? ⟨b,off+k*2,none⟩=some (.string (nmE es k)):=(hnx.cell (p:=⟨b,off+k*2,none⟩) hb).trans hn0;have hs1:wr.cell? ⟨b,off+k*2+1,none⟩=some (.slice A' n' c'):=(hnx.cell (p:=⟨b,off+k*2+1,none⟩) hb).trans hs0;have hkl:k<es.length:=by omega
      have hcl:=hR0.len;have hcm:=hR0.max
      by_cases h6:6<n'
      · have HE:=Hd (many_at hkl (by omega))
        go_wp2_with fail
        go_ret
        exact⟨ret_bool HE.out.symm,hnx.alloc hnx.size _⟩
      · have HN:=Hd (fewTo_succ HT.out (by omega));have hd6:decide ((6:Int)<(n':Int))=false:=decide_eq_false (by omega)
        go_wp2_with fail
        go_roundw
        case rel=>exact⟨k+1,by omega,by go_num,HN.out,hnx.alloc hnx.size _⟩
        case measure=>simp [intOf];omega
    · go_wp2_with fail
      go_ret
      exact⟨ret_bool (many_no (by omega) HT.out (by omega)).symm,hnx⟩
theorem tyEnums(A:Option Addr) (len cap:Nat) (es:List En) (w:World) (hE:RdE w A len es) (hok:EsOk es) (hfew:EsFew es):
 Calls Tryz.prog 22 #[.slice A len cap] w fun e w'=>e=.returned (.int .i64 (enumsN es))∧Below w.heap.size w w':=by
 have HE:=Hd hE;clear hE
 cases hm:manyB es with
 | true=>
  have hN:=Hd (show(4:Int)=enumsN es by simp [enumsN,hm])
  go_enter Tryz.func22,Tryz.ntmps22
  go_wp2_with fail
  refine(tyMany A len cap es w HE.out).mono ?_;rw [hm];rintro e w1 ⟨rfl,hb1⟩;have HB1:=Hd hb1;clear hb1
  go_wp2_with fail
  go_ret
  exact⟨ret_int hN.out,HB1.out⟩
 | false=>
  cases hn:namedB es with
  | false=>
   have hN:=Hd (show(1:Int)=enumsN es by simp [enumsN,hm,hn])
   go_enter Tryz.func22,Tryz.ntmps22
   go_wp2_with fail
   refine(tyMany A len cap es w HE.out).mono ?_;rw [hm];rintro e w1 ⟨rfl,hb1⟩;have HB1:=Hd hb1;clear hb1
   go_wp2_with fail
   refine(tyNamed A len cap es _ (HE.out.below HB1.out) hok).mono ?_;rw [hn];rintro e w2 ⟨rfl,hb2⟩;have HB2:=Hd (below_trans2 HB1.out hb2);clear hb2
   go_wp2_with fail
   go_ret
   exact⟨ret_int hN.out,HB2.out⟩
  | true=>
   cases ha:apartB es with
   | false=>
    have hN:=Hd (show(6:Int)=enumsN es by simp [enumsN,hm,hn,ha])
    go_enter Tryz.func22,Tryz.ntmps22
    go_wp2_with fail
    refine(tyMany A len cap es w HE.out).mono ?_;rw [hm];rintro e w1 ⟨rfl,hb1⟩;have HB1:=Hd hb1;clear hb1
    go_wp2_with fail
    refine(tyNamed A len cap es _ (HE.out.below HB1.out) hok).mono ?_;rw [hn];rintro e w2 ⟨rfl,hb2⟩;have HB2:=Hd (below_trans2 HB1.out hb2);clear hb2
    go_wp2_with fail
    refine(tyApart A len cap es _ (HE.out.below HB2.out) hok hfew).mono ?_;rw [ha];rintro e w3 ⟨rfl,hb3⟩;have HB3:=Hd (below_trans2 HB2.out hb3);clear hb3
    go_wp2_with fail
    go_ret
    exact⟨ret_int hN.out,HB3.out⟩
   | true=>
    have hN:=Hd (show(0:Int)=enumsN es by simp [enumsN,hm,hn,ha])
    go_enter Tryz.func22,Tryz.ntmps22
    go_wp2_with fail
    refine(tyMany A len cap es w HE.out).mono ?_;rw [hm];rintro e w1 ⟨rfl,hb1⟩;have HB1:=Hd hb1;clear hb1
    go_wp2_with fail
    refine(tyNamed A len cap es _ (HE.out.below HB1.out) hok).mono ?_;rw [hn];rintro e w2 ⟨rfl,hb2⟩;have HB2:=Hd (below_trans2 HB1.out hb2);clear hb2
    go_wp2_with fail
    refine(tyApart A len cap es _ (HE.out.below HB2.out) hok hfew).mono ?_;rw [ha];rintro e w3 ⟨rfl,hb3⟩;have HB3:=Hd (below_trans2 HB2.out hb3);clear hb3
    go_wp2_with fail
    go_ret
    exact⟨ret_int hN.out,HB3.out⟩
end
section
open Go.RowKit
theorem RdT.news{w:World}{a:Addr}{n:Nat}{l:List ByteArray}(h:RdT w (some a) n l) (j:Nat) (u:Value) (hu:(l.map Value.string)[j]?=some u):w.cell? (a.add j)=some u:=by
 have hj:j<l.length:=by
  rcases Nat.lt_or_ge j l.length with h | h
  · exact h
  · rw [List.getElem?_eq_none (by simpa using h)] at hu;cases hu
 obtain⟨b,off,e,_,hc⟩:=h.at_ (i:=j) (by rw [← h.len];exact hj);injection e with e;subst e;have:=hc j (by rw [← h.len];exact hj);have e2:(⟨b,off,none⟩:Addr).add j=⟨b,off+j,none⟩:=by unfold Addr.add;split <;> simp_all
 rw [e2,this,← hu]
 simp [List.getElem?_eq_getElem hj]
section
variable {P:Program}{w:World}
theorem wpList_append_rdT{ops:Array Oper}{rest:List Oper}{o:Oper}{a:Act}{Q:Exit→Act→World→Prop}(hgd:o.guard=none) (s x:Operand) (t:TypeId)
 (ho:o.op=.call { callee:=.builtin .append,args:=#[s,x],argTypes:=#[t,t] })
 (base:Nat) (e:TypeId) (i:TypeInfo) (z:Value) (bytes:Nat) (ht:P.underlying t=some (.slice e)) (hi:P.info? e=some i) (hz:i.zero=some z)
 (hsize:i.size=1) (hby:i.bytes=bytes) (hzs:z.cells.size=1)
 (v:Value) (n:Nat) (xs:List ByteArray) (hs:a.eval s=v) (hown:w.ownsRow base e 1 v n (xs.map Value.string))
 (A:Option Addr) (m c:Nat) (l:List ByteArray) (hx:a.eval x=.slice A m c) (hr:RdT w A m l)
 (h63:n+m≤maxLen) (hbytes:(n+m)*bytes≤140737488355328) (hbase:base≤w.heap.size)
 (h:∀ v' w',w'.ownsRow base e 1 v' (n+m) ((xs++l).map Value.string)→w.grownBy w' v.ownBlock→(v'.ownBlock=v.ownBlock∨v'.ownBlock=some w.heap.size)→wpList P ops Q rest (a.put o.dst v') w'):wpList P ops Q (o::rest) a w:=by
 rcases A with _ | ad
 · obtain rfl:m=0:=by
    rcases Nat.eq_zero_or_pos m with h0 | h0
    · exact h0
    · obtain⟨b,off,e,_⟩:=hr.at_ h0;cases e
   obtain rfl:l=[]:=List.eq_nil_of_length_eq_zero hr.len;refine wpList_plain hgd fun K hK=>?_;have hrun:=run_append_nil (P:=P) (w:=w) base t o.type e i 1 ht hi v n _ hown c;unfold Oper.wp
   simp [execOp,ho,resolve,invoke,builtin,hs,hx,hrun,Result.andThen]
   exact hK _ _ (h v w (by simpa using hown) (World.grownBy.refl w _) (.inl rfl))
 · exact wpList_append_own_at w hgd s x t ho base e i z 1 bytes ht hi hz hsize hby hzs (by decide) v n _ hs hown ad m c (l.map Value.string) hx (by simp [hr.len]) hr.news (string_cells _) h63 hbytes hbase fun v' w' h1 h2 _ h4=>h v' w' (by rw [List.map_append];exact h1) h2 h4
end
def Apt(u v:Value):Prop:=∀ g,u.ownBlock=some g→v.ownBlock≠some g
theorem Apt.kept1{u v v':Value}{n:Nat}(h:Apt u v) (hl:v'.ownBlock=v.ownBlock∨v'.ownBlock=some n) (hu:∀ g,u.ownBlock=some g→g<n):Apt u v':=fun g hg e=>by
 rcases hl with h1 | h1
 · exact h g hg (h1 ▸ e)
 · have:=hu g hg;rw [h1] at e
   cases e
   omega
theorem Apt.symm{u v:Value}(h:Apt u v):Apt v u:=fun g hg e=>h g e hg
theorem Apt.ne{u v:Value}(h:Apt u v):u.ownBlock=none∨u.ownBlock≠v.ownBlock:=by
 rcases hub:u.ownBlock with _ | g
 · exact .inl rfl
 · exact .inr fun e=>h g hub e.symm
theorem refEnums(A:Option Addr) (len cap:Nat) (es:List En) (w:World) (hE:RdE w A len es) (hok:EsOk es) (hfew:EsFew es):
 Calls Tryz.prog 33 #[.slice A len cap] w fun e w'=>e=.returned (.int .i64 (enumsN es))∧Below w.heap.size w w':=by
 have hlen:=hE.len;have hmx:=hE.max
 by_cases h4:4<len
 · have hN:=Hd (show(4:Int)=enumsN es by simp [enumsN,manyB,hlen,h4])
   go_enter Tryz.func33,Tryz.ntmps33
   go_wp2_with fail
   go_ret
   exact⟨ret_int hN.out,((Below.refl _ _).alloc (Nat.le_refl _) _).alloc (by simp) _⟩
 · have hd4:decide ((4:Int)<(len:Int))=false:=decide_eq_false (by omega);obtain⟨i0,hi,hz0,hz1,hz2⟩:=info_parts infoString;have hr3:=Hd ((World.ownsRow_lit (base:=w.heap.size) (e:=9) (size:=1) w #[] 0 (Nat.le_refl _) (by decide) rfl).alloc (.cells #[] 9));have hr4:=Hd (World.ownsRow_lit (base:=w.heap.size) (e:=9) (size:=1) (w.alloc (.cells #[] 9)) #[] 0 (by simp) (by decide) rfl);have HB0:=Hd (((Below.refl w.heap.size w).alloc (Nat.le_refl _) (.cells #[] 9)).alloc (by simp) (.cells #[] 9))
   go_enter Tryz.func33,Tryz.ntmps33
   go_wp2_with fail
   go_loopw [3,4,5] (fun v u i wr=>∃ k:Nat,k≤len∧i=.int .i64 k∧fewTo es k∧wr.ownsRow w.heap.size 9 1 v k (((nmsE es).take k).map Value.string)∧wr.ownsRow w.heap.size 9 1 u (namesTo es k).length ((namesTo es k).map Value.string)∧Apt v u∧Below w.heap.size w wr) (fun _ _ i _=>len-(intOf i).toNat)
   case atStart=>
    refine⟨0,Nat.zero_le _,rfl,fun j hj=>absurd hj (by omega),hr3.out,?_,?_,HB0.out⟩
    · have:=hr4.out
      simpa [namesTo,flatTo] using this
    · intro g hg e
      simp [Value.ownBlock] at hg e
      omega
   case round=>
    obtain⟨k,hk,rfl,hto,hrw3,hrw4,hapt,hnx⟩:=hrel;have HT:=Hd hto;clear hto
    by_cases hlt:k<len
    · obtain⟨b,off,rfl,hb,hc⟩:=hE.at_ hlt;obtain⟨hn0,A',n',c',hs0,hR0⟩:=hc k hlt;have hn1:wr.cell? ⟨b,off+k*2,none⟩=some (.string (nmE es k)):=(hnx.cell (p:=⟨b,off+k*2,none⟩) hb).trans hn0;have hs1:wr.cell? ⟨b,off+k*2+1,none⟩=some (.slice A' n' c'):=(hnx.cell (p:=⟨b,off+k*2+1,none⟩) hb).trans hs0;have hkl:k<es.length:=by omega
      have hcl:=hR0.len;have hcm:=hR0.max
      by_cases h6:6<n'
      · have HE:=Hd (show(4:Int)=enumsN es by simp [enumsN,many_at hkl (show 6<(csE es k).length by omega)])
        go_wp2_with fail
        go_ret
        exact⟨ret_int HE.out,hnx⟩
      · have HN:=Hd (fewTo_succ HT.out (show(csE es k).length≤6 by omega));have hd6:decide ((6:Int)<(n':Int))=false:=decide_eq_false (by omega);have hNM:=Hd (nmsE_succ hkl);have hCT:=Hd (namesTo_succ es k);have hns:=namesTo_len (es:=es) (i:=k) fun j hj=>hfew.2 j (by omega);generalize hxn:nmE es k=x at hn1 hNM;have HRD:=Hd hR0;have HSL:=Hd hs0;have HNX:=Hd hnx;have H3:=Hd hrw3;have H4:=Hd hrw4;have HA:=Hd hapt;have hwz:=hnx.size;clear hrw3 hrw4 hapt hR0 hr3 hr4 HB0
        go_wp2_with (first
         | (at_builtin;refine wpList_append_own_at _ rfl _ _ 38 rfl w.heap.size 9 i0 (.string ByteArray.empty) 1 16 Tryz.underlying38 hi hz0 hz1 hz2 rfl (by decide) _ _ _ rfl (H3.out.alloc _) ⟨wr.heap.size,0,none⟩ 1 1 [.string x] rfl rfl (cell_one_new _ _ _) (string_cells [x]) (by unfold maxLen;omega) (by omega) (by simp;omega) ?_;intro v' w1 hown' hgrow hnil hloc;have hB1:=(HNX.out.alloc hwz (.cells #[.string x] 9)).grown hgrow (by simp;omega) (fun j hj=>(H3.out.lt j hj).1);have hs1:w1.cell? ⟨b,off+k*2+1,none⟩=some (.slice A' n' c'):=(hB1.cell (p:=⟨b,off+k*2+1,none⟩) hb).trans HSL.out;have HG:=Hd hgrow;have HO:=Hd hown';have HL:=Hd hloc;have HB1:=Hd hB1;have hw1:=hB1.size;have hg1:=hgrow.size;simp at hg1;clear hgrow hown' hnil hloc hB1;have HR1:=Hd (HRD.out.keep HB1.out.size fun p hp=>HB1.out.cell hp);have H41:=Hd ((H4.out.alloc (.cells #[.string x] 9)).kept HG.out HA.out.symm.ne))
         | (at_builtin;refine wpList_append_rdT rfl _ _ 38 rfl w.heap.size 9 i0 (.string ByteArray.empty) 16 Tryz.underlying38 hi hz0 hz1 hz2 rfl _ _ (namesTo es k) rfl H41.out A' n' c' (csE es k) rfl HR1.out (by unfold maxLen;omega) (by omega) (by omega) ?_;intro v2 w2 hown2 hgrow2 hloc2;have HG2:=Hd hgrow2;have HO2:=Hd hown2;have HL2:=Hd hloc2;clear hgrow2 hown2 hloc2))
        have HAP:=Hd (Apt.kept1 (Apt.kept1 HA.out.symm HL.out (fun g hg=>by have:=(H4.out.lt g hg).2;simp;omega)).symm HL2.out (fun g hg=>(HO.out.lt g hg).2))
        go_roundw
        case rel=>
         refine⟨k+1,by omega,by go_num,HN.out,?_,?_,HAP.out,?_⟩
         · rw [hNM.out,List.map_append];exact HO.out.kept HG2.out (Apt.ne (Apt.kept1 HA.out.symm HL.out (fun g hg=>by have:=(H4.out.lt g hg).2;simp;omega)).symm)
         · rw [hCT.out,List.length_append,hcl];exact HO2.out
         · exact HB1.out.grown HG2.out (by omega) (fun j hj=>(H41.out.lt j hj).1)
        case measure=>simp [intOf];omega
    · obtain rfl:k=len:=by omega
      have hmany:=many_no (by omega) HT.out (by omega);have hnm:(nmsE es).take k=nmsE es:=List.take_of_length_le (by rw [nmsE_len];omega);have hct:namesTo es k=allE es:=by rw [← hlen];exact namesTo_end es
      have hcl:(allE es).length≤96:=by have:=hfew.flat;simpa [allE] using this
      rw [hnm] at hrw3;rw [hct] at hrw4;obtain⟨A1,c1,rfl,hR1,_⟩:=RdT.of_own hrw3 (by omega);obtain⟨A2,c2,rfl,hR2,_⟩:=RdT.of_own hrw4 (by omega);have hEr:=hE.below hnx;have HEB:=Hd hEr;have HR1:=Hd hR1;have HR2:=Hd hR2;have HNX:=Hd hnx;have HMANY:=Hd hmany;clear hrw3 hrw4 hR1 hR2 hapt hr3 hr4 HB0 hnm hct hmany hnx hE hEr
      go_wp2_with fail
      go_loopw [6] (fun i wq=>∃ j:Nat,j≤k∧i=.int .i64 j∧namedTo es j∧Below wr.heap.size wr wq) (fun i _=>k-(intOf i).toNat)
      case atStart=>exact⟨0,Nat.zero_le _,rfl,fun j hj=>absurd hj (by omega),Below.refl _ _⟩
      case round=>
       obtain⟨j,hj,rfl,hto,hbq⟩:=hrel;have HTO:=Hd hto;have HBQ:=Hd hbq;clear hto
       by_cases hjk:j<k
       · obtain⟨b,off,rfl,hb,hc⟩:=(HEB.out.below hbq).at_ hjk;obtain⟨hn0,A',n',c',hs0,hR0⟩:=hc j hjk;have hkl:j<es.length:=by omega
         have hcl:=hR0.len;have hcm:=hR0.max;have HBAD:=Hd fun h=>named_bad hkl h;have HNXT:=Hd fun h1 h2=>namedTo_succ HTO.out h1 h2;have hzl:=(hok j hkl).1;unfold maxLen at hzl;clear hc hbq;generalize hxn:nmE es j=x at hn0 hzl HBAD HNXT
         by_cases hlow:lowB x.data.toList=true
         · rcases Nat.eq_zero_or_pos n' with hz | hz
           · have HE:=Hd (show(1:Int)=enumsN es by simp [enumsN,HMANY.out,HBAD.out (.inr (by omega))]);subst hz
             go_wp2_with fail
             refine(refLow x _ (by omega)).mono ?_;rw [hlow];rintro e w3 ⟨rfl,hb3⟩;have hs3:=(hb3.cell (p:=⟨b,off+j*2+1,none⟩) hb).trans hs0;have HB3:=Hd (below_trans2 (HNX.out.trans (HBQ.out.mono HNX.out.size)) (hb3.mono (Nat.le_refl _)));clear hb3
             go_wp2_with fail
             go_ret
             exact⟨ret_int HE.out,HB3.out⟩
           · have HN:=Hd (HNXT.out hlow (by omega));have hnz:((n':Int)==0)=false:=by rw [beq_eq_false_iff_ne];omega
             go_wp2_with fail
             refine(refLow x _ (by omega)).mono ?_;rw [hlow];rintro e w3 ⟨rfl,hb3⟩;have hs3:=(hb3.cell (p:=⟨b,off+j*2+1,none⟩) hb).trans hs0;have HB3:=Hd (HBQ.out.trans (hb3.mono HBQ.out.size));clear hb3
             go_wp2_with fail
             go_roundw
             case rel=>exact⟨j+1,by omega,by go_num,HN.out,HB3.out⟩
             case measure=>simp [intOf];omega
         · have hlow:lowB x.data.toList=false:=by simpa using hlow
           have HE:=Hd (show(1:Int)=enumsN es by simp [enumsN,HMANY.out,HBAD.out (.inl hlow)])
           go_wp2_with fail
           refine(refLow x _ (by omega)).mono ?_;rw [hlow];rintro e w3 ⟨rfl,hb3⟩;have HB3:=Hd (HNX.out.trans ((HBQ.out.trans (hb3.mono HBQ.out.size)).mono HNX.out.size));clear hb3
           go_wp2_with fail
           go_ret
           exact⟨ret_int HE.out,HB3.out⟩
       · obtain rfl:j=k:=by omega
         have HALL:=Hd (namedTo_all HTO.out (by omega));have HR1:=Hd (HR1.out.below HBQ.out);have HR2:=Hd (HR2.out.below HBQ.out);have HNX:=Hd (HNX.out.trans (HBQ.out.mono HNX.out.size));clear hbq HBQ HEB HTO
         go_wp2_with fail
         go_loopw [7] (fun i wq2=>∃ m:Nat,m≤(allE es).length∧i=.int .i64 m∧(∀ q,q<m→hiB ((allE es)[q]?.getD ByteArray.empty)=true)∧wq2=wr) (fun i _=>(allE es).length-(intOf i).toNat)
         case atStart=>exact⟨0,Nat.zero_le _,rfl,fun q hq=>absurd hq (by omega),rfl⟩
         case round=>
          obtain⟨m,hm,rfl,hhi,rfl⟩:=hrel;have HHI:=Hd hhi;clear hhi
          by_cases hmlt:m<(allE es).length
          · obtain⟨b,off,rfl,hb,hc⟩:=HR2.out.at_ hmlt;have hcm:=hc m hmlt;have hsz:=hok.all _ (show(allE es)[m]?.getD ByteArray.empty∈allE es by rw [List.getElem?_eq_getElem hmlt];exact List.getElem_mem _);unfold maxLen at hsz
            have HM:=Hd (show hiB ((allE es)[m]?.getD ByteArray.empty)=false→(allE es).all hiB=false from fun h=>by
             rw [List.all_eq_false];refine⟨_,List.getElem_mem hmlt,?_⟩;rw [List.getElem?_eq_getElem hmlt] at h
             simpa using h)
            have HS:=Hd (show hiB ((allE es)[m]?.getD ByteArray.empty)=true→∀ q,q<m+1→hiB ((allE es)[q]?.getD ByteArray.empty)=true from fun h q hq=>by
             rcases Nat.lt_or_ge q m with h1 | h1
             · exact HHI.out q h1
             · obtain rfl:q=m:=by omega
               exact h)
            clear hc;generalize (allE es)[m]?.getD ByteArray.empty=x at hcm hsz HM HS
            by_cases hhx:highB x.data.toList=true
            · have HS:=Hd (HS.out hhx)
              go_wp2_with fail
              refine(refHigh x _ (by omega)).mono ?_;rw [hhx];rintro e w3 ⟨rfl,rfl⟩
              go_wp2_with fail
              go_roundw
              case rel=>exact⟨m+1,by omega,by go_num,HS.out,(by first | trivial | rfl)⟩
              case measure=>simp [intOf];omega
            · have hhx:highB x.data.toList=false:=by simpa using hhx
              have HE:=Hd (show(1:Int)=enumsN es by simp [enumsN,HMANY.out,namedB,HM.out hhx])
              go_wp2_with fail
              refine(refHigh x _ (by omega)).mono ?_;rw [hhx];rintro e w3 ⟨rfl,rfl⟩
              go_wp2_with fail
              go_ret
              exact⟨ret_int HE.out,HNX.out⟩
          · have hnamed:namedB es=true:=by
             have h2:(allE es).all hiB=true:=by
              rw [List.all_eq_true];intro s hs;obtain⟨q,hq,rfl⟩:=List.getElem_of_mem hs;have:=HHI.out q (by omega);rwa [List.getElem?_eq_getElem hq] at this
             unfold namedB;rw [HALL.out,h2];rfl
            by_cases ho:onceS (nmsE es)=true
            · by_cases ho2:onceS (allE es)=true
              · have HE:=Hd (show(0:Int)=enumsN es by simp [enumsN,HMANY.out,hnamed,apartB,ho,ho2])
                go_wp2_with fail
                refine(refOnce A1 j c1 (nmsE es) _ HR1.out (by omega)).mono ?_;rw [ho];rintro e w3 ⟨rfl,p,rfl⟩
                go_wp2_with fail
                refine(refOnce A2 _ c2 (allE es) _ (HR2.out.drewN p) (by omega)).mono ?_;rw [ho2];rintro e w3 ⟨rfl,p2,rfl⟩
                go_wp2_with fail
                go_ret
                exact⟨ret_int HE.out,below_drewN HNX.out (p+p2)⟩
              · have ho2:onceS (allE es)=false:=by simpa using ho2
                have HE:=Hd (show(6:Int)=enumsN es by simp [enumsN,HMANY.out,hnamed,apartB,ho,ho2])
                go_wp2_with fail
                refine(refOnce A1 j c1 (nmsE es) _ HR1.out (by omega)).mono ?_;rw [ho];rintro e w3 ⟨rfl,p,rfl⟩
                go_wp2_with fail
                refine(refOnce A2 _ c2 (allE es) _ (HR2.out.drewN p) (by omega)).mono ?_;rw [ho2];rintro e w3 ⟨rfl,p2,rfl⟩
                go_wp2_with fail
                go_ret
                exact⟨ret_int HE.out,below_drewN HNX.out (p+p2)⟩
            · have ho:onceS (nmsE es)=false:=by simpa using ho
              have HE:=Hd (show(6:Int)=enumsN es by simp [enumsN,HMANY.out,hnamed,apartB,ho])
              go_wp2_with fail
              refine(refOnce A1 j c1 (nmsE es) _ HR1.out (by omega)).mono ?_;rw [ho];rintro e w3 ⟨rfl,p,rfl⟩
              go_wp2_with fail
              go_ret
              exact⟨ret_int HE.out,below_drewN HNX.out p⟩
end
end Go.Proofs.YtpehkppcdlboeaaGreat
