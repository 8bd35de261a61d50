/- Parts of the proof: TyN, TyP, TyQ, TyS. Conditions: each theorem's own. -/
import Derived.RangeFuncBox
import Derived.Test.YtegjgiofmpolnaaGreatC03
import Derived.Test.YtegjgiofmpolnaaGreatC06
namespace Go.Proofs.YtegjgiofmpolnaaGreat
set_option linter.unusedVariables false
set_option linter.unusedSimpArgs false
set_option maxRecDepth 100000
set_option maxHeartbeats 40000000
section
open Go.RowKit Go.Shelf
attribute [local go_sem] Oper.semAt_some
def rD(e:En):Bool:=aX e.1.data.toList && !e.2.isEmpty
def kD(s:ByteArray):Bool:=dY s.data.toList
def jJ(es:List En):Bool:=es.all rD && (dQ es).all kD
def rS(es:List En) (k:Nat):Prop:=∀ j,j<k->aX (eK es j).data.toList=true/\0<(bT es j).length
section
variable {es:List En}{k:Nat}
theorem zB(h:k<es.length):es[k]'h=(eK es k,bT es k):=by
 simp [eK,bT,Yk h]
theorem aE9(h:k<es.length):rD (es[k]'h)=(aX (eK es k).data.toList && decide (0<(bT es k).length)):=by
 rw [zB h];unfold rD
 cases bT es k <;> simp
theorem aB8(h:k<es.length) (hb:aX (eK es k).data.toList=false\/(bT es k).length=0):jJ es=false:=by
 have:es.all rD=false:=by
  rw [List.all_eq_false];refine⟨es[k]'h,Zg h,?_⟩;rw [aE9 h];rcases hb with h | h <;> simp [h]
 unfold jJ;rw [this,Bool.false_and]
theorem aAm(H:rS es k) (h:es.length<=k):es.all rD=true:=by
 rw [Zf];intro e he;obtain⟨j,hj,rfl⟩:=Zi he;have:=H j (by omega);rw [aE9 hj,this.1,Zx this.2];rfl
theorem zT(H:rS es k) (h1:aX (eK es k).data.toList=true) (h2:0<(bT es k).length):rS es (k+1):=fun j hj=>by
 rcases Nat.lt_or_ge j k with h | h
 . exact H j h
 . obtain rfl:j=k:=by omega
   exact⟨h1,h2⟩
theorem aJk(h:es.all rD=true) (hp:∀ p∈dT es,kD p.2.2=true):jJ es=true:=by
 unfold jJ;rw [h,Bool.true_and,Zf];intro s hs;obtain⟨p,Aa,rfl⟩:=List.mem_map.1 hs;exact hp p Aa
theorem aMn{ini:List Pl}{x:Pl}(hp:ini++[x] <+: dT es) (hx:kD x.2.2=false):jJ es=false:=by
 unfold jJ;have hm:x∈dT es:=hp.subset (by simp)
 have:(dQ es).all kD=false:=by
  rw [List.all_eq_false];exact⟨x.2.2,List.mem_map.2 ⟨x,hm,rfl⟩,by simp [hx]⟩
 rw [this,Bool.and_false]
theorem jW.flat(h:jW es):∀ p∈dT es,p.2.2.size<=maxLen:=by
 intro p hp;have h1:p.2.2∈iX es es.length:=List.mem_map.2 ⟨p,hp,rfl⟩;obtain⟨j,hj,hm⟩:=aG2 h1;exact(h j hj).2 _ hm
end
theorem aEh(w:World) (u v:Value) (T:TypeId):(w.alloc (.cells #[u,v] T)).cell? ⟨w.heap.size,1,none⟩=some v:=(jX.new w T u v).c1
theorem aHw(n:Nat) (hn:6<=n) (A:Option Addr) (Al Af:Nat) (es:List En) (w:World) (hE:bV w A Al es) (Bc:jW es):
 CallsIn Fence.wide n Tryz.prog 134 #[.slice A Al Af] w fun e w'=>e=.returned (.bool (jJ es))/\Below w.heap.size w w':=by
 have h1:1<=n:=by omega
 have Bk:=hE.len;have Bt:=hE.max;refine callsIn_of_wp_marks Tryz.func134 rfl trivial ?_ rfl;simp only [Tryz.ntmps134,List.size_toArray,Yo,List.length_nil,Nat.reduceAdd,Nat.reduceSub,Array.replicate_succ,Array.replicate_zero,List.push_toArray,List.append_toArray,List.nil_append,Yv]
 gi_wp2_with fail
 gi_loopw [9] (fun i wr=>∃ k:Nat,k<=Al/\i=.int .i64 k/\rS es k/\Boxed wr w.heap.size 4 (.bool false)/\Below w.heap.size w wr)
  (fun i _=>Al-(intOf i).toNat)
 case atStart=>exact⟨0,Yq _,rfl,fun j hj=>absurd hj (by omega),Boxed.new _ _ _,(Yg _ _).alloc (Yh _) _⟩
 case round=>
  obtain⟨k,hk,rfl,Be,Ah,Ad⟩:=hrel;have HT:=Hd Be;clear Be
  by_cases Ap:k<Al
  . obtain⟨b,Ao,rfl,hb,hc⟩:=hE.at_ Ap;obtain⟨Bg,A',n',c',Bh,Ba⟩:=hc k Ap;have Bl:wr.cell? ⟨b,Ao+k*2,none⟩=some (.string (eK es k)):=(Ad.cell (p:=⟨b,Ao+k*2,none⟩) hb).trans Bg;have Bp:wr.cell? ⟨b,Ao+k*2+1,none⟩=some (.slice A' n' c'):=(Ad.cell (p:=⟨b,Ao+k*2+1,none⟩) hb).trans Bh;have Av:k<es.length:=by omega
    have Bu:=Ba.len;have Br:=Ba.max;have Ai:=Hd fun h=>aB8 Av h;have Ax:=Hd fun h1 h2=>zT HT.o h1 h2;have Az:=(Bc k Av).1;unfold maxLen at Az;generalize Bo:eK es k=x at Bl Az Ai Ax
    by_cases Ac:aX x.data.toList=true
    . rcases Nat.eq_zero_or_pos n' with hz | hz
      . have HE:=Hd (Ai.o (.inr (by omega)));subst hz
        gi_wp2_with fail
        refine⟨trivial,(callsIn_wide.2 (iG x _ (by omega))).mono ?_⟩;rw [Ac];rintro e w3 ⟨rfl,Ab⟩;have d1:=(Ab.cell (p:=⟨wr.heap.size,1,none⟩) (by simp)).trans (aEh wr _ _ _);have Aa:=rG (Ah.alloc (.cells #[.string x,.slice A' 0 c'] 79)) Ab (by have:=Ah.lt;simp;omega);have HX:=Hd Aa;have e2:=Aa.cell;have f2:=Aa.frozen;have Ae:=Hd ((Ad.alloc Ad.size (.cells #[.string x,.slice A' 0 c'] 79)).trans (Ab.mono (by have:=Ad.size;simp;omega)));clear Ab Aa
        gi_wp2_with fail
        refine⟨_,?_,aF HE.o.symm,Ae.o.setCell (p:=⟨w.heap.size,0,none⟩) (Yh _) _⟩;have k1:=(HX.o.set (.bool false)).cell
        simp [results,Tryz.f134,go_sem,k1]
      . have HN:=Hd (Ax.o Ac (by omega));have Bm:((n':Int)==0)=false:=by rw [Xa];omega
        gi_wp2_with fail
        refine⟨trivial,(callsIn_wide.2 (iG x _ (by omega))).mono ?_⟩;rw [Ac];rintro e w3 ⟨rfl,Ab⟩;have d1:=(Ab.cell (p:=⟨wr.heap.size,1,none⟩) (by simp)).trans (aEh wr _ _ _);have Aa:=rG (Ah.alloc (.cells #[.string x,.slice A' n' c'] 79)) Ab (by have:=Ah.lt;simp;omega);have HX:=Hd Aa;have Ae:=Hd ((Ad.alloc Ad.size (.cells #[.string x,.slice A' n' c'] 79)).trans (Ab.mono (by have:=Ad.size;simp;omega)));clear Ab Aa
        gi_wp2_with fail
        go_roundw
        case rel=>exact⟨k+1,by omega,by go_num,HN.o,HX.o,Ae.o⟩
        case measure=>simp [intOf];omega
    . have Ac:aX x.data.toList=false:=by simpa using Ac
      have HE:=Hd (Ai.o (.inl Ac))
      gi_wp2_with fail
      refine⟨trivial,(callsIn_wide.2 (iG x _ (by omega))).mono ?_⟩;rw [Ac];rintro e w3 ⟨rfl,Ab⟩;have Aa:=rG (Ah.alloc (.cells #[.string x,.slice A' n' c'] 79)) Ab (by have:=Ah.lt;simp;omega);have HX:=Hd Aa;have e2:=Aa.cell;have f2:=Aa.frozen;have Ae:=Hd ((Ad.alloc Ad.size (.cells #[.string x,.slice A' n' c'] 79)).trans (Ab.mono (by have:=Ad.size;simp;omega)));clear Ab Aa
      gi_wp2_with fail
      refine⟨_,?_,aF HE.o.symm,Ae.o.setCell (p:=⟨w.heap.size,0,none⟩) (Yh _) _⟩;have k1:=(HX.o.set (.bool false)).cell
      simp [results,Tryz.f134,go_sem,k1]
  . obtain rfl:k=Al:=by omega
    have Ar:=Hd (aAm HT.o (by omega));have Bf:=Ad;clear HT
    gi_wp2_with fail
    refine⟨trivial,(callsIn_wide.2 (xV _ _ _ _)).mono ?_⟩;rintro e w' ⟨rfl,rfl⟩
    gi_wp2_with fail
    have b4:=Boxed.new wr 22 (.slice A k Af);have Am:=Ah.alloc (.cells #[.slice A k Af] 22);have Aq:=Ad.alloc Ad.size (.cells #[.slice A k Af] 22);have Bi:(wr.alloc (.cells #[.slice A k Af] 22)).heap.size=wr.heap.size+1:=by simp
    have Bq:=Ah.lt;have Bn:=Ad.size;obtain⟨W0,Bb⟩:∃ W0,wr.alloc (.cells #[.slice A k Af] 22)=W0:=⟨_,rfl⟩;rw [Bb] at b4 Am Aq Bi ⊢;clear Bb
    refine wpIn_rangeFunc_ownG rfl h1 (gf:=178) (lb:=#[.pointer (some ⟨wr.heap.size,0,none⟩)]) rfl trivial (enters_of Tryz.func178 (by kernel_rfl) rfl)
     (aGh (n-1) (by omega) wr.heap.size w A k Af es hE W0 Aq (by omega) b4.cell) belowK_t (belowK_b (by omega)) (Yg _ _) (fun _=>rfl)
     (fun Aj W=>(Boxed W w.heap.size 4 (.bool false)/\∀ p∈Aj,kD p.1.2.2=true)/\Below w.heap.size w W)
     (fun c Aj W=>((c=.ret/\∃ ini Ag,Aj=ini++[Ag]/\kD Ag.1.2.2=false)/\Boxed W w.heap.size 4 (.bool false))/\Below w.heap.size w W)
     (OwnFrom.and (OwnFrom.and (Own.from (boxed_own _ _ (fun _=>_)) _) (ownFrom_pure _ _)) (ownFrom_below (Yh _) (by omega)))
     (fun c=>OwnFrom.and (OwnFrom.and (ownFrom_pure _ _) (Own.from (boxed_own _ _ (fun _=>_)) _)) (ownFrom_below (Yh _) (by omega)))
     ⟨⟨Am,by simp⟩,Aq⟩
     (fun x=>{ tmps:=#[.slice A k Af,undef,.pointer (some ⟨w.heap.size,0,none⟩),undef,u4,undef,.string x.1.2.2,.slice A k Af,.int .i64 k,.int .i64 k,.bool false,u11,u12,u13,u14,u15,u16,u17,u18,u19,u20,u21,u22,u23,.slice A k Af,.func (.func 178) #[] #[.pointer (some ⟨wr.heap.size,0,none⟩)],.agg #[.int .i64 (x.1.1:Int),.int .i64 (x.1.2.1:Int)],.string x.1.2.2,undef,undef,undef],defers:=[] }) ?assign ?body ?done ?stop
    case assign=>
     intro l x W K hK;simp only [pL]
     gi_wp2
     exact hK
    case body=>
     rintro l Aj ⟨⟨xi,xk,xc⟩,hx⟩ W ⟨⟨hb,hp⟩,hB⟩ Ap;have Aw:=Bc.flat _ hx
     dsimp only at Aw
     unfold maxLen at Aw;have e1:=hb.cell;have f1:=hb.frozen;have hd:1<=n-1-1:=by omega
     have Ay:=Hd (show kD xc=dY xc.data.toList from rfl)
     by_cases Ak:dY xc.data.toList=true
     . gi_wp2_with fail
       refine⟨trivial,(CallsIn.inRound l (callsIn_wide.2 (sA xc _ (by omega)))).mono ?_⟩;rw [Ak];rintro e w3 ⟨rfl,Ab⟩;have Ae:=Hd Ab;clear Ab
       gi_wp2_with fail
       exact⟨zQ Ae.o,Ae.o.mono hB.size,⟨rG hb Ae.o hb.lt,fun p An=>(Zn.1 An).elim (hp p) (fun e=>by simp at e;subst e;exact Ay.o.trans Ak)⟩,hB.trans (Ae.o.mono hB.size)⟩
     . have Ak:dY xc.data.toList=false:=by simpa using Ak
       gi_wp2_with fail
       refine⟨trivial,(CallsIn.inRound l (callsIn_wide.2 (sA xc _ (by omega)))).mono ?_⟩;rw [Ak];rintro e w3 ⟨rfl,Ab⟩;have Ae:=Hd Ab;clear Ab;have As:=rG hb Ae.o hb.lt;have e2:=As.cell;have f2:=As.frozen
       gi_wp2_with fail
       exact⟨((zQ Ae.o).trans ((KeepsOthers.setCell _ _ _).from _)),⟨⟨rfl,Aj,_,rfl,Ay.o.trans Ak⟩,As.set (.bool false)⟩,(hB.trans (Ae.o.mono hB.size)).setCell (p:=⟨w.heap.size,0,none⟩) (Yh _) _⟩
    case done=>
     rintro D ys W hD Bj ⟨⟨hb,hp⟩,hB⟩ hK;have e1:=hb.cell;have f1:=hb.frozen
     gi_wp2
     have Bd:=(KeepsOthers.setCell W ⟨w.heap.size,0,none⟩ (.bool true)).same D _ hK rfl;have k1:=((hb.set (.bool true)).kept (grownBy_putObj' _ D (.deferred none)) (fun e=>by cases e;omega)).cell;refine⟨by simp,.inl ⟨_,_,rfl,run_takeDeferred Bd,?_⟩⟩;refine⟨.bool true,?_,by rw [aJk Ar.o fun p An=>by rw [<- Bj] at An;obtain⟨q,hq,rfl⟩:=List.mem_map.1 An;exact hp q hq],(hB.setCell (p:=⟨w.heap.size,0,none⟩) (Yh _) _).trans (belowK_b (w:=w) (Yh _) _ D _ _ (by omega) Bd rfl rfl)⟩
     simp [results,Tryz.f134,go_sem,k1]
    case stop=>
     rintro D c Aj W hD Au ⟨⟨⟨rfl,ini,Ag,rfl,hl⟩,hb⟩,hB⟩ hK
     gi_wp2
     have k1:=(hb.kept (grownBy_putObj' _ D (.deferred none)) (fun e=>by cases e;omega)).cell;refine⟨by simp,.inl ⟨_,_,rfl,run_takeDeferred hK,?_⟩⟩;refine⟨.bool false,?_,by rw [aMn (ini:=ini.map (·.1)) (x:=Ag.1) (by simpa using Au) hl],hB.trans (belowK_b (w:=w) (Yh _) _ D _ _ (by omega) hK rfl rfl)⟩
     simp [results,Tryz.f134,go_sem,k1]
theorem xZ(A:Option Addr) (Aa Ab:Nat) (es:List En) (w:World) (hE:bV w A Aa es) (Ac:jW es):
 Calls Tryz.prog 134 #[.slice A Aa Ab] w fun e w'=>e=.returned (.bool (jJ es))/\Below w.heap.size w w' :=
 callsIn_wide.1 (aHw 6 (Yh _) A Aa Ab es w hE Ac)
end
section
open Go.RowKit Go.Shelf
attribute [local go_sem] Oper.semAt_some
def fG(es:List En):List ByteArray:=es.map (·.1)
def kL(es:List En):Bool:=bP (fG es) && bP (dQ es)
def pO(es:List En):Prop:=es.length<=8/\∀ j,j<es.length->(bT es j).length<=12
section
variable {es:List En}
theorem pO.flat(h:pO es):(dT es).length<=96:=by
 have h1:=aAj (es:=es) (i:=es.length) h.2;have h2:(iX es es.length).length=(dT es).length:=by simp [iX,dT]
 have:=h.1;omega
theorem jW.nms(h:jW es):∀ s∈fG es,s.size<=maxLen:=by
 intro s hs;obtain⟨e,he,rfl⟩:=List.mem_map.1 hs;obtain⟨j,hj,rfl⟩:=Zi he;have:=(h j hj).1;unfold eK at this;rwa [Yk hj] at this
theorem jW.all(h:jW es):∀ s∈dQ es,s.size<=maxLen:=by
 intro s hs;obtain⟨p,hp,rfl⟩:=List.mem_map.1 hs;exact h.flat p hp
theorem xB:(fG es).length=es.length:=by simp [fG]
theorem aB9{k:Nat}(h:k<es.length):(fG es).take (k+1)=(fG es).take k++[eK es k]:=by
 rw [tC (by rw [xB];exact h)];unfold fG;rw [aRk]
end
theorem aGn(w:World) (o:Obj) (v:Value) (T:TypeId) (h:o.isCells=true\/True):∀ j u,[v][j]?=some u->((w.alloc o).alloc (.cells #[v] T)).cell? ((⟨w.heap.size+1,0,none⟩:Addr).add j)=some u:=by
 have:=cell_one_new (w.alloc o) v T
 simpa using this
theorem aPd{β:Type}(base:Nat) (e:TypeId) (size:Nat) (v:Value) (k:Nat) (xs:List Value):Own (fun(_:β) W=>W.ownsRow base e size v k xs):=fun s X Y row hs hg Aa=>by
 refine hs.kept hg ?_;rcases hs.2 with⟨rfl,_⟩|⟨g,cap,cur,rfl,_,hgb,_⟩
 . exact .inl rfl
 . refine .inr fun e'=>?_;obtain⟨o,ho,hc⟩:=Aa g (by simpa [Value.ownBlock] using e'.symm);rw [hgb] at ho;cases ho;cases hc
theorem aGi{W w1:World}{n₀ m₀ B:Nat}{t e:TypeId}{size:Nat}{v v':Value}{k m:Nat}{xs ys:List Value}{Ad:Obj}
 (hv:Boxed W B t v) (Af:t≠e) (Ab:W.ownsRow n₀ e size v k xs) (Ai:n₀<=W.heap.size) (hm:m₀<=n₀) (hB:m₀<=B)
 (Ac:w1.ownsRow n₀ e size v' m ys) (Aa:(W.alloc Ad).grownBy w1 v.ownBlock):
 Boxed w1 B t v/\Boxed (w1.setCell ⟨B,0,none⟩ v') B t v'/\(w1.setCell ⟨B,0,none⟩ v').ownsRow n₀ e size v' m ys/\KeepsOthers W (w1.setCell ⟨B,0,none⟩ v')/\Below m₀ W (w1.setCell ⟨B,0,none⟩ v') /\
  ∀ {base sz:Nat}{u:Value}{ku:Nat}{us:List Value},W.ownsRow base e sz u ku us->(∀ g,u.ownBlock=some g->g<n₀)->(w1.setCell ⟨B,0,none⟩ v').ownsRow base e sz u ku us:=by
 have Ae:Boxed w1 B t v:=(hv.alloc Ad).kept Aa (hv.not_row Af Ab);refine⟨Ae,Ae.set v',Ac.kept (grownBy_setCell' w1 B v') (.inr (Ae.not_row Af Ac).symm),?_,?_,?_⟩
 . refine((KeepsOthers.alloc W Ad).trans (KeepsOthers.of_grownBy Aa fun j o ej hj=>?_)).trans (KeepsOthers.setCell _ _ _);rcases(Ab.alloc Ad).2 with⟨rfl,_⟩|⟨g,cap,cur,rfl,_,hgb,_⟩
   . simp [Value.ownBlock] at ej
   . obtain rfl:g=j:=by simpa [Value.ownBlock] using ej
     rw [hgb] at hj;cases hj;rfl
 . refine(((Yg m₀ W).alloc (by omega) Ad).grown Aa (by simp;omega) fun j ej=>?_).setCell (p:=⟨B,0,none⟩) hB v';have:=(Ab.lt j ej).1;omega
 . intro base sz u ku us hu Ah
   have h2:w1.ownsRow base e sz u ku us:=(hu.alloc Ad).kept Aa (by
    rcases Ag:u.ownBlock with _ | g
    . exact .inl rfl
    . refine .inr fun e'=>?_;have h3:=Ah g Ag;have h4:=(Ab.lt g e'.symm).1;omega)
   exact h2.kept (grownBy_setCell' w1 B v') (.inr (Ae.not_row Af h2).symm)
theorem aHx(n:Nat) (hn:6<=n) (A:Option Addr) (Aj Ad:Nat) (es:List En) (w:World) (hE:bV w A Aj es) (Aw:jW es) (Ak:pO es):
 CallsIn Fence.wide n Tryz.prog 135 #[.slice A Aj Ad] w fun e w'=>e=.returned (.bool (kL es))/\Below w.heap.size w w':=by
 have h1:1<=n:=by omega
 have Bw:=hE.len;have Ci:=hE.max;have Cm:=Ak.1;obtain⟨i0,hi,Bd,Bg,Ba⟩:=info_parts oU;refine callsIn_of_wp_marks Tryz.func135 rfl trivial ?_ rfl;simp only [Tryz.ntmps135,List.size_toArray,Yo,List.length_nil,Nat.reduceAdd,Nat.reduceSub,Array.replicate_succ,Array.replicate_zero,List.push_toArray,List.append_toArray,List.nil_append,Yv]
 gi_wp2_with fail
 gi_loopw [3,11] (fun v i wr=>∃ k:Nat,k<=Aj/\i=.int .i64 k/\wr.ownsRow (w.heap.size+1) 9 1 v k (((fG es).take k).map Value.string)/\Boxed wr w.heap.size 32 (.slice none 0 0)/\Below w.heap.size w wr)
  (fun _ i _=>Aj-(intOf i).toNat)
 case atStart=>exact⟨0,Yq _,rfl,World.ownsRow_nil _ _ _ _,Boxed.new _ _ _,(Yg _ _).alloc (Yh _) _⟩
 case round=>
  obtain⟨k,hk,rfl,Aa,Am,Af⟩:=hrel;have Cb:=Am.lt
  by_cases Ay:k<Aj
  . obtain⟨b,Ao,rfl,hb,hc⟩:=hE.at_ Ay;obtain⟨Bl,A',n',c',Bn,Ck⟩:=hc k Ay;have Bx:wr.cell? ⟨b,Ao+k*2,none⟩=some (.string (eK es k)):=(Af.cell (p:=⟨b,Ao+k*2,none⟩) hb).trans Bl;have Cg:wr.cell? ⟨b,Ao+k*2+1,none⟩=some (.slice A' n' c'):=(Af.cell (p:=⟨b,Ao+k*2+1,none⟩) hb).trans Bn;have Bi:k<es.length:=by omega
    have Ax:=Hd (aB9 Bi);generalize Cf:eK es k=x at Bx Ax
    gi_wp2_with (gi_at_builtin;refine wpListIn_append_own _ rfl _ _ 32 rfl (w.heap.size+1) 9 i0 (.string ByteArray.empty) 1 16 Tryz.underlying32 hi Bd Bg Ba rfl (by decide) _ _ _ rfl ((Aa.alloc _).alloc _) ⟨wr.heap.size+1,0,none⟩ 1 1 [.string x] rfl rfl (aGn _ _ _ _ (.inr trivial)) (lQ [x]) (by unfold maxLen;omega) (by omega) (by simp;omega) ?_;intro v' w1 Ab Ac _)
    have HO:=Hd Ab;have Ai:=(Am.alloc (.cells #[.string x,.slice A' n' c'] 79)).alloc (.cells #[.string x] 9);have Cc:=Hd (Ai.kept Ac (Ai.not_row (by decide) ((Aa.alloc _).alloc _)));have HG:=Hd ((((Af.alloc Af.size (.cells #[.string x,.slice A' n' c'] 79))).alloc (by have:=Af.size;simp;omega) (.cells #[.string x] 9)).grown Ac (by have:=Af.size;simp;omega) (fun j hj=>by have:=(Aa.lt j hj).1;omega));clear Ab Ac Ai Aa
    go_roundw
    case rel=>exact⟨k+1,by omega,by go_num,by rw [Ax.o,Zp];exact HO.o,Cc.o,HG.o⟩
    case measure=>simp [intOf];omega
  . obtain rfl:k=Aj:=by omega
    gi_wp2_with fail
    refine⟨trivial,(callsIn_wide.2 (xV _ _ _ _)).mono ?_⟩;rintro e w' ⟨rfl,rfl⟩
    gi_wp2_with fail
    have b4:=Boxed.new wr 22 (.slice A k Ad);have An:=Am.alloc (.cells #[.slice A k Ad] 22);have Ah:=Aa.alloc (.cells #[.slice A k Ad] 22);have Au:=Af.alloc Af.size (.cells #[.slice A k Ad] 22);have Bq:(wr.alloc (.cells #[.slice A k Ad] 22)).heap.size=wr.heap.size+1:=by simp
    have Ch:=Am.lt;have Ce:=Af.size;have Bk:∀ g,u3.ownBlock=some g->g<wr.heap.size+1:=fun g hg=>by have:=(Aa.lt g hg).2;omega
    have Bp:=Ak.flat;obtain⟨W0,Bf⟩:∃ W0,wr.alloc (.cells #[.slice A k Ad] 22)=W0:=⟨_,rfl⟩;rw [Bf] at b4 An Ah Au Bq ⊢;clear Bf Aa Am Af
    refine wpIn_rangeFunc_ownG rfl h1 (gf:=178) (lb:=#[.pointer (some ⟨wr.heap.size,0,none⟩)]) rfl trivial (enters_of Tryz.func178 (by kernel_rfl) rfl)
     (zS (n-1) (by omega) wr.heap.size w A k Ad es hE W0 Au (by omega) b4.cell) belowK_t (belowK_b (by omega)) (Yg _ _) (fun _=>rfl)
     (fun Ag W=>((∃ v,Boxed W w.heap.size 32 v/\W.ownsRow (wr.heap.size+1) 9 1 v Ag.length (Ag.map fun p=>Value.string p.2.2)/\True)/\W.ownsRow (w.heap.size+1) 9 1 u3 k (((fG es).take k).map Value.string)/\wr.heap.size+1<=W.heap.size)/\Below w.heap.size w W)
     (fun _ _ _=>False)
     (OwnFrom.and (OwnFrom.and (Own.from (holdsRow_own (wr.heap.size+1) w.heap.size 32 9 1 (fun(Ag:List Pl)=>Ag.length) (fun(Ag:List Pl)=>Ag.map fun p=>Value.string p.2.2) (fun _ _=>True)) _) (OwnFrom.and (Own.from (aPd _ _ _ _ _ _) _) (fun s X Y row hs hg hr=>Nat.le_trans hs hg.size))) (ownFrom_below (Yh _) (by omega)))
     (fun _ _ _ _ _ hs _ _=>hs)
     ⟨⟨⟨_,An,World.ownsRow_nil _ _ _ _,trivial⟩,Ah,by omega⟩,Au⟩
     (fun x=>{ tmps:=#[.slice A k Ad,undef,.bool false,u3,.pointer (some ⟨w.heap.size,0,none⟩),undef,u6,undef,.string x.2.2,.slice A k Ad,.int .i64 k,.int .i64 k,.bool false,u13,u14,u15,u16,u17,u18,u19,u20,.slice A k Ad,.func (.func 178) #[] #[.pointer (some ⟨wr.heap.size,0,none⟩)],.agg #[.int .i64 (x.1:Int),.int .i64 (x.2.1:Int)],.string x.2.2,undef,undef,undef,undef,undef,undef,undef,undef,undef,undef],defers:=[] }) ?assign ?body ?done ?stop
    case assign=>
     intro l x W K hK;simp only [pL]
     gi_wp2
     exact hK
    case body=>
     rintro l Ag x W ⟨⟨⟨v,hv,Al,_⟩,Aa,Ar⟩,hB⟩ Bu;have hc:=hv.cell;generalize hx:x.2.2=xc
     gi_wp2_with (gi_at_builtin;refine wpListIn_append_own _ rfl _ _ 32 rfl (wr.heap.size+1) 9 i0 (.string ByteArray.empty) 1 16 Tryz.underlying32 hi Bd Bg Ba rfl (by decide) _ _ _ rfl (Al.alloc _) ⟨W.heap.size,0,none⟩ 1 1 [.string xc] rfl rfl (cell_one_new _ _ _) (lQ [xc]) (by unfold maxLen;omega) (by omega) (by simp;omega) ?_;intro v' w1 Ab Ac _;obtain⟨g',Bv,rfl⟩:=ownsRow_succ Ab;obtain⟨Bh,Bo,Ca,Be,Az,Br⟩:=aGi hv (by decide) Al Ar (by omega) (Yh _) Ab Ac;have Cn:=Bh.cell;have Cd:=Bh.frozen)
     exact⟨Be.from _,Az,⟨⟨_,Bo,by rw [Zp,Yn];simpa [hx] using Ca,trivial⟩,Br Aa Bk,Nat.le_trans Ar Be.size⟩,hB.trans Az⟩
    case done=>
     rintro D ys W hD rfl ⟨⟨⟨v,hv,Al,_⟩,Aa,Ar⟩,hB⟩ hK;have hc:=hv.cell;have Bc:=(Yl.1 hK).1;obtain⟨A1,c1,rfl,Av,_⟩:=aN.of_own Aa (by omega);have Bj:(fG es).take k=fG es:=Yx (by rw [xB];omega);rw [Bj] at Av;rw [show(dT es).map (fun p=>Value.string p.2.2)=(dQ es).map Value.string by simp [dQ]] at Al;obtain⟨A2,c2,rfl,Bz,_⟩:=aN.of_own Al (by omega)
     by_cases ho:bP (fG es)=true
     . have HE:=Hd (show bP (dQ es)=kL es by simp [kL,ho])
       gi_wp2_with fail
       refine⟨trivial,(callsIn_wide.2 (qP A1 k c1 (fG es) _ Av Aw.nms (by omega))).mono ?_⟩;rw [ho];rintro e w3 ⟨rfl,Ae⟩;have Cl:=(Ae.cell (p:=⟨w.heap.size,0,none⟩) hv.lt).trans hc;have Aq:=(Ae.block D Bc).trans hK;have Bt:=Bz.below Ae;have Ap:=Hd (hB.trans (Ae.mono hB.size));have Cj:=Ae.size;clear Ae
       gi_wp2_with fail
       refine⟨trivial,(callsIn_wide.2 (qP A2 _ c2 (dQ es) _ Bt Aw.all (by omega))).mono ?_⟩;rw [HE.o];rintro e w4 ⟨rfl,As⟩;have Bb:=(As.block D (by omega)).trans Aq;have Bm:=Hd (Ap.o.trans (As.mono Ap.o.size));clear As
       gi_wp2_with fail
       refine⟨by simp,.inl ⟨_,_,rfl,run_takeDeferred Bb,?_⟩⟩;exact⟨_,results_tmp rfl _ _ _,rfl,Bm.o.trans (belowK_b (w:=w) (Yh _) _ D _ _ (by omega) Bb rfl rfl)⟩
     . have ho:bP (fG es)=false:=by simpa using ho
       have HE:=Hd (show false=kL es by simp [kL,ho])
       gi_wp2_with fail
       refine⟨trivial,(callsIn_wide.2 (qP A1 k c1 (fG es) _ Av Aw.nms (by omega))).mono ?_⟩;rw [ho];rintro e w3 ⟨rfl,Ae⟩;have Aq:=(Ae.block D Bc).trans hK;have Ap:=Hd (hB.trans (Ae.mono hB.size));clear Ae
       gi_wp2_with fail
       refine⟨trivial,?_⟩
       gi_wp2_with fail
       refine⟨by simp,.inl ⟨_,_,rfl,run_takeDeferred Aq,?_⟩⟩;rw [<- HE.o];exact⟨_,results_tmp rfl _ _ _,rfl,Ap.o.trans (belowK_b (w:=w) (Yh _) _ D _ _ (by omega) Aq rfl rfl)⟩
    case stop=>
     rintro D c Ag W _ _ h _;exact h.elim
theorem aEi(A:Option Addr) (Aa Ac:Nat) (es:List En) (w:World) (hE:bV w A Aa es) (Ad:jW es) (Ab:pO es):
 Calls Tryz.prog 135 #[.slice A Aa Ac] w fun e w'=>e=.returned (.bool (kL es))/\Below w.heap.size w w' :=
 callsIn_wide.1 (aHx 6 (Yh _) A Aa Ac es w hE Ad Ab)
end
section
open Go.RowKit
def nF(es:List En):Bool:=decide (4<es.length) || es.any fun e=>decide (6<e.2.length)
def sI(es:List En) (k:Nat):Prop:=∀ j,j<k->(bT es j).length<=6
def cV(es:List En):Int:=if nF es then 4 else if jJ es then(if kL es then 0 else 6) else 1
section
variable {es:List En}{k:Nat}
theorem aEj(h:k<es.length) (hb:6<(bT es k).length):nF es=true:=by
 unfold nF;rw [Bool.or_eq_true,List.any_eq_true];refine .inr ⟨es[k]'h,Zg h,?_⟩;rw [zB h];exact Zx hb
theorem aEk(h4:es.length<=4) (H:sI es k) (h:es.length<=k):nF es=false:=by
 unfold nF;rw [Bool.or_eq_false_iff,List.any_eq_false];refine⟨Zy (by omega),fun e he=>?_⟩;obtain⟨j,hj,rfl⟩:=Zi he;have:=H j (by omega);rw [zB hj];simp only [decide_eq_true_eq];omega
theorem aA8(H:sI es k) (h:(bT es k).length<=6):sI es (k+1):=fun j hj=>by
 rcases Nat.lt_or_ge j k with h1 | h1
 . exact H j h1
 . obtain rfl:j=k:=by omega
   exact h
end
theorem uV(A:Option Addr) (Ab Aj:Nat) (es:List En) (w:World) (hE:bV w A Ab es):
 Calls Tryz.prog 133 #[.slice A Ab Aj] w fun e w'=>e=.returned (.bool (nF es))/\Below w.heap.size w w':=by
 have Ad:=hE.len;have Aq:=hE.max
 by_cases h4:4<Ab
 . go_enter Tryz.func133,Tryz.ntmps133
   go_wp2_with fail
   go_ret
   exact⟨aF (by simp [nF,Ad,h4]),Yg _ _⟩
 . have An:decide ((4:Int)<(Ab:Int))=false:=Zy (by omega)
   go_enter Tryz.func133,Tryz.ntmps133
   go_wp2_with fail
   go_loopw [10] (fun i wr=>∃ k:Nat,k<=Ab/\i=.int .i64 k/\sI es k/\Below w.heap.size w wr) (fun i _=>Ab-(intOf i).toNat)
   case atStart=>exact⟨0,Yq _,rfl,fun j hj=>absurd hj (by omega),Yg _ _⟩
   case round=>
    obtain⟨k,hk,rfl,Ag,Aa⟩:=hrel;have HT:=Hd Ag;clear Ag
    by_cases Af:k<Ab
    . obtain⟨b,Ac,rfl,hb,hc⟩:=hE.at_ Af;obtain⟨Ak,A',n',c',Ai,Ae⟩:=hc k Af;have Ap:wr.cell? ⟨b,Ac+k*2,none⟩=some (.string (eK es k)):=(Aa.cell (p:=⟨b,Ac+k*2,none⟩) hb).trans Ak;have Ar:wr.cell? ⟨b,Ac+k*2+1,none⟩=some (.slice A' n' c'):=(Aa.cell (p:=⟨b,Ac+k*2+1,none⟩) hb).trans Ai;have Ah:k<es.length:=by omega
      have Ao:=Ae.len;have Am:=Ae.max
      by_cases h6:6<n'
      . have HE:=Hd (aEj Ah (by omega))
        go_wp2_with fail
        go_ret
        exact⟨aF HE.o.symm,Aa.alloc Aa.size _⟩
      . have HN:=Hd (aA8 HT.o (by omega));have Al:decide ((6:Int)<(n':Int))=false:=Zy (by omega)
        go_wp2_with fail
        go_roundw
        case rel=>exact⟨k+1,by omega,by go_num,HN.o,Aa.alloc Aa.size _⟩
        case measure=>simp [intOf];omega
    . go_wp2_with fail
      go_ret
      exact⟨aF (aEk (by omega) HT.o (by omega)).symm,Aa⟩
theorem aPe(A:Option Addr) (Ab Ac:Nat) (es:List En) (w:World) (hE:bV w A Ab es) (Ag:jW es) (Ai:pO es):
 Calls Tryz.prog 91 #[.slice A Ab Ac] w fun e w'=>e=.returned (.int .i64 (cV es))/\Below w.heap.size w w':=by
 have HE:=Hd hE;clear hE
 cases hm:nF es with
 | true=>
  have hN:=Hd (show(4:Int)=cV es by simp [cV,hm])
  go_enter Tryz.func91,Tryz.ntmps91
  go_wp2_with fail
  refine(uV A Ab Ac es w HE.o).mono ?_;rw [hm];rintro e w1 ⟨rfl,Aa⟩;have Ad:=Hd Aa;clear Aa
  go_wp2_with fail
  go_ret
  exact⟨cF hN.o,Ad.o⟩
 | false=>
  cases hn:jJ es with
  | false=>
   have hN:=Hd (show(1:Int)=cV es by simp [cV,hm,hn])
   go_enter Tryz.func91,Tryz.ntmps91
   go_wp2_with fail
   refine(uV A Ab Ac es w HE.o).mono ?_;rw [hm];rintro e w1 ⟨rfl,Aa⟩;have Ad:=Hd Aa;clear Aa
   go_wp2_with fail
   refine(xZ A Ab Ac es _ (HE.o.below Ad.o) Ag).mono ?_;rw [hn];rintro e w2 ⟨rfl,Ae⟩;have Af:=Hd (lP Ad.o Ae);clear Ae
   go_wp2_with fail
   go_ret
   exact⟨cF hN.o,Af.o⟩
  | true=>
   cases ha:kL es with
   | false=>
    have hN:=Hd (show(6:Int)=cV es by simp [cV,hm,hn,ha])
    go_enter Tryz.func91,Tryz.ntmps91
    go_wp2_with fail
    refine(uV A Ab Ac es w HE.o).mono ?_;rw [hm];rintro e w1 ⟨rfl,Aa⟩;have Ad:=Hd Aa;clear Aa
    go_wp2_with fail
    refine(xZ A Ab Ac es _ (HE.o.below Ad.o) Ag).mono ?_;rw [hn];rintro e w2 ⟨rfl,Ae⟩;have Af:=Hd (lP Ad.o Ae);clear Ae
    go_wp2_with fail
    refine(aEi A Ab Ac es _ (HE.o.below Af.o) Ag Ai).mono ?_;rw [ha];rintro e w3 ⟨rfl,Ah⟩;have Aj:=Hd (lP Af.o Ah);clear Ah
    go_wp2_with fail
    go_ret
    exact⟨cF hN.o,Aj.o⟩
   | true=>
    have hN:=Hd (show(0:Int)=cV es by simp [cV,hm,hn,ha])
    go_enter Tryz.func91,Tryz.ntmps91
    go_wp2_with fail
    refine(uV A Ab Ac es w HE.o).mono ?_;rw [hm];rintro e w1 ⟨rfl,Aa⟩;have Ad:=Hd Aa;clear Aa
    go_wp2_with fail
    refine(xZ A Ab Ac es _ (HE.o.below Ad.o) Ag).mono ?_;rw [hn];rintro e w2 ⟨rfl,Ae⟩;have Af:=Hd (lP Ad.o Ae);clear Ae
    go_wp2_with fail
    refine(aEi A Ab Ac es _ (HE.o.below Af.o) Ag Ai).mono ?_;rw [ha];rintro e w3 ⟨rfl,Ah⟩;have Aj:=Hd (lP Af.o Ah);clear Ah
    go_wp2_with fail
    go_ret
    exact⟨cF hN.o,Aj.o⟩
end
section
open Go.RowKit
theorem aN.news{w:World}{a:Addr}{n:Nat}{l:List ByteArray}(h:aN w (some a) n l) (j:Nat) (u:Value) (hu:(l.map Value.string)[j]?=some u):w.cell? (a.add j)=some u:=by
 have hj:j<l.length:=by
  rcases Nat.lt_or_ge j l.length with h | h
  . exact h
  . rw [List.getElem?_eq_none (by simpa using h)] at hu;cases hu
 obtain⟨b,Aa,e,_,hc⟩:=h.at_ (i:=j) (by rw [<- h.len];exact hj);injection e with e;subst e;have:=hc j (by rw [<- h.len];exact hj);have e2:(⟨b,Aa,none⟩:Addr).add j=⟨b,Aa+j,none⟩:=by unfold Addr.add;split <;> simp_all
 rw [e2,this,<- hu]
 simp [Yk hj]
section
variable {P:Program}{w:World}
theorem aGe{ops:Array Oper}{rest:List Oper}{o:Oper}{a:Act}{Q:Exit->Act->World->Prop}(Ag:o.guard=none) (s x:Operand) (t:TypeId)
 (ho:o.op=.call { callee:=.builtin .append,args:=#[s,x],argTypes:=#[t,t] })
 (base:Nat) (e:TypeId) (i:TypeInfo) (z:Value) (Aa:Nat) (ht:P.underlying t=some (.slice e)) (hi:P.info? e=some i) (hz:i.zero=some z)
 (Ad:i.size=1) (Aj:i.bytes=Aa) (Ah:z.cells.size=1)
 (v:Value) (n:Nat) (xs:List ByteArray) (hs:a.eval s=v) (Ac:w.ownsRow base e 1 v n (xs.map Value.string))
 (A:Option Addr) (m c:Nat) (l:List ByteArray) (hx:a.eval x=.slice A m c) (hr:aN w A m l)
 (Ai:n+m<=maxLen) (Ab:(n+m)*Aa<=140737488355328) (Ae:base<=w.heap.size)
 (h:∀ v' w',w'.ownsRow base e 1 v' (n+m) ((xs++l).map Value.string)->w.grownBy w' v.ownBlock->(v'.ownBlock=v.ownBlock\/v'.ownBlock=some w.heap.size)->wpList P ops Q rest (a.put o.dst v') w'):wpList P ops Q (o::rest) a w:=by
 rcases A with _ | ad
 . obtain rfl:m=0:=by
    rcases Nat.eq_zero_or_pos m with h0 | h0
    . exact h0
    . obtain⟨b,Ak,e,_⟩:=hr.at_ h0;cases e
   obtain rfl:l=[]:=Zq hr.len;refine wpList_plain Ag fun K hK=>?_;have Af:=vM (P:=P) (w:=w) base t o.type e i 1 ht hi v n _ Ac c;unfold Oper.wp
   simp [execOp,ho,resolve,invoke,builtin,hs,hx,Af,Result.andThen]
   exact hK _ _ (h v w (by simpa using Ac) (World.grownBy.refl w _) (.inl rfl))
 . exact wpList_append_own_at w Ag s x t ho base e i z 1 Aa ht hi hz Ad Aj Ah (by decide) v n _ hs Ac ad m c (l.map Value.string) hx (by simp [hr.len]) hr.news (lQ _) Ai Ab Ae fun v' w' h1 h2 _ h4=>h v' w' (by rw [Zp];exact h1) h2 h4
end
def kE(u v:Value):Prop:=∀ g,u.ownBlock=some g->v.ownBlock≠some g
theorem kE.kept1{u v v':Value}{n:Nat}(h:kE u v) (hl:v'.ownBlock=v.ownBlock\/v'.ownBlock=some n) (hu:∀ g,u.ownBlock=some g->g<n):kE u v':=fun g hg e=>by
 rcases hl with h1 | h1
 . exact h g hg (h1 ▸ e)
 . have:=hu g hg;rw [h1] at e
   cases e
   omega
theorem kE.symm{u v:Value}(h:kE u v):kE v u:=fun g hg e=>h g e hg
theorem kE.ne{u v:Value}(h:kE u v):u.ownBlock=none\/u.ownBlock≠v.ownBlock:=by
 rcases Aa:u.ownBlock with _ | g
 . exact .inl rfl
 . exact .inr fun e=>h g Aa e.symm
theorem aMo(A:Option Addr) (Aq Cx:Nat) (es:List En) (w:World) (hE:bV w A Aq es) (Cm:jW es) (Ba:pO es):
 Calls Tryz.prog 16 #[.slice A Aq Cx] w fun e w'=>e=.returned (.int .i64 (cV es))/\Below w.heap.size w w':=by
 have Bf:=hE.len;have Di:=hE.max
 by_cases h4:4<Aq
 . have hN:=Hd (show(4:Int)=cV es by simp [cV,nF,Bf,h4])
   go_enter Tryz.func16,Tryz.ntmps16
   go_wp2_with fail
   go_ret
   exact⟨cF hN.o,((Yg _ _).alloc (Yh _) _).alloc (by simp) _⟩
 . have Dg:decide ((4:Int)<(Aq:Int))=false:=Zy (by omega);obtain⟨i0,hi,Cg,Ck,Cb⟩:=info_parts oU;have Bn:=Hd ((World.ownsRow_lit (base:=w.heap.size) (e:=9) (size:=1) w #[] 0 (Yh _) (by decide) rfl).alloc (.cells #[] 9));have Bl:=Hd (World.ownsRow_lit (base:=w.heap.size) (e:=9) (size:=1) (w.alloc (.cells #[] 9)) #[] 0 (by simp) (by decide) rfl);have Bo:=Hd (((Yg w.heap.size w).alloc (Yh _) (.cells #[] 9)).alloc (by simp) (.cells #[] 9))
   go_enter Tryz.func16,Tryz.ntmps16
   go_wp2_with fail
   go_loopw [3,4,5] (fun v u i wr=>∃ k:Nat,k<=Aq/\i=.int .i64 k/\sI es k/\wr.ownsRow w.heap.size 9 1 v k (((fG es).take k).map Value.string)/\wr.ownsRow w.heap.size 9 1 u (iX es k).length ((iX es k).map Value.string)/\kE v u/\Below w.heap.size w wr) (fun _ _ i _=>Aq-(intOf i).toNat)
   case atStart=>
    refine⟨0,Yq _,rfl,fun j hj=>absurd hj (by omega),Bn.o,?_,?_,Bo.o⟩
    . have:=Bl.o
      simpa [iX,iZ] using this
    . intro g hg e
      simp [Value.ownBlock] at hg e
      omega
   case round=>
    obtain⟨k,hk,rfl,Bh,Ai,Ah,As,Ar⟩:=hrel;have HT:=Hd Bh;clear Bh
    by_cases Bz:k<Aq
    . obtain⟨b,Aj,rfl,hb,hc⟩:=hE.at_ Bz;obtain⟨Bk,A',n',c',Bb,Au⟩:=hc k Bz;have Cy:wr.cell? ⟨b,Aj+k*2,none⟩=some (.string (eK es k)):=(Ar.cell (p:=⟨b,Aj+k*2,none⟩) hb).trans Bk;have Ct:wr.cell? ⟨b,Aj+k*2+1,none⟩=some (.slice A' n' c'):=(Ar.cell (p:=⟨b,Aj+k*2+1,none⟩) hb).trans Bb;have Az:k<es.length:=by omega
      have Br:=Au.len;have Bp:=Au.max
      by_cases h6:6<n'
      . have HE:=Hd (show(4:Int)=cV es by simp [cV,aEj Az (show 6<(bT es k).length by omega)])
        go_wp2_with fail
        go_ret
        exact⟨cF HE.o,Ar⟩
      . have HN:=Hd (aA8 HT.o (show(bT es k).length<=6 by omega));have Dj:decide ((6:Int)<(n':Int))=false:=Zy (by omega);have Bx:=Hd (aB9 Az);have Dd:=Hd (vO es k);have De:=aAj (es:=es) (i:=k) fun j hj=>Ba.2 j (by omega);generalize Cs:eK es k=x at Cy Bx;have Cz:=Hd Au;have Cu:=Hd Bb;have Ae:=Hd Ar;have H3:=Hd Ai;have H4:=Hd Ah;have HA:=Hd As;have Db:=Ar.size;clear Ai Ah As Au Bn Bl Bo
        go_wp2_with (first
         | (at_builtin;refine wpList_append_own_at _ rfl _ _ 32 rfl w.heap.size 9 i0 (.string ByteArray.empty) 1 16 Tryz.underlying32 hi Cg Ck Cb rfl (by decide) _ _ _ rfl (H3.o.alloc _) ⟨wr.heap.size,0,none⟩ 1 1 [.string x] rfl rfl (cell_one_new _ _ _) (lQ [x]) (by unfold maxLen;omega) (by omega) (by simp;omega) ?_;intro v' w1 Ao Ad Bu Be;have Bi:=(Ae.o.alloc Db (.cells #[.string x] 9)).grown Ad (by simp;omega) (fun j hj=>(H3.o.lt j hj).1);have Ct:w1.cell? ⟨b,Aj+k*2+1,none⟩=some (.slice A' n' c'):=(Bi.cell (p:=⟨b,Aj+k*2+1,none⟩) hb).trans Cu.o;have HG:=Hd Ad;have HO:=Hd Ao;have HL:=Hd Be;have Bt:=Hd Bi;have Dh:=Bi.size;have Cq:=Ad.size;simp at Cq;clear Ad Ao Bu Be Bi;have Av:=Hd (Cz.o.keep Bt.o.size fun p hp=>Bt.o.cell hp);have Cl:=Hd ((H4.o.alloc (.cells #[.string x] 9)).kept HG.o HA.o.symm.ne))
         | (at_builtin;refine aGe rfl _ _ 32 rfl w.heap.size 9 i0 (.string ByteArray.empty) 16 Tryz.underlying32 hi Cg Ck Cb rfl _ _ (iX es k) rfl Cl.o A' n' c' (bT es k) rfl Av.o (by unfold maxLen;omega) (by omega) (by omega) ?_;intro v2 w2 Am Af An;have Ce:=Hd Af;have Cr:=Hd Am;have Cp:=Hd An;clear Af Am An))
        have Cv:=Hd (kE.kept1 (kE.kept1 HA.o.symm HL.o (fun g hg=>by have:=(H4.o.lt g hg).2;simp;omega)).symm Cp.o (fun g hg=>(HO.o.lt g hg).2))
        go_roundw
        case rel=>
         refine⟨k+1,by omega,by go_num,HN.o,?_,?_,Cv.o,?_⟩
         . rw [Bx.o,Zp];exact HO.o.kept Ce.o (kE.ne (kE.kept1 HA.o.symm HL.o (fun g hg=>by have:=(H4.o.lt g hg).2;simp;omega)).symm)
         . rw [Dd.o,Yn,Br];exact Cr.o
         . exact Bt.o.grown Ce.o (by omega) (fun j hj=>(Cl.o.lt j hj).1)
        case measure=>simp [intOf];omega
    . obtain rfl:k=Aq:=by omega
      have Ap:=aEk (by omega) HT.o (by omega);have Bv:(fG es).take k=fG es:=Yx (by rw [xB];omega);have Co:iX es k=dQ es:=by rw [<- Bf];exact aG1 es
      have Br:(dQ es).length<=96:=by have:=Ba.flat;simpa [dQ] using this
      rw [Bv] at Ai;rw [Co] at Ah;obtain⟨A1,c1,rfl,Cj,_⟩:=aN.of_own Ai (by omega);obtain⟨A2,c2,rfl,Ch,_⟩:=aN.of_own Ah (by omega);have Cn:=hE.below Ar;have Bw:=Hd Cn;have Av:=Hd Cj;have Bc:=Hd Ch;have Ae:=Hd Ar;have Aa:=Hd Ap;clear Ai Ah Cj Ch As Bn Bl Bo Bv Co Ap Ar hE Cn
      go_wp2_with fail
      go_loopw [6] (fun i wq=>∃ j:Nat,j<=k/\i=.int .i64 j/\rS es j/\Below wr.heap.size wr wq) (fun i _=>k-(intOf i).toNat)
      case atStart=>exact⟨0,Yq _,rfl,fun j hj=>absurd hj (by omega),Yg _ _⟩
      case round=>
       obtain⟨j,hj,rfl,Bh,Bj⟩:=hrel;have Bm:=Hd Bh;have Al:=Hd Bj;clear Bh
       by_cases Ci:j<k
       . obtain⟨b,Aj,rfl,hb,hc⟩:=(Bw.o.below Bj).at_ Ci;obtain⟨Bk,A',n',c',Bb,Au⟩:=hc j Ci;have Az:j<es.length:=by omega
         have Br:=Au.len;have Bp:=Au.max;have Aw:=Hd fun h=>aB8 Az h;have Bg:=Hd fun h1 h2=>zT Bm.o h1 h2;have Cd:=(Cm j Az).1;unfold maxLen at Cd;clear hc Bj;generalize Cs:eK es j=x at Bk Cd Aw Bg
         by_cases Ab:aX x.data.toList=true
         . rcases Nat.eq_zero_or_pos n' with hz | hz
           . have HE:=Hd (show(1:Int)=cV es by simp [cV,Aa.o,Aw.o (.inr (by omega))]);subst hz
             go_wp2_with fail
             refine(iY x _ (by omega)).mono ?_;rw [Ab];rintro e w3 ⟨rfl,Ak⟩;have Da:=(Ak.cell (p:=⟨b,Aj+j*2+1,none⟩) hb).trans Bb;have Bd:=Hd (lP (Ae.o.trans (Al.o.mono Ae.o.size)) (Ak.mono (Yh _)));clear Ak
             go_wp2_with fail
             go_ret
             exact⟨cF HE.o,Bd.o⟩
           . have HN:=Hd (Bg.o Ab (by omega));have Df:((n':Int)==0)=false:=by rw [Xa];omega
             go_wp2_with fail
             refine(iY x _ (by omega)).mono ?_;rw [Ab];rintro e w3 ⟨rfl,Ak⟩;have Da:=(Ak.cell (p:=⟨b,Aj+j*2+1,none⟩) hb).trans Bb;have Bd:=Hd (Al.o.trans (Ak.mono Al.o.size));clear Ak
             go_wp2_with fail
             go_roundw
             case rel=>exact⟨j+1,by omega,by go_num,HN.o,Bd.o⟩
             case measure=>simp [intOf];omega
         . have Ab:aX x.data.toList=false:=by simpa using Ab
           have HE:=Hd (show(1:Int)=cV es by simp [cV,Aa.o,Aw.o (.inl Ab)])
           go_wp2_with fail
           refine(iY x _ (by omega)).mono ?_;rw [Ab];rintro e w3 ⟨rfl,Ak⟩;have Bd:=Hd (Ae.o.trans ((Al.o.trans (Ak.mono Al.o.size)).mono Ae.o.size));clear Ak
           go_wp2_with fail
           go_ret
           exact⟨cF HE.o,Bd.o⟩
       . obtain rfl:j=k:=by omega
         have Bq:=Hd (aAm Bm.o (by omega));have Av:=Hd (Av.o.below Al.o);have Bc:=Hd (Bc.o.below Al.o);have Ae:=Hd (Ae.o.trans (Al.o.mono Ae.o.size));clear Bj Al Bw Bm
         go_wp2_with fail
         go_loopw [7] (fun i Cw=>∃ m:Nat,m<=(dQ es).length/\i=.int .i64 m/\(∀ q,q<m->kD ((dQ es)[q]?.getD ByteArray.empty)=true)/\Cw=wr) (fun i _=>(dQ es).length-(intOf i).toNat)
         case atStart=>exact⟨0,Yq _,rfl,fun q hq=>absurd hq (by omega),rfl⟩
         case round=>
          obtain⟨m,hm,rfl,Cf,rfl⟩:=hrel;have Ca:=Hd Cf;clear Cf
          by_cases Ag:m<(dQ es).length
          . obtain⟨b,Aj,rfl,hb,hc⟩:=Bc.o.at_ Ag;have Bp:=hc m Ag;have Cc:=Cm.all _ (show(dQ es)[m]?.getD ByteArray.empty∈dQ es by rw [Yk Ag];exact Zg _);unfold maxLen at Cc
            have HM:=Hd (show kD ((dQ es)[m]?.getD ByteArray.empty)=false->(dQ es).all kD=false from fun h=>by
             rw [List.all_eq_false];refine⟨_,Zg Ag,?_⟩;rw [Yk Ag] at h
             simpa using h)
            have HS:=Hd (show kD ((dQ es)[m]?.getD ByteArray.empty)=true->∀ q,q<m+1->kD ((dQ es)[q]?.getD ByteArray.empty)=true from fun h q hq=>by
             rcases Nat.lt_or_ge q m with h1 | h1
             . exact Ca.o q h1
             . obtain rfl:q=m:=by omega
               exact h)
            clear hc;generalize (dQ es)[m]?.getD ByteArray.empty=x at Bp Cc HM HS
            by_cases Ay:dY x.data.toList=true
            . have HS:=Hd (HS.o Ay)
              go_wp2_with fail
              refine(rR x _ (by omega)).mono ?_;rw [Ay];rintro e w3 ⟨rfl,rfl⟩
              go_wp2_with fail
              go_roundw
              case rel=>exact⟨m+1,by omega,by go_num,HS.o,(by first | trivial | rfl)⟩
              case measure=>simp [intOf];omega
            . have Ay:dY x.data.toList=false:=by simpa using Ay
              have HE:=Hd (show(1:Int)=cV es by simp [cV,Aa.o,jJ,HM.o Ay])
              go_wp2_with fail
              refine(rR x _ (by omega)).mono ?_;rw [Ay];rintro e w3 ⟨rfl,rfl⟩
              go_wp2_with fail
              go_ret
              exact⟨cF HE.o,Ae.o⟩
          . have Ac:jJ es=true:=by
             have h2:(dQ es).all kD=true:=by
              rw [Zf];intro s hs;obtain⟨q,hq,rfl⟩:=Zi hs;have:=Ca.o q (by omega);rwa [Yk hq] at this
             unfold jJ;rw [Bq.o,h2];rfl
            by_cases ho:bP (fG es)=true
            . by_cases Ax:bP (dQ es)=true
              . have HE:=Hd (show(0:Int)=cV es by simp [cV,Aa.o,Ac,kL,ho,Ax])
                go_wp2_with fail
                refine(mU A1 j c1 (fG es) _ Av.o (by omega)).mono ?_;rw [ho];rintro e w3 ⟨rfl,p,rfl⟩
                go_wp2_with fail
                refine(mU A2 _ c2 (dQ es) _ (Bc.o.drewN p) (by omega)).mono ?_;rw [Ax];rintro e w3 ⟨rfl,p2,rfl⟩
                go_wp2_with fail
                go_ret
                exact⟨cF HE.o,aY Ae.o (p+p2)⟩
              . have Ax:bP (dQ es)=false:=by simpa using Ax
                have HE:=Hd (show(6:Int)=cV es by simp [cV,Aa.o,Ac,kL,ho,Ax])
                go_wp2_with fail
                refine(mU A1 j c1 (fG es) _ Av.o (by omega)).mono ?_;rw [ho];rintro e w3 ⟨rfl,p,rfl⟩
                go_wp2_with fail
                refine(mU A2 _ c2 (dQ es) _ (Bc.o.drewN p) (by omega)).mono ?_;rw [Ax];rintro e w3 ⟨rfl,p2,rfl⟩
                go_wp2_with fail
                go_ret
                exact⟨cF HE.o,aY Ae.o (p+p2)⟩
            . have ho:bP (fG es)=false:=by simpa using ho
              have HE:=Hd (show(6:Int)=cV es by simp [cV,Aa.o,Ac,kL,ho])
              go_wp2_with fail
              refine(mU A1 j c1 (fG es) _ Av.o (by omega)).mono ?_;rw [ho];rintro e w3 ⟨rfl,p,rfl⟩
              go_wp2_with fail
              go_ret
              exact⟨cF HE.o,aY Ae.o p⟩
end
end Go.Proofs.YtegjgiofmpolnaaGreat
