/- A part of the proof. Conditions: each theorem's own. -/
import Derived.Test.YtkbpdoomhfkngaaGreatC03
import Derived.Test.YtkbpdoomhfkngaaGreatC05
namespace Go.Proofs.YtkbpdoomhfkngaaGreat
set_option linter.unusedVariables false
set_option linter.unusedSimpArgs false
set_option maxRecDepth 100000
set_option maxHeartbeats 40000000
section
open Go.RowKit Go.Shelf Go.Sort
theorem Yp:type_of% @Nat.le_trans:=@Nat.le_trans
theorem Zk:type_of% @AllReadyH.cons:=@AllReadyH.cons
theorem Zl:type_of% @AllReadyH.nil:=@AllReadyH.nil
theorem Xf:type_of% @wpAnyH_ready:=@wpAnyH_ready
end
section
open Go.RowKit
def rX(d:Dc):Bool:=!decide (100<d.nm.size) && !decide (100<d.on.size) && !decide (100<d.ct.size)
def kD(l:List Dc):Bool:=l.all rX && decide (l.length<=20)
theorem qQ{α:Type}[Inhabited α]{f:α->Bool}{l:List α}{k:Nat}(h:(l.take k).all f=true)(hk:k<l.length)(hf:f (l[k]?.getD default)=true):(l.take (k+1)).all f=true:=by
 rw[List.take_add_one,Yk hk,List.all_append,h];rw[Yk hk]at hf;simpa using hf
theorem oI{α:Type}[Inhabited α]{f:α->Bool}{l:List α}{k:Nat}(hk:k<l.length)(hf:f (l[k]?.getD default)=false):l.all f=false:=by
 rw[Yk hk]at hf;rw[List.all_eq_false];exact⟨_,Zh hk,by simpa using hf⟩
theorem bCo(A:Option Addr)(n c:Nat)(l:List Dc)(w:World)(h:bZ w A n l):
 Calls Tryz.prog 13 #[.slice A n c] w fun e w'=>e=.returned (.bool (kD l))/\w=w':=by
 have Aq:=h.len;have Bp:=h.max;have HL:=Hd Aq;go_in
 go_wp2_with fail;go_loop [3] (fun i=>∃k:Nat,k<=n/\i=.int .i64 k/\(l.take k).all rX=true) (fun i=>n-(intOf i).toNat)
 case atStart=>exact⟨0,Yq _,rfl,by simp⟩
 case round=>
  obtain⟨k,hk,rfl,Bc⟩:=hrel;have HT:=Hd Bc;clear Bc;by_cases Ah:k<n
  . obtain⟨b,off,rfl,hb,hc⟩:=aI.at_ h aA;obtain⟨c0,-,-,-,c4,c5⟩:=(hc k Ah).six;clear hc;have HS:=Hd fun hf=>qQ (l:=l) (f:=rX) HT.o wH hf;have HN:=Hd fun hf=>oI (l:=l) (f:=rX) (k:=k) wH hf;generalize l[k]?.getD default=d at c0 c4 c5 HS HN;have HD:=Hd (show rX d=(!decide (100<d.nm.size) && !decide (100<d.on.size) && !decide (100<d.ct.size))from rfl);generalize d.nm=x0 at *;generalize d.on=x1 at *;generalize d.ct=x2 at *;cases d0:decide ((100:Int)<(x0.size:Int))with
    |true=>
     have Dg:=Hd (HN.o (by rw[HD.o,show decide (100<x0.size)=true by have:=of_decide_eq_true d0;exact Zy aA];simp));exact aEg
    |false=>
     cases d1:decide ((100:Int)<(x1.size:Int))with
     |true=>
      have Dg:=Hd (HN.o (by rw[HD.o,show decide (100<x1.size)=true by have:=of_decide_eq_true d1;exact Zy aA];simp));exact aEg
     |false=>
      cases d2:decide ((100:Int)<(x2.size:Int))with
      |true=>
       have Dg:=Hd (HN.o (by rw[HD.o,show decide (100<x2.size)=true by have:=of_decide_eq_true d2;exact Zy aA];simp));exact aEg
      |false=>
       have HY:=Hd (HS.o (by
        have h0:=of_decide_eq_false d0;have h1:=of_decide_eq_false d1;have h2:=of_decide_eq_false d2;rw[HD.o,Zz (show ¬100<x0.size by omega),Zz (show ¬100<x1.size by omega),Zz (show ¬100<x2.size by omega)]
        rfl))
       go_wp2_with fail;go_round
       case rel=>exact⟨k+1,by omega,by go_num,HY.o⟩
       case measure=>simp[intOf];omega
  . have Im:k=n:=by omega
    subst Im;have HY:=Hd (show l.all rX=true by have:=HT.o;rwa[Yx (by rw[HL.o];exact Yh _)]at this);have HE:=Hd (show kD l=decide ((k:Int)<=20)by rw[kD,HY.o,Bool.true_and,HL.o];simp;omega);go_wp2_with fail;go_ret;exact⟨aL HE.o.symm,rfl⟩
end
section
open Go.RowKit Go.Shelf
attribute [local go_sem] Oper.semAt_some
def uH(e:En):Bool:=bE e.1.data.toList && !e.2.isEmpty
def lJ(s:ByteArray):Bool:=eU s.data.toList
def kM(es:List En):Bool:=es.all uH && (eO es).all lJ
def vF(es:List En)(k:Nat):Prop:=∀j,j<k->bE (fK es j).data.toList=true/\0<(cM es j).length
section
variable {es:List En}{k:Nat}
theorem aEu(h:k<es.length):es[k]'h=(fK es k,cM es k):=by
 simp[fK,cM,Yk h]
theorem aLk(h:k<es.length):uH (es[k]'h)=(bE (fK es k).data.toList && decide (0<(cM es k).length)):=by
 rw[aEu h];unfold uH;cases cM es k<;>simp
theorem aIb(h:k<es.length)(hb:bE (fK es k).data.toList=false\/(cM es k).length=0):kM es=false:=by
 have:es.all uH=false:=by
  rw[List.all_eq_false];refine⟨es[k]'h,Zh h,?_⟩;rw[aLk h];rcases hb with h|h<;>simp[h]
 unfold kM;rw[this,Bool.false_and]
theorem aGj(H:vF es k)(h:es.length<=k):es.all uH=true:=by
 rw[Zg];intro e he;obtain⟨j,hj,rfl⟩:=Zj he
 have:=H j aA
 rw[aLk hj,this.1,Zy this.2];rfl
theorem aF2(H:vF es k)(h1:bE (fK es k).data.toList=true)(h2:0<(cM es k).length):vF es (k+1):=fun j hj=>by
 rcases Nat.lt_or_ge j k with h|h;· exact H j h
 . obtain rfl:j=k:=by omega
   exact⟨h1,h2⟩
theorem aV4(h:es.all uH=true)(hp:∀p∈eM es,lJ p.2.2=true):kM es=true:=by
 unfold kM;rw[h,Bool.true_and,Zg];intro s hs;obtain⟨p,Aq,rfl⟩:=List.mem_map.1 hs;exact hp p Aq
theorem aZd{ini:List Pl}{x:Pl}(hp:ini++[x] <+:eM es)(hx:lJ x.2.2=false):kM es=false:=by
 unfold kM;have hm:x∈eM es:=hp.subset aG
 have:(eO es).all lJ=false:=by
  rw[List.all_eq_false];exact⟨x.2.2,List.mem_map.2 ⟨x,hm,rfl⟩,by simp[hx]⟩
 rw[this,Bool.and_false]
theorem lC.flat(h:lC es):∀p∈eM es,p.2.2.size<=maxLen:=by
 intro p hp;have h1:p.2.2∈jU es es.length:=List.mem_map.2 ⟨p,hp,rfl⟩;obtain⟨j,hj,hm⟩:=aS8 h1;exact(h j hj).2 _ hm
end
theorem aKi(w:World)(u v:Value)(T:TypeId):(w.alloc (.cells #[u,v] T)).cell? ⟨w.heap.size,1,none⟩=some v:=(lD.new w T u v).c1
theorem aT5(n:Nat)(hn:6<=n)(A:Option Addr)(len cap:Nat)(es:List En)(w:World)(hE:bU w A len es)(Eu:lC es):
 CallsIn Fence.wide n Tryz.prog 95 #[.slice A len cap] w fun e w'=>e=.returned (.bool (kM es))/\Below w.heap.size w w':=by
 have h1:1<=n:=aA;have Oe:=hE.len;have Ol:=hE.max;refine callsIn_of_wp_marks Tryz.func95 rfl trivial ?_ rfl;simp only[Tryz.ntmps95,List.size_toArray,Yo,List.length_nil,Nat.reduceAdd,Nat.reduceSub,Array.replicate_succ,Array.replicate_zero,List.push_toArray,List.append_toArray,List.nil_append,Yv];gi_wp2_with fail;gi_loopw [9] (fun i wr=>∃k:Nat,k<=len/\i=.int .i64 k/\vF es k/\Boxed wr w.heap.size 4 (.bool false)/\Below w.heap.size w wr)
  (fun i _=>len-(intOf i).toNat)
 case atStart=>exact⟨0,Yq _,rfl,fun j hj=>absurd hj aA,Boxed.new _ _ _,(Yg _ _).alloc (Yh _) _⟩
 case round=>
  obtain⟨k,hk,rfl,Bc,Cp,Ba⟩:=hrel;have HT:=Hd Bc;clear Bc;by_cases Ah:k<len
  . obtain⟨b,off,rfl,hb,hc⟩:=hE.at_ Ah;obtain⟨Ga,A',n',c',Og,Oc⟩:=hc k Ah;have hn1:wr.cell? ⟨b,off+k*2,none⟩=some (.string (fK es k)):=(Ba.cell (p:=⟨b,off+k*2,none⟩) hb).trans Ga;have Om:wr.cell? ⟨b,off+k*2+1,none⟩=some (.slice A' n' c'):=(Ba.cell (p:=⟨b,off+k*2+1,none⟩) hb).trans Og;have Oa:k<es.length:=aA;have Oo:=Oc.len;have Ok:=Oc.max;have Bx:=Hd fun h=>aIb Oa h;have Cf:=Hd fun h1 h2=>aF2 HT.o h1 h2;have Nx:=(Eu k Oa).1;unfold maxLen at Nx;generalize Oi:fK es k=x at hn1 Nx Bx Cf;by_cases Aq:bE x.data.toList=true
    . rcases Nat.eq_zero_or_pos n' with hz|hz
      . have HE:=Hd (Bx.o (.inr aA));subst hz;gi_wp2_with fail;refine⟨trivial,(callsIn_wide.2 (jJ x _ aA)).mono ?_⟩;rw[Aq];rintro e w3 ⟨rfl,Ak⟩;have d1:=(Ak.cell (p:=⟨wr.heap.size,1,none⟩) aG).trans (aKi wr _ _ _);have Hg:=uK (Cp.alloc (.cells #[.string x,.slice A' 0 c'] 66)) Ak aFc;have HX:=Hd Hg;have e2:=Hg.cell;have f2:=Hg.frozen;have Ax:=Hd ((Ba.alloc Ba.size (.cells #[.string x,.slice A' 0 c'] 66)).trans (Ak.mono wF));exact aMe
      . have HN:=Hd (Cf.o Aq aA);have On:((n':Int)==0)=false:=mV;gi_wp2_with fail;refine⟨trivial,(callsIn_wide.2 (jJ x _ aA)).mono ?_⟩;rw[Aq];rintro e w3 ⟨rfl,Ak⟩;have d1:=(Ak.cell (p:=⟨wr.heap.size,1,none⟩) aG).trans (aKi wr _ _ _);have Hg:=uK (Cp.alloc (.cells #[.string x,.slice A' n' c'] 66)) Ak aFc;have HX:=Hd Hg;have Ax:=Hd ((Ba.alloc Ba.size (.cells #[.string x,.slice A' n' c'] 66)).trans (Ak.mono wF));clear Ak Hg;gi_wp2_with fail;go_roundw;case rel=>exact⟨k+1,by omega,by go_num,HN.o,HX.o,Ax.o⟩
        case measure=>simp[intOf];omega
    . have Aq:bE x.data.toList=false:=by simpa using Aq
      have HE:=Hd (Bx.o (.inl Aq));gi_wp2_with fail;refine⟨trivial,(callsIn_wide.2 (jJ x _ aA)).mono ?_⟩;rw[Aq];rintro e w3 ⟨rfl,Ak⟩;have Hg:=uK (Cp.alloc (.cells #[.string x,.slice A' n' c'] 66)) Ak aFc;have HX:=Hd Hg;have e2:=Hg.cell;have f2:=Hg.frozen;have Ax:=Hd ((Ba.alloc Ba.size (.cells #[.string x,.slice A' n' c'] 66)).trans (Ak.mono wF));exact aMe
  . obtain rfl:k=len:=by omega
    have Dl:=Hd (aGj HT.o aA);have Of:=Ba;clear HT;gi_wp2_with fail;refine⟨trivial,(callsIn_wide.2 (aC6 _ _ _ _)).mono ?_⟩;rintro e w' ⟨rfl,rfl⟩;gi_wp2_with fail;have b4:=Boxed.new wr 22 (.slice A k cap);have Nt:=Cp.alloc (.cells #[.slice A k cap] 22);have Nv:=Ba.alloc Ba.size (.cells #[.slice A k cap] 22);have Al:(wr.alloc (.cells #[.slice A k cap] 22)).heap.size=wr.heap.size+1:=aG;have Oq:=Cp.lt;have Oj:=Ba.size;obtain⟨W0,Ny⟩:∃W0,wr.alloc (.cells #[.slice A k cap] 22)=W0:=⟨_,rfl⟩;rw[Ny]at b4 Nt Nv Al⊢;clear Ny;refine wpIn_rangeFunc_ownG rfl h1 (gf:=164) (lb:=#[.pointer (some ⟨wr.heap.size,0,none⟩)]) rfl trivial (enters_of Tryz.func164 aC rfl)
     (aSn (n-1) aA wr.heap.size w A k cap es hE W0 Nv aA b4.cell) belowK_t (belowK_b aA) (Yg _ _) (fun _=>rfl)
     (fun Jx W=>(Boxed W w.heap.size 4 (.bool false)/\∀p∈Jx,lJ p.1.2.2=true)/\Below w.heap.size w W)
     (fun c Jx W=>((c=.ret/\∃ini Bp,Jx=ini++[Bp]/\lJ Bp.1.2.2=false)/\Boxed W w.heap.size 4 (.bool false))/\Below w.heap.size w W)
     (OwnFrom.and (OwnFrom.and (Own.from (boxed_own _ _ (fun _=>_)) _) (ownFrom_pure _ _)) (ownFrom_below (Yh _) aA))
     (fun c=>OwnFrom.and (OwnFrom.and (ownFrom_pure _ _) (Own.from (boxed_own _ _ (fun _=>_)) _)) (ownFrom_below (Yh _) aA))
     ⟨⟨Nt,by simp⟩,Nv⟩
     (fun x=>{ tmps:=#[.slice A k cap,undef,.pointer (some ⟨w.heap.size,0,none⟩),undef,u4,undef,.string x.1.2.2,.slice A k cap,.int .i64 k,.int .i64 k,.bool false,u11,u12,u13,u14,u15,u16,u17,u18,u19,u20,u21,u22,u23,.slice A k cap,.func (.func 164) #[] #[.pointer (some ⟨wr.heap.size,0,none⟩)],.agg #[.int .i64 (x.1.1:Int),.int .i64 (x.1.2.1:Int)],.string x.1.2.2,undef,undef,undef],defers:=[] }) ?assign ?body ?done ?stop
    case assign=>
     intro l x W K hK;simp only[rW];gi_wp2;exact hK
    case body=>
     rintro l Jx ⟨⟨xi,xk,xc⟩,hx⟩ W ⟨⟨hb,hp⟩,hB⟩ Ah;have Ob:=Eu.flat _ hx;dsimp only at Ob;unfold maxLen at Ob;have e1:=hb.cell;have f1:=hb.frozen;have hd:1<=n-1-1:=aA;have Od:=Hd (show lJ xc=eU xc.data.toList from rfl);by_cases Hj:eU xc.data.toList=true
     . gi_wp2_with fail;refine⟨trivial,(CallsIn.inRound l (callsIn_wide.2 (vL xc _ aA))).mono ?_⟩;rw[Hj];rintro e w3 ⟨rfl,Ak⟩;have Ax:=Hd Ak;clear Ak;gi_wp2_with fail;exact⟨aF0 Ax.o,Ax.o.mono hB.size,⟨uK hb Ax.o hb.lt,fun p Nu=>(Zo.1 Nu).elim (hp p) (fun e=>by simp at e;subst e;exact Od.o.trans Hj)⟩,hB.tr Ax.o⟩
     . have Hj:eU xc.data.toList=false:=by simpa using Hj
       gi_wp2_with fail;refine⟨trivial,(CallsIn.inRound l (callsIn_wide.2 (vL xc _ aA))).mono ?_⟩;rw[Hj];rintro e w3 ⟨rfl,Ak⟩;have Ax:=Hd Ak;clear Ak;have Ia:=uK hb Ax.o hb.lt;have e2:=Ia.cell;have f2:=Ia.frozen;gi_wp2_with fail;exact⟨((aF0 Ax.o).trans ((KeepsOthers.setCell _ _ _).from _)),⟨⟨rfl,Jx,_,rfl,Od.o.trans Hj⟩,Ia.set (.bool false)⟩,(hB.tr Ax.o).setCell (p:=⟨w.heap.size,0,none⟩) (Yh _) _⟩
    case done=>
     rintro D ys W hD Oh ⟨⟨hb,hp⟩,hB⟩ hK;have e1:=hb.cell;have f1:=hb.frozen;gi_wp2;have Nz:=(KeepsOthers.setCell W ⟨w.heap.size,0,none⟩ (.bool true)).same D _ hK rfl;have k1:=((hb.set (.bool true)).kept (grownBy_putObj' _ D (.deferred none)) (fun e=>by cases e;omega)).cell;refine⟨by simp,.inl ⟨_,_,rfl,run_takeDeferred Nz,?_⟩⟩;refine⟨.bool true,?_,by rw[aV4 Dl.o fun p Nu=>by rw[<-Oh]at Nu;obtain⟨q,hq,rfl⟩:=List.mem_map.1 Nu;exact hp q hq],(hB.setCell (p:=⟨w.heap.size,0,none⟩) (Yh _) _).trans (belowK_b (w:=w) (Yh _) _ D _ _ aA Nz rfl rfl)⟩;simp[results,Tryz.f95,go_sem,k1]
    case stop=>
     rintro D c Jx W hD Nw ⟨⟨⟨rfl,ini,Bp,rfl,hl⟩,hb⟩,hB⟩ hK;gi_wp2;have k1:=(hb.kept (grownBy_putObj' _ D (.deferred none)) (fun e=>by cases e;omega)).cell;refine⟨by simp,.inl ⟨_,_,rfl,run_takeDeferred hK,?_⟩⟩;refine⟨.bool false,?_,by rw[aZd (ini:=ini.map (·.1)) (x:=Bp.1) (by simpa using Nw) hl],hB.trans (belowK_b (w:=w) (Yh _) _ D _ _ aA hK rfl rfl)⟩;simp[results,Tryz.f95,go_sem,k1]
theorem aKj(A:Option Addr)(len cap:Nat)(es:List En)(w:World)(hE:bU w A len es)(Eu:lC es):
 Calls Tryz.prog 95 #[.slice A len cap] w fun e w'=>e=.returned (.bool (kM es))/\Below w.heap.size w w':=
 callsIn_wide.1 (aT5 6 (Yh _) A len cap es w hE Eu)
end
section
open Go.RowKit Go.Shelf
attribute [local go_sem] Oper.semAt_some
def gJ(es:List En):List ByteArray:=es.map (·.1)
def lT(es:List En):Bool:=cH (gJ es) && cH (eO es)
def rY(es:List En):Prop:=es.length<=8/\∀j,j<es.length->(cM es j).length<=12
section
variable {es:List En}
theorem rY.flat(h:rY es):(eM es).length<=96:=by
 have h1:=aGa (es:=es) (i:=es.length) h.2;have h2:(jU es es.length).length=(eM es).length:=by simp[jU,eM]
 have:=h.1
 omega
theorem lC.nms(h:lC es):∀s∈gJ es,s.size<=maxLen:=by
 intro s hs;obtain⟨e,he,rfl⟩:=List.mem_map.1 hs;obtain⟨j,hj,rfl⟩:=Zj he
 have:=(h j hj).1
 unfold fK at this;exact vT
theorem lC.all(h:lC es):∀s∈eO es,s.size<=maxLen:=by
 intro s hs;obtain⟨p,hp,rfl⟩:=List.mem_map.1 hs;exact h.flat p hp
theorem aCh:(gJ es).length=es.length:=by simp[gJ]
theorem aIc{k:Nat}(h:k<es.length):(gJ es).take (k+1)=(gJ es).take k++[fK es k]:=by
 rw[xJ (by rw[aCh];exact h)];unfold gJ;rw[bFo]
end
theorem aSs(w:World)(o:Obj)(v:Value)(T:TypeId)(h:o.isCells=true\/True):∀j u,[v][j]?=some u->((w.alloc o).alloc (.cells #[v] T)).cell? ((⟨w.heap.size+1,0,none⟩:Addr).add j)=some u:=by
 have:=cell_one_new (w.alloc o) v T
 simpa using this
theorem bCp{β:Type}(base:Nat)(e:TypeId)(size:Nat)(v:Value)(k:Nat)(xs:List Value):Own (fun(_:β) W=>W.ownsRow base e size v k xs):=fun s X Y row hs hg Ao=>by
 refine hs.kept hg ?_;rcases hs.2 with⟨rfl,_⟩|⟨g,cap,cur,rfl,_,hgb,_⟩;· exact .inl rfl
 . refine .inr fun e'=>?_;obtain⟨o,ho,hc⟩:=Ao g (by simpa[Value.ownBlock]using e'.symm);rw[hgb]at ho;cases ho;cases hc
theorem aSo{W w1:World}{n₀ m₀ B:Nat}{t e:TypeId}{size:Nat}{v v':Value}{k m:Nat}{xs ys:List Value}{Aq:Obj}
 (hv:Boxed W B t v)(Bx:t≠e)(Ao:W.ownsRow n₀ e size v k xs)(Nt:n₀<=W.heap.size)(hm:m₀<=n₀)(hB:m₀<=B)
 (Bb:w1.ownsRow n₀ e size v' m ys)(Ar:(W.alloc Aq).grownBy w1 v.ownBlock):
 Boxed w1 B t v/\Boxed (w1.setCell ⟨B,0,none⟩ v') B t v'/\(w1.setCell ⟨B,0,none⟩ v').ownsRow n₀ e size v' m ys/\KeepsOthers W (w1.setCell ⟨B,0,none⟩ v')/\Below m₀ W (w1.setCell ⟨B,0,none⟩ v')/\
  ∀{base sz:Nat}{u:Value}{ku:Nat}{us:List Value},W.ownsRow base e sz u ku us->(∀g,u.ownBlock=some g->g<n₀)->(w1.setCell ⟨B,0,none⟩ v').ownsRow base e sz u ku us:=by
 have Bp:Boxed w1 B t v:=(hv.alloc Aq).kept Ar (hv.not_row Bx Ao);refine⟨Bp,Bp.set v',Bb.kept (grownBy_setCell' w1 B v') (.inr (Bp.not_row Bx Bb).symm),?_,?_,?_⟩
 . refine((KeepsOthers.alloc W Aq).trans (KeepsOthers.of_grownBy Ar fun j o ej hj=>?_)).trans (KeepsOthers.setCell _ _ _);rcases(Ao.alloc Aq).2 with⟨rfl,_⟩|⟨g,cap,cur,rfl,_,hgb,_⟩;· simp[Value.ownBlock]at ej
   . obtain rfl:g=j:=by simpa[Value.ownBlock]using ej
     rw[hgb]at hj;cases hj;rfl
 . refine(((Yg m₀ W).alloc aA Aq).grown Ar dA fun j ej=>?_).setCell (p:=⟨B,0,none⟩) hB v'
   have:=(Ao.lt j ej).1
   omega
 . intro base sz u ku us hu Ah
   have h2:w1.ownsRow base e sz u ku us:=(hu.alloc Aq).kept Ar (by
    rcases Jx:u.ownBlock with _|g;· exact .inl rfl
    . refine .inr fun e'=>?_;have h3:=Ah g Jx;have h4:=(Ao.lt g e'.symm).1
      omega)
   exact h2.kept (grownBy_setCell' w1 B v') (.inr (Bp.not_row Bx h2).symm)
theorem aT6(n:Nat)(hn:6<=n)(A:Option Addr)(len cap:Nat)(es:List En)(w:World)(hE:bU w A len es)(Eu:lC es)(De:rY es):
 CallsIn Fence.wide n Tryz.prog 96 #[.slice A len cap] w fun e w'=>e=.returned (.bool (lT es))/\Below w.heap.size w w':=by
 have h1:1<=n:=aA;have Oh:=hE.len;have Oz:=hE.max;have Ov:=De.1;obtain⟨i0,hi,Ob,Of,Cu⟩:=info_parts qT;refine callsIn_of_wp_marks Tryz.func96 rfl trivial ?_ rfl;simp only[Tryz.ntmps96,List.size_toArray,Yo,List.length_nil,Nat.reduceAdd,Nat.reduceSub,Array.replicate_succ,Array.replicate_zero,List.push_toArray,List.append_toArray,List.nil_append,Yv];gi_wp2_with fail;gi_loopw [3,11] (fun v i wr=>∃k:Nat,k<=len/\i=.int .i64 k/\wr.ownsRow (w.heap.size+1) 9 1 v k (((gJ es).take k).map Value.string)/\Boxed wr w.heap.size 49 (.slice none 0 0)/\Below w.heap.size w wr)
  (fun _ i _=>len-(intOf i).toNat)
 case atStart=>exact⟨0,Yq _,rfl,World.ownsRow_nil _ _ _ _,Boxed.new _ _ _,(Yg _ _).alloc (Yh _) _⟩
 case round=>
  obtain⟨k,hk,rfl,Ao,Cp,Ba⟩:=hrel;have On:=Cp.lt;by_cases Ah:k<len
  . obtain⟨b,off,rfl,hb,hc⟩:=hE.at_ Ah;obtain⟨Ga,A',n',c',Oj,Pb⟩:=hc k Ah;have hn1:wr.cell? ⟨b,off+k*2,none⟩=some (.string (fK es k)):=(Ba.cell (p:=⟨b,off+k*2,none⟩) hb).trans Ga;have Pa:wr.cell? ⟨b,off+k*2+1,none⟩=some (.slice A' n' c'):=(Ba.cell (p:=⟨b,off+k*2+1,none⟩) hb).trans Oj;have Oo:k<es.length:=aA;have Od:=Hd (aIc Oo);generalize Ow:fK es k=x at hn1 Od;gi_wp2_with (gi_at_builtin;refine wpListIn_append_own _ rfl _ _ 49 rfl (w.heap.size+1) 9 i0 (.string ByteArray.empty) 1 16 Tryz.underlying49 hi Ob Of Cu rfl bS _ _ _ rfl ((Ao.alloc _).alloc _) ⟨wr.heap.size+1,0,none⟩ 1 1 [.string x] rfl rfl (aSs _ _ _ _ (.inr trivial)) (oG [x]) dP aA dA ?_;intro v' w1 Bb Ar _);have HO:=Hd Bb;have Bx:=(Cp.alloc (.cells #[.string x,.slice A' n' c'] 66)).alloc (.cells #[.string x] 9);have Ac:=Hd (Bx.kept Ar (Bx.not_row bS ((Ao.alloc _).alloc _)));have HG:=Hd ((((Ba.alloc Ba.size (.cells #[.string x,.slice A' n' c'] 66))).alloc wF (.cells #[.string x] 9)).grown Ar wF (fun j hj=>by have:=(Ao.lt j hj).1;omega));clear Bb Ar Bx Ao;go_roundw;case rel=>exact⟨k+1,by omega,by go_num,by rw[Od.o,Zq];exact HO.o,Ac.o,HG.o⟩
    case measure=>simp[intOf];omega
  . obtain rfl:k=len:=by omega
    gi_wp2_with fail;refine⟨trivial,(callsIn_wide.2 (aC6 _ _ _ _)).mono ?_⟩;rintro e w' ⟨rfl,rfl⟩;gi_wp2_with fail;have b4:=Boxed.new wr 22 (.slice A k cap);have Nt:=Cp.alloc (.cells #[.slice A k cap] 22);have Aq:=Ao.alloc (.cells #[.slice A k cap] 22);have Nv:=Ba.alloc Ba.size (.cells #[.slice A k cap] 22);have Al:(wr.alloc (.cells #[.slice A k cap] 22)).heap.size=wr.heap.size+1:=aG;have Pe:=Cp.lt;have Oy:=Ba.size;have Ol:∀g,u3.ownBlock=some g->g<wr.heap.size+1:=fun g hg=>by have:=(Ao.lt g hg).2;omega
    have Oq:=De.flat;obtain⟨W0,Oe⟩:∃W0,wr.alloc (.cells #[.slice A k cap] 22)=W0:=⟨_,rfl⟩;rw[Oe]at b4 Nt Aq Nv Al⊢;clear Oe Ao Cp Ba;refine wpIn_rangeFunc_ownG rfl h1 (gf:=164) (lb:=#[.pointer (some ⟨wr.heap.size,0,none⟩)]) rfl trivial (enters_of Tryz.func164 aC rfl)
     (aF1 (n-1) aA wr.heap.size w A k cap es hE W0 Nv aA b4.cell) belowK_t (belowK_b aA) (Yg _ _) (fun _=>rfl)
     (fun Bp W=>((∃v,Boxed W w.heap.size 49 v/\W.ownsRow (wr.heap.size+1) 9 1 v Bp.length (Bp.map fun p=>Value.string p.2.2)/\True)/\W.ownsRow (w.heap.size+1) 9 1 u3 k (((gJ es).take k).map Value.string)/\wr.heap.size+1<=W.heap.size)/\Below w.heap.size w W)
     (fun _ _ _=>False)
     (OwnFrom.and (OwnFrom.and (Own.from (holdsRow_own (wr.heap.size+1) w.heap.size 49 9 1 (fun(Bp:List Pl)=>Bp.length) (fun(Bp:List Pl)=>Bp.map fun p=>Value.string p.2.2) (fun _ _=>True)) _) (OwnFrom.and (Own.from (bCp _ _ _ _ _ _) _) (fun s X Y row hs hg hr=>Yp hs hg.size))) (ownFrom_below (Yh _) aA))
     (fun _ _ _ _ _ hs _ _=>hs)
     ⟨⟨⟨_,Nt,World.ownsRow_nil _ _ _ _,trivial⟩,Aq,by omega⟩,Nv⟩
     (fun x=>{ tmps:=#[.slice A k cap,undef,.bool false,u3,.pointer (some ⟨w.heap.size,0,none⟩),undef,u6,undef,.string x.2.2,.slice A k cap,.int .i64 k,.int .i64 k,.bool false,u13,u14,u15,u16,u17,u18,u19,u20,.slice A k cap,.func (.func 164) #[] #[.pointer (some ⟨wr.heap.size,0,none⟩)],.agg #[.int .i64 (x.1:Int),.int .i64 (x.2.1:Int)],.string x.2.2,undef,undef,undef,undef,undef,undef,undef,undef,undef,undef],defers:=[] }) ?assign ?body ?done ?stop
    case assign=>
     intro l x W K hK;simp only[rW];gi_wp2;exact hK
    case body=>
     rintro l Bp x W ⟨⟨⟨v,hv,Jx,_⟩,Ao,Nw⟩,hB⟩ Ot;have hc:=hv.cell;generalize hx:x.2.2=xc;gi_wp2_with (gi_at_builtin;refine wpListIn_append_own _ rfl _ _ 49 rfl (wr.heap.size+1) 9 i0 (.string ByteArray.empty) 1 16 Tryz.underlying49 hi Ob Of Cu rfl bS _ _ _ rfl (Jx.alloc _) ⟨W.heap.size,0,none⟩ 1 1 [.string xc] rfl rfl (cell_one_new _ _ _) (oG [xc]) dP aA dA ?_;intro v' w1 Bb Ar _;obtain⟨g',Oi,rfl⟩:=ownsRow_succ Bb;obtain⟨Oa,Om,Gg,Nz,Ad,Ir⟩:=aSo hv bS Jx Nw aA (Yh _) Bb Ar;have Pd:=Oa.cell;have Pc:=Oa.frozen);exact⟨Nz.from _,Ad,⟨⟨_,Om,by rw[Zq,Yn];simpa[hx]using Gg,trivial⟩,Ir Ao Ol,Yp Nw Nz.size⟩,hB.trans Ad⟩
    case done=>
     rintro D ys W hD rfl ⟨⟨⟨v,hv,Jx,_⟩,Ao,Nw⟩,hB⟩ hK;have hc:=hv.cell;have Oc:=(Yl.1 hK).1;obtain⟨A1,c1,rfl,Nx,_⟩:=aP.of_own Ao aA;have Df:(gJ es).take k=gJ es:=Yx (by rw[aCh];omega);rw[Df]at Nx;rw[show(eM es).map (fun p=>Value.string p.2.2)=(eO es).map Value.string by simp[eO]]at Jx;obtain⟨A2,c2,rfl,Ok,_⟩:=aP.of_own Jx aA;by_cases ho:cH (gJ es)=true
     . have HE:=Hd (show cH (eO es)=lT es by simp[lT,ho]);gi_wp2_with fail;refine⟨trivial,(callsIn_wide.2 (tI A1 k c1 (gJ es) _ Nx Eu.nms aA)).mono ?_⟩;rw[ho];rintro e w3 ⟨rfl,Ak⟩;have Ox:=(Ak.cell (p:=⟨w.heap.size,0,none⟩) hv.lt).trans hc;have Nu:=(Ak.block D Oc).trans hK;have Og:=Ok.below Ak;have Ax:=Hd (hB.tr Ak);have Ou:=Ak.size;clear Ak;gi_wp2_with fail;refine⟨trivial,(callsIn_wide.2 (tI A2 _ c2 (eO es) _ Og Eu.all aA)).mono ?_⟩;rw[HE.o];rintro e w4 ⟨rfl,Bk⟩;have Ny:=(Bk.block D aA).trans Nu;have Be:=Hd (Ax.o.tr Bk);clear Bk;gi_wp2_with fail;refine⟨by simp,.inl ⟨_,_,rfl,run_takeDeferred Ny,?_⟩⟩;exact⟨_,results_tmp rfl _ _ _,rfl,Be.o.trans (belowK_b (w:=w) (Yh _) _ D _ _ aA Ny rfl rfl)⟩
     . have ho:cH (gJ es)=false:=by simpa using ho
       have HE:=Hd (show false=lT es by simp[lT,ho]);gi_wp2_with fail;refine⟨trivial,(callsIn_wide.2 (tI A1 k c1 (gJ es) _ Nx Eu.nms aA)).mono ?_⟩;rw[ho];rintro e w3 ⟨rfl,Ak⟩;have Nu:=(Ak.block D Oc).trans hK;have Ax:=Hd (hB.tr Ak);clear Ak;gi_wp2_with fail;refine⟨trivial,?_⟩;gi_wp2_with fail;refine⟨by simp,.inl ⟨_,_,rfl,run_takeDeferred Nu,?_⟩⟩;rw[<-HE.o];exact⟨_,results_tmp rfl _ _ _,rfl,Ax.o.trans (belowK_b (w:=w) (Yh _) _ D _ _ aA Nu rfl rfl)⟩
    case stop=>
     rintro D c Bp W _ _ h _;exact h.elim
theorem bCq(A:Option Addr)(len cap:Nat)(es:List En)(w:World)(hE:bU w A len es)(Eu:lC es)(De:rY es):
 Calls Tryz.prog 96 #[.slice A len cap] w fun e w'=>e=.returned (.bool (lT es))/\Below w.heap.size w w':=
 callsIn_wide.1 (aT6 6 (Yh _) A len cap es w hE Eu De)
end
section
open Go.RowKit
def pE(es:List En):Bool:=decide (4<es.length) || es.any fun e=>decide (6<e.2.length)
def vY(es:List En)(k:Nat):Prop:=∀j,j<k->(cM es j).length<=6
def dB(es:List En):Int:=if pE es then 4 else if kM es then(if lT es then 0 else 6)else 1
section
variable {es:List En}{k:Nat}
theorem aKk(h:k<es.length)(hb:6<(cM es k).length):pE es=true:=by
 unfold pE;rw[Bool.or_eq_true,List.any_eq_true];refine .inr ⟨es[k]'h,Zh h,?_⟩;rw[aEu h];exact Zy hb
theorem aKl(h4:es.length<=4)(H:vY es k)(h:es.length<=k):pE es=false:=by
 unfold pE;rw[Bool.or_eq_false_iff,List.any_eq_false];refine⟨Zz aA,fun e he=>?_⟩;obtain⟨j,hj,rfl⟩:=Zj he
 have:=H j aA
 rw[aEu hj];simp only[decide_eq_true_eq];omega
theorem aG6(H:vY es k)(h:(cM es k).length<=6):vY es (k+1):=fun j hj=>by
 exact aEc
end
theorem aDo(A:Option Addr)(len cap:Nat)(es:List En)(w:World)(hE:bU w A len es):
 Calls Tryz.prog 94 #[.slice A len cap] w fun e w'=>e=.returned (.bool (pE es))/\Below w.heap.size w w':=by
 have Aq:=hE.len;have Nu:=hE.max;by_cases h4:4<len
 . go_in
   go_wp2_with fail;go_ret;exact⟨aL (by simp[pE,Aq,h4]),Yg _ _⟩
 . have Nx:decide ((4:Int)<(len:Int))=false:=Zz aA;go_in
   go_wp2_with fail;go_loopw [10] (fun i wr=>∃k:Nat,k<=len/\i=.int .i64 k/\vY es k/\Below w.heap.size w wr) (fun i _=>len-(intOf i).toNat)
   case atStart=>exact⟨0,Yq _,rfl,fun j hj=>absurd hj aA,Yg _ _⟩
   case round=>
    obtain⟨k,hk,rfl,Bc,Ba⟩:=hrel;have HT:=Hd Bc;clear Bc;by_cases Ah:k<len
    . obtain⟨b,off,rfl,hb,hc⟩:=hE.at_ Ah;obtain⟨Ga,A',n',c',Jx,Bp⟩:=hc k Ah;have hn1:wr.cell? ⟨b,off+k*2,none⟩=some (.string (fK es k)):=(Ba.cell (p:=⟨b,off+k*2,none⟩) hb).trans Ga;have Nw:wr.cell? ⟨b,off+k*2+1,none⟩=some (.slice A' n' c'):=(Ba.cell (p:=⟨b,off+k*2+1,none⟩) hb).trans Jx;have Bx:k<es.length:=aA;have Ny:=Bp.len;have Nt:=Bp.max;by_cases h6:6<n'
      . have HE:=Hd (aKk Bx aA);go_wp2_with fail;go_ret;exact⟨aL HE.o.symm,Ba.alloc Ba.size _⟩
      . have HN:=Hd (aG6 HT.o aA);have Nv:decide ((6:Int)<(n':Int))=false:=Zz aA;go_wp2_with fail;go_roundw;case rel=>exact⟨k+1,by omega,by go_num,HN.o,Ba.alloc Ba.size _⟩
        case measure=>simp[intOf];omega
    . go_wp2_with fail;go_ret;exact⟨aL (aKl aA HT.o aA).symm,Ba⟩
theorem bCr(A:Option Addr)(len cap:Nat)(es:List En)(w:World)(hE:bU w A len es)(Eu:lC es)(De:rY es):
 Calls Tryz.prog 66 #[.slice A len cap] w fun e w'=>e=.returned (.int .i64 (dB es))/\Below w.heap.size w w':=by
 have HE:=Hd hE;clear hE;cases hm:pE es with
 |true=>
  have hN:=Hd (show(4:Int)=dB es by simp[dB,hm]);go_in
  go_wp2_with fail;refine(aDo A len cap es w HE.o).mono ?_;rw[hm];rintro e w1 ⟨rfl,Aa⟩;have Ac:=Hd Aa;clear Aa;go_wp2_with fail;go_ret;exact⟨eL hN.o,Ac.o⟩
 |false=>
  cases hn:kM es with
  |false=>
   have hN:=Hd (show(1:Int)=dB es by simp[dB,hm,hn]);go_in
   go_wp2_with fail;refine(aDo A len cap es w HE.o).mono ?_;rw[hm];rintro e w1 ⟨rfl,Aa⟩;have Ac:=Hd Aa;clear Aa;go_wp2_with fail;refine(aKj A len cap es _ (HE.o.below Ac.o) Eu).mono ?_;rw[hn];rintro e w2 ⟨rfl,Ad⟩;have Aj:=Hd (qR Ac.o Ad);clear Ad;go_wp2_with fail;go_ret;exact⟨eL hN.o,Aj.o⟩
  |true=>
   cases ha:lT es with
   |false=>
    have hN:=Hd (show(6:Int)=dB es by simp[dB,hm,hn,ha]);exact aQq
   |true=>
    have hN:=Hd (show(0:Int)=dB es by simp[dB,hm,hn,ha]);exact aQq
end
section
open Go.RowKit
theorem aP.news{w:World}{a:Addr}{n:Nat}{l:List ByteArray}(h:aP w (some a) n l)(j:Nat)(u:Value)(hu:(l.map Value.string)[j]?=some u):w.cell? (a.add j)=some u:=by
 exact aQ0
section
variable {P:Program}{w:World}
theorem aSk{ops:Array Oper}{rest:List Oper}{o:Oper}{a:Act}{Q:Exit->Act->World->Prop}(Nt:o.guard=none)(s x:Operand)(t:TypeId)
 (ho:o.op=.call { callee:=.builtin .append,args:=#[s,x],argTypes:=#[t,t] })
 (base:Nat)(e:TypeId)(i:TypeInfo)(z:Value)(Aq:Nat)(ht:P.underlying t=some (.slice e))(hi:P.info? e=some i)(hz:i.zero=some z)
 (Bx:i.size=1)(Nv:i.bytes=Aq)(Nw:z.cells.size=1)
 (v:Value)(n:Nat)(xs:List ByteArray)(hs:a.eval s=v)(Bq:w.ownsRow base e 1 v n (xs.map Value.string))
 (A:Option Addr)(m c:Nat)(l:List ByteArray)(hx:a.eval x=.slice A m c)(hr:aP w A m l)
 (Nu:n+m<=maxLen)(Bp:(n+m)*Aq<=140737488355328)(Jx:base<=w.heap.size)
 (h:∀v' w',w'.ownsRow base e 1 v' (n+m) ((xs++l).map Value.string)->w.grownBy w' v.ownBlock->(v'.ownBlock=v.ownBlock\/v'.ownBlock=some w.heap.size)->wpList P ops Q rest (a.put o.dst v') w'):wpList P ops Q (o::rest) a w:=by
 rcases A with _|ad
 . obtain rfl:m=0:=by
    rcases Nat.eq_zero_or_pos m with h0|h0;· exact h0
    . obtain⟨b,off,e,_⟩:=hr.at_ h0;cases e
   obtain rfl:l=[]:=Zr hr.len;refine wpList_plain Nt fun K hK=>?_;have Jg:=xA (P:=P) (w:=w) base t o.type e i 1 ht hi v n _ Bq c;unfold Oper.wp;simp[execOp,ho,resolve,invoke,builtin,hs,hx,Jg,Result.andThen];exact hK _ _ (h v w (by simpa using Bq) (World.grownBy.refl w _) (.inl rfl))
 . exact wpList_append_own_at w Nt s x t ho base e i z 1 Aq ht hi hz Bx Nv Nw bS v n _ hs Bq ad m c (l.map Value.string) hx (by simp[hr.len]) hr.news (oG _) Nu Bp Jx fun v' w' h1 h2 _ h4=>h v' w' (by rw[Zq];exact h1) h2 h4
end
def lK(u v:Value):Prop:=∀g,u.ownBlock=some g->v.ownBlock≠some g
theorem lK.kept1{u v v':Value}{n:Nat}(h:lK u v)(hl:v'.ownBlock=v.ownBlock\/v'.ownBlock=some n)(hu:∀g,u.ownBlock=some g->g<n):lK u v':=fun g hg e=>by
 rcases hl with h1|h1;· exact h g hg (h1 ▸ e)
 . have:=hu g hg
   rw[h1]at e;cases e;omega
theorem lK.symm{u v:Value}(h:lK u v):lK v u:=fun g hg e=>h g e hg
theorem lK.ne{u v:Value}(h:lK u v):u.ownBlock=none\/u.ownBlock≠v.ownBlock:=by
 rcases Aq:u.ownBlock with _|g;· exact .inl rfl
 . exact .inr fun e=>h g Aq e.symm
theorem aZe(A:Option Addr)(len cap:Nat)(es:List En)(w:World)(hE:bU w A len es)(Eu:lC es)(De:rY es):
 Calls Tryz.prog 80 #[.slice A len cap] w fun e w'=>e=.returned (.int .i64 (dB es))/\Below w.heap.size w w':=by
 have Oe:=hE.len;have Pm:=hE.max;by_cases h4:4<len
 . have hN:=Hd (show(4:Int)=dB es by simp[dB,pE,Oe,h4]);go_in
   go_wp2_with fail;go_ret;exact⟨eL hN.o,((Yg _ _).alloc (Yh _) _).alloc aG _⟩
 . have Pn:decide ((4:Int)<(len:Int))=false:=Zz aA;obtain⟨i0,hi,Oo,Oz,Cu⟩:=info_parts qT;have Oj:=Hd ((World.ownsRow_lit (base:=w.heap.size) (e:=9) (size:=1) w #[] 0 (Yh _) bS rfl).alloc (.cells #[] 9));have Ol:=Hd (World.ownsRow_lit (base:=w.heap.size) (e:=9) (size:=1) (w.alloc (.cells #[] 9)) #[] 0 aG bS rfl);have Af:=Hd (((Yg w.heap.size w).alloc (Yh _) (.cells #[] 9)).alloc aG (.cells #[] 9));go_in
   go_wp2_with fail;go_loopw [3,4,5] (fun v u i wr=>∃k:Nat,k<=len/\i=.int .i64 k/\vY es k/\wr.ownsRow w.heap.size 9 1 v k (((gJ es).take k).map Value.string)/\wr.ownsRow w.heap.size 9 1 u (jU es k).length ((jU es k).map Value.string)/\lK v u/\Below w.heap.size w wr) (fun _ _ i _=>len-(intOf i).toNat)
   case atStart=>
    refine⟨0,Yq _,rfl,fun j hj=>absurd hj aA,Oj.o,?_,?_,Af.o⟩
    . have:=Ol.o
      simpa[jU,jW]using this
    . intro g hg e;simp[Value.ownBlock]at hg e;omega
   case round=>
    obtain⟨k,hk,rfl,Bc,Nu,Nt,Nz,Ba⟩:=hrel;have HT:=Hd Bc;clear Bc;by_cases Ah:k<len
    . obtain⟨b,off,rfl,hb,hc⟩:=hE.at_ Ah;obtain⟨Ga,A',n',c',Of,Oc⟩:=hc k Ah;have hn1:wr.cell? ⟨b,off+k*2,none⟩=some (.string (fK es k)):=(Ba.cell (p:=⟨b,off+k*2,none⟩) hb).trans Ga;have Pf:wr.cell? ⟨b,off+k*2+1,none⟩=some (.slice A' n' c'):=(Ba.cell (p:=⟨b,off+k*2+1,none⟩) hb).trans Of;have Og:k<es.length:=aA;have Om:=Oc.len;have Ok:=Oc.max;by_cases h6:6<n'
      . have HE:=Hd (show(4:Int)=dB es by simp[dB,aKk Og (show 6<(cM es k).length by omega)]);go_wp2_with fail;go_ret;exact⟨eL HE.o,Ba⟩
      . have HN:=Hd (aG6 HT.o (show(cM es k).length<=6 by omega));have Pk:decide ((6:Int)<(n':Int))=false:=Zz aA;have Ou:=Hd (aIc Og);have Ph:=Hd (aBb es k);have Gf:=aGa (es:=es) (i:=k) fun j hj=>De.2 j aA;generalize Pe:fK es k=x at hn1 Ou;have Ed:=Hd Oc;have Ab:=Hd Of;have Cf:=Hd Ba;have H3:=Hd Nu;have H4:=Hd Nt;have HA:=Hd Nz;have Fm:=Ba.size;clear Nu Nt Nz Oc Oj Ol Af
        go_wp2_with (first
         |(at_builtin;refine wpList_append_own_at _ rfl _ _ 49 rfl w.heap.size 9 i0 (.string ByteArray.empty) 1 16 Tryz.underlying49 hi Oo Oz Cu rfl bS _ _ _ rfl (H3.o.alloc _) ⟨wr.heap.size,0,none⟩ 1 1 [.string x] rfl rfl (cell_one_new _ _ _) (oG [x]) dP aA dA ?_;intro v' w1 Bb Ar Ec Dy;have Oi:=(Cf.o.alloc Fm (.cells #[.string x] 9)).grown Ar dA (fun j hj=>(H3.o.lt j hj).1);have Pf:w1.cell? ⟨b,off+k*2+1,none⟩=some (.slice A' n' c'):=(Oi.cell (p:=⟨b,off+k*2+1,none⟩) hb).trans Ab.o;have HG:=Hd Ar;have HO:=Hd Bb;have HL:=Hd Dy;have Ac:=Hd Oi;have Ag:=Oi.size;have Pd:=Ar.size;simp at Pd;clear Ar Bb Ec Dy Oi;have Bi:=Hd (Ed.o.keep Ac.o.size fun p hp=>Ac.o.cell hp);have Oq:=Hd ((H4.o.alloc (.cells #[.string x] 9)).kept HG.o HA.o.symm.ne))
         |(at_builtin;refine aSk rfl _ _ 49 rfl w.heap.size 9 i0 (.string ByteArray.empty) 16 Tryz.underlying49 hi Oo Oz Cu rfl _ _ (jU es k) rfl Oq.o A' n' c' (cM es k) rfl Bi.o dP aA aA ?_;intro v2 w2 Nw Nv Ny;have Ow:=Hd Nv;have Ee:=Hd Nw;have Ef:=Hd Ny;clear Nv Nw Ny))
        have Pi:=Hd (lK.kept1 (lK.kept1 HA.o.symm HL.o (fun g hg=>by have:=(H4.o.lt g hg).2;simp;omega)).symm Ef.o (fun g hg=>(HO.o.lt g hg).2));go_roundw;case rel=>
         refine⟨k+1,by omega,by go_num,HN.o,?_,?_,Pi.o,?_⟩
         . rw[Ou.o,Zq];exact HO.o.kept Ow.o (lK.ne (lK.kept1 HA.o.symm HL.o (fun g hg=>by have:=(H4.o.lt g hg).2;simp;omega)).symm)
         . rw[Ph.o,Yn,Om];exact Ee.o
         . exact Ac.o.grown Ow.o aA (fun j hj=>(Oq.o.lt j hj).1)
        case measure=>simp[intOf];omega
    . obtain rfl:k=len:=by omega
      have Nx:=aKl aA HT.o aA;have Df:(gJ es).take k=gJ es:=Yx (by rw[aCh];omega);have Oy:jU es k=eO es:=by rw[<-Oe];exact aS7 es
      have Om:(eO es).length<=96:=by have:=De.flat;simpa[eO]using this
      rw[Df]at Nu;rw[Oy]at Nt;obtain⟨A1,c1,rfl,Pb,_⟩:=aP.of_own Nu aA;obtain⟨A2,c2,rfl,Ov,_⟩:=aP.of_own Nt aA;have Ox:=hE.below Ba;have Ot:=Hd Ox;have Bi:=Hd Pb;have Ce:=Hd Ov;have Cf:=Hd Ba;have Aq:=Hd Nx;clear Nu Nt Pb Ov Nz Oj Ol Af Df Oy Nx Ba hE Ox;go_wp2_with fail;go_loopw [6] (fun i wq=>∃j:Nat,j<=k/\i=.int .i64 j/\vF es j/\Below wr.heap.size wr wq) (fun i _=>k-(intOf i).toNat)
      case atStart=>exact⟨0,Yq _,rfl,fun j hj=>absurd hj aA,Yg _ _⟩
      case round=>
       obtain⟨j,hj,rfl,Bc,Ge⟩:=hrel;have Cg:=Hd Bc;have Oa:=Hd Ge;clear Bc;by_cases Mk:j<k
       . obtain⟨b,off,rfl,hb,hc⟩:=(Ot.o.below Ge).at_ Mk;obtain⟨Ga,A',n',c',Of,Oc⟩:=hc j Mk;have Og:j<es.length:=aA;have Om:=Oc.len;have Ok:=Oc.max;have Ob:=Hd fun h=>aIb Og h;have Oh:=Hd fun h1 h2=>aF2 Cg.o h1 h2;have On:=(Eu j Og).1;unfold maxLen at On;clear hc Ge;generalize Pe:fK es j=x at Ga On Ob Oh;by_cases Bp:bE x.data.toList=true
         . rcases Nat.eq_zero_or_pos n' with hz|hz
           . have HE:=Hd (show(1:Int)=dB es by simp[dB,Aq.o,Ob.o (.inr aA)]);subst hz;go_wp2_with fail;refine(lR x _ aA).mono ?_;rw[Bp];rintro e w3 ⟨rfl,Ak⟩;have Pc:=(Ak.cell (p:=⟨b,off+j*2+1,none⟩) hb).trans Of;have Ax:=Hd (qR (Cf.o.tr Oa.o) (Ak.mono (Yh _)));exact aOt
           . have HN:=Hd (Oh.o Bp aA);have Po:((n':Int)==0)=false:=mV;go_wp2_with fail;refine(lR x _ aA).mono ?_;rw[Bp];rintro e w3 ⟨rfl,Ak⟩;have Pc:=(Ak.cell (p:=⟨b,off+j*2+1,none⟩) hb).trans Of;have Ax:=Hd (Oa.o.tr Ak);clear Ak;go_wp2_with fail;go_roundw;case rel=>exact⟨j+1,by omega,by go_num,HN.o,Ax.o⟩
             case measure=>simp[intOf];omega
         . have Bp:bE x.data.toList=false:=by simpa using Bp
           have HE:=Hd (show(1:Int)=dB es by simp[dB,Aq.o,Ob.o (.inl Bp)]);go_wp2_with fail;refine(lR x _ aA).mono ?_;rw[Bp];rintro e w3 ⟨rfl,Ak⟩;have Ax:=Hd (Cf.o.trans ((Oa.o.tr Ak).mono Cf.o.size));exact aOt
       . obtain rfl:j=k:=by omega
         have Dl:=Hd (aGj Cg.o aA);have Bi:=Hd (Bi.o.below Oa.o);have Ce:=Hd (Ce.o.below Oa.o);have Cf:=Hd (Cf.o.tr Oa.o);clear Ge Oa Ot Cg;go_wp2_with fail;go_loopw [7] (fun i Pj=>∃m:Nat,m<=(eO es).length/\i=.int .i64 m/\(∀q,q<m->lJ ((eO es)[q]?.getD ByteArray.empty)=true)/\Pj=wr) (fun i _=>(eO es).length-(intOf i).toNat)
         case atStart=>exact⟨0,Yq _,rfl,fun q hq=>absurd hq aA,rfl⟩
         case round=>
          obtain⟨m,hm,rfl,Hj,rfl⟩:=hrel;have Pa:=Hd Hj;clear Hj;by_cases Jx:m<(eO es).length
          . obtain⟨b,off,rfl,hb,hc⟩:=Ce.o.at_ Jx;have Ok:=hc m Jx;have Al:=Eu.all _ (show(eO es)[m]?.getD ByteArray.empty∈eO es by rw[Yk Jx];exact Zh _);unfold maxLen at Al
            have HM:=Hd (show lJ ((eO es)[m]?.getD ByteArray.empty)=false->(eO es).all lJ=false from fun h=>by
             rw[List.all_eq_false];refine⟨_,Zh Jx,?_⟩;rw[Yk Jx]at h;simpa using h)
            have HS:=Hd (show lJ ((eO es)[m]?.getD ByteArray.empty)=true->∀ q,q<m+1->lJ ((eO es)[q]?.getD ByteArray.empty)=true from fun h q hq=>by
             rcases Nat.lt_or_ge q m with h1|h1;· exact Pa.o q h1
             . obtain rfl:q=m:=by omega
               exact h)
            clear hc;generalize (eO es)[m]?.getD ByteArray.empty=x at Ok Al HM HS;by_cases Od:eU x.data.toList=true
            . have HS:=Hd (HS.o Od);go_wp2_with fail;refine(vE x _ aA).mono ?_;rw[Od];rintro e w3 ⟨rfl,rfl⟩;go_wp2_with fail;go_roundw;case rel=>exact⟨m+1,by omega,by go_num,HS.o,gW⟩
              case measure=>simp[intOf];omega
            . have Od:eU x.data.toList=false:=by simpa using Od
              have HE:=Hd (show(1:Int)=dB es by simp[dB,Aq.o,kM,HM.o Od]);go_wp2_with fail;refine(vE x _ aA).mono ?_;rw[Od];rintro e w3 ⟨rfl,rfl⟩;go_wp2_with fail;go_ret;exact⟨eL HE.o,Cf.o⟩
          . have Bx:kM es=true:=by
             have h2:(eO es).all lJ=true:=by
              rw[Zg];intro s hs;obtain⟨q,hq,rfl⟩:=Zj hs
              have:=Pa.o q aA
              rwa[Yk hq]at this
             unfold kM;rw[Dl.o,h2];rfl
            by_cases ho:cH (gJ es)=true
            . by_cases Ir:cH (eO es)=true
              . have HE:=Hd (show(0:Int)=dB es by simp[dB,Aq.o,Bx,lT,ho,Ir]);exact aRg
              . have Ir:cH (eO es)=false:=by simpa using Ir
                have HE:=Hd (show(6:Int)=dB es by simp[dB,Aq.o,Bx,lT,ho,Ir]);exact aRg
            . have ho:cH (gJ es)=false:=by simpa using ho
              have HE:=Hd (show(6:Int)=dB es by simp[dB,Aq.o,Bx,lT,ho]);go_wp2_with fail;refine(tD A1 j c1 (gJ es) _ Bi.o aA).mono ?_;rw[ho];rintro e w3 ⟨rfl,p,rfl⟩;go_wp2_with fail;go_ret;exact⟨eL HE.o,bG Cf.o p⟩
end
section
open Go.RowKit
theorem aG7{l:List Dc}{k:Nat}(hk:k<l.length):(bM l).take (k+1)=(bM l).take k++[(l[k]?.getD default).nm]:=by
 rw[bM,List.take_add_one,List.getElem?_map,Yk hk];simp
theorem aId(l:List Dc):(bM l).length=l.length:=by simp[bM]
def aV5(w:World)(n:Nat)(ss:List ByteArray)(e:Ending)(w':World):Prop:=∃A c,e=.returned (.slice A n c)/\aP w' A n ss/\Below w.heap.size w w'
theorem aIe(A:Option Addr)(n c:Nat)(l:List Dc)(w:World)(h:bZ w A n l)(hn:n<=1000):
 Calls Tryz.prog 83 #[.slice A n c] w (aV5 w n (bM l)):=by
 have Nw:=h.len;have Nx:=h.max;obtain⟨i0,hi,Nu,Nv,Cu⟩:=info_parts qT;have Bp:=Hd (World.ownsRow_lit (base:=w.heap.size) (e:=9) (size:=1) w #[] 0 (Yh _) bS rfl);have Af:=Hd ((Yg w.heap.size w).alloc (Yh _) (.cells #[] 9));go_in
 go_wp2_with fail;go_loopw [3,4] (fun v i wr=>∃k:Nat,k<=n/\i=.int .i64 k/\wr.ownsRow w.heap.size 9 1 v k (((bM l).take k).map Value.string)/\Below w.heap.size w wr) (fun _ i _=>n-(intOf i).toNat)
 case atStart=>exact⟨0,Yq _,rfl,Bp.o,Af.o⟩
 case round=>
  obtain⟨k,hk,rfl,Aq,Ba⟩:=hrel;by_cases Ah:k<n
  . obtain⟨b,off,rfl,hb,hc⟩:=aI.at_ h aA;obtain⟨Ga,-⟩:=(hc k Ah).six;have hn1:=(Ba.cell (p:=⟨b,off+k*6,none⟩) hb).trans Ga;have Jx:=Hd (aG7 (l:=l) (k:=k) aA);generalize (l[k]?.getD default).nm=x at hn1 Jx;have Cf:=Hd Ba;have H3:=Hd Aq;have Fm:=Ba.size;clear Aq Bp Af Ga hc;go_wp2_with (at_builtin;refine wpList_append_own_at _ rfl _ _ 49 rfl w.heap.size 9 i0 (.string ByteArray.empty) 1 16 Tryz.underlying49 hi Nu Nv Cu rfl bS _ _ _ rfl (H3.o.alloc _) ⟨wr.heap.size,0,none⟩ 1 1 [.string x] rfl rfl (cell_one_new _ _ _) (oG [x]) dP aA dA ?_;intro v' w1 Bb Ar Ec Dy;have Bx:=(Cf.o.alloc Fm (.cells #[.string x] 9)).grown Ar dA (fun j hj=>(H3.o.lt j hj).1);have HO:=Hd Bb;have Ac:=Hd Bx;clear Ar Bb Ec Dy Bx);go_roundw;case rel=>
     refine⟨k+1,by omega,by go_num,?_,Ac.o⟩;rw[Jx.o,Zq];exact HO.o
    case measure=>simp[intOf];omega
  . obtain rfl:k=n:=by omega
    have Df:(bM l).take k=bM l:=Yx (by rw[aId];omega);rw[Df]at Aq;obtain⟨A1,c1,rfl,Nt,_⟩:=aP.of_own Aq aA;have Bi:=Hd Nt;have Cf:=Hd Ba;clear Aq Nt Bp Af Df Ba;go_wp2_with fail;go_ret;exact⟨A1,c1,rfl,Bi.o,Cf.o⟩
theorem aZf(s:ByteArray)(w:World)(hs:s.size<=9223372036854775807):
 Calls Tryz.prog 154 #[.string s] w fun e w'=>e=.returned (.bool (mZ s))/\w=w':=by
 have HH:=Hd (vE s w hs);have HE:=Hd (show mZ s=(eU s.data.toList || (s.toList==[116,114,117,101]) || (s.toList==[102,97,108,115,101]))by rw[Zc];rfl);cases h1:eU s.data.toList with
 |true=>
  rw[h1]at HH HE;exact aNf
 |false=>
  rw[h1]at HH HE;cases h2:(s.toList==[116,114,117,101])with
  |true=>
   rw[h2]at HE;exact aNf
  |false=>
   rw[h2]at HE;cases h3:(s.toList==[102,97,108,115,101])with
   |true=>
    exact aM7
   |false=>
    exact aM7
end
section
open Go.RowKit Go.Sort
def dV(l:List Dc):List Value:=l.flatMap fZ
theorem rL(l:List Dc):(dV l).length=l.length*6:=by
 induction l with
 |nil=>rfl
 |cons d l ih=>simp only[dV,List.flatMap_cons,Yn,Yo]at ih⊢;rw[ih];simp[fZ];omega
theorem aC8(a b:List Dc):dV (a++b)=dV a++dV b:=by simp[dV]
theorem bCs(d:Dc):dV [d]=fZ d:=by simp[dV]
theorem zH:∀(l:List Dc)(i j:Nat),i<l.length->j<6->(dV l)[i*6+j]?=(fZ (l[i]?.getD default))[j]?
 |t::ts,0,j,_,hj=>by
  have hz:j<(fZ t).length:=by simpa[fZ]using hj
  simp only[dV,List.flatMap_cons,Nat.zero_mul,Nat.zero_add];exact aEr
 |t::ts,i+1,j,hi,hj=>by
  have ih:=zH ts i j qI hj;have hz:(fZ t).length=6:=by simp[fZ]
  simp only[dV,List.flatMap_cons];rw[List.getElem?_append_right (by rw[hz];omega),hz,show(i+1)*6+j-6=i*6+j by omega];simpa[dV]using ih
theorem xZ(l:List Dc):∀u∈dV l,u.oneCell'=true:=by
 intro u hu;simp only[dV,List.mem_flatMap]at hu;obtain⟨t,_,hu⟩:=hu;simp[fZ]at hu;rcases hu with rfl|rfl|rfl|rfl|rfl|rfl<;>rfl
section
variable {w w':World}{A:Option Addr}{n:Nat}{l:List Dc}
theorem bZ.of_own{base:Nat}{e:TypeId}{v:Value}(h:w.ownsRow base e 6 v n (dV l))(hm:n<=9223372036854775807):∃A c,v=.slice A n c/\bZ w A n l:=by
 have hl:l.length=n:=by
  have:=h.1
  rw[rL]at this;omega
 rcases h.2 with⟨rfl,rfl⟩|⟨g,cap,cur,rfl,hg,hh,hnc,hcm,hcs,ht⟩;· exact aEd
 . refine⟨_,cap,rfl,hl,hm,fun hn=>⟨g,0,rfl,(Yl.1 hh).1,fun i hi=>?_⟩⟩;intro j v hv;have hj:j<6:=by
    rcases Nat.lt_or_ge j 6 with h|h;· exact h
    . rw[List.getElem?_eq_none (by simpa[fZ]using h)]at hv;cases hv
   rw[Nat.zero_add,h.cellAt (i*6+j) aA,zH l i j aA hj,hv]
theorem bZ.news(h:bZ w A n l):(A=none->n=0)/\∀ad,A=some ad->∀j u,(dV l)[j]?=some u->w.cell? (ad.add j)=some u:=by
 constructor;· exact aNx
 . rintro ad rfl j u hu;have hj:j<l.length*6:=by
    rcases Nat.lt_or_ge j (l.length*6)with h1|h1;· exact h1
    . rw[List.getElem?_eq_none (by rw[rL];exact h1)]at hu;cases hu
   have Aq:=aI.len h;obtain⟨b,off,e,hb,hc⟩:=aI.at_ h aA;injection e with e;subst e;have h6:j / 6*6+j % 6=j:=aA;have h7:j % 6<6:=aA;have h1:=hc (j / 6) aA;rw[aI8];have h2:=zH l (j / 6) (j % 6) aA h7;rw[h6,hu]at h2;have h3:=h1 (j % 6) u h2.symm;rwa[show off+j / 6*6+j % 6=off+j by omega]at h3
end
theorem uY:(Tryz.prog.info? 43).map (fun i=>(i.size,i.bytes,i.zero.map fun z=>z.cells.size))=some (6,72,some 6):=aC
theorem kG{P:Program}{t:TypeId}{a b c:Nat}(h:(P.info? t).map (fun i=>(i.size,i.bytes,i.zero.map fun z=>z.cells.size))=some (a,b,some c)):∃i z,P.info? t=some i/\i.zero=some z/\i.size=a/\i.bytes=b/\z.cells.size=c:=by
 obtain⟨i,h1,h2⟩:=Option.map_eq_some_iff.1 h;simp only[Prod.mk.injEq,Option.map_eq_some_iff]at h2;obtain⟨h3,h4,z,h5,h6⟩:=h2;exact⟨i,z,h1,h5,h3,h4,h6⟩
theorem iE(w:World)(x:Nd)(A1:Option Addr)(c1:Nat)(A2:Option Addr)(c2:Nat)(A3:Option Addr)(c3:Nat)(A4:Option Addr)(c4:Nat)(w1:World)(h:w.alloc (.cells (bK x A1 c1 A2 c2 A3 c3 A4 c4) 36)=w1)(hr:cF w x A1 A2 A3 A4):
 Below w.heap.size w w1/\w1.heap.size=w.heap.size+1/\cF w1 x A1 A2 A3 A4/\∀w',Below w1.heap.size w1 w'->∀j,w'.cell? ⟨w.heap.size,j,none⟩=(bK x A1 c1 A2 c2 A3 c3 A4 c4)[j]?:=by
 subst h;refine⟨(Yg _ _).alloc (Yh _) _,by simp,hr.below ((Yg _ _).alloc (Yh _) _),fun w' hb j=>?_⟩;rw[hb.cell (p:=⟨w.heap.size,j,none⟩) aG,Zp]
def uT(w:World)(n:Nat)(l:List Dc)(e:Ending)(w':World):Prop:=∃A c,e=.returned (.slice A n c)/\bZ w' A n l/\Below w.heap.size w w'
theorem tE(x:Nd)(A1:Option Addr)(c1:Nat)(A2:Option Addr)(c2:Nat)(A3:Option Addr)(c3:Nat)(A4:Option Addr)(c4:Nat)(w:World)(h:cF w x A1 A2 A3 A4)(hn:x.all.length<=1000):
 Calls Tryz.prog 9 #[.agg (bK x A1 c1 A2 c2 A3 c3 A4 c4)] w (uT w x.all.length x.all):=by
 have Nz:=pZ x;have Oq:=Hd (show dV x.all=dV x.ins++dV x.outs++dV x.vars by rw[Nd.all,aC8,aC8]);have Ih:=Hd (rL x.ins);have Ef:=Hd (rL x.outs);have Ow:=Hd (rL x.vars);have Fk:=Hd (xZ x.ins);have Ee:=Hd (xZ x.outs);have Oy:=Hd (xZ x.vars);obtain⟨i0,z0,hi,Ok,Of,Cu,Oe⟩:=kG uY;obtain⟨h1,h2,h3,h4⟩:=h;have HF:=Hd fun w1 (hw:w.alloc (.cells (bK x A1 c1 A2 c2 A3 c3 A4 c4) 36)=w1)=>iE w x A1 c1 A2 c2 A3 c3 A4 c4 w1 hw ⟨h1,h2,h3,h4⟩;unfold bK;go_in
 go_upto_region 1 with(fail);generalize Ag:w.alloc _=w1;obtain⟨Aa,hg,⟨r1,r2,r3,-⟩,hcell⟩:=HF.o w1 Ag;obtain⟨-,q1,q2,q3,-,-⟩:=Sx (hcell w1 (Yg _ _));simp only[bK,List.getElem?_toArray,Yz,Zb]at q1 q2 q3;have Ac:=Hd Aa;obtain⟨Oo,On⟩:=r1.news;obtain⟨Ot,Ou⟩:=r2.news;obtain⟨Ox,Ov⟩:=r3.news;have Bi:=Hd r1.news;have Ce:=Hd r2.news;have Ol:=Hd r3.news;clear Ag hcell Aa h1 h2 h3 h4 r1 r2 r3 Oo On Ot Ou Ox Ov HF;generalize x.ins.length=n1 at *;generalize x.outs.length=n2 at *;generalize x.vars.length=n3 at *;generalize dV x.ins=f1 at *;generalize dV x.outs=f2 at *;generalize dV x.vars=f3 at *;have Oj:=World.ownsRow_lit (base:=w1.heap.size) (e:=43) (size:=6) w1 #[] 0 aG bS rfl;rw[hg]at Oj;have Om:=Hd (show(w1.alloc (.cells #[] 43)).drew.ownsRow (w.heap.size+1) 43 6 (.slice (some ⟨w.heap.size+1,0,none⟩) 0 0) 0 []from Oj);clear Oj;refine wp_region_held_drew (S:=fun W=>W.cell? ⟨w.heap.size,1,none⟩=some (.slice A1 n1 c1)/\W.cell? ⟨w.heap.size,2,none⟩=some (.slice A2 n2 c2)/\W.cell? ⟨w.heap.size,3,none⟩=some (.slice A3 n3 c3)) aC ?_ (fun hHeld=>?_);· exact⟨q1,q2,q3⟩
 refine uF (i:=1) (v:=.pointer (some ⟨w.heap.size,1,none⟩)) hHeld ?_
 (try simp only[Act.put,Yd,Ye,Yf])
 refine uF (i:=2) (v:=.slice A1 n1 c1) hHeld ?_
 (try simp only[Act.put,Yd,Ye,Yf])
 refine uF (i:=4) (v:=.pointer (some ⟨w.heap.size,2,none⟩)) hHeld ?_
 (try simp only[Act.put,Yd,Ye,Yf])
 refine uF (i:=5) (v:=.slice A2 n2 c2) hHeld ?_
 (try simp only[Act.put,Yd,Ye,Yf])
 refine uF (i:=7) (v:=.pointer (some ⟨w.heap.size,3,none⟩)) hHeld ?_
 (try simp only[Act.put,Yd,Ye,Yf])
 refine uF (i:=8) (v:=.slice A3 n3 c3) hHeld ?_
 (try simp only[Act.put,Yd,Ye,Yf])
 have Aq:Below w1.heap.size w1 (w1.alloc (.cells #[] 43)).drew:=((Yg w1.heap.size w1).alloc (Yh _) _).drew;have Nu:=Hd Aq;have a0:=(Aq.cell (p:=⟨w.heap.size,1,none⟩) kS).trans q1;have b0:=(Aq.cell (p:=⟨w.heap.size,2,none⟩) kS).trans q2;have e0:=(Aq.cell (p:=⟨w.heap.size,3,none⟩) kS).trans q3;clear Aq;refine Xf (rs:=[0]) aC aG ?_;refine Zk aX (fun K hK=>?_) ?_
 . go_simp;refine hK.out _ _ ?_ (fun hHeld=>?_);· exact⟨a0,b0,e0⟩
   clear hK K
   (try simp only[Act.put,Yd,Ye,Yf])
   refine Xf (rs:=[3]) aC aG ?_;refine Zk aX (fun K hK=>?_) ?_
   . refine qO aX _ _ _ aX (w.heap.size+1) 43 i0 z0 6 72 Tryz.underlying32 hi Ok Of Cu Oe bS (.slice (some ⟨w.heap.size+1,0,none⟩) 0 0) 0 [] aX Om.o A1 n1 c1 f1 aX (by rw[Ih.o]) Bi.o.1 (fun ad e j u hu=>by have h:=Bi.o.2 ad e j u hu;exact(Nu.o.cell (Yi _ _ h)).trans h) Fk.o dP aA (by have:=Nu.o.size;omega) ?_;intro B1 d1 v1 Ny Oc Od;have Ij:=Hd Ny;have Bp:Below w1.heap.size w1 v1:=Nu.o.grown Oc (by have:=Nu.o.size;omega) (fun j hj=>by rw[hg];exact(Om.o.lt j hj).1);have Nt:=Hd Bp;have a1:=(Bp.cell (p:=⟨w.heap.size,1,none⟩) kS).trans q1;have b1:=(Bp.cell (p:=⟨w.heap.size,2,none⟩) kS).trans q2;have e1:=(Bp.cell (p:=⟨w.heap.size,3,none⟩) kS).trans q3;clear Ny Oc Od Bp;refine hK.out _ _ ?_ (fun hHeld=>?_);· exact⟨a1,b1,e1⟩
     clear hK K
     (try simp only[Act.put,Yd,Ye,Yf])
     refine Xf (rs:=[6]) aC aG ?_;refine Zk aX (fun K hK=>?_) ?_
     . refine qO aX _ _ _ aX (w.heap.size+1) 43 i0 z0 6 72 Tryz.underlying32 hi Ok Of Cu Oe bS (.slice B1 (0+n1) d1) (0+n1) ([]++f1) aX Ij.o A2 n2 c2 f2 aX (by rw[Ef.o]) Ce.o.1 (fun ad e j u hu=>by have h:=Ce.o.2 ad e j u hu;exact(Nt.o.cell (Yi _ _ h)).trans h) Ee.o dP aA (by have:=Nt.o.size;omega) ?_;intro B2 d2 v2 Nw Oa Og;have Dh:=Hd Nw;have Jx:Below w1.heap.size w1 v2:=Nt.o.grown Oa (by have:=Nt.o.size;omega) (fun j hj=>by rw[hg];exact(Ij.o.lt j hj).1);have Nv:=Hd Jx;have a2:=(Jx.cell (p:=⟨w.heap.size,1,none⟩) kS).trans q1;have b2:=(Jx.cell (p:=⟨w.heap.size,2,none⟩) kS).trans q2;have e2:=(Jx.cell (p:=⟨w.heap.size,3,none⟩) kS).trans q3;clear Nw Oa Og Jx;refine hK.out _ _ ?_ (fun hHeld=>?_);· exact⟨a2,b2,e2⟩
       clear hK K
       (try simp only[Act.put,Yd,Ye,Yf])
       refine Xf (rs:=[9]) aC aG ?_;refine Zk aX (fun K hK=>?_) ?_
       . refine qO aX _ _ _ aX (w.heap.size+1) 43 i0 z0 6 72 Tryz.underlying32 hi Ok Of Cu Oe bS (.slice B2 (0+n1+n2) d2) (0+n1+n2) ([]++f1++f2) aX Dh.o A3 n3 c3 f3 aX (by rw[Ow.o]) Ol.o.1 (fun ad e j u hu=>by have h:=Ol.o.2 ad e j u hu;exact(Nv.o.cell (Yi _ _ h)).trans h) Oy.o dP aA (by have:=Nv.o.size;omega) ?_;intro B3 d3 v3 Nx Ob Oh;have Eo:=Hd Nx;have Bx:Below w1.heap.size w1 v3:=Nv.o.grown Ob (by have:=Nv.o.size;omega) (fun j hj=>by rw[hg];exact(Dh.o.lt j hj).1);have Oi:=Hd Bx;have a3:=(Bx.cell (p:=⟨w.heap.size,1,none⟩) kS).trans q1;have b3:=(Bx.cell (p:=⟨w.heap.size,2,none⟩) kS).trans q2;have e3:=(Bx.cell (p:=⟨w.heap.size,3,none⟩) kS).trans q3;clear Nx Ob Oh Bx;refine hK.out _ _ ?_ (fun hHeld=>?_);· exact⟨a3,b3,e3⟩
         clear hK K
         (try simp only[Act.put,Yd,Ye,Yf])
         refine Xf (rs:=[10]) aC aG ?_;refine Zk aX (fun K hK=>?_) ?_
         . go_simp;refine hK.out _ _ ?_ (fun hHeld=>?_);· exact⟨a3,b3,e3⟩
           clear hK K
           (try simp only[Act.put,Yd,Ye,Yf])
           refine wpAnyH_done aC ?_ _;go_wp2_with fail;go_ret;have hw:=Eo.o;rw[List.nil_append,<-Oq.o,Nat.zero_add,<-Nz]at hw;obtain⟨A,c,e,hR⟩:=bZ.of_own hw aA;refine⟨A,c,?_,hR,Ac.o.trans (Oi.o.mono aA)⟩;rw[<-e,Nz];rfl
         exact Zl
       exact Zl
     exact Zl
   exact Zl
 exact Zl
end
section
open Go.RowKit
def nF(d:Dc):Prop:=d.nm.size<=maxLen/\d.on.size<=maxLen/\d.ct.size<=maxLen
theorem mG(w:World)(d:Dc)(w1:World)(h:w.alloc (.cells (aU d) 43)=w1):
 Below w.heap.size w w1/\w1.heap.size=w.heap.size+1/\∀w',Below w1.heap.size w1 w'->∀j,w'.cell? ⟨w.heap.size,j,none⟩=(aU d)[j]?:=by
 subst h;refine⟨(Yg _ _).alloc (Yh _) _,by simp,fun w' hb j=>?_⟩;rw[hb.cell (p:=⟨w.heap.size,j,none⟩) aG,Zp]
theorem iM{w w1 w2:World}(h:Below w.heap.size w w1)(hb:Below w1.heap.size w1 w2):Below w.heap.size w w2:=h.tr hb
theorem bCt(A:Option Addr)(n c:Nat)(d:Dc)(w:World)(hn:n<=9223372036854775807)(Eu:nF d):
 Calls Tryz.prog 123 #[.slice A n c,.agg (aU d)] w fun e w'=>e=.returned (.bool (eW n bQ d))/\Below w.heap.size w w':=by
 obtain⟨Jx,Nt,Bx⟩:=Eu;unfold maxLen at Jx Nt Bx;have HF:=Hd fun w1 h=>mG w d w1 h;have HE:=Hd (show eW n bQ d=(bE d.nm.data.toList && bQ n d.k d.e d.l && (((d.on.toList==[]) && (d.ct.toList==[])) || (bE d.on.data.toList && mZ d.ct))) by simp only [Zc];rfl);have Bp:=Hd fun w1=>lR d.nm w1 aA;have Hi:=Hd fun w1=>lR d.on w1 aA;have Nq:=Hd fun w1=>aZf d.ct w1 aA;have Aq:=Hd fun w1=>aT1 A n c d.k d.e d.l w1 hn;unfold aO at Aq;have Cc:=Hd (show(d.on.toList==[])=true->bE d.on.data.toList=false by
  intro h;rw[Zc]at h;rw[eq_of_beq h]
  rfl)
 unfold aU;generalize eW n bQ d=Au at *;go_in
 go_upto_region 1 with(fail);generalize Ag:w.alloc _=w1;obtain⟨Aa,hg,hcell⟩:=HF.o w1 Ag;have Ac:=Hd Aa;have HC:=Hd hcell;have q0:=hcell w1 (Yg _ _) 0;simp only[aU,List.getElem?_toArray,Yz,Zb]at q0 HC;clear Ag hcell Aa HF;generalize d.nm=x0 at *;generalize d.on=x4 at *;generalize d.ct=x5 at *;generalize d.k=tk at *;generalize d.e=te at *;generalize d.l=tl at *;cases h0:bE x0.data.toList with
 |false=>
  rw[h0]at HE;go_wp2_with fail;refine(Bp.o w1).mono ?_;rw[h0];rintro e w2 ⟨rfl,hb⟩;have Aj:=Hd (iM Ac.o hb);clear hb;exact zQ
 |true=>
  rw[h0]at HE;go_wp2_with fail;refine(Bp.o w1).mono ?_;rw[h0];rintro e w2 ⟨rfl,hb⟩;have Dh:=Hd hb;have Aj:=Hd (iM Ac.o hb);clear hb;clear q0;obtain⟨-,q1,q2,q3,-,-⟩:=Sx (HC.o w2 Dh.o);simp only[Ya,Yb,Yc]at q1 q2 q3;cases h1:bQ n tk te tl with
  |false=>
   rw[h1]at HE;go_wp2_with fail;refine(Aq.o w2).mono ?_;rw[h1];rintro e w3 ⟨rfl,hb⟩;have Ax:=Hd (iM Aj.o hb);clear hb;exact pD
  |true=>
   rw[h1]at HE;go_wp2_with fail;refine(Aq.o w2).mono ?_;rw[h1];rintro e w3 ⟨rfl,hb⟩;have Eo:=Hd (iM Dh.o hb);have Ax:=Hd (iM Aj.o hb);clear hb;have q4:=HC.o w3 Eo.o 4;have q5:=HC.o w3 Eo.o 5;simp only[Ya,Yb,Yc]at q4 q5;cases h3:(x4.toList==[])with
   |true=>
    have h4:=Cc.o h3;rw[h3,h4]at HE;cases h6:(x5.toList==[])with
    |true=>
     rw[h6]at HE;exact pD
    |false=>
     rw[h6]at HE;exact aRe
   |false=>
    rw[h3]at HE;cases h4:bE x4.data.toList with
    |false=>
     rw[h4]at HE;exact aRe
    |true=>
     rw[h4]at HE;go_wp2_with fail;refine(Hi.o w3).mono ?_;rw[h4];rintro e w4 ⟨rfl,hb⟩;have Ev:=Hd (iM Eo.o hb);have Be:=Hd (iM Ax.o hb);clear hb;clear q4 q5;have q4:=HC.o w4 Ev.o 4;have q5:=HC.o w4 Ev.o 5;simp only[Ya,Yb,Yc]at q4 q5;cases h5:mZ x5 with
     |true=>
      exact aMy
     |false=>
      exact aMy
end
end Go.Proofs.YtkbpdoomhfkngaaGreat
