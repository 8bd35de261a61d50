/- A part of the proof. Conditions: each theorem's own. -/
import Derived.Deep.OwnRows
import Derived.WalkSpells
import Derived.Test.YtagkcjpoipcpkaaGreatDoorRows
import Derived.Deep.DeepCutAuto
import Derived.Lib.QuietBelow
import Derived.Deep.RegionHeld3
import Derived.Laws.AppendOwnNone
import Derived.RangeFuncNested
import Derived.RangeFuncBound
import Derived.Shelf.RegionOpen
import Derived.OwnWalkIn
import Derived.LoopNIn
import Derived.LoopIn
import Derived.Laws.CopyOwn
import Derived.Shelf.Spec.SlicesGrow
import Derived.Laws.EntriesVeiled
import Derived.Shelf.Strconv.Itoa3
import Derived.Shelf.Strconv.ErrVarParseInt
import Derived.Shelf.Strings.Shaped
import Derived.Shelf.Strings.Prefix
import Derived.Lib.SmallJoins
import Derived.WalkSmall
import Derived.LaidSub
import Derived.StillTailTactics
import Derived.Lib.ItoaLen
import Derived.Deep.AppendLies
import Derived.Stop.Asserts
import Derived.LaidMore
namespace Go.Proofs.YtagkcjpoipcpkaaGreatDoor
set_option linter.unusedVariables false
set_option linter.unusedSimpArgs false
set_option maxRecDepth 100000
set_option maxHeartbeats 40000000
abbrev OA:=Option Addr
abbrev LU:=List UInt8
abbrev LB:=List ByteArray
abbrev LV:=List Value
abbrev AV:=Array Value
abbrev LN:=List Nat
abbrev BA:=ByteArray
theorem _root_.Go.RowKit.Hid.o{p:Prop}(h:Go.RowKit.Hid p):p:=h
section
open Go.RowKit Go.Sort
theorem Yg:type_of% @Below.refl:=@Below.refl
theorem Yh:type_of% @Nat.le_refl:=@Nat.le_refl
theorem Yi:type_of% @World.block_lt_of_cell?:=@World.block_lt_of_cell?
theorem Yj:type_of% @World.cell?_alloc_lt:=@World.cell?_alloc_lt
theorem Yk:type_of% @List.getElem?_eq_getElem:=@List.getElem?_eq_getElem
theorem Yl:type_of% @List.not_mem_nil:=@List.not_mem_nil
theorem Ym:type_of% @Array.getElem?_eq_some_iff:=@Array.getElem?_eq_some_iff
theorem Yn:type_of% @World.cell?_of_block:=@World.cell?_of_block
theorem Yo:type_of% @List.length_append:=@List.length_append
theorem Yp:type_of% @List.mem_singleton:=@List.mem_singleton
theorem Yq:type_of% @List.length_cons:=@List.length_cons
theorem Yr:type_of% @Nat.le_trans:=@Nat.le_trans
theorem Ys:type_of% @Nat.zero_le:=@Nat.zero_le
theorem Yt:type_of% @Nat.lt_of_lt_of_le:=@Nat.lt_of_lt_of_le
theorem Yv:type_of% @Option.getD_some:=@Option.getD_some
theorem Yw:type_of% @List.mem_cons:=@List.mem_cons
theorem Yz:type_of% @List.take_of_length_le:=@List.take_of_length_le
theorem Zb:type_of% @Bool.false_eq_true:=@Bool.false_eq_true
theorem Zc:type_of% @List.mem_cons_self:=@List.mem_cons_self
theorem Zd:type_of% @List.getElem?_cons_zero:=@List.getElem?_cons_zero
theorem Ze:type_of% @List.getElem?_cons_succ:=@List.getElem?_cons_succ
theorem Zf:type_of% @Lib.toList_data:=@Lib.toList_data
theorem Zg:type_of% @List.length_nil:=@List.length_nil
theorem Zi:type_of% @List.mem_cons_of_mem:=@List.mem_cons_of_mem
theorem Zj:type_of% @List.all_eq_true:=@List.all_eq_true
theorem Zk:type_of% @List.getElem_mem:=@List.getElem_mem
theorem Zl:type_of% @Calls.regrown_of:=@Calls.regrown_of
theorem Zm:type_of% @List.getElem_of_mem:=@List.getElem_of_mem
theorem Zn:type_of% @AllReadyH.cons:=@AllReadyH.cons
theorem Zo:type_of% @AllReadyH.nil:=@AllReadyH.nil
theorem Zp:type_of% @Lib.size_eq:=@Lib.size_eq
theorem Zq:type_of% @Bool.eq_iff_iff:=@Bool.eq_iff_iff
theorem Zs:type_of% @World.cell?_alloc_new:=@World.cell?_alloc_new
theorem Zt:type_of% @List.map_append:=@List.map_append
theorem Zu:type_of% @List.eq_nil_of_length_eq_zero:=@List.eq_nil_of_length_eq_zero
theorem Zv:type_of% @List.length_drop:=@List.length_drop
theorem Zw:type_of% @cell_regrown:=@cell_regrown
theorem Zx:type_of% @below_regrown:=@below_regrown
theorem Zy:type_of% @bodyPost_ret:=@bodyPost_ret
theorem Zz:type_of% @wpList_store_row:=@wpList_store_row
theorem Xa:type_of% @heap_alloc_new:=@heap_alloc_new
theorem Xb:type_of% @heap_setCell_other:=@heap_setCell_other
theorem Xe:type_of% @wp_region_quiet_below:=@wp_region_quiet_below
theorem Xf:type_of% @beq_eq_false_iff_ne:=@beq_eq_false_iff_ne
theorem Xg:type_of% @below_setRow:=@below_setRow
theorem Xh:type_of% @setRow_heap:=@setRow_heap
theorem Xi:type_of% @setCell_eq_setRow:=@setCell_eq_setRow
theorem Xj:type_of% @wpAnyH_ready:=@wpAnyH_ready
theorem Xk:type_of% @wpQuiet_nil:=@wpQuiet_nil
theorem Xl:type_of% @List.map_cons:=@List.map_cons
theorem Xm:type_of% @Nat.le_of_eq:=@Nat.le_of_eq
end
theorem Hd {p :Prop}(h :p) :Go.RowKit.Hid p:=Lib.hid h
theorem Sx {P :Nat->Prop}(h :∀j,P j) :P 0/\P 1/\P 2/\P 3/\P 4/\P 5:=⟨h 0,h 1,h 2,h 3,h 4,h 5⟩
theorem Ya {α :Type}{l :List α}{i :Nat} :l.toArray[i]? =l[i]?:=List.getElem?_toArray
theorem Yb {α :Type}{a :α}{l :List α} :(a ::l)[0]? =some a:=Zd
theorem Yc {α :Type}{a :α}{l :List α}{i :Nat} :(a ::l)[i +1]? =l[i]?:=Ze
theorem Yd {α :Type}{l :List α}{i :Nat}{a :α} :l.toArray.setIfInBounds i a =(l.set i a).toArray:=by simp
theorem Ye {α :Type}{a b :α}{l :List α} :(a ::l).set 0 b =b ::l:=rfl
theorem Yf {α :Type}{a b :α}{l :List α}{i :Nat} :(a ::l).set (i +1) b =a ::l.set i b:=rfl
section
section
open Go.RowKit Go.Sort
theorem dM{P:Program}{Ae:Array Oper}{Q:Exit->Act->World->Prop}{md:Region.Mode}{S:World->Prop}{i:Nat}{oi:Oper}{v:Value}{fuel:Nat}{Aa:Array Bool}{a:Act}{w:World}(hS:S w)(h:wpAnyH P md Ae Q S fuel (Aa.setIfInBounds i true) (a.put oi.dst v) w)(hi:Ae[i]?=some oi:=by
 simp only[Ya,Yb,Yc];rfl)(hs:Region.noSelect Ae=true:=by kernel_rfl)(hf:Region.free md Ae Aa i=true:=by kernel_rfl)(hr:(Region.ready md Ae Aa).contains i=true:=by kernel_rfl)(hQ:∀c a w,Q (.panic c) (a.put oi.dst v) w->Q (.panic c) a w:=by exact fun _ _ _ h=>h)(hy:YieldsIf P Ae S oi v a:=by
 refine Or.inl ⟨rfl,?_⟩
 intro W Aq
 (try dsimp only at Aq)
 go_split_ands
 first|(go_simp;done)|(go_simp;with_reducible rfl)):wpAnyH P md Ae Q S (fuel+1) Aa a w:=wpAnyH_take hi hs hf hr hQ hy hS h
end
theorem eX(fn:Fn)(first cap:AV)(w:World):(Instr.makeFunc fn first cap).run Tryz.prog w=.ok (.func fn first cap) w:=rfl
theorem _root_.Go.RowKit.Below.tr{w w1 w2:World}(h:Go.RowKit.Below w.heap.size w w1)(k:Go.RowKit.Below w1.heap.size w1 w2):Go.RowKit.Below w.heap.size w w2:=h.trans (k.mono h.size)
variable{P:Prop}
theorem aA(h:P:=by omega):P:=h
theorem aE(h:P:=by kernel_rfl):P:=h
theorem aW(h:P:=by rw[eq_iff_iff,iff_false];omega):P:=h
theorem aF(h:P:=by decide):P:=h
theorem aC(h:P:=by simp):P:=h
theorem mF(h:P:=by first|exact((Yg _ _).alloc (Yh _) _)|exact((Yg _ _).alloc (Yh _) _).drew):P:=h
theorem eR(h:P:=by rw[Ba];simp):P:=h
theorem eC(h:P:=by simp[Value.oneCell']):P:=h
theorem cP(h:P:=by simp;omega):P:=h
theorem fZ(h:P:=by unfold maxLen;omega):P:=h
theorem bC(h:P:=by rfl):P:=h
theorem wS(h:P:=by rw[iJ];exact Fq.o a (by rw[Ba];simp)):P:=h
theorem lY(h:P:=by first|trivial|rfl):P:=h
theorem mX(h:P:=by rw[Fe.o];omega):P:=h
theorem pS(h:P:=by show w.heap.size<_;omega):P:=h
theorem pC(h:P:=by rw[Fk.o];exact Ah):P:=h
theorem aDn(h:P:=by simp[aB,fB,gT,iE,kO,sF,pO,oD,oF,mB,qO]):P:=h
theorem aDo(h:P:=by rw[iJ];exact Fq.o b (by rw[Ba];simp)):P:=h
theorem yS(h:P:=by rw[aM9];exact(aNx _).symm):P:=h
theorem aGe(h:P:=by rw[Yp.1 hk];exact Xm Dq.o):P:=h
theorem yT(h:P:=by rw[Zp];exact aC9 _):P:=h
theorem nZ(h:P:=by simpa using h):P:=h
theorem sM(h:P:=by simp[Nd.all,hd]):P:=h
theorem wT(h:P:=by rw[<-Fe.o,Ba];rfl):P:=h
theorem yU(h:P:=by exact Xa _ _):P:=h
theorem mY(h:P:=by assumption):P:=h
theorem aGf(h:P:=by rw[aBq];exact Zc):P:=h
theorem bFr(h:P:=by intro z hz;simp at hz;subst hz;simp[Lit.wf,IntKind.min,IntKind.max,IntKind.signed,IntKind.bits];omega):P:=h
theorem aQw(h:P:=by rw[aBq];exact Zi _ (aLn hy Iq)):P:=h
theorem aDp(h:P:=by rw[Xf];omega):P:=h
theorem vF(h:P:=by rw[<-Af];simp):P:=h
theorem aGg(h:P:=by unfold Addr.add;split<;>simp_all):P:=h
theorem vG(h:P:=by simpa using hi):P:=h
theorem wU(h:P:=by simp[cO,Dv]):P:=h
theorem aQx(h:P:=by rw[Yk hi];exact Zk _):P:=h
theorem aQy(h:P:=by rw[Yk hk];exact Zk _):P:=h
theorem wV(h:P:=by simpa using h1):P:=h
theorem wW(h:P:=by simpa using hf):P:=h
theorem aA3(h:P:=by simp[results,Tryz.results205,go_sem]):P:=h
theorem aKm(h:P:=by rw[Zf];simpa using Fo):P:=h
theorem bFs(h:P:=by simp only[kS,h1,h2,if_true,if_false,hw,PR.bind_ok,hx,Zb]):P:=h
theorem yV(h:P:=by simp[cO,hk]):P:=h
theorem aGh(h:P:=by rw[IntKind.wrap_i64];omega):P:=h
theorem aKn(h:P:=by rw[<-Af];exact Xa _ _):P:=h
theorem bFt(h:P:=by first|exact Kf|exact aG3 Kf|exact aG3 (m:=1) Kf):P:=h
theorem bFu(h:P:=by unfold World.cell? at Ca⊢;rw[Cv.block _ (Bv 1 (by decide))];exact Ca):P:=h
theorem aGi(h:P:=by have:=An.size;simp;omega):P:=h
theorem aDq(h:P:=by rw[iJ];omega):P:=h
theorem bFv(h:P:=by rcases hm with h|h|h;exact h;exact absurd h h1;exact absurd h h2):P:=h
theorem aQz(h:P:=by have:=hn.size;have:=h2.size;simp at *;omega):P:=h
theorem bFw(h:P:=by rw[Zp,aNa,Zv,<-Zp];omega):P:=h
theorem aQ0(h:P:=by have:=h.f2;show n.outs.length+m<=_;omega):P:=h
theorem aQ1(h:P:=by have:=h.f3;show n.vars.length+m<=_;omega):P:=h
theorem aGj(h:P:=by rw[HL.o];exact Ah):P:=h
theorem aQ2(h:P:=by have:=h.f4;show n.eqs.length+m<=_;omega):P:=h
theorem aQ3(h:P:=by have:=h.f1;show n.ins.length+m<=_;omega):P:=h
theorem aKo(h:P:=by have:=gP h2 k Cb;omega):P:=h
theorem wX(h:P:=by simp[hx]):P:=h
theorem aDr(h:P:=by simp[cO,Ek]):P:=h
theorem aQ4(h:P:=by simp[results,Tryz.results224,go_sem]):P:=h
theorem aKp(h:P:=by rw[Cm];simp at Cz;omega):P:=h
theorem bFx(h:P:=by rw[<-Hi];exact(Yg _ _).alloc (Yh _) _):P:=h
theorem aDs(h:P:=by simp[dG,hi]):P:=h
theorem aDt(h:P:=by simpa using Dg):P:=h
theorem aKq(h:P:=by simp[aJ,Value.oneCell']):P:=h
theorem aQ5(h:P:=by rw[aIn,bV2];simpa using ho):P:=h
theorem aKr(h:P:=by rw[<-Zp];omega):P:=h
theorem bFy(h:P:=by have h1:=Cp.o.rd.1;have h2:=Ij.o.1.pos;omega):P:=h
theorem aKs(h:P:=by rw[Iv.o];exact Ah):P:=h
theorem bFz(h:P:=by simp only[sH,hE,PR.bind_ok,hl,hn,PR.bind_bad]):P:=h
theorem bF0(h:P:=by have:=Fa.o.size;have:=Ew.o.size;simp;omega):P:=h
theorem bF1(h:P:=by rw[iJ];exact Fq.o c (by rw[Ba];simp)):P:=h
theorem bF2(h:P:=by simp only[kS,h1,if_true,hy,PR.bind_ok,hn,hx]):P:=h
theorem yW(h:P:=by simp[e]):P:=h
theorem bF3(h:P:=by rw[World.cell?_alloc_at _ _ _ _ (by simp)];rfl):P:=h
theorem bF4(h:P:=by rw[Yp.1 hk,Ep];exact Ji.o):P:=h
theorem aQ6(h:P:=by rw[pG,xJ];omega):P:=h
theorem bF5(h:P:=by simp only[sH,hE,PR.bind_ok,hl,PR.bind_bad]):P:=h
theorem bF6(h:P:=by simp only[qP,h1,if_true,hy,PR.bind_ok,hl]):P:=h
theorem bF7(h:P:=by have:=gP Hj.o k hk;have:=HM.o;omega):P:=h
theorem bF8(h:P:=by rw[<-aAa s k h];exact Zk _):P:=h
theorem bF9(h:P:=by rw[fC];exact iQ hb):P:=h
theorem aKt(h:P:=by have:=Gc.o;omega):P:=h
theorem bGa(h:P:=by simp[World.cell?,show W.heap[B]?=_ from h]):P:=h
theorem aKu(h:P:=by rw[aW9];omega):P:=h
theorem aGk(h:P:=by simpa using h2):P:=h
theorem aGl(h:P:=by simpa using h5):P:=h
theorem bGb(h:P:=by rw[Yp.1 hk];exact Ji.o):P:=h
theorem bGc(h:P:=by simpa[Addr.add]using World.cell?_spot h0):P:=h
theorem bGd(h:P:=by simp[dG,gL,sW,aDe,cR,h1,h2,h3]):P:=h
theorem aKv(h:P:=by rw[aBy];simp):P:=h
theorem aDu(h:P:=by simp[aB]):P:=h
theorem aQ7(h:P:=by rw[Zq];simp):P:=h
theorem bGe(h:P:=by show w.heap.size<=w.heap.size+1+1;omega):P:=h
theorem bGf(h:P:=by simp[results,Tryz.results134,go_sem]):P:=h
theorem aQ8(h:P:=by have:=Dw.lt;simp;omega):P:=h
theorem aDv(h:P:=by simp[hz]):P:=h
theorem bGg(h:P:=by simp only[sH,hE,PR.bind_ok,hl,hn]):P:=h
theorem bGh(h:P:=by simp[results,Tryz.results14,go_sem]):P:=h
theorem aQ9(h:P:=by rw[Le.o];exact Ah):P:=h
theorem aO4(h:P:=by rw[Gr.o];exact Hy):P:=h
theorem aO5(h:P:=by simpa[eF]using e1):P:=h
theorem aO6(h:P:=by rw[Fe.o];exact hj):P:=h
theorem bBz(h:P:=by rw[Yo]at hg;omega):P:=h
theorem bB0(h:P:=by rw[<-aMn];exact bL4 _):P:=h
theorem aJf(h:P:=by simpa using Jw):P:=h
theorem bB1(h:P:=by rw[<-Hi];exact Xa _ _):P:=h
theorem bB2(h:P:=by simp only[Zv];omega):P:=h
theorem bB3(h:P:=by simp only[nY,he,PR.bind_ok,hx]):P:=h
theorem bB4(h:P:=by rw[List.length_map,Fk.o];omega):P:=h
theorem aJg(h:P:=by simpa using s1):P:=h
theorem bB5(h:P:=by rw[qD];exact Yh _):P:=h
theorem bB6(h:P:=by rw[o6];exact lL.mono o4 Eu.2):P:=h
theorem aJh(h:P:=by simpa using h6):P:=h
theorem aJi(h:P:=by rw[Cm];omega):P:=h
theorem bB7(h:P:=by simp only[sH,hE,PR.bind_bad]):P:=h
theorem bB8(h:P:=by rw[fC];exact Yh _):P:=h
theorem bB9(h:P:=by unfold qU;rw[aCi hi];rfl):P:=h
theorem aJj(h:P:=by rw[Ia];simp):P:=h
theorem aO7(h:P:=by have:=hb.size;omega):P:=h
theorem aJk(h:P:=by simp[dK]):P:=h
theorem bCa(h:P:=by rw[<-Kh];exact Bc.o.cell 4):P:=h
theorem aFv(h:P:=by simp[hy]):P:=h
theorem aJl(h:P:=by rw[Cq,Ip]):P:=h
theorem aJm(h:P:=by rw[hm];simp):P:=h
theorem aO8(h:P:=by rw[HL.o];omega):P:=h
theorem aO9(h:P:=by have:=h.pos;omega):P:=h
theorem aPa(h:P:=by rw[Gy.o];rfl):P:=h
theorem aPb(h:P:=by simp[cO,Fh]):P:=h
theorem aFw(h:P:=by cases h):P:=h
theorem mQ(h:P:=by rw[HE.o];rfl):P:=h
theorem aPc(h:P:=by simp[cO,h6]):P:=h
theorem aPd(h:P:=by simp[cO,h7]):P:=h
theorem aPe(h:P:=by simp[cO,h8]):P:=h
theorem aPf(h:P:=by simp[cO,h9]):P:=h
theorem aJn(h:P:=by simp[aG]):P:=h
theorem aPg(h:P:=by cases x<;>rfl):P:=h
theorem aPh(h:P:=by rw[<-hW];simp):P:=h
theorem fK0(h:P:=by
 have Jy:=Hd (show dB y Aa ca B5 Iu=[.int .i64 y.k,.int .i64 y.n,.string y.s,.int .i64 y.op,.slice Aa y.arms.length ca,.slice B5 y.subs.length Iu]from rfl);generalize y.k=yk at *;generalize y.n=yn at *;generalize y.s=ys at *;generalize y.op=yo at *;generalize y.arms.length=ya at *;generalize y.subs.length=yb at *;have u0:=Dz.o.at_ 0 p0 _ rfl;have u1:=Dz.o.at_ 1 p1 _ rfl;have u2:=Dz.o.at_ 2 p2 _ rfl;have u3:w5.cell? ⟨b,3,none⟩=some (.slice A3 ps.length cp):=Ea.o.cell 3;have l0:=Yi _ _ u0;have l1:=Yi _ _ u1;have l2:=Yi _ _ u2;have le:=Ff.o.lt;have lb:=Ea.o.lt;have u3a:=fun o=>(Yj w5 o ⟨b,3,none⟩ lb).trans u3;have np0:(Value.slice A3 ps.length cp).ownBlock≠some p0:=fun e=>Dz.o.ne 0 p0 _ rfl (Ea.o.lp p0 e) rfl;have np1:(Value.slice A3 ps.length cp).ownBlock≠some p1:=fun e=>Dz.o.ne 1 p1 _ rfl (Ea.o.lp p1 e) rfl;have np2:(Value.slice A3 ps.length cp).ownBlock≠some p2:=fun e=>Dz.o.ne 2 p2 _ rfl (Ea.o.lp p2 e) rfl;have nb0:p0≠b:=Dz.o.ne 0 p0 _ rfl Ea.o.lb;have nb1:p1≠b:=Dz.o.ne 1 p1 _ rfl Ea.o.lb;have nb2:p2≠b:=Dz.o.ne 2 p2 _ rfl Ea.o.lb;have Il:=Hd fun w' (hb:Below w5.heap.size w5 w')=>rM (bTt Ig.o hf) hb
 have Jm:=Hd (show ∀ ad,some (⟨w5.heap.size,0,none⟩:Addr)=some ad->∀ j u,([.int .i64 yk,.int .i64 yn,.string ys,.int .i64 yo,.slice Aa ya ca,.slice B5 yb Iu]:LV)[j]?=some u->(w5.alloc (.cells #[.int .i64 yk,.int .i64 yn,.string ys,.int .i64 yo,.slice Aa ya ca,.slice B5 yb Iu] 79)).drew.cell? (ad.add j)=some u from fun ad e j u hu=>by
  injection e with e;subst e;rw[aSc];exact(Zs w5 _ _ j).trans (by simpa using hu))
 have Gg:=Hd (show ∀ u∈([.int .i64 yk,.int .i64 yn,.string ys,.int .i64 yo,.slice Aa ya ca,.slice B5 yb Iu]:LV),u.oneCell'=true from fun u hu=>by
  simp only[Yw,Yl,or_false]at hu;rcases hu with rfl|rfl|rfl|rfl|rfl|rfl<;>rfl)
 refine wp_region_held_drew (S:=(fun W=>W.cell? ⟨p0,0,none⟩=some (rp b)/\W.cell? ⟨p1,0,none⟩=some (rp eb)/\W.cell? ⟨p2,0,none⟩=some (.int .i64 (f:Int))/\W.cell? ⟨eb,0,none⟩=some (.int .i64 yk)/\W.cell? ⟨eb,1,none⟩=some (.int .i64 yn)/\W.cell? ⟨eb,2,none⟩=some (.string ys)/\W.cell? ⟨eb,3,none⟩=some (.int .i64 yo)/\W.cell? ⟨eb,4,none⟩=some (.slice Aa ya ca)/\W.cell? ⟨eb,5,none⟩=some (.slice B5 yb Iu))) aE ?_ (fun hHeld=>?_);· exact⟨u0,u1,u2,v0,v1,v2,v3,v4,v5⟩
 refine dM (i:=0) (v:=rp b) hHeld ?_
 (try simp only[Act.put,Yd,Ye,Yf])
 refine dM (i:=1) (v:=rp b) hHeld ?_
 (try simp only[Act.put,Yd,Ye,Yf])
 refine dM (i:=2) (v:=rp b) hHeld ?_
 (try simp only[Act.put,Yd,Ye,Yf])
 refine dM (i:=3) (v:=.pointer (some ⟨b,3,none⟩)) hHeld ?_
 (try simp only[Act.put,Yd,Ye,Yf])
 refine dM (i:=5) (v:=.int .i64 (f:Int)) hHeld ?_
 (try simp only[Act.put,Yd,Ye,Yf])
 refine dM (i:=7) (v:=rp eb) hHeld ?_
 (try simp only[Act.put,Yd,Ye,Yf])
 refine dM (i:=8) (v:=rp eb) hHeld ?_
 (try simp only[Act.put,Yd,Ye,Yf])
 refine dM (i:=9) (v:=.agg #[.int .i64 yk,.int .i64 yn,.string ys,.int .i64 yo,.slice Aa ya ca,.slice B5 yb Iu]) hHeld ?_
 (try simp only[Act.put,Yd,Ye,Yf])
 refine Xj (rs:=[4,10]) aE aC ?_;refine Zn bC (fun K hK=>?_) ?_
 . go_simp;refine hK.out _ _ ?_ (fun hHeld=>?_);· exact⟨u0,u1,u2,v0,v1,v2,v3,v4,v5⟩
   clear hK K
   (try simp only[Act.put,Yd,Ye,Yf])
   refine dM (i:=6) (v:=.slice A3 f cp) hHeld ?_
   (try simp only[Act.put,Yd,Ye,Yf])
   refine Xj (rs:=[10]) aE aC ?_;refine Zn bC (fun K hK=>?_) ?_
   . go_simp;refine hK.out _ _ ?_ (fun hHeld=>?_);· exact⟨(Yj _ _ _ l0).trans u0,(Yj _ _ _ l1).trans u1,(Yj _ _ _ l2).trans u2,(Yj _ _ _ le).trans v0,(Yj _ _ _ le).trans v1,(Yj _ _ _ le).trans v2,(Yj _ _ _ le).trans v3,(Yj _ _ _ le).trans v4,(Yj _ _ _ le).trans v5⟩
     clear hK K
     (try simp only[Act.put,Yd,Ye,Yf])
     refine Xj (rs:=[11]) aE aC ?_;refine Zn bC (fun K hK=>?_) ?_
     . refine zG bC _ _ _ bC 0 79 i0 _ 6 88 Tryz.underlying77 hi Co Cm Cr rfl aF (.slice A3 f cp) f (cs.take (f*6)) bC (Il.o _ (by exact((Yg _ _).alloc (Yh _) _).drew)) (some ⟨w5.heap.size,0,none⟩) 1 1 [.int .i64 yk,.int .i64 yn,.string ys,.int .i64 yo,.slice Aa ya ca,.slice B5 yb Iu] bC rfl (fun h=>by cases h) Jm.o Gg.o fZ aA (Ys _) ?_;intro A6 c6 w6 hown6 hgrow6 hat6;have HG6:=Hd hgrow6;have HOW6:=Hd hown6;have HAT6:=Hd hat6;have Ee:=Hd fun k (hk:k<w5.heap.size)(hn:(Value.slice A3 ps.length cp).ownBlock≠some k)=>(show w6.heap[k]?=w5.heap[k]? from(hgrow6.block k cP (fun e=>hn ((aCw A3 _ _ _ _).trans e.symm))).trans (heap_alloc_old w5 _ hk));have x0:=(Yn (Ee.o p0 l0 np0)).trans u0;have x1:=(Yn (Ee.o p1 l1 np1)).trans u1;have x2:=(Yn (Ee.o p2 l2 np2)).trans u2;have y0:=(Yn (Ee.o eb le hv.o)).trans v0;have y1:=(Yn (Ee.o eb le hv.o)).trans v1;have y2:=(Yn (Ee.o eb le hv.o)).trans v2;have y3:=(Yn (Ee.o eb le hv.o)).trans v3;have y4:=(Yn (Ee.o eb le hv.o)).trans v4;have y5:=(Yn (Ee.o eb le hv.o)).trans v5;have x3:=(Yn (Ee.o b lb Ea.o.vp_ne)).trans u3;have fz3:w6.frozen? ⟨b,3,none⟩=false:=(World.frozen?_of_block (Ee.o b lb Ea.o.vp_ne)).trans (Ea.o.q.fz 3);clear hown6 hgrow6 hat6;refine hK.out _ _ ?_ (fun hHeld=>?_);· exact⟨x0,x1,x2,y0,y1,y2,y3,y4,y5⟩
       clear hK K
       (try simp only[Act.put,Yd,Ye,Yf])
       refine dM (i:=12) (v:=rp b) hHeld ?_
       (try simp only[Act.put,Yd,Ye,Yf])
       refine dM (i:=13) (v:=.pointer (some ⟨b,3,none⟩)) hHeld ?_
       (try simp only[Act.put,Yd,Ye,Yf])
       refine Xj (rs:=[14]) aE aC ?_;refine Zn bC (fun K hK=>?_) ?_
       . go_simp;refine hK.out _ _ ?_ (fun hHeld=>?_);· exact⟨(iC _ _ nb0).trans x0,(iC _ _ nb1).trans x1,(iC _ _ nb2).trans x2,(iC _ _ Dg).trans y0,(iC _ _ Dg).trans y1,(iC _ _ Dg).trans y2,(iC _ _ Dg).trans y3,(iC _ _ Dg).trans y4,(iC _ _ Dg).trans y5⟩
         clear hK K
         (try simp only[Act.put,Yd,Ye,Yf])
         refine wpAnyH_done aE ?_ _;go_wp2_with fail;go_end0
         show bF w b A n c all va st (.slice A3 ps.length cp) L [eb] (.ok ([],qR _ f ps sz,sz+1) r) _ _;rw[Jp.o];exact aT1 HM.o Ea.o Ht.o hf Lw.o Mg.o (show Below w5.heap.size w5 (w5.alloc _).drew from((Yg _ _).alloc (Yh _) _).drew) (by rw[aCw A3 ps.length cp f cp];exact HG6.o) (by rw[Jy.o];exact HOW6.o) (by rw[aCw A3 ps.length cp f cp];exact HAT6.o)
       exact Zo
     exact Zo
   exact Zo
 refine Zn bC (fun K hK=>?_) ?_
 . go_simp;refine hK.out _ _ ?_ (fun hHeld=>?_);· exact⟨(Yj _ _ _ l0).trans u0,(Yj _ _ _ l1).trans u1,(Yj _ _ _ l2).trans u2,(Yj _ _ _ le).trans v0,(Yj _ _ _ le).trans v1,(Yj _ _ _ le).trans v2,(Yj _ _ _ le).trans v3,(Yj _ _ _ le).trans v4,(Yj _ _ _ le).trans v5⟩
   clear hK K
   (try simp only[Act.put,Yd,Ye,Yf])
   refine Xj (rs:=[4]) aE aC ?_;refine Zn bC (fun K hK=>?_) ?_
   . go_simp;refine hK.out _ _ ?_ (fun hHeld=>?_);· exact⟨(Yj _ _ _ l0).trans u0,(Yj _ _ _ l1).trans u1,(Yj _ _ _ l2).trans u2,(Yj _ _ _ le).trans v0,(Yj _ _ _ le).trans v1,(Yj _ _ _ le).trans v2,(Yj _ _ _ le).trans v3,(Yj _ _ _ le).trans v4,(Yj _ _ _ le).trans v5⟩
     clear hK K
     (try simp only[Act.put,Yd,Ye,Yf])
     refine dM (i:=6) (v:=.slice A3 f cp) hHeld ?_
     (try simp only[Act.put,Yd,Ye,Yf])
     refine Xj (rs:=[11]) aE aC ?_;refine Zn bC (fun K hK=>?_) ?_
     . refine zG bC _ _ _ bC 0 79 i0 _ 6 88 Tryz.underlying77 hi Co Cm Cr rfl aF (.slice A3 f cp) f (cs.take (f*6)) bC (Il.o _ (by exact((Yg _ _).alloc (Yh _) _).drew)) (some ⟨w5.heap.size,0,none⟩) 1 1 [.int .i64 yk,.int .i64 yn,.string ys,.int .i64 yo,.slice Aa ya ca,.slice B5 yb Iu] bC rfl (fun h=>by cases h) Jm.o Gg.o fZ aA (Ys _) ?_;intro A6 c6 w6 hown6 hgrow6 hat6;have HG6:=Hd hgrow6;have HOW6:=Hd hown6;have HAT6:=Hd hat6;have Ee:=Hd fun k (hk:k<w5.heap.size)(hn:(Value.slice A3 ps.length cp).ownBlock≠some k)=>(show w6.heap[k]?=w5.heap[k]? from(hgrow6.block k cP (fun e=>hn ((aCw A3 _ _ _ _).trans e.symm))).trans (heap_alloc_old w5 _ hk));have x0:=(Yn (Ee.o p0 l0 np0)).trans u0;have x1:=(Yn (Ee.o p1 l1 np1)).trans u1;have x2:=(Yn (Ee.o p2 l2 np2)).trans u2;have y0:=(Yn (Ee.o eb le hv.o)).trans v0;have y1:=(Yn (Ee.o eb le hv.o)).trans v1;have y2:=(Yn (Ee.o eb le hv.o)).trans v2;have y3:=(Yn (Ee.o eb le hv.o)).trans v3;have y4:=(Yn (Ee.o eb le hv.o)).trans v4;have y5:=(Yn (Ee.o eb le hv.o)).trans v5;have x3:=(Yn (Ee.o b lb Ea.o.vp_ne)).trans u3;have fz3:w6.frozen? ⟨b,3,none⟩=false:=(World.frozen?_of_block (Ee.o b lb Ea.o.vp_ne)).trans (Ea.o.q.fz 3);clear hown6 hgrow6 hat6;refine hK.out _ _ ?_ (fun hHeld=>?_);· exact⟨x0,x1,x2,y0,y1,y2,y3,y4,y5⟩
       clear hK K
       (try simp only[Act.put,Yd,Ye,Yf])
       refine dM (i:=12) (v:=rp b) hHeld ?_
       (try simp only[Act.put,Yd,Ye,Yf])
       refine dM (i:=13) (v:=.pointer (some ⟨b,3,none⟩)) hHeld ?_
       (try simp only[Act.put,Yd,Ye,Yf])
       refine Xj (rs:=[14]) aE aC ?_;refine Zn bC (fun K hK=>?_) ?_
       . go_simp;refine hK.out _ _ ?_ (fun hHeld=>?_);· exact⟨(iC _ _ nb0).trans x0,(iC _ _ nb1).trans x1,(iC _ _ nb2).trans x2,(iC _ _ Dg).trans y0,(iC _ _ Dg).trans y1,(iC _ _ Dg).trans y2,(iC _ _ Dg).trans y3,(iC _ _ Dg).trans y4,(iC _ _ Dg).trans y5⟩
         clear hK K
         (try simp only[Act.put,Yd,Ye,Yf])
         refine wpAnyH_done aE ?_ _;go_wp2_with fail;go_end0
         show bF w b A n c all va st (.slice A3 ps.length cp) L [eb] (.ok ([],qR _ f ps sz,sz+1) r) _ _;rw[Jp.o];exact aT1 HM.o Ea.o Ht.o hf Lw.o Mg.o (show Below w5.heap.size w5 (w5.alloc _).drew from((Yg _ _).alloc (Yh _) _).drew) (by rw[aCw A3 ps.length cp f cp];exact HG6.o) (by rw[Jy.o];exact HOW6.o) (by rw[aCw A3 ps.length cp f cp];exact HAT6.o)
       exact Zo
     exact Zo
   exact Zo
 exact Zo):P:=h
theorem fK1(h:P:=by
 refine hK.out _ _ ?_ (fun hHeld=>?_);· exact⟨e0,e3⟩
 clear hK K
 (try simp only[Act.put,Yd,Ye,Yf])
 refine Xj (rs:=[7]) aE aC ?_;refine Zn bC (fun K hK=>?_) ?_
 . go_simp;refine hK.out _ _ ?_ (fun hHeld=>?_);· exact⟨(Yj _ _ _ l0).trans e0,(Yj _ _ _ l3).trans e3⟩
   clear hK K
   (try simp only[Act.put,Yd,Ye,Yf])
   refine Xj (rs:=[8]) aE aC ?_;refine Zn bC (fun K hK=>?_) ?_
   . refine step_append_lies _ bC _ _ _ bC 0 9 i0 (.string ⟨#[]⟩) 1 16 Tryz.underlying62 hi Co Cm Cr rfl aF (.slice Aa x.arms.length ca) x.arms.length (x.arms.map Value.string) bC (Je.o _ mF) ⟨w2.heap.size,0,none⟩ 1 1 [.string (aB a)] bC rfl (cell_one_new _ _ _) (fun u hu=>by rw[Yp.1 hu];rfl) aA fZ aA (Ys _) _ rfl ?_;intro g4 c4 w4 Bh As Cw Dt;have Ga:=Hd Bh;have Ks:=Hd As;have Hu:=Hd Cw;have Fy:∀k,k<w2.heap.size->(Value.slice Aa x.arms.length ca).ownBlock≠some k->w4.heap[k]?=w2.heap[k]?:=fun k hk hn=>(As.block k cP (fun e=>hn e.symm)).trans (heap_alloc_old w2 _ hk);have y0:=(Yn (Fy p0 l0 Mj)).trans e0;have y3:=(Yn (Fy p3 l3 Mv)).trans e3;have y4:=(Yn (Fy eb le Lx)).trans v4;have Md:w4.frozen? ⟨eb,4,none⟩=false:=(World.frozen?_of_block (Fy eb le Lx)).trans (Cn.o.fz 4);clear Bh As Cw Fy;refine hK.out _ _ ?_ (fun hHeld=>?_);· exact⟨y0,y3⟩
     clear hK K
     (try simp only[Act.put,Yd,Ye,Yf])
     refine dM (i:=9) (v:=rp eb) hHeld ?_
     (try simp only[Act.put,Yd,Ye,Yf])
     refine dM (i:=10) (v:=.pointer (some ⟨eb,4,none⟩)) hHeld ?_
     (try simp only[Act.put,Yd,Ye,Yf])
     refine Xj (rs:=[11]) aE aC ?_;refine Zn bC (fun K hK=>?_) ?_
     . go_simp;refine hK.out _ _ ?_ (fun hHeld=>?_);· exact⟨(iC _ _ Mx).trans y0,(iC _ _ Mo).trans y3⟩
       clear hK K
       (try simp only[Act.put,Yd,Ye,Yf])
       refine wpAnyH_done aE ?_ _;go_upto_region 2 with(fail);have Bh:=Ga.o;obtain⟨Hr,Ls,Ez,Kc,Iw⟩:=aXl (a:=a) Cf.o Hv Cn.o (Je.o w2 (Yg _ _)) Gn hv mF Ks.o Bh Hu.o Dt;have Ea:=Hd Hr;have He:=Hd Ls;have Me:=Hd Iw;have Ht:=Hd ((Hz.o.mono (eZ (va:=va) (vp:=vp) (ft:=ft))).trans Ez HM.o.lv (fun k hk=>.inl (aCc k (by rw[Jk];exact hk))));have Mc:g4∈ft\/w.heap.size<=g4:=Kc.elim (fun h=>.inl (by rw[Jk];exact Zi _ h)) (fun h=>.inr (Yr Hz.o.size h));have Ja:∀k∈eb::(Value.slice Aa x.arms.length ca).ownBlock.toList,k∈L:=Gn;have Dz:=Hd (Da.o.up Ez Ja);have Jd:=Hd ((Mp.o.up Hz.o (cV HM.o)).up Ez Ja);have Jc:=Hd (aZk Ea.o He.o hv);clear Hr Ls Ez Kc Iw Ja e0 e3 v4 y0 y3 y4 Md l0 l3 le Ga Ks Hu Cn Je Cf Da Bh;generalize w4.setCell _ _=w5 at *;have d0:=Dz.o.at_ 0 p0 _ rfl;cases Gu:aR [45,62] q2 with
       |bad q=>
        have Jl:=Hd (cW.bad_ (show Calls Tryz.prog 261 #[rp b,.string ⟨#[45,62]⟩] w5 (cW w5 b A n c all va vp sz (aR [45,62] q2) fun _ e=>e=.returned (.tuple #[]))from pJ ⟨#[45,62]⟩ aIu Ea.o.q) Gu);have Hx:=Hd Gu;clear Gu;go_wp2_with fail;refine Jl.o.mono ?_;rintro e w6 ⟨rfl,Gp,Bo⟩;obtain⟨Ft,Ds⟩:=Ea.o.move Gp Bo;have Kt:=Hd Gp;have Hl:=Hd (Ht.o.trans Ds HM.o.lv (fun k hk=>.inl (eZ k hk)));clear Gp Bo Ft Ds;go_wp2_with fail;refine⟨rfl,?_⟩;rw[Hx.o];exact⟨rfl,⟨_,Hl.o⟩,va,vp,sz,Kt.o.row⟩
       |ok u5 q3=>
        have Jl:=Hd (cW.ok_ (show Calls Tryz.prog 261 #[rp b,.string ⟨#[45,62]⟩] w5 (cW w5 b A n c all va vp sz (aR [45,62] q2) fun _ e=>e=.returned (.tuple #[]))from pJ ⟨#[45,62]⟩ aIu Ea.o.q) Gu);have Hx:=Hd Gu;clear Gu;go_wp2_with fail;refine Jl.o.mono ?_;rintro e w6 ⟨rfl,Gp,Bo⟩;obtain⟨Ft,Ds⟩:=Ea.o.move Gp Bo;have Dn:=Hd Ft;have Hl:=Hd (Ht.o.trans Ds HM.o.lv (fun k hk=>.inl (eZ k hk)));have Ka:∀k∈[eb,g4],k∉[b]:=fun k hk hb=>(Jc.o k hk).1 (Yp.1 hb);have Mh:=Hd (He.o.up Ds Ka);have Kn:=Hd (Jd.o.up Ds (cV Ea.o));have Ie:=Hd (Dz.o.up Ds (cV Ea.o));have d0:=Ie.o.at_ 0 p0 _ rfl;have d1:=Ie.o.at_ 2 p4 _ rfl;have l0:=Yi _ _ d0;have l1:=Yi _ _ d1;have Is:w5.heap.size<=w6.heap.size:=Ds.size;clear Gp Bo Ft Ds Dz He Jd Ht;go_upto_region 3 with(fail);go_region_held3 (fun W=>W.cell? ⟨p0,0,none⟩=some (rp b)/\W.cell? ⟨p4,0,none⟩=some (aN 318 #[rp p0,rp p1,rp p2])) (first|exact⟨d0,d1⟩|exact⟨e0,e1⟩|exact⟨(Yj _ _ _ m0).trans e0,(Yj _ _ _ m1).trans e1⟩|exact⟨f0,f1⟩)
         ((first
           |(go_at_call 312;refine(uO (b:=b) ⟨#[41]⟩ _).mono ?_;rintro e Ws ⟨s0,s1,rfl,Cv,Be,Ca,Ce⟩;have Jf:Hid (Below w6.heap.size w6 Ws):=Hd (by first|exact Cv|exact aG3 (m:=1) Cv);have Lp:Hid (w6.heap.size<=s0/\w6.heap.size<=s1):=Hd Be;have Kv:=Hd Ca;have Gs:=Hd Ce;have Ku:=Hd (Ie.o.up (Tn.of_below (S:=[]) Jf.o) bS);have e0:=Ku.o.at_ 0 p0 _ rfl;have e1:=Ku.o.at_ 2 p4 _ rfl;have m0:=Yi _ _ e0;have m1:=Yi _ _ e1;clear Cv Be Ca Ce)
           |(go_at_call 246;refine(kQ [bA b .arrow,aN 317 #[rp s0,rp s1],aN 318 #[rp p0,rp p1,rp p2]] 1 aC (Dn.o.below Jf.o) aA (cJ (cJ (cJ iB)))).mono ?_;rintro e Wb ⟨rfl,hx⟩;have HX:=Hd hx;obtain⟨Kw,L3,Er,Ec,Ib⟩:=hx;have Hq:=Hd ((Ku.o.up (gI _) bS).up Ec (mJ (Dn.o.below Jf.o)));have f0:=Hq.o.at_ 0 p0 _ rfl;have f1:=Hq.o.at_ 2 p4 _ rfl;clear Er Ec Ib)))
        all_goals
         go_wp2_with fail;go_end0
         have Cc:=(Tn.of_below (S:=[]) (L:=g4::L) Jf.o).trans (gI (L:=g4::L) (w:=Ws) (.cells #[bA b .arrow,aN 317 #[rp s0,rp s1],aN 318 #[rp p0,rp p1,rp p2]] 1)) Dn.o.lv (fun k hk=>absurd hk Yl);have Dp:∀s,w6.heap.size<=s->s∉g4::L:=fun s hs hk=>by have:=Dn.o.lv s hk;omega
         have hcs:∀s v,Ws.cell? ⟨s,0,none⟩=some v->w6.heap.size<=s->Fz (g4::L) (Ws.alloc (.cells #[bA b .arrow,aN 317 #[rp s0,rp s1],aN 318 #[rp p0,rp p1,rp p2]] 1)) s v:=fun s v hv hs=>Fz.new ((Yj _ _ _ (Yi _ _ hv)).trans hv) (Dp s hs);rw[Hx.o];refine zQ (new:=[.m .arrow,.sign [41],.more (rZ x a) f]) (vt:=[bA b .arrow,aN 317 #[rp s0,rp s1],aN 318 #[rp p0,rp p1,rp p2]]) (fts:=[eb,g4]) HM.o (Hl.o.trans Cc HM.o.lv (fun k hk=>absurd hk Yl)) ((Dn.o.below Jf.o).alloc _) (dQ.refl _ _) ?_ ?_ (fun k hk=>?_) (fun k hk=>?_) ⟨rfl,HX.o⟩;· exact⟨[],[eb,g4],rfl,⟨rfl,rfl⟩,[],[eb,g4],rfl,⟨rfl,aCv,s0,s1,rfl,hcs _ _ Kv.o Lp.o.1,hcs _ _ Gs.o Lp.o.2⟩,[eb,g4],[],rfl,⟨eb,Mh.o.up Cc (fun k hk=>Yl),Kn.o.up Cc bS⟩,rfl⟩
         . simp[Ne.symm Me.o]
         . simp only[Yw,Yl,or_false]at hk;rcases hk with rfl|rfl;· exact .inl (by rw[Jk];exact Zc)
           . exact Mc
         . obtain⟨t1,t2,t3,t4⟩:=Jc.o k hk;exact⟨t1,t2,t3,Yt t4 (Yr Is Cc.size)⟩
     exact Zo
   exact Zo
 exact Zo):P:=h
theorem fK2(h:P:=by
 obtain⟨k,hk,rfl,rfl,An⟩:=hrel;have Bk:=Hd An;have q4:=HC.o wr An 4;simp only[Ya,Yb,Yc]at q4;have Ih:(aB (hd++kV (qs.take k))).size<=20000000+1500000*k:=by
  have:=Gr.o k
  rw[iJ,Yo];omega
 by_cases Ah:k<n
 . obtain⟨b,off,B,cB0,D,cD,F,cF,rfl,Cl,⟨r1,r2,r3,r4,r5⟩,e0,e1,e2,e3,e4,e5,e6⟩:=aI5 (Gq.o.below An).2 (by rw[Gj,Kg.o];exact Ah);rw[Gj]at r1 r2 r3 r4 r5 e0 e1 e2 e3 e4 e5 e6;have hyq:=Nb.o k Ah;have HQK:=Hd (Iy.o k Ah);have hns2:(aB (dI 44 ((qs[k]?.getD default).ns.map iH))).size<=1002000:=by
    have h1:=zR (s:=44) (m:=1000) (l:=(qs[k]?.getD default).ns.map iH) (fun a ha=>by
     obtain⟨s,hs,rfl⟩:=List.mem_map.1 ha;exact hyq.2.1 s hs)
    rw[List.length_map]at h1;have h2:=hyq.1;rw[iJ];omega
   have htx:=aOc (aFt r3 hyq.2.2.2);have Mf:=Hd fun w1 a=>Ho.o B cB0 (qs[k]?.getD default) hyq w1 a;have HXC:=Hd fun w1 a c=>Jy.o D cD F cF (qs[k]?.getD default) hyq w1 a r3 r4 c;have HR1c:=Hd r1;have HR2c:=Hd r2;have HR5c:=Hd r5;clear An hyq r1 r2 r3 r4 r5;generalize qs[k]?.getD default=y at *;unfold aJ at HXC;have Gf:=Hd (show aB (hd++kV (qs.take k))++(⟨#[32,32]⟩:BA)++aB (dI 44 (y.ns.map iH))++(⟨#[32,61,32]⟩:BA)++vB y.x++(⟨#[59,10]⟩:BA)=aB (hd++kV (qs.take (k+1))) by
    rw[HQK.o];exact eT (by simp[aB,zF,txX]))
   generalize aB (hd++kV (qs.take k))=sv at *;generalize aB (dI 44 (y.ns.map iH))=nt at *;generalize vB y.x=tx at *;have x1:(9223372036854775807<sv.size+2)=False:=by rw[eq_iff_iff,iff_false];omega
   have x2:(9223372036854775807<sv.size+2+nt.size)=False:=by rw[eq_iff_iff,iff_false];omega
   have x3:(9223372036854775807<sv.size+2+nt.size+3)=False:=by rw[eq_iff_iff,iff_false];omega
   have x4:(9223372036854775807<sv.size+2+nt.size+3+tx.size)=False:=by rw[eq_iff_iff,iff_false];omega
   have x5:(9223372036854775807<sv.size+2+nt.size+3+tx.size+2)=False:=by rw[eq_iff_iff,iff_false];omega
   have HBR2:=Hd fun d os=>Zx wr d os;go_upto_region 8 with(fail);have m4:=fun d os=>Zw q4 d os;have m0:=fun d os=>Zw e0 d os;have m1:=fun d os=>Zw e1 d os;have m2:=fun d os=>Zw e2 d os;have m3:=fun d os=>Zw e3 d os;have m5:=fun d os=>Zw e4 d os;have m6:=fun d os=>Zw e5 d os;have m7:=fun d os=>Zw e6 d os;have cS:=fun d os=>Zl (Mf.o (grow (redrawn wr d) os) (HR1c.o.below (Zx wr d os)));have cX:=fun d os=>Zl (HXC.o (grow (redrawn wr d) os) (HR2c.o.below (Zx wr d os)) (HR5c.o.below HR2c.o (Zx wr d os)));refine Xe aE aE ?_;repeat (go_big_quiet_step (first|with_reducible exact cS _ _|with_reducible exact cX _ _))
   refine Xk ?_;intro _ Em;obtain⟨⟨Lj,Jg⟩,Hh⟩:=Em;have Dk:=HBR2.o Lj Jg;rw[<-Hh]at Dk;clear cS cX m0 m1 m2 m3 m4 m5 m6 m7 Hh e0 e1 e2 e3 e4 e5 e6 q4;rename_i w9;have Im:=Hd (Bk.o.tr Dk);clear Dk;go_wp2_with fail;go_roundw;case rel=>exact⟨k+1,by omega,by go_num,by rw[<-Gf.o],Im.o⟩
   case measure=>simp[intOf];omega
 . have Kl:k=n:=by omega
   have HO:=Hd (show aB (hd++kV (qs.take k))++(⟨#[116,101,108,10]⟩:BA)=aB ng by
    rw[Nc.o,Yz (by rw[Kg.o];omega)];exact eT (by simp[aB,aDx]))
   generalize aB (hd++kV (qs.take k))=sv at *;have x1:(9223372036854775807<sv.size+4)=False:=by rw[eq_iff_iff,iff_false];omega
   clear An;go_wp2_with fail;go_ret;exact⟨iK HO.o,Ac.o.tr Bk.o⟩):P:=h
theorem fK3(h:P:=by
 have Ke:=Hd (HH.o.below Bd.o);have Ka:G.b<w4.heap.size:=Ke.o.lt;have He:=Hd ((At.below HH.o Bd.o).trans (Kr.o w4 Ke.o));have y0:=(Bd.o.cell l0).trans d0;have y1:w4.cell? ⟨G.b,1,none⟩=some (.int .i64 Io):=(Bd.o.cell Fb).trans e2;have f1:w4.frozen? ⟨G.b,1,none⟩=false:=Ke.o.fz 1;go_upto_region 5 with(fail);generalize Fx:w4.setCell _ _=w5 at *;have HK5:=Hd (show ∀k,k≠G.b->w5.heap[k]?=w4.heap[k]? from fun k hk=>by rw[<-Fx];exact Xb _ _ _ _ hk);have Dz:=Hd (show w4.heap.size=w5.heap.size from by rw[<-Fx];simp);have Ff:=Hd (show aX w5 eb x A1 Bu B1 Br from(HK5.o eb Jj.o).trans Ju.o);obtain⟨b0,b1,b2,b3,b4,b5⟩:=Ff.o.cells;obtain⟨hS,m,hm,v,A,ca,B,cb,Ev⟩:=Mz.o;have Js:=fun k hk=>(Ev.own.lt k hk).2;have hcq:=Ev.kb HQ.o He.o.2;have HI5:=Hd (HI.o w5 r1 He.o Gr.o);have x1:=H1.o _ _ HI5.o;have c1:=bU hcq.row 1 (.int .i64 q.x.k) rfl;have c2:=bU hcq.row 2 (.int .i64 q.x.n) rfl;have c3:=bU hcq.row 3 (.string q.x.s) rfl;have c4:=bU hcq.row 4 (.int .i64 q.x.op) rfl;have c5:=bU hcq.row 5 (.slice A q.x.arms.length ca) rfl;have c6:=bU hcq.row 6 (.slice B q.x.subs.length cb) rfl;have f1:w5.frozen? ⟨D,1,none⟩=false:=lF hcq.row;have f2:w5.frozen? ⟨D,2,none⟩=false:=lF hcq.row;have f3:w5.frozen? ⟨D,3,none⟩=false:=lF hcq.row;have f4:w5.frozen? ⟨D,4,none⟩=false:=lF hcq.row;have f5:w5.frozen? ⟨D,5,none⟩=false:=lF hcq.row;have f6:w5.frozen? ⟨D,6,none⟩=false:=lF hcq.row;have HCQ:=Hd hcq;have HVW:=Hd Js;have Mi:=Hd hS;have Ld:=Hd hm;clear hcq Js Ev hS hm Fx y0 y1;go_wp2_with fail;go_ret;have Av:=cBt (v1:=.int .i64 x.k) (v2:=.int .i64 x.n) (v3:=.string x.s) (v4:=.int .i64 x.op) (v5:=.slice A1 x.arms.length Bu) (v6:=.slice B1 x.subs.length Br) He.o.1 HD.o;refine⟨rfl,Av,Gr.o,cBu (Mi.o.kb He.o.2),m,fun _=>?_,?_⟩
 . refine Yr (Xm Av.lft_) ?_
   have:=Ld.o lY
   rw[HH.o.lft_]at this;exact Yr Gr.o this
 . obtain⟨Z,Co,Cr,hx⟩:=Mk.o;have Nf:D<w.heap.size:=by
    have h9:=(Ym.1 HCQ.o.row).1
    have:=Jo.o
    omega
   exact cBv HQ.o HCQ.o aA (fun k hk=>⟨by have:=HVW.o k hk;omega,by have:=gP HCQ.o.own k hk;have:=HCQ.o.lt;have:=HQ.o.b0D;omega⟩) Dz.o HK5.o hx):P:=h
theorem fK4(h:P:=by
 by_cases Df:o<0
 . have HN:=Hd (show res=false by rw[HS.o];simp[Df]);go_in
   go_upto_region 1 with(fail);generalize Af:w.alloc _=w1;obtain⟨Ab,hg,Al,hcell⟩:=HF.o w1 Af;have Ac:=Hd Ab;obtain⟨q0,q1,-,q3,-,-⟩:=Sx (hcell w1 (Yg _ _));clear hcell Ab Al Af HF;go_wp2_with fail;go_ret;exact⟨aO HN.o.symm,Ac.o⟩
 . by_cases Fv:0<o
   . have HN:=Hd (show res=false by rw[HS.o];simp[Df,Fv]);go_in
     go_upto_region 1 with(fail);generalize Af:w.alloc _=w1;obtain⟨Ab,hg,Al,hcell⟩:=HF.o w1 Af;have Ac:=Hd Ab;obtain⟨q0,q1,-,q3,-,-⟩:=Sx (hcell w1 (Yg _ _));clear hcell Ab Al Af HF;go_wp2_with fail;go_ret;exact⟨aO HN.o.symm,Ac.o⟩
   . have HN:=Hd (show res=(n==0 || n==1)by rw[HS.o];simp[Df,Fv]);cases hd:(n==0)<;>cases Jh:(n==1)<;>rw[hd,Jh]at HN
     all_goals (
      go_in
      go_upto_region 1 with(fail);generalize Af:w.alloc _=w1;obtain⟨Ab,hg,Al,hcell⟩:=HF.o w1 Af;have Ac:=Hd Ab;obtain⟨q0,q1,-,q3,-,-⟩:=Sx (hcell w1 (Yg _ _));clear hcell Ab Al Af HF;go_wp2_with fail;go_ret;exact⟨aO HN.o.symm,Ac.o⟩)):P:=h
theorem fK5(h:P:=by
 obtain⟨k,hk,rfl,Ck,p,rfl⟩:=hrel;have HT:=Hd Ck;clear Ck;by_cases Ah:k<n
 . obtain⟨b,off,rfl,hb,hc⟩:=hs.at_ Ah;obtain⟨b',It,rfl,Jb,Gx⟩:=ht.at_ Ah;have e1:=hc k Ah;have e2:=Gx k Ah;have HN:=Hd fun h=>bJ7 HT.o h;have HF:=Hd fun h=>bRa (a:=ss) (b:=tt) (k:=k) aA aA h;clear hc Gx;generalize ss[k]?.getD ByteArray.empty=x at e1 HN HF;generalize tt[k]?.getD ByteArray.empty=y at e2 HN HF;by_cases he:(x.toList==y.toList)=true
   . have HN:=Hd (HN.o he);have Bv:(x.toList !=y.toList)=false:=by simp only[bne,he];rfl
     go_wp2_with fail;go_quiet (fail);go_wp2_with fail;go_roundw;case rel=>exact⟨k+1,by omega,by go_num,HN.o,_,rfl⟩
     case measure=>simp[intOf];omega
   . have he:(x.toList==y.toList)=false:=by simpa using he
     have HF:=Hd (HF.o he);have Bv:(x.toList !=y.toList)=true:=by simp only[bne,he];rfl
     go_wp2_with fail;go_quiet (fail);go_wp2_with fail;go_ret;exact⟨aO HF.o.symm,eP (eP (Yg _ _) _) _⟩
 . have HY:=Hd (bNp aA HT.o aA);go_wp2_with fail;go_ret;exact⟨aO HY.o.symm,eP (Yg _ _) _⟩):P:=h
theorem fK6(h:P:=by
 go_in
 go_upto_region 1 with(fail);generalize Af:w.alloc _=w1;obtain⟨Ab,hg,Al,hcell⟩:=HF.o w1 Af;have Ac:=Hd Ab;have HC:=Hd hcell;have Gm:=Hd (Yg w1.heap.size w1);obtain⟨q0,q1,q2,q3,q4,q5⟩:=Sx (hcell w1 (Yg _ _));clear hcell Ab Al Af HF;go_wp2_with fail;refine(Lb.o w1 Ac.o).mono ?_;rintro r w2 ⟨rfl,hb⟩;have Ai:=Hd (Ac.o.tr hb);have Cj:=Hd (Gm.o.tr hb);clear hb q0 q1 q2 q3 q4 q5;obtain⟨q0,q1,q2,q3,q4,q5⟩:=Sx (HC.o w2 Cj.o);go_wp2_with fail;refine(Lq.o w2 Ai.o).mono ?_;rintro r w3 ⟨rfl,hb⟩;have Aj:=Hd (Ai.o.tr hb);have Dm:=Hd (Cj.o.tr hb);clear hb q0 q1 q2 q3 q4 q5;obtain⟨q0,q1,q2,q3,q4,q5⟩:=Sx (HC.o w3 Dm.o);go_wp2_with fail;refine(Dx.o w3 Aj.o).mono ?_;rintro r w4 ⟨rfl,hb⟩;have Bd:=Hd (Aj.o.tr hb);have Es:=Hd (Dm.o.tr hb);clear hb q0 q1 q2 q3 q4 q5;obtain⟨q0,q1,q2,q3,q4,q5⟩:=Sx (HC.o w4 Es.o);go_wp2_with fail;refine(Ix.o w4 Bd.o (Lt.o lY)).mono ?_;rintro r w5 ⟨rfl,hb⟩;have Bl:=Hd (Bd.o.tr hb);have Ik:=Hd (Es.o.tr hb);clear hb q0 q1 q2 q3 q4 q5;obtain⟨q0,q1,q2,q3,q4,q5⟩:=Sx (HC.o w5 Ik.o);go_wp2_with fail;go_ret;exact⟨aO HN.o.symm,Bl.o⟩):P:=h
theorem fK7(h:P:=by
 obtain⟨t,z⟩:=x;simp only[dT,iI,dO]at HC⊢;have Ed:Hid (bL 91 (w.alloc (.cells #[.int .i64 0,.string ⟨#[]⟩,.int .i64 0,.int .i64 0] 91)) w.heap.size cI):=Hd (bL.new _ w cI);have Cd:Hid (Below w.heap.size w (w.alloc (.cells #[.int .i64 0,.string ⟨#[]⟩,.int .i64 0,.int .i64 0] 91))):=Hd ((Yg _ _).alloc (Yh _) _);go_in
 go_upto_region 1 with(fail);have Ge:=Hd (HV.o.below Cd.o);generalize (w.alloc (.cells #[.int .i64 0,.string ⟨#[]⟩,.int .i64 0,.int .i64 0] 91))=w1 at *;clear HV;go_wp2_with fail;refine(aBx _ _).mono ?_;rw[h1];rintro e w' ⟨rfl,rfl⟩;go_wp2_with fail;refine(aE9 _ _).mono ?_;rw[h2];rintro e w' ⟨rfl,rfl⟩;go_wp2_with fail;refine(HC.o _ Ge.o).mono ?_;rintro e w2 ⟨rfl,hb⟩;have Dl:=Hd (Ed.o.below hb);have Ai:=Hd (Cd.o.tr hb);clear hb Ge HC;go_wp2_with (refine Zz rfl _ _ _ rfl w.heap.size _ rfl rfl _ _ Dl.o kZ rfl eC ?_);exact Zy (nM (p:=2) (u:=3) rfl _ _ w.heap.size t rfl (Dl.o.set t)) rfl ⟨rfl,Xg Ai.o (Yh _) _⟩):P:=h
theorem fK8(h:P:=by
 simp only[dT,iI,dO,cI]at HC⊢;have Ed:Hid (bL 91 (w.alloc (.cells #[.int .i64 0,.string ⟨#[]⟩,.int .i64 0,.int .i64 0] 91)) w.heap.size cI):=Hd (bL.new _ w cI);have Cd:Hid (Below w.heap.size w (w.alloc (.cells #[.int .i64 0,.string ⟨#[]⟩,.int .i64 0,.int .i64 0] 91))):=Hd ((Yg _ _).alloc (Yh _) _);go_in
 go_upto_region 1 with(fail);have Ge:=Hd (HV.o.below Cd.o);generalize (w.alloc (.cells #[.int .i64 0,.string ⟨#[]⟩,.int .i64 0,.int .i64 0] 91))=w1 at *;clear HV;go_wp2_with fail;refine(aBx _ _).mono ?_;rw[h1];rintro e w' ⟨rfl,rfl⟩;go_wp2_with fail;refine(aE9 _ _).mono ?_;rw[h2];rintro e w' ⟨rfl,rfl⟩;go_wp2_with fail;refine(HC.o _ Ge.o).mono ?_;rintro e w2 ⟨rfl,hb⟩;have Dl:=Hd (Ed.o.below hb);have Ai:=Hd (Cd.o.tr hb);clear hb Ge HC;go_wp2_with (refine Zz rfl _ _ _ rfl w.heap.size _ rfl rfl _ _ Dl.o kZ rfl eC ?_);exact Zy (nM (p:=2) (u:=3) rfl _ _ w.heap.size cI rfl (Dl.o.set cI)) rfl ⟨rfl,Xg Ai.o (Yh _) _⟩):P:=h
theorem fK9(h:P:=by
 rcases Hn with⟨rfl,rfl⟩|⟨rfl,rfl⟩
 . cases h1:(k==1)with
   |true=>
    go_in
    go_wp2_with fail;refine(HW.o w).mono ?_;rintro e w1 ⟨rfl,rfl⟩;go_upto_region 4 with(fail);go_region;go_wp2_with fail;go_ret;exact⟨rfl,((Yg _ _).alloc (Yh _) _).drew⟩
   |false=>
    go_in
    go_wp2_with fail;refine(HW.o w).mono ?_;rintro e w1 ⟨rfl,rfl⟩;go_upto_region 4 with(fail);go_region;go_wp2_with fail;go_ret;exact⟨rfl,((Yg _ _).alloc (Yh _) _).drew⟩
 . cases h1:(k==5)with
   |true=>
    go_in
    go_wp2_with fail;refine(HW.o w).mono ?_;rintro e w1 ⟨rfl,rfl⟩;go_upto_region 4 with(fail);go_region;go_wp2_with fail;go_ret;exact⟨rfl,((Yg _ _).alloc (Yh _) _).drew⟩
   |false=>
    go_in
    go_wp2_with fail;refine(HW.o w).mono ?_;rintro e w1 ⟨rfl,rfl⟩;go_upto_region 4 with(fail);go_region;go_wp2_with fail;go_ret;exact⟨rfl,((Yg _ _).alloc (Yh _) _).drew⟩):P:=h
theorem bGi(h:P:=by
 go_wp2_with (at_builtin;refine wpList_append_own_at _ rfl _ _ 62 rfl w.heap.size 9 i0 (.string ByteArray.empty) 1 16 Tryz.underlying62 hi Ma Ly Lu rfl aF _ _ _ rfl (Ga.o.alloc _) ⟨w4.heap.size,0,none⟩ 1 1 [.string p.nm] rfl rfl (cell_one_new _ _ _) (tA [p.nm]) fZ aA (by have:=Bd.o.size;simp;omega) ?_;intro v' w5 Bb Aw Fc Eg;have Jv:=(Bd.o.alloc Bd.o.size (.cells #[.string p.nm] 9)).grown Aw (by have:=Bd.o.size;simp;omega) (fun j hj=>(Ga.o.lt j hj).1);have Ig:=Hd Bb;have Bl:=Hd Jv;clear Aw Bb Fc Eg Jv);go_roundw;case rel=>
  refine⟨k+1,by omega,by go_num,?_,Bl.o⟩;rw[Jr.o,Zt];exact Ig.o
 case measure=>simp[intOf];omega):P:=h
theorem bGj(h:P:=by
 go_wp2_with fail;refine Mw.o.mono ?_;rintro e w8 ⟨A10,Ln,rfl,hr8,Kb⟩;have Ej:=Hd (Ej.o.tr Kb);have Fp:=Hd (rM Fp.o Kb);have hzz8:=Kb.size;have HN8:=Hd (aB5 A10 x.all.length Ln (fW x.all) _ hr8 aA);clear hr8 Kb;go_wp2_with fail;refine HN8.o.mono ?_;rintro e w9 ⟨rfl,md,rfl⟩;have hzz9:w8.heap.size<=(w8.drewN md).heap.size:=Yh _;have Ej:=Hd (Ej.o.trans ((aG6 (m:=md)).mono Ej.o.size));have Fp:=Hd (rM Fp.o (aG6 (m:=md)));go_wp2_with fail;go_roundw;case rel=>
  refine⟨k+1,by omega,by go_num,?_,?_,?_,Cf.o,Ej.o,by omega⟩
  . rw[Eb.o,Zt];exact Fp.o
  . rw[HAL.o,hr];rfl
  . rw[Gg.o,ho];rfl
 case measure=>simp[intOf];omega):P:=h
theorem aA4(h:P:=by
 have HN:=Hd (show res=false by rw[HS.o];simp);go_in
 go_upto_region 1 with(fail);generalize Af:(w.alloc _).alloc _=w1;obtain⟨Ab,hg,Al,Cu,hcell,Am⟩:=HF.o w1 Af;have Ac:=Hd Ab;have q0:=hcell w1 (Yg _ _) 0;have p0:=Am w1 (Yg _ _) 0;have q1:=hcell w1 (Yg _ _) 1;have p1:=Am w1 (Yg _ _) 1;have q2:=hcell w1 (Yg _ _) 2;have p2:=Am w1 (Yg _ _) 2;have q3:=hcell w1 (Yg _ _) 3;have p3:=Am w1 (Yg _ _) 3;have q4:=hcell w1 (Yg _ _) 4;have p4:=Am w1 (Yg _ _) 4;have q5:=hcell w1 (Yg _ _) 5;have p5:=Am w1 (Yg _ _) 5;clear hcell Am Ab Al Cu Af HF;go_wp2_with fail;go_ret;exact⟨aO HN.o.symm,Ac.o⟩):P:=h
theorem bGk(h:P:=by
 go_in
 go_upto_region 1 with(fail);generalize Af:(w.alloc _).alloc _=w1;obtain⟨Ab,hg,Al,hcell,Ad⟩:=HF.o w1 Af;have Ac:=Hd Ab;have Bg:=Hd Ad;have q0:=hcell w1 (Yg _ _) 0;have q3:=hcell w1 (Yg _ _) 3;clear hcell Ad Ab Al Af HF;go_wp2_with (refine Zz rfl _ _ _ rfl (w.heap.size+1) _ rfl rfl _ _ Bg.o jY rfl eC ?_);exact Zy (kK rfl _ _ (w.heap.size+1) _ rfl rfl (Xh _ _ _ _ _ _ Bg.o)) rfl ⟨0,ByteArray.empty,x.op,none,[],0,_,1,1,rfl,aS.nil_ _,HE,Xg Ac.o (Nat.le_succ _) _⟩):P:=h
theorem bGl(h:P:=by
 go_in
 go_upto_region 1 with(fail);generalize Af:(w.alloc _).alloc _=w1;obtain⟨Ab,hg,Al,hcell,Ad⟩:=HF.o w1 Af;have Ac:=Hd Ab;have Bg:=Hd Ad;have q0:=hcell w1 (Yg _ _) 0;have q3:=hcell w1 (Yg _ _) 3;clear hcell Ad Ab Al Af HF;go_wp2_with (refine Zz rfl _ _ _ rfl (w.heap.size+1) _ rfl rfl _ _ Bg.o jY rfl eC ?_);exact Zy (kK rfl _ _ (w.heap.size+1) _ rfl rfl (Xh _ _ _ _ _ _ Bg.o)) rfl ⟨0,ByteArray.empty,x.op,none,[],0,_,2,2,rfl,aS.nil_ _,HE,Xg Ac.o (Nat.le_succ _) _⟩):P:=h
theorem bGm(h:P:=by
 have HN:=Hd fun w1 hq=>cW.bad_ (Cg.o w1 hq) hn;clear Cg hn;go_in
 go_wp2_with fail;refine HT.o.mono ?_;rintro e w1 ⟨rfl,Bz,Ab⟩;have Gz:=Hd (HN.o w1 Bz);have Ac:=Hd Ab;obtain⟨Bt,Bf⟩:=HM.o.move Bz Ab;have Bn:=Hd (HZ.o.up Bf (cV HM.o));have d0:=Bn.o.at_ 0 p0 _ rfl;have d2:=Bn.o.at_ 2 p2 _ rfl;clear Bz Ab Bt Bf c0 HZ HN;go_wp2_with fail;refine Gz.o.mono ?_;rintro e w2 ⟨rfl,Ci,Ag⟩;have Hw:=Hd Ci;have Ai:=Hd (eD Ac.o Ag);clear Ci Ag;go_wp2_with fail;exact⟨rfl,zW HM.o Hw.o Ai.o⟩):P:=h
theorem bGn(h:P:=by
 have h0:=@zT x.arms;have h1:=@zN x.arms;rw[aAc];simp only[dA,nH,nP,oT,cO,hk,aBs,aBm,aBj,oB,tL];generalize x.arms.all eK=ba at *;generalize dC x.arms=bo at *;generalize aQ x.s.data.toList=b1 at *;generalize x.arms.length=la at *;generalize x.subs.length=ls at *;generalize x.n=n at *;generalize x.op=op at *;cases ba<;>cases bo<;>cases b1
 all_goals (try simp at h0)
 all_goals (try simp at h1)
 all_goals (try rw[Zq])
 all_goals (try simp)
 all_goals (try omega)):P:=h
theorem bGo(h:P:=by
 have Ke:=Hd (HH.o.below Bd.o);have He:=Hd ((At.below HH.o Bd.o).trans (Kr.o w4 Ke.o));have y0:=(Bd.o.cell l0).trans d0;have y1:w4.cell? ⟨G.b,1,none⟩=some (.int .i64 Io):=(Bd.o.cell Fb).trans e2;have f1:w4.frozen? ⟨G.b,1,none⟩=false:=Ke.o.fz 1;have y5:=H0.o _ _ (HI.o _ _ He.o Gr.o);go_wp2_with fail;refine(My.o z _ _ He.o.1).mono ?_;rintro e w6 ⟨rfl,h6⟩;have H6:=Hd (He.o.trans h6);clear h6;go_wp2_with fail;go_ret;exact⟨rfl,⟨_,H6.o.1,Gr.o⟩,q,HO.o.weak _ _ (HI.o _ _ H6.o Gr.o)⟩):P:=h
theorem aKw(h:P:=by
 have HN:=Hd (show res=aQ s.data.toList by rw[HS.o];rfl);have HH:=Hd fun w=>rV s w aA;generalize aQ s.data.toList=bh at *;go_in
 go_upto_region 1 with(fail);generalize Af:w.alloc _=w1;obtain⟨Ab,hg,Al,hcell⟩:=HF.o w1 Af;have Ac:=Hd Ab;have q0:=hcell w1 (Yg _ _) 0;have q2:=hcell w1 (Yg _ _) 2;clear hcell Ab Al Af HF;go_wp2_with fail;refine(HH.o _).mono ?_;rintro r w2 ⟨rfl,Ag⟩;have Ai:=Hd (Ac.o.tr Ag);clear Ag;go_wp2_with fail;go_ret;exact⟨aO HN.o.symm,Ai.o⟩):P:=h
theorem bGp(h:P:=by
 simp only[Nat.add_zero]at t0;have Kj:=fun d os=>Zw t0 d os;have Mb:=fun d os=>Zw t1 d os;have lt2:=fun d os=>Zw t2 d os;go_wp2_with fail;refine Xe aE aE ?_;repeat (quiet_step (fail))
 refine Xk ?_;intro _ Ch;obtain⟨⟨dq,Bj⟩,Az⟩:=Ch;subst Az;have Eo:=Hd (Ay.o.trans ((Zx wr dq Bj).mono Ay.o.size));generalize grow (redrawn wr dq) Bj=wq at *;go_wp2_with fail;go_ret;exact⟨iK HE.o,Ac.o.tr Eo.o⟩):P:=h
theorem vH(h:P:=by
 have h0:=@zT x.arms;have h1:=@zN x.arms;rw[aAc];simp only[dA,nH,nP,oT,cO,hk,aBs,aBm,aBj,oB,tL];generalize x.arms.all eK=ba at *;generalize (x.s.toList==([]:LU))=be at *;generalize x.arms.length=la at *;generalize x.subs.length=ls at *;generalize x.n=n at *;generalize x.op=op at *;cases ba<;>cases be
 all_goals (try simp at h0)
 all_goals (try simp at h1)
 all_goals (try rw[Zq])
 all_goals (try simp)
 all_goals (try omega)):P:=h
theorem bGq(h:P:=by
 go_in
 go_wp2_with fail;refine(aOl A len cap es w HE.o).mono ?_;rw[hm];rintro e w1 ⟨rfl,Ab⟩;have Ac:=Hd Ab;clear Ab;go_wp2_with fail;refine(aYw A len cap es _ (HE.o.below Ac.o) Ax).mono ?_;rw[hn];rintro e w2 ⟨rfl,Ag⟩;have Ai:=Hd (zI Ac.o Ag);clear Ag;go_wp2_with fail;refine(bVw A len cap es _ (HE.o.below Ai.o) Ax Gv).mono ?_;rw[ha];rintro e w3 ⟨rfl,Ak⟩;have Aj:=Hd (zI Ai.o Ak);clear Ak;go_wp2_with fail;go_ret;exact⟨iL hN.o,Aj.o⟩):P:=h
theorem bGr(h:P:=by
 repeat (first|with_reducible exact Sf.ok _ _|with_reducible exact Sf.okt _ _|with_reducible exact Sf.bad _|with_reducible exact sf_need _ _|with_reducible exact sf_name _|with_reducible exact sf_high _|(with_reducible exact sf_decls _ _ _ _ _)|with_reducible refine Sf.bind ?_ fun _ _=>?_|split|(with_reducible refine Sf.tail ?_;first|with_reducible exact sf_need _ _|with_reducible exact sf_name _|with_reducible exact sf_high _|(with_reducible exact sf_decls _ _ _ _ _)))):P:=h
theorem bGs(h:P:=by
 rw[Di.o]at HE;refine Xe aE aE ?_;repeat (go_big_quiet_step (first|with_reducible exact cA _ _|with_reducible exact cB _ _))
 refine Xk ?_;intro _ Ch;obtain⟨⟨dq,Bj⟩,Az⟩:=Ch;subst Az;have Bk:=Hd (Bk.o.trans ((Eo.o dq Bj).mono Bk.o.size));clear Lo Ll Lg Lf Lh Km Lm Kk Lr Jz Mn Mt Mq Ms lx ly cA cB;have HB:=Hd (Ai.o.tr Bk.o);go_wp2_with fail;go_ret;exact⟨aO mQ,HB.o⟩):P:=h
theorem bGt(h:P:=by
 have n14:(k !=14)=true:=by rw[bne,Eh];rfl
 have HN:=Hd (show res=lx by rw[HS.o,Eh];rfl);go_in
 go_upto_region 1 with(fail);generalize Af:w.alloc _=w1;obtain⟨Ab,hg,Al,hcell⟩:=HF.o w1 Af;have Ac:=Hd Ab;obtain⟨q0,q1,q2,q3,q4,q5⟩:=Sx (hcell w1 (Yg _ _));have Ic:=Hd (Lz.o w1 Al);clear hcell Ab Al Af HF;go_wp2_with fail;refine Ic.o.mono ?_;rintro r w2 ⟨rfl,Ag⟩;have Ai:=Hd (Ac.o.tr Ag);clear Ag;go_wp2_with fail;go_ret;exact⟨aO HN.o.symm,Ai.o⟩):P:=h
theorem aRa(h:P:=by
 simp only[Nat.add_zero]at t0;have Kj:=fun d os=>Zw t0 d os;have Mb:=fun d os=>Zw t1 d os;go_wp2_with fail;refine Xe aE aE ?_;repeat (quiet_step (fail))
 refine Xk ?_;intro _ Ch;obtain⟨⟨dq,Bj⟩,Az⟩:=Ch;subst Az;have Eo:=Hd (Ay.o.trans ((Zx wr dq Bj).mono Ay.o.size));generalize grow (redrawn wr dq) Bj=wq at *;go_wp2_with fail;go_ret;exact⟨iK HE.o,Ac.o.tr Eo.o⟩):P:=h
theorem bGu(h:P:=by
 repeat (first|with_reducible exact Sf.ok _ _|with_reducible exact Sf.okt _ _|with_reducible exact Sf.bad _|with_reducible exact sf_need _ _|with_reducible exact sf_name _|with_reducible exact sf_high _|(with_reducible exact ha _)|with_reducible refine Sf.bind ?_ fun _ _=>?_|split|(with_reducible refine Sf.tail ?_;first|with_reducible exact sf_need _ _|with_reducible exact sf_name _|with_reducible exact sf_high _|(with_reducible exact ha _)))):P:=h
theorem aKx(h:P:=by
 cases hq:f x with
 |true=>
  have HO:=Hd (HH.o hq);rw[hq]at Bq;go_wp2_with (go_at_fn g;refine Bq.o.mono ?_;rintro e w3 ⟨rfl,Ak⟩);go_ret;exact⟨iL HO.o.symm,Bk.o.tr Ak⟩
 |false=>
  have HO:=Hd (HS.o hq);rw[hq]at Bq;go_wp2_with (go_at_fn g;refine Bq.o.mono ?_;rintro e w3 ⟨rfl,Ak⟩;have Aj:=Hd (Bk.o.tr Ak);clear Ak);go_roundw;case rel=>exact⟨k+1,by omega,by go_num,HO.o,Aj.o⟩
  case measure=>simp[intOf];omega):P:=h
theorem bGv(h:P:=by
 rw[aAc];simp only[dA,nH,nP,oT,cO,hk,aBs,aBm,aBj,oB,tL];generalize x.arms.all eK=ba at *;generalize aQ x.s.data.toList=b1 at *;generalize x.arms.length=la at *;generalize x.subs.length=ls at *;generalize x.n=n at *;generalize x.op=op at *;cases ba<;>cases b1
 all_goals (try simp at h0)
 all_goals (try simp at h1)
 all_goals (try rw[Zq])
 all_goals (try simp)
 all_goals (try omega)):P:=h
theorem aRb(h:P:=by
 rcases Bm with Bm|Bm|Bm|Bm|Bm
 all_goals first
  |exact hn (.inl Bm)
  |exact hn (.inr (.inl Bm))
  |exact hn (.inr (.inr (.inl Bm)))
  |exact hn (.inr (.inr (.inr (.inl Bm))))
  |exact hn (.inr (.inr (.inr (.inr Bm))))
  | (rcases hA.goes with hg | hg
     . rw[hg]at Bm;first|exact hn (.inr (.inl Bm))|exact hn (.inr (.inr (.inl Bm)))|exact hn (.inr (.inr (.inr (.inl Bm))))
     . have:=hg k Bm
       omega)):P:=h
theorem cDi(h:P:=by
 obtain⟨h1,h2,h3⟩:=h.rd;refine⟨h1,h2,fun hn=>?_⟩;obtain⟨b0,off,e,Ah,hc⟩:=h3 hn;refine⟨b0,off,e,by rw[fC,setRow_size];rwa[fC]at Ah,fun i hi=>?_⟩
 have hx:∀p:Addr,p.block=b0->(bl b (w.setRow g cs)).cell? p=(bl b w).cell? p:=fun p hp=>by
  rw[aVn hg,cell_setRow_other _ _ _ _ (by rw[hp];exact hA b0 off e)]
 obtain⟨c0,c1,c2,c3⟩:=hc i hi;exact⟨(hx _ rfl).trans c0,(hx _ rfl).trans c1,(hx _ rfl).trans c2,(hx _ rfl).trans c3⟩):P:=h
theorem bGw(h:P:=by
 obtain rfl:=hA rfl;obtain rfl:news=[]:=Zu (by simpa using hl);have hr:=aLi (P:=P) (w:=w) base t o.type e i size ht hi v n xs Ao c;obtain⟨A',c',rfl⟩:=aMi Ao;unfold Oper.wp execOp;simp only[ho,resolve,invoke,builtin,Sem.run_bind,Sem.run_pure,Result.andThen_ok,List.map_toArray,Xl,List.map_nil,hs,hx,hr];exact h A' c' w (by simpa using Ao) (World.grownBy.refl w _) (.inl rfl)):P:=h
theorem bGx(h:P:=by
 obtain rfl:s=⟨#[]⟩:=by cases s;simp_all
 have HN:=Hd (aU9 (w:=w) HD.o (.inr rfl));have Ev:(convert 237 9 (.slice (some ⟨wr.heap.size,0,none⟩) 1 1)).run Tryz.prog (wr.alloc (.cells #[.int .u8 48] 5))=.ok (.string ⟨#[48]⟩) (wr.alloc (.cells #[.int .u8 48] 5)):=aMj 0 wr;go_wp2_with fail;go_roundw;case rel=>exact⟨0,(⟨#[48]⟩:BA)++⟨#[]⟩,rfl,rfl,by omega,HN.o,Bk.o.alloc Bk.o.size _⟩
 case measure=>decide):P:=h
theorem bGy(h:P:=by
 go_in
 go_upto_region 1 with(fail);go_region_held3 (fun W=>W.cell? ⟨p0,0,none⟩=some (aH G.b)/\W.cell? ⟨p1,0,none⟩=some (.string s)) (first|exact⟨d0,d1⟩|exact⟨z0,z1⟩)
  ((go_at_call 87;refine(HT.o _ (eP (Yg _ _) _)).mono ?_;rintro e w1 ⟨rfl,hb⟩;have HB:=Hd (aHh hb);have z0:=(HB.o.cell l0).trans d0;have z1:=(HB.o.cell l1).trans d1;clear hb))
 go_wp2_with fail;go_ret;exact⟨rfl,HB.o⟩):P:=h
theorem bGz(h:P:=by
 have hj:j<l.length:=by
  rcases Nat.lt_or_ge j l.length with h|h;· exact h
  . rw[List.getElem?_eq_none nZ]at hu;cases hu
 obtain⟨b,off,e,_,hc⟩:=h.at_ (i:=j) (by rw[<-h.len];exact hj);injection e with e;subst e
 have:=hc j (by rw[<-h.len];exact hj)
 have e2:(⟨b,off,none⟩:Addr).add j=⟨b,off+j,none⟩:=by unfold Addr.add;split<;>simp_all
 rw[e2,this,<-hu];simp[Yk hj]):P:=h
theorem aRc(h:P:=by
 have HN:=Hd (show res=(1,1)by rw[HS.o];rfl);go_in
 go_upto_region 1 with(fail);generalize Af:w.alloc _=w1;obtain⟨Ab,hg,Al,hcell⟩:=HF.o w1 Af;have Ac:=Hd Ab;obtain⟨q0,q1,-,-,q4,-⟩:=Sx (hcell w1 (Yg _ _));clear hcell Ab Al Af HF;go_wp2_with fail;exact Zy (v:=.tuple #[.int .i64 (1),.int .i64 (1)]) aA3 rfl ⟨by rw[HN.o],Ac.o⟩):P:=h
theorem aKy(h:P:=by
 have HN:=Hd (show res=(2,2)by rw[HS.o];rfl);go_in
 go_upto_region 1 with(fail);generalize Af:w.alloc _=w1;obtain⟨Ab,hg,Al,hcell⟩:=HF.o w1 Af;have Ac:=Hd Ab;obtain⟨q0,q1,-,-,q4,-⟩:=Sx (hcell w1 (Yg _ _));clear hcell Ab Al Af HF;go_wp2_with fail;exact Zy (v:=.tuple #[.int .i64 (2),.int .i64 (2)]) aA3 rfl ⟨by rw[HN.o],Ac.o⟩):P:=h
theorem bG0(h:P:=by
 have HN:=Hd (show res=(3,3)by rw[HS.o];rfl);go_in
 go_upto_region 1 with(fail);generalize Af:w.alloc _=w1;obtain⟨Ab,hg,Al,hcell⟩:=HF.o w1 Af;have Ac:=Hd Ab;obtain⟨q0,q1,-,-,q4,-⟩:=Sx (hcell w1 (Yg _ _));clear hcell Ab Al Af HF;go_wp2_with fail;exact Zy (v:=.tuple #[.int .i64 (3),.int .i64 (3)]) aA3 rfl ⟨by rw[HN.o],Ac.o⟩):P:=h
theorem bG1(h:P:=by
 obtain⟨v',w',hr,h2,h3,_,h5⟩:=run_append_own_at (P:=P) w base t o.type e i z size Dh ht hi hz Gk La Kd Au v n xs Ao ad m c news hl (Ii ad rfl) h1 Lc Fg Et;obtain⟨A',c',rfl⟩:=aMi h2;unfold Oper.wp execOp;simp only[ho,resolve,invoke,builtin,Sem.run_bind,Sem.run_pure,Result.andThen_ok,List.map_toArray,Xl,List.map_nil,hs,hx,hr];exact h A' c' w' h2 h3 h5):P:=h
theorem bG2(h:P:=by
 have HN:=Hd (show res=(n==0)by rw[HS.o];simp[Df,Fv]);cases hd:(n==0)<;>rw[hd]at HN
 all_goals (
  go_in
  go_upto_region 1 with(fail);generalize Af:w.alloc _=w1;obtain⟨Ab,hg,Al,hcell⟩:=HF.o w1 Af;have Ac:=Hd Ab;obtain⟨q0,q1,-,q3,-,-⟩:=Sx (hcell w1 (Yg _ _));clear hcell Ab Al Af HF;go_wp2_with fail;go_ret;exact⟨aO HN.o.symm,Ac.o⟩)):P:=h
theorem bG3(h:P:=by
 have Ev:=Ko.o (w1.alloc (.cells #[.int .u8 (48+l)] 5)) _ _ (Lk.o w1 _);have Ac:=Hd (HB.o.tr Ab);clear Ab;by_cases Ky:0<l
 . go_wp2_with fail;go_ret;exact⟨aEx (by rw[hT,if_neg aA];rfl),Ac.o.alloc Ac.o.size _⟩
 . obtain rfl:l=0:=by omega
   go_wp2_with fail;go_ret;exact⟨aEx (by rw[hT,if_pos trivial];rfl),Ac.o⟩):P:=h
theorem bG4(h:P:=by
 have HN:=Hd (aU9 (w:=w) HD.o (.inl Ml));have Li:(⟨#[UInt8.ofNat (48+u % 10)]⟩:BA).size=1:=rfl;generalize (⟨#[UInt8.ofNat (48+u % 10)]⟩:BA)=x at Ev HN Li;go_wp2_with fail;go_roundw;case rel=>exact⟨u / 10,x++s,by go_num,rfl,by omega,HN.o,Bk.o.alloc Bk.o.size _⟩
 case measure=>simp[aRk,intOf,bAw];omega):P:=h
theorem bG5(h:P:=by
 unfold yN at HT;have Kx:=bW5;go_in
 go_wp2_with fail;refine HN.o.mono ?_;rintro e w1 ⟨rfl,Ab⟩;have Ac:=Hd Ab;clear Ab;go_wp2_with fail;refine(HT.o w1 Ac.o).mono ?_;rintro e w2 ⟨rfl,Ci,Ag⟩;have Hw:=Hd Ci;have Ai:=Hd (eD (iQ Ac.o) Ag);clear Ci Ag;go_wp2_with fail;go_ret;exact⟨Ai.o,Hw.o,rfl⟩):P:=h
theorem bG6(h:P:=by
 have HN:=Hd (show res=false by rw[HS.o,ho,hl];rfl);rw[hl]at Cq;go_in
 go_upto_region 1 with(fail);generalize Af:w.alloc _=w1;obtain⟨Ab,hg,Al,hcell⟩:=HF.o w1 Af;have Ac:=Hd Ab;obtain⟨q0,-,-,q3,-,q5⟩:=Sx (hcell w1 (Yg _ _));clear hcell Ab Al Af HF;go_wp2_with fail;go_ret;exact⟨aO HN.o.symm,Ac.o⟩):P:=h
theorem bG7(h:P:=by
 go_wp2_with (refine Zz rfl _ _ _ rfl (w.heap.size+1) _ rfl rfl _ _ Bg.o jY rfl eC ?_);exact Zy (kK rfl _ _ (w.heap.size+1) _ rfl rfl (Xh _ _ _ _ _ _ Bg.o)) rfl ⟨0,ByteArray.empty,0,none,[],0,_,2,2,rfl,aS.nil_ _,HE,Xg Ac.o (Nat.le_succ _) _⟩):P:=h
theorem bG8(h:P:=by
 go_wp2_with fail;refine(Cp.o w3).mono ?_;rw[h4];rintro e w4 ⟨rfl,hb⟩;have Es:=Hd (fT Dm.o hb);have Bd:=Hd (fT Aj.o hb);clear hb;clear q4 q5;have q4:=HC.o w4 Es.o 4;have q5:=HC.o w4 Es.o 5;simp only[Ya,Yb,Yc]at q4 q5;go_wp2_with fail;go_ret;exact⟨aO mQ,Bd.o⟩):P:=h
theorem aRd(h:P:=by
 have HN:=Hd (show res=false by rw[HS.o];simp[Df,Fv]);go_in
 go_upto_region 1 with(fail);generalize Af:w.alloc _=w1;obtain⟨Ab,hg,Al,hcell⟩:=HF.o w1 Af;have Ac:=Hd Ab;obtain⟨q0,q1,-,q3,-,-⟩:=Sx (hcell w1 (Yg _ _));clear hcell Ab Al Af HF;go_wp2_with fail;go_ret;exact⟨aO HN.o.symm,Ac.o⟩):P:=h
theorem aRe(h:P:=by
 have HN:=Hd (show res=false by rw[HS.o];simp[Df]);go_in
 go_upto_region 1 with(fail);generalize Af:w.alloc _=w1;obtain⟨Ab,hg,Al,hcell⟩:=HF.o w1 Af;have Ac:=Hd Ab;obtain⟨q0,q1,-,q3,-,-⟩:=Sx (hcell w1 (Yg _ _));clear hcell Ab Al Af HF;go_wp2_with fail;go_ret;exact⟨aO HN.o.symm,Ac.o⟩):P:=h
theorem bG9(h:P:=by
 clear Bw Bi Fq;generalize aB (aK a)=sa at *;have z1:(9223372036854775807<5+sa.size)=False:=by rw[eq_iff_iff,iff_false];omega
 have z2:(9223372036854775807<5+sa.size+1)=False:=by rw[eq_iff_iff,iff_false];omega
 simp only[Nat.add_zero]at t0;go_wp2_with fail;go_ret;exact⟨iK HE.o,Ac.o.tr Ay.o⟩):P:=h
theorem bHa(h:P:=by
 have HN:=Hd (show res=false by rw[HS.o,ho];rfl);go_in
 go_upto_region 1 with(fail);generalize Af:w.alloc _=w1;obtain⟨Ab,hg,Al,hcell⟩:=HF.o w1 Af;have Ac:=Hd Ab;obtain⟨q0,-,-,q3,-,q5⟩:=Sx (hcell w1 (Yg _ _));clear hcell Ab Al Af HF;go_wp2_with fail;go_ret;exact⟨aO HN.o.symm,Ac.o⟩):P:=h
theorem bHb(h:P:=by
 have Jt:=mkf;generalize G.b=b at *;go_in
 go_wp2_with fail;generalize Af:(w.alloc _).alloc _=w1;refine(cC7 _ _ _ _ _ _).mono ?_;rintro e w' ⟨⟨T0,T1,hn⟩,rfl⟩;go_wp2_with fail;go_ret;have hs:w1.heap.size=w.heap.size+2:=by rw[<-Af];simp
 exact⟨⟨_,_,T0,T1,eG.two (x:=(_,_)) (y:=(_,_)) Af hn⟩,by rw[hs];rfl⟩):P:=h
theorem bHc(h:P:=by
 go_wp2_with fail;refine(aB5 A1 j c1 (fL es) _ Bi.o aA).mono ?_;rw[ho];rintro e w3 ⟨rfl,p,rfl⟩;go_wp2_with fail;refine(aB5 A2 _ c2 (gU es) _ (Cn.o.drewN p) aA).mono ?_;rw[Hp];rintro e w3 ⟨rfl,p2,rfl⟩;go_wp2_with fail;go_ret;exact⟨iL HE.o,eP Bk.o (p+p2)⟩):P:=h
theorem bHd(h:P:=by
 obtain rfl:k=n:=by omega
 have hO:=Gl.o;rw[Cg.o]at hO;obtain⟨B,cc,rfl,Ki,-⟩:=aS.of_own hO aA;have HO:=Hd (Gg.o B cc wr Ki);clear hO Ki;go_wp2_with fail;refine HO.o.mono ?_;rintro e w6 ⟨rfl,Bo⟩;have Db:=Hd (Bk.o.tr Bo);clear Bo;go_wp2_with fail;go_ret;exact⟨rfl,Db.o⟩):P:=h
theorem bHe(h:P:=by
 have h:(Tryz.prog.info? 9).map (fun i=>(i.size,i.zero,i.bytes))=some (1,some (.string ⟨#[]⟩),16):=by kernel_rfl
 cases hq:Tryz.prog.info? 9 with
 |none=>rw[hq]at h;cases h
 |some i=>
  rw[hq]at h;simp only[Option.map_some,Option.some.injEq,Prod.mk.injEq]at h;exact⟨i,rfl,h.1,h.2.1,h.2.2⟩):P:=h
theorem aRf(h:P:=by
 have HN:=Hd (show res=true by rw[HS.o];rfl);go_in
 go_upto_region 1 with(fail);generalize Af:w.alloc _=w1;obtain⟨Ab,hg,Al,hcell⟩:=HF.o w1 Af;have Ac:=Hd Ab;have q0:=hcell w1 (Yg _ _) 0;clear hcell Ab Al Af HF;go_wp2_with fail;go_ret;exact⟨aO HN.o.symm,Ac.o⟩):P:=h
theorem bHf(h:P:=by
 have Ei:op=0:=by simpa using Jw
 rw[HR.o,if_pos Ei]at HT;rw[if_neg (by simpa using Ei)];clear HZ Cv HR Ei;go_in
 go_wp2_with fail;refine HT.o.mono ?_;rintro e w1 ⟨rfl,hq,hb⟩;have HQ:=Hd hq;have HB:=Hd hb;clear hq hb;go_wp2_with fail;go_end0
 exact aMs HM.o HQ.o HB.o):P:=h
theorem bHg(h:P:=by
 have h1:c≠45:=fun e=>by subst e;revert h;decide
 refine rN h1 ?_;have h2:c≠9:=fun e=>by subst e;revert h;decide
 have h3:c≠10:=fun e=>by subst e;revert h;decide
 have h4:c≠13:=fun e=>by subst e;revert h;decide
 have h5:c≠32:=fun e=>by subst e;revert h;decide
 simp[aAj,h2,h3,h4,h5]):P:=h
theorem bHh(h:P:=by
 go_in
 go_upto_region 1 with(fail);generalize Af:w.alloc _=w1;obtain⟨Ab,hg,Al,hcell⟩:=HF.o w1 Af;have Ac:=Hd Ab;have q0:=hcell w1 (Yg _ _) 0;have q1:=hcell w1 (Yg _ _) 1;clear hcell Ab Al Af HF;go_wp2_with fail;go_ret;exact⟨iK HE.o,Ac.o⟩):P:=h
theorem bHi(h:P:=by
 have Ef:cZ x=false:=by simpa using Ef
 go_wp2_with (first|(go_at_call 160;refine(zZ x _).mono ?_;rintro e w' ⟨rfl,rfl⟩)|(go_at_call 195;refine(xK x _).mono ?_;rintro e w' ⟨rfl,rfl⟩));go_ret;exact⟨aO (aS8 hp HX.o Ef).symm,aBk _ _ _⟩):P:=h
theorem bHj(h:P:=by
 have Ef:cZ x=false:=by simpa using Ef
 go_wp2_with (first|(go_at_call 184;refine(aB4 x _).mono ?_;rintro e w' ⟨rfl,rfl⟩)|(go_at_call 195;refine(xK x _).mono ?_;rintro e w' ⟨rfl,rfl⟩));go_ret;exact⟨aO (aS8 hp HX.o Ef).symm,aBk _ _ _⟩):P:=h
theorem bHk(h:P:=by
 go_in
 go_upto_region 1 with(fail);generalize Af:w.alloc _=w1;obtain⟨Ab,hg,Al,hcell⟩:=HF.o w1 Af;have Ac:=Hd Ab;obtain⟨q0,q1,q2,q3,q4,q5⟩:=Sx (hcell w1 (Yg _ _));clear hcell Ab Al Af HF;go_wp2_with fail;go_ret;exact⟨aO HN.o.symm,Ac.o⟩):P:=h
theorem bHl(h:P:=by
 go_in
 go_upto_region 1 with(fail);generalize Af:w.alloc _=w1;obtain⟨Ab,hg,Al,hcell⟩:=HF.o w1 Af;have Ac:=Hd Ab;obtain⟨q0,q1,-,q3,-,-⟩:=Sx (hcell w1 (Yg _ _));clear hcell Ab Al Af HF;go_wp2_with fail;go_ret;exact⟨aO HN.o.symm,Ac.o⟩):P:=h
theorem bHm(h:P:=by
 cases l with
 |nil=>
  have h':r=[]:=hr;subst h';simp only[Bool.or_eq_true,beq_iff_eq]at hm;rcases hm with rfl|rfl<;>exact⟨⟨rfl,rfl⟩,Yh _⟩
 |cons z l=>
  simp only[xQ,aL,bB]at hr;obtain⟨q,_,rfl,_⟩:=hr;exact⟨⟨rfl,rfl⟩,Yh _⟩):P:=h
theorem bHn(h:P:=by
 refine Zn bC (fun K hK=>?_) ?_
 . go_simp;go_at_call 260
   refine(Hg.o _ (eP (Yg _ _) 1)).mono ?_;rintro e w2 ⟨rfl,Ci,Ag⟩;exact⟨rfl,zW HM.o Ci (eD Ac.o (aMp Ag))⟩
 exact Zo):P:=h
theorem bHo(h:P:=by
 go_wp2_with fail;refine Mm.o.mono ?_;rintro r w5 ⟨rfl,Cs⟩;have Bl:=Hd (Bd.o.tr Cs);have r7:=Fu.o w5 Cs 7;have r8:=Fu.o w5 Cs 8;clear Cs q0 q1 q2 q3 q4 q5 r0 r1 r2 r3 r4 r5 r6;go_wp2_with fail;go_ret;exact⟨aO HN.o.symm,Bl.o⟩):P:=h
theorem bHp(h:P:=by
 have An:∀ty,(Instr.next (.pointer (some ⟨w.heap.size,0,none⟩)) true ty).run Tryz.prog (w.iter s pos)=_:=fun ty=>run_next_end w s pos ty hp;go_wp2_with fail;go_ret;exact⟨aO (bK9 HR.o h0 Cy aA).symm,aBk _ _ _⟩):P:=h
theorem bHq(h:P:=by
 go_wp2_with fail;go_roundw;case rel=>
  refine⟨k+1,by omega,by go_num,?_,?_,?_,Cf.o,Ej.o,by omega⟩
  . rw[Eb.o,Zt];exact Fp.o
  . rw[HAL.o,hr];rfl
  . rw[Gg.o,ho];rfl
 case measure=>simp[intOf];omega):P:=h
theorem aRg(h:P:=by
 rw[hc,if_neg aC]at Fw;rw[if_neg aC];go_in
 go_wp2_with fail;refine Fw.o.mono ?_;rintro e w1 ⟨rfl,ha⟩;have HA:=Hd ha;clear ha;go_wp2_with fail;go_ret;exact⟨rfl,HA.o.1,Yh _,HI.o _ _ HA.o (Yh _)⟩):P:=h
theorem bHr(h:P:=by
 go_in
 go_wp2_with fail;refine HN.o.mono ?_;rintro e w1 ⟨rfl,Ab⟩;have Ac:=Hd Ab;clear Ab;go_wp2_with fail;refine(aOu _ _).mono ?_;rintro e w2 ⟨rfl,rfl⟩;go_wp2_with fail;exact⟨rfl,iQ Ac.o,HQ.o _ Ac.o,rfl⟩):P:=h
theorem bHs(h:P:=by
 clear hf ht hc;have ha:=Au.1;clear Au;go_wp2_with fail;refine(kR a _ aA).mono ?_;rintro e w2 ⟨rfl,hb⟩;have Ai:=Hd (zI HB.o hb);clear hb;go_wp2_with fail;go_ret;exact⟨aO HE.o,Ai.o⟩):P:=h
theorem bHt(h:P:=by
 rintro r w3 ⟨rfl,hb⟩;have Aj:=Hd (Ai.o.tr hb);have Dm:=Hd (Cj.o.tr hb);clear hb q0 q1 q2 q3 q4 q5;obtain⟨q0,q1,q2,q3,q4,q5⟩:=Sx (HC.o w3 Dm.o);go_wp2_with fail;go_ret;exact⟨aO HN.o.symm,Aj.o⟩):P:=h
theorem bHu(h:P:=by
 go_roundw;case rel=>exact⟨q,(aG5 HR.o hp HX.o (fun h=>absurd h HZ.o) Ef).1,rfl,(aG5 HR.o hp HX.o (fun h=>absurd h HZ.o) Ef).2⟩
 case measure=>simp;have:=aMc hp HX.o;omega):P:=h
theorem bHv(h:P:=by
 clear Ak Gb;gi_wp2_with fail;refine⟨_,?_,aO HE.o.symm,Aj.o.setCell (p:=⟨w.heap.size,0,none⟩) (Yh _) _⟩;have k1:=(HX.o.set (.bool false)).cell;simp[results,Tryz.f101,go_sem,k1]):P:=h
theorem bHw(h:P:=by
 clear hcell Am Ab Al Cu Af HF;go_wp2_with fail;refine Gz.o.mono ?_;rintro r w2 ⟨rfl,Ag⟩;have Ai:=Hd (Ac.o.tr Ag);clear Ag;go_wp2_with fail;go_ret;exact⟨aO HN.o.symm,Ai.o⟩):P:=h
theorem bHx(h:P:=by
 rw[hb]at HS;go_in
 go_wp2_with fail;refine(HC.o _).mono ?_;rintro e w1 ⟨rfl,rfl⟩;go_wp2_with fail;refine(HS.o _).mono ?_;rintro e w1 ⟨rfl,rfl⟩;go_wp2_with fail;go_ret;exact⟨rfl,Yg _ _⟩):P:=h
theorem bHy(h:P:=by
 by_cases k0:k<1
 . go_in
   go_wp2_with fail;go_ret;exact⟨aO HE.o.symm,HB.o⟩
 . by_cases k4:3<k
   all_goals
    go_in
    go_wp2_with fail;go_ret;exact⟨aO HE.o.symm,HB.o⟩):P:=h
theorem aRh(h:P:=by
 simp only[Array.getElem?_mapIdx]at h;cases hh:w.heap[p.block]? with
 |none=>rw[hh]at h;cases h
 |some o=>
  rw[hh]at h;simp only[Option.map_some,if_pos hp]at h;split at h<;>simp at h):P:=h
theorem bHz(h:P:=by
 clear Ag;go_wp2_with fail;go_roundw;case rel=>
  refine⟨k+1,by omega,by go_num,?_,Ai.o⟩;rw[Ir.o];first|rfl|(congr 1;omega)|(simp;done)|skip
 case measure=>simp[intOf];omega):P:=h
theorem bH0(h:P:=by
 refine⟨?_,by show sz<=sz+1;omega,by show ps.length<=_;omega,by show r.tail.length<=_;omega,⟨trivial,?_,trivial⟩,rfl⟩
 . show 5+64*r.tail.length+1<=_;omega
 . show ps.length<=ps.length+1;omega):P:=h
theorem bH1(h:P:=by
 clear hf ht hc Au;go_wp2_with fail;refine(bAn a _ aA).mono ?_;rintro e w2 ⟨rfl,hb⟩;have Ai:=Hd (HB.o.tr hb);clear hb;go_wp2_with fail;go_ret;exact⟨aO HE.o,Ai.o⟩):P:=h
theorem bH2(h:P:=by
 rintro r w2 ⟨rfl,Ag⟩;have Ai:=Hd (Ay.o.tr Ag);clear Ag;go_wp2_with fail;go_roundw;case rel=>exact⟨k+1,by omega,by go_num,by rw[<-HE.o],Ai.o⟩
 case measure=>simp[intOf];omega):P:=h
theorem bH3(h:P:=by
 have hF:=Hd (bNo (a:=ss) (b:=tt) aA);have Bv:((n:Int) !=(m:Int))=true:=by rw[bne_iff_ne];omega
 go_in
 go_wp2_with fail;go_ret;exact⟨aO hF.o.symm,Yg _ _⟩):P:=h
theorem aGm(h:P:=by
 rintro e w' ⟨rfl,hx⟩;have HX:=Hd hx;clear hx;go_wp2_with fail;go_end0
 exact kJ (o:=.ok _ _) HM.o (Tn.of_below HN.o.below) (fun k hk=>absurd hk Yl) ⟨rfl,HX.o⟩):P:=h
theorem bH4(h:P:=by
 rintro r w2 ⟨rfl,Ag⟩;have Ai:=Hd (Ay.o.tr Ag);clear Ag;go_wp2_with fail;go_roundw;case rel=>exact⟨1,by omega,by go_num,by rw[<-HE.o],Ai.o⟩
 case measure=>simp[intOf];omega):P:=h
theorem bH5(h:P:=by
 go_roundw;case rel=>exact⟨q,(aG5 HR.o hp HX.o (fun _=>Gh) Ef).1,rfl,(aG5 HR.o hp HX.o (fun _=>Gh) Ef).2⟩
 case measure=>simp;have:=aMc hp HX.o;omega):P:=h
theorem aRi(h:P:=by
 have e:=Av.lo.block k (Yt hk Bo.size);rw[show(G0 w6 w2.heap.size A n c all).b=w2.heap.size from rfl,dH hn,dH hn]at e;exact e.trans (Bo.block k hk)):P:=h
theorem bH6(h:P:=by
 rw[h2]at HE;go_in
 go_wp2_with fail;refine HH.o.mono ?_;rintro e w2 ⟨rfl,Ag⟩;have Ai:=Hd Ag;clear Ag;go_wp2_with fail;go_ret;exact⟨aO mQ,Ai.o⟩):P:=h
theorem bH7(h:P:=by
 refine(HP.o w2 (HA.o w2 Ai.o).1).mono ?_;rintro e w4 ⟨rfl,h4⟩;have H4:=Hd h4;clear h4;go_wp2_with fail;go_ret2;exact⟨⟨_,rfl,rfl⟩,(HA.o w2 Ai.o).trans H4.o⟩):P:=h
theorem bH8(h:P:=by
 exact aI.cons_ (mN _) (aI.cons_ (tQ aF (lP _ _)) (aI.cons_ (aI.sp _) (aI.cons_ (Ha _ (rH _ _)) (aI.cons_ (mO _) (aI.nil_ _)))))):P:=h
theorem bH9(h:P:=by
 go_in
 go_wp2_with fail;refine HH.o.mono ?_;rintro e w2 ⟨rfl,Ag⟩;have Ai:=Hd Ag;clear Ag;go_wp2_with fail;go_ret;exact⟨aO mQ,Ai.o⟩):P:=h
theorem bIa(h:P:=by
 go_wp2_with fail;refine Fi.o.mono ?_;rintro e w7 ⟨rfl,Dr⟩;have Gi:=Hd (Db.o.tr Dr);clear Dr;go_wp2_with fail;go_ret;exact⟨iL HE.o.symm,Gi.o⟩):P:=h
theorem bIb(h:P:=by
 rw[h5]at HE;go_wp2_with fail;refine(He.o w4).mono ?_;rw[h5];rintro e w5 ⟨rfl,rfl⟩;go_wp2_with fail;go_ret;exact⟨aO mQ,Bd.o⟩):P:=h
theorem aKz(h:P:=by
 go_wp2_with fail;refine Bq.o.mono ?_;rintro r w3 ⟨rfl,Ak⟩;have Aj:=Hd (Cx.o.tr Ak);clear Ak;go_wp2_with fail;go_ret;exact⟨iK HE.o,Aj.o⟩):P:=h
theorem aK0(h:P:=by
 have Kl:k=n:=by omega
 have HN:=Hd (Ey.o fun j hj=>HT.o j (by rw[Fk.o]at hj;omega));go_wp2_with fail;go_ret;exact⟨iL HN.o.symm,Bk.o⟩):P:=h
theorem bIc(h:P:=by
 simp only[Yw,Option.mem_toList,not_or]at hn;rw[Dd k hn.1,Du.block k (Yt hk hb.size) (fun e=>hn.2 e.symm),hb.block k hk]):P:=h
theorem bId(h:P:=by
 have HE:=Hd (aTl (n:=n) (e:=e) (l:=l) (show ¬(k=1\/k=2)by omega) aA);go_in
 go_wp2_with fail;go_ret;exact⟨aO HE.o.symm,HB.o⟩):P:=h
theorem bIe(h:P:=by
 rw[h3]at HE;go_in
 go_wp2_with fail;refine HH.o.mono ?_;rintro e w1 ⟨rfl,rfl⟩;go_wp2_with fail;go_ret;exact⟨aO mQ,rfl⟩):P:=h
theorem bIf(h:P:=by
 refine(rR (lT HM.o.lv 0)).trans ?_
 match i,hi with
 |0,_=>exact HN.o.cell 0 0 _ _ rfl rfl
 |1,_=>exact HN.o.cell 0 1 _ _ rfl rfl):P:=h
theorem bIg(h:P:=by
 have El:=lK hk hn hs Ei Hf Gd;simp only[bG,bX,cL,mM,hk,hn]at h;obtain⟨p,_,rfl,rfl⟩:=h;rw[El];simp[dD,dK,eF,dY]):P:=h
theorem bIh(h:P:=by
 obtain⟨q,hq,rfl⟩:=Zm hs
 have:=h1.2.2 q hq
 unfold lZ at this;rw[Yk hq,Yv]at this;omega):P:=h
theorem aPi(h:P:=by
 have Ah:=(Ym.1 h.row).1;have e:=hk.block D Ah;rw[dH aA,dH aA]at e;exact e.trans h.row):P:=h
theorem bCb(h:P:=by
 clear h;go_in
 go_wp2_with fail;refine HR.o.mono ?_;rintro e w' ⟨rfl,hx⟩;have HX:=Hd hx;clear hx;go_wp2_with fail;go_end0
 exact⟨rfl,HX.o⟩):P:=h
theorem bCc(h:P:=by
 refine⟨h.1,?_⟩;rcases h.2 with h|⟨g,cap,cur,e1,hg,hh,r⟩;· exact .inl h
 . exact .inr ⟨g,cap,cur,e1,hg,(hb g (by rw[e1];rfl)).trans hh,r⟩):P:=h
theorem bCd(h:P:=by
 exact Zy (nM (p:=2) (u:=3) rfl _ _ w.heap.size cI rfl (Dl.o.set cI)) rfl ⟨rfl,Xg Ai.o (Yh _) _⟩):P:=h
theorem bCe(h:P:=by
 subst k3;by_cases e0:0<=e
 all_goals
  go_in
  go_wp2_with fail;go_ret;exact⟨aO (by rw[HE.o,Zq];simp;omega),HB.o⟩):P:=h
theorem bCf(h:P:=by
 have Kl:k=n:=by omega
 have HY:=Hd (Hk.o fun i hi=>HT.o i aA);go_wp2_with fail;go_ret;exact⟨aO HY.o.symm,Bk.o⟩):P:=h
theorem bCg(h:P:=by
 rintro e w2 ⟨rfl,Ag⟩;have Ai:=Hd (Ac.o.tr Ag);clear Ag q0;go_wp2_with fail;go_ret;exact⟨aO mQ,Ai.o⟩):P:=h
theorem bCh(h:P:=by
 rintro e w1 ⟨rfl,Bz,Ab⟩;have Iz:=Hd Bz;have Ac:=Hd Ab;clear Bz Ab;go_wp2_with fail;exact⟨rfl,zW HM.o Iz.o Ac.o⟩):P:=h
theorem bCi(h:P:=by
 go_in
 go_wp2_with fail;refine HH.o.mono ?_;rintro e w1 ⟨rfl,rfl⟩;go_wp2_with fail;go_ret;exact⟨aO mQ,rfl⟩):P:=h
theorem bCj(h:P:=by
 have HB:=Hd (Ai.o.tr Bk.o);go_wp2_with fail;go_ret;exact⟨aO (by first|exact HE.o.symm|(rw[HE.o];rfl)),HB.o⟩):P:=h
theorem aJo(h:P:=by
 go_wp2_with fail;go_ret;exact⟨iL (by rw[HE.o,Mu.o (by rw[Jn.o];rfl)];rfl),Ac.o.trans (Bd.o.mono aA)⟩):P:=h
theorem bCk(h:P:=by
 exact(HB.o.alloc (by have:=HB.o.size;omega) _).grown HG.o (by have:=HB.o.size;simp;omega) (fun j hj=>(HR.o.lt j hj).1)):P:=h
theorem bCl(h:P:=by
 rintro e w1 ⟨rfl,hq,hb⟩;have HQ:=Hd hq;have HB:=Hd hb;clear hq hb;go_wp2_with fail;go_end0
 exact aMs HM.o HQ.o HB.o):P:=h
theorem bCm(h:P:=by
 simp only[dZ,Yw,Option.mem_toList]at hs;rcases hs with hs|hs;· exact(Gw k hk).1 hs
 . exact(Gw k hk).2.1 hs):P:=h
theorem bCn(h:P:=by
 rw[Zj];intro c hc;obtain⟨k,hk,e⟩:=Zm hc;rw[<-e,aAa s k aA];exact ha k aA):P:=h
theorem bCo(h:P:=by
 clear Ag;go_wp2_with fail;go_roundw;case rel=>exact⟨k+1,by omega,by go_num,Gt.o,Ai.o⟩
 case measure=>simp[intOf];omega):P:=h
theorem bCp(h:P:=by
 exact(Tn.of_below (S:=[]) HN.o.below).up (fun k hk=>absurd hk Yl) _ _ (HO.o i (by rw[<-Ld.o];exact hi))):P:=h
theorem aPj(h:P:=by
 refine⟨?_,by show sz<=sz+1;omega,by show ps.length<=_;omega,Yh _,trivial,rfl⟩;show 0+64*r.length+1<=1+64*r.length;omega):P:=h
theorem bCq(h:P:=by
 have HE:=Hd (Jq.o k HA.o aA);go_wp2_with fail;go_ret;exact⟨aO (by rw[HN.o,HE.o]),Ac.o.tr Ay.o⟩):P:=h
theorem cB4(h:P:=by
 have h1:=h.pre;simp only[Yq]at h1;rw[show n-r'.length=(n-(r'.length+1))+1 by omega,<-List.drop_drop,h1];rfl):P:=h
theorem bCr(h:P:=by
 by_cases h1:48<=x
 all_goals
  go_in
  go_wp2;go_ret;exact⟨aO (by rw[Zq];simp[cC,h1]<;>omega),rfl⟩):P:=h
theorem bCs(h:P:=by
 rintro r w2 ⟨rfl,Ag⟩;have Ai:=Hd (Ay.o.tr Ag);clear Ag;go_wp2_with fail;go_ret;exact⟨aO HN.o.symm,Ai.o⟩):P:=h
theorem aJp(h:P:=by
 rw[ha]at HA;have d0:decide ((0:Int)<=dL f l 0)=false:=HA.o;go_wp2_with fail;go_ret;exact⟨aO ha.symm,Ai.o⟩):P:=h
theorem bCt(h:P:=by
 rcases aE0 HX.o with rfl|rfl
 . go_wp2_with fail;go_end0
   exact HX.o
 . go_wp2_with fail;exact⟨rfl,HX.o⟩):P:=h
theorem bCu(h:P:=by
 simp only[Array.getElem?_mapIdx];cases w.heap[p.block]? with
 |none=>rfl
 |some o=>simp only[Option.map_some,if_neg h]):P:=h
theorem aJq(h:P:=by
 rw[ha]at HA;have d0:decide ((0:Int)<=dL f l 0)=true:=HA.o;go_wp2_with fail;go_ret;exact⟨aO ha.symm,Ai.o⟩):P:=h
theorem aC2(h:P:=by
 go_upto_region 6 with(fail);go_quiet (fail);go_wp2_with fail;go_ret;exact⟨aO Di.o.symm,eP Bk.o _⟩):P:=h
theorem bCv(h:P:=by
 obtain⟨ve,vn,h1,h2⟩:=h.row;refine⟨ve,vn,?_,h2⟩;rw[Xi _ _ _ _ _ _ _ h1,Xh _ _ _ _ _ _ h1];rfl):P:=h
theorem aPk(h:P:=by
 go_wp2_with fail;go_roundw;case rel=>exact⟨k+1,by omega,by go_num,Fl.o,Aj.o⟩
 case measure=>simp[intOf];omega):P:=h
theorem bCw(h:P:=by
 go_wp2_with fail;go_roundw;case rel=>exact⟨k+1,by omega,by go_num,Fl.o,Bk.o⟩
 case measure=>simp[intOf];omega):P:=h
theorem aPl(h:P:=by
 intro e;first|exact hn (.inr (.inl e))|exact hn (.inr (.inr (.inl e)))|exact hn (.inr (.inr (.inr (.inl e))))):P:=h
theorem aPm(h:P:=by
 go_wp2_with fail;go_ret;exact⟨aO (by first|exact HN.o.symm|(rw[Mr.o];exact HN.o.symm)),Ai.o⟩):P:=h
theorem bCx(h:P:=by
 rw[hb.cell (p:=⟨w.heap.size,j,none⟩) cP,Yj _ _ _ aC,Zs]):P:=h
theorem bCy(h:P:=by
 have:=gP h.own k Cb
 have e:=hk.block k (h.own.lt k Cb).2;rwa[dH aA,dH aA]at e):P:=h
theorem bCz(h:P:=by
 rename_i cc x y e2;split at e2
 . injection e2 with e2;injection e2 with e3;subst e3;simp at c0
 . cases e2):P:=h
theorem bC0(h:P:=by
 go_round
 case rel=>exact⟨k+1,by omega,by go_num,bLn HR.o Ah HX.o⟩
 case measure=>simp[intOf];omega):P:=h
theorem aPn(h:P:=by
 simp only[dZ,Yw,Option.mem_toList]at hk;rcases hk with rfl|hk;· exact h.lb
 . exact h.la k hk):P:=h
theorem bC1(h:P:=by
 generalize grow (redrawn wr dq) Bj=wq at *;go_wp2_with fail;go_ret;exact⟨iK HE.o,Ac.o.tr Eo.o⟩):P:=h
theorem aPo(h:P:=by
 rcases hA.goes with hg|hg;· exact h3 (hg ▸ Cb)
 . intro h4
   have:=hg k Cb
   have:=(h2.lt k h4).2
   omega):P:=h
theorem bC2(h:P:=by
 obtain⟨A1,c1,A2,c2,A3,c3,A4,c4,h1,h2⟩:=h;exact⟨A1,c1,A2,c2,A3,c3,A4,c4,uE h1 hb hk,h2.keep hs hk⟩):P:=h
theorem bC3(h:P:=by
 have:=gP h2 k Cb
 have e:=hk.block k (h2.lt k Cb).2;rwa[dH aA,dH aA]at e):P:=h
theorem bC4(h:P:=by
 rw[hq]at h;simp only[Option.map_some,Option.some.injEq,Prod.mk.injEq]at h;exact⟨i,rfl,h.1,h.2.1,h.2.2⟩):P:=h
theorem bC5(h:P:=by
 rcases hg2 with hg2|hg2;· exact(Gw k hk).2.1 (hg2 ▸ e)
 . have:=hg2 k e
   have:=(Gw k hk).2.2.2
   omega):P:=h
theorem bC6(h:P:=by
 have h9:b<w.heap.size:=Yi _ _ (HC.o w (Yg _ _)).1
 have:=Ac.o.size
 omega):P:=h
theorem bC7(h:P:=by
 go_wp2_with fail;go_ret;exact⟨rfl,HA.o.1.setCell HD.o.1 HD.o.2,by simp,aC0 HD.o.1 Kq.o rfl⟩):P:=h
theorem bC8(h:P:=by
 rcases Yw.1 hk with rfl|hk;· exact Ah
 . have:=h.lv k hk;have:=hb.size;have:=Du.size;omega):P:=h
theorem bC9(h:P:=by
 simp[dK,aFl hl (show aQ eF=false by decide),aFl hl (show aQ dY=false by decide)]):P:=h
theorem bDa(h:P:=by
 split at hn
 . injection hn with hs hn;subst hn hs;exact⟨h.tail,h t Zc⟩
 . cases hn):P:=h
theorem bDb(h:P:=by
 have Jt:=mkf;generalize G.b=b at *;go_in
 go_wp2_with fail;go_ret;exact⟨⟨_,_,⟨rfl,rfl⟩,news rfl⟩,rfl⟩):P:=h
theorem bDc(h:P:=by
 have e:=Ar.2.block k hk;rw[show(G.at w ve vn).b=G.b from rfl,dH hb,dH hb]at e;exact e):P:=h
theorem bDd(h:P:=by
 have:=h (i+1) vG
 rw[show off+(i+1)*6=off+6+i*6 by omega]at this;simpa using this):P:=h
theorem bDe(h:P:=by
 rintro e w' ⟨rfl,hb⟩;have HB:=Hd hb;clear hb;go_wp2_with fail;go_ret;exact⟨aO HE.o,HB.o⟩):P:=h
theorem bDf(h:P:=by
 go_wp2_with fail;go_ret;exact⟨aO (by first|exact HE.o.symm|(rw[HE.o];rfl)),HB.o⟩):P:=h
theorem bDg(h:P:=by
 have:=aC9 (p:=fun c=>cZ (c.toNat:Int)) (c::l)
 show(bO (c::l)).length<=_;unfold bO;omega):P:=h
theorem bDh(h:P:=by
 go_wp2_with fail;go_ret;exact⟨aO (by rw[HE.o,Di.o];rfl),fT Ai.o Aj.o⟩):P:=h
theorem bDi(h:P:=by
 exact⟨⟨trivial,⟨gx0 _ _ _,Ys _⟩,trivial⟩,hp,Yh _,aZp hr mY⟩):P:=h
theorem bDj(h:P:=by
 clear Ag;go_wp2_with fail;go_ret;exact⟨aO (by rw[HN.o,Gt.o]),Ac.o.tr Ai.o⟩):P:=h
theorem bDk(h:P:=by
 cases x with
 |ok a q=>exact List.IsSuffix.trans h hs
 |bad q=>exact List.IsSuffix.trans h hs):P:=h
theorem aPp(h:P:=by
 exact⟨⟨trivial,⟨gx0 _ _ _,Ys _⟩,trivial⟩,hp,Yh _,sC hr mY⟩):P:=h
theorem aJr(h:P:=by
 have Jt:=mkf;generalize G.b=b at *;go_in
 go_wp2_with fail;go_ret;exact⟨⟨_,_,_,news rfl⟩,rfl⟩):P:=h
theorem bDl(h:P:=by
 rcases Nat.lt_or_ge j k with h1|h1;· exact H j h h1
 . obtain rfl:j=k:=by omega
   exact hx):P:=h
theorem aFx(h:P:=by
 have Jt:=mkf;generalize G.b=b at *;go_in
 go_wp2_with fail;go_ret;exact⟨⟨_,_,news rfl⟩,rfl⟩):P:=h
theorem bDm(h:P:=by
 generalize (bI x 0).k=z at *;go_wp2_with fail;go_ret;exact⟨aO HN.o.symm,Ac.o⟩):P:=h
theorem aPq(h:P:=by
 go_in
 go_wp2_with fail;go_ret;exact⟨aO (by rw[HE.o,Zq];simp),HB.o⟩):P:=h
theorem bDn(h:P:=by
 subst Dy;rw[if_pos rfl]at HE;go_wp2_with fail;go_ret;exact⟨iL HE.o.symm,Ai.o⟩):P:=h
theorem bDo(h:P:=by
 rw[List.take_succ_eq_append_getElem nZ];simp[Yk h]):P:=h
theorem bDp(h:P:=by
 rw[Yz aA];rw[Yz aA]at ih;omega):P:=h
theorem aPr(h:P:=by
 rcases Nat.lt_or_ge j k with h1|h1;· exact H j h1
 . obtain rfl:j=k:=by omega
   exact h):P:=h
theorem bDq(h:P:=by
 exact⟨(Yj _ _ _ l0).trans e0,(Yj _ _ _ l3).trans e3⟩):P:=h
theorem aPs(h:P:=by
 unfold World.cell? at hc⊢;rw[Xb _ _ _ _ (by show _≠eb;omega)];exact hc):P:=h
theorem bDr(h:P:=by
 go_wp2_with fail;go_ret;exact⟨aO (by rw[HE.o];simpa using Na.symm),Bd.o⟩):P:=h
theorem bDs(h:P:=by
 rcases aL4 hg k hk with hk|hk;· exact .inl (aBn k hk)
 . exact .inr hk):P:=h
theorem bDt(h:P:=by
 rcases Yw.1 hk with hk|hk;· omega
 . have:=h.lv p hk;have:=Ab.size;omega):P:=h
theorem aPt(h:P:=by
 generalize grow (redrawn w dq) Bj=wq at *;go_wp2_with fail;go_ret;exact⟨rfl,HB.o⟩):P:=h
theorem bDu(h:P:=by
 rw[e4]at HE;go_wp2_with fail;go_ret;exact⟨aO mQ,Ac.o⟩):P:=h
theorem bDv(h:P:=by
 go_wp2_with fail;go_ret;exact⟨rfl,((Yg _ _).alloc (Yh _) _).drew⟩):P:=h
theorem bDw(h:P:=by
 rintro r w2 ⟨rfl,rfl⟩;go_wp2_with fail;go_ret;exact⟨aO HN.o.symm,Ac.o⟩):P:=h
theorem bDx(h:P:=by
 have:=h.pre
 rw[e]at this⊢;have h2:=congrArg (fun l=>l[0]?) this;simpa using h2):P:=h
theorem bDy(h:P:=by
 rw[Yp.1 hk];exact⟨s1,s2,HV.o,by have:=De.o.size;simp;omega⟩):P:=h
theorem bDz(h:P:=by
 go_ret;exact⟨aO (bJp HZ.o hp HX.o Gh).symm,aBk _ _ _⟩):P:=h
theorem aPu(h:P:=by
 rcases h.2 with⟨rfl,rfl⟩|⟨g,cap,cur,rfl,_⟩;· exact⟨none,0,rfl⟩
 . exact⟨_,_,rfl⟩):P:=h
theorem bD0(h:P:=by
 rw[h1]at Bv;go_wp2_with fail;go_ret;exact⟨aO (by rw[h1];rfl),Ai.o⟩):P:=h
theorem bD1(h:P:=by
 unfold cG at h;split at h;· cases h
 . split at h;· assumption
   . cases h):P:=h
theorem bD2(h:P:=by
 refine QR.congr fun l q _=>?_;rw[mP,dV];exact QR.congr fun _ q _=>rfl):P:=h
theorem bD3(h:P:=by
 obtain⟨rfl,hm⟩:=hm;exact⟨v,r1,he,ha.1,hl,o.st t w w' r r1 hs hi ha hl,rfl,hm⟩):P:=h
theorem aPv(h:P:=by
 rw[Xi _ _ _ _ _ _ _ h.row,Xh _ _ _ _ _ _ h.row];rfl):P:=h
theorem aPw(h:P:=by
 clear ht;go_in
 go_wp2_with fail;go_ret;exact⟨iK HE.o,Yg _ _⟩):P:=h
theorem bD4(h:P:=by
 simp only[dZ,Yw,Option.mem_toList]at hk;exact hk.elim s1 s2):P:=h
theorem bD5(h:P:=by
 rcases Yw.1 hk with hk|hk;· omega
 . have:=HM.o.lv _ hk;omega):P:=h
theorem bD6(h:P:=by
 unfold World.cell?;rw[show w.heap[(⟨g,j,none⟩:Addr).block]?=_ from h];rfl):P:=h
theorem aPx(h:P:=by
 rw[List.take_add_one,Yk h,List.flatMap_append];simp):P:=h
theorem bD7(h:P:=by
 obtain⟨eb,h1,h2,_⟩:=h;rw[h1,Yp]at hk;rw[hk];exact h2.1):P:=h
theorem bD8(h:P:=by
 go_in
 go_wp2_with fail;go_ret;exact⟨aO HE.o.symm,Yg _ _⟩):P:=h
theorem bD9(h:P:=by
 go_in
 go_wp2_with fail;go_ret;exact⟨aO HN.o.symm,Yg _ _⟩):P:=h
theorem bEa(h:P:=by
 unfold dD;rw[e1,Dj];exact congrArg (fun z=>PR.ok z rest) El.symm):P:=h
theorem aJs(h:P:=by
 split
 . split;· exact Sf.okc _ _ _
   . exact Sf.bad _
 . exact Sf.bad _):P:=h
theorem bEb(h:P:=by
 rw[List.take_add_one,List.getElem?_map,Yk h];simp):P:=h
theorem aPy(h:P:=by
 rw[Lib.extract_data,Yz (by rw[Zp];simp)]):P:=h
theorem aPz(h:P:=by
 go_wp2_with fail;go_ret;exact⟨aO (by rw[mZ,Di.o];simp),rfl⟩):P:=h
theorem bEc(h:P:=by
 injection h2 with h2;injection h2 with _ h2;exact absurd h2 aF):P:=h
theorem bEd(h:P:=by
 rw[List.take_succ_eq_append_getElem h,Yk h];rfl):P:=h
theorem aP0(h:P:=by
 go_wp2_with fail;go_ret;exact⟨aO HF.o.symm,Ac.o.tr Aj.o⟩):P:=h
theorem bEe(h:P:=by
 clear Ag;go_wp2_with fail;go_ret;exact⟨aO HN.o.symm,Ai.o⟩):P:=h
theorem bEf(h:P:=by
 unfold kH;split;· omega
 . split;· simp[iE];omega
   . simp;omega):P:=h
theorem bEg(h:P:=by
 simp only[Yq,Yo,Zg];omega):P:=h
theorem aP1(h:P:=by
 obtain⟨p,r,rfl,_⟩:=h;exact⟨_,r,rfl,bOz aF aF⟩):P:=h
theorem aJt(h:P:=by
 go_wp2_with fail;go_ret;exact⟨aO mQ,Ai.o⟩):P:=h
theorem wM(h:P:=by
 go_wp2_with fail;go_ret;exact⟨aO mQ,Aj.o⟩):P:=h
theorem aJu(h:P:=by
 go_wp2_with fail;go_ret;exact⟨aO mQ,Ac.o⟩):P:=h
theorem aC3(h:P:=by
 go_wp2_with fail;go_ret;exact⟨aO mQ,HB.o⟩):P:=h
theorem aP2(h:P:=by
 go_wp2_with fail;go_ret;exact⟨iL mQ,Ej.o⟩):P:=h
theorem bEh(h:P:=by
 go_wp2_with fail;go_ret2;exact⟨⟨_,rfl,rfl⟩,HX.o _ Ai.o HK.o⟩):P:=h
theorem aFy(h:P:=by
 injection hn with hn;subst hn;exact⟨h.tail aA,rfl,rfl,rfl⟩):P:=h
theorem bEi(h:P:=by
 rw[hs]at e;injection e with e1 e2;rw[<-e1,Fj]at Gx;cases Gx):P:=h
theorem bEj(h:P:=by
 rw[Xi _ _ _ _ _ _ _ h,Xh _ _ _ _ _ _ h,e]):P:=h
theorem aP3(h:P:=by
 split at hn;· cases hn
 . injection hn with hn;subst hn;exact h):P:=h
theorem bEk(h:P:=by
 split
 . rw[mP,dV];refine QR.congr fun _ _ _=>rfl
 . rfl):P:=h
theorem bEl(h:P:=by
 rw[Yk aA];exact Zk _):P:=h
theorem bEm(h:P:=by
 rw[show off+6+i*6=off+(i+1)*6 by omega]at this;simpa using this):P:=h
theorem bEn(h:P:=by
 intro u hu;simp only[List.mem_map]at hu;obtain⟨z,_,rfl⟩:=hu;rfl):P:=h
theorem bEo(h:P:=by
 go_wp2_with fail;go_ret;exact⟨aO (by rw[Fm.o]),Ai.o⟩):P:=h
theorem aJv(h:P:=by
 injection h with h;injection h with h _;subst h;intro e;simp at e):P:=h
theorem bEp(h:P:=by
 obtain⟨p,r,rfl,_⟩:=h;exact⟨_,r,rfl,bTa (hf.low aA)⟩):P:=h
theorem bEq(h:P:=by
 rename_i hc;simp only[Prod.mk.injEq]at h;exact absurd h.2.2 hc):P:=h
theorem aJw(h:P:=by
 rintro rfl
 have:=hq.b0D
 exact hn (.inl ⟨Yh _,by omega⟩)):P:=h
theorem bEr(h:P:=by
 go_wp2_with fail;go_ret;exact⟨iK (by rw[HE.o]),Ay.o⟩):P:=h
theorem bEs(h:P:=by
 clear Ak;go_wp2_with fail;go_ret;exact⟨iL HE.o,Aj.o⟩):P:=h
theorem bEt(h:P:=by
 have h:=hf.a11 h11
 match hl:x.arms,h with
 |[m],_=>exact⟨m,rfl⟩):P:=h
theorem bEu(h:P:=by
 rw[Ld.o];exact Fz.new (HN.o.cell 2 0 _ _ rfl rfl) (Dp 2)):P:=h
theorem bEv(h:P:=by
 cases f with
 |zero=>rfl
 |succ f=>rw[fG,h,if_neg aC]):P:=h
theorem bEw(h:P:=by
 have:=h1 j v hv
 rw[Fd]at this;rw[Nat.add_assoc];exact this):P:=h
theorem aP4(h:P:=by
 rename_i hi;injection hn with _ hn;subst hn;exact dE h hi):P:=h
theorem bEx(h:P:=by
 rw[if_pos h,hE (by have:=vW y;omega),hY aA];rfl):P:=h
theorem bEy(h:P:=by
 rw[List.getElem?_map,Yk aA];rfl):P:=h
theorem aP5(h:P:=by
 have hu:=Tryz.underlying91;simp[Instr.field,go_sem,hu,asAgg]):P:=h
theorem aJx(h:P:=by
 rw[hx]at e h1;injection e with _ e;subst e
 have:=h1.2
 omega):P:=h
theorem bEz(h:P:=by
 go_wp2_with fail;go_ret;exact⟨aO Di.o.symm,Aj.o⟩):P:=h
theorem bE0(h:P:=by
 injection hn with _ hn;subst hn;exact⟨h.tail aA,rfl⟩):P:=h
theorem aP6(h:P:=by
 go_wp2_with fail;go_ret;exact⟨aO HN.o.symm,Ac.o⟩):P:=h
theorem bE1(h:P:=by
 go_wp2_with fail;go_ret;exact⟨aO HN.o.symm,Ai.o⟩):P:=h
theorem bE2(h:P:=by
 go_wp2_with fail;go_ret;exact⟨aO HN.o.symm,Bd.o⟩):P:=h
theorem aJy(h:P:=by
 go_wp2_with fail;go_ret;exact⟨iL HE.o.symm,Ai.o⟩):P:=h
theorem aP7(h:P:=by
 cases h;exact⟨hp,Cz,by simp[Tk.w],by simp,rfl,fun _=>ht⟩):P:=h
theorem aP8(h:P:=by
 rename_i hi;obtain⟨h1,h2⟩:=dE h hi;exact⟨h1,by omega⟩):P:=h
theorem aJz(h:P:=by
 rw[Yk h];exact Zk _):P:=h
theorem aP9(h:P:=by
 injection hn with hn;subst hn;exact⟨h.tail,g0 _ _ _,rfl⟩):P:=h
theorem bE3(h:P:=by
 obtain⟨rfl,h3⟩:=hE;go_wp2_with fail;go_ret;exact⟨rfl,h3⟩):P:=h
theorem aQa(h:P:=by
 clear hx;subst hr;go_wp2_with fail;go_end0
 exact HX.o):P:=h
theorem aFz(h:P:=by
 go_wp2_with fail;go_ret;exact Ey.o w4 Kz.o):P:=h
theorem aF0(h:P:=by
 (repeat' apply And.intro)<;>intro _<;>omega):P:=h
theorem aF1(h:P:=by
 exact congrArg (fun z=>PR.ok z rest) El.symm):P:=h
theorem aJ0(h:P:=by
 go_wp2_with fail;go_ret;exact bRu es w):P:=h
theorem bE4(h:P:=by
 have:=h0.size
 rwa[fC,fC]at this):P:=h
theorem tI(h:P:=by
 exact⟨by decide,.inr aF,by decide⟩):P:=h
theorem aF2(h:P:=by
 exact⟨by decide,.inl aF,by decide⟩):P:=h
theorem aQb(h:P:=by
 rwa[Yk hj]at this):P:=h
theorem aJ1(h:P:=by
 simp only[Value.slice.injEq]at h1;omega):P:=h
theorem aQc(h:P:=by
 intro r1 he;exact Ap r1 (by simp[he])):P:=h
theorem bE5(h:P:=by
 obtain⟨t,r',e⟩:=h.fin.cons_;rw[e];simp):P:=h
theorem aJ2(h:P:=by
 rw[List.append_nil]at this;exact this):P:=h
theorem aF3(h:P:=by
 go_wp2_with fail;go_end0
 exact HX.o):P:=h
theorem bE6(h:P:=by
 unfold World.frozen?;rw[h.row];simp):P:=h
theorem aJ3(h:P:=by
 go_wp2_with fail;exact⟨rfl,HX.o⟩):P:=h
theorem aC4(h:P:=by
 show ps.length-1+1=ps.length;omega):P:=h
theorem aJ4(h:P:=by
 exact⟨trivial,hp,Yh _,hr⟩):P:=h
theorem aJ5(h:P:=by
 go_ret;exact⟨iL HE.o,rfl⟩):P:=h
theorem aF4(h:P:=by
 exact bW0 hf h hc aA):P:=h
theorem aC5(h:P:=by
 simp at hcs;exact⟨_,_,_,hcs⟩):P:=h
theorem aC6(h:P:=by
 exact Zc):P:=h
end
end Go.Proofs.YtagkcjpoipcpkaaGreatDoor
