/- Parts of the proof: ScU, ScO, ScH. Conditions: each theorem's own. -/
import Derived.WalkMore
import Derived.Test.YtegjgiofmpolnaaGreatC29
import Derived.Test.YtegjgiofmpolnaaGreatC30
namespace Go.Proofs.YtegjgiofmpolnaaGreat
set_option linter.unusedVariables false
set_option linter.unusedSimpArgs false
set_option maxRecDepth 100000
set_option maxHeartbeats 40000000
section
open Go.RowKit Go.Sort Go.BigFrame
theorem aEv:(Tryz.prog.info? 93).map (·.size)=some 4:=by kernel_rfl
theorem aSk{fn:Func}{p:Tmp}(h:fn.results=#[.cell p 93]) (tmps:Array Value) (w:World) (i:Nat) (E:Option Addr) (n c bn bv bd:Nat)
 (hp:tmps.getD p undef=.pointer (some ⟨i,0,none⟩)) (hg:w.heap[i]?=some (Obj.cells (dJ E n c bn bv bd) 93)):(results fn tmps).run Tryz.prog w=.ok (.agg (dJ E n c bn bv bd)) w:=
 results_cell_row h tmps w i _ _ _ _ hp hg Tryz.underlying93 rfl aEv
theorem aBo{l:List Dc}{k:Nat}(h:k<l.length):(bD l).take (k+1)=(bD l).take k++[(l[k]?.getD default).nm]:=by
 unfold bD;rw [List.take_succ_eq_append_getElem (by simpa using h),Yk h]
 simp
theorem bJ.row{W:World}{b m g:Nat}{l:List ByteArray}(h:bJ W b m l) (Aa:b≠g) (cs:Array Value):bJ (W.setRow g cs) b m l:=
 h.kept (row:=some g) ⟨rfl,rfl,rfl,by simp,fun k _ hk=>setRow_other W g k _ (fun e=>hk (by rw [e]))⟩ (fun e=>Aa (by injection e))
theorem jR{w w1:World}{o:Obj}(h:w.alloc o=w1):Below w.heap.size w w1/\w1.heap.size=w.heap.size+1/\w1.heap[w.heap.size]?=some o:=by
 subst h;exact⟨(Yg _ _).alloc (Yh _) _,by simp,World.alloc_heap_new _ _⟩
theorem yI{w w1:World}(h:w.alloc (.map #[] 0)=w1):bJ w1 w.heap.size 0 []:=by
 subst h;exact bJ.new _
def vD(E:Option Addr) (n c bn:Nat) (w:World) (x:Nd) (e:Ending) (w':World):Prop:=
 ∃ bv bd,e=.returned (.agg (dJ E n c bn bv bd))/\bJ w' bv x.all.length (bD x.all)/\bJ w' bd x.ins.length (bD x.ins)/\Below w.heap.size w w'/\w.heap.size<=bv/\bv<bd
theorem aNy(E:Option Addr) (n c bn:Nat) (x:Nd) (A1:Option Addr) (c1:Nat) (A2:Option Addr) (c2:Nat) (A3:Option Addr) (c3:Nat) (A4:Option Addr) (c4:Nat) (w:World) (h:cJ w x A1 A2 A3 A4) (hn:x.all.length<=1000) (hz:∀ d∈x.all,d.nm.size<=maxLen):
 Calls Tryz.prog 54 #[.slice E n c,.map (some bn),.agg (bL x A1 c1 A2 c2 A3 c3 A4 c4)] w (vD E n c bn w x):=by
 have Dt:=@run_makeMap Tryz.prog;have HF:=Hd fun w1 hw=>iB w x A1 c1 A2 c2 A3 c3 A4 c4 w1 hw h;have Br:=Hd fun b w1 (a:cJ w1 x A1 A2 A3 A4) hc hb=>aCp x A1 c1 A2 c2 A3 c3 A4 b w1 a hc hb (by omega);have HI:=Hd h.1;have Dh:=Hd fun k (hk:k<x.all.length)=>aBo (l:=x.all) (k:=k) hk;have Dj:=Hd fun k (hk:k<x.ins.length)=>aBo (l:=x.ins) (k:=k) hk;have Da:=Hd fun k (hk:k<x.all.length)=>hz _ (kY (l:=x.all) hk);have Dp:x.ins.length<=x.all.length:=by unfold Nd.all;simp
 have Dl:=Hd fun k (hk:k<x.ins.length)=>hz (x.ins[k]?.getD default) (by unfold Nd.all;rw [Yw];exact List.mem_append_left _ (kY (l:=x.ins) hk));have Dg:=Hd (show(bD x.all).take x.all.length=bD x.all from Yx (by unfold bD;simp));have Db:=Hd (show(bD x.ins).take x.ins.length=bD x.ins from Yx (by unfold bD;simp));have Bw:=Hd (fun w d w1 h=>kZ w d w1 h);have Ch:∀ bv bd w',bJ w' bv x.all.length (bD x.all)->bJ w' bd x.ins.length (bD x.ins)->Below w.heap.size w w'->w.heap.size<=bv->bv<bd->vD E n c bn w x (.returned (.agg (dJ E n c bn bv bd))) w':=fun bv bd w' h1 h2 h3 h4 h5=>⟨bv,bd,rfl,h1,h2,h3,h4,h5⟩;have Di:=Hd Ch;clear h hz Ch;generalize vD E n c bn w x=RP at *;unfold bL at HF ⊢;unfold sD at Br;unfold bC at Bw;generalize bD x.all=sa at *;generalize bD x.ins=si at *;generalize Dm:x.all=al at *;generalize Dn:x.ins=il at *;generalize Cn:al.length=na at *;generalize Cy:il.length=ni at *;have Ds:=Hd Cn;have Dq:=Hd Cy;clear Dm Dn Cn Cy
 go_enter Tryz.func54,Tryz.ntmps54
 go_upto_region 2 with(fail)
 generalize Ct:w.alloc _=w1;obtain⟨Bk,Ap,Ce,Ab⟩:=HF.o w1 Ct;have Dr:=Hd Ab;have Du:=Hd Ce;have Dv:=Hd Bk;generalize Cx:w1.alloc _=w2;obtain⟨Co,Bd,Bp⟩:=jR Cx;generalize Bx:w2.alloc _=w3;obtain⟨Cd,Bt,-⟩:=jR Bx;have Cb:=yI Bx;generalize Bf:w3.alloc _=w4;obtain⟨Be,Cz,-⟩:=jR Bf;have Bo:=yI Bf;generalize Cm:w4.alloc _=w5;obtain⟨As,Dd,Bi⟩:=jR Cm;rw [Ap] at Bp;rw [Bd,Ap] at Cb;rw [Bt,Bd,Ap] at Bo;rw [Cz,Bt,Bd,Ap] at Bi;have Ae:Below w1.heap.size w1 w5:=((Co.trans (Cd.mono (by omega))).trans (Be.mono (by omega))).trans (As.mono (by omega));have Av:Below w2.heap.size w2 w5:=(Cd.trans (Be.mono (by omega))).trans (As.mono (by omega));have Ax:Below w3.heap.size w3 w5:=Be.trans (As.mono (by omega));have Ar:=(Av.block (w.heap.size+1) (by omega)).trans Bp;have Ao:=Cb.below Ax;have Ay:=Bo.below As;have Cw:Below w.heap.size w w5:=Bk.trans (Ae.mono (by omega));have hg:w5.heap.size=w.heap.size+1+1+1+1+1:=by omega
 obtain⟨-,q1,q2,q3,-,-⟩:=Sx (Ab w5 Ae);simp only [Ya,Yb,Yc] at q1 q2 q3;have Am:=(Yg w5.heap.size w5).alloc (Yh _) (.cells #[.slice A1 ni c1,.slice A2 x.outs.length c2,.slice A3 x.vars.length c3] 50);have Cs:=Hd (Br.o w5.heap.size _ ((Ce.below Ae).below Am) (fun j=>by rw [Zo]) (by simp));have Cf:=Hd Am;have HN:=Hd fun W (b:Below w5.heap.size w5 W) j=>Ab W (Ae.trans (b.mono (by omega))) j;have Cp:=Hd Bi;have Cq:=Hd Ar;have Ck:=Hd Ao;have Cu:=Hd Ay;have Bj:=Hd Cw;have Bc:=Hd hg;clear Ct Cx Bx Bf Cm Ab Ce Bk Co Cd Be As Ae Av Ax Bp Bi Ar Cb Bo Ao Ay Cw HF Br Am Ap Bd Bt Cz Dd;clear hg
 go_wp2_with fail
 refine Cs.o.mono ?_;rintro e w6 ⟨A,cA,rfl,Cl,Am⟩;have Ac:Below w5.heap.size w5 w6:=Cf.o.trans (Am.mono Cf.o.size);have Dk:=Hd Cl;have Df:=Hd (HN.o w6 Ac);have Al:=Hd ((Ac.block (w.heap.size+1+1+1+1) (by rw [Bc.o];omega)).trans Cp.o);have Bg:=Hd ((Ac.block (w.heap.size+1) (by rw [Bc.o];omega)).trans Cq.o);have Ca:=Hd (Ck.o.below Ac);have Bh:=Hd (Cu.o.below Ac);have Aq:=Hd (Bj.o.trans (Ac.mono Bj.o.size));have Ah:=Hd (show w.heap.size+1+1+1+1+1<=w6.heap.size by have:=Ac.size;rw [Bc.o] at this;exact this);clear Cl Am Ac HN Cp Cq Ck Cu Cf Bj Bc q1 q2 q3;clear Cs
 go_wp2_with fail
 go_loopw [26] (fun i wr=>∃ k:Nat,k<=na/\i=.int .i64 k/\bJ wr (w.heap.size+1+1) k (sa.take k)/\Gd (w.heap.size+1+1) w6 wr) (fun i _=>na-(intOf i).toNat)
 case atStart=>exact⟨0,Yq _,rfl,Ca.o,Gd.refl _⟩
 case round=>
  obtain⟨k,hk,rfl,Bb,An⟩:=hrel;have HS:=Hd Bb;have Af:=Hd An;clear Bb
  by_cases Bl:k<na
  . obtain⟨b,De,rfl,hb,d0,d1,d2,d3,d4,d5⟩:=qX (An.rdD Dk.o) Bl;have Cc:=Hd (Da.o k Bl);have Bq:=Hd (Dh.o k Bl);clear An;generalize al[k]?.getD default=p at *
    go_upto_region 5 with(fail)
    generalize Au:wr.alloc _=w7;obtain⟨Ag,Bu,Aa⟩:=Bw.o wr p w7 Au;have r2:=(Ag.cell (p:=⟨w.heap.size+1+1+1+1,2,none⟩) (Yr (by have:=Ah.o;show w.heap.size+1+1+1+1<w6.heap.size;omega) Af.o.size)).trans ((Af.o.cell (j:=2) (by have:=Ah.o;omega)).trans (bU Al.o 2));have e0:=Aa w7 (Yg _ _) 0;simp only [Ya,Yb,Yc] at e0 r2;have Ba:=Hd (vC (w.heap.size+1+1) k (sa.take k) p.nm w7 (HS.o.below Ag) (by omega) Cc.o);have Bv:=Hd (Af.o.trans (Gd.of_below Ag));clear Au Ag Aa d0 d1 d2 d3 d4 d5 Bu
    go_wp2_with fail
    refine Ba.o.mono ?_;rintro e w8 ⟨rfl,Az,Aw⟩;have Bm:=Hd Az;have Cg:=Hd (Bv.o.trans Aw);clear Az Aw e0 r2 Ba
    go_wp2_with fail
    go_roundw
    case rel=>exact⟨k+1,by omega,by go_num,by rw [Bq.o];exact Bm.o,Cg.o⟩
    case measure=>simp [intOf];omega
  . obtain rfl:k=na:=by omega
    have n1:=(An.cell (j:=1) (i:=w.heap.size) (by have:=Ah.o;omega)).trans (Df.o 1);simp only [Ya,Yb,Yc] at n1;have Cr:=Hd (Gd.below Aq.o An Aq.o.size (by omega));clear An
    go_wp2_with fail
    generalize wr=wz at *
    go_loopw [39] (fun i wr=>∃ j:Nat,j<=ni/\i=.int .i64 j/\bJ wr (w.heap.size+1+1+1) j (si.take j)/\Gd (w.heap.size+1+1+1) wz wr) (fun i _=>ni-(intOf i).toNat)
    case atStart=>exact⟨0,Yq _,rfl,Bh.o.gd Af.o (by omega),Gd.refl _⟩
    case round=>
     obtain⟨j,hj,rfl,Ai,Aj⟩:=hrel;have Cj:=Hd Ai;have Ad:=Hd Aj;have Ci:=Hd (Gd.below Cr.o Aj Cr.o.size (by omega));clear Ai Aj
     by_cases Ak:j<ni
     . obtain⟨b,De,rfl,hb,d0,d1,d2,d3,d4,d5⟩:=qX (HI.o.below Ci.o) Ak;have Cc:=Hd (Dl.o j Ak);have Bq:=Hd (Dj.o j Ak);generalize il[j]?.getD default=p at *
       go_upto_region 10 with(fail)
       generalize Au:wr.alloc _=w7;obtain⟨Ag,Bu,Aa⟩:=Bw.o wr p w7 Au
       have r3:=(Ag.cell (p:=⟨w.heap.size+1+1+1+1,3,none⟩) (Yr (Yr (by have:=Ah.o;show w.heap.size+1+1+1+1<w6.heap.size;omega) Af.o.size) Ad.o.size)).trans
        ((Ad.o.cell (j:=3) (Yr (by have:=Ah.o;omega) Af.o.size)).trans ((Af.o.cell (j:=3) (by have:=Ah.o;omega)).trans (bU Al.o 3)))
       have e0:=Aa w7 (Yg _ _) 0;simp only [Ya,Yb,Yc] at e0 r3;have Ba:=Hd (vC (w.heap.size+1+1+1) j (si.take j) p.nm w7 (Cj.o.below Ag) (by omega) Cc.o);have Bv:=Hd (Ad.o.trans (Gd.of_below Ag));clear Au Ag Aa d0 d1 d2 d3 d4 d5 Bu
       go_wp2_with fail
       refine Ba.o.mono ?_;rintro e w8 ⟨rfl,Az,Aw⟩;have Bm:=Hd Az;have Cg:=Hd (Bv.o.trans Aw);clear Az Aw e0 r3 Ba
       go_wp2_with fail
       go_roundw
       case rel=>exact⟨j+1,by omega,by go_num,by rw [Bq.o];exact Bm.o,Cg.o⟩
       case measure=>simp [intOf];omega
     . obtain rfl:j=ni:=by omega
       have Cv:w.heap.size+1+1+1+1<wz.heap.size:=Yr (by have:=Ah.o;omega) Af.o.size;have HV:=Hd (Ad.o.blk (Af.o.blk Bg.o (by omega)) (by omega));have hR:∀ a,wr.cell? ⟨w.heap.size+1+1+1+1,a,none⟩=_:=fun a=>(Ad.o.cell (j:=a) Cv).trans ((Af.o.cell (j:=a) (by have:=Ah.o;omega)).trans (bU Al.o a));obtain⟨r0,r1,r2,r3,-,-⟩:=Sx hR;simp only [Ya,Yb,Yc] at r0 r1 r2 r3;have Bn:=Hd (show bJ wr (w.heap.size+1+1) k sa by have:=HS.o.gd Ad.o (by omega);rwa [Dg.o] at this);have Bz:=Hd (show bJ wr (w.heap.size+1+1+1) j si by have:=Cj.o;rwa [Db.o] at this);clear hR Cv
       go_wp2_with (refine Zu rfl _ _ _ rfl (w.heap.size+1) _ rfl rfl _ _ HV.o aEv rfl (by simp [Value.oneCell']) ?_)
       exact Zt (aSk (p:=6) rfl _ _ (w.heap.size+1) E n c bn (w.heap.size+1+1) (w.heap.size+1+1+1) rfl (Xc _ _ _ _ _ _ HV.o)) rfl
        (Di.o _ _ _ (Bn.o.row (by omega) _) (Bz.o.row (by omega) _) (Xb Ci.o (by omega) _) (by omega) (by omega))
end
section
open Go.RowKit Go.Shelf Go.Sort Go.BigFrame
attribute [local go_sem] Oper.semAt_some
def fI(l:List Qn) (k:Nat):List ByteArray:=(l[k]?.getD default).ns
def nK(l:List Qn) (k j:Nat):ByteArray:=(fI l k)[j]?.getD ByteArray.empty
def kF(vs:List ByteArray) (D:Nat->List ByteArray) (l:List Qn) (k j:Nat):Int:=mV vs (D k++(fI l k).take j) (nK l k j)
def sQ(l:List Qn) (D:Nat->List ByteArray) (eS:Nat->Int) (bd:Nat) (w:World) (e:Ending) (w':World):Prop:=
 ∃ a er:Int,e=.returned (.tuple #[.int .i64 a,.int .i64 er])/\Gd bd w w' /\
  ((∃ k,k<l.length/\(∀ j,j<k->eS j=0)/\eS k≠0/\a=(k:Nat)/\er=eS k)\/((∀ j,j<l.length->eS j=0)/\er=0/\bJ w' bd 10000 (D l.length)))
theorem aQr{l:List Qn}{k j:Nat}(h:j<(fI l k).length):(fI l k).take (j+1)=(fI l k).take j++[nK l k j]:=tC h
def mkD(m:Nat):Deferred:={ target:=.collected m,args:=#[] }
def gT(bd:Nat) (w:World) (rm:Array Value) (ms:List Nat) (W:World):Prop:=
 Gd bd w W/\W.heap[w.heap.size]?=some (.cells rm 93)/\Boxed W (w.heap.size+1) 28 (.int .i64 0)/\ms.Nodup/\∀ m,m∈ms->w.heap.size+1+1<=m/\W.heap[m]?=some (.deferred (some []))
section
variable {bd:Nat}{w W W':World}{rm:Array Value}{ms:List Nat}
theorem gT.gd(h:gT bd w rm ms W) (hd:bd<w.heap.size) (hg:Gd bd W W'):gT bd w rm ms W' :=
 ⟨h.1.trans hg,hg.blk h.2.1 (by omega),hg.blk h.2.2.1 (by omega),h.2.2.2.1,fun m hm=>⟨(h.2.2.2.2 m hm).1,(hg.block (Yl.1 (h.2.2.2.2 m hm).2).1 (by have:=(h.2.2.2.2 m hm).1;omega)).trans (h.2.2.2.2 m hm).2⟩⟩
theorem gT.below(h:gT bd w rm ms W) (hd:bd<w.heap.size) (hb:Below W.heap.size W W'):gT bd w rm ms W':=h.gd hd (Gd.of_below hb)
theorem gT.set0(h:gT bd w rm ms W):gT bd w rm ms (W.setCell ⟨w.heap.size+1,0,none⟩ (.int .i64 0)):=
 ⟨h.1.new ((Yg (w.heap.size+1) W).setCell (p:=⟨w.heap.size+1,0,none⟩) (Yh _) _) (by omega),(Below.heap_setCell _ _ _ _ (by simp)).trans h.2.1,h.2.2.1.set _,h.2.2.2.1,
  fun m hm=>⟨(h.2.2.2.2 m hm).1,(Below.heap_setCell _ _ _ _ (by have:=(h.2.2.2.2 m hm).1;simp;omega)).trans (h.2.2.2.2 m hm).2⟩⟩
def rE(bd:Nat) (w:World) (ms:List Nat) (W:World):Prop:=Gd bd w W/\ms.Nodup/\∀ m,m∈ms->w.heap.size+1+1<=m/\W.heap[m]?=some (.deferred (some []))
theorem gT.bad(h:gT bd w rm ms W) (v:Value):rE bd w ms (W.setCell ⟨w.heap.size+1,0,none⟩ v):=
 ⟨h.1.new ((Yg (w.heap.size+1) W).setCell (p:=⟨w.heap.size+1,0,none⟩) (Yh _) _) (by omega),h.2.2.2.1,
  fun m hm=>⟨(h.2.2.2.2 m hm).1,(Below.heap_setCell _ _ _ _ (by have:=(h.2.2.2.2 m hm).1;simp;omega)).trans (h.2.2.2.2 m hm).2⟩⟩
theorem gT.ok(h:gT bd w rm ms W):rE bd w ms W:=⟨h.1,h.2.2.2⟩
theorem rE.below(h:rE bd w ms W) (hb:Below W.heap.size W W') (hs:w.heap.size<=W.heap.size):rE bd w ms W' :=
 ⟨h.1.new hb hs,h.2.1,fun m hm=>⟨(h.2.2 m hm).1,(hb.block m (Yl.1 (h.2.2 m hm).2).1).trans (h.2.2 m hm).2⟩⟩
theorem gT.mark(h:gT bd w rm ms W){m:Nat}(hm:w.heap.size+1+1<=m) (hn:m∉ms) (hd:W.heap[m]?=some (.deferred (some []))):gT bd w rm (m::ms) W:=
 ⟨h.1,h.2.1,h.2.2.1,List.nodup_cons.2 ⟨hn,h.2.2.2.1⟩,fun x hx=>by
  rcases Yu.1 hx with rfl | hx
  . exact⟨hm,hd⟩
  . exact h.2.2.2.2 x hx⟩
theorem aGo{β:Type}{B:Nat}{X0:World}{Aa:Option Nat}(hB:X0.heap.size<=B):OwnFrom B (fun(_:β) W=>X0.grownBy W Aa):=fun s X Y row hs hg hr=>World.grownBy.andThen hs hg (fun j e=>.inl (Yp hB (hr j e).1))
theorem bJ.blkeq{b m:Nat}{l:List ByteArray}(h:bJ W b m l) (e:W'.heap[b]?=W.heap[b]?):bJ W' b m l:=by
 obtain⟨es,Aa,hb,r⟩:=h;exact⟨es,Aa,e.trans hb,r⟩
theorem aGw{lo m:Nat}(hm:lo<=m) (W:World) (o:Obj):Below lo W (W.putObj m o):=⟨rfl,rfl,rfl,by simp [World.putObj],fun k hk=>World.putObj_heap_other (by omega)⟩
theorem sV{F:Fence}{n:Nat}{P:Program}{fn:Func}{tmps:Array Value}{R:Ending->World->Prop}{lo:Nat}:∀ (ms:List Nat) (W:World),ms.Nodup->(∀ m,m∈ms->lo<=m/\W.heap[m]?=some (.deferred (some []))) ->
 (∀ W',Below lo W W'->LeavesInM F n P fn tmps R [] .returning W')->LeavesInM F n P fn tmps R (ms.map mkD) .returning W
 | [],W,_,_,h=>h W (Yg _ _)
 | m::ms,W,hn,hm,h=>by
  have h1:=hm m (by simp);obtain⟨Ab,Aa⟩:=List.nodup_cons.1 hn;have hb:=aGw h1.1 W (.deferred none);refine⟨by simp,.inl ⟨m,W.putObj m (.deferred none),rfl,run_takeDeferred h1.2,?_⟩⟩;refine sV ms _ Aa (fun x hx=>⟨(hm x (by simp [hx])).1,?_⟩) fun W' h'=>h W' (hb.trans h');refine(World.putObj_heap_other (fun e=>?_)).trans (hm x (by simp [hx])).2;subst e;exact Ab hx
end
theorem aNz(n:Nat) (Gx:6<=n) (E:Option Addr) (nE cE bn bv bd mn mv:Nat) (es:List En) (Bp vs:List ByteArray) (l:List Qn) (D:Nat->List ByteArray) (eS:Nat->Int) (pS:Ex->Bool) (Q:Option Addr) (cq:Nat) (w0 w:World)
 (Dt:Below w0.heap.size w0 w) (Ek:w0.heap.size<=bd) (hE:bV w0 E nE es) (hQ:gR w0 Q l.length l) (hN:bJ w bn mn Bp) (hV:bJ w bv mv vs) (hD:bJ w bd 1000 (D 0)) (Gf:bn≠bd) (Dx:bv≠bd)
 (hl:l.length<=30) (Eb:∀ k,k<l.length->(fI l k).length<=20/\∀ j,j<(fI l k).length->(nK l k j).size<=maxLen) (hx:∀ k,k<l.length->∀ z∈bI (l[k]?.getD default).x,z.s.size<=maxLen/\pJ vs Bp es z=pS z)
 (Ep:∀ k,k<l.length->D (k+1)=D k++fI l k)
 (Ay:∀ k,k<l.length->∀ j,j<(fI l k).length->(∀ a,a<j->kF vs D l k a=0)->kF vs D l k j≠0->eS k=kF vs D l k j)
 (Ai:∀ k,k<l.length->(∀ a,a<(fI l k).length->kF vs D l k a=0)->eS k=if(bI (l[k]?.getD default).x).all pS=true then 0 else 5):
 CallsIn Fence.wide n Tryz.prog 99 #[.agg (dJ E nE cE bn bv bd),.slice Q l.length cq] w (sQ l D eS bd w):=by
 have h1:1<=n:=by omega
 have HF:=Hd fun w1 hw=>qH w E nE cE bn bv bd w1 hw;have Dh:=Hd fun w1 hw=>jR (w:=w) (w1:=w1) (o:=.cells (dJ E nE cE bn bv bd) 93) hw;have HQ:=Hd hQ;have HN:=Hd hN;have HV:=Hd hV;have HD:=Hd hD;have Bv:=Hd Dt;have Gp:=Hd Eb;have HX:=Hd hx;have Fs:=Hd Ep;have Cj:=Hd Ay;have Ba:=Hd Ai;have Cl:=Hd (show ∀ e w',(∃ a er:Int,e=.returned (.tuple #[.int .i64 a,.int .i64 er])/\Gd bd w w'/\((∃ k,k<l.length/\(∀ j,j<k->eS j=0)/\eS k≠0/\a=(k:Nat)/\er=eS k)\/((∀ j,j<l.length->eS j=0)/\er=0/\bJ w' bd 10000 (D l.length))))->sQ l D eS bd w e w' from fun _ _ h=>h);have Bh:=Hd fun md ds s w1 (a:bJ w1 bv mv vs) (b:bJ w1 bd md ds) hm hs=>aNx E nE cE bn bv bd mv md vs ds s w1 a b Dx hm hs;have Fa:=Hd fun x A ca B cb w1 (a:Below w0.heap.size w0 w1) (hn:bJ w1 bn mn Bp) (hv:bJ w1 bv mv vs) (hx:aJ w1 x A B) hs=>aQq E nE cE bn bv bd mn mv es Bp vs x A ca B cb w1 (hE.below a) hn hv hx hs;have Fv:=Hd aE7;have Gs:=Hd aA0;clear Dt hE hQ hN hV hD Eb hx Ep Ay Ai;generalize sQ l D eS bd w=EP at *;generalize Ax:l.length=Ad at *;have Fy:=Hd Ax;clear Ax;unfold dJ at HF Dh Bh Fa ⊢;refine callsIn_of_wp_marks Tryz.func99 rfl trivial ?_ rfl;simp only [Tryz.ntmps99,List.size_toArray,Yo,Zd,Nat.reduceAdd,Nat.reduceSub,Array.replicate_succ,Array.replicate_zero,List.push_toArray,List.append_toArray,Ze,Yv];refine wpIn_wide.2 ?_
 go_wp2_with fail
 go_step3
 go_wp2_with fail
 go_step3
 go_wp2_with fail
 have Ap:bd<w.heap.size:=HD.o.lt;generalize Ey:w.alloc _=w1;obtain⟨Bg,Bl,Az⟩:=Dh.o w1 Ey;generalize Ei:w1.alloc _=w2;obtain⟨An,Ft,De⟩:=jR Ei;rw [Bl] at De;have Dm:=Hd (show gT bd w (dJ E nE cE bn bv bd) [] w2 from⟨Gd.of_below (Bg.trans (An.mono Bg.size)),(An.block _ (by omega)).trans Az,De,List.nodup_nil,fun m hm=>by cases hm⟩);have Ef:=Hd (HD.o.below (Bg.trans (An.mono Bg.size)));clear Ey Ei Bg An Az De HF Dh Bl Ft;refine wp_loop (fun a' w'=>∃ (u6 u8 u9 u11 Fm Cc Dy Fd Dq Es Fr Fg Fi Du Ec Ew u26 u27 u28 u29 u30 u31 u32 u33 Ea Ds Et Fo Db Ce Cf Ct Ch:Value) (ds:List Deferred),(∃ (k:Nat) (at_:Int) (ms:List Nat),k<=Ad/\Cc=.int .i64 k/\u6=.int .i64 at_/\(∀ a,a<k->eS a=0)/\gT bd w (dJ E nE cE bn bv bd) ms w'/\bJ w' bd (1000+20*k) (D k)/\ds=ms.map mkD)/\a'={ tmps:=List.toArray (.agg #[.slice E nE cE,.map (some bn),.map (some bv),.map (some bd)]::.slice Q Ad cq::.pointer (some ⟨w.heap.size,0,none⟩)::undef::.int .i64 0::.int .i64 0::u6::.pointer (some ⟨w.heap.size+1,0,none⟩)::u8::u9::undef::u11::Fm::.slice Q Ad cq::.int .i64 Ad::Cc::Dy::Fd::Dq::Es::Fr::Fg::Fi::Du::Ec::Ew::u26::u27::u28::u29::u30::u31::u32::u33::Ea::Ds::Et::Fo::Db::Ce::Cf::Ct::Ch::undef::undef::[]),defers:=ds }) (fun a' _=>Ad-(intOf (a'.tmps.getD 15 undef)).toNat) ?_ ?_
 . (repeat apply Exists.intro)
   refine⟨⟨0,-1,[],Yq _,rfl,rfl,fun a ha=>absurd ha (by omega),Dm.o,Ef.o,rfl⟩,rfl⟩
 rintro a' wr ⟨u6,u8,u9,u11,Fm,Cc,Dy,Fd,Dq,Es,Fr,Fg,Fi,Du,Ec,Ew,u26,u27,u28,u29,u30,u31,u32,u33,Ea,Ds,Et,Fo,Db,Ce,Cf,Ct,Ch,ds,⟨k,at_,ms,hk,rfl,rfl,Dw,Cb,Bc,rfl⟩,rfl⟩;have Bu:=Hd Dw;have Bf:=Hd Cb;have Fk:=Hd Bc;have Aa:=Gd.below Bv.o Cb.1 Bv.o.size Ek;have Hc:=Hd Aa;clear Dw Cb Bc Dm Ef
 by_cases Aj:k<Ad
 . obtain⟨b,Af,B,cB,A,ca,B',cb,rfl,hb,⟨Fq,Ff⟩,f0,f1,f2,f3,f4,f5,f6⟩:=zF HQ.o Aj;have d0:=(Aa.cell (p:=⟨b,Af+k*7,none⟩) hb).trans f0;have d1:=(Aa.cell (p:=⟨b,Af+k*7+1,none⟩) hb).trans f1;have d2:=(Aa.cell (p:=⟨b,Af+k*7+2,none⟩) hb).trans f2;have d3:=(Aa.cell (p:=⟨b,Af+k*7+3,none⟩) hb).trans f3;have d4:=(Aa.cell (p:=⟨b,Af+k*7+4,none⟩) hb).trans f4;have d5:=(Aa.cell (p:=⟨b,Af+k*7+5,none⟩) hb).trans f5;have d6:=(Aa.cell (p:=⟨b,Af+k*7+6,none⟩) hb).trans f6;have Er:=Hd Fq;have Ee:=Hd (Gp.o k Aj);have Eh:=Hd (HX.o k Aj);have Ca:=Hd (Fs.o k Aj);have Gh:=Hd (Cj.o k Aj);have Dl:=Hd (Ba.o k Aj);have Ez:=Hd Ff;have El:=Hd (show(l[k]?.getD default).ns.length=(fI l k).length from rfl);have Cr:=Hd fun j hj=>aQr (l:=l) (k:=k) (j:=j) hj;have Gm:=Hd fun j=>(show(l[k]?.getD default).ns[j]?.getD ByteArray.empty=nK l k j from rfl);clear Fq Ff f0 f1 f2 f3 f4 f5 f6 Aa;rw [El.o] at d0;generalize Gz:(fI l k).length=m at *;have Gv:m<=20:=Ee.o.1;generalize l[k]?.getD default=q at *;have Cd:=Hd (show aN w0 B m q.ns by have:=Er.o;rwa [El.o] at this);have Hb:w.heap.size+1<wr.heap.size:=Bf.o.2.2.1.lt;clear Er
   go_wp2_with fail
   generalize Fc:wr.alloc _=v1;obtain⟨Cy,Bl,Az⟩:=jR Fc;have Fj:=Hd (Bf.o.below Ap Cy);have Eo:=Hd (Fk.o.below Cy);have Em:=Hd Az;clear Fc Cy Bl Az d0 d1 d2 d3 d4 d5 d6;generalize Dp:wr.heap.size=g9 at *;have Fz:=Hd Dp;clear Dp;generalize wr=wo at *
   go_loopw [24] (fun i wr=>∃ j:Nat,j<=m/\i=.int .i64 j/\(∀ a,a<j->kF vs D l k a=0)/\gT bd w (dJ E nE cE bn bv bd) ms wr/\wr.heap[g9]?=some (Obj.cells #[.slice B m cB,.int .i64 q.x.k,.int .i64 q.x.n,.string q.x.s,.int .i64 q.x.op,.slice A q.x.arms.length ca,.slice B' q.x.subs.length cb] 56)/\bJ wr bd (1000+20*k+j) (D k++(fI l k).take j)) (fun i _=>m-(intOf i).toNat)
   case atStart=>exact⟨0,Yq _,rfl,fun a ha=>absurd ha (by omega),Fj.o,Em.o,by simpa using Eo.o⟩
   case round=>
    obtain⟨j,hj,rfl,Al,Ag,Ah,Br⟩:=hrel;have Bt:=Hd Al;have Dj:=Hd Ag;have Ge:=Hd Ah;have Gj:=Hd Br;have Be:=Gd.below Bv.o Ag.1 Bv.o.size Ek;have Ed:=Hd Be;have Bw:=HV.o.gd Ag.1 Dx;have Gi:=Hd Bw;clear Fj Eo Em
    by_cases Av:j<m
    . obtain⟨b2,Bz,rfl,An,Fp⟩:=Cd.o.at_ Av;have e1:=(Be.cell (p:=⟨b2,Bz+j,none⟩) An).trans (Fp j Av);rw [Gm.o] at e1;have Eu:=Hd (Cr.o j Av);have Ck:=Hd (Bh.o (1000+20*k+j) (D k++(fI l k).take j) (nK l k j) wr Bw Br (by omega) (Ee.o.2 j Av));have Bn:=Hd (show kF vs D l k j=mV vs (D k++(fI l k).take j) (nK l k j) from rfl);have Dz:=Hd (Gh.o j Av Bt.o);have r0:=bU Ag.2.1 0;have r1:=bU Ag.2.1 1;have r2:=bU Ag.2.1 2;have r3:=bU Ag.2.1 3;simp only [dJ,List.getElem?_toArray,Yz,Zb] at r0 r1 r2 r3;clear Al Ag Ah Br Be Bw Fp;generalize mV vs (D k++(fI l k).take j) (nK l k j)=v at *;generalize nK l k j=nm at e1 Ck Eu
      go_wp2_with fail
      refine Ck.o.mono ?_;rintro e5 w5 ⟨rfl,Ak,Ej⟩;have Bd:=Dj.o.gd Ap Ak;have Fe:=Hd Bd;have Dn:=Hd Ej;have Ga:=Hd (Ak.blk Ge.o (by have:=Bf.o.1.size;rw [Fz.o] at this;omega));have c7:=Bd.2.2.1.cell;have f7:=Bd.2.2.1.frozen;have c8:=(Bd.2.2.1.set (.int .i64 v)).cell;clear Ak Ej Bd r0 r1 r2 r3 e1 Ck
      by_cases Bj:v=0
      . subst Bj;have Gb:=Hd (Dn.o rfl);have Di:=Hd (dK (P:=fun a=>kF vs D l k a=0) Bt.o Bn.o);clear Dn
        go_wp2_with fail
        go_roundw
        case rel=>exact⟨j+1,by omega,by go_num,Di.o,Fe.o.set0,(Below.heap_setCell _ _ _ _ (by simp;omega)).trans Ga.o,by rw [Eu.o,<- Yw];exact World.ownsMap.setCell Gb.o (by simp;omega) _⟩
        case measure=>simp [intOf];omega
      . have Gy:(v != 0)=true:=bne_iff_ne.2 Bj;have Bk:=Hd Bj;clear Bj;have HO:=Hd (Fe.o.bad (.int .i64 v));have Bi:=Hd (show eS k=v by have:=Dz.o (by rw [Bn.o];exact Bk.o);rw [Bn.o] at this;exact this);clear Dz Bn
        go_wp2_with fail
        generalize w5.setCell _ _=w6 at *
        go_quiet (fail)
        go_wp2_with fail
        have Am:=Hd (HO.o.below (aY (Yg _ _) nq) HO.o.1.size);rw [Exit.noGoto_ret];refine sV (lo:=w.heap.size+1+1) ms _ Am.o.2.1 Am.o.2.2 fun W' Ao=>?_;exact⟨.tuple #[.int .i64 (k:Nat),.int .i64 v],by simp [results,Tryz.f99,go_sem],Cl.o _ _ ⟨(k:Nat),v,rfl,Am.o.1.new Ao (by omega),.inl ⟨k,Aj,Bu.o,by rw [Bi.o];exact Bk.o,rfl,Bi.o.symm⟩⟩⟩
    . obtain rfl:j=m:=by omega
      have e1:=bU Ah 1;have e2:=bU Ah 2;have e3:=bU Ah 3;have e4:=bU Ah 4;have e5:=bU Ah 5;have e6:=bU Ah 6;simp only [Ya,Yb,Yc] at e1 e2 e3 e4 e5 e6;have Cw:=Hd (Fv.o q.x A ca B' cb wr (Ez.o.below Be));unfold aE at Cw;clear Al Ag Ah Br Be Bw
      go_wp2_with fail
      refine Cw.o.mono ?_;rintro e w' ⟨rfl,rfl⟩;clear e1 e2 e3 e4 e5 e6 Cw
      go_wp2_with fail
      generalize Dr:wr.alloc _=W0;obtain⟨As,Dv,Go⟩:=jR Dr;have Bb:=Hd (Dj.o.below Ap As);have Gu:=Hd (Gj.o.below As);have Ac:=Hd (Ed.o.trans (As.mono Ed.o.size));have Fu:=Hd ((HN.o.gd Dj.o.1 Gf).below As);have Bk:=Hd (Gi.o.below As);have Gw:=Hd Dv;have Fb:w.heap.size+1+1<=W0.heap.size:=by have:=Bb.o.2.2.1.lt;omega
      have Cs:=Hd fun m hm=>(Yl.1 (Bb.o.2.2.2.2 m hm).2).1;have Gq:=Hd (show(fI l k).take j=fI l k from Yx (by omega));clear Dr As Dv
      refine wpIn_wide.1 (wpIn_rangeFunc_ownH rfl h1 (gf:=111) (lb:=#[.pointer (some ⟨wr.heap.size,0,none⟩)]) rfl trivial (enters_of Tryz.func111 (by kernel_rfl) rfl)
       (Gs.o (n-1) wr.heap.size q.x A ca B' cb w0 W0 Ez.o Ac.o Go) (fun h k=>h.trans k) (aFp Ac.o.size) (Yg _ _) (fun _=>rfl)
       (fun(Ae:List (hM w0 q.x)) W=>(∀ z∈dW Ae,pS z=true)/\Below W0.heap.size W0 W)
       (fun c (Ae:List (hM w0 q.x)) W=>(c=Code.exit 0/\∃ z∈dW Ae,pS z=false)/\Boxed W (w.heap.size+1) 28 (.int .i64 5)/\W0.grownBy W (some (w.heap.size+1)))
       (OwnFrom.and (ownFrom_pure _ _) (ownFrom_below (Yh _) (Yh _)))
       (fun c=>OwnFrom.and (ownFrom_pure _ _) (OwnFrom.and (Own.from (boxed_own _ _ (fun _=>_)) _) (aGo (Yh _))))
       ⟨fun z hz=>by simp [dW] at hz,Yg _ _⟩
       (fun(y:hM w0 q.x) a' W=>∃ Bx:Nat,W.heap[Bx]?=some (Obj.cells (aE y.1.x y.1.A y.1.ca y.1.B y.1.cb) 35)/\a'={ tmps:=List.toArray (.agg #[.slice E nE cE,.map (some bn),.map (some bv),.map (some bd)]::.slice (some ⟨b,Af,none⟩) Ad cq::.pointer (some ⟨w.heap.size,0,none⟩)::undef::.int .i64 0::.int .i64 0::.int .i64 k::.pointer (some ⟨w.heap.size+1,0,none⟩)::.int .i64 k::.pointer (some ⟨g9,0,none⟩)::undef::u11::.pointer (some ⟨Bx,0,none⟩)::.slice (some ⟨b,Af,none⟩) Ad cq::.int .i64 Ad::.int .i64 k::.bool true::.int .i64 k::.pointer (some ⟨b,Af+k*7,none⟩)::.agg #[.slice B j cB,.int .i64 q.x.k,.int .i64 q.x.n,.string q.x.s,.int .i64 q.x.op,.slice A q.x.arms.length ca,.slice B' q.x.subs.length cb]::.int .i64 k::.pointer (some ⟨g9,0,none⟩)::.slice B j cB::.int .i64 j::.int .i64 j::.bool false::u26::u27::u28::u29::u30::u31::u32::u33::.pointer (some ⟨g9,1,none⟩)::.agg #[.int .i64 q.x.k,.int .i64 q.x.n,.string q.x.s,.int .i64 q.x.op,.slice A q.x.arms.length ca,.slice B' q.x.subs.length cb]::.func (.func 111) #[] #[.pointer (some ⟨wr.heap.size,0,none⟩)]::.agg (aE y.1.x y.1.A y.1.ca y.1.B y.1.cb)::Db::Ce::Cf::Ct::Ch::undef::undef::[]),defers:=[] })
       (fun y a' s X Y row hs hg hr=>by obtain⟨Bx,h2,h3⟩:=hs;exact⟨Bx,(yQ (β:=Unit) Bx _ _).from W0.heap.size () X Y row h2 hg hr,h3⟩)
       ?assign ?body ?done ?stop)
      case assign=>
       rintro lp Ae y W K ⟨hp,hB⟩ hK;have hz:∀ v:Value,(#[37]:Array Tmp).zip #[v]=#[(37,v)]:=fun v=>by first | rfl | simp
       simp only [sM,hz];unfold aE at hK ⊢
       gi_wp2
       exact hK _ _ ((KeepsOthers.alloc _ _).from _) (iL.of_below ((Yg _ _).alloc (Yh _) _) (Yp Ac.o.size hB.size)) ⟨hp,hB.alloc hB.size _⟩ ⟨W.heap.size,World.alloc_heap_new _ _,rfl⟩
      case body=>
       rintro lp Ae y a' W He _ ⟨hp,hB⟩ ⟨Bx,Ab,rfl⟩ Fw;have Dd:=Ac.o.trans (hB.mono Ac.o.size);have Aq:=Bb.o.below Ap hB;have Cx:=Fa.o y.1.x y.1.A y.1.ca y.1.B y.1.cb W Dd (Fu.o.below hB) (Bk.o.below hB) (y.2.1.below Dd) (Eh.o _ y.2.2).1;rw [(Eh.o _ y.2.2).2] at Cx;have Aw:=Hd Cx;have Gn:=Hd Aq;have Bm:=Hd hB;have Fx:=Hd hp;have Gg:=Hd (Yp Ac.o.size hB.size);have Fh:=Hd (show dW (Ae++[y])=dW Ae++[y.1.x] by rw [uI];rfl);have r0:=bU Aq.2.1 0;have r1:=bU Aq.2.1 1;have r2:=bU Aq.2.1 2;have r3:=bU Aq.2.1 3;have q0:=bU Ab 0;have q1:=bU Ab 1;have q2:=bU Ab 2;have q3:=bU Ab 3;have q4:=bU Ab 4;have q5:=bU Ab 5;have Ha:1<=n-1-1:=by omega
       clear Cx Aq hB hp Dd Ab;unfold aE at q0 q1 q2 q3 q4 q5 Aw ⊢;unfold dJ at r0 r1 r2 r3;simp only [Ya,Yb,Yc] at r0 r1 r2 r3 q0 q1 q2 q3 q4 q5
       cases Bo:pS y.1.x with
       | true=>
        rw [Bo] at Aw
        have Gc:=Hd (show ∀ z∈dW (Ae++[y]),pS z=true from fun z hz=>by
         rw [Fh.o] at hz;rcases Zn.1 hz with h | h
         . exact Fx.o z h
         . obtain rfl:z=y.1.x:=by simpa using h
           exact Bo)
        gi_wp2_with fail
        refine⟨trivial,(CallsIn.inRound lp (callsIn_wide.2 Aw.o)).mono ?_⟩;rintro e w3 ⟨rfl,Ar⟩;have Au:=Hd Ar;clear Ar
        gi_wp2_with fail
        exact⟨sU Au.o,iL.of_below Au.o Gg.o,Gc.o,Bm.o.trans (Au.o.mono Bm.o.size)⟩
       | false=>
        rw [Bo] at Aw;have Gk:=Hd (show ∃ z∈dW (Ae++[y]),pS z=false from⟨y.1.x,by rw [Fh.o];simp,Bo⟩)
        gi_wp2_with fail
        refine⟨trivial,(CallsIn.inRound lp (callsIn_wide.2 Aw.o)).mono ?_⟩;rintro e w3 ⟨rfl,Ar⟩;have Au:=Hd Ar;have Bq:=(Gn.o.below Ap Ar).2.2.1;have c7:=Bq.cell;have f7:=Bq.frozen;have Gl:=Hd Bq;clear Ar Bq
        gi_wp2_with fail
        exact⟨(sU Au.o).trans ((KeepsOthers.setCell _ _ _).from _),⟨rfl,Gk.o⟩,Gl.o.set _,((rF (Bm.o.trans (Au.o.mono Bm.o.size))).but _).trans (grownBy_setCell' _ _ _)⟩
      case done=>
       rintro D2 ys W Cu Eg ⟨hp,hB⟩ hK;have Cn:=Hd (show eS k=0 by rw [Dl.o Bt.o,if_pos];rw [Zf];intro z hz;exact hp z (by rw [Eg];exact hz));have Gr:=Hd ((Bb.o.below Ap hB).mark (Yp Fb Cu) (fun h=>absurd (Cs.o _ h) (by omega)) hK);have Gt:=Hd (show bJ W bd (1000+20*(k+1)) (D (k+1)) by have:=Gu.o.below hB;rw [Gq.o] at this;rw [Ca.o];exact this.mono (by omega));have Di:=Hd (dK (P:=fun a=>eS a=0) Bu.o Cn.o);clear hp hB hK Eg
       go_wp2_with fail
       refine⟨?_,?_⟩
       . (repeat apply Exists.intro)
         refine⟨⟨k+1,k,D2::ms,by omega,by go_num,rfl,Di.o,Gr.o,Gt.o,rfl⟩,rfl⟩
       . show Ad-((k:Int)+1).toNat<Ad-((k:Int)).toNat
         omega
      case stop=>
       rintro D2 c Ae W Cu Dk ⟨⟨rfl,Cq⟩,Ev,Ak⟩ hK
       have Bi:=Hd (show eS k=5 by
        rw [Dl.o Bt.o,if_neg];intro h;obtain⟨z,hz,hn⟩:=Cq;have:=Zf.1 h z (Dk.subset hz);rw [hn] at this
        cases this)
       have HO:=Hd (show rE bd w (D2::ms) W from by
        have hF:=Bb.o;refine⟨⟨World.grownBy.andThen hF.1.1 Ak (fun j e=>.inl (by cases e;omega)),fun p hp=>?_⟩,List.nodup_cons.2 ⟨fun h=>absurd (Cs.o _ h) (by omega),hF.2.2.2.1⟩,fun x hx=>?_⟩
        . refine(Ym (Ak.block p.block (Yr hp hF.1.size) (fun e=>?_))).trans (hF.1.2 p hp);injection e with e;omega
        . rcases Yu.1 hx with rfl | hx
          . exact⟨Yp Fb Cu,hK⟩
          . exact⟨(hF.2.2.2.2 x hx).1,(Ak.block x (Cs.o x hx) (fun e=>by injection e with e;have:=(hF.2.2.2.2 x hx).1;omega)).trans (hF.2.2.2.2 x hx).2⟩)
       have c7:=Ev.cell;clear Ev Ak hK;refine wpIn_wide.2 ?_
       go_wp2_with fail
       go_quiet (fail)
       go_wp2_with fail
       have Am:=Hd (HO.o.below (aY (Yg _ _) nq) HO.o.1.size);rw [Exit.noGoto_ret];refine sV (lo:=w.heap.size+1+1) (D2::ms) _ Am.o.2.1 Am.o.2.2 fun W' Ao=>?_;exact⟨.tuple #[.int .i64 (k:Nat),.int .i64 5],by simp [results,Tryz.f99,go_sem],Cl.o _ _ ⟨(k:Nat),5,rfl,Am.o.1.new Ao (by omega),.inl ⟨k,Aj,Bu.o,by rw [Bi.o];decide,rfl,Bi.o.symm⟩⟩⟩
 . obtain rfl:k=Ad:=by omega
   have c7:=Bf.o.2.2.1.cell;have HO:=Hd Bf.o.ok;have Df:=Hd (Fk.o.mono (m':=10000) (by omega))
   go_wp2_with fail
   go_quiet (fail)
   go_wp2_with fail
   rw [Exit.noGoto_ret];refine sV (lo:=w.heap.size+1+1) ms _ (HO.o.below (aY (Yg _ _) nq) HO.o.1.size).2.1 (HO.o.below (aY (Yg _ _) nq) HO.o.1.size).2.2 fun W' Ao=>?_;have hS:=Df.o.below (aY (Yg _ _) nq);exact⟨.tuple #[.int .i64 at_,.int .i64 0],by simp [results,Tryz.f99,go_sem],Cl.o _ _ ⟨at_,0,rfl,(HO.o.below (aY (Yg _ _) nq) HO.o.1.size).1.new Ao (by omega),.inr ⟨Bu.o,rfl,hS.blkeq (Ao.block bd (by omega))⟩⟩⟩
theorem aTd(E:Option Addr) (nE cE bn bv bd mn mv:Nat) (es:List En) (Ab vs:List ByteArray) (l:List Qn) (D:Nat->List ByteArray) (eS:Nat->Int) (pS:Ex->Bool) (Q:Option Addr) (cq:Nat) (w0 w:World)
 (Af:Below w0.heap.size w0 w) (Ae:w0.heap.size<=bd) (hE:bV w0 E nE es) (hQ:gR w0 Q l.length l) (hN:bJ w bn mn Ab) (hV:bJ w bv mv vs) (hD:bJ w bd 1000 (D 0)) (Ad:bn≠bd) (Ai:bv≠bd)
 (hl:l.length<=30) (Ag:∀ k,k<l.length->(fI l k).length<=20/\∀ j,j<(fI l k).length->(nK l k j).size<=maxLen) (hx:∀ k,k<l.length->∀ z∈bI (l[k]?.getD default).x,z.s.size<=maxLen/\pJ vs Ab es z=pS z)
 (Ah:∀ k,k<l.length->D (k+1)=D k++fI l k)
 (Ac:∀ k,k<l.length->∀ j,j<(fI l k).length->(∀ a,a<j->kF vs D l k a=0)->kF vs D l k j≠0->eS k=kF vs D l k j)
 (Aa:∀ k,k<l.length->(∀ a,a<(fI l k).length->kF vs D l k a=0)->eS k=if(bI (l[k]?.getD default).x).all pS=true then 0 else 5):
 Calls Tryz.prog 99 #[.agg (dJ E nE cE bn bv bd),.slice Q l.length cq] w (sQ l D eS bd w):=
 callsIn_wide.1 (aNz 6 (Yh _) E nE cE bn bv bd mn mv es Ab vs l D eS pS Q cq w0 w Af Ae hE hQ hN hV hD Ad Ai hl Ag hx Ah Ac Aa)
end
section
open Go.RowKit Go.Sort Go.BigFrame
def aF1(p:Pg) (i:Nat):Prop:=jC (aA p i)/\jS (aA p i)=true/\bP (bD (aA p i).all)=true/\∀ k,k<(aA p i).eqs.length->∀ z∈bI ((aA p i).eqs[k]?.getD default).x,bA z=true
theorem aQs{p:Pg}{i:Nat}(ht:gI p) (h0:dO p=0) (hi:i<p.ns.length):aF1 p i:=by
 have hx:aA p i∈p.ns:=kY hi;unfold dO pI sJ at h0
 split at h0 <;> try (rename_i he;exact absurd h0 he)
 split at h0 <;> try (cases h0;done)
 split at h0 <;> try (cases h0;done)
 split at h0 <;> try (cases h0;done)
 split at h0 <;> try (cases h0;done)
 rename_i hr
 split at h0 <;> try (cases h0;done)
 rename_i ho
 have h1:=Zf.1 hr _ hx;simp only [Ys] at ho;have h2:=Zf.1 ho.1 _ hx;unfold gH at h1;simp only [Ys] at h1;refine⟨ht.2.2 i hi,h1.1.1.1.2,h2,fun k hk z hz=>?_⟩;have h3:=Zf.1 h1.1.1.2 _ (kY (l:=(aA p i).eqs) hk);unfold gK at h3;simp only [Ys] at h3;have h4:=h3.1.2;unfold bB at h4;simp only [Ys] at h4;exact Zf.1 h4.2 z hz
def vE(p:Pg) (i bd:Nat) (w:World) (e:Ending) (w':World):Prop:=∃ a er:Int,e=.returned (.tuple #[.int .i64 a,.int .i64 er])/\jV p i a er/\Gd bd w w'
theorem aSl(p:Pg) (i:Nat) (E:Option Addr) (ec bn bv bd mn mv:Nat) (A1:Option Addr) (c1:Nat) (A2:Option Addr) (c2:Nat) (A3:Option Addr) (c3:Nat) (A4:Option Addr) (c4:Nat) (w0 w:World)
 (Ac:Below w0.heap.size w0 w) (Bp:w0.heap.size<=bd) (hE:bV w0 E p.es.length p.es) (hr:cJ w0 (aA p i) A1 A2 A3 A4) (hN:bJ w bn mn ((p.ns.take i).map Nd.nm)) (hV:bJ w bv mv (bD (aA p i).all)) (hD:bJ w bd 1000 (bD (aA p i).ins)) (Cb:bn≠bd) (Ch:bv≠bd) (hg:aF1 p i):
 Calls Tryz.prog 55 #[.agg (dJ E p.es.length ec bn bv bd),.agg (bL (aA p i) A1 c1 A2 c2 A3 c3 A4 c4)] w (vE p i bd w):=by
 have Cj:∀ fn first Bx w,(Instr.makeFunc fn first Bx).run Tryz.prog w=.ok (.func fn first Bx) w:=fun _ _ _ _=>rfl
 have Av:=hg.1.ok;have Bu:=Hd Ac;have HR:=Hd hr;have HD:=Hd hD;have HF:=Hd fun w1 hw=>jR (w:=w) (w1:=w1) (o:=.cells (dJ E p.es.length ec bn bv bd) 93) hw;have Ay:=Hd fun w w1 hw=>jR (w:=w) (w1:=w1) (o:=.cells (bL (aA p i) A1 c1 A2 c2 A3 c3 A4 c4) 53) hw
 have HU:=Hd fun w1 (a:Below w.heap.size w w1)=>tZ 98 (.agg (dJ E p.es.length ec bn bv bd)) (fun _ _=>rfl) (lL (bD (aA p i).all) p.es) A3 (aA p i).vars.length c3 (aA p i).vars w1 (hr.2.2.1.below (Ac.trans (a.mono Ac.size)))
  (fun d hd W hW=>aK7 E p.es.length ec bn bv bd mv p.es (bD (aA p i).all) d W (hE.below (Ac.trans ((a.trans (hW.mono a.size)).mono Ac.size))) (hV.below (a.trans (hW.mono a.size))) (Av.2.1 d (by unfold Nd.all;exact List.mem_append_right _ hd)).2.1)
 have An:=Hd fun w1 (a:Below w.heap.size w w1)=>aTd E p.es.length ec bn bv bd mn mv p.es ((p.ns.take i).map Nd.nm) (bD (aA p i).all) (aA p i).eqs (fH (aA p i)) (eB p i) (kP p i) A4 c4 w0 w1 (Ac.trans (a.mono Ac.size)) Bp hE hr.2.2.2 (hN.below a) (hV.below a) (by rw [aKa];exact hD.below a) Cb Ch
  hg.1.2.2.2.1 (fun k hk=>⟨(hg.1.2.2.2.2.2 k hk).1,fun j hj=>(Yp ((hg.1.2.2.2.2.2 k hk).2.2 j hj) (by unfold maxLen;omega))⟩)
  (fun k hk z hz=>⟨Yp (sW (hg.1.2.2.2.2.2 k hk).2.1 z hz).1 (by unfold maxLen;omega),aM2 (hg.2.2.2 k hk z hz)⟩)
  (fun k hk=>aJ9 hk)
  (fun k hk j hj hn he=>by
   have hq:∀ a,jU (aA p i) k ((aA p i).eqs[k]?.getD default).ns a=kF (bD (aA p i).all) (fH (aA p i)) (aA p i).eqs k a:=fun a=>aDg _ _ _ _;rw [<- hq];exact aEn hj (fun a ha=>(hq a).trans (hn a ha)) (by rw [hq];exact he))
  (fun k hk hn=>by
   have hq:∀ a,jU (aA p i) k ((aA p i).eqs[k]?.getD default).ns a=kF (bD (aA p i).all) (fH (aA p i)) (aA p i).eqs k a:=fun a=>aDg _ _ _ _;exact aCe (fun a ha=>(hq a).trans (hn a ha)))
 have HO:=Hd fun w1 (b:Below w0.heap.size w0 w1) (hs:bJ w1 bd 10000 (fH (aA p i) (aA p i).eqs.length))=>tZ 100 (.agg (dJ E p.es.length ec bn bv bd)) (fun _ _=>rfl) (fun d=>!(fH (aA p i) (aA p i).eqs.length).any (bQ d.nm)) A2 (aA p i).outs.length c2 (aA p i).outs w1 (hr.2.1.below b)
  (fun d hd W hW=>aAn E p.es.length ec bn bv bd 10000 _ d W (hs.below hW) (Av.2.1 d (by unfold Nd.all;exact List.mem_append_left _ (List.mem_append_right _ hd))).1)
 have Ba:=Hd fun w1 (b:Below w0.heap.size w0 w1) (hs:bJ w1 bd 10000 (fH (aA p i) (aA p i).eqs.length))=>tZ 100 (.agg (dJ E p.es.length ec bn bv bd)) (fun _ _=>rfl) (fun d=>!(fH (aA p i) (aA p i).eqs.length).any (bQ d.nm)) A3 (aA p i).vars.length c3 (aA p i).vars w1 (hr.2.2.1.below b)
  (fun d hd W hW=>aAn E p.es.length ec bn bv bd 10000 _ d W (hs.below hW) (Av.2.1 d (by unfold Nd.all;exact List.mem_append_right _ hd)).1)
 have Bd:=Hd fun h=>aKb (p:=p) (i:=i) h;have Bg:=Hd fun k h hk hn he=>aM3 (p:=p) (i:=i) (k:=k) hg.2.1 h hk hn he;have Ae:=Hd fun b h hn hb=>aKc (p:=p) (i:=i) hg.2.1 hg.2.2.1 h hn (b:=b) hb;have Aj:=Hd (show ∀ (a er:Int) w',jV p i a er->Gd bd w w'->vE p i bd w (.returned (.tuple #[.int .i64 a,.int .i64 er])) w' from fun a er w' h1 h2=>⟨a,er,rfl,h1,h2⟩);have Ci:=hD.lt;clear Ac hE hr hN hV hD hg Av;unfold sQ at An;generalize vE p i bd w=NP at *;generalize jV p i=NR at *;generalize eB p i=eS at *;generalize Bh:(aA p i).vars.any (lL (bD (aA p i).all) p.es)=Ax at *;generalize Cg:((aA p i).outs.any fun d=>!(fH (aA p i) (aA p i).eqs.length).any (bQ d.nm))=b1 at *;generalize Ce:((aA p i).vars.any fun d=>!(fH (aA p i) (aA p i).eqs.length).any (bQ d.nm))=b2 at *;generalize fH (aA p i) (aA p i).eqs.length=ds at *;clear Bh Cg Ce;unfold dJ at HF HU An HO Ba ⊢;unfold bL at Ay ⊢;generalize p.es.length=ne at *;generalize aA p i=x at *;generalize x.ins.length=n1 at *;generalize x.outs.length=n2 at *;generalize x.vars.length=n3 at *;generalize x.eqs.length=n4 at *
 go_enter Tryz.func55,Tryz.ntmps55
 go_upto_region 1 with(fail)
 generalize Bw:w.alloc _=w1;obtain⟨Bb,Bq,Bz⟩:=HF.o w1 Bw;generalize Ca:w1.alloc _=w2;obtain⟨Bf,Cd,Ar⟩:=Ay.o w1 w2 Ca;rw [Bq] at Ar;have Aa:=(Bf.block w.heap.size (by omega)).trans Bz;have Bt:=Hd Aa;have Bv:=Hd Ar;have Al:=Hd (Bb.trans (Bf.mono Bb.size));have Bk:=Hd (show w.heap.size+1<w2.heap.size by omega);have q0:=bU Aa 0;have q1:=bU Aa 1;have q2:=bU Aa 2;have q3:=bU Aa 3;have d3:=bU Ar 3;simp only [Ya,Yb,Yc] at q0 q1 q2 q3 d3;have Ao:=Hd (HU.o w2 Al.o);clear Bw Ca Bb Bf Bz Ar Aa HF Ay HU Bq Cd
 cases Ax with
 | true=>
  go_wp2_with fail
  refine Ao.o.mono ?_;rintro e w3 ⟨rfl,Ad⟩;have As:=Hd (Al.o.trans (Ad.mono Al.o.size));clear Ad Ao q0 q1 q2 q3 d3
  go_wp2_with fail
  exact Aj.o _ _ _ (Bd.o (by first | trivial | rfl)) (Gd.of_below As.o)
 | false=>
  go_wp2_with fail
  refine Ao.o.mono ?_;rintro e w3 ⟨rfl,Ad⟩;have As:=Hd (Al.o.trans (Ad.mono Al.o.size));have z1:=(Ad.block w.heap.size (by have:=Bk.o;omega)).trans Bt.o;have z2:=(Ad.block (w.heap.size+1) Bk.o).trans Bv.o;have Cc:=Hd (Yr Bk.o Ad.size);have Bl:=Hd z1;have Az:=Hd z2;have r0:=bU z1 0;have r1:=bU z1 1;have r2:=bU z1 2;have r3:=bU z1 3;have e4:=bU z2 4;simp only [Ya,Yb,Yc] at r0 r1 r2 r3 e4;have Bn:=Hd (An.o w3 As.o);clear Ad Ao q0 q1 q2 q3 d3 z1 z2 An Bt Bv
  go_wp2_with fail
  refine Bn.o.mono ?_;rintro e w4 ⟨a,er,rfl,Ah,Bj⟩;have Au:=Hd ((Gd.of_below As.o).trans Ah);rcases Bj with⟨k,hk,Am,Bm,rfl,rfl⟩|⟨Am,rfl,hs4⟩
  . have Ck:(eS k != 0)=true:=bne_iff_ne.2 Bm;have Ag:=Hd (Bg.o k (by first | trivial | rfl) hk Am Bm);clear Ah Am Bm r0 r1 r2 r3 e4 Bn;generalize eS k=v at *
    go_wp2_with fail
    exact Aj.o _ _ _ Ag.o Au.o
  . have z1:=Ah.blk Bl.o (by omega);have z2:=Ah.blk Az.o (by omega);have Af:=Gd.below Bu.o Au.o Bu.o.size Bp;have Ak:=Hd Af;have Cf:=Hd hs4;have Bi:=Hd Am;have s0:=bU z1 0;have s1:=bU z1 1;have s2:=bU z1 2;have s3:=bU z1 3;have f2:=bU z2 2;have Bc:=Hd z1;have Bo:=Hd z2;have Br:=Hd (Yr Cc.o Ah.size);simp only [Ya,Yb,Yc] at s0 s1 s2 s3 f2;have Aw:=Hd (HO.o w4 Af hs4);clear Ah Am hs4 z1 z2 Af r0 r1 r2 r3 e4 Bn HO
    cases b1 with
    | true=>
     have Ag:=Hd (Ae.o true (by first | trivial | rfl) Bi.o (by first | trivial | rfl))
     go_wp2_with fail
     refine Aw.o.mono ?_;rintro e w5 ⟨rfl,Ab⟩;have Ap:=Hd (Au.o.trans (Gd.of_below Ab));clear Ab s0 s1 s2 s3 f2 Aw
     go_wp2_with fail
     exact Aj.o _ _ _ Ag.o Ap.o
    | false=>
     go_wp2_with fail
     refine Aw.o.mono ?_;rintro e w5 ⟨rfl,Ab⟩;have Ap:=Hd (Au.o.trans (Gd.of_below Ab));have z1:=(Ab.block w.heap.size (by have:=Br.o;omega)).trans Bc.o;have z2:=(Ab.block (w.heap.size+1) Br.o).trans Bo.o;have t0:=bU z1 0;have t1:=bU z1 1;have t2:=bU z1 2;have t3:=bU z1 3;have g3:=bU z2 3;simp only [Ya,Yb,Yc] at t0 t1 t2 t3 g3;have Aq:=Hd (Ba.o w5 (Ak.o.trans (Ab.mono Ak.o.size)) (Cf.o.below Ab));clear Ab s0 s1 s2 s3 f2 Aw z1 z2 Ba
     cases b2 with
     | true=>
      have Ag:=Hd (Ae.o true (by first | trivial | rfl) Bi.o (by first | trivial | rfl))
      go_wp2_with fail
      refine Aq.o.mono ?_;rintro e w6 ⟨rfl,Ai⟩;have Be:=Hd (Ap.o.trans (Gd.of_below Ai));clear Ai t0 t1 t2 t3 g3 Aq
      go_wp2_with fail
      exact Aj.o _ _ _ Ag.o Be.o
     | false=>
      have Ag:=Hd (Ae.o false (by first | trivial | rfl) Bi.o (by first | trivial | rfl))
      go_wp2_with fail
      refine Aq.o.mono ?_;rintro e w6 ⟨rfl,Ai⟩;have Be:=Hd (Ap.o.trans (Gd.of_below Ai));clear Ai t0 t1 t2 t3 g3 Aq
      go_wp2_with fail
      exact Aj.o _ _ _ Ag.o Be.o
end
end Go.Proofs.YtegjgiofmpolnaaGreat
