/- Parts of the proof: TrN. Conditions: each theorem's own. -/
import Derived.Test.YtegjgiofmpolnaaGreatC35
namespace Go.Proofs.YtegjgiofmpolnaaGreat
set_option linter.unusedVariables false
set_option linter.unusedSimpArgs false
set_option maxRecDepth 100000
set_option maxHeartbeats 40000000
section
open Go.RowKit Go.Sort Go.BigFrame
theorem aLk(p:Pg) (x:Nd) (r:Rm) (y:Ex) (A:Option Addr) (ca:Nat) (B:Option Addr) (cb:Nat) (ts:List T3) (w:World) (h:cY w p x r) (hS:aM w none 0 ts) (hn:y.n=((0:Nat):Int)) (Bk:∀ j,j<p.ns.length->(aA p j).ins.length<=1000/\(aA p j).outs.length<=1000):
 Calls Tryz.prog 102 #[.agg (aT p x r),.agg (aE y A ca B cb),.slice none 0 0] w (iO w ((kR p y ts).map fun j=>(aA p j).outs.map aO)):=by
 have Bt:=hS.len;have Cg:=hS.max;have Bg:=Hd fun w1 (hb:Below w.heap.size w w1)=>aFi p r.E r.ec r.N r.nc y.s w1 (h.below hb).1;have HS:=Hd fun w1 (hb:Below w.heap.size w w1)=>hS.below hb;have Bp:=Hd fun w1 (hb:Below w.heap.size w w1)=>(show eW w1 r.N p.ns.length p.ns from(h.below hb).1.2)
 have HC:=Hd (show kR p y ts=if cQ p y.s<0 then none
  else if(decide (ts.take 0=(aA p (cQ p y.s).toNat).ins.map aO) && dV (2,0,0) (ts.drop 0))=true then some (cQ p y.s).toNat else none from by
  unfold kR;rw [hn,Bt,Int.toNat_natCast])
 have Cc:=Hd (tY p y.s);have Bb:=Hd aBq;have Bf:=Hd qI;clear h hS;generalize Az:(kR p y ts).map (fun j=>(aA p j).outs.map aO)=oo;generalize kR p y ts=cp at *;generalize cQ p y.s=f at *;unfold aT aE aC at *;rw [hn];rcases Cc.o with rfl | ⟨i,rfl,hi⟩
 . have HN:=Hd (show oo=none by rw [<- Az,HC.o,if_pos (by omega)];rfl);clear HC Az HS Bp Bb Bf
   go_enter Tryz.func102,Tryz.ntmps102
   go_upto_region 1 with(fail)
   generalize An:(w.alloc _).alloc _=w0;obtain⟨Ax,Bo,Ah,Ad⟩:=jQ An;have Av:=Hd Ax;have q0:=Ah w0 (Yg _ _) 0;have q1:=Ah w0 (Yg _ _) 1;have r2:=Ad w0 (Yg _ _) 2;simp only [Ya,Yb,Yc] at q0 q1 r2;clear An Ax Bo Ah Ad
   go_wp2_with fail
   refine(Bg.o w0 Av.o).mono ?_;rintro e w1 ⟨rfl,Ak⟩;have Bi:=Hd (aR Av.o Ak);clear Ak q0 q1 r2
   go_wp2_with fail
   try go_ret2
   exact⟨none,0,0,[],by rw [HN.o];rfl,fun r h=>(by rw [HN.o] at h;cases h),Bi.o⟩
 have Bm:=Hd (show cp=if(decide (ts.take 0=(aA p i).ins.map aO) && dV (2,0,0) (ts.drop 0))=true then some i else none by rw [HC.o,if_neg (by omega),Int.toNat_natCast]);obtain⟨nb,no,A1,c1,A2,c2,A3,c3,A4,c4,hN,Ap,Bj,d0,d1,d2,d3,d4⟩:=iN (Bp.o w (Yg _ _)) hi;obtain⟨Br,Cb⟩:=Bk i hi;have Bc:=Hd fun w1 (hb:Below w.heap.size w w1)=>Bb.o A1 (p.ns[i]?.getD default).ins.length c1 (p.ns[i]?.getD default).ins w1 (Bj.below hb).1 Br;have Be:=Hd fun w1 (hb:Below w.heap.size w w1)=>Bb.o A2 (p.ns[i]?.getD default).outs.length c2 (p.ns[i]?.getD default).outs w1 (Bj.below hb).2.1 Cb
 have HD:=Hd (show ∀ w1,Below w.heap.size w w1->w1.cell? ⟨nb,no+i*5,none⟩=some (.string (p.ns[i]?.getD default).nm)/\w1.cell? ⟨nb,no+i*5+1,none⟩=some (.slice A1 (p.ns[i]?.getD default).ins.length c1)/\w1.cell? ⟨nb,no+i*5+2,none⟩=some (.slice A2 (p.ns[i]?.getD default).outs.length c2)/\w1.cell? ⟨nb,no+i*5+3,none⟩=some (.slice A3 (p.ns[i]?.getD default).vars.length c3)/\w1.cell? ⟨nb,no+i*5+4,none⟩=some (.slice A4 (p.ns[i]?.getD default).eqs.length c4) from
  fun w1 hb=>⟨(hb.cell (p:=⟨nb,no+i*5,none⟩) Ap).trans d0,(hb.cell (p:=⟨nb,no+i*5+1,none⟩) Ap).trans d1,(hb.cell (p:=⟨nb,no+i*5+2,none⟩) Ap).trans d2,(hb.cell (p:=⟨nb,no+i*5+3,none⟩) Ap).trans d3,(hb.cell (p:=⟨nb,no+i*5+4,none⟩) Ap).trans d4⟩)
 have Bl:=Hd (show oo=cp.map fun j=>(aA p j).outs.map aO from Az.symm);clear d0 d1 d2 d3 d4 Bj Bp HC Az Bb Br Cb Cc;unfold yJ at Bc Be;rw [hN];have Ba:=Hd fun(T1:Option Addr) (tn tc:Nat) w1 (hb:Below w.heap.size w w1) (ht:aM w1 T1 tn ((aA p i).ins.map aO))=>aDy none T1 0 tn 0 tc (ts.take 0) ((aA p i).ins.map aO) w1 ((HS.o w1 hb).take (by omega)) ht;have Bd:=Hd fun(ad:Option Addr) (n1 cc:Nat) w1 (hr:aM w1 ad n1 (ts.drop 0))=>kS 2 0 0 ad n1 cc (ts.drop 0) w1 hr;unfold aC at Bd;have Bh:=Hd (show((aA p i).ins.map aO).length=(p.ns[i]?.getD default).ins.length by rw [List.length_map];rfl);generalize Cd:decide (ts.take 0=(aA p i).ins.map aO)=bq at *;generalize Ag:dV (2,0,0) (ts.drop 0)=ba at *;have Am:=Hd (show(bq && ba)=false->oo=none from fun h=>by rw [Bl.o,Bm.o,h];rfl);have Aw:=Hd (show(bq && ba)=true->oo=some ((aA p i).outs.map aO) from fun h=>by rw [Bl.o,Bm.o,h];rfl);clear Bl Bm Cd Ag;have Ch:decide ((i:Int)<0)=false:=Zy (by omega);unfold aA at Ba Bh Am Aw;generalize p.ns[i]?.getD default=nd at *
 go_enter Tryz.func102,Tryz.ntmps102
 go_upto_region 1 with(fail)
 generalize An:(w.alloc _).alloc _=w0;obtain⟨Ax,Bo,Ah,Ad⟩:=jQ An;have Av:=Hd Ax;have Bv:=Hd Ah;have Ca:=Hd Ad;have q0:=Ah w0 (Yg _ _) 0;have q1:=Ah w0 (Yg _ _) 1;have r2:=Ad w0 (Yg _ _) 2;simp only [Ya,Yb,Yc] at q0 q1 r2;rw [hN] at Bg;clear An Ax Bo Ah Ad
 go_wp2_with fail
 refine(Bg.o w0 Av.o).mono ?_;rintro e w1 ⟨rfl,Ak⟩;have Bi:=Hd (aR Av.o Ak);have q1:=Bv.o w1 Ak 1;have r1:=Ca.o w1 Ak 1;simp only [Ya,Yb,Yc] at q1 r1;obtain⟨d0,d1,d2,d3,d4⟩:=HD.o w1 Bi.o;clear Ak q0 r2 Bg Bv Ca HD
 go_upto_region 4 with(fail)
 refine lO (l:=[_,_,_,_,_,_,_,_,_,_,_,_,_,_]) 11 12 _ _ (d:=9) (tx:=23) (T:=53) (zc:=ndZ) (by kernel_rfl) rfl rfl (by kernel_rfl) rfl (by simp) (fun a W=>by rfl) rfl (by kernel_rfl) ?_
 repeat
  first
  | refine lW rfl ?_
  | (apply lV rfl rfl (by simp)
     case h1=>
      intro wb hb;have Ab:=cI hb;have l0:=fun d os=>Zr ((Ab.cell (Yi _ _ q1)).trans q1) d os;have l1:=fun d os=>Zr ((Ab.cell (Yi _ _ r1)).trans r1) d os;have m0:=fun d os=>Zr ((Ab.cell (Yi _ _ d0)).trans d0) d os;have m1:=fun d os=>Zr ((Ab.cell (Yi _ _ d1)).trans d1) d os;have m2:=fun d os=>Zr ((Ab.cell (Yi _ _ d2)).trans d2) d os;have m3:=fun d os=>Zr ((Ab.cell (Yi _ _ d3)).trans d3) d os;have m4:=fun d os=>Zr ((Ab.cell (Yi _ _ d4)).trans d4) d os;clear Ab
      go_big_quiet_step (fail)
      refine Xf ?_;simp only [List.getElem?_toArray,Zb,Yz];exact rfl
     simp only [Act.put,Yd,Ye,Yf])
 refine⟨#[.string nd.nm,.slice A1 nd.ins.length c1,.slice A2 nd.outs.length c2,.slice A3 nd.vars.length c3,.slice A4 nd.eqs.length c4],rfl,rfl,by simp [Value.oneCell'],fun W g hW hg hz=>?_⟩;have Aa:=Hd (aR Bi.o (cI hW));have k1:=uC hz 1;have k2:=uC hz 2;simp only [Ya,Yb,Yc] at k1 k2;clear hW hg hz q1 r1 d0 d1 d2 d3 d4
 show Exit.then _ _ .normal _ W
 simp only [Act.put,Yd,Ye,Yf];have Bz:=Yi _ _ k1;have Ae:=Hd (show g<W.heap.size from Bz);clear Bz
 cases bq with
 | false=>
  have HO:=Hd (Am.o rfl);clear Am Aw Be Bd Bf
  go_upto_region 5 with(fail)
  first
  | go_region_held_law (fun X=>X.cell? ⟨g,1,none⟩=some (.slice A1 nd.ins.length c1)) (first | exact k1 | exact Au | exact Ay)
   ((first
     | (go_at_call 155;refine(Bc.o _ (Aa.o.trans ((aY (Yg W.heap.size W) 1).mono Aa.o.size))).mono ?_;rintro e Wa ⟨T1,tc,rfl,Ai,Ag⟩;have Ac:=Hd ((aY (Yg W.heap.size W) 1).trans (Ag.mono (aY (Yg W.heap.size W) 1).size));have Aq:=Hd Ai;have Au:=(Ac.o.cell (p:=⟨g,1,none⟩) Ae.o).trans k1;clear Ag Ai)
     | (go_at_call 154;refine(Ba.o T1 _ tc Wa (Aa.o.trans (Ac.o.mono Aa.o.size)) (by have:=Aq.o;rwa [Bh.o] at this)).mono ?_;rintro e Wb ⟨rfl,Ab⟩;have Af:=Hd (Ac.o.trans (Ab.mono Ac.o.size));have Ay:=(Af.o.cell (p:=⟨g,1,none⟩) Ae.o).trans k1;clear Ab)))
  | fail
  all_goals
   go_wp2_with fail
   try go_ret2
   exact⟨none,0,0,[],by rw [HO.o];rfl,fun r h=>(by rw [HO.o] at h;cases h),Aa.o.trans (Af.o.mono Aa.o.size)⟩
 | true=>
  have Bw:=Hd (show(ts.drop 0).length=0 by rw [List.length_drop,Bt])
  cases ba with
  | false=>
   have HO:=Hd (Am.o rfl);clear Am Aw Be
   go_upto_region 5 with(fail)
   go_region_held3 (fun X=>X.cell? ⟨g,1,none⟩=some (.slice A1 nd.ins.length c1)) (first | exact k1 | exact Au | exact Ay | exact Bq | exact Bn)
    ((first
      | (go_at_call 155;refine(Bc.o _ (Aa.o.trans ((aY (Yg W.heap.size W) 1).mono Aa.o.size))).mono ?_;rintro e Wa ⟨T1,tc,rfl,Ai,Ag⟩;have Ac:=Hd ((aY (Yg W.heap.size W) 1).trans (Ag.mono (aY (Yg W.heap.size W) 1).size));have Aq:=Hd Ai;have Au:=(Ac.o.cell (p:=⟨g,1,none⟩) Ae.o).trans k1;clear Ag Ai)
      | (go_at_call 154;refine(Ba.o T1 _ tc Wa (Aa.o.trans (Ac.o.mono Aa.o.size)) (by have:=Aq.o;rwa [Bh.o] at this)).mono ?_;rintro e Wb ⟨rfl,Ab⟩;have Af:=Hd (Ac.o.trans (Ab.mono Ac.o.size));have Ay:=(Af.o.cell (p:=⟨g,1,none⟩) Ae.o).trans k1;clear Ab)
      | (go_at_call 119;refine(Bf.o 2 Wb).mono ?_;rintro e Wc ⟨rfl,Ar⟩;have Aj:=Hd (Af.o.trans (Ar.mono Af.o.size));have Bq:=(Aj.o.cell (p:=⟨g,1,none⟩) Ae.o).trans k1;clear Ar)
      | (go_at_call 87;refine(Bd.o _ _ _ Wc (by exact aM.none_ Bw.o)).mono ?_;rintro e Wd ⟨rfl,Ao⟩;have Al:=Hd (Aj.o.trans (Ao.mono Aj.o.size));have Bn:=(Al.o.cell (p:=⟨g,1,none⟩) Ae.o).trans k1;clear Ao)))
   go_wp2_with fail
   try go_ret2
   exact⟨none,0,0,[],by rw [HO.o];rfl,fun r h=>(by rw [HO.o] at h;cases h),Aa.o.trans (Al.o.mono Aa.o.size)⟩
  | true=>
   have HO:=Hd (Aw.o rfl);clear Am Aw
   go_upto_region 5 with(fail)
   go_region_held3 (fun X=>X.cell? ⟨g,1,none⟩=some (.slice A1 nd.ins.length c1)) (first | exact k1 | exact Au | exact Ay | exact Bq | exact Bn)
    ((first
      | (go_at_call 155;refine(Bc.o _ (Aa.o.trans ((aY (Yg W.heap.size W) 1).mono Aa.o.size))).mono ?_;rintro e Wa ⟨T1,tc,rfl,Ai,Ag⟩;have Ac:=Hd ((aY (Yg W.heap.size W) 1).trans (Ag.mono (aY (Yg W.heap.size W) 1).size));have Aq:=Hd Ai;have Au:=(Ac.o.cell (p:=⟨g,1,none⟩) Ae.o).trans k1;clear Ag Ai)
      | (go_at_call 154;refine(Ba.o T1 _ tc Wa (Aa.o.trans (Ac.o.mono Aa.o.size)) (by have:=Aq.o;rwa [Bh.o] at this)).mono ?_;rintro e Wb ⟨rfl,Ab⟩;have Af:=Hd (Ac.o.trans (Ab.mono Ac.o.size));have Ay:=(Af.o.cell (p:=⟨g,1,none⟩) Ae.o).trans k1;clear Ab)
      | (go_at_call 119;refine(Bf.o 2 Wb).mono ?_;rintro e Wc ⟨rfl,Ar⟩;have Aj:=Hd (Af.o.trans (Ar.mono Af.o.size));have Bq:=(Aj.o.cell (p:=⟨g,1,none⟩) Ae.o).trans k1;clear Ar)
      | (go_at_call 87;refine(Bd.o _ _ _ Wc (by exact aM.none_ Bw.o)).mono ?_;rintro e Wd ⟨rfl,Ao⟩;have Al:=Hd (Aj.o.trans (Ao.mono Aj.o.size));have Bn:=(Al.o.cell (p:=⟨g,1,none⟩) Ae.o).trans k1;clear Ao)))
   have k2:=(Al.o.cell (p:=⟨g,2,none⟩) Ae.o).trans k2;have Bu:=Hd (Aa.o.trans (Al.o.mono Aa.o.size))
   go_wp2_with fail
   refine(Be.o Wd Bu.o).mono ?_;rintro e w9 ⟨T9,t9,rfl,As,Bx⟩;have Ce:=Hd As;have Cf:=Hd (aR Bu.o Bx);clear As Bx
   go_wp2_with fail
   try go_ret2
   exact⟨T9,nd.outs.length,t9,nd.outs.map aO,by rw [HO.o];rfl,fun r h=>(by rw [HO.o] at h;injection h with h;exact⟨h.symm,by have:=Ce.o;rwa [List.length_map] at this⟩),Cf.o⟩
end
end Go.Proofs.YtegjgiofmpolnaaGreat
