/- Parts of the proof: TrR. Conditions: each theorem's own. -/
import Derived.Deep.RegionHeld
import Derived.Test.YtegjgiofmpolnaaGreatC39
namespace Go.Proofs.YtegjgiofmpolnaaGreat
set_option linter.unusedVariables false
set_option linter.unusedSimpArgs false
set_option maxRecDepth 100000
set_option maxHeartbeats 40000000
section
open Go.RowKit Go.Sort Go.BigFrame
theorem aOm(p:Pg) (x:Nd) (r:Rm) (y:Ex) (A:Option Addr) (ca:Nat) (B:Option Addr) (cb:Nat) (S:Option Addr) (m sc:Nat) (ts:List T3) (w:World) (h:cY w p x r) (hS:aM w S m ts) (hk:y.k=7) (hm:3<=m) (ht:fD (aB ts 0)=false) (o:Option T3) (ho:none=o):
 Calls Tryz.prog 80 #[.agg (aT p x r),.agg (aE y A ca B cb),.slice S m sc] w (aZ w o):=by
 have HF:=Hd fun w0 hw=>fL (w:=w) (w1:=w0) (cs:=aT p x r) (ds:=aE y A ca B cb) (T:=60) (U:=35) (V:=38) hw;obtain⟨sb,so,rfl,Bk,Bo⟩:=hS.at_ (i:=0) (by omega);obtain⟨a0,a1,a2⟩:=Bo 0 (by omega);obtain⟨b0,b1,b2⟩:=Bo 1 (by omega);obtain⟨c0,c1,c2⟩:=Bo 2 (by omega);simp only [Nat.zero_mul,Nat.add_zero,Nat.one_mul] at a0 a1 a2 b0 b1 b2 c0 c1 c2;have Bv:=Hd qI;have Bj:=Hd fun(ad:Option Addr) w1 (hr:aM w1 ad 1 [aB ts 0])=>kS 2 0 0 ad 1 1 [aB ts 0] w1 hr;rw [show dV (2,0,0) [aB ts 0]=fD (aB ts 0) from nZ _ _] at Bj;unfold aC at Bj Bv;rw [ht] at Bj;have Cj:(0:Int)<(m:Int):=by omega
 have Ci:(1:Int)<(m:Int):=by omega
 have Cf:(2:Int)<(m:Int):=by omega
 generalize Cd:aB ts 0=tx at *;generalize Ch:aB ts 1=ty at *;generalize Ce:aB ts 2=tz at *;obtain⟨x0,x1,x2⟩:=tx;obtain⟨y0,y1,y2⟩:=ty;obtain⟨z0,z1,z2⟩:=tz
 dsimp only at a0 a1 a2 b0 b1 b2 c0 c1 c2
 have HO:=Hd ho.symm;clear ho h ht;unfold aT aE at *;rw [hk] at HF ⊢;clear hS Bo
 go_enter Tryz.func80,Tryz.ntmps80
 go_upto_region 1 with(fail)
 generalize Bx:((w.alloc _).alloc _).alloc _=w0;obtain⟨Bl,Bz,Ca,Bn,hR⟩:=HF.o w0 Bx;have Br:=Hd Bl;have HR:=Hd hR;have r0:=Bn w0 (Yg _ _) 0;simp only [Ya,Yb,Yc] at r0;have a0:=(Bl.cell (p:=⟨sb,so,none⟩) Bk).trans a0;have a1:=(Bl.cell (p:=⟨sb,so+1,none⟩) Bk).trans a1;have a2:=(Bl.cell (p:=⟨sb,so+2,none⟩) Bk).trans a2;have b0:=(Bl.cell (p:=⟨sb,so+3,none⟩) Bk).trans b0;have b1:=(Bl.cell (p:=⟨sb,so+3+1,none⟩) Bk).trans b1;have b2:=(Bl.cell (p:=⟨sb,so+3+2,none⟩) Bk).trans b2;have c0:=(Bl.cell (p:=⟨sb,so+2*3,none⟩) Bk).trans c0;have c1:=(Bl.cell (p:=⟨sb,so+2*3+1,none⟩) Bk).trans c1;have c2:=(Bl.cell (p:=⟨sb,so+2*3+2,none⟩) Bk).trans c2;have Cl:0<m:=by omega
 have Cg:1<m:=by omega
 have Cm:2<m:=by omega
 have Ae:sb≠w.heap.size+1+1:=by omega
 have Bu:sb<w0.heap.size:=Yr Bk Br.o.size;have Ck:w.heap.size≠w.heap.size+1+1:=by omega
 have Cn:w.heap.size+1≠w.heap.size+1+1:=by omega
 clear Bx Bz Ca Bn hR HF;have Aa:=Hd Bu;have HO:=Hd (show o=none from HO.o);have Bp:=Hd fun w1=>gZ y0 y1 y2 false w1;unfold aZ aC at Bp;simp only [Yy,if_false,if_true,Option.getD_none,Yt,Option.isSome_none,Option.isSome_some] at Bp
 go_upto_region 7 with(fail)
 refine wp_region_held_drew (S:=(fun W=>W.cell? ⟨sb,so,none⟩=some (.int .i64 x0)/\W.cell? ⟨sb,so+1,none⟩=some (.int .i64 x1)/\W.cell? ⟨sb,so+2,none⟩=some (.int .i64 x2)/\W.cell? ⟨sb,so+3,none⟩=some (.int .i64 y0)/\W.cell? ⟨sb,so+3+1,none⟩=some (.int .i64 y1)/\W.cell? ⟨sb,so+3+2,none⟩=some (.int .i64 y2)/\W.cell? ⟨sb,so+2*3,none⟩=some (.int .i64 z0)/\W.cell? ⟨sb,so+2*3+1,none⟩=some (.int .i64 z1)/\W.cell? ⟨sb,so+2*3+2,none⟩=some (.int .i64 z2))) (by kernel_rfl) ?_ (fun hHeld=>?_)
 . (first | with_reducible exact⟨a0,a1,a2,b0,b1,b2,c0,c1,c2⟩ | with_reducible exact⟨(aI _ _).trans a0,(aI _ _).trans a1,(aI _ _).trans a2,(aI _ _).trans b0,(aI _ _).trans b1,(aI _ _).trans b2,(aI _ _).trans c0,(aI _ _).trans c1,(aI _ _).trans c2⟩ | with_reducible exact⟨(aH _ _ _ Aa.o).trans a0,(aH _ _ _ Aa.o).trans a1,(aH _ _ _ Aa.o).trans a2,(aH _ _ _ Aa.o).trans b0,(aH _ _ _ Aa.o).trans b1,(aH _ _ _ Aa.o).trans b2,(aH _ _ _ Aa.o).trans c0,(aH _ _ _ Aa.o).trans c1,(aH _ _ _ Aa.o).trans c2⟩ | with_reducible exact⟨(Yj _ _ _ Aa.o).trans a0,(Yj _ _ _ Aa.o).trans a1,(Yj _ _ _ Aa.o).trans a2,(Yj _ _ _ Aa.o).trans b0,(Yj _ _ _ Aa.o).trans b1,(Yj _ _ _ Aa.o).trans b2,(Yj _ _ _ Aa.o).trans c0,(Yj _ _ _ Aa.o).trans c1,(Yj _ _ _ Aa.o).trans c2⟩ | with_reducible exact⟨Ap,Aw,Au,Ax,Bc,Bb,Az,Bd,Ar⟩ | with_reducible exact⟨(Yj _ _ _ (Yr Aa.o Ab.o.size)).trans Ap,(Yj _ _ _ (Yr Aa.o Ab.o.size)).trans Aw,(Yj _ _ _ (Yr Aa.o Ab.o.size)).trans Au,(Yj _ _ _ (Yr Aa.o Ab.o.size)).trans Ax,(Yj _ _ _ (Yr Aa.o Ab.o.size)).trans Bc,(Yj _ _ _ (Yr Aa.o Ab.o.size)).trans Bb,(Yj _ _ _ (Yr Aa.o Ab.o.size)).trans Az,(Yj _ _ _ (Yr Aa.o Ab.o.size)).trans Bd,(Yj _ _ _ (Yr Aa.o Ab.o.size)).trans Ar⟩ | with_reducible exact⟨As,Aq,Be,Bg,Ba,Ay,Av,Bf,Ao⟩ | with_reducible exact⟨(Yj _ _ _ (Yr Aa.o Ad.o.size)).trans As,(Yj _ _ _ (Yr Aa.o Ad.o.size)).trans Aq,(Yj _ _ _ (Yr Aa.o Ad.o.size)).trans Be,(Yj _ _ _ (Yr Aa.o Ad.o.size)).trans Bg,(Yj _ _ _ (Yr Aa.o Ad.o.size)).trans Ba,(Yj _ _ _ (Yr Aa.o Ad.o.size)).trans Ay,(Yj _ _ _ (Yr Aa.o Ad.o.size)).trans Av,(Yj _ _ _ (Yr Aa.o Ad.o.size)).trans Bf,(Yj _ _ _ (Yr Aa.o Ad.o.size)).trans Ao⟩ | with_reducible exact⟨Ah,Ai,Af,An,Am,Ak,Al,Ag,Aj⟩ | with_reducible exact⟨(Yj _ _ _ (Yr Aa.o Ac.o.size)).trans Ah,(Yj _ _ _ (Yr Aa.o Ac.o.size)).trans Ai,(Yj _ _ _ (Yr Aa.o Ac.o.size)).trans Af,(Yj _ _ _ (Yr Aa.o Ac.o.size)).trans An,(Yj _ _ _ (Yr Aa.o Ac.o.size)).trans Am,(Yj _ _ _ (Yr Aa.o Ac.o.size)).trans Ak,(Yj _ _ _ (Yr Aa.o Ac.o.size)).trans Al,(Yj _ _ _ (Yr Aa.o Ac.o.size)).trans Ag,(Yj _ _ _ (Yr Aa.o Ac.o.size)).trans Aj⟩ | with_reducible exact⟨(aG Ae).trans Ah,(aG Ae).trans Ai,(aG Ae).trans Af,(aG Ae).trans An,(aG Ae).trans Am,(aG Ae).trans Ak,(aG Ae).trans Al,(aG Ae).trans Ag,(aG Ae).trans Aj⟩)
 refine Zv (i:=0) (oi:=?oi1) (v:=?v1) ?h1x1 (by kernel_rfl) ?h3x1 (by kernel_rfl) ?h5x1 (Or.inl ⟨?h6x1,?h7x1⟩) hHeld ?h8x1
 case h1x1=>
  simp only [Ya,Yb,Yc];rfl
 case h3x1=>kernel_rfl
 case h5x1=>exact fun _ _ _ h=>h
 case h6x1=>rfl
 case h7x1=>
  intro W Bh
  (try dsimp only at Bh)
  go_split_ands
  first | (go_simp;done) | (go_simp;with_reducible rfl)
 (try simp only [Act.put,Yd,Ye,Yf])
 refine Zv (i:=1) (oi:=?oi2) (v:=?v2) ?h1x2 (by kernel_rfl) ?h3x2 (by kernel_rfl) ?h5x2 (Or.inl ⟨?h6x2,?h7x2⟩) hHeld ?h8x2
 case h1x2=>
  simp only [Ya,Yb,Yc];rfl
 case h3x2=>kernel_rfl
 case h5x2=>exact fun _ _ _ h=>h
 case h6x2=>rfl
 case h7x2=>
  intro W Bh
  (try dsimp only at Bh)
  go_split_ands
  first | (go_simp;done) | (go_simp;with_reducible rfl)
 (try simp only [Act.put,Yd,Ye,Yf])
 refine Zv (i:=2) (oi:=?oi3) (v:=?v3) ?h1x3 (by kernel_rfl) ?h3x3 (by kernel_rfl) ?h5x3 (Or.inl ⟨?h6x3,?h7x3⟩) hHeld ?h8x3
 case h1x3=>
  simp only [Ya,Yb,Yc];rfl
 case h3x3=>kernel_rfl
 case h5x3=>exact fun _ _ _ h=>h
 case h6x3=>rfl
 case h7x3=>
  intro W Bh
  (try dsimp only at Bh)
  go_split_ands
  first | (go_simp;done) | (go_simp;with_reducible rfl)
 (try simp only [Act.put,Yd,Ye,Yf])
 refine Zv (i:=4) (oi:=?oi4) (v:=?v4) ?h1x4 (by kernel_rfl) ?h3x4 (by kernel_rfl) ?h5x4 (Or.inl ⟨?h6x4,?h7x4⟩) hHeld ?h8x4
 case h1x4=>
  simp only [Ya,Yb,Yc];rfl
 case h3x4=>kernel_rfl
 case h5x4=>exact fun _ _ _ h=>h
 case h6x4=>rfl
 case h7x4=>
  intro W Bh
  (try dsimp only at Bh)
  go_split_ands
  first | (go_simp;done) | (go_simp;with_reducible rfl)
 (try simp only [Act.put,Yd,Ye,Yf])
 refine Zv (i:=5) (oi:=?oi5) (v:=?v5) ?h1x5 (by kernel_rfl) ?h3x5 (by kernel_rfl) ?h5x5 (Or.inl ⟨?h6x5,?h7x5⟩) hHeld ?h8x5
 case h1x5=>
  simp only [Ya,Yb,Yc];rfl
 case h3x5=>kernel_rfl
 case h5x5=>exact fun _ _ _ h=>h
 case h6x5=>rfl
 case h7x5=>
  intro W Bh
  (try dsimp only at Bh)
  go_split_ands
  first | (go_simp;done) | (go_simp;with_reducible rfl)
 (try simp only [Act.put,Yd,Ye,Yf])
 refine Zv (i:=6) (oi:=?oi6) (v:=?v6) ?h1x6 (by kernel_rfl) ?h3x6 (by kernel_rfl) ?h5x6 (Or.inl ⟨?h6x6,?h7x6⟩) hHeld ?h8x6
 case h1x6=>
  simp only [Ya,Yb,Yc];rfl
 case h3x6=>kernel_rfl
 case h5x6=>exact fun _ _ _ h=>h
 case h6x6=>rfl
 case h7x6=>
  intro W Bh
  (try dsimp only at Bh)
  go_split_ands
  first | (go_simp;done) | (go_simp;with_reducible rfl)
 (try simp only [Act.put,Yd,Ye,Yf])
 refine Xe (rs:=[3,7]) (by kernel_rfl) (by simp) ?_;refine Zj (by rfl) (fun K hK=>?_) ?_
 . go_simp
   (go_at_call 119;refine(Bv.o 2 _).mono ?_;rintro e Wg ⟨rfl,hq⟩;have Ab:=Hd (show Below w0.heap.size w0 Wg from by first | exact(aY (Yg w0.heap.size w0) 1).trans (hq.mono (Yh _)) | exact(((Yg w0.heap.size w0).alloc (Yh _) (.cells #[.int .i64 x0,.int .i64 x1,.int .i64 x2] 38)).drew).trans (hq.mono (by simp)));have Bw:=Hd hq;have Ap:=(Ab.o.cell (p:=⟨sb,so,none⟩) Aa.o).trans a0;have Aw:=(Ab.o.cell (p:=⟨sb,so+1,none⟩) Aa.o).trans a1;have Au:=(Ab.o.cell (p:=⟨sb,so+2,none⟩) Aa.o).trans a2;have Ax:=(Ab.o.cell (p:=⟨sb,so+3,none⟩) Aa.o).trans b0;have Bc:=(Ab.o.cell (p:=⟨sb,so+3+1,none⟩) Aa.o).trans b1;have Bb:=(Ab.o.cell (p:=⟨sb,so+3+2,none⟩) Aa.o).trans b2;have Az:=(Ab.o.cell (p:=⟨sb,so+2*3,none⟩) Aa.o).trans c0;have Bd:=(Ab.o.cell (p:=⟨sb,so+2*3+1,none⟩) Aa.o).trans c1;have Ar:=(Ab.o.cell (p:=⟨sb,so+2*3+2,none⟩) Aa.o).trans c2;clear hq)
   go_wp2_with fail
   refine hK.out _ _ ?_ (fun hHeld=>?_)
   . (first | with_reducible exact⟨a0,a1,a2,b0,b1,b2,c0,c1,c2⟩ | with_reducible exact⟨(aI _ _).trans a0,(aI _ _).trans a1,(aI _ _).trans a2,(aI _ _).trans b0,(aI _ _).trans b1,(aI _ _).trans b2,(aI _ _).trans c0,(aI _ _).trans c1,(aI _ _).trans c2⟩ | with_reducible exact⟨(aH _ _ _ Aa.o).trans a0,(aH _ _ _ Aa.o).trans a1,(aH _ _ _ Aa.o).trans a2,(aH _ _ _ Aa.o).trans b0,(aH _ _ _ Aa.o).trans b1,(aH _ _ _ Aa.o).trans b2,(aH _ _ _ Aa.o).trans c0,(aH _ _ _ Aa.o).trans c1,(aH _ _ _ Aa.o).trans c2⟩ | with_reducible exact⟨(Yj _ _ _ Aa.o).trans a0,(Yj _ _ _ Aa.o).trans a1,(Yj _ _ _ Aa.o).trans a2,(Yj _ _ _ Aa.o).trans b0,(Yj _ _ _ Aa.o).trans b1,(Yj _ _ _ Aa.o).trans b2,(Yj _ _ _ Aa.o).trans c0,(Yj _ _ _ Aa.o).trans c1,(Yj _ _ _ Aa.o).trans c2⟩ | with_reducible exact⟨Ap,Aw,Au,Ax,Bc,Bb,Az,Bd,Ar⟩ | with_reducible exact⟨(Yj _ _ _ (Yr Aa.o Ab.o.size)).trans Ap,(Yj _ _ _ (Yr Aa.o Ab.o.size)).trans Aw,(Yj _ _ _ (Yr Aa.o Ab.o.size)).trans Au,(Yj _ _ _ (Yr Aa.o Ab.o.size)).trans Ax,(Yj _ _ _ (Yr Aa.o Ab.o.size)).trans Bc,(Yj _ _ _ (Yr Aa.o Ab.o.size)).trans Bb,(Yj _ _ _ (Yr Aa.o Ab.o.size)).trans Az,(Yj _ _ _ (Yr Aa.o Ab.o.size)).trans Bd,(Yj _ _ _ (Yr Aa.o Ab.o.size)).trans Ar⟩ | with_reducible exact⟨As,Aq,Be,Bg,Ba,Ay,Av,Bf,Ao⟩ | with_reducible exact⟨(Yj _ _ _ (Yr Aa.o Ad.o.size)).trans As,(Yj _ _ _ (Yr Aa.o Ad.o.size)).trans Aq,(Yj _ _ _ (Yr Aa.o Ad.o.size)).trans Be,(Yj _ _ _ (Yr Aa.o Ad.o.size)).trans Bg,(Yj _ _ _ (Yr Aa.o Ad.o.size)).trans Ba,(Yj _ _ _ (Yr Aa.o Ad.o.size)).trans Ay,(Yj _ _ _ (Yr Aa.o Ad.o.size)).trans Av,(Yj _ _ _ (Yr Aa.o Ad.o.size)).trans Bf,(Yj _ _ _ (Yr Aa.o Ad.o.size)).trans Ao⟩ | with_reducible exact⟨Ah,Ai,Af,An,Am,Ak,Al,Ag,Aj⟩ | with_reducible exact⟨(Yj _ _ _ (Yr Aa.o Ac.o.size)).trans Ah,(Yj _ _ _ (Yr Aa.o Ac.o.size)).trans Ai,(Yj _ _ _ (Yr Aa.o Ac.o.size)).trans Af,(Yj _ _ _ (Yr Aa.o Ac.o.size)).trans An,(Yj _ _ _ (Yr Aa.o Ac.o.size)).trans Am,(Yj _ _ _ (Yr Aa.o Ac.o.size)).trans Ak,(Yj _ _ _ (Yr Aa.o Ac.o.size)).trans Al,(Yj _ _ _ (Yr Aa.o Ac.o.size)).trans Ag,(Yj _ _ _ (Yr Aa.o Ac.o.size)).trans Aj⟩ | with_reducible exact⟨(aG Ae).trans Ah,(aG Ae).trans Ai,(aG Ae).trans Af,(aG Ae).trans An,(aG Ae).trans Am,(aG Ae).trans Ak,(aG Ae).trans Al,(aG Ae).trans Ag,(aG Ae).trans Aj⟩)
   clear hK K
   (try simp only [Act.put,Yd,Ye,Yf])
   refine Xe (rs:=[7]) (by kernel_rfl) (by simp) ?_;refine Zj (by rfl) (fun K hK=>?_) ?_
   . go_simp
     refine hK.out _ _ ?_ (fun hHeld=>?_)
     . (first | with_reducible exact⟨a0,a1,a2,b0,b1,b2,c0,c1,c2⟩ | with_reducible exact⟨(aI _ _).trans a0,(aI _ _).trans a1,(aI _ _).trans a2,(aI _ _).trans b0,(aI _ _).trans b1,(aI _ _).trans b2,(aI _ _).trans c0,(aI _ _).trans c1,(aI _ _).trans c2⟩ | with_reducible exact⟨(aH _ _ _ Aa.o).trans a0,(aH _ _ _ Aa.o).trans a1,(aH _ _ _ Aa.o).trans a2,(aH _ _ _ Aa.o).trans b0,(aH _ _ _ Aa.o).trans b1,(aH _ _ _ Aa.o).trans b2,(aH _ _ _ Aa.o).trans c0,(aH _ _ _ Aa.o).trans c1,(aH _ _ _ Aa.o).trans c2⟩ | with_reducible exact⟨(Yj _ _ _ Aa.o).trans a0,(Yj _ _ _ Aa.o).trans a1,(Yj _ _ _ Aa.o).trans a2,(Yj _ _ _ Aa.o).trans b0,(Yj _ _ _ Aa.o).trans b1,(Yj _ _ _ Aa.o).trans b2,(Yj _ _ _ Aa.o).trans c0,(Yj _ _ _ Aa.o).trans c1,(Yj _ _ _ Aa.o).trans c2⟩ | with_reducible exact⟨Ap,Aw,Au,Ax,Bc,Bb,Az,Bd,Ar⟩ | with_reducible exact⟨(Yj _ _ _ (Yr Aa.o Ab.o.size)).trans Ap,(Yj _ _ _ (Yr Aa.o Ab.o.size)).trans Aw,(Yj _ _ _ (Yr Aa.o Ab.o.size)).trans Au,(Yj _ _ _ (Yr Aa.o Ab.o.size)).trans Ax,(Yj _ _ _ (Yr Aa.o Ab.o.size)).trans Bc,(Yj _ _ _ (Yr Aa.o Ab.o.size)).trans Bb,(Yj _ _ _ (Yr Aa.o Ab.o.size)).trans Az,(Yj _ _ _ (Yr Aa.o Ab.o.size)).trans Bd,(Yj _ _ _ (Yr Aa.o Ab.o.size)).trans Ar⟩ | with_reducible exact⟨As,Aq,Be,Bg,Ba,Ay,Av,Bf,Ao⟩ | with_reducible exact⟨(Yj _ _ _ (Yr Aa.o Ad.o.size)).trans As,(Yj _ _ _ (Yr Aa.o Ad.o.size)).trans Aq,(Yj _ _ _ (Yr Aa.o Ad.o.size)).trans Be,(Yj _ _ _ (Yr Aa.o Ad.o.size)).trans Bg,(Yj _ _ _ (Yr Aa.o Ad.o.size)).trans Ba,(Yj _ _ _ (Yr Aa.o Ad.o.size)).trans Ay,(Yj _ _ _ (Yr Aa.o Ad.o.size)).trans Av,(Yj _ _ _ (Yr Aa.o Ad.o.size)).trans Bf,(Yj _ _ _ (Yr Aa.o Ad.o.size)).trans Ao⟩ | with_reducible exact⟨Ah,Ai,Af,An,Am,Ak,Al,Ag,Aj⟩ | with_reducible exact⟨(Yj _ _ _ (Yr Aa.o Ac.o.size)).trans Ah,(Yj _ _ _ (Yr Aa.o Ac.o.size)).trans Ai,(Yj _ _ _ (Yr Aa.o Ac.o.size)).trans Af,(Yj _ _ _ (Yr Aa.o Ac.o.size)).trans An,(Yj _ _ _ (Yr Aa.o Ac.o.size)).trans Am,(Yj _ _ _ (Yr Aa.o Ac.o.size)).trans Ak,(Yj _ _ _ (Yr Aa.o Ac.o.size)).trans Al,(Yj _ _ _ (Yr Aa.o Ac.o.size)).trans Ag,(Yj _ _ _ (Yr Aa.o Ac.o.size)).trans Aj⟩ | with_reducible exact⟨(aG Ae).trans Ah,(aG Ae).trans Ai,(aG Ae).trans Af,(aG Ae).trans An,(aG Ae).trans Am,(aG Ae).trans Ak,(aG Ae).trans Al,(aG Ae).trans Ag,(aG Ae).trans Aj⟩)
     clear hK K
     (try simp only [Act.put,Yd,Ye,Yf])
     refine Xe (rs:=[8]) (by kernel_rfl) (by simp) ?_;refine Zj (by rfl) (fun K hK=>?_) ?_
     . go_simp
       (go_at_call 87;(with_reducible refine(Bj.o _ _ ?hx).mono ?_);(case hx=>(first | exact aM.lit Wg x0 x1 x2 38 | exact((aM.lit w0 x0 x1 x2 38).drew).below Bw.o));rintro e Wl ⟨rfl,hq⟩;have Ad:=Hd (show Below w0.heap.size w0 Wl from by first | exact(Ab.o.alloc Ab.o.size (.cells #[.int .i64 x0,.int .i64 x1,.int .i64 x2] 38)).trans (hq.mono (by have:=Ab.o.size;simp;omega)) | exact Ab.o.trans (hq.mono Ab.o.size));have Cc:=Hd hq;have As:=(Ad.o.cell (p:=⟨sb,so,none⟩) Aa.o).trans a0;have Aq:=(Ad.o.cell (p:=⟨sb,so+1,none⟩) Aa.o).trans a1;have Be:=(Ad.o.cell (p:=⟨sb,so+2,none⟩) Aa.o).trans a2;have Bg:=(Ad.o.cell (p:=⟨sb,so+3,none⟩) Aa.o).trans b0;have Ba:=(Ad.o.cell (p:=⟨sb,so+3+1,none⟩) Aa.o).trans b1;have Ay:=(Ad.o.cell (p:=⟨sb,so+3+2,none⟩) Aa.o).trans b2;have Av:=(Ad.o.cell (p:=⟨sb,so+2*3,none⟩) Aa.o).trans c0;have Bf:=(Ad.o.cell (p:=⟨sb,so+2*3+1,none⟩) Aa.o).trans c1;have Ao:=(Ad.o.cell (p:=⟨sb,so+2*3+2,none⟩) Aa.o).trans c2;clear hq)
       go_wp2_with fail
       refine hK.out _ _ ?_ (fun hHeld=>?_)
       . (first | with_reducible exact⟨a0,a1,a2,b0,b1,b2,c0,c1,c2⟩ | with_reducible exact⟨(aI _ _).trans a0,(aI _ _).trans a1,(aI _ _).trans a2,(aI _ _).trans b0,(aI _ _).trans b1,(aI _ _).trans b2,(aI _ _).trans c0,(aI _ _).trans c1,(aI _ _).trans c2⟩ | with_reducible exact⟨(aH _ _ _ Aa.o).trans a0,(aH _ _ _ Aa.o).trans a1,(aH _ _ _ Aa.o).trans a2,(aH _ _ _ Aa.o).trans b0,(aH _ _ _ Aa.o).trans b1,(aH _ _ _ Aa.o).trans b2,(aH _ _ _ Aa.o).trans c0,(aH _ _ _ Aa.o).trans c1,(aH _ _ _ Aa.o).trans c2⟩ | with_reducible exact⟨(Yj _ _ _ Aa.o).trans a0,(Yj _ _ _ Aa.o).trans a1,(Yj _ _ _ Aa.o).trans a2,(Yj _ _ _ Aa.o).trans b0,(Yj _ _ _ Aa.o).trans b1,(Yj _ _ _ Aa.o).trans b2,(Yj _ _ _ Aa.o).trans c0,(Yj _ _ _ Aa.o).trans c1,(Yj _ _ _ Aa.o).trans c2⟩ | with_reducible exact⟨Ap,Aw,Au,Ax,Bc,Bb,Az,Bd,Ar⟩ | with_reducible exact⟨(Yj _ _ _ (Yr Aa.o Ab.o.size)).trans Ap,(Yj _ _ _ (Yr Aa.o Ab.o.size)).trans Aw,(Yj _ _ _ (Yr Aa.o Ab.o.size)).trans Au,(Yj _ _ _ (Yr Aa.o Ab.o.size)).trans Ax,(Yj _ _ _ (Yr Aa.o Ab.o.size)).trans Bc,(Yj _ _ _ (Yr Aa.o Ab.o.size)).trans Bb,(Yj _ _ _ (Yr Aa.o Ab.o.size)).trans Az,(Yj _ _ _ (Yr Aa.o Ab.o.size)).trans Bd,(Yj _ _ _ (Yr Aa.o Ab.o.size)).trans Ar⟩ | with_reducible exact⟨As,Aq,Be,Bg,Ba,Ay,Av,Bf,Ao⟩ | with_reducible exact⟨(Yj _ _ _ (Yr Aa.o Ad.o.size)).trans As,(Yj _ _ _ (Yr Aa.o Ad.o.size)).trans Aq,(Yj _ _ _ (Yr Aa.o Ad.o.size)).trans Be,(Yj _ _ _ (Yr Aa.o Ad.o.size)).trans Bg,(Yj _ _ _ (Yr Aa.o Ad.o.size)).trans Ba,(Yj _ _ _ (Yr Aa.o Ad.o.size)).trans Ay,(Yj _ _ _ (Yr Aa.o Ad.o.size)).trans Av,(Yj _ _ _ (Yr Aa.o Ad.o.size)).trans Bf,(Yj _ _ _ (Yr Aa.o Ad.o.size)).trans Ao⟩ | with_reducible exact⟨Ah,Ai,Af,An,Am,Ak,Al,Ag,Aj⟩ | with_reducible exact⟨(Yj _ _ _ (Yr Aa.o Ac.o.size)).trans Ah,(Yj _ _ _ (Yr Aa.o Ac.o.size)).trans Ai,(Yj _ _ _ (Yr Aa.o Ac.o.size)).trans Af,(Yj _ _ _ (Yr Aa.o Ac.o.size)).trans An,(Yj _ _ _ (Yr Aa.o Ac.o.size)).trans Am,(Yj _ _ _ (Yr Aa.o Ac.o.size)).trans Ak,(Yj _ _ _ (Yr Aa.o Ac.o.size)).trans Al,(Yj _ _ _ (Yr Aa.o Ac.o.size)).trans Ag,(Yj _ _ _ (Yr Aa.o Ac.o.size)).trans Aj⟩ | with_reducible exact⟨(aG Ae).trans Ah,(aG Ae).trans Ai,(aG Ae).trans Af,(aG Ae).trans An,(aG Ae).trans Am,(aG Ae).trans Ak,(aG Ae).trans Al,(aG Ae).trans Ag,(aG Ae).trans Aj⟩)
       clear hK K
       (try simp only [Act.put,Yd,Ye,Yf])
       refine Zv (i:=9) (oi:=?oi7) (v:=?v7) ?h1x7 (by kernel_rfl) ?h3x7 (by kernel_rfl) ?h5x7 (Or.inl ⟨?h6x7,?h7x7⟩) hHeld ?h8x7
       case h1x7=>
        simp only [Ya,Yb,Yc];rfl
       case h3x7=>kernel_rfl
       case h5x7=>exact fun _ _ _ h=>h
       case h6x7=>rfl
       case h7x7=>
        intro W Bh
        (try dsimp only at Bh)
        go_split_ands
        first | (go_simp;done) | (go_simp;with_reducible rfl)
       (try simp only [Act.put,Yd,Ye,Yf])
       refine Zv (i:=10) (oi:=?oi8) (v:=undef) ?h1x8 (by kernel_rfl) ?h3x8 (by kernel_rfl) ?h5x8 (Or.inr ⟨?h6x8,rfl⟩) hHeld ?h8x8
       case h1x8=>
        simp only [Ya,Yb,Yc];rfl
       case h3x8=>kernel_rfl
       case h5x8=>exact fun _ _ _ h=>h
       case h6x8=>rfl
       (try simp only [Act.put,Yd,Ye,Yf])
       refine Zv (i:=11) (oi:=?oi9) (v:=undef) ?h1x9 (by kernel_rfl) ?h3x9 (by kernel_rfl) ?h5x9 (Or.inr ⟨?h6x9,rfl⟩) hHeld ?h8x9
       case h1x9=>
        simp only [Ya,Yb,Yc];rfl
       case h3x9=>kernel_rfl
       case h5x9=>exact fun _ _ _ h=>h
       case h6x9=>rfl
       (try simp only [Act.put,Yd,Ye,Yf])
       refine Zv (i:=12) (oi:=?oi10) (v:=undef) ?h1x10 (by kernel_rfl) ?h3x10 (by kernel_rfl) ?h5x10 (Or.inr ⟨?h6x10,rfl⟩) hHeld ?h8x10
       case h1x10=>
        simp only [Ya,Yb,Yc];rfl
       case h3x10=>kernel_rfl
       case h5x10=>exact fun _ _ _ h=>h
       case h6x10=>rfl
       (try simp only [Act.put,Yd,Ye,Yf])
       refine Zv (i:=13) (oi:=?oi11) (v:=undef) ?h1x11 (by kernel_rfl) ?h3x11 (by kernel_rfl) ?h5x11 (Or.inr ⟨?h6x11,rfl⟩) hHeld ?h8x11
       case h1x11=>
        simp only [Ya,Yb,Yc];rfl
       case h3x11=>kernel_rfl
       case h5x11=>exact fun _ _ _ h=>h
       case h6x11=>rfl
       (try simp only [Act.put,Yd,Ye,Yf])
       refine Zv (i:=14) (oi:=?oi12) (v:=undef) ?h1x12 (by kernel_rfl) ?h3x12 (by kernel_rfl) ?h5x12 (Or.inr ⟨?h6x12,rfl⟩) hHeld ?h8x12
       case h1x12=>
        simp only [Ya,Yb,Yc];rfl
       case h3x12=>kernel_rfl
       case h5x12=>exact fun _ _ _ h=>h
       case h6x12=>rfl
       (try simp only [Act.put,Yd,Ye,Yf])
       refine Zv (i:=15) (oi:=?oi13) (v:=undef) ?h1x13 (by kernel_rfl) ?h3x13 (by kernel_rfl) ?h5x13 (Or.inr ⟨?h6x13,rfl⟩) hHeld ?h8x13
       case h1x13=>
        simp only [Ya,Yb,Yc];rfl
       case h3x13=>kernel_rfl
       case h5x13=>exact fun _ _ _ h=>h
       case h6x13=>rfl
       (try simp only [Act.put,Yd,Ye,Yf])
       refine Zv (i:=16) (oi:=?oi14) (v:=undef) ?h1x14 (by kernel_rfl) ?h3x14 (by kernel_rfl) ?h5x14 (Or.inr ⟨?h6x14,rfl⟩) hHeld ?h8x14
       case h1x14=>
        simp only [Ya,Yb,Yc];rfl
       case h3x14=>kernel_rfl
       case h5x14=>exact fun _ _ _ h=>h
       case h6x14=>rfl
       (try simp only [Act.put,Yd,Ye,Yf])
       refine Zv (i:=17) (oi:=?oi15) (v:=undef) ?h1x15 (by kernel_rfl) ?h3x15 (by kernel_rfl) ?h5x15 (Or.inr ⟨?h6x15,rfl⟩) hHeld ?h8x15
       case h1x15=>
        simp only [Ya,Yb,Yc];rfl
       case h3x15=>kernel_rfl
       case h5x15=>exact fun _ _ _ h=>h
       case h6x15=>rfl
       (try simp only [Act.put,Yd,Ye,Yf])
       refine Zv (i:=18) (oi:=?oi16) (v:=?v16) ?h1x16 (by kernel_rfl) ?h3x16 (by kernel_rfl) ?h5x16 (Or.inl ⟨?h6x16,?h7x16⟩) hHeld ?h8x16
       case h1x16=>
        simp only [Ya,Yb,Yc];rfl
       case h3x16=>kernel_rfl
       case h5x16=>exact fun _ _ _ h=>h
       case h6x16=>rfl
       case h7x16=>
        intro W Bh
        (try dsimp only at Bh)
        go_split_ands
        first | (go_simp;done) | (go_simp;with_reducible rfl)
       (try simp only [Act.put,Yd,Ye,Yf])
       refine Xe (rs:=[19]) (by kernel_rfl) (by simp) ?_;refine Zj (by rfl) (fun K hK=>?_) ?_
       . go_simp
         (go_at_call 118;refine(Bp.o _).mono ?_;rintro e Wn ⟨rfl,hq⟩;have Ac:=Hd (show Below w0.heap.size w0 Wn from by first | exact Ad.o.trans (hq.mono Ad.o.size));have Cb:=Hd hq;have Ah:=(Ac.o.cell (p:=⟨sb,so,none⟩) Aa.o).trans a0;have Ai:=(Ac.o.cell (p:=⟨sb,so+1,none⟩) Aa.o).trans a1;have Af:=(Ac.o.cell (p:=⟨sb,so+2,none⟩) Aa.o).trans a2;have An:=(Ac.o.cell (p:=⟨sb,so+3,none⟩) Aa.o).trans b0;have Am:=(Ac.o.cell (p:=⟨sb,so+3+1,none⟩) Aa.o).trans b1;have Ak:=(Ac.o.cell (p:=⟨sb,so+3+2,none⟩) Aa.o).trans b2;have Al:=(Ac.o.cell (p:=⟨sb,so+2*3,none⟩) Aa.o).trans c0;have Ag:=(Ac.o.cell (p:=⟨sb,so+2*3+1,none⟩) Aa.o).trans c1;have Aj:=(Ac.o.cell (p:=⟨sb,so+2*3+2,none⟩) Aa.o).trans c2;have Bi:=Hd (HR.o.below Ac.o);have s0:=Bi.o.cell 0;have s1:=Bi.o.cell 1;have s2:=Bi.o.cell 2;have fz:∀ j,Wn.frozen? ⟨w.heap.size+1+1,j,none⟩=false:=(fun j=>frozen_of_row Wn _ j _ _ Bi.o);simp only [aC,List.getElem?_toArray,Yz,Zb] at s0 s1 s2;clear hq)
         go_wp2_with fail
         refine hK.out _ _ ?_ (fun hHeld=>?_)
         . (first | with_reducible exact⟨a0,a1,a2,b0,b1,b2,c0,c1,c2⟩ | with_reducible exact⟨(aI _ _).trans a0,(aI _ _).trans a1,(aI _ _).trans a2,(aI _ _).trans b0,(aI _ _).trans b1,(aI _ _).trans b2,(aI _ _).trans c0,(aI _ _).trans c1,(aI _ _).trans c2⟩ | with_reducible exact⟨(aH _ _ _ Aa.o).trans a0,(aH _ _ _ Aa.o).trans a1,(aH _ _ _ Aa.o).trans a2,(aH _ _ _ Aa.o).trans b0,(aH _ _ _ Aa.o).trans b1,(aH _ _ _ Aa.o).trans b2,(aH _ _ _ Aa.o).trans c0,(aH _ _ _ Aa.o).trans c1,(aH _ _ _ Aa.o).trans c2⟩ | with_reducible exact⟨(Yj _ _ _ Aa.o).trans a0,(Yj _ _ _ Aa.o).trans a1,(Yj _ _ _ Aa.o).trans a2,(Yj _ _ _ Aa.o).trans b0,(Yj _ _ _ Aa.o).trans b1,(Yj _ _ _ Aa.o).trans b2,(Yj _ _ _ Aa.o).trans c0,(Yj _ _ _ Aa.o).trans c1,(Yj _ _ _ Aa.o).trans c2⟩ | with_reducible exact⟨Ap,Aw,Au,Ax,Bc,Bb,Az,Bd,Ar⟩ | with_reducible exact⟨(Yj _ _ _ (Yr Aa.o Ab.o.size)).trans Ap,(Yj _ _ _ (Yr Aa.o Ab.o.size)).trans Aw,(Yj _ _ _ (Yr Aa.o Ab.o.size)).trans Au,(Yj _ _ _ (Yr Aa.o Ab.o.size)).trans Ax,(Yj _ _ _ (Yr Aa.o Ab.o.size)).trans Bc,(Yj _ _ _ (Yr Aa.o Ab.o.size)).trans Bb,(Yj _ _ _ (Yr Aa.o Ab.o.size)).trans Az,(Yj _ _ _ (Yr Aa.o Ab.o.size)).trans Bd,(Yj _ _ _ (Yr Aa.o Ab.o.size)).trans Ar⟩ | with_reducible exact⟨As,Aq,Be,Bg,Ba,Ay,Av,Bf,Ao⟩ | with_reducible exact⟨(Yj _ _ _ (Yr Aa.o Ad.o.size)).trans As,(Yj _ _ _ (Yr Aa.o Ad.o.size)).trans Aq,(Yj _ _ _ (Yr Aa.o Ad.o.size)).trans Be,(Yj _ _ _ (Yr Aa.o Ad.o.size)).trans Bg,(Yj _ _ _ (Yr Aa.o Ad.o.size)).trans Ba,(Yj _ _ _ (Yr Aa.o Ad.o.size)).trans Ay,(Yj _ _ _ (Yr Aa.o Ad.o.size)).trans Av,(Yj _ _ _ (Yr Aa.o Ad.o.size)).trans Bf,(Yj _ _ _ (Yr Aa.o Ad.o.size)).trans Ao⟩ | with_reducible exact⟨Ah,Ai,Af,An,Am,Ak,Al,Ag,Aj⟩ | with_reducible exact⟨(Yj _ _ _ (Yr Aa.o Ac.o.size)).trans Ah,(Yj _ _ _ (Yr Aa.o Ac.o.size)).trans Ai,(Yj _ _ _ (Yr Aa.o Ac.o.size)).trans Af,(Yj _ _ _ (Yr Aa.o Ac.o.size)).trans An,(Yj _ _ _ (Yr Aa.o Ac.o.size)).trans Am,(Yj _ _ _ (Yr Aa.o Ac.o.size)).trans Ak,(Yj _ _ _ (Yr Aa.o Ac.o.size)).trans Al,(Yj _ _ _ (Yr Aa.o Ac.o.size)).trans Ag,(Yj _ _ _ (Yr Aa.o Ac.o.size)).trans Aj⟩ | with_reducible exact⟨(aG Ae).trans Ah,(aG Ae).trans Ai,(aG Ae).trans Af,(aG Ae).trans An,(aG Ae).trans Am,(aG Ae).trans Ak,(aG Ae).trans Al,(aG Ae).trans Ag,(aG Ae).trans Aj⟩)
         clear hK K
         (try simp only [Act.put,Yd,Ye,Yf])
         refine Zv (i:=20) (oi:=?oi17) (v:=?v17) ?h1x17 (by kernel_rfl) ?h3x17 (by kernel_rfl) ?h5x17 (Or.inl ⟨?h6x17,?h7x17⟩) hHeld ?h8x17
         case h1x17=>
          simp only [Ya,Yb,Yc];rfl
         case h3x17=>kernel_rfl
         case h5x17=>exact fun _ _ _ h=>h
         case h6x17=>rfl
         case h7x17=>
          intro W Bh
          (try dsimp only at Bh)
          go_split_ands
          first | (go_simp;done) | (go_simp;with_reducible rfl)
         (try simp only [Act.put,Yd,Ye,Yf])
         refine Zv (i:=21) (oi:=?oi18) (v:=?v18) ?h1x18 (by kernel_rfl) ?h3x18 (by kernel_rfl) ?h5x18 (Or.inl ⟨?h6x18,?h7x18⟩) hHeld ?h8x18
         case h1x18=>
          simp only [Ya,Yb,Yc];rfl
         case h3x18=>kernel_rfl
         case h5x18=>exact fun _ _ _ h=>h
         case h6x18=>rfl
         case h7x18=>
          intro W Bh
          (try dsimp only at Bh)
          go_split_ands
          first | (go_simp;done) | (go_simp;with_reducible rfl)
         (try simp only [Act.put,Yd,Ye,Yf])
         refine Xe (rs:=[22]) (by kernel_rfl) (by simp) ?_;refine Zj (by rfl) (fun K hK=>?_) ?_
         . go_simp
           refine hK.out _ _ ?_ (fun hHeld=>?_)
           . (first | with_reducible exact⟨a0,a1,a2,b0,b1,b2,c0,c1,c2⟩ | with_reducible exact⟨(aI _ _).trans a0,(aI _ _).trans a1,(aI _ _).trans a2,(aI _ _).trans b0,(aI _ _).trans b1,(aI _ _).trans b2,(aI _ _).trans c0,(aI _ _).trans c1,(aI _ _).trans c2⟩ | with_reducible exact⟨(aH _ _ _ Aa.o).trans a0,(aH _ _ _ Aa.o).trans a1,(aH _ _ _ Aa.o).trans a2,(aH _ _ _ Aa.o).trans b0,(aH _ _ _ Aa.o).trans b1,(aH _ _ _ Aa.o).trans b2,(aH _ _ _ Aa.o).trans c0,(aH _ _ _ Aa.o).trans c1,(aH _ _ _ Aa.o).trans c2⟩ | with_reducible exact⟨(Yj _ _ _ Aa.o).trans a0,(Yj _ _ _ Aa.o).trans a1,(Yj _ _ _ Aa.o).trans a2,(Yj _ _ _ Aa.o).trans b0,(Yj _ _ _ Aa.o).trans b1,(Yj _ _ _ Aa.o).trans b2,(Yj _ _ _ Aa.o).trans c0,(Yj _ _ _ Aa.o).trans c1,(Yj _ _ _ Aa.o).trans c2⟩ | with_reducible exact⟨Ap,Aw,Au,Ax,Bc,Bb,Az,Bd,Ar⟩ | with_reducible exact⟨(Yj _ _ _ (Yr Aa.o Ab.o.size)).trans Ap,(Yj _ _ _ (Yr Aa.o Ab.o.size)).trans Aw,(Yj _ _ _ (Yr Aa.o Ab.o.size)).trans Au,(Yj _ _ _ (Yr Aa.o Ab.o.size)).trans Ax,(Yj _ _ _ (Yr Aa.o Ab.o.size)).trans Bc,(Yj _ _ _ (Yr Aa.o Ab.o.size)).trans Bb,(Yj _ _ _ (Yr Aa.o Ab.o.size)).trans Az,(Yj _ _ _ (Yr Aa.o Ab.o.size)).trans Bd,(Yj _ _ _ (Yr Aa.o Ab.o.size)).trans Ar⟩ | with_reducible exact⟨As,Aq,Be,Bg,Ba,Ay,Av,Bf,Ao⟩ | with_reducible exact⟨(Yj _ _ _ (Yr Aa.o Ad.o.size)).trans As,(Yj _ _ _ (Yr Aa.o Ad.o.size)).trans Aq,(Yj _ _ _ (Yr Aa.o Ad.o.size)).trans Be,(Yj _ _ _ (Yr Aa.o Ad.o.size)).trans Bg,(Yj _ _ _ (Yr Aa.o Ad.o.size)).trans Ba,(Yj _ _ _ (Yr Aa.o Ad.o.size)).trans Ay,(Yj _ _ _ (Yr Aa.o Ad.o.size)).trans Av,(Yj _ _ _ (Yr Aa.o Ad.o.size)).trans Bf,(Yj _ _ _ (Yr Aa.o Ad.o.size)).trans Ao⟩ | with_reducible exact⟨Ah,Ai,Af,An,Am,Ak,Al,Ag,Aj⟩ | with_reducible exact⟨(Yj _ _ _ (Yr Aa.o Ac.o.size)).trans Ah,(Yj _ _ _ (Yr Aa.o Ac.o.size)).trans Ai,(Yj _ _ _ (Yr Aa.o Ac.o.size)).trans Af,(Yj _ _ _ (Yr Aa.o Ac.o.size)).trans An,(Yj _ _ _ (Yr Aa.o Ac.o.size)).trans Am,(Yj _ _ _ (Yr Aa.o Ac.o.size)).trans Ak,(Yj _ _ _ (Yr Aa.o Ac.o.size)).trans Al,(Yj _ _ _ (Yr Aa.o Ac.o.size)).trans Ag,(Yj _ _ _ (Yr Aa.o Ac.o.size)).trans Aj⟩ | with_reducible exact⟨(aG Ae).trans Ah,(aG Ae).trans Ai,(aG Ae).trans Af,(aG Ae).trans An,(aG Ae).trans Am,(aG Ae).trans Ak,(aG Ae).trans Al,(aG Ae).trans Ag,(aG Ae).trans Aj⟩)
           clear hK K
           (try simp only [Act.put,Yd,Ye,Yf])
           refine Zv (i:=23) (oi:=?oi19) (v:=?v19) ?h1x19 (by kernel_rfl) ?h3x19 (by kernel_rfl) ?h5x19 (Or.inl ⟨?h6x19,?h7x19⟩) hHeld ?h8x19
           case h1x19=>
            simp only [Ya,Yb,Yc];rfl
           case h3x19=>kernel_rfl
           case h5x19=>exact fun _ _ _ h=>h
           case h6x19=>rfl
           case h7x19=>
            intro W Bh
            (try dsimp only at Bh)
            go_split_ands
            first | (go_simp;done) | (go_simp;with_reducible rfl)
           (try simp only [Act.put,Yd,Ye,Yf])
           refine wpAnyH_done (by kernel_rfl) ?_ _;generalize Bm:World.setCell _ _ _=wz;rw [fX Bi.o] at Bm;have Bq:=Hd (show F3 38 wz (w.heap.size+1+1) 0 0 0 by rw [<- Bm];exact Bi.o.set _ _ _);have Bt:=Hd (show Below w.heap.size w wz by rw [<- Bm];exact Xb (aR Br.o Ac.o) (by omega) _);clear Bm
           go_wp2_with fail
           exact Zt (aL (p:=6) (u:=7) rfl _ _ (w.heap.size+1+1) 0 0 0 rfl Bq.o) rfl (gE HO.o ⟨rfl,Bt.o⟩)
         exact Zk
       exact Zk
     exact Zk
   exact Zk
 refine Zj (by rfl) (fun K hK=>?_) ?_
 . go_simp
   refine hK.out _ _ ?_ (fun hHeld=>?_)
   . (first | with_reducible exact⟨a0,a1,a2,b0,b1,b2,c0,c1,c2⟩ | with_reducible exact⟨(aI _ _).trans a0,(aI _ _).trans a1,(aI _ _).trans a2,(aI _ _).trans b0,(aI _ _).trans b1,(aI _ _).trans b2,(aI _ _).trans c0,(aI _ _).trans c1,(aI _ _).trans c2⟩ | with_reducible exact⟨(aH _ _ _ Aa.o).trans a0,(aH _ _ _ Aa.o).trans a1,(aH _ _ _ Aa.o).trans a2,(aH _ _ _ Aa.o).trans b0,(aH _ _ _ Aa.o).trans b1,(aH _ _ _ Aa.o).trans b2,(aH _ _ _ Aa.o).trans c0,(aH _ _ _ Aa.o).trans c1,(aH _ _ _ Aa.o).trans c2⟩ | with_reducible exact⟨(Yj _ _ _ Aa.o).trans a0,(Yj _ _ _ Aa.o).trans a1,(Yj _ _ _ Aa.o).trans a2,(Yj _ _ _ Aa.o).trans b0,(Yj _ _ _ Aa.o).trans b1,(Yj _ _ _ Aa.o).trans b2,(Yj _ _ _ Aa.o).trans c0,(Yj _ _ _ Aa.o).trans c1,(Yj _ _ _ Aa.o).trans c2⟩ | with_reducible exact⟨Ap,Aw,Au,Ax,Bc,Bb,Az,Bd,Ar⟩ | with_reducible exact⟨(Yj _ _ _ (Yr Aa.o Ab.o.size)).trans Ap,(Yj _ _ _ (Yr Aa.o Ab.o.size)).trans Aw,(Yj _ _ _ (Yr Aa.o Ab.o.size)).trans Au,(Yj _ _ _ (Yr Aa.o Ab.o.size)).trans Ax,(Yj _ _ _ (Yr Aa.o Ab.o.size)).trans Bc,(Yj _ _ _ (Yr Aa.o Ab.o.size)).trans Bb,(Yj _ _ _ (Yr Aa.o Ab.o.size)).trans Az,(Yj _ _ _ (Yr Aa.o Ab.o.size)).trans Bd,(Yj _ _ _ (Yr Aa.o Ab.o.size)).trans Ar⟩ | with_reducible exact⟨As,Aq,Be,Bg,Ba,Ay,Av,Bf,Ao⟩ | with_reducible exact⟨(Yj _ _ _ (Yr Aa.o Ad.o.size)).trans As,(Yj _ _ _ (Yr Aa.o Ad.o.size)).trans Aq,(Yj _ _ _ (Yr Aa.o Ad.o.size)).trans Be,(Yj _ _ _ (Yr Aa.o Ad.o.size)).trans Bg,(Yj _ _ _ (Yr Aa.o Ad.o.size)).trans Ba,(Yj _ _ _ (Yr Aa.o Ad.o.size)).trans Ay,(Yj _ _ _ (Yr Aa.o Ad.o.size)).trans Av,(Yj _ _ _ (Yr Aa.o Ad.o.size)).trans Bf,(Yj _ _ _ (Yr Aa.o Ad.o.size)).trans Ao⟩ | with_reducible exact⟨Ah,Ai,Af,An,Am,Ak,Al,Ag,Aj⟩ | with_reducible exact⟨(Yj _ _ _ (Yr Aa.o Ac.o.size)).trans Ah,(Yj _ _ _ (Yr Aa.o Ac.o.size)).trans Ai,(Yj _ _ _ (Yr Aa.o Ac.o.size)).trans Af,(Yj _ _ _ (Yr Aa.o Ac.o.size)).trans An,(Yj _ _ _ (Yr Aa.o Ac.o.size)).trans Am,(Yj _ _ _ (Yr Aa.o Ac.o.size)).trans Ak,(Yj _ _ _ (Yr Aa.o Ac.o.size)).trans Al,(Yj _ _ _ (Yr Aa.o Ac.o.size)).trans Ag,(Yj _ _ _ (Yr Aa.o Ac.o.size)).trans Aj⟩ | with_reducible exact⟨(aG Ae).trans Ah,(aG Ae).trans Ai,(aG Ae).trans Af,(aG Ae).trans An,(aG Ae).trans Am,(aG Ae).trans Ak,(aG Ae).trans Al,(aG Ae).trans Ag,(aG Ae).trans Aj⟩)
   clear hK K
   (try simp only [Act.put,Yd,Ye,Yf])
   refine Xe (rs:=[3]) (by kernel_rfl) (by simp) ?_;refine Zj (by rfl) (fun K hK=>?_) ?_
   . go_simp
     (go_at_call 119;refine(Bv.o 2 _).mono ?_;rintro e Wg ⟨rfl,hq⟩;have Ab:=Hd (show Below w0.heap.size w0 Wg from by first | exact(aY (Yg w0.heap.size w0) 1).trans (hq.mono (Yh _)) | exact(((Yg w0.heap.size w0).alloc (Yh _) (.cells #[.int .i64 x0,.int .i64 x1,.int .i64 x2] 38)).drew).trans (hq.mono (by simp)));have Bw:=Hd hq;have Ap:=(Ab.o.cell (p:=⟨sb,so,none⟩) Aa.o).trans a0;have Aw:=(Ab.o.cell (p:=⟨sb,so+1,none⟩) Aa.o).trans a1;have Au:=(Ab.o.cell (p:=⟨sb,so+2,none⟩) Aa.o).trans a2;have Ax:=(Ab.o.cell (p:=⟨sb,so+3,none⟩) Aa.o).trans b0;have Bc:=(Ab.o.cell (p:=⟨sb,so+3+1,none⟩) Aa.o).trans b1;have Bb:=(Ab.o.cell (p:=⟨sb,so+3+2,none⟩) Aa.o).trans b2;have Az:=(Ab.o.cell (p:=⟨sb,so+2*3,none⟩) Aa.o).trans c0;have Bd:=(Ab.o.cell (p:=⟨sb,so+2*3+1,none⟩) Aa.o).trans c1;have Ar:=(Ab.o.cell (p:=⟨sb,so+2*3+2,none⟩) Aa.o).trans c2;clear hq)
     go_wp2_with fail
     refine hK.out _ _ ?_ (fun hHeld=>?_)
     . (first | with_reducible exact⟨a0,a1,a2,b0,b1,b2,c0,c1,c2⟩ | with_reducible exact⟨(aI _ _).trans a0,(aI _ _).trans a1,(aI _ _).trans a2,(aI _ _).trans b0,(aI _ _).trans b1,(aI _ _).trans b2,(aI _ _).trans c0,(aI _ _).trans c1,(aI _ _).trans c2⟩ | with_reducible exact⟨(aH _ _ _ Aa.o).trans a0,(aH _ _ _ Aa.o).trans a1,(aH _ _ _ Aa.o).trans a2,(aH _ _ _ Aa.o).trans b0,(aH _ _ _ Aa.o).trans b1,(aH _ _ _ Aa.o).trans b2,(aH _ _ _ Aa.o).trans c0,(aH _ _ _ Aa.o).trans c1,(aH _ _ _ Aa.o).trans c2⟩ | with_reducible exact⟨(Yj _ _ _ Aa.o).trans a0,(Yj _ _ _ Aa.o).trans a1,(Yj _ _ _ Aa.o).trans a2,(Yj _ _ _ Aa.o).trans b0,(Yj _ _ _ Aa.o).trans b1,(Yj _ _ _ Aa.o).trans b2,(Yj _ _ _ Aa.o).trans c0,(Yj _ _ _ Aa.o).trans c1,(Yj _ _ _ Aa.o).trans c2⟩ | with_reducible exact⟨Ap,Aw,Au,Ax,Bc,Bb,Az,Bd,Ar⟩ | with_reducible exact⟨(Yj _ _ _ (Yr Aa.o Ab.o.size)).trans Ap,(Yj _ _ _ (Yr Aa.o Ab.o.size)).trans Aw,(Yj _ _ _ (Yr Aa.o Ab.o.size)).trans Au,(Yj _ _ _ (Yr Aa.o Ab.o.size)).trans Ax,(Yj _ _ _ (Yr Aa.o Ab.o.size)).trans Bc,(Yj _ _ _ (Yr Aa.o Ab.o.size)).trans Bb,(Yj _ _ _ (Yr Aa.o Ab.o.size)).trans Az,(Yj _ _ _ (Yr Aa.o Ab.o.size)).trans Bd,(Yj _ _ _ (Yr Aa.o Ab.o.size)).trans Ar⟩ | with_reducible exact⟨As,Aq,Be,Bg,Ba,Ay,Av,Bf,Ao⟩ | with_reducible exact⟨(Yj _ _ _ (Yr Aa.o Ad.o.size)).trans As,(Yj _ _ _ (Yr Aa.o Ad.o.size)).trans Aq,(Yj _ _ _ (Yr Aa.o Ad.o.size)).trans Be,(Yj _ _ _ (Yr Aa.o Ad.o.size)).trans Bg,(Yj _ _ _ (Yr Aa.o Ad.o.size)).trans Ba,(Yj _ _ _ (Yr Aa.o Ad.o.size)).trans Ay,(Yj _ _ _ (Yr Aa.o Ad.o.size)).trans Av,(Yj _ _ _ (Yr Aa.o Ad.o.size)).trans Bf,(Yj _ _ _ (Yr Aa.o Ad.o.size)).trans Ao⟩ | with_reducible exact⟨Ah,Ai,Af,An,Am,Ak,Al,Ag,Aj⟩ | with_reducible exact⟨(Yj _ _ _ (Yr Aa.o Ac.o.size)).trans Ah,(Yj _ _ _ (Yr Aa.o Ac.o.size)).trans Ai,(Yj _ _ _ (Yr Aa.o Ac.o.size)).trans Af,(Yj _ _ _ (Yr Aa.o Ac.o.size)).trans An,(Yj _ _ _ (Yr Aa.o Ac.o.size)).trans Am,(Yj _ _ _ (Yr Aa.o Ac.o.size)).trans Ak,(Yj _ _ _ (Yr Aa.o Ac.o.size)).trans Al,(Yj _ _ _ (Yr Aa.o Ac.o.size)).trans Ag,(Yj _ _ _ (Yr Aa.o Ac.o.size)).trans Aj⟩ | with_reducible exact⟨(aG Ae).trans Ah,(aG Ae).trans Ai,(aG Ae).trans Af,(aG Ae).trans An,(aG Ae).trans Am,(aG Ae).trans Ak,(aG Ae).trans Al,(aG Ae).trans Ag,(aG Ae).trans Aj⟩)
     clear hK K
     (try simp only [Act.put,Yd,Ye,Yf])
     refine Xe (rs:=[8]) (by kernel_rfl) (by simp) ?_;refine Zj (by rfl) (fun K hK=>?_) ?_
     . go_simp
       (go_at_call 87;(with_reducible refine(Bj.o _ _ ?hx).mono ?_);(case hx=>(first | exact aM.lit Wg x0 x1 x2 38 | exact((aM.lit w0 x0 x1 x2 38).drew).below Bw.o));rintro e Wl ⟨rfl,hq⟩;have Ad:=Hd (show Below w0.heap.size w0 Wl from by first | exact(Ab.o.alloc Ab.o.size (.cells #[.int .i64 x0,.int .i64 x1,.int .i64 x2] 38)).trans (hq.mono (by have:=Ab.o.size;simp;omega)) | exact Ab.o.trans (hq.mono Ab.o.size));have Cc:=Hd hq;have As:=(Ad.o.cell (p:=⟨sb,so,none⟩) Aa.o).trans a0;have Aq:=(Ad.o.cell (p:=⟨sb,so+1,none⟩) Aa.o).trans a1;have Be:=(Ad.o.cell (p:=⟨sb,so+2,none⟩) Aa.o).trans a2;have Bg:=(Ad.o.cell (p:=⟨sb,so+3,none⟩) Aa.o).trans b0;have Ba:=(Ad.o.cell (p:=⟨sb,so+3+1,none⟩) Aa.o).trans b1;have Ay:=(Ad.o.cell (p:=⟨sb,so+3+2,none⟩) Aa.o).trans b2;have Av:=(Ad.o.cell (p:=⟨sb,so+2*3,none⟩) Aa.o).trans c0;have Bf:=(Ad.o.cell (p:=⟨sb,so+2*3+1,none⟩) Aa.o).trans c1;have Ao:=(Ad.o.cell (p:=⟨sb,so+2*3+2,none⟩) Aa.o).trans c2;clear hq)
       go_wp2_with fail
       refine hK.out _ _ ?_ (fun hHeld=>?_)
       . (first | with_reducible exact⟨a0,a1,a2,b0,b1,b2,c0,c1,c2⟩ | with_reducible exact⟨(aI _ _).trans a0,(aI _ _).trans a1,(aI _ _).trans a2,(aI _ _).trans b0,(aI _ _).trans b1,(aI _ _).trans b2,(aI _ _).trans c0,(aI _ _).trans c1,(aI _ _).trans c2⟩ | with_reducible exact⟨(aH _ _ _ Aa.o).trans a0,(aH _ _ _ Aa.o).trans a1,(aH _ _ _ Aa.o).trans a2,(aH _ _ _ Aa.o).trans b0,(aH _ _ _ Aa.o).trans b1,(aH _ _ _ Aa.o).trans b2,(aH _ _ _ Aa.o).trans c0,(aH _ _ _ Aa.o).trans c1,(aH _ _ _ Aa.o).trans c2⟩ | with_reducible exact⟨(Yj _ _ _ Aa.o).trans a0,(Yj _ _ _ Aa.o).trans a1,(Yj _ _ _ Aa.o).trans a2,(Yj _ _ _ Aa.o).trans b0,(Yj _ _ _ Aa.o).trans b1,(Yj _ _ _ Aa.o).trans b2,(Yj _ _ _ Aa.o).trans c0,(Yj _ _ _ Aa.o).trans c1,(Yj _ _ _ Aa.o).trans c2⟩ | with_reducible exact⟨Ap,Aw,Au,Ax,Bc,Bb,Az,Bd,Ar⟩ | with_reducible exact⟨(Yj _ _ _ (Yr Aa.o Ab.o.size)).trans Ap,(Yj _ _ _ (Yr Aa.o Ab.o.size)).trans Aw,(Yj _ _ _ (Yr Aa.o Ab.o.size)).trans Au,(Yj _ _ _ (Yr Aa.o Ab.o.size)).trans Ax,(Yj _ _ _ (Yr Aa.o Ab.o.size)).trans Bc,(Yj _ _ _ (Yr Aa.o Ab.o.size)).trans Bb,(Yj _ _ _ (Yr Aa.o Ab.o.size)).trans Az,(Yj _ _ _ (Yr Aa.o Ab.o.size)).trans Bd,(Yj _ _ _ (Yr Aa.o Ab.o.size)).trans Ar⟩ | with_reducible exact⟨As,Aq,Be,Bg,Ba,Ay,Av,Bf,Ao⟩ | with_reducible exact⟨(Yj _ _ _ (Yr Aa.o Ad.o.size)).trans As,(Yj _ _ _ (Yr Aa.o Ad.o.size)).trans Aq,(Yj _ _ _ (Yr Aa.o Ad.o.size)).trans Be,(Yj _ _ _ (Yr Aa.o Ad.o.size)).trans Bg,(Yj _ _ _ (Yr Aa.o Ad.o.size)).trans Ba,(Yj _ _ _ (Yr Aa.o Ad.o.size)).trans Ay,(Yj _ _ _ (Yr Aa.o Ad.o.size)).trans Av,(Yj _ _ _ (Yr Aa.o Ad.o.size)).trans Bf,(Yj _ _ _ (Yr Aa.o Ad.o.size)).trans Ao⟩ | with_reducible exact⟨Ah,Ai,Af,An,Am,Ak,Al,Ag,Aj⟩ | with_reducible exact⟨(Yj _ _ _ (Yr Aa.o Ac.o.size)).trans Ah,(Yj _ _ _ (Yr Aa.o Ac.o.size)).trans Ai,(Yj _ _ _ (Yr Aa.o Ac.o.size)).trans Af,(Yj _ _ _ (Yr Aa.o Ac.o.size)).trans An,(Yj _ _ _ (Yr Aa.o Ac.o.size)).trans Am,(Yj _ _ _ (Yr Aa.o Ac.o.size)).trans Ak,(Yj _ _ _ (Yr Aa.o Ac.o.size)).trans Al,(Yj _ _ _ (Yr Aa.o Ac.o.size)).trans Ag,(Yj _ _ _ (Yr Aa.o Ac.o.size)).trans Aj⟩ | with_reducible exact⟨(aG Ae).trans Ah,(aG Ae).trans Ai,(aG Ae).trans Af,(aG Ae).trans An,(aG Ae).trans Am,(aG Ae).trans Ak,(aG Ae).trans Al,(aG Ae).trans Ag,(aG Ae).trans Aj⟩)
       clear hK K
       (try simp only [Act.put,Yd,Ye,Yf])
       refine Zv (i:=9) (oi:=?oi20) (v:=?v20) ?h1x20 (by kernel_rfl) ?h3x20 (by kernel_rfl) ?h5x20 (Or.inl ⟨?h6x20,?h7x20⟩) hHeld ?h8x20
       case h1x20=>
        simp only [Ya,Yb,Yc];rfl
       case h3x20=>kernel_rfl
       case h5x20=>exact fun _ _ _ h=>h
       case h6x20=>rfl
       case h7x20=>
        intro W Bh
        (try dsimp only at Bh)
        go_split_ands
        first | (go_simp;done) | (go_simp;with_reducible rfl)
       (try simp only [Act.put,Yd,Ye,Yf])
       refine Zv (i:=10) (oi:=?oi21) (v:=undef) ?h1x21 (by kernel_rfl) ?h3x21 (by kernel_rfl) ?h5x21 (Or.inr ⟨?h6x21,rfl⟩) hHeld ?h8x21
       case h1x21=>
        simp only [Ya,Yb,Yc];rfl
       case h3x21=>kernel_rfl
       case h5x21=>exact fun _ _ _ h=>h
       case h6x21=>rfl
       (try simp only [Act.put,Yd,Ye,Yf])
       refine Zv (i:=11) (oi:=?oi22) (v:=undef) ?h1x22 (by kernel_rfl) ?h3x22 (by kernel_rfl) ?h5x22 (Or.inr ⟨?h6x22,rfl⟩) hHeld ?h8x22
       case h1x22=>
        simp only [Ya,Yb,Yc];rfl
       case h3x22=>kernel_rfl
       case h5x22=>exact fun _ _ _ h=>h
       case h6x22=>rfl
       (try simp only [Act.put,Yd,Ye,Yf])
       refine Zv (i:=12) (oi:=?oi23) (v:=undef) ?h1x23 (by kernel_rfl) ?h3x23 (by kernel_rfl) ?h5x23 (Or.inr ⟨?h6x23,rfl⟩) hHeld ?h8x23
       case h1x23=>
        simp only [Ya,Yb,Yc];rfl
       case h3x23=>kernel_rfl
       case h5x23=>exact fun _ _ _ h=>h
       case h6x23=>rfl
       (try simp only [Act.put,Yd,Ye,Yf])
       refine Zv (i:=13) (oi:=?oi24) (v:=undef) ?h1x24 (by kernel_rfl) ?h3x24 (by kernel_rfl) ?h5x24 (Or.inr ⟨?h6x24,rfl⟩) hHeld ?h8x24
       case h1x24=>
        simp only [Ya,Yb,Yc];rfl
       case h3x24=>kernel_rfl
       case h5x24=>exact fun _ _ _ h=>h
       case h6x24=>rfl
       (try simp only [Act.put,Yd,Ye,Yf])
       refine Zv (i:=14) (oi:=?oi25) (v:=undef) ?h1x25 (by kernel_rfl) ?h3x25 (by kernel_rfl) ?h5x25 (Or.inr ⟨?h6x25,rfl⟩) hHeld ?h8x25
       case h1x25=>
        simp only [Ya,Yb,Yc];rfl
       case h3x25=>kernel_rfl
       case h5x25=>exact fun _ _ _ h=>h
       case h6x25=>rfl
       (try simp only [Act.put,Yd,Ye,Yf])
       refine Zv (i:=15) (oi:=?oi26) (v:=undef) ?h1x26 (by kernel_rfl) ?h3x26 (by kernel_rfl) ?h5x26 (Or.inr ⟨?h6x26,rfl⟩) hHeld ?h8x26
       case h1x26=>
        simp only [Ya,Yb,Yc];rfl
       case h3x26=>kernel_rfl
       case h5x26=>exact fun _ _ _ h=>h
       case h6x26=>rfl
       (try simp only [Act.put,Yd,Ye,Yf])
       refine Zv (i:=16) (oi:=?oi27) (v:=undef) ?h1x27 (by kernel_rfl) ?h3x27 (by kernel_rfl) ?h5x27 (Or.inr ⟨?h6x27,rfl⟩) hHeld ?h8x27
       case h1x27=>
        simp only [Ya,Yb,Yc];rfl
       case h3x27=>kernel_rfl
       case h5x27=>exact fun _ _ _ h=>h
       case h6x27=>rfl
       (try simp only [Act.put,Yd,Ye,Yf])
       refine Zv (i:=17) (oi:=?oi28) (v:=undef) ?h1x28 (by kernel_rfl) ?h3x28 (by kernel_rfl) ?h5x28 (Or.inr ⟨?h6x28,rfl⟩) hHeld ?h8x28
       case h1x28=>
        simp only [Ya,Yb,Yc];rfl
       case h3x28=>kernel_rfl
       case h5x28=>exact fun _ _ _ h=>h
       case h6x28=>rfl
       (try simp only [Act.put,Yd,Ye,Yf])
       refine Zv (i:=18) (oi:=?oi29) (v:=?v29) ?h1x29 (by kernel_rfl) ?h3x29 (by kernel_rfl) ?h5x29 (Or.inl ⟨?h6x29,?h7x29⟩) hHeld ?h8x29
       case h1x29=>
        simp only [Ya,Yb,Yc];rfl
       case h3x29=>kernel_rfl
       case h5x29=>exact fun _ _ _ h=>h
       case h6x29=>rfl
       case h7x29=>
        intro W Bh
        (try dsimp only at Bh)
        go_split_ands
        first | (go_simp;done) | (go_simp;with_reducible rfl)
       (try simp only [Act.put,Yd,Ye,Yf])
       refine Xe (rs:=[19]) (by kernel_rfl) (by simp) ?_;refine Zj (by rfl) (fun K hK=>?_) ?_
       . go_simp
         (go_at_call 118;refine(Bp.o _).mono ?_;rintro e Wn ⟨rfl,hq⟩;have Ac:=Hd (show Below w0.heap.size w0 Wn from by first | exact Ad.o.trans (hq.mono Ad.o.size));have Cb:=Hd hq;have Ah:=(Ac.o.cell (p:=⟨sb,so,none⟩) Aa.o).trans a0;have Ai:=(Ac.o.cell (p:=⟨sb,so+1,none⟩) Aa.o).trans a1;have Af:=(Ac.o.cell (p:=⟨sb,so+2,none⟩) Aa.o).trans a2;have An:=(Ac.o.cell (p:=⟨sb,so+3,none⟩) Aa.o).trans b0;have Am:=(Ac.o.cell (p:=⟨sb,so+3+1,none⟩) Aa.o).trans b1;have Ak:=(Ac.o.cell (p:=⟨sb,so+3+2,none⟩) Aa.o).trans b2;have Al:=(Ac.o.cell (p:=⟨sb,so+2*3,none⟩) Aa.o).trans c0;have Ag:=(Ac.o.cell (p:=⟨sb,so+2*3+1,none⟩) Aa.o).trans c1;have Aj:=(Ac.o.cell (p:=⟨sb,so+2*3+2,none⟩) Aa.o).trans c2;have Bi:=Hd (HR.o.below Ac.o);have s0:=Bi.o.cell 0;have s1:=Bi.o.cell 1;have s2:=Bi.o.cell 2;have fz:∀ j,Wn.frozen? ⟨w.heap.size+1+1,j,none⟩=false:=(fun j=>frozen_of_row Wn _ j _ _ Bi.o);simp only [aC,List.getElem?_toArray,Yz,Zb] at s0 s1 s2;clear hq)
         go_wp2_with fail
         refine hK.out _ _ ?_ (fun hHeld=>?_)
         . (first | with_reducible exact⟨a0,a1,a2,b0,b1,b2,c0,c1,c2⟩ | with_reducible exact⟨(aI _ _).trans a0,(aI _ _).trans a1,(aI _ _).trans a2,(aI _ _).trans b0,(aI _ _).trans b1,(aI _ _).trans b2,(aI _ _).trans c0,(aI _ _).trans c1,(aI _ _).trans c2⟩ | with_reducible exact⟨(aH _ _ _ Aa.o).trans a0,(aH _ _ _ Aa.o).trans a1,(aH _ _ _ Aa.o).trans a2,(aH _ _ _ Aa.o).trans b0,(aH _ _ _ Aa.o).trans b1,(aH _ _ _ Aa.o).trans b2,(aH _ _ _ Aa.o).trans c0,(aH _ _ _ Aa.o).trans c1,(aH _ _ _ Aa.o).trans c2⟩ | with_reducible exact⟨(Yj _ _ _ Aa.o).trans a0,(Yj _ _ _ Aa.o).trans a1,(Yj _ _ _ Aa.o).trans a2,(Yj _ _ _ Aa.o).trans b0,(Yj _ _ _ Aa.o).trans b1,(Yj _ _ _ Aa.o).trans b2,(Yj _ _ _ Aa.o).trans c0,(Yj _ _ _ Aa.o).trans c1,(Yj _ _ _ Aa.o).trans c2⟩ | with_reducible exact⟨Ap,Aw,Au,Ax,Bc,Bb,Az,Bd,Ar⟩ | with_reducible exact⟨(Yj _ _ _ (Yr Aa.o Ab.o.size)).trans Ap,(Yj _ _ _ (Yr Aa.o Ab.o.size)).trans Aw,(Yj _ _ _ (Yr Aa.o Ab.o.size)).trans Au,(Yj _ _ _ (Yr Aa.o Ab.o.size)).trans Ax,(Yj _ _ _ (Yr Aa.o Ab.o.size)).trans Bc,(Yj _ _ _ (Yr Aa.o Ab.o.size)).trans Bb,(Yj _ _ _ (Yr Aa.o Ab.o.size)).trans Az,(Yj _ _ _ (Yr Aa.o Ab.o.size)).trans Bd,(Yj _ _ _ (Yr Aa.o Ab.o.size)).trans Ar⟩ | with_reducible exact⟨As,Aq,Be,Bg,Ba,Ay,Av,Bf,Ao⟩ | with_reducible exact⟨(Yj _ _ _ (Yr Aa.o Ad.o.size)).trans As,(Yj _ _ _ (Yr Aa.o Ad.o.size)).trans Aq,(Yj _ _ _ (Yr Aa.o Ad.o.size)).trans Be,(Yj _ _ _ (Yr Aa.o Ad.o.size)).trans Bg,(Yj _ _ _ (Yr Aa.o Ad.o.size)).trans Ba,(Yj _ _ _ (Yr Aa.o Ad.o.size)).trans Ay,(Yj _ _ _ (Yr Aa.o Ad.o.size)).trans Av,(Yj _ _ _ (Yr Aa.o Ad.o.size)).trans Bf,(Yj _ _ _ (Yr Aa.o Ad.o.size)).trans Ao⟩ | with_reducible exact⟨Ah,Ai,Af,An,Am,Ak,Al,Ag,Aj⟩ | with_reducible exact⟨(Yj _ _ _ (Yr Aa.o Ac.o.size)).trans Ah,(Yj _ _ _ (Yr Aa.o Ac.o.size)).trans Ai,(Yj _ _ _ (Yr Aa.o Ac.o.size)).trans Af,(Yj _ _ _ (Yr Aa.o Ac.o.size)).trans An,(Yj _ _ _ (Yr Aa.o Ac.o.size)).trans Am,(Yj _ _ _ (Yr Aa.o Ac.o.size)).trans Ak,(Yj _ _ _ (Yr Aa.o Ac.o.size)).trans Al,(Yj _ _ _ (Yr Aa.o Ac.o.size)).trans Ag,(Yj _ _ _ (Yr Aa.o Ac.o.size)).trans Aj⟩ | with_reducible exact⟨(aG Ae).trans Ah,(aG Ae).trans Ai,(aG Ae).trans Af,(aG Ae).trans An,(aG Ae).trans Am,(aG Ae).trans Ak,(aG Ae).trans Al,(aG Ae).trans Ag,(aG Ae).trans Aj⟩)
         clear hK K
         (try simp only [Act.put,Yd,Ye,Yf])
         refine Zv (i:=20) (oi:=?oi30) (v:=?v30) ?h1x30 (by kernel_rfl) ?h3x30 (by kernel_rfl) ?h5x30 (Or.inl ⟨?h6x30,?h7x30⟩) hHeld ?h8x30
         case h1x30=>
          simp only [Ya,Yb,Yc];rfl
         case h3x30=>kernel_rfl
         case h5x30=>exact fun _ _ _ h=>h
         case h6x30=>rfl
         case h7x30=>
          intro W Bh
          (try dsimp only at Bh)
          go_split_ands
          first | (go_simp;done) | (go_simp;with_reducible rfl)
         (try simp only [Act.put,Yd,Ye,Yf])
         refine Zv (i:=21) (oi:=?oi31) (v:=?v31) ?h1x31 (by kernel_rfl) ?h3x31 (by kernel_rfl) ?h5x31 (Or.inl ⟨?h6x31,?h7x31⟩) hHeld ?h8x31
         case h1x31=>
          simp only [Ya,Yb,Yc];rfl
         case h3x31=>kernel_rfl
         case h5x31=>exact fun _ _ _ h=>h
         case h6x31=>rfl
         case h7x31=>
          intro W Bh
          (try dsimp only at Bh)
          go_split_ands
          first | (go_simp;done) | (go_simp;with_reducible rfl)
         (try simp only [Act.put,Yd,Ye,Yf])
         refine Xe (rs:=[22]) (by kernel_rfl) (by simp) ?_;refine Zj (by rfl) (fun K hK=>?_) ?_
         . go_simp
           refine hK.out _ _ ?_ (fun hHeld=>?_)
           . (first | with_reducible exact⟨a0,a1,a2,b0,b1,b2,c0,c1,c2⟩ | with_reducible exact⟨(aI _ _).trans a0,(aI _ _).trans a1,(aI _ _).trans a2,(aI _ _).trans b0,(aI _ _).trans b1,(aI _ _).trans b2,(aI _ _).trans c0,(aI _ _).trans c1,(aI _ _).trans c2⟩ | with_reducible exact⟨(aH _ _ _ Aa.o).trans a0,(aH _ _ _ Aa.o).trans a1,(aH _ _ _ Aa.o).trans a2,(aH _ _ _ Aa.o).trans b0,(aH _ _ _ Aa.o).trans b1,(aH _ _ _ Aa.o).trans b2,(aH _ _ _ Aa.o).trans c0,(aH _ _ _ Aa.o).trans c1,(aH _ _ _ Aa.o).trans c2⟩ | with_reducible exact⟨(Yj _ _ _ Aa.o).trans a0,(Yj _ _ _ Aa.o).trans a1,(Yj _ _ _ Aa.o).trans a2,(Yj _ _ _ Aa.o).trans b0,(Yj _ _ _ Aa.o).trans b1,(Yj _ _ _ Aa.o).trans b2,(Yj _ _ _ Aa.o).trans c0,(Yj _ _ _ Aa.o).trans c1,(Yj _ _ _ Aa.o).trans c2⟩ | with_reducible exact⟨Ap,Aw,Au,Ax,Bc,Bb,Az,Bd,Ar⟩ | with_reducible exact⟨(Yj _ _ _ (Yr Aa.o Ab.o.size)).trans Ap,(Yj _ _ _ (Yr Aa.o Ab.o.size)).trans Aw,(Yj _ _ _ (Yr Aa.o Ab.o.size)).trans Au,(Yj _ _ _ (Yr Aa.o Ab.o.size)).trans Ax,(Yj _ _ _ (Yr Aa.o Ab.o.size)).trans Bc,(Yj _ _ _ (Yr Aa.o Ab.o.size)).trans Bb,(Yj _ _ _ (Yr Aa.o Ab.o.size)).trans Az,(Yj _ _ _ (Yr Aa.o Ab.o.size)).trans Bd,(Yj _ _ _ (Yr Aa.o Ab.o.size)).trans Ar⟩ | with_reducible exact⟨As,Aq,Be,Bg,Ba,Ay,Av,Bf,Ao⟩ | with_reducible exact⟨(Yj _ _ _ (Yr Aa.o Ad.o.size)).trans As,(Yj _ _ _ (Yr Aa.o Ad.o.size)).trans Aq,(Yj _ _ _ (Yr Aa.o Ad.o.size)).trans Be,(Yj _ _ _ (Yr Aa.o Ad.o.size)).trans Bg,(Yj _ _ _ (Yr Aa.o Ad.o.size)).trans Ba,(Yj _ _ _ (Yr Aa.o Ad.o.size)).trans Ay,(Yj _ _ _ (Yr Aa.o Ad.o.size)).trans Av,(Yj _ _ _ (Yr Aa.o Ad.o.size)).trans Bf,(Yj _ _ _ (Yr Aa.o Ad.o.size)).trans Ao⟩ | with_reducible exact⟨Ah,Ai,Af,An,Am,Ak,Al,Ag,Aj⟩ | with_reducible exact⟨(Yj _ _ _ (Yr Aa.o Ac.o.size)).trans Ah,(Yj _ _ _ (Yr Aa.o Ac.o.size)).trans Ai,(Yj _ _ _ (Yr Aa.o Ac.o.size)).trans Af,(Yj _ _ _ (Yr Aa.o Ac.o.size)).trans An,(Yj _ _ _ (Yr Aa.o Ac.o.size)).trans Am,(Yj _ _ _ (Yr Aa.o Ac.o.size)).trans Ak,(Yj _ _ _ (Yr Aa.o Ac.o.size)).trans Al,(Yj _ _ _ (Yr Aa.o Ac.o.size)).trans Ag,(Yj _ _ _ (Yr Aa.o Ac.o.size)).trans Aj⟩ | with_reducible exact⟨(aG Ae).trans Ah,(aG Ae).trans Ai,(aG Ae).trans Af,(aG Ae).trans An,(aG Ae).trans Am,(aG Ae).trans Ak,(aG Ae).trans Al,(aG Ae).trans Ag,(aG Ae).trans Aj⟩)
           clear hK K
           (try simp only [Act.put,Yd,Ye,Yf])
           refine Zv (i:=23) (oi:=?oi32) (v:=?v32) ?h1x32 (by kernel_rfl) ?h3x32 (by kernel_rfl) ?h5x32 (Or.inl ⟨?h6x32,?h7x32⟩) hHeld ?h8x32
           case h1x32=>
            simp only [Ya,Yb,Yc];rfl
           case h3x32=>kernel_rfl
           case h5x32=>exact fun _ _ _ h=>h
           case h6x32=>rfl
           case h7x32=>
            intro W Bh
            (try dsimp only at Bh)
            go_split_ands
            first | (go_simp;done) | (go_simp;with_reducible rfl)
           (try simp only [Act.put,Yd,Ye,Yf])
           refine wpAnyH_done (by kernel_rfl) ?_ _;generalize Bm:World.setCell _ _ _=wz;rw [fX Bi.o] at Bm;have Bq:=Hd (show F3 38 wz (w.heap.size+1+1) 0 0 0 by rw [<- Bm];exact Bi.o.set _ _ _);have Bt:=Hd (show Below w.heap.size w wz by rw [<- Bm];exact Xb (aR Br.o Ac.o) (by omega) _);clear Bm
           go_wp2_with fail
           exact Zt (aL (p:=6) (u:=7) rfl _ _ (w.heap.size+1+1) 0 0 0 rfl Bq.o) rfl (gE HO.o ⟨rfl,Bt.o⟩)
         exact Zk
       exact Zk
     exact Zk
   exact Zk
 exact Zk
end
end Go.Proofs.YtegjgiofmpolnaaGreat
