/- Parts of the proof: TqB. Conditions: each theorem's own. -/
import Derived.Test.YtegjgiofmpolnaaGreatC21
namespace Go.Proofs.YtegjgiofmpolnaaGreat
set_option linter.unusedVariables false
set_option linter.unusedSimpArgs false
set_option maxRecDepth 100000
set_option maxHeartbeats 40000000
section
open Go.RowKit Go.Sort Go.BigFrame
theorem aR1{w w0:World}{p:Pg}{E:Option Addr}{ec:Nat}{N:Option Addr}{nc:Nat}{cs:Array Value}{T U:TypeId}(h:(w.alloc (.cells (aP p E ec N nc) T)).alloc (.cells cs U)=w0):
 Below w.heap.size w w0/\(∀ w',Below w0.heap.size w0 w'->∀ j,w'.cell? ⟨w.heap.size,j,none⟩=(aP p E ec N nc)[j]?)/\(∀ w',Below w0.heap.size w0 w'->∀ j,w'.cell? ⟨w.heap.size+1,j,none⟩=cs[j]?):=by
 subst h;have h1:=Zw w (.cells (aP p E ec N nc) T);have h2:=Zw (w.alloc (.cells (aP p E ec N nc) T)) (.cells cs U);rw [World.size_alloc] at h2;have h3:=(((Yg (w.alloc (.cells (aP p E ec N nc) T)).heap.size _).alloc (Yh _) (.cells cs U)).block w.heap.size (by simp)).trans h1;exact⟨((Yg _ _).alloc (Yh _) _).alloc (by simp) _,nU h3,nU h2⟩
def nD(p:Pg) (i:Nat) (ns:List ByteArray) (ws:List T3):Bool:=decide (ws.length=ns.length) && (List.range ws.length).all fun k=>decide (fZ (aW (aA p i) (ns[k]?.getD ByteArray.empty))=aB ws k)
theorem aNf{p:Pg}{i:Nat}{q:Qn}{ws:List T3}(h:fF p i q.x=some ws):iT p i q=nD p i q.ns ws:=by unfold iT nD;rw [h]
theorem aNg{p:Pg}{i:Nat}{q:Qn}(h:fF p i q.x=none):iT p i q=false:=by unfold iT;rw [h]
theorem aCm{p:Pg}{i k:Nat}{ns:List ByteArray}{ws:List T3}(hk:k<ws.length) (h:¬ fZ (aW (aA p i) (ns[k]?.getD ByteArray.empty))=aB ws k):nD p i ns ws=false:=by
 unfold nD;rw [Bool.and_eq_false_iff];refine .inr (Bool.eq_false_iff.2 fun ha=>?_);have:=Zf.1 ha k (List.mem_range.2 hk);exact h (of_decide_eq_true this)
theorem aBi{p:Pg}{i:Nat}{ns:List ByteArray}{ws:List T3}(hl:ws.length=ns.length) (h:∀ k,k<ws.length->fZ (aW (aA p i) (ns[k]?.getD ByteArray.empty))=aB ws k):nD p i ns ws=true:=by
 unfold nD;rw [Ys];exact⟨Zx hl,Zf.2 fun k hk=>Zx (h k (List.mem_range.1 hk))⟩
theorem aBj{p:Pg}{i:Nat}{ns:List ByteArray}{ws:List T3}(hl:¬ ws.length=ns.length):nD p i ns ws=false:=by
 unfold nD;rw [Zy hl];rfl
def aFv(p:Pg) (x:Ex) (o:Option (List T3)):Option (List T3):=match o with | none=>none | some ts=>(fB p x ts).map fun j=>(aA p j).outs.map aO
theorem aKo{p:Pg}{i:Nat}{x:Ex}(hk:x.k=13):fF p i x=aFv p x (bK (x.subs.map (cG p i))):=by
 unfold fF;rw [if_pos (by simp [hk])]
 cases bK (x.subs.map (cG p i)) <;> rfl
theorem aR2{l:List Dc}{k:Nat}(hk:k<l.length):aB (l.map aO) k=aO (l[k]?.getD default):=by
 unfold aB;rw [List.getElem?_map,Yk hk];rfl
theorem aNh{l:List T3}{k:Nat}(hk:k<l.length):l.take (k+1)=l.take k++[aB l k]:=by
 rw [List.take_add_one,Yk hk];unfold aB;rw [Yk hk];rfl
theorem xK{o:Option Dc}(ho:o=none->(default:Dc)=default):fZ o=((o.getD default).k,(o.getD default).e,(o.getD default).l):=by cases o <;> rfl
theorem aPx(p:Pg) (E:Option Addr) (ec:Nat) (N:Option Addr) (nc:Nat) (i:Nat) (q:Qn) (BN:Option Addr) (cN:Nat) (A:Option Addr) (ca:Nat) (B:Option Addr) (cb:Nat) (w:World) (h:cW w p E N) (hq:aN w BN q.ns.length q.ns) (hi:i<p.ns.length) (Ep:(aA p i).all.length<=1000) (Ed:q.x.k=13->q.x.n=0\/q.x.n=1) (Fe:q.ns.length<=1000) (Ef:∀ j,j<p.ns.length->(aA p j).outs.length<=1000)
 (Er:∀ w1,Below w.heap.size w w1->Calls Tryz.prog 14 #[.agg (aP p E ec N nc),.int .i64 i,.agg (aE q.x A ca B cb)] w1 (aZ w1 (cG p i q.x)))
 (Es:∀ w1,Below w.heap.size w w1->Calls Tryz.prog 63 #[.agg (aP p E ec N nc),.int .i64 i,.agg (aE q.x A ca B cb)] w1 (iO w1 (bK (q.x.subs.map (cG p i))))) (r:Bool) (hr:iT p i q=r):
 Calls Tryz.prog 31 #[.agg (aP p E ec N nc),.int .i64 i,.agg (eM q BN cN A ca B cb)] w fun e w'=>e=.returned (.bool r)/\Below w.heap.size w w':=by
 have HF:=Hd fun w0 h=>aR1 (w:=w) (w0:=w0) (p:=p) (E:=E) (ec:=ec) (N:=N) (nc:=nc) (cs:=eM q BN cN A ca B cb) (T:=25) (U:=56) h;obtain⟨nb,no,A1,c1,A2,c2,A3,c3,A4,c4,rfl,Bu,Dw,d0,d1,d2,d3,d4⟩:=iN h.2 hi;have Bn:=Hd fun s w1 (hb:Below w.heap.size w w1)=>oY (aA p i) A1 c1 A2 c2 A3 c3 A4 c4 s w1 (Dw.below hb) Ep;have Ch:=Hd fun S m sc ts w1 (hb:Below w.heap.size w w1) (hS:aM w1 S m ts)=>aCg p E ec (some ⟨nb,no,none⟩) nc q.x A ca B cb S m sc ts w1 (h.below hb) hS;have Cb:=Hd Er;have Bw:=Hd Es;have HQ:=Hd hq;have Ez:=Hd h.2;have Av:=Hd Ed;have HR:=Hd hr;have Ca:=Hd (show q.x.k≠13->fF p i q.x=(cG p i q.x).map fun t=>[t] from fun hk=>by unfold fF;rw [if_neg (by simpa using hk)]);have Dx:=Hd (show q.x.k=13->fF p i q.x=aFv p q.x (bK (q.x.subs.map (cG p i))) from aKo);have Ec:=Hd fun ts j (hj:fB p q.x ts=some j)=>aDp hj;have Dv:=Hd Ef;have Bo:=Hd (show ∀ ws,fF p i q.x=some ws->r=nD p i q.ns ws from fun ws hw=>by rw [<- hr];exact aNf hw);have Dd:=Hd (show fF p i q.x=none->r=false from fun hw=>by rw [<- hr];exact aNg hw);unfold mB nG at Bn;have Bq:aA p i=p.ns[i]?.getD default:=rfl;rw [Bq] at Bn;generalize Ey:p.ns[i]?.getD default=nd at *;unfold bL at Bn;unfold bC at Bn;unfold aZ at Cb;unfold iO at Bw;unfold aP eM at HF ⊢;unfold aP aE at Cb Bw Ch
 have HD:=Hd (show ∀ w1,Below w.heap.size w w1->w1.cell? ⟨nb,no+i*5,none⟩=some (.string nd.nm)/\w1.cell? ⟨nb,no+i*5+1,none⟩=some (.slice A1 nd.ins.length c1)/\w1.cell? ⟨nb,no+i*5+2,none⟩=some (.slice A2 nd.outs.length c2)/\w1.cell? ⟨nb,no+i*5+3,none⟩=some (.slice A3 nd.vars.length c3)/\w1.cell? ⟨nb,no+i*5+4,none⟩=some (.slice A4 nd.eqs.length c4) from
  fun w1 hb=>⟨(hb.cell (p:=⟨nb,no+i*5,none⟩) Bu).trans d0,(hb.cell (p:=⟨nb,no+i*5+1,none⟩) Bu).trans d1,(hb.cell (p:=⟨nb,no+i*5+2,none⟩) Bu).trans d2,(hb.cell (p:=⟨nb,no+i*5+3,none⟩) Bu).trans d3,(hb.cell (p:=⟨nb,no+i*5+4,none⟩) Bu).trans d4⟩)
 clear d0 d1 d2 d3 d4 Dw h Er Es hq Ed hr Ep Ef;generalize Ck:q.ns.length=m at *;generalize p.es.length=pe at *;generalize Fi:p.ns.length=pn at *
 go_enter Tryz.func31,Tryz.ntmps31
 go_upto_region 1 with(fail)
 generalize Dr:(w.alloc _).alloc _=w0;obtain⟨El,hp,hx⟩:=HF.o w0 Dr;have Ae:=Hd El;have HP:=Hd hp;have HX:=Hd hx;have Ee:=World.ownsRow_lit (base:=w0.heap.size) (e:=38) (size:=3) w0 #[] 0 (Yh _) (by decide) rfl;have Cl:=Hd Ee;have Ao:=Hd ((Yg w0.heap.size w0).alloc (Yh _) (.cells #[] 38));clear Dr El hp hx HF Ee
 go_upto_region 2 with(fail)
 generalize w0.alloc _=wN at *;have p0:=HP.o wN Ao.o 0;have p1:=HP.o wN Ao.o 1;obtain⟨-,q1,q2,q3,q4,q5⟩:=Sx (HX.o wN Ao.o);have q6:=HX.o wN Ao.o 6;simp only [Ya,Yb,Yc] at p0 p1 q1 q2 q3 q4 q5 q6;have Cj:=Ae.o.trans (Ao.o.mono Ae.o.size);obtain⟨i0,Cm,Da,Dn,Dg,Cs,Dh⟩:=nO rW;generalize Fh:q.x.k=kk at *
 by_cases Cg:kk=13
 . subst Cg;have Bm:=Hd (Bw.o wN Cj);have Cy:=Hd (Av.o rfl);have Cq:=Hd (Dx.o rfl);clear Cb Bw Av Ca Cj Dx;generalize bK (q.x.subs.map (cG p i))=o at *;generalize Br:o.isSome=us at *;have Bl:=Hd Br;clear Br
   go_wp2_with fail
   refine Bm.o.mono ?_;rintro e w1 ⟨S1,sn,sc,ts,rfl,Bc,Bd⟩;have Ai:=Ao.o.trans (Bd.mono Ao.o.size);have Bp:=Hd Ai;have Ay:=Hd (fK Cl.o Bd);have Ei:=Hd Bc;clear Bd Bc p0 p1 q1 q2 q3 q4 q5 q6 Bm Cl Ao
   cases us with
   | false=>
    have Cf:=Hd (show r=false from Dd.o (by rw [Cq.o];have h:=Bl.o;cases o with | none=>rfl | some r=>cases h))
    go_wp2_with fail
    go_ret
    exact⟨cR Cf.o.symm,Ae.o.trans (Bp.o.mono Ae.o.size)⟩
   | true=>
    obtain⟨r0,Dk⟩:∃ r,o=some r:=by have h:=Bl.o;cases o with | none=>cases h | some r=>exact⟨r,rfl⟩
    obtain⟨rfl,Ar⟩:=Ei.o r0 Dk;have Df:=Hd (Ch.o S1 sn sc r0 w1 (Ae.o.trans (Ai.mono Ae.o.size)) Ar Cy.o);have Eh:=Hd (Ec.o r0);have Ct:=Hd (show fF p i q.x=(fB p q.x r0).map fun j=>(aA p j).outs.map aO by rw [Cq.o,Dk];rfl);rw [aDq] at Df;clear Ei Ch Ec Cq Ar Dk Bl;generalize fB p q.x r0=oj at *;generalize Ek:jN oj=jv at *;generalize Du:oj.isSome=js at *;have Et:=Hd Ek;have Dy:=Hd Du;clear Ek Du;have p0:=HP.o w1 Ai 0;have p1:=HP.o w1 Ai 1;obtain⟨-,q1,q2,q3,q4,q5⟩:=Sx (HX.o w1 Ai);have q6:=HX.o w1 Ai 6;simp only [Ya,Yb,Yc] at p0 p1 q1 q2 q3 q4 q5 q6;clear Ai
    go_wp2_with fail
    refine Df.o.mono ?_;rintro e w2 ⟨rfl,Bf⟩;have Cr:=Bp.o.trans (Bf.mono Bp.o.size);have Ba:=Hd Cr;have Ah:=Hd (fK Ay.o Bf);clear Bf p0 p1 q1 q2 q3 q4 q5 q6 Df Ay
    cases js with
    | false=>
     have Cf:=Hd (show r=false from Dd.o (by rw [Ct.o];have h:=Dy.o;cases oj with | none=>rfl | some r=>cases h))
     go_wp2_with fail
     go_ret
     exact⟨cR Cf.o.symm,Ae.o.trans (Ba.o.mono Ae.o.size)⟩
    | true=>
     obtain⟨j,Fb⟩:=aBf Dy.o;subst Fb;have hj:=Eh.o j rfl;obtain rfl:(j:Int)=jv:=Et.o;obtain⟨Fj,Fg,B1,e1,B2,e2,B3,e3,B4,e4,Cu,Cv,Bv,f0,f1,f2,f3,f4⟩:=iN Ez.o hj;injection Cu with Cu;injection Cu with Dj Dl;subst Dj Dl;have Ds:p.ns[j]?.getD default=aA p j:=rfl;have Dz:=Hd (show cH w B2 (aA p j).outs.length (aA p j).outs from Bv.2.1);have Ff:=Dv.o j hj;have Be:=Hd (show fF p i q.x=some ((aA p j).outs.map aO) from Ct.o);have Au:=Hd (show((aA p j).outs.map aO).length=(aA p j).outs.length from List.length_map ..);have Db:=Hd fun k (hk:k<(aA p j).outs.length)=>aR2 hk;rw [Ds] at f2;have Dt:=Hd fun W (h:Below w.heap.size w W)=>(h.cell (p:=⟨nb,no+j*5+2,none⟩) Cv).trans f2;clear f0 f1 f2 f3 f4 Bv Ds Dv Ct Eh;generalize (aA p j).outs.map aO=L at *;generalize (aA p j).outs=ol at *;generalize ol.length=n at *
     go_wp2_with fail
     go_loopw [7,12] (fun v i' wr=>∃ k:Nat,k<=n/\i'=.int .i64 k/\wr.ownsRow w0.heap.size 38 3 v k (fJ (L.take k))/\Below w0.heap.size w0 wr) (fun _ i' _=>n-(intOf i').toNat)
     case atStart=>exact⟨0,Yq _,rfl,Ah.o,Ba.o⟩
     case round=>
      obtain⟨k,hk,rfl,Ce,Af⟩:=hrel;have Az:=Hd Ce;have Am:=Hd Af;have Ad:=Ae.o.trans (Af.mono Ae.o.size);have Dq:=Hd Ad;have g2:=Dt.o wr Ad;have p1:=HP.o wr Af 1;have z0:=HX.o wr Af 0;simp only [Ya,Yb,Yc] at p1 z0;clear Ce
      by_cases Aj:k<n
      . obtain⟨ob,oo,Fa,Bj,Eo⟩:=uY Dz.o Aj;obtain⟨s0,s1,s2⟩:=Eo k Aj;have t0:=(Ad.cell (p:=⟨ob,oo+k*6+1,none⟩) Bj).trans s0;have t1:=(Ad.cell (p:=⟨ob,oo+k*6+2,none⟩) Bj).trans s1;have t2:=(Ad.cell (p:=⟨ob,oo+k*6+3,none⟩) Bj).trans s2;subst Fa;have Ew:=Hd (show L.take (k+1)=L.take k++[aO (ol[k]?.getD default)] by rw [aNh (by rw [Au.o];exact Aj),Db.o k Aj]);clear s0 s1 s2 Eo Ad Af Db;generalize aO (ol[k]?.getD default)=ty at *;obtain⟨y0,y1,y2⟩:=ty
        dsimp only at t0 t1 t2
        have Fd:=Am.o.size
        go_wp2_with (at_builtin;refine wpList_append_own_at _ rfl _ _ 99 rfl w0.heap.size 38 i0 Cm 3 24 Tryz.underlying99 Da Dn Dg Cs Dh (by decide) u7 k (fJ (L.take k)) rfl (fK Az.o ((Yg wr.heap.size wr).alloc (Yh _) (.cells #[.int .i64 y0,.int .i64 y1,.int .i64 y2] 38))) ⟨wr.heap.size,0,none⟩ 1 1 [.int .i64 y0,.int .i64 y1,.int .i64 y2] rfl rfl (fun j u hu=>World.news_of_block (Zw _ _) j u hu) (by simp [Value.oneCell']) (by unfold maxLen;omega) (by omega) (by simp;omega) ?_;intro v' w9 Aa Ab As Aq;have Bx:=Hd Aa;have Bb:=Hd (show Below w0.heap.size w0 w9 from(Am.o.alloc Am.o.size _).grown Ab (by simp;omega) (fun j hj=>(Az.o.lt j hj).1));clear Aa Ab As Aq)
        go_roundw
        case rel=>exact⟨k+1,by omega,by go_num,by rw [Ew.o,rU,rV];exact Bx.o,Bb.o⟩
        case measure=>simp [intOf];omega
      . obtain rfl:n=k:=by omega
        obtain⟨S,cS,Bz,Ar⟩:=aM.of_own (l:=L) (n:=n) (by have:=Az.o;rw [Yx (by rw [Au.o];omega)] at this;exact this) (by omega);subst Bz;have Ci:=Hd Ar;clear Ar Ad Af;clear Az Ah Dt Dz Db
        by_cases Bk:n=m
        . subst Bk;have Cp:((n:Int) != (n:Int))=false:=by simp
          go_wp2_with fail
          generalize wr=wv at *;clear z0
          go_loopw [15] (fun i' wr=>∃ k:Nat,k<=n/\i'=.int .i64 k/\(∀ j,j<k->fZ (aW nd (q.ns[j]?.getD ByteArray.empty))=aB L j)/\Below wv.heap.size wv wr) (fun i' _=>n-(intOf i').toNat)
          case atStart=>exact⟨0,Yq _,rfl,fun j hj=>absurd hj (by omega),Yg _ _⟩
          case round=>
           obtain⟨k,hk,rfl,Bi,Af⟩:=hrel;have Bg:=Hd Bi;have Ag:=Hd Af;have Al:=Am.o.trans (Af.mono Am.o.size);have Cn:=Hd Al;have Ad:=Ae.o.trans (Al.mono Ae.o.size);have Ak:=Hd Ad;have p1:=HP.o wr Al 1;have z0:=HX.o wr Al 0;simp only [Ya,Yb,Yc] at p1 z0
           by_cases Aj:k<n
           . obtain⟨d0,d1,d2,d3,d4⟩:=HD.o wr Ad;obtain⟨sb,so,Cw,Di,Ap⟩:=(HQ.o.below Ad).at_ (i:=k) Aj;have s0:=Ap k Aj;have Bt:=Hd (Bn.o (q.ns[k]?.getD ByteArray.empty));have Aw:=Hd (show ¬ fZ (aW nd (q.ns[k]?.getD ByteArray.empty))=aB L k->r=false from fun Dp=>by rw [Bo.o _ Be.o];exact aCm (k:=k) (by have:=Au.o;omega) (by rw [Bq];exact Dp))
             have Ax:=Hd (show fZ (aW nd (q.ns[k]?.getD ByteArray.empty))=aB L k->∀ j,j<k+1->fZ (aW nd (q.ns[j]?.getD ByteArray.empty))=aB L j from fun he j hj=>by
              rcases Nat.lt_or_ge j k with h | h
              . exact Bg.o j h
              . rw [show j=k by omega];exact he)
             subst Cw;clear Bi Af Al Ad Ap Bg;rw [xK (fun _=>rfl)] at Aw Ax;generalize q.ns[k]?.getD ByteArray.empty=nm at *;generalize aW nd nm=od at *;generalize od.isSome=ds at *;generalize od.getD default=dd at *;generalize Cd:aB L k=tw at *;obtain⟨y0,y1,y2⟩:=tw
             go_wp2_with fail
             go_upto_region 22 with(fail)
             refine lO (l:=[_,_,_,_,_,_,_,_,_,_,_,_,_,_,_,_,_]) 14 15 _ _ (d:=16) (tx:=105) (T:=58) (zc:=pT) (by kernel_rfl) rfl rfl (by kernel_rfl) rfl (by simp) (fun a W=>by rfl) rfl (by kernel_rfl) ?_
             repeat
              first
              | refine lW rfl ?_
              | (apply lV rfl rfl (by simp)
                 case h1=>
                  intro wb hb;have Ac:=cI hb;have l0:=fun d os=>Zr ((Ac.cell (Yi _ _ p1)).trans p1) d os;have l1:=fun d os=>Zr ((Ac.cell (Yi _ _ z0)).trans z0) d os;have l2:=fun d os=>Zr ((Ac.cell (Yi _ _ s0)).trans s0) d os;have m0:=fun d os=>Zr ((Ac.cell (Yi _ _ d0)).trans d0) d os;have m1:=fun d os=>Zr ((Ac.cell (Yi _ _ d1)).trans d1) d os;have m2:=fun d os=>Zr ((Ac.cell (Yi _ _ d2)).trans d2) d os;have m3:=fun d os=>Zr ((Ac.cell (Yi _ _ d3)).trans d3) d os;have m4:=fun d os=>Zr ((Ac.cell (Yi _ _ d4)).trans d4) d os;have h3:=Ak.o.trans (Ac.mono Ak.o.size);have cA:=fun d os=>Zh (Bt.o (grow (redrawn wb d) os) (h3.trans ((Zs wb d os).mono h3.size)));clear h3 Ac
                  go_big_quiet_step (with_reducible exact cA _ _)
                  refine Xf ?_;simp only [List.getElem?_toArray,Zb,Yz];exact rfl
                 simp only [Act.put,Yd,Ye,Yf])
             refine⟨bC dd,rfl,rfl,by simp [bC,Value.oneCell'],fun W g hW hg hz=>?_⟩;have Bh:=Hd (cI hW);have k1:=gV (d:=dd) hz 1;have k2:=gV (d:=dd) hz 2;have k3:=gV (d:=dd) hz 3;simp only [bC,List.getElem?_toArray,Yz,Zb] at k1 k2 k3;have An:=Hd (Ag.o.trans (Bh.o.mono Ag.o.size));have Cc:=Ci.o.below An.o;obtain⟨yb,yo,hS,Cx,Bc⟩:=Cc.at_ (i:=k) Aj;obtain⟨b0,b1,b2⟩:=Bc k Aj;subst hS;rw [Cd] at b0 b1 b2
             dsimp only at b0 b1 b2
             have De:=Hd (Ak.o.trans (Bh.o.mono Ak.o.size));clear Bh Cc Bc Cx Di Cd hW hg hz p1 z0 s0 d0 d1 d2 d3 d4 Bt Cn Ak Ag;generalize dd.k=x0 at *;generalize dd.e=x1 at *;generalize dd.l=x2 at *
             show Exit.then _ _ .normal _ W
             simp only [Act.put,Yd,Ye,Yf];rcases iC x0 x1 x2 y0 y1 y2 with⟨rfl,rfl,rfl,he⟩|⟨h1,he⟩|⟨rfl,h1,he⟩|⟨rfl,rfl,h1,he⟩
             . have Dm:=Hd (Ax.o rfl);clear Ax Aw he
               go_wp2_with fail
               go_quiet (fail)
               go_wp2_with fail
               go_roundw
               case rel=>exact⟨k+1,by omega,by go_num,fun j hj=>Dm.o j hj,aY An.o _⟩
               case measure=>simp [intOf];omega
             all_goals
              have HO:=Hd (Aw.o he);clear Aw Ax he
              go_wp2_with fail
              go_quiet (fail)
              go_wp2_with fail
              go_ret
              exact⟨cR HO.o.symm,aY De.o _⟩
           . have HY:=Hd (show r=true by rw [Bo.o _ Be.o];exact aBi (by rw [Au.o,Ck]) fun j hj=>by rw [Bq];exact Bg.o j (by have:=Au.o;omega));clear Bi Af Al Ad
             go_wp2_with fail
             go_ret
             exact⟨cR HY.o.symm,Ak.o⟩
        . have Cp:((n:Int) != (m:Int))=true:=by rw [bne_iff_ne];omega
          have Co:=Hd (show r=false by rw [Bo.o _ Be.o];exact aBj (by rw [Ck,Au.o];exact Bk));clear Bk
          go_wp2_with fail
          go_ret
          exact⟨cR Co.o.symm,Dq.o⟩
 . have Fc:(kk==13)=false:=Xa.2 Cg;have Bm:=Hd (Cb.o wN Cj);have Ea:=Hd (Ca.o Cg);clear Cb Bw Ch Av Cj Cg;generalize cG p i q.x=o at *;generalize Eb:(o.getD (0,0,0)).1=oa at *;generalize Bj:(o.getD (0,0,0)).2.1=ob at *;generalize Ej:(o.getD (0,0,0)).2.2=oz at *;generalize Br:o.isSome=us at *;have Ev:=Hd (show ∀ r,o=some r->r=(oa,ob,oz) from fun r h=>by subst h Eb Bj Ej;rfl);have Bl:=Hd Br;clear Eb Bj Ej Br;unfold aC at Bm
   go_wp2_with fail
   refine Bm.o.mono ?_;rintro e w1 ⟨rfl,Bd⟩;have Bp:=Hd (Ao.o.trans (Bd.mono Ao.o.size));have Ay:=Hd (fK Cl.o Bd);clear Bd p0 p1 q1 q2 q3 q4 q5 q6 Bm Cl Ao
   go_upto_region 14 with(fail)
   generalize Em:w1.alloc _=w2;obtain⟨Bf,Eg,Eu⟩:=gM Em;obtain⟨f0,f1,f2,-,-,-⟩:=Sx Eg.cell;simp only [aC,List.getElem?_toArray,Yz,Zb] at f0 f1 f2;have Ba:=Hd (Bp.o.trans (Bf.mono Bp.o.size));have Ah:=Hd (fK Ay.o Bf);clear Em Bf Eg Eu
   cases us with
   | false=>
    have Cf:=Hd (show r=false from Dd.o (by rw [Ea.o];have h:=Bl.o;cases o with | none=>rfl | some r=>cases h))
    go_wp2_with fail
    go_ret
    exact⟨cR Cf.o.symm,Ae.o.trans (Ba.o.mono Ae.o.size)⟩
   | true=>
    obtain⟨ru,Cz⟩:∃ r,o=some r:=by have h:=Bl.o;cases o with | none=>cases h | some r=>exact⟨r,rfl⟩
    have Be:=Hd (show fF p i q.x=some [(oa,ob,oz)] by rw [Ea.o,Cz,Ev.o ru Cz];rfl);clear Cz;have Fd:=Ba.o.size;obtain⟨n,hn⟩:∃ n:Nat,n=1:=⟨1,rfl⟩;have Av:=Hd hn;clear hn
    by_cases Bk:n=m
    . subst Bk;have Cp:((n:Int) != (n:Int))=false:=by simp
      go_wp2_with (at_builtin;refine wpList_append_own_at _ rfl _ _ 99 rfl w0.heap.size 38 i0 Cm 3 24 Tryz.underlying99 Da Dn Dg Cs Dh (by decide) (.slice (some ⟨w0.heap.size,0,none⟩) 0 0) 0 [] rfl (fK Ah.o ((Yg w2.heap.size w2).alloc (Yh _) (.cells #[.int .i64 oa,.int .i64 ob,.int .i64 oz] 38))) ⟨w2.heap.size,0,none⟩ 1 1 [.int .i64 oa,.int .i64 ob,.int .i64 oz] rfl rfl (fun j u hu=>World.news_of_block (Zw _ _) j u hu) (by simp [Value.oneCell']) (by unfold maxLen;omega) (by omega) (by simp;omega) ?_;intro v' w9 Aa Ab As Aq;have Bx:=Hd Aa;have Bb:=Hd (show Below w0.heap.size w0 w9 from(Ba.o.alloc Ba.o.size _).grown Ab (by simp;omega) (fun j hj=>(Ah.o.lt j hj).1));obtain⟨S,cS,Bz,Ar⟩:=aM.of_own (l:=[(oa,ob,oz)]) (n:=n) (by rw [Av.o];exact Bx.o) (by rw [Av.o];decide);subst Bz;have Ci:=Hd Ar;have z0:=HX.o w9 Bb.o 0;simp only [Ya,Yb,Yc] at z0;clear Ar Aa Ab As Aq)
      have Au:=Hd (show([(oa,ob,oz)]:List T3).length=n from Av.o.symm);generalize w9=wv at *;clear z0
      go_loopw [15] (fun i' wr=>∃ k:Nat,k<=n/\i'=.int .i64 k/\(∀ j,j<k->fZ (aW nd (q.ns[j]?.getD ByteArray.empty))=aB [(oa,ob,oz)] j)/\Below wv.heap.size wv wr) (fun i' _=>n-(intOf i').toNat)
      case atStart=>exact⟨0,Yq _,rfl,fun j hj=>absurd hj (by omega),Yg _ _⟩
      case round=>
       obtain⟨k,hk,rfl,Bi,Af⟩:=hrel;have Bg:=Hd Bi;have Ag:=Hd Af;have Al:=Bb.o.trans (Af.mono Bb.o.size);have Cn:=Hd Al;have Ad:=Ae.o.trans (Al.mono Ae.o.size);have Ak:=Hd Ad;have p1:=HP.o wr Al 1;have z0:=HX.o wr Al 0;simp only [Ya,Yb,Yc] at p1 z0
       by_cases Aj:k<n
       . obtain⟨d0,d1,d2,d3,d4⟩:=HD.o wr Ad;obtain⟨sb,so,Cw,Di,Ap⟩:=(HQ.o.below Ad).at_ (i:=k) Aj;have s0:=Ap k Aj;have Bt:=Hd (Bn.o (q.ns[k]?.getD ByteArray.empty));have Aw:=Hd (show ¬ fZ (aW nd (q.ns[k]?.getD ByteArray.empty))=aB [(oa,ob,oz)] k->r=false from fun Dp=>by rw [Bo.o _ Be.o];exact aCm (k:=k) (by have:=Au.o;omega) (by rw [Bq];exact Dp))
         have Ax:=Hd (show fZ (aW nd (q.ns[k]?.getD ByteArray.empty))=aB [(oa,ob,oz)] k->∀ j,j<k+1->fZ (aW nd (q.ns[j]?.getD ByteArray.empty))=aB [(oa,ob,oz)] j from fun he j hj=>by
          rcases Nat.lt_or_ge j k with h | h
          . exact Bg.o j h
          . rw [show j=k by omega];exact he)
         subst Cw;clear Bi Af Al Ad Ap Bg;rw [xK (fun _=>rfl)] at Aw Ax;generalize q.ns[k]?.getD ByteArray.empty=nm at *;generalize aW nd nm=od at *;generalize od.isSome=ds at *;generalize od.getD default=dd at *;generalize Cd:aB [(oa,ob,oz)] k=tw at *;obtain⟨y0,y1,y2⟩:=tw
         go_wp2_with fail
         go_upto_region 22 with(fail)
         refine lO (l:=[_,_,_,_,_,_,_,_,_,_,_,_,_,_,_,_,_]) 14 15 _ _ (d:=16) (tx:=105) (T:=58) (zc:=pT) (by kernel_rfl) rfl rfl (by kernel_rfl) rfl (by simp) (fun a W=>by rfl) rfl (by kernel_rfl) ?_
         repeat
          first
          | refine lW rfl ?_
          | (apply lV rfl rfl (by simp)
             case h1=>
              intro wb hb;have Ac:=cI hb;have l0:=fun d os=>Zr ((Ac.cell (Yi _ _ p1)).trans p1) d os;have l1:=fun d os=>Zr ((Ac.cell (Yi _ _ z0)).trans z0) d os;have l2:=fun d os=>Zr ((Ac.cell (Yi _ _ s0)).trans s0) d os;have m0:=fun d os=>Zr ((Ac.cell (Yi _ _ d0)).trans d0) d os;have m1:=fun d os=>Zr ((Ac.cell (Yi _ _ d1)).trans d1) d os;have m2:=fun d os=>Zr ((Ac.cell (Yi _ _ d2)).trans d2) d os;have m3:=fun d os=>Zr ((Ac.cell (Yi _ _ d3)).trans d3) d os;have m4:=fun d os=>Zr ((Ac.cell (Yi _ _ d4)).trans d4) d os;have h3:=Ak.o.trans (Ac.mono Ak.o.size);have cA:=fun d os=>Zh (Bt.o (grow (redrawn wb d) os) (h3.trans ((Zs wb d os).mono h3.size)));clear h3 Ac
              go_big_quiet_step (with_reducible exact cA _ _)
              refine Xf ?_;simp only [List.getElem?_toArray,Zb,Yz];exact rfl
             simp only [Act.put,Yd,Ye,Yf])
         refine⟨bC dd,rfl,rfl,by simp [bC,Value.oneCell'],fun W g hW hg hz=>?_⟩;have Bh:=Hd (cI hW);have k1:=gV (d:=dd) hz 1;have k2:=gV (d:=dd) hz 2;have k3:=gV (d:=dd) hz 3;simp only [bC,List.getElem?_toArray,Yz,Zb] at k1 k2 k3;have An:=Hd (Ag.o.trans (Bh.o.mono Ag.o.size));have Cc:=Ci.o.below An.o;obtain⟨yb,yo,hS,Cx,Bc⟩:=Cc.at_ (i:=k) Aj;obtain⟨b0,b1,b2⟩:=Bc k Aj;subst hS;rw [Cd] at b0 b1 b2
         dsimp only at b0 b1 b2
         have De:=Hd (Ak.o.trans (Bh.o.mono Ak.o.size));clear Bh Cc Bc Cx Di Cd hW hg hz p1 z0 s0 d0 d1 d2 d3 d4 Bt Cn Ak Ag;generalize dd.k=x0 at *;generalize dd.e=x1 at *;generalize dd.l=x2 at *
         show Exit.then _ _ .normal _ W
         simp only [Act.put,Yd,Ye,Yf];rcases iC x0 x1 x2 y0 y1 y2 with⟨rfl,rfl,rfl,he⟩|⟨h1,he⟩|⟨rfl,h1,he⟩|⟨rfl,rfl,h1,he⟩
         . have Dm:=Hd (Ax.o rfl);clear Ax Aw he
           go_wp2_with fail
           go_quiet (fail)
           go_wp2_with fail
           go_roundw
           case rel=>exact⟨k+1,by omega,by go_num,fun j hj=>Dm.o j hj,aY An.o _⟩
           case measure=>simp [intOf];omega
         all_goals
          have HO:=Hd (Aw.o he);clear Aw Ax he
          go_wp2_with fail
          go_quiet (fail)
          go_wp2_with fail
          go_ret
          exact⟨cR HO.o.symm,aY De.o _⟩
       . have HY:=Hd (show r=true by rw [Bo.o _ Be.o];exact aBi (by rw [Au.o,Ck]) fun j hj=>by rw [Bq];exact Bg.o j (by have:=Au.o;omega));clear Bi Af Al Ad
         go_wp2_with fail
         go_ret
         exact⟨cR HY.o.symm,Ak.o⟩
    . have Cp:((n:Int) != (m:Int))=true:=by rw [bne_iff_ne];omega
      have Co:=Hd (show r=false by rw [Bo.o _ Be.o];exact aBj (by rw [Ck];have:=Av.o;simp only [Yo,Zd];omega));clear Bk
      go_wp2_with (at_builtin;refine wpList_append_own_at _ rfl _ _ 99 rfl w0.heap.size 38 i0 Cm 3 24 Tryz.underlying99 Da Dn Dg Cs Dh (by decide) (.slice (some ⟨w0.heap.size,0,none⟩) 0 0) 0 [] rfl (fK Ah.o ((Yg w2.heap.size w2).alloc (Yh _) (.cells #[.int .i64 oa,.int .i64 ob,.int .i64 oz] 38))) ⟨w2.heap.size,0,none⟩ 1 1 [.int .i64 oa,.int .i64 ob,.int .i64 oz] rfl rfl (fun j u hu=>World.news_of_block (Zw _ _) j u hu) (by simp [Value.oneCell']) (by unfold maxLen;omega) (by omega) (by simp;omega) ?_;intro v' w9 Aa Ab As Aq;have Bx:=Hd Aa;have Bb:=Hd (show Below w0.heap.size w0 w9 from(Ba.o.alloc Ba.o.size _).grown Ab (by simp;omega) (fun j hj=>(Ah.o.lt j hj).1));obtain⟨S,cS,Bz,Ar⟩:=aM.of_own (l:=[(oa,ob,oz)]) (n:=n) (by rw [Av.o];exact Bx.o) (by rw [Av.o];decide);subst Bz;have Ci:=Hd Ar;have z0:=HX.o w9 Bb.o 0;simp only [Ya,Yb,Yc] at z0;clear Ar Aa Ab As Aq)
      go_ret
      exact⟨cR Co.o.symm,Ae.o.trans (Bb.o.mono Ae.o.size)⟩
end
end Go.Proofs.YtegjgiofmpolnaaGreat
