/- A part of the proof. Conditions: each theorem's own. -/
import Derived.Test.YtkbpdoomhfkngaaGreatC20
namespace Go.Proofs.YtkbpdoomhfkngaaGreat
set_option linter.unusedVariables false
set_option linter.unusedSimpArgs false
set_option maxRecDepth 100000
set_option maxHeartbeats 40000000
section
open Go.RowKit Go.Sort Go.BigFrame
theorem aU5{p:Pg}{i j:Nat}(hj:j<(aB p i).all.length)(h:jR p i ((aB p i).all[j]?.getD default)=false):fG p i=((i:Int),-1,7):=by
 unfold fG;exact aMk
theorem aHr{p:Pg}{i:Nat}(h0:∀a,a<(aB p i).all.length->jR p i ((aB p i).all[a]?.getD default)=true):fG p i=dY ((0,0,0):Fl) (jP p i) (aB p i).eqs.length:=by
 unfold fG;rw[if_neg];refine fun hf=>?_
 have:(aB p i).all.all (jR p i)=true:=Zg.2 fun x hx=>by
  exact aNs
 rw[this]at hf;cases hf
theorem aXs{p:Pg}{i j:Nat}(h0:∀a,a<(aB p i).all.length->jR p i ((aB p i).all[a]?.getD default)=true)(hj:j<(aB p i).eqs.length)(hn:∀a,a<j->jB p i ((aB p i).eqs[a]?.getD default)=true)(h:jB p i ((aB p i).eqs[j]?.getD default)=false):fG p i=((i:Int),(j:Int),7):=by
 rw[aHr h0,lN hj (fun a ha=>by unfold jP;rw[if_pos (hn a ha)])]
 . unfold jP;rw[h];rfl
 . unfold jP;exact aOm
theorem aXt{p:Pg}{i:Nat}(h0:∀a,a<(aB p i).all.length->jR p i ((aB p i).all[a]?.getD default)=true)(h1:∀a,a<(aB p i).eqs.length->jB p i ((aB p i).eqs[a]?.getD default)=true):fG p i=(0,0,0):=by
 rw[aHr h0];exact kH fun a ha=>by unfold jP;rw[if_pos (h1 a ha)]
theorem aU6{p:Pg}{k:Nat}{r:Fl}(h0:dR p=(0,0,0))(hk:k<p.ns.length)(hn:∀a,a<k->fG p a=(0,0,0))(h:fG p k=r)(hr:r.2.2=7):dS p=r:=by
 unfold dS;exact aN4
theorem aXu{p:Pg}(h0:dR p=(0,0,0))(hn:∀a,a<p.ns.length->fG p a=(0,0,0)):dS p=(0,0,0):=by
 unfold dS;rw[if_pos h0];exact kH hn
theorem aU7{p:Pg}(h0:¬dR p=(0,0,0)):dS p=dR p:=by
 unfold dS;rw[if_neg h0]
theorem bEa(o:Option (Int × Int × Int)):lG o=.tuple #[.agg (aF (nV o).1 (nV o).2.1 0),.int .i64 ((o.map (·.2.2)).getD 0),.bool o.isSome]:=aAs
theorem bEb(o:Option (Int × Int × Int)):nV o=((nV o).1,(nV o).2.1,0):=aAs
theorem aU8(p:Pg)(E:Option Addr)(ec:Nat)(N:Option Addr)(nc:Nat)(w:World)(h:cJ w p E N)(ht:gU p)
 (hq:dR p=(0,0,0)->∀ i j,i<p.ns.length->j<(aB p i).eqs.length->∀ BN cN A ca B cb w1,Below w.heap.size w w1->aP w1 BN ((aB p i).eqs[j]?.getD default).ns.length ((aB p i).eqs[j]?.getD default).ns->aH w1 ((aB p i).eqs[j]?.getD default).x A B ->
  Calls Tryz.prog 36 #[.agg (aK p E ec N nc),.int .i64 i,.agg (dW ((aB p i).eqs[j]?.getD default) BN cN A ca B cb)] w1 fun e w'=>e=.returned (.bool (jB p i ((aB p i).eqs[j]?.getD default)))/\Below w1.heap.size w1 w'):
 Calls Tryz.prog 20 #[.agg (aK p E ec N nc)] w fun e w'=>e=.returned (jS (dS p))/\Below w.heap.size w w':=by
 have HF:=Hd fun w1 hw=>kW w p E ec N nc w1 hw h;have Fr:=Hd fun w1 (a:Below w.heap.size w w1)=>aUx p E ec N nc w1 (h.below a) ht;have Hc:=Hd yE;have Cs:=Hd fun k r h0 hk hn h hr=>aU6 (p:=p) (k:=k) (r:=r) h0 hk hn h hr;have Cj:=Hd fun h0 hn=>aXu (p:=p) h0 hn;have Gr:=Hd fun h0=>aU7 (p:=p) h0;have Oo:=Hd fun i (hi:i<p.ns.length)=>(mH (ht.2.2 i hi)).1;have Pr:=Hd fun w1 (a:Below w.heap.size w w1)=>(show bU w1 E p.es.length p.es from(h.below a).1);have Eg:=Hd h.2;have HQ:=Hd hq;have Qh:=aI.max h.2;clear h ht hq;unfold jS at Fr;generalize dS p=Bu at *;generalize dR p=cs at *;obtain⟨fa,fb,fc⟩:=cs;unfold aK at HF Fr HQ⊢;generalize Ql:p.ns.length=pn at *;generalize Qj:p.es.length=pe at *;go_in
 go_upto_region 1 with(fail);generalize Ag:w.alloc _=w1;obtain⟨Aa,Ps,Av,Aq⟩:=HF.o w1 Ag;generalize Br:w1.alloc _=w2;obtain⟨Ad,Oi,hg2⟩:=lV Br;simp only[Ps]at Oi;have Ce:=Hd Oi;have Aj:=Hd (Aa.tr Ad);have Oa:=Hd fun W (b:Below w2.heap.size w2 W) j=>Aq W (Ad.tr b) j;have y0:=Oa.o w2 (Yg _ _) 0;have y1:=Oa.o w2 (Yg _ _) 1;simp only[Ya,Yb,Yc]at y0 y1;have Pn:=Hd (Fr.o w2 Aj.o);clear Ag Br Aq Aa Ad Av HF hg2 Oi Fr;go_wp2_with fail;refine Pn.o.mono ?_;rintro e w3 ⟨rfl,Ak⟩;have Ax:=Hd (Aj.o.tr Ak);have Px:=Hd (Ce.o.below Ak);have Gj:=Hd fun W (b:Below w3.heap.size w3 W) j=>Oa.o W (Ak.tr b) j;clear Ak y0 y1 Oa Pn Ce;simp only[aF];go_upto_region 2 with(fail);generalize Jy:w3.alloc _=w8;have Hn:Below w3.heap.size w3 w8:=aE5;have Oy:F3 30 w8 w3.heap.size fa fb fc:=aE6;obtain⟨z0,z1,z2,-,-,-⟩:=Sx Oy.cell;simp only[aF,List.getElem?_toArray,Yz,Zb]at z0 z1 z2;have Jq:=Hd (Ax.o.tr Hn);have Je:=Hd (Px.o.below Hn);have Jx:=Hd fun W (b:Below w8.heap.size w8 W) j=>Gj.o W (Hn.tr b) j;clear Jy Hn Oy Gj;by_cases hz:((fa,fb,fc):Fl)=(0,0,0)
 . have Py:=hz;injection hz with ha Iv;injection Iv with hb hc;subst ha hb hc;go_wp2_with fail;clear Py z0 z1 z2;go_loopw [4] (fun c wr=>∃k:Nat,k<=pn/\c=.int .i64 k/\(∀a,a<k->fG p a=(0,0,0))/\Below w8.heap.size w8 wr) (fun c _=>pn-(intOf c).toNat)
   case atStart=>exact⟨0,Yq _,rfl,fun a ha=>absurd ha aA,Yg _ _⟩
   case round=>
    obtain⟨k,hk,rfl,Bc,Ay⟩:=hrel;have Cg:=Hd Bc;have Cm:=Hd Ay;have Fb:=Hd (Jq.o.tr Ay);have Db:=Hd (Je.o.below Ay);have y0:=Jx.o wr Ay 0;have y1:=Jx.o wr Ay 1;simp only[Ya,Yb,Yc]at y0 y1;clear Bc Ay;by_cases Ah:k<pn
    . obtain⟨nb,no,A1,c1,A2,c2,A3,c3,A4,c4,rfl,Nw,Ap,d0,d1,d2,d3,d4⟩:=iR Eg.o Ah;have Eb:aB p k=p.ns[k]?.getD default:=rfl;have Nz:=Hd fun w1 (hb:Below w.heap.size w w1)=>tE (aB p k) A1 c1 A2 c2 A3 c3 A4 c4 w1 (Ap.below hb) (Oo.o k Ah);have Dv:=Hd fun s w1 (hb:Below w.heap.size w w1)=>pT (aB p k) A1 c1 A2 c2 A3 c3 A4 c4 s w1 (Ap.below hb) (Oo.o k Ah);have Ot:=Hd (show gN w A4 (aB p k).eqs.length (aB p k).eqs from Ap.2.2.2);have Ph:=Hd fun j=>HQ.o pF k j Ah;have Ny:=Hd fun j (hj:j<(aB p k).all.length)(h:jR p k ((aB p k).all[j]?.getD default)=false)=>Cs.o k _ pF Ah Cg.o (aU5 hj h) rfl;have Nu:=Hd fun j h0 (hj:j<(aB p k).eqs.length) hn (h:jB p k ((aB p k).eqs[j]?.getD default)=false)=>Cs.o k _ pF Ah Cg.o (aXs h0 hj hn h) rfl;have Jz:=Hd fun h0 h1=>dC (P:=fun a=>fG p a=(0,0,0)) Cg.o (aXt (p:=p) (i:=k) h0 h1);have Cc:=Hd fun d=>(show jR p k d=((d.on.toList==[]) || decide (gZ (aZ (aB p k) d.on)=nV (bP p.es d.ct)))from rfl);rw[Eb]at Nz Dv Ot Ph Ny Nu Jz Cc;unfold nL kY at Dv;unfold uT at Nz;clear Ap Eb Oo HQ Cs Cg
      have HD:=Hd (show ∀ w1,Below w.heap.size w w1->w1.cell? ⟨nb,no+k*5,none⟩=some (.string (p.ns[k]?.getD default).nm)/\w1.cell? ⟨nb,no+k*5+1,none⟩=some (.slice A1 (p.ns[k]?.getD default).ins.length c1)/\w1.cell? ⟨nb,no+k*5+2,none⟩=some (.slice A2 (p.ns[k]?.getD default).outs.length c2)/\w1.cell? ⟨nb,no+k*5+3,none⟩=some (.slice A3 (p.ns[k]?.getD default).vars.length c3)/\w1.cell? ⟨nb,no+k*5+4,none⟩=some (.slice A4 (p.ns[k]?.getD default).eqs.length c4) from
       fun w1 hb=>⟨(hb.cell (p:=⟨nb,no+k*5,none⟩) Nw).trans d0,(hb.cell (p:=⟨nb,no+k*5+1,none⟩) Nw).trans d1,(hb.cell (p:=⟨nb,no+k*5+2,none⟩) Nw).trans d2,(hb.cell (p:=⟨nb,no+k*5+3,none⟩) Nw).trans d3,(hb.cell (p:=⟨nb,no+k*5+4,none⟩) Nw).trans d4⟩)
      clear d0 d1 d2 d3 d4;generalize p.ns[k]?.getD default=nd at *;unfold bK at Dv Nz;unfold aU at Dv;obtain⟨d0,d1,d2,d3,d4⟩:=HD.o wr Fb.o;have Pc:=Hd (Nz.o wr Fb.o);generalize nd.all=al at *;generalize Qd:al.length=an at *;generalize jR p k=on at *;generalize jB p k=Ol at *;go_wp2_with fail;refine Pc.o.mono ?_;rintro e w5 ⟨LA,LC,rfl,Pb,Bv⟩;have Oz:=Hd Pb;have Oj:=Hd (Cm.o.tr Bv);have Ck:=Hd (Fb.o.tr Bv);have Qc:=Hd (Db.o.below Bv);clear Pb Bv y0 y1 d0 d1 d2 d3 d4 Pc Nz Db;generalize wr=wo at *;have Qe:=aI.max Oz.o;go_wp2_with fail;go_loopw [6] (fun c wr=>∃j:Nat,j<=an/\c=.int .i64 j/\(∀a,a<j->on (al[a]?.getD default)=true)/\Below w5.heap.size w5 wr) (fun c _=>an-(intOf c).toNat)
      case atStart=>exact⟨0,Yq _,rfl,fun a ha=>absurd ha aA,Yg _ _⟩
      case round=>
       obtain⟨j,hj,rfl,Od,Bp⟩:=hrel;have Pp:=Hd Od;have Pd:=Hd Bp;have Nx:=Oj.o.tr Bp;have Nv:=Hd Nx;have Ob:=Hd (Ck.o.tr Bp);have Pf:=Hd (Qc.o.below Bp);have y0:=Jx.o wr Nx 0;have y1:=Jx.o wr Nx 1;simp only[Ya,Yb,Yc]at y0 y1;by_cases On:j<an
       . obtain⟨lb,lo,Pq,Ow,Oh⟩:=aI.at_ Oz.o aA;have s4:=(Bp.cell (p:=⟨lb,lo+j*6+4,none⟩) Ow).trans (Oh j On 4 _ rfl);have s5:=(Bp.cell (p:=⟨lb,lo+j*6+5,none⟩) Ow).trans (Oh j On 5 _ rfl);subst Pq;have Oe:=Hd (Ny.o j On);have Nt:=Hd fun hz=>dC (P:=fun a=>on (al[a]?.getD default)=true) Pp.o hz;have Oc:=Hd (Cc.o (al[j]?.getD default));clear Od Bp Nx Oh Ow;generalize al[j]?.getD default=d at *;by_cases he:d.on.toList=[]
         . have Dg:=Hd (Nt.o (by rw[Oc.o,he];rfl));have Qg:(d.on.toList==[])=true:=by rw[he];rfl
           have Pw:d.on.toList.isEmpty=true:=by rw[he];rfl
           clear he Nt Oc Oe;generalize d.on=Ho at *;go_wp2_with fail;go_roundw;case rel=>exact⟨j+1,by omega,by go_num,Dg.o,Pd.o⟩
           case measure=>simp[intOf];omega
         . have Pe:(d.on.toList==[])=false:=by simpa using he
           have Pw:d.on.toList.isEmpty=false:=by cases hh:d.on.toList with|nil=>exact absurd hh he|cons a b=>rfl
           have Ee:=Hd (show on d=decide (gZ (aZ nd d.on)=nV (bP p.es d.ct))by rw[Oc.o,Pe];rfl);have Lz:=Hd (Dv.o d.on);have Cq:=Hd fun w1 (hb:Below w.heap.size w w1)=>rG E pe ec p.es d.ct w1 (Pr.o w1 hb);clear he Pe Oc;simp only[bEa]at Cq;rw[aCt (fun _=>rfl),bEb]at Ee;generalize d.on=Ho at *;generalize d.ct=Pz at *;generalize aZ nd Ho=od at *;generalize od.isSome=ds at *;generalize od.getD default=dd at *;generalize bP p.es Pz=ar at *;generalize (nV ar).1=a0 at *;generalize (nV ar).2.1=a1 at *;generalize (ar.map (·.2.2)).getD 0=a2 at *;generalize ar.isSome=Qf at *;have Om:=Hd (show((dd.k,dd.e,dd.l):T3)=(a0,a1,0)->on d=true from fun h=>by rw[Ee.o,h];simp);have Ok:=Hd (show ¬((dd.k,dd.e,dd.l):T3)=(a0,a1,0)->on d=false from fun h=>by rw[Ee.o,Zz h]);clear Ee;obtain⟨d0,d1,d2,d3,d4⟩:=HD.o wr Ob.o;have Og:=Hd s5;clear s5;unfold aF at Cq;go_wp2_with fail;go_upto_region 12 with(fail);refine kF (l:=[_,_,_,_,_,_,_,_,_,_,_,_,_,_,_,_,_]) 14 15 _ _ (d:=7) (tx:=56) (T:=43) (zc:=dcZ) aC rfl rfl aC rfl aG (fun a W=>by rfl) rfl aC ?_
           repeat
            first
            |refine kJ rfl ?_
            | (apply kI rfl rfl aG
               case h1=>
                intro wb hb;have Bn:=cU hb;have l0:=fun d os=>Zs ((Bn.cell (Yi _ _ y1)).trans y1) d os;have l1:=fun d os=>Zs ((Bn.cell (Yi _ _ s4)).trans s4) d os;have l2:=fun d os=>Zs ((Bn.cell (Yi _ _ d0)).trans d0) d os;have l3:=fun d os=>Zs ((Bn.cell (Yi _ _ d1)).trans d1) d os;have l4:=fun d os=>Zs ((Bn.cell (Yi _ _ d2)).trans d2) d os;have l5:=fun d os=>Zs ((Bn.cell (Yi _ _ d3)).trans d3) d os;have l6:=fun d os=>Zs ((Bn.cell (Yi _ _ d4)).trans d4) d os;have h3:=Ob.o.tr Bn;have cA:=fun d os=>Zi (Lz.o (grow (redrawn wb d) os) (h3.trans ((Zt wb d os).mono h3.size)));exact tO
               simp only[Act.put,Yd,Ye,Yf])
           refine⟨aU dd,rfl,rfl,by simp[aU,Value.oneCell'],fun W g hW hg hz=>?_⟩;have Cp:=cU hW;have k1:=jT (d:=dd) hz 1;have k2:=jT (d:=dd) hz 2;have k3:=jT (d:=dd) hz 3;simp only[aU,List.getElem?_toArray,Yz,Zb]at k1 k2 k3;have Pi:=Hd (Ob.o.tr Cp);have Ou:=Hd (Pd.o.tr Cp);have Pj:=Nv.o.tr Cp;have x0:=Jx.o W Pj 0;simp only[Ya,Yb,Yc]at x0;have s5:=(Cp.cell (Yi _ _ Og.o)).trans Og.o;have Ox:=Hd (Pf.o.below Cp);clear hW hg hz Cp Pj y0 y1 s4 d0 d1 d2 d3 d4 Lz Og;show Exit.then _ _ .normal _ W;simp only[Act.put,Yd,Ye,Yf];go_upto_region 13 with(fail);refine kF (l:=[_,_,_,_,_,_,_,_,_,_,_,_,_,_,_,_]) 12 13 _ _ (d:=9) (tx:=67) (T:=41) (zc:=aF 0 0 0) aC rfl rfl aC rfl aG (fun a W=>by rfl) rfl aC ?_
           repeat
            first
            |refine kJ rfl ?_
            | (apply kI rfl rfl aG
               case h1=>
                intro wb hb;have Bn:=cU hb;have l0:=fun d os=>Zs ((Bn.cell (Yi _ _ x0)).trans x0) d os;have l1:=fun d os=>Zs ((Bn.cell (Yi _ _ s5)).trans s5) d os;have h3:=Pi.o.tr Bn;have cA:=fun d os=>Zi (Cq.o (grow (redrawn wb d) os) (h3.trans ((Zt wb d os).mono h3.size)));exact tO
               simp only[Act.put,Yd,Ye,Yf])
           refine⟨aF a0 a1 0,rfl,rfl,by simp[aF,Value.oneCell'],fun W2 g2 hW hg hz=>?_⟩;have Cp:=cU hW;have HZ:=Hd (show F3 41 W2 g2 a0 a1 0 from hz);obtain⟨f0,f1,f2,-,-,-⟩:=Sx HZ.o.cell;simp only[aF,List.getElem?_toArray,Yz,Zb]at f0 f1 f2;have m1:=(Cp.cell (Yi _ _ k1)).trans k1;have m2:=(Cp.cell (Yi _ _ k2)).trans k2;have m3:=(Cp.cell (Yi _ _ k3)).trans k3;have Qb:=Hd (Pi.o.tr Cp);have Ov:=Hd (Ou.o.tr Cp);have Ew:=Hd (Ox.o.below Cp);clear hW hg hz Cp x0 s5 k1 k2 k3 Cq HZ Ox;generalize dd.k=e0 at *;generalize dd.e=e1 at *;generalize dd.l=e2 at *;show Exit.then _ _ .normal _ W2;simp only[Act.put,Yd,Ye,Yf];rcases jD e0 e1 e2 a0 a1 0 with⟨rfl,rfl,rfl,he⟩|⟨h1,he⟩|⟨rfl,h1,he⟩|⟨rfl,rfl,h1,he⟩
           . have Dg:=Hd (Nt.o (Om.o rfl));clear Om Ok Nt Oe he;go_wp2_with fail;go_roundw;case rel=>exact⟨j+1,by omega,by go_num,Dg.o,Ov.o⟩
             case measure=>simp[intOf];omega
           all_goals
            have HR:=Hd (Oe.o (Ok.o he));clear Om Ok Nt Oe he;go_wp2_with fail;refine(Hc.o k (-1) 7 W2).mono ?_;rintro e wz ⟨rfl,Ej⟩;have Es:=Hd (Ew.o.below Ej);have Hk:=Hd (Qb.o.tr Ej);clear Ej;go_wp2_with (refine Zv rfl _ _ _ rfl (w.heap.size+1) _ rfl rfl _ _ Es.o eT rfl fI ?_);exact Zu (fC (p:=2) rfl _ _ (w.heap.size+1) k (-1) 7 rfl (Es.o.set _ _ _)) rfl ⟨by rw[HR.o];rfl,Xc Hk.o (Nat.le_succ _) _⟩
       . have Kz:j=an:=by omega
         subst Kz;have Dl:=Hd Od;have Qi:=aI.max Ot.o;generalize Qk:nd.eqs.length=en at *;clear Od Bp Nx y0 y1;generalize wr=wi at *;go_wp2_with fail;go_loopw [12] (fun c wr=>∃q:Nat,q<=en/\c=.int .i64 q/\(∀a,a<q->Ol (nd.eqs[a]?.getD default)=true)/\Below wi.heap.size wi wr) (fun c _=>en-(intOf c).toNat)
         case atStart=>exact⟨0,Yq _,rfl,fun a ha=>absurd ha aA,Yg _ _⟩
         case round=>
          obtain⟨q,hq,rfl,Lf,Ge⟩:=hrel;have Kp:=Hd Lf;have Kw:=Nv.o.tr Ge;have Mj:=Hd Kw;have Pu:=Hd Ge;have Gt:=Ob.o.tr Ge;have Oq:=Hd Gt;have Db:=Hd (Pf.o.below Ge);have y0:=Jx.o wr Kw 0;have y1:=Jx.o wr Kw 1;simp only[Ya,Yb,Yc]at y0 y1;have d4:=(HD.o wr Gt).2.2.2.2;by_cases Of:q<en
          . obtain⟨qb,qo,Qa,Bx,Pa⟩:=aI.at_ Ot.o aA;obtain⟨BN,cN,A',ca,B',cb,Fc,Pm,e0,e1,e2,e3,e4,e5,e6⟩:=(Pa q Of).seven;subst Qa;have u0:=(Gt.cell (p:=⟨qb,qo+q*7,none⟩) Bx).trans e0;have u1:=(Gt.cell (p:=⟨qb,qo+q*7+1,none⟩) Bx).trans e1;have u2:=(Gt.cell (p:=⟨qb,qo+q*7+2,none⟩) Bx).trans e2;have u3:=(Gt.cell (p:=⟨qb,qo+q*7+3,none⟩) Bx).trans e3;have u4:=(Gt.cell (p:=⟨qb,qo+q*7+4,none⟩) Bx).trans e4;have u5:=(Gt.cell (p:=⟨qb,qo+q*7+5,none⟩) Bx).trans e5;have u6:=(Gt.cell (p:=⟨qb,qo+q*7+6,none⟩) Bx).trans e6;have Pk:=Hd fun w1 (hb:Below w.heap.size w w1)=>Ph.o q Of BN cN A' ca B' cb w1 hb (Fc.below hb) (Pm.below hb);have Pv:=Hd (Nu.o q Dl.o Of Kp.o);have Lq:=Hd fun hz=>dC (P:=fun a=>Ol (nd.eqs[a]?.getD default)=true) Kp.o hz;clear e0 e1 e2 e3 e4 e5 e6 Fc Pm Pa Bx Lf Ge Kw Gt Kp;generalize nd.eqs[q]?.getD default=qq at *;unfold dW at Pk;generalize Ol qq=bm at *;go_wp2_with fail;go_upto_region 19 with(fail);have l0:=fun d os=>Zs y0 d os;have l1:=fun d os=>Zs y1 d os;have l2:=fun d os=>Zs d4 d os;have m0:=fun d os=>Zs u0 d os;have m1:=fun d os=>Zs u1 d os;have m2:=fun d os=>Zs u2 d os;have m3:=fun d os=>Zs u3 d os;have m4:=fun d os=>Zs u4 d os;have m5:=fun d os=>Zs u5 d os;have m6:=fun d os=>Zs u6 d os;have Gs:=Hd fun d os=>Zt wr d os;have cA:=fun d os=>Zi (Pk.o (grow (redrawn wr d) os) (Oq.o.trans ((Zt wr d os).mono Oq.o.size)));refine Xa aC aC ?_;repeat (go_big_quiet_step (with_reducible exact cA _ _))
            refine Xg ?_;intro _ Cr;obtain⟨⟨Gw,Dz⟩,Ct⟩:=Cr;have Bg:=Gs.o Gw Dz;rw[<-Ct]at Bg;clear cA l0 l1 l2 m0 m1 m2 m3 m4 m5 m6 Ct y0 y1 d4 u0 u1 u2 u3 u4 u5 u6 Gs;rename_i w9;have Po:=Hd (Oq.o.tr Bg);have Ml:=Hd (Pu.o.tr Bg);have Le:=Hd (Db.o.below Bg);clear Bg;cases bm with
            |true=>
             exact aM8
            |false=>
             have HR:=Hd (Pv.o rfl);go_wp2_with fail;refine(Hc.o k q 7 w9).mono ?_;rintro e wz ⟨rfl,Ej⟩;have Es:=Hd (Le.o.below Ej);have Hk:=Hd (Po.o.tr Ej);clear Ej;go_wp2_with (refine Zv rfl _ _ _ rfl (w.heap.size+1) _ rfl rfl _ _ Es.o eT rfl fI ?_);exact Zu (fC (p:=2) rfl _ _ (w.heap.size+1) k q 7 rfl (Es.o.set _ _ _)) rfl ⟨by rw[HR.o];rfl,Xc Hk.o (Nat.le_succ _) _⟩
          . exact aL9
    . exact aQ6
 . exact aP4
theorem sZ{p:Pg}(h:dR p=(0,0,0)):eJ p=0:=by
 unfold dR at h;split at h;· assumption
 . have:=congrArg (·.2.1) h
   simp at this
theorem yH{p:Pg}{i:Nat}(ht:gU p)(h0:eJ p=0)(hi:i<p.ns.length):(∀s d,aZ (aB p i) s=some d->bQ p.es.length d.k d.e d.l=true)/\∀j,j<(aB p i).eqs.length->mT ((aB p i).eqs[j]?.getD default).x:=by
 have hx:aB p i∈p.ns:=by
  exact aEi
 unfold eJ qC at h0;split at h0<;>try (rename_i he;exact absurd h0 he)
 split at h0<;>try (cases h0;done)
 split at h0<;>try (cases h0;done)
 split at h0<;>try (cases h0;done)
 split at h0<;>try (cases h0;done)
 rename_i hr;have h1:=Zg.1 hr _ hx;unfold gT at h1;simp only[Ys]at h1;refine⟨fun s d hd=>?_,fun k hk=>?_⟩
 . unfold aZ at hd;have h2:=Zg.1 h1.1.1.1.1 d (List.mem_of_find?_eq_some hd);unfold eW at h2;simp only[Ys]at h2;simp only[h2]
 . have hm:(aB p i).eqs[k]?.getD default∈(aB p i).eqs:=by
    rw[Yk hk];exact Zh hk
   have h3:=Zg.1 h1.1.1.2 _ hm;unfold hM at h3;simp only[Ys]at h3;have h4:=h3.1.2;unfold bH at h4;simp only[Ys]at h4;have hq:=(ht.2.2 i hi).2.2.2.2.2 k hk;exact⟨uM hq.2.1,fun z hz=>⟨aBd hq.2.1 z hz,Zg.1 h4.2 z hz⟩⟩
theorem aL0(p:Pg)(E:Option Addr)(ec:Nat)(N:Option Addr)(nc:Nat)(i:Nat)(x:Ex)(A:Option Addr)(ca:Nat)(B:Option Addr)(cb:Nat)(w:World)(h:cJ w p E N)(hx:aH w x A B)(ht:gU p)(h0:eJ p=0)(hi:i<p.ns.length)(hg:mT x):
 Calls Tryz.prog 58 #[.agg (aK p E ec N nc),.int .i64 i,.agg (aE x A ca B cb)] w (bF w (cZ p i x)):=
 aK0 p E ec N nc i x A ca B cb w hi (aI.max h.2) _ fun w1 hb=>bGp p E ec N nc i hi (aI.max h.2) (mH (ht.2.2 i hi)).1 (yH ht h0 hi).1 (bHo p E ec N nc i) x A ca B cb w1 (h.below hb) (hx.below hb) hg
theorem bGt(p:Pg)(E:Option Addr)(ec:Nat)(N:Option Addr)(nc:Nat)(i:Nat)(q:Qn)(BN:Option Addr)(cN:Nat)(A:Option Addr)(ca:Nat)(B:Option Addr)(cb:Nat)(w:World)(h:cJ w p E N)(hn:aP w BN q.ns.length q.ns)(hx:aH w q.x A B)(ht:gU p)(h0:eJ p=0)(hi:i<p.ns.length)(hg:mT q.x)(Bx:q.ns.length<=1000):
 Calls Tryz.prog 36 #[.agg (aK p E ec N nc),.int .i64 i,.agg (dW q BN cN A ca B cb)] w fun e w'=>e=.returned (.bool (jB p i q))/\Below w.heap.size w w':=by
 have Aq:q.x.subs.length<=1000000:=by
  have h1:=aBw q.x.subs;have h2:=mF q.x;have h3:=hg.1;omega
 exact bD9 p E ec N nc i q BN cN A ca B cb w h hn hi (mH (ht.2.2 i hi)).1 (vC hg.self.2) Bx (fun j hj=>Yp (nM (ht.2.2 j hj).2.1).2 bS)
  (fun w1 hb=>aL0 p E ec N nc i q.x A ca B cb w1 (h.below hb) (hx.below hb) ht h0 hi hg)
  (fun w1 hb=>aIr p E ec N nc i q.x A ca B cb w1 (hx.below hb) q.x.subs.length rfl Aq (q.x.subs.map (cZ p i)) aG _ rfl (fun k hk A' Bp B' Jx w2 Ad Ap=>by
   rw[vI hk];exact aL0 p E ec N nc i (aM q.x k) A' Bp B' Jx w2 (h.below (hb.tr Ad)) (Ap.below Ad) ht h0 hi (hg.sub hk))) _ rfl
theorem aXv(p:Pg)(E:Option Addr)(ec:Nat)(N:Option Addr)(nc:Nat)(w:World)(h:cJ w p E N)(ht:gU p):
 Calls Tryz.prog 20 #[.agg (aK p E ec N nc)] w fun e w'=>e=.returned (jS (dS p))/\Below w.heap.size w w':=
 aU8 p E ec N nc w h ht fun hs i j hi hj BN cN A ca B cb w1 hb hn hx=>
  bGt p E ec N nc i _ BN cN A ca B cb w1 (h.below hb) hn hx ht (sZ hs) hi ((yH ht (sZ hs) hi).2 j hj) (Yp ((ht.2.2 i hi).2.2.2.2.2 j hj).1 bS)
end
def eP(t:T3)(l:List T3):Bool:=l.all fun u=>decide (u=t)
theorem aXw(l:List T3):eA l=eP (aD l 0) l:=rfl
theorem pW(t u:T3):eP t [u]=decide (u=t):=by simp[eP]
theorem aK4{t:T3}{l:List T3}{i:Nat}(h:i<l.length)(hn:¬aD l i=t):eP t l=false:=by
 unfold eP;exact aN7
theorem bA3{t:T3}{l:List T3}(h:∀j,j<l.length->aD l j=t):eP t l=true:=by
 unfold eP;rw[Zg];intro u hu;obtain⟨j,hj,rfl⟩:=Zj hu;rw[<-rP hj];simpa using h j hj
theorem zM{α:Type}:∀{l:List α},l.length=2->∃a b,l=[a,b]
 |[a,b],_=>⟨a,b,rfl⟩
 |[],h=>by simp at h
 |[a],h=>by simp at h
 |a::b::c::l,h=>by simp at h
theorem aCa{α:Type}:∀(l:List (Option α))(o:Option α),bV (l++[o])=match bV l with|none=>none|some ts=>o.map fun a=>ts++[a]
 |[],o=>by cases o<;>rfl
 |none::l,o=>rfl
 |some a::l,o=>by
  simp only[Yv,bV,aCa l o];cases bV l with
  |none=>rfl
  |some ts=>cases o<;>rfl
def qH(rs:List (T3 × Int)):Option (List Int × T3):=if eA (rs.map (·.1))=true then some (rs.map (·.2),aD (rs.map (·.1)) 0)else none
def nX(es:List En)(l:List Ex):Option (List Int × T3):=match bV (l.map (dU es))with|none=>none|some rs=>qH rs
theorem aJ0{ts:List T3}{t:T3}(h:0<ts.length):aD (ts++[t]) 0=aD ts 0:=by
 unfold aD;rw[List.getElem?_append_left h]
theorem aXx{ts:List T3}{t:T3}(h:0<ts.length):eA (ts++[t])=(eA ts && decide (t=aD ts 0)):=by
 unfold eA;rw[List.all_append,aJ0 h];simp
theorem aJ1(es:List En)(l:List Ex):∀k,k<=l.length->iD es l k=nX es (l.take k)
 |0,_=>rfl
 |k+1,hk=>by
  have ih:=aJ1 es l k aA;have hx:l.take (k+1)=l.take k++[l[k]?.getD default]:=by
   rw[List.take_succ_eq_append_getElem aA,Yk aA];rfl
  rw[iD,ih,hx];unfold nX;rw[Zq,Xh,List.map_nil,aCa];cases hs:bV ((l.take k).map (dU es))with
  |none=>rfl
  |some rs=>
   have hl:rs.length=k:=by
    have:=rF hs
    rw[List.length_map,List.length_take]at this;omega
   cases ht:dU es (l[k]?.getD default)with
   |none=>
    simp only[Option.map_none];unfold qH;split<;>rfl
   |some t=>
    simp only[Option.map_some];unfold qH;rw[Zq,Zq];simp only[Xh,List.map_nil];by_cases h0:k=0
    . subst h0;obtain rfl:rs=[]:=List.length_eq_zero_iff.1 hl;simp[eA,aD]
    . have hp:0<(rs.map (·.1)).length:=by rw[List.length_map];omega
      rw[aXx hp,aJ0 hp];cases ha:eA (rs.map (·.1))with
      |false=>simp
      |true=>
       simp only[if_true,Bool.true_and];by_cases he:t.1=aD (rs.map (·.1)) 0;· rw[if_neg (by simp[he]),if_pos (by simp[he]),he]
       . rw[if_pos ⟨by omega,he⟩,if_neg sH]
theorem bA4(es:List En)(x:Ex):nX es [x]=(dU es x).map fun r=>([r.2],r.1):=by
 unfold nX;simp only[Xh,List.map_nil];cases dU es x with
 |none=>rfl
 |some r=>simp[bV,qH,eA,aD]
theorem aCu(es:List En)(l:List Ex):iD es l l.length=nX es l:=by
 have:=aJ1 es l l.length (Yh _)
 rwa[List.take_length]at this
theorem aU9{l:List Ex}{x:Ex}(h:x∈l):iA x<=gP l:=by
 induction l with
 |nil=>cases h
 |cons y l ih=>
  simp only[gP];exact aOr
theorem aIv{x:Ex}(h:bH x=true){k:Nat}(hk:k<x.subs.length):bH (aM x k)=true:=by
 unfold bH at h⊢;simp only[Ys,Bool.not_eq_true',decide_eq_false_iff_not,Zg]at h⊢;have hm:=oL hk;refine⟨⟨?_,?_⟩,fun p hp=>h.2 p ?_⟩
 . have:=pQ hm;omega
 . have:=aU9 hm
   have h2:=uR x;omega
 . rw[qW];exact Zf _ (aBs hk hp)
theorem aXy{x y:Ex}(h:bH x=true)(hy:y∈x.subs):bH y=true:=by
 obtain⟨k,hk,rfl⟩:=Zj hy
 have:=aIv h hk
 unfold aM at this;rwa[Yk hk]at this
theorem bEc{es:List En}{x:Ex}{r:T3 × Int}(h:dU es x=some r):r.1.2.2=0:=by
 unfold dU at h;split at h;· injection h with h;subst h;rfl
 split at h;· injection h with h;subst h;rfl
 split at h;· injection h with h;subst h;rfl
 obtain⟨q,_,rfl⟩:=Option.map_eq_some_iff.1 h;rfl
theorem aJ2{p:Pg}{i:Nat}{x:Ex}(hr:bH x=true)(hl:cV x=true)(hk:x.k=1\/x.k=2\/x.k=4):cZ p i x=(dU p.es x).map (·.1):=by
 rw[lP,<-uW hk];have hc:dQ x=true:=by
  unfold dQ;rw[if_neg aPm];exact hl
 rw[xM (by rw[hr,hc];rfl) aPm];cases dU p.es x<;>rfl
theorem aK5{p:Pg}{i:Nat}{x:Ex}(hr:bH x=true)(hl:cV x=true){r:T3 × Int}(h:dU p.es x=some r):cZ p i x=some r.1:=by
 by_cases h5:x.k=5
 . have Aq:=hl;unfold cV at Aq;rw[if_pos (by rw[h5];rfl)]at Aq;simp only[Ys,beq_iff_eq]at Aq;obtain⟨⟨ho,hn⟩,h1⟩:=Aq;have Bp:cZ p i (aM x 0)=some (1,0,0):=by
    rw[aJ2 (aIv hr aA) (by unfold cV;rw[h1];rfl) (.inl h1)];unfold dU;rw[h1];rfl
   obtain⟨y,hy⟩:∃y,x.subs=[y]:=List.length_eq_one_iff.1 hn;have hs:aM x 0=y:=by unfold aM;rw[hy];rfl
   rw[hs]at Bp;have hq:bV (x.subs.map (cZ p i))=some [(1,0,0)]:=by rw[hy];simp[bV,Bp]
   rw[lP,xS (.inl h5) hq];have Av:r.1=(1,0,0):=by
    unfold dU at h;rw[h5]at h;injection h with h;rw[<-h]
   rw[Av];unfold mK;rw[h5,ho];rfl
 . have hk:x.k=1\/x.k=2\/x.k=4:=by
    have Aq:=hl;unfold cV at Aq;rw[if_neg pG]at Aq;simp only[Bool.or_eq_true,beq_iff_eq]at Aq;omega
   rw[aJ2 hr hl hk,h];rfl
theorem aK6{α β:Type}{f:Ex->Option α}{g:Ex->Option (α × β)}:∀{l:List Ex}{rs:List (α × β)},(∀x∈l,∀r,g x=some r->f x=some r.1)->bV (l.map g)=some rs->bV (l.map f)=some (rs.map (·.1))
 |[],rs,_,h=>by injection h with h;subst h;rfl
 |x::l,rs,hx,h=>by
  simp only[Xh]at h⊢;cases hg:g x with
  |none=>rw[hg]at h;cases h
  |some r=>
   rw[hg]at h;simp only[bV,Option.map_eq_some_iff]at h;obtain⟨t,h1,rfl⟩:=h;rw[hx x aG r hg];simp only[bV];rw[aK6 (fun y hy=>hx y (by simp[hy])) h1];rfl
theorem aK7{β:Type}{g:Ex->Option β}{P:β->Prop}:∀{l:List Ex}{rs:List β},(∀x∈l,∀r,g x=some r->P r)->bV (l.map g)=some rs->∀r∈rs,P r
 |[],rs,_,h=>by injection h with h;subst h;intro r hr;cases hr
 |x::l,rs,hx,h=>by
  simp only[Xh]at h;cases hg:g x with
  |none=>rw[hg]at h;cases h
  |some r=>
   rw[hg]at h;simp only[bV,Option.map_eq_some_iff]at h;obtain⟨t,h1,rfl⟩:=h;intro q hq;rcases Yu.1 hq with rfl|hq;· exact hx x aG q hg
   . exact aK7 (fun y hy=>hx y (by simp[hy])) h1 q hq
theorem aXz{p:Pg}{i:Nat}{x:Ex}{c:List Int × T3}(h:eG p.es x=some c):cZ p i x=some c.2:=by
 cases Aq:(bH x && dQ x)with
 |false=>rw[aB9 Aq]at h;cases h
 |true=>
  have Gg:=Aq;simp only[Ys]at Gg;by_cases hk:x.k=14
  . rw[aBr Aq hk]at h;obtain⟨r,hr,rfl⟩:=Option.map_eq_some_iff.1 h;rw[aCu]at hr;unfold nX at hr;cases hs:bV (x.subs.map (dU p.es))with
    |none=>rw[hs]at hr;cases hr
    |some rs=>
     rw[hs]at hr;simp only at hr;unfold qH at hr;split at hr
     . rename_i ha;injection hr with hr;subst hr;have hcs:x.subs.all cV=true:=by
        have:=Gg.2
        unfold dQ at this;rwa[if_pos uA]at this
       have hq:=aK6 (f:=cZ p i) (fun y hy r hg=>aK5 (aXy Gg.1 hy) (Zg.1 hcs y hy) hg) hs;have hz:(aD (rs.map (·.1)) 0).2.2=0:=by
        cases rs with
        |nil=>rfl
        |cons r rs=>exact aK7 (P:=fun r=>r.1.2.2=0) (fun y hy r hg=>bEc hg) hs r aG
       have Da:(rs.map (·.1)).length=x.subs.length:=by
        have:=rF hq
        simpa using this
       rw[lP,xS (.inr (.inr (.inr (.inl hk)))) hq];unfold mK;rw[hk];show(if(eA (rs.map (·.1)) && decide ((aD (rs.map (·.1)) 0).2.2=0))=true then some ((aD (rs.map (·.1)) 0).1,(aD (rs.map (·.1)) 0).2.1,((rs.map (·.1)).length:Int))else none)=_;rw[if_pos (by rw[ha,hz];rfl),Da]
     . cases hr
  . rw[xM Aq hk]at h;obtain⟨r,hr,rfl⟩:=Option.map_eq_some_iff.1 h;have hl:cV x=true:=by
     have:=Gg.2
     unfold dQ at this;rwa[if_neg kT]at this
    exact aK5 Gg.1 hl hr
def aA4(oc:Option (List Int × T3))(l:List T3):Option T3:=match oc with|none=>none|some c=>if aD l 1=c.2 then some (aD l 1)else none
theorem bGu{p:Pg}{i:Nat}{x:Ex}(hk:x.k=8)(hl:x.subs.length=2):cZ p i x=match bV (x.subs.map (cZ p i))with|none=>none|some l=>aA4 (eG p.es (aM x 0)) l:=by
 obtain⟨a,b,Aq⟩:∃a b,x.subs=[a,b]:=zM hl;have h0:aM x 0=a:=by unfold aM;rw[Aq];rfl
 rw[lP,aK2 hk,h0,Aq];simp only[Xh,List.map_nil];show uE (eG p.es a) (cZ p i b)=_;cases hc:eG p.es a with
 |none=>
  unfold uE;simp only;split<;>rfl
 |some c=>
  rw[aXz hc];cases cZ p i b with
  |none=>rfl
  |some u=>
   show(if c.2=u then some u else none)=(if aD [c.2,u] 1=c.2 then some (aD [c.2,u] 1)else none);show _=(if u=c.2 then some u else none);by_cases he:c.2=u;· rw[if_pos he,if_pos he.symm]
   . rw[if_neg he,if_neg fun e=>he e.symm]
def gM(n:Nd)(s:ByteArray)(t:T3):Bool:=match aZ n s with|none=>false|some d=>decide (aS d=t)
def iH(es:List En)(n:Nd)(s a:ByteArray):Bool:=match bP es a with|none=>false|some r=>gM n s (r.1,r.2.1,0)
def fL(es:List En)(n:Nd)(s:ByteArray)(arms:List ByteArray):Bool:=arms.all (iH es n s)
def lZ:ByteArray:=⟨#[116,114,117,101]⟩
def lW:ByteArray:=⟨#[102,97,108,115,101]⟩
def rQ(es:List En)(n:Nd)(s:ByteArray)(arms:List ByteArray):Bool:=
 fL es n s arms && (if((gZ (aZ n s)).1==2)=true then eK arms [lZ,lW]else eK arms (cM es (gZ (aZ n s)).2.1.toNat))
theorem aX0{es:List En}{a:ByteArray}{r:Int × Int × Int}(h:bP es a=some r):(r.1=2/\r.2.1=0)\/r.1=3:=by
 unfold bP at h;split at h;· injection h with h;subst h;exact .inl ⟨rfl,rfl⟩
 split at h;· injection h with h;subst h;exact .inl ⟨rfl,rfl⟩
 obtain⟨q,_,rfl⟩:=Option.map_eq_some_iff.1 h;exact .inr rfl
theorem aK8{es:List En}{n:Nd}{s a:ByteArray}{d:Dc}(hd:aZ n s=some d)(h:iH es n s a=true):aS d=(2,0,0)\/(aS d).1=3/\(aS d).2.2=0:=by
 unfold iH at h;cases hr:bP es a with
 |none=>rw[hr]at h;cases h
 |some r=>
  rw[hr]at h;simp only at h;unfold gM at h;rw[hd]at h;have h:=of_decide_eq_true h;rcases aX0 hr with⟨h1,h2⟩|h1;· exact .inl (by rw[h,h1,h2])
  . exact .inr ⟨by rw[h,h1],by rw[h]⟩
theorem aIw{arms:List ByteArray}:eK arms [lZ,lW]=(decide (arms.length=2) && (((arms[0]?.getD ByteArray.empty).toList==[116,114,117,101]) && ((arms[1]?.getD ByteArray.empty).toList==[102,97,108,115,101]))):=by
 have ht:lZ.toList=[116,114,117,101]:=by rw[Zc];rfl
 have hf:lW.toList=[102,97,108,115,101]:=by rw[Zc];rfl
 unfold eK;rw[Zn];simp only[Xh,List.map_nil,decide_eq_true_eq,Ys,beq_iff_eq,ht,hf];constructor
 . intro h;have hl:arms.length=2:=by simpa using congrArg List.length h
   obtain⟨a,b,rfl⟩:=zM hl;simp only[Xh,List.map_nil,List.cons.injEq]at h;exact⟨rfl,h.1,h.2.1⟩
 . rintro ⟨hl,h1,h2⟩;obtain⟨a,b,rfl⟩:=zM hl;simp only[Xh,List.map_nil];rw[show a.toList=_ from h1,show b.toList=_ from h2]
theorem aX1{es:List En}(ha:cH (eO es)=true){i k:Nat}(hi:i<es.length)(hk:k<(cM es i).length){a:ByteArray}(he:a.toList=(fJ es i k).toList):iF es a=some (i,k,fJ es i k):=by
 have hm:=aI6 hi hk;unfold cH vW at ha;have ha:=of_decide_eq_true ha;unfold eO at ha;rw[List.map_map]at ha;cases hf:iF es a with
 |none=>
  unfold iF at hf
  have:=List.find?_eq_none.1 hf _ hm
  unfold oC at this;rw[he]at this;simp at this
 |some q=>
  unfold iF at hf;have hq:=List.mem_of_find?_eq_some hf;have hp:=List.find?_some hf;unfold oC at hp;have hp:q.2.2.toList=a.toList:=by simpa using hp
  congr 1;obtain⟨j,hj,Aq⟩:=Zj hq;obtain⟨m,Bx,Bp⟩:=Zj hm;have Jx:j=m:=by
   have hl:∀z,z<(eM es).length->z<((eM es).map ((fun s:ByteArray=>s.data.toList) ∘ fun x:Pl=>x.2.2)).length:=fun z hz=>by rw[List.length_map];exact hz
   refine(List.getElem_inj (h₀:=hl j hj) (h₁:=hl m Bx) ha).1 ?_;rw[List.getElem_map,List.getElem_map,Aq,Bp];show q.2.2.data.toList=(fJ es i k).data.toList;rw[<-Zc,<-Zc,hp,he]
  subst Jx;rw[<-Aq,Bp]
theorem bA5{s:List UInt8}(h:eU s=true):s≠[116,114,117,101]/\s≠[102,97,108,115,101]:=
 ⟨fun e=>by subst e;revert h;decide,fun e=>by subst e;revert h;decide⟩
theorem bEd{es:List En}(he:dB es=0){i k:Nat}(hi:i<es.length)(hk:k<(cM es i).length){a:ByteArray}(ha:a.toList=(fJ es i k).toList):bP es a=some (3,(i:Int),(k:Int)):=by
 unfold dB at he;split at he;· cases he
 split at he
 . rename_i hn;split at he
   . rename_i Aq;unfold kM at hn;unfold lT at Aq;simp only[Ys]at hn Aq;have hh:eU a.toList=true:=by
      have h1:=Zg.1 hn.2 (fJ es i k) (List.mem_map.2 ⟨_,aI6 hi hk,rfl⟩);rw[ha,Zc];exact h1
     obtain⟨n1,n2⟩:=bA5 hh;unfold bP;rw[if_neg (by simpa using n1),if_neg (by simpa using n2),aX1 Aq.2 hi hk ha];rfl
   . cases he
 . cases he
theorem aX2{es:List En}{n:Nd}{s:ByteArray}{arms:List ByteArray}(he:dB es=0)(h1:0<arms.length)(Fc:∀d,aZ n s=some d->bQ es.length d.k d.e d.l=true):
 rQ es n s arms=match aZ n s with|none=>false|some d=>kQ es (aS d) arms:=by
 unfold rQ;obtain⟨a0,rest,Aq⟩:∃a r,arms=a::r:=List.exists_cons_of_length_pos h1;cases hd:aZ n s with
 |none=>
  have:fL es n s arms=false:=by
   rw[Aq];unfold fL;rw[List.all_cons]
   have:iH es n s a0=false:=by
    unfold iH gM;rw[hd];split<;>rfl
   rw[this,Bool.false_and]
  rw[this,Bool.false_and]
 |some d=>
  simp only;have Nt:gZ (some d)=aS d:=rfl;rw[Nt];have Ap:=Fc d hd;unfold kQ;by_cases ht:aS d=(2,0,0)
  . rw[if_pos (show fV (aS d)=true from Zy ht),ht,<-aIw];show(fL es n s arms && eK arms [lZ,lW])=eK arms [lZ,lW];cases hs:eK arms [lZ,lW]with
    |false=>rw[Bool.and_false]
    |true=>
     rw[Bool.and_true];rw[aIw]at hs;simp only[Ys,decide_eq_true_eq,beq_iff_eq]at hs;obtain⟨hl,e1,e2⟩:=hs;obtain⟨a,b,rfl⟩:=zM hl;have e1:a.toList=[116,114,117,101]:=e1;have e2:b.toList=[102,97,108,115,101]:=e2
     have k:∀c:ByteArray,(c.toList=[116,114,117,101]\/c.toList=[102,97,108,115,101])->iH es n s c=true:=fun c hc=>by
      unfold iH bP;rcases hc with hc|hc
      . rw[if_pos (by rw[hc];rfl)];unfold gM;rw[hd];exact Zy ht
      . rw[if_neg (by rw[hc];decide),if_pos (by rw[hc];rfl)];unfold gM;rw[hd];exact Zy ht
     unfold fL;rw[List.all_cons,List.all_cons,List.all_nil,k a (.inl e1),k b (.inr e2)];rfl
  . rw[if_neg (show ¬fV (aS d)=true from fun h=>ht (of_decide_eq_true h))];by_cases hb:(aS d).1=3/\(aS d).2.2=0
    . obtain⟨Bp,Jx⟩:=hb;rw[if_neg (by rw[Bp];decide),Zy Bp,Zy Jx,Bool.true_and,Bool.true_and];cases hs:eK arms (cM es (aS d).2.1.toNat)with
      |false=>rw[Bool.and_false]
      |true=>
       rw[Bool.and_true];have Nw:0<=d.e/\d.e<es.length:=by
        unfold bQ at Ap
        have:d.k=3:=Bp
        rw[this]at Ap;simp only[Ys,decide_eq_true_eq]at Ap;have h2:=Ap.2;rw[if_neg aA]at h2;have h2:=of_decide_eq_true h2;exact h2.2
       unfold eK at hs;have hs:=of_decide_eq_true hs;unfold fL;rw[Zg];intro a Bx;have Nv:a.toList∈(cM es (aS d).2.1.toNat).map fun s=>s.toList:=by rw[<-hs];exact List.mem_map.2 ⟨a,Bx,rfl⟩
       obtain⟨c,hc,Nu⟩:=List.mem_map.1 Nv;obtain⟨k,hk,rfl⟩:=Zj hc
       have ho:=bEd he (i:=(aS d).2.1.toNat) (k:=k) (by have:(aS d).2.1=d.e:=rfl;omega) hk (a:=a) (by
        rw[<-Nu];unfold fJ;rw[Yk hk]
        rfl)
       unfold iH;rw[ho];simp only;unfold gM;rw[hd];refine Zy ?_;have e1:d.k=3:=Bp;have e3:d.l=0:=Jx;show((d.k,d.e,d.l):T3)=(3,((d.e.toNat:Nat):Int),0);rw[e1,e3,Int.toNat_of_nonneg Nw.1]
    . have h0:fL es n s arms=false:=by
       rw[Aq];unfold fL;rw[List.all_cons]
       have:iH es n s a0=false:=by
        cases h:iH es n s a0 with
        |false=>rfl
        |true=>
         rcases aK8 hd h with h|h;· exact absurd h ht
         . exact absurd h hb
       rw[this,Bool.false_and]
      rw[h0,Bool.false_and];by_cases Bp:(aS d).1=3
      . have:(aS d).2.2≠0:=fun e=>hb ⟨Bp,e⟩
        rw[Zz this,Bool.false_and,Bool.and_false]
      . rw[Zz Bp,Bool.false_and]
def mA(p:Pg)(x:Ex)(ts:List T3):Option Nat:=
 if cY p x.s<0 then none
 else if(decide (ts.take (ts.length-x.n.toNat)=(aB p (cY p x.s).toNat).ins.map aS) && eP (2,0,0) (ts.drop (ts.length-x.n.toNat)))=true then some (cY p x.s).toNat else none
theorem bEe{ts us:List T3}{m:Nat}(hm:m<=ts.length):ts.take m=us↔us.length=m/\∀k,k<m->us[k]?.getD (0,0,0)=aD ts k:=by
 constructor
 . rintro rfl;refine⟨by rw[List.length_take];omega,fun k hk=>?_⟩;unfold aD;rw[List.getElem?_take_of_lt hk]
 . rintro ⟨hl,h⟩;apply List.ext_getElem;· rw[List.length_take];omega
   . intro k h1 h2;have h3:k<m:=aA
     have:=h k h3
     rw[rP aA,Yk h2,Yt]at this;rw[List.getElem_take,this]
theorem bEf{p:Pg}{x:Ex}{ts:List T3}(hn:x.n=0\/x.n=1)(hl:x.n<=ts.length):mA p x ts=fS p x ts:=by
 unfold mA fS;by_cases hf:cY p x.s<0;· rw[if_pos hf,if_pos hf]
 rw[if_neg hf,if_neg hf];generalize (cY p x.s).toNat=i
 have Aq:∀k,((aB p i).ins.map aS)[k]?.getD (0,0,0)=if k<(aB p i).ins.length then aS ((aB p i).ins[k]?.getD default)else(0,0,0):=fun k=>by
  rw[List.getElem?_map];by_cases hk:k<(aB p i).ins.length;· rw[if_pos hk,Yk hk];rfl
  . rw[if_neg hk,List.getElem?_eq_none aA];rfl
 have Bx:∀m,m<=ts.length->(decide (ts.take m=(aB p i).ins.map aS))=(decide ((aB p i).ins.length=m) && (List.range (aB p i).ins.length).all fun k=>decide (aS ((aB p i).ins[k]?.getD default)=aD ts k)):=fun m hm=>by
  rw[Zn,decide_eq_true_eq,bEe hm,Ys,decide_eq_true_eq,Zg,List.length_map];constructor
  . rintro ⟨h1,h2⟩;refine⟨h1,fun k hk=>?_⟩;have hk:=List.mem_range.1 hk
    have:=h2 k aA
    rw[Aq,if_pos hk]at this;exact Zy this
  . rintro ⟨h1,h2⟩;refine⟨h1,fun k hk=>?_⟩;rw[Aq,if_pos aA];exact of_decide_eq_true (h2 k (List.mem_range.2 aA))
 have Bp:(decide (ts.take (ts.length-x.n.toNat)=(aB p i).ins.map aS) && eP (2,0,0) (ts.drop (ts.length-x.n.toNat)))=(decide ((ts.length:Int)-x.n=((aB p i).ins.length:Int)) && (!(x.n==1 && !fV (aD ts (ts.length-1))) && (List.range (aB p i).ins.length).all fun k=>decide (aS ((aB p i).ins[k]?.getD default)=aD ts k))):=by
  rw[Bx _ (Nat.sub_le _ _)];generalize ((List.range (aB p i).ins.length).all fun k=>decide (aS ((aB p i).ins[k]?.getD default)=aD ts k))=C;rcases hn with hn|hn
  . rw[hn,show(0:Int).toNat=0 from rfl,Nat.sub_zero,List.drop_length,show((0:Int)==1)=false from rfl,show eP (2,0,0) []=true from rfl];have e:decide ((aB p i).ins.length=ts.length)=decide ((ts.length:Int)-0=((aB p i).ins.length:Int)):=by
     exact aOv
    rw[e];simp
  . have hd:ts.drop (ts.length-1)=[aD ts (ts.length-1)]:=by
     rw[List.drop_eq_getElem_cons aA,rP aA,List.drop_eq_nil_of_le aA]
    rw[hn,show(1:Int).toNat=1 from rfl,hd,pW,show((1:Int)==1)=true from rfl];have e:decide ((aB p i).ins.length=ts.length-1)=decide ((ts.length:Int)-1=((aB p i).ins.length:Int)):=by
     exact aOv
    rw[e];unfold fV;cases decide ((ts.length:Int)-1=((aB p i).ins.length:Int))<;>cases C<;>cases decide (aD ts (ts.length-1)=(2,0,0))<;>rfl
 rw[Bp];by_cases hA:(ts.length:Int)-x.n=((aB p i).ins.length:Int)
 . rw[if_neg (show ¬¬_ from fun h=>h hA),Zy hA,Bool.true_and];cases (x.n==1 && !fV (aD ts (ts.length-1)))with
   |true=>rfl
   |false=>rfl
 . rw[if_pos hA,Zz hA,Bool.false_and];rfl
end Go.Proofs.YtkbpdoomhfkngaaGreat
