/- A part of the proof. Conditions: each theorem's own. -/
import Derived.Test.YtkbpdoomhfkngaaGreatC15
import Derived.Test.YtkbpdoomhfkngaaGreatC18
namespace Go.Proofs.YtkbpdoomhfkngaaGreat
set_option linter.unusedVariables false
set_option linter.unusedSimpArgs false
set_option maxRecDepth 100000
set_option maxHeartbeats 40000000
section
open Go.RowKit Go.Sort Go.BigFrame
def dcZ:Array Value:=#[.string ⟨#[]⟩,.int .i64 0,.int .i64 0,.int .i64 0,.string ⟨#[]⟩,.string ⟨#[]⟩]
theorem jT{W:World}{g:Nat}{d:Dc}(h:gK W g d)(j:Nat):W.cell? ⟨g,j,none⟩=(aU d)[j]?:=by
 have:=cell_setRow_same W g j _ (aU d) _ _ h
 exact aEs
def sA(od:Option Dc)(ro:Option (Int × Int × Int))(t:T3):Option T3:=
 match od with
 |none=>none
 |some d=>match ro with
  |none=>none
  |some r=>if((r.1,r.2.1,0):T3)=aS d then some t else none
theorem bD2{od:Option Dc}{ro:Option (Int × Int × Int)}{t:T3}(h:od.isSome=false):sA od ro t=none:=by cases od;rfl;cases h
theorem bD3{od:Option Dc}{ro:Option (Int × Int × Int)}{t:T3}(h:ro.isSome=false):sA od ro t=none:=by cases od<;>cases ro<;>first|rfl|cases h
theorem bD4{od:Option Dc}{ro:Option (Int × Int × Int)}{t:T3}{ra rb:Int}{dd:Dc}(h:od.isSome=true)(h':ro.isSome=true)(ha:(ro.map (·.1)).getD 0=ra)(hb:(ro.map (·.2.1)).getD 0=rb)(hd:od.getD default=dd):
 sA od ro t=if((ra,rb,0):T3)=(dd.k,dd.e,dd.l)then some t else none:=by
 subst ha hb hd;cases od with
 |none=>cases h
 |some d=>cases ro with
  |none=>cases h'
  |some r=>rfl
theorem aXo(p:Pg)(E:Option Addr)(ec:Nat)(N:Option Addr)(nc:Nat)(i:Nat)(x:Ex)(A:Option Addr)(ca:Nat)(B:Option Addr)(cb:Nat)(S:Option Addr)(m sc:Nat)(ts:List T3)(w:World)(h:cJ w p E N)(hr:aH w x A B)(hS:aR w S m ts)(hk:x.k=11)(hm:1<=m)(hi:i<p.ns.length)(Ok:(aB p i).all.length<=1000)(Nx:0<x.arms.length)(o:Option T3)(ho:sA (aZ (aB p i) x.s) (bP p.es (x.arms[0]?.getD ByteArray.empty)) (aD ts 0)=o):
 Calls Tryz.prog 128 #[.agg (aK p E ec N nc),.int .i64 i,.agg (aE x A ca B cb),.slice S m sc] w (fO w o):=by
 have HF:=Hd fun w0 h=>mI (w:=w) (w0:=w0) (p:=p) (E:=E) (ec:=ec) (N:=N) (nc:=nc) (x:=x) (A:=A) (ca:=ca) (B:=B) (cb:=cb) (T:=25) (U:=52) (V:=41) h;obtain⟨nb,no,A1,c1,A2,c2,A3,c3,A4,c4,rfl,Bx,Ap,d0,d1,d2,d3,d4⟩:=iR h.2 hi;have Dv:=Hd fun w1 (hb:Below w.heap.size w w1)=>pT (aB p i) A1 c1 A2 c2 A3 c3 A4 c4 x.s w1 (Ap.below hb) Ok;obtain⟨ab,ao,rfl,Ox,Od⟩:=hr.arms.at_ Nx;have Nv:=Od 0 Nx;simp only[Nat.add_zero]at Nv;obtain⟨sb,so,rfl,Az,Ny⟩:=hS.at_ (i:=0) aA;obtain⟨a0,a1,a2⟩:=Ny 0 aA;simp only[Nat.zero_mul,Nat.add_zero]at a0 a1 a2;have On:=Hd fun w1 (hb:Below w.heap.size w w1)=>(hb.cell (p:=⟨ab,ao,none⟩) Ox).trans Nv
 have He:=Hd (show ∀ w1,Below w.heap.size w w1->w1.cell? ⟨sb,so,none⟩=some (.int .i64 (aD ts 0).1)/\w1.cell? ⟨sb,so+1,none⟩=some (.int .i64 (aD ts 0).2.1)/\w1.cell? ⟨sb,so+2,none⟩=some (.int .i64 (aD ts 0).2.2) from
  fun w1 hb=>⟨(hb.cell (p:=⟨sb,so,none⟩) Az).trans a0,(hb.cell (p:=⟨sb,so+1,none⟩) Az).trans a1,(hb.cell (p:=⟨sb,so+2,none⟩) Az).trans a2⟩)
 have Nt:=Hd fun w1 (hb:Below w.heap.size w w1)=>rG E p.es.length ec p.es (x.arms[0]?.getD ByteArray.empty) w1 (h.1.below hb);clear a0 a1 a2 Ny Od Nv hS;generalize x.arms[0]?.getD ByteArray.empty=ar at *;generalize bP p.es ar=ro at *;unfold lG at Nt;generalize Nw:(ro.map (·.1)).getD 0=ra at *;generalize Of:(ro.map (·.2.1)).getD 0=rb at *;generalize Ot:(ro.map (·.2.2)).getD 0=rc at *;generalize Oe:ro.isSome=rs at *;generalize aD ts 0=tx at *;obtain⟨x0,x1,x2⟩:=tx;dsimp only at He;unfold aB at Dv ho;unfold nL kY at Dv;generalize Oh:aZ (p.ns[i]?.getD default) x.s=od at *;generalize Eb:p.ns[i]?.getD default=nd at *;unfold bK at Dv;unfold aE at HF⊢;unfold aK at HF⊢;rw[hk]at HF⊢
 have HD:=Hd (show ∀ w1,Below w.heap.size w w1->w1.cell? ⟨nb,no+i*5,none⟩=some (.string nd.nm)/\w1.cell? ⟨nb,no+i*5+1,none⟩=some (.slice A1 nd.ins.length c1)/\w1.cell? ⟨nb,no+i*5+2,none⟩=some (.slice A2 nd.outs.length c2)/\w1.cell? ⟨nb,no+i*5+3,none⟩=some (.slice A3 nd.vars.length c3)/\w1.cell? ⟨nb,no+i*5+4,none⟩=some (.slice A4 nd.eqs.length c4) from
  fun w1 hb=>⟨(hb.cell (p:=⟨nb,no+i*5,none⟩) Bx).trans d0,(hb.cell (p:=⟨nb,no+i*5+1,none⟩) Bx).trans d1,(hb.cell (p:=⟨nb,no+i*5+2,none⟩) Bx).trans d2,(hb.cell (p:=⟨nb,no+i*5+3,none⟩) Bx).trans d3,(hb.cell (p:=⟨nb,no+i*5+4,none⟩) Bx).trans d4⟩)
 clear d0 d1 d2 d3 d4 Ap hk h hr;generalize Ob:od.getD default=dd at *;generalize Oc:od.isSome=ds at *;unfold aU at Dv;unfold aF at Nt;have HO:=Hd (show sA od ro (x0,x1,x2)=o from ho);have Oy:=Hd Ob;have Nz:=Hd Oc;have Hp:=Hd Nw;have Oi:=Hd Of;have Fe:=Hd Oe;clear ho Ob Oc Nw Of Ot Oe Oh Eb;go_in
 go_upto_region 1 with(fail);generalize Ai:((w.alloc _).alloc _).alloc _=w0;obtain⟨Ae,Al,hp,hx,hR⟩:=HF.o w0 Ai;have Af:=Hd Ae;have HR:=Hd hR;have HP:=Hd hp;have HX:=Hd hx;have q0:=hx w0 (Yg _ _) 0;have q2:=hx w0 (Yg _ _) 2;have p1:=hp w0 (Yg _ _) 1;simp only[Ya,Yb,Yc]at q0 q2 p1;obtain⟨d0,d1,d2,d3,d4⟩:=HD.o w0 Ae;have HQ:=Hd (show ∀w1,Below w0.heap.size w0 w1->w1.cell? ⟨w.heap.size,1,none⟩=some (.slice (some ⟨nb,no,none⟩) p.ns.length nc)/\w1.cell? ⟨w.heap.size+1,2,none⟩=some (.string x.s)/\w1.cell? ⟨nb,no+i*5,none⟩=some (.string nd.nm)/\w1.cell? ⟨nb,no+i*5+1,none⟩=some (.slice A1 nd.ins.length c1)/\w1.cell? ⟨nb,no+i*5+2,none⟩=some (.slice A2 nd.outs.length c2)/\w1.cell? ⟨nb,no+i*5+3,none⟩=some (.slice A3 nd.vars.length c3)/\w1.cell? ⟨nb,no+i*5+4,none⟩=some (.slice A4 nd.eqs.length c4)from fun w1 hb=>⟨HP.o w1 hb 1,HX.o w1 hb 2,HD.o w1 (Af.o.tr hb)⟩);clear Ai Ae Al hp hx hR HF;go_upto_region 5 with(fail);go_cut [10,11] (fun Oq Oj wx=>Oj=.bool ds/\∃g,Oq=.pointer (some ⟨g,0,none⟩)/\w0.heap.size<=g/\gK wx g dd/\Below w0.heap.size w0 wx)
 case first=>
  exact aFk
 case rest=>
  obtain⟨rfl,g,rfl,hg,hz,Cp⟩:=hcut;generalize wc=wx at *;have HZ:=Hd hz;have HG:=Hd hg;have Bt:=Hd Cp;have q0:=HX.o wx Cp 0;simp only[Ya,Yb,Yc]at q0;clear hz hg Cp Dv HD HQ d0 d1 d2 d3 d4 p1 q2;go_upto_region 7 with(fail);go_cut [12,13,14] (fun Ow Og Ov wy=>Ov=.bool rs/\Og=.int .i64 rc/\∃g2,Ow=.pointer (some ⟨g2,0,none⟩)/\wx.heap.size<=g2/\F3 41 wy g2 ra rb 0/\Below wx.heap.size wx wy)
  case first=>
   have HL:=Hd (show ∀ wb,Below wx.heap.size wx wb->wb.cell? ⟨w.heap.size,0,none⟩=some (.slice E p.es.length ec)/\wb.cell? ⟨w.heap.size+1,4,none⟩=some (.slice (some ⟨ab,ao,none⟩) x.arms.length ca)/\wb.cell? ⟨ab,ao,none⟩=some (.string ar)/\Below w.heap.size w wb from
    fun wb hb=>by
     have h0:=Bt.o.tr hb;have h1:=Af.o.tr h0;exact⟨HP.o wb h0 0,HX.o wb h0 4,On.o wb h1,h1⟩)
   refine kF (l:=[_,_,_,_,_,_,_,_,_,_,_,_,_,_,_]) 11 12 _ _ (d:=12) (tx:=58) (T:=41) (zc:=aF 0 0 0) aC rfl rfl aC rfl aG (fun a W=>by rfl) rfl aC ?_
   repeat
    first
    |refine kJ rfl ?_
    | (apply kI rfl rfl aG
       case h1=>
        intro wb hb;obtain⟨m0,m1,m2,m3⟩:=HL.o wb (cU hb);have l0:=fun d os=>Zs m0 d os;have l1:=fun d os=>Zs m1 d os;have l2:=fun d os=>Zs m2 d os;have cA:=fun d os=>Zi (Nt.o (grow (redrawn wb d) os) (m3.trans ((Zt wb d os).mono m3.size)));clear m3;go_big_quiet_step (with_reducible exact cA _ _);exact Xg rfl
       simp only[Act.put,Yd,Ye,Yf])
   refine⟨aF ra rb 0,rfl,rfl,by simp[aF,Value.oneCell'],fun W g2 hW hg hz=>?_⟩;have Bo:=Hd (cU hW);have Om:=Hd hz;have Ou:=Hd hg;clear hW hg hz;go_wp2_with fail;go_meet
   case rel=>exact⟨rfl,rfl,g2,rfl,Ou.o,Om.o,Bo.o⟩
  case rest=>
   obtain⟨rfl,rfl,g2,rfl,hg2,Cu,Nu⟩:=hcut;generalize wc=wy at *
   have Bp:=Bt.o.tr Nu
   have Cb:=Af.o.tr Bp;obtain⟨a0,a1,a2⟩:=He.o wy Cb;have Jx:gK wy g dd:=(Nu.block g (Yl.1 HZ.o).1).trans HZ.o;have Oa:F3 41 wy (w.heap.size+1+1) 0 0 0:=HR.o.below Bp;have Ol:=(Yl.1 HZ.o).1;have Oo:=HR.o.lt;have Gf:sb≠w.heap.size+1+1:=aA;have Gm:g≠w.heap.size+1+1:=aFi;have Ka:g2≠w.heap.size+1+1:=by have:=Bt.o.size;omega
   have k1:=jT Jx 1;have k2:=jT Jx 2;have k3:=jT Jx 3;obtain⟨f0,f1,f2,-,-,-⟩:=Sx Cu.cell;simp only[aU,aF,List.getElem?_toArray,Yz,Zb]at k1 k2 k3 f0 f1 f2;have Ce:=Hd Oa;have Bo:=Hd Cb;have Ig:=Hd (show w.heap.size<=w.heap.size+1+1 by omega);clear Oa Cb Bp Nu hg2 Cu Jx Ol Oo q0;go_upto_region 8 with(fail);have Oz:0<m:=hm;cases ds with
   |false=>
    have Ee:=Hd (show o=none by rw[<-HO.o];exact bD2 Nz.o);exact wL
   |true=>
    cases rs with
    |false=>
     have Ee:=Hd (show o=none by rw[<-HO.o];exact bD3 Fe.o);exact wL
    |true=>
     have Aq:=Hd (bD4 (t:=(x0,x1,x2)) Nz.o Fe.o Hp.o Oi.o Oy.o);rcases jD ra rb 0 dd.k dd.e dd.l with⟨h1,h2,h3,he⟩|⟨h1,he⟩|⟨h1',h1,he⟩|⟨h1',h2',h1,he⟩
     . have Ee:=Hd (show o=some (x0,x1,x2)by rw[<-HO.o,Aq.o,if_pos he]);clear he Aq;subst h1 h2;rw[<-h3]at k3;clear h3;generalize dd.k=dk at *;generalize dd.e=de at *;refine dL (l1:=[_,_,_,_,_,_,_,_,_,_,_,_,_]) (os:=_) (l2:=[_]) (p:=8) (tx:=63) (r:=w.heap.size+1+1) (T:=41) (zc:=aF 0 0 0) aC aC rfl Ce.o rfl dI ?_
       repeat
        apply dH rfl aG;case h1=>
         intro wb hb;have l0:=fun d os=>Zs (aJ hb Gf a0) d os;have l1:=fun d os=>Zs (aJ hb Gf a1) d os;have l2:=fun d os=>Zs (aJ hb Gf a2) d os;have l3:=fun d os=>Zs (aJ hb Gm k1) d os;have l4:=fun d os=>Zs (aJ hb Gm k2) d os;have l5:=fun d os=>Zs (aJ hb Gm k3) d os;have l6:=fun d os=>Zs (aJ hb Ka f0) d os;have l7:=fun d os=>Zs (aJ hb Ka f1) d os;have l8:=fun d os=>Zs (aJ hb Ka f2) d os;go_big_quiet_step (fail);exact aEa
        simp only[Act.put,Yd,Ye,Yf]
       refine⟨aF x0 x1 x2,rfl,rfl,by simp[aF,Value.oneCell'],fun W hB hz=>?_⟩;have Be:=Hd (dG hB Bo.o (Yh _) Ig.o);have Dq:=Hd hz;clear hB hz;go_wp2_with fail;exact Zu (bA (p:=8) (u:=9) rfl _ _ (w.heap.size+1+1) x0 x1 x2 rfl Dq.o) rfl ⟨x0,x1,x2,mX,fun t ht=>(by rw[Ee.o]at ht;exact(Option.some.inj ht).symm),Be.o⟩
     . have Ee:=Hd (show o=none by rw[<-HO.o,Aq.o,if_neg he]);have Kk:=h1;simp only[Xb,ne_eq]at Kk;clear he Aq;exact wL
     . have Ee:=Hd (show o=none by rw[<-HO.o,Aq.o,if_neg he]);have Kk:=h1;simp only[Xb,ne_eq]at Kk;clear he Aq;subst h1';exact wL
     . have Ee:=Hd (show o=none by rw[<-HO.o,Aq.o,if_neg he]);have Kk:=h1;simp only[Xb,ne_eq]at Kk;clear he Aq;subst h1' h2';exact wL
theorem aJx{p:Pg}{x:Ex}{ts:List T3}{j:Nat}(h:fS p x ts=some j):j<p.ns.length:=by
 unfold fS at h;rcases yF p x.s with e|⟨k,e,hk⟩
 . rw[e]at h;simp at h
 . rw[e]at h;split at h;· cases h
   . split at h;· cases h
     . split at h;· cases h
       . split at h
         . injection h with h;omega
         . cases h
def jN(o:Option Nat):Int:=match o with|none=>0|some k=>(k:Int)
theorem aJy(o:Option Nat):aO8 o=.tuple #[.int .i64 (jN o),.bool o.isSome]:=aAs
theorem aHn{o:Option Nat}(h:o.isSome=true):∃j,o=some j:=by cases o with|none=>cases h|some j=>exact⟨j,rfl⟩
def aAb(p:Pg)(oj:Option Nat):Option T3:=match oj with|none=>none|some j=>if(aB p j).outs.length=1 then some (aS ((aB p j).outs[0]?.getD default))else none
theorem aXp(p:Pg)(E:Option Addr)(ec:Nat)(N:Option Addr)(nc:Nat)(i:Nat)(x:Ex)(A:Option Addr)(ca:Nat)(B:Option Addr)(cb:Nat)(S:Option Addr)(m sc:Nat)(ts:List T3)(w:World)(h:cJ w p E N)(hr:aH w x A B)(hS:aR w S m ts)(hk:x.k=13)(hn1:x.n=0\/x.n=1)(hi:i<p.ns.length)(Oa:(aB p i).all.length<=1000)(o:Option T3)(ho:aAb p (fS p x ts)=o):
 Calls Tryz.prog 128 #[.agg (aK p E ec N nc),.int .i64 i,.agg (aE x A ca B cb),.slice S m sc] w (fO w o):=by
 have HF:=Hd fun w0 h=>mI (w:=w) (w0:=w0) (p:=p) (E:=E) (ec:=ec) (N:=N) (nc:=nc) (x:=x) (A:=A) (ca:=ca) (B:=B) (cb:=cb) (T:=25) (U:=52) (V:=41) h;obtain⟨nb,no,A1,c1,A2,c2,A3,c3,A4,c4,rfl,Bp,Ap,d0,d1,d2,d3,d4⟩:=iR h.2 hi;have Dv:=Hd fun w1 (hb:Below w.heap.size w w1)=>pT (aB p i) A1 c1 A2 c2 A3 c3 A4 c4 x.s w1 (Ap.below hb) Oa;have Bz:=Hd fun w1 (hb:Below w.heap.size w w1)=>aIo p E ec (some ⟨nb,no,none⟩) nc x A ca B cb S m sc ts w1 (h.below hb) (hS.below hb) hn1;have Og:=Hd fun j (hj:fS p x ts=some j)=>aJx hj;have Eg:=Hd h.2;clear hS;generalize On:fS p x ts=oj at *;simp only[aJy]at Bz;generalize Ob:jN oj=jv at *;generalize Od:oj.isSome=js at *;have Oi:=Hd Ob;have Oc:=Hd Od;clear Ob Od On;unfold aB at Dv;unfold nL kY at Dv;generalize Oe:aZ (p.ns[i]?.getD default) x.s=od at *;generalize Eb:p.ns[i]?.getD default=nd at *;unfold bK at Dv;unfold aE at HF Bz⊢;unfold aK at HF Bz⊢;rw[hk]at HF Bz⊢
 have HD:=Hd (show ∀ w1,Below w.heap.size w w1->w1.cell? ⟨nb,no+i*5,none⟩=some (.string nd.nm)/\w1.cell? ⟨nb,no+i*5+1,none⟩=some (.slice A1 nd.ins.length c1)/\w1.cell? ⟨nb,no+i*5+2,none⟩=some (.slice A2 nd.outs.length c2)/\w1.cell? ⟨nb,no+i*5+3,none⟩=some (.slice A3 nd.vars.length c3)/\w1.cell? ⟨nb,no+i*5+4,none⟩=some (.slice A4 nd.eqs.length c4) from
  fun w1 hb=>⟨(hb.cell (p:=⟨nb,no+i*5,none⟩) Bp).trans d0,(hb.cell (p:=⟨nb,no+i*5+1,none⟩) Bp).trans d1,(hb.cell (p:=⟨nb,no+i*5+2,none⟩) Bp).trans d2,(hb.cell (p:=⟨nb,no+i*5+3,none⟩) Bp).trans d3,(hb.cell (p:=⟨nb,no+i*5+4,none⟩) Bp).trans d4⟩)
 clear d0 d1 d2 d3 d4 Ap hk h hr;generalize Oj:od.getD default=dd at *;generalize Ol:od.isSome=ds at *;unfold aU at Dv;have HO:=Hd (show aAb p oj=o from ho);clear ho Oj Ol Oe Eb;go_in
 go_upto_region 1 with(fail);generalize Ai:((w.alloc _).alloc _).alloc _=w0;obtain⟨Ae,Al,hp,hx,hR⟩:=HF.o w0 Ai;have Af:=Hd Ae;have HR:=Hd hR;have HP:=Hd hp;have HX:=Hd hx;have q0:=hx w0 (Yg _ _) 0;have q2:=hx w0 (Yg _ _) 2;have p1:=hp w0 (Yg _ _) 1;simp only[Ya,Yb,Yc]at q0 q2 p1;obtain⟨d0,d1,d2,d3,d4⟩:=HD.o w0 Ae;have HQ:=Hd (show ∀w1,Below w0.heap.size w0 w1->w1.cell? ⟨w.heap.size,1,none⟩=some (.slice (some ⟨nb,no,none⟩) p.ns.length nc)/\w1.cell? ⟨w.heap.size+1,2,none⟩=some (.string x.s)/\w1.cell? ⟨nb,no+i*5,none⟩=some (.string nd.nm)/\w1.cell? ⟨nb,no+i*5+1,none⟩=some (.slice A1 nd.ins.length c1)/\w1.cell? ⟨nb,no+i*5+2,none⟩=some (.slice A2 nd.outs.length c2)/\w1.cell? ⟨nb,no+i*5+3,none⟩=some (.slice A3 nd.vars.length c3)/\w1.cell? ⟨nb,no+i*5+4,none⟩=some (.slice A4 nd.eqs.length c4)from fun w1 hb=>⟨HP.o w1 hb 1,HX.o w1 hb 2,HD.o w1 (Af.o.tr hb)⟩);clear Ai Ae Al hp hx hR HF;go_upto_region 5 with(fail);go_cut [10,11] (fun Ok Of wx=>Of=.bool ds/\∃g,Ok=.pointer (some ⟨g,0,none⟩)/\w0.heap.size<=g/\gK wx g dd/\Below w0.heap.size w0 wx)
 case first=>
  exact aFk
 case rest=>
  obtain⟨rfl,g,rfl,hg,hz,Cp⟩:=hcut;generalize wc=wx at *;obtain⟨q0,q1,q2,q3,q4,q5⟩:=Sx (HX.o wx Cp);have p0:=HP.o wx Cp 0;have p1:=HP.o wx Cp 1;simp only[Ya,Yb,Yc]at q0 q1 q2 q3 q4 q5 p0 p1;have Cb:=Af.o.tr Cp;have Bo:=Hd Cb;have Nz:=Hd (show ∀W,Below wx.heap.size wx W->W.cell? ⟨w.heap.size,1,none⟩=some (.slice (some ⟨nb,no,none⟩) p.ns.length nc)from fun W h=>HP.o W (Cp.tr h) 1);have Ce:=Hd (show F3 41 wx (w.heap.size+1+1) 0 0 0 from HR.o.below Cp);have Ny:=Hd (Bz.o wx Cb);clear hz hg Cp Dv HD HQ d0 d1 d2 d3 d4 Cb Bz HP HX HR;go_wp2_with fail;refine Ny.o.mono ?_;rintro e wy ⟨rfl,Bx⟩;have Ew:=Hd (Ce.o.below Bx);have Jp:=Hd (Bo.o.tr Bx)
  have Ot:=Nz.o wy Bx
  clear Bx q0 q1 q2 q3 q4 q5 p0 p1 Ny Nz Ce;cases js with
  |false=>
   have Ee:=Hd (show o=none by rw[<-HO.o];have h:=Oc.o;cases oj with|none=>rfl|some j=>cases h);exact aQ8
  |true=>
   obtain⟨j,Oh⟩:=aHn Oc.o;subst Oh;have hj:=Og.o j rfl;obtain rfl:(j:Int)=jv:=Oi.o;obtain⟨Oq,Ou,B1,e1,B2,e2,B3,e3,B4,e4,Jd,Nv,Aq,f0,f1,f2,f3,f4⟩:=iR Eg.o hj;injection Jd with Jd;injection Jd with Nt Jx;subst Nt Jx;have Df:p.ns[j]?.getD default=aB p j:=rfl;have Nx:=Hd (show bZ w B2 (aB p j).outs.length (aB p j).outs from Aq.2.1);rw[Df]at f2;have g2:=(Jp.o.cell (p:=⟨nb,no+j*5+2,none⟩) Nv).trans f2;have Fk:=Hd (show(if(aB p j).outs.length=1 then some (aS ((aB p j).outs[0]?.getD default))else none)=o from HO.o);clear f0 f1 f2 f3 f4 Aq Df Oa hi;have Oo:=aI.max Eg.o;generalize (aB p j).outs=ol at *;generalize p.ns.length=pn at *;by_cases h1:ol.length=1
   . have Nw:=Nx.o;rw[h1]at Nw g2;obtain⟨ob,oo,rfl,Nu,Dk⟩:=zL Nw (i:=0) aA;obtain⟨s0,s1,s2⟩:=Dk 0 aA;have t0:=(Jp.o.cell (p:=⟨ob,oo+0*6+1,none⟩) Nu).trans s0;have t1:=(Jp.o.cell (p:=⟨ob,oo+0*6+2,none⟩) Nu).trans s1;have t2:=(Jp.o.cell (p:=⟨ob,oo+0*6+3,none⟩) Nu).trans s2;simp only[Nat.zero_mul,Nat.add_zero]at t0 t1 t2;have Ee:=Hd (show o=some (aS (ol[0]?.getD default))by rw[<-Fk.o,if_pos h1]);clear s0 s1 s2 Dk h1 Fk HO Nw Nx;generalize aS (ol[0]?.getD default)=ty at *;obtain⟨y0,y1,y2⟩:=ty;dsimp only at t0 t1 t2;go_upto_region 14 with(fail);go_wp2_with (refine Zv rfl _ _ _ rfl (w.heap.size+1+1) _ rfl rfl _ _ Ew.o cW rfl aQ ?_);exact Zu (bA (p:=8) (u:=9) rfl _ _ (w.heap.size+1+1) y0 y1 y2 rfl (Ew.o.set _ _ _)) rfl ⟨y0,y1,y2,mX,fun t ht=>aPl,Xc Jp.o aA _⟩
   . have Ee:=Hd (show o=none by rw[<-Fk.o,if_neg h1]);have An:((ol.length:Int) !=1)=true:=bne_iff_ne.2 aA;have Om:(ol.length==1)=false:=Xb.2 h1;clear h1 Fk HO Nx;generalize ol.length=on at *;exact aQ8
def tW(od:Option Dc)(f:Dc->Bool)(t:T3):Option T3:=match od with|none=>none|some d=>if f d=true then some t else none
theorem bD5{od:Option Dc}{f:Dc->Bool}{t:T3}(h:od.isSome=false):tW od f t=none:=by cases od;rfl;cases h
theorem bD6{od:Option Dc}{f:Dc->Bool}{t:T3}{dd:Dc}(h:od.isSome=true)(hd:od.getD default=dd):tW od f t=if f dd=true then some t else none:=by
 subst hd;cases od with
 |none=>cases h
 |some d=>rfl
theorem aXq(p:Pg)(E:Option Addr)(ec:Nat)(N:Option Addr)(nc:Nat)(i:Nat)(x:Ex)(A:Option Addr)(ca:Nat)(B:Option Addr)(cb:Nat)(S:Option Addr)(m sc:Nat)(ts:List T3)(w:World)(h:cJ w p E N)(hr:aH w x A B)(hS:aR w S m ts)(hk:x.k=12)(hm:1<=m)(hi:i<p.ns.length)(Ob:(aB p i).all.length<=1000)(Fc:∀d,aZ (aB p i) x.s=some d->bQ p.es.length d.k d.e d.l=true)(o:Option T3)(ho:tW (aZ (aB p i) x.s) (fun d=>eA ts && kQ p.es (aS d) x.arms) (aD ts 0)=o):
 Calls Tryz.prog 128 #[.agg (aK p E ec N nc),.int .i64 i,.agg (aE x A ca B cb),.slice S m sc] w (fO w o):=by
 have HF:=Hd fun w0 h=>mI (w:=w) (w0:=w0) (p:=p) (E:=E) (ec:=ec) (N:=N) (nc:=nc) (x:=x) (A:=A) (ca:=ca) (B:=B) (cb:=cb) (T:=25) (U:=52) (V:=41) h;obtain⟨nb,no,A1,c1,A2,c2,A3,c3,A4,c4,rfl,Aq,Ap,d0,d1,d2,d3,d4⟩:=iR h.2 hi;have Dv:=Hd fun w1 (hb:Below w.heap.size w w1)=>pT (aB p i) A1 c1 A2 c2 A3 c3 A4 c4 x.s w1 (Ap.below hb) Ob;obtain⟨sb,so,rfl,Az,Nu⟩:=hS.at_ (i:=0) aA;obtain⟨a0,a1,a2⟩:=Nu 0 aA;simp only[Nat.zero_mul,Nat.add_zero]at a0 a1 a2
 have He:=Hd (show ∀ w1,Below w.heap.size w w1->w1.cell? ⟨sb,so,none⟩=some (.int .i64 (aD ts 0).1)/\w1.cell? ⟨sb,so+1,none⟩=some (.int .i64 (aD ts 0).2.1)/\w1.cell? ⟨sb,so+2,none⟩=some (.int .i64 (aD ts 0).2.2) from
  fun w1 hb=>⟨(hb.cell (p:=⟨sb,so,none⟩) Az).trans a0,(hb.cell (p:=⟨sb,so+1,none⟩) Az).trans a1,(hb.cell (p:=⟨sb,so+2,none⟩) Az).trans a2⟩)
 have Ch:=Hd fun w1 (hb:Below w.heap.size w w1)=>aJt (some ⟨sb,so,none⟩) m sc ts w1 (hS.below hb);have Cq:=Hd fun d (hd:aZ (aB p i) x.s=some d) w1 (hb:Below w.heap.size w w1)=>aXi E p.es.length ec p.es d.k d.e d.l A x.arms.length ca x.arms w1 (h.1.below hb) (hr.arms.below hb) (Fc d hd);have Nv:=Hd (show(fun d=>eA ts && kQ p.es (aS d) x.arms)=(fun d:Dc=>eA ts && kQ p.es (d.k,d.e,d.l) x.arms)from rfl);rw[Nv.o]at ho;clear Nv Fc;clear a0 a1 a2 Nu hS;generalize eA ts=al at *;generalize aD ts 0=tx at *;obtain⟨x0,x1,x2⟩:=tx;dsimp only at He;unfold aB at Dv ho Cq;unfold nL kY at Dv;generalize Of:aZ (p.ns[i]?.getD default) x.s=od at *;generalize Eb:p.ns[i]?.getD default=nd at *;unfold bK at Dv;unfold aE at HF⊢;unfold aK at HF⊢;rw[hk]at HF⊢
 have HD:=Hd (show ∀ w1,Below w.heap.size w w1->w1.cell? ⟨nb,no+i*5,none⟩=some (.string nd.nm)/\w1.cell? ⟨nb,no+i*5+1,none⟩=some (.slice A1 nd.ins.length c1)/\w1.cell? ⟨nb,no+i*5+2,none⟩=some (.slice A2 nd.outs.length c2)/\w1.cell? ⟨nb,no+i*5+3,none⟩=some (.slice A3 nd.vars.length c3)/\w1.cell? ⟨nb,no+i*5+4,none⟩=some (.slice A4 nd.eqs.length c4) from
  fun w1 hb=>⟨(hb.cell (p:=⟨nb,no+i*5,none⟩) Aq).trans d0,(hb.cell (p:=⟨nb,no+i*5+1,none⟩) Aq).trans d1,(hb.cell (p:=⟨nb,no+i*5+2,none⟩) Aq).trans d2,(hb.cell (p:=⟨nb,no+i*5+3,none⟩) Aq).trans d3,(hb.cell (p:=⟨nb,no+i*5+4,none⟩) Aq).trans d4⟩)
 clear d0 d1 d2 d3 d4 Ap hk h hr;generalize Nx:od.getD default=dd at *;generalize Ny:od.isSome=ds at *;unfold aU at Dv;unfold aF at Cq;have HO:=Hd (show tW od (fun d=>al && kQ p.es (d.k,d.e,d.l) x.arms) (x0,x1,x2)=o from ho);have Nz:=Hd Nx;have Bx:=Hd Ny;clear ho Nx Ny Eb;go_in
 go_upto_region 1 with(fail);generalize Ai:((w.alloc _).alloc _).alloc _=w0;obtain⟨Ae,Al,hp,hx,hR⟩:=HF.o w0 Ai;have Af:=Hd Ae;have HR:=Hd hR;have HP:=Hd hp;have HX:=Hd hx;have q0:=hx w0 (Yg _ _) 0;have q2:=hx w0 (Yg _ _) 2;have p1:=hp w0 (Yg _ _) 1;simp only[Ya,Yb,Yc]at q0 q2 p1;obtain⟨d0,d1,d2,d3,d4⟩:=HD.o w0 Ae;have HQ:=Hd (show ∀w1,Below w0.heap.size w0 w1->w1.cell? ⟨w.heap.size,1,none⟩=some (.slice (some ⟨nb,no,none⟩) p.ns.length nc)/\w1.cell? ⟨w.heap.size+1,2,none⟩=some (.string x.s)/\w1.cell? ⟨nb,no+i*5,none⟩=some (.string nd.nm)/\w1.cell? ⟨nb,no+i*5+1,none⟩=some (.slice A1 nd.ins.length c1)/\w1.cell? ⟨nb,no+i*5+2,none⟩=some (.slice A2 nd.outs.length c2)/\w1.cell? ⟨nb,no+i*5+3,none⟩=some (.slice A3 nd.vars.length c3)/\w1.cell? ⟨nb,no+i*5+4,none⟩=some (.slice A4 nd.eqs.length c4)from fun w1 hb=>⟨HP.o w1 hb 1,HX.o w1 hb 2,HD.o w1 (Af.o.tr hb)⟩);clear Ai Ae Al hp hx hR HF;go_upto_region 5 with(fail);go_cut [10,11] (fun Od Oa wx=>Oa=.bool ds/\∃g,Od=.pointer (some ⟨g,0,none⟩)/\w0.heap.size<=g/\gK wx g dd/\Below w0.heap.size w0 wx)
 case first=>
  exact aFk
 case rest=>
  obtain⟨rfl,g,rfl,hg,hz,Cp⟩:=hcut;generalize wc=wx at *;have HZ:=Hd hz;have HG:=Hd hg;have q0:=HX.o wx Cp 0;have Nt:=Hd (fun W h=>HX.o W h 4);have Bp:=Hd (fun W h=>HP.o W h 0);simp only[Ya,Yb,Yc]at Nt Bp;simp only[Ya,Yb,Yc]at q0;have Cb:=Af.o.tr Cp;obtain⟨a0,a1,a2⟩:=He.o wx Cb;have p0:=Bp.o wx Cp;have q4:=Nt.o wx Cp;have Nw:F3 41 wx (w.heap.size+1+1) 0 0 0:=HR.o.below Cp;have Oc:=HR.o.lt;have Gf:sb≠w.heap.size+1+1:=aA;have Gm:g≠w.heap.size+1+1:=aFi;have Nj:w.heap.size≠w.heap.size+1+1:=aA;have Ba:w.heap.size+1≠w.heap.size+1+1:=aA;have k1:=jT HZ.o 1;have k2:=jT HZ.o 2;have k3:=jT HZ.o 3;simp only[aU,List.getElem?_toArray,Yz,Zb]at k1 k2 k3;have Ce:=Hd Nw;have Bo:=Hd Cb;have Ig:=Hd (show w.heap.size<=w.heap.size+1+1 by omega);clear hz hg Cp Dv HD HQ d0 d1 d2 d3 d4 p1 q2 Nw Cb Oc Nt Bp;go_upto_region 10 with(fail);have Og:0<m:=hm;cases ds with
  |false=>
   have Ee:=Hd (show o=none by rw[<-HO.o];exact bD5 Bx.o);exact fK9
  |true=>
   have Jx:=Hd (bD6 (f:=fun d=>al && kQ p.es (d.k,d.e,d.l) x.arms) (t:=(x0,x1,x2)) Bx.o Nz.o);have Ed:=Hd (fun w1 hb=>Cq.o dd (by have h1:=Bx.o;have h2:=Nz.o;cases od with|none=>cases h1|some d=>exact congrArg some h2) w1 hb);clear Cq;generalize kQ p.es (dd.k,dd.e,dd.l) x.arms=Oe at *;cases al with
   |false=>
    have Ee:=Hd (show o=none by rw[<-HO.o,Jx.o];rfl);exact fK9
   |true=>
    cases Oe with
    |false=>
     have Ee:=Hd (show o=none by rw[<-HO.o,Jx.o];rfl);refine dL (l1:=[_,_,_,_,_,_,_,_,_,_,_,_,_,_,_,_,_]) (os:=_) (l2:=[_]) (p:=8) (tx:=79) (r:=w.heap.size+1+1) (T:=41) (zc:=aF 0 0 0) aC aC rfl Ce.o rfl dI ?_
     repeat
      apply dH rfl aG;case h1=>
       exact aQb
      simp only[Act.put,Yd,Ye,Yf]
     refine⟨aF x0 x1 x2,rfl,rfl,by simp[aF,Value.oneCell'],fun W hB hz=>?_⟩;have Be:=Hd (dG hB Bo.o (Yh _) Ig.o);have Dq:=Hd hz;clear hB hz;go_wp2_with fail;exact Zu (bA (p:=8) (u:=9) rfl _ _ (w.heap.size+1+1) x0 x1 x2 rfl Dq.o) rfl ⟨x0,x1,x2,mX,fun t ht=>(by rw[Ee.o]at ht;cases ht),Be.o⟩
    |true=>
     have Ee:=Hd (show o=some (x0,x1,x2)by rw[<-HO.o,Jx.o];rfl);refine dL (l1:=[_,_,_,_,_,_,_,_,_,_,_,_,_,_,_,_,_]) (os:=_) (l2:=[_]) (p:=8) (tx:=79) (r:=w.heap.size+1+1) (T:=41) (zc:=aF 0 0 0) aC aC rfl Ce.o rfl dI ?_
     repeat
      apply dH rfl aG;case h1=>
       exact aQb
      simp only[Act.put,Yd,Ye,Yf]
     refine⟨aF x0 x1 x2,rfl,rfl,by simp[aF,Value.oneCell'],fun W hB hz=>?_⟩;have Be:=Hd (dG hB Bo.o (Yh _) Ig.o);have Dq:=Hd hz;clear hB hz;go_wp2_with fail;exact Zu (bA (p:=8) (u:=9) rfl _ _ (w.heap.size+1+1) x0 x1 x2 rfl Dq.o) rfl ⟨x0,x1,x2,mX,fun t ht=>aPl,Be.o⟩
end
section
open Go.RowKit Go.Sort
def wC(k:Int):Nat:=if k=9 then 2 else if k=13 then 0 else 1
theorem bD7{p:Pg}{i:Nat}{x:Ex}{ts:List T3}(hk:x.k=9):jK p i x ts=if aD ts 0=aD ts 1 then some (aD ts 0)else none:=sC
theorem bAu{p:Pg}{i:Nat}{x:Ex}{ts:List T3}(hk:x.k=10):jK p i x ts=some (aD ts 0):=sC
theorem bAv{p:Pg}{i:Nat}{x:Ex}{ts:List T3}(hk:x.k=11):sA (aZ (aB p i) x.s) (bP p.es (x.arms[0]?.getD ByteArray.empty)) (aD ts 0)=jK p i x ts:=by
 unfold jK sA;rw[hk];cases aZ (aB p i) x.s<;>cases bP p.es (x.arms[0]?.getD ByteArray.empty)<;>rfl
theorem bAw{p:Pg}{i:Nat}{x:Ex}{ts:List T3}(hk:x.k=12):tW (aZ (aB p i) x.s) (fun d=>eA ts && kQ p.es (aS d) x.arms) (aD ts 0)=jK p i x ts:=by
 unfold jK tW;rw[hk];cases aZ (aB p i) x.s<;>rfl
theorem bAx{p:Pg}{i:Nat}{x:Ex}{ts:List T3}(hk:x.k=13):aAb p (fS p x ts)=jK p i x ts:=by
 unfold jK aAb;rw[hk];cases fS p x ts<;>rfl
theorem bAy(p:Pg)(E:Option Addr)(ec:Nat)(N:Option Addr)(nc:Nat)(i:Nat)(x:Ex)(A:Option Addr)(ca:Nat)(B:Option Addr)(cb:Nat)(S:Option Addr)(m sc:Nat)(ts:List T3)(w:World)(h:cJ w p E N)(hr:aH w x A B)(hS:aR w S m ts)
 (Jx:9<=x.k)(Bx:x.k<=13)(hm:wC x.k<=m)(hi:i<p.ns.length)(Aq:(aB p i).all.length<=1000)(Bp:x.k=11->0<x.arms.length)(hn1:x.k=13->x.n=0\/x.n=1)(Fc:∀d,aZ (aB p i) x.s=some d->bQ p.es.length d.k d.e d.l=true):
 Calls Tryz.prog 128 #[.agg (aK p E ec N nc),.int .i64 i,.agg (aE x A ca B cb),.slice S m sc] w (fO w (jK p i x ts)):=by
 rcases(show x.k=9\/x.k=10\/x.k=11\/x.k=12\/x.k=13 by omega)with hk|hk|hk|hk|hk
 . rw[bD7 hk];exact bAt p E ec N nc i x A ca B cb S m sc ts w hS hk nZ
 . rw[bAu hk];exact aXj p E ec N nc i x A ca B cb S m sc ts w hS hk nZ
 . exact aXo p E ec N nc i x A ca B cb S m sc ts w h hr hS hk nZ hi Aq (Bp hk) _ (bAv hk)
 . exact aXq p E ec N nc i x A ca B cb S m sc ts w h hr hS hk nZ hi Aq Fc _ (bAw hk)
 . exact aXp p E ec N nc i x A ca B cb S m sc ts w h hr hS hk (hn1 hk) hi Aq _ (bAx hk)
theorem aHo(l:Option Addr)(n c:Nat)(es:List En)(x:Ex)(A:Option Addr)(ca:Nat)(B:Option Addr)(cb:Nat)(w:World)(hE:bU w l n es)(hr:aH w x A B)(hs:bD x<=1000000)(Aq:∀p∈bL x,cX p):
 Calls Tryz.prog 127 #[.slice l n c,.agg (aE x A ca B cb)] w (kL w (eG es x)):=by
 cases h:(bH x && dQ x)with
 |false=>
  rw[aB9 h];exact aUz l n c x A ca B cb w hr hs Aq h
 |true=>
  by_cases hk:x.k=14
  . rw[aBr h hk];exact aTl l n c es x A ca B cb w hE hr hs Aq h hk _ rfl _ rfl
  . rw[xM h hk];exact aTk l n c es x A ca B cb w hE hr hs Aq h hk
def gC(l:List T3):List Value:=l.flatMap nC
theorem bD8(l:List T3):(gC l).length=l.length*3:=by
 induction l with
 |nil=>rfl
 |cons d l ih=>simp only[gC,List.flatMap_cons,Yn,Yo]at ih⊢;rw[ih];simp[nC];omega
theorem yZ(a b:List T3):gC (a++b)=gC a++gC b:=by simp[gC]
theorem zA(d:T3):gC [d]=nC d:=by simp[gC]
theorem aLz:∀(l:List T3)(i j:Nat),i<l.length->j<3->(gC l)[i*3+j]?=(nC (l[i]?.getD default))[j]?
 |t::ts,0,j,_,hj=>by
  have hz:j<(nC t).length:=by simpa[nC]using hj
  simp only[gC,List.flatMap_cons,Nat.zero_mul,Nat.zero_add];exact aEr
 |t::ts,i+1,j,hi,hj=>by
  have ih:=aLz ts i j qI hj;have hz:(nC t).length=3:=by simp[nC]
  simp only[gC,List.flatMap_cons];rw[List.getElem?_append_right (by rw[hz];omega),hz,show(i+1)*3+j-3=i*3+j by omega];simpa[gC]using ih
section
variable {w w':World}{A:Option Addr}{n:Nat}{l:List T3}
theorem aR.of_own{base:Nat}{e:TypeId}{v:Value}(h:w.ownsRow base e 3 v n (gC l))(hm:n<=9223372036854775807):∃A c,v=.slice A n c/\aR w A n l:=by
 have hl:l.length=n:=by
  have:=h.1
  rw[bD8]at this;omega
 rcases h.2 with⟨rfl,rfl⟩|⟨g,cap,cur,rfl,hg,hh,hnc,hcm,hcs,ht⟩;· exact aEd
 . refine⟨_,cap,rfl,hl,hm,fun hn=>⟨g,0,rfl,(Yl.1 hh).1,fun i hi=>?_⟩⟩;intro j v hv;have hj:j<3:=by
    rcases Nat.lt_or_ge j 3 with h|h;· exact h
    . rw[List.getElem?_eq_none (by simpa[nC]using h)]at hv;cases hv
   rw[Nat.zero_add,h.cellAt (i*3+j) aA,aLz l i j aA hj,hv]
end
theorem vH:(Tryz.prog.info? 41).map (fun i=>(i.size,i.bytes,i.zero.map fun z=>z.cells.size))=some (3,24,some 3):=aC
def bF(w:World)(o:Option T3)(e:Ending)(w':World):Prop:=e=.returned (.tuple #[.agg (aF (o.getD (0,0,0)).1 (o.getD (0,0,0)).2.1 (o.getD (0,0,0)).2.2),.bool o.isSome])/\Below w.heap.size w w'
def jF(w:World)(o:Option (List T3))(e:Ending)(w':World):Prop:=
 ∃S n c ts,e=.returned (.tuple #[.slice S n c,.bool o.isSome])/\(∀r,o=some r->r=ts/\aR w' S n ts)/\Below w.heap.size w w'
theorem bAz{w w0:World}{p:Pg}{E:Option Addr}{ec:Nat}{N:Option Addr}{nc:Nat}{x:Ex}{A:Option Addr}{ca:Nat}{B:Option Addr}{cb:Nat}
 (h:(w.alloc (.cells (aK p E ec N nc) 25)).alloc (.cells (aE x A ca B cb) 52)=w0):
 Below w.heap.size w w0/\w0.heap.size=w.heap.size+2/\(∀w',Below w0.heap.size w0 w'->∀j,w'.cell? ⟨w.heap.size,j,none⟩=(aK p E ec N nc)[j]?)/\(∀w',Below w0.heap.size w0 w'->∀j,w'.cell? ⟨w.heap.size+1,j,none⟩=(aE x A ca B cb)[j]?):=aDx h
end
section
open Go.RowKit Go.Sort Go.BigFrame
theorem aK0(p:Pg)(E:Option Addr)(ec:Nat)(N:Option Addr)(nc:Nat)(i:Nat)(x:Ex)(A:Option Addr)(ca:Nat)(B:Option Addr)(cb:Nat)(w:World)(hi:i<p.ns.length)(Nt:p.ns.length<=9223372036854775807)(o:Option T3)
 (Bp:∀w1,Below w.heap.size w w1->Calls Tryz.prog 90 #[.agg (aK p E ec N nc),.int .i64 i,.agg (aE x A ca B cb)] w1 (fO w1 o)):
 Calls Tryz.prog 58 #[.agg (aK p E ec N nc),.int .i64 i,.agg (aE x A ca B cb)] w (bF w o):=by
 have HF:=Hd fun w0 h=>mI (w:=w) (w0:=w0) (p:=p) (E:=E) (ec:=ec) (N:=N) (nc:=nc) (x:=x) (A:=A) (ca:=ca) (B:=B) (cb:=cb) (T:=25) (U:=52) (V:=41) h;have Aq:=Hd Bp;clear Bp;unfold aK aE at HF Aq⊢;unfold fO at Aq;generalize p.ns.length=pn at *;go_in
 go_upto_region 1 with(fail);generalize Ai:((w.alloc _).alloc _).alloc _=w0;obtain⟨Ae,Al,hp,hx,hR⟩:=HF.o w0 Ai;have Af:=Hd Ae;have HR:=Hd hR;have p0:=hp w0 (Yg _ _) 0;have p1:=hp w0 (Yg _ _) 1;obtain⟨q0,q1,q2,q3,q4,q5⟩:=Sx (hx w0 (Yg _ _));simp only[Ya,Yb,Yc]at p0 p1 q0 q1 q2 q3 q4 q5;have Bz:=Hd (Aq.o w0 Ae);clear Ai Ae Al hp hx hR HF Aq;have hd:decide ((i:Int)<0)=false:=Zz aA;have Jx:decide ((pn:Int)<=(i:Int))=false:=Zz aA;go_wp2_with fail;refine Bz.o.mono ?_;rintro e w1 ⟨a,b,c,rfl,hv,Aa⟩;have Bi:=Hd (HR.o.below Aa);have Ac:=Hd (Af.o.tr Aa);have HV:=Hd hv;clear Aa hv Bz p0 p1 q0 q1 q2 q3 q4 q5;generalize Bx:o.isSome=os at *;have HS:=Hd Bx;clear Bx;unfold aF;go_upto_region 4 with(fail);generalize Br:w1.alloc _=w2;obtain⟨Ad,Fh,hg2⟩:=iB Br;have Ce:=Hd (Bi.o.below Ad);have Aj:=Hd (Ac.o.tr Ad);obtain⟨f0,f1,f2,-,-,-⟩:=Sx Fh.cell;simp only[aF,List.getElem?_toArray,Yz,Zb]at f0 f1 f2;have hn:w1.heap.size≠w.heap.size+1+1:=by have:=Bi.o.lt;omega
 clear Br Ad Fh hg2;cases os with
 |false=>
  have HO:=Hd (show o=none by have:=HS.o;cases o with|none=>rfl|some r=>cases this);go_upto_region 5 with(fail);go_wp2_with (refine Zv rfl _ _ _ rfl (w.heap.size+1+1) _ rfl rfl _ _ Ce.o cW rfl aQ ?_);exact Zu (bA (p:=6) (u:=7) rfl _ _ (w.heap.size+1+1) 0 0 0 rfl (Ce.o.set _ _ _)) rfl ⟨by rw[HO.o];rfl,Xc Aj.o aA _⟩
 |true=>
  have HO:=Hd (show o=some (a,b,c)by have:=HS.o;cases h:o with|none=>rw[h]at this;cases this|some r=>rw[HV.o r h]);go_upto_region 6 with(fail);go_wp2_with (refine Zv rfl _ _ _ rfl (w.heap.size+1+1) _ rfl rfl _ _ Ce.o cW rfl aQ ?_);exact Zu (bA (p:=6) (u:=7) rfl _ _ (w.heap.size+1+1) a b c rfl (Ce.o.set _ _ _)) rfl ⟨by rw[HO.o];rfl,Xc Aj.o aA _⟩
theorem aIr(p:Pg)(E:Option Addr)(ec:Nat)(N:Option Addr)(nc:Nat)(i:Nat)(x:Ex)(A:Option Addr)(ca:Nat)(B:Option Addr)(cb:Nat)(w:World)(hr:aH w x A B)(m:Nat)(Nx:x.subs.length=m)(hm:m<=1000000)(l:List (Option T3))(Oi:l.length=m)(oo:Option (List T3))(Fw:bV l=oo)
 (Nt:∀k,k<m->∀A' Ny B' Nw w1,Below w.heap.size w w1->aH w (aM x k) A' B'->Calls Tryz.prog 58 #[.agg (aK p E ec N nc),.int .i64 i,.agg (aE (aM x k) A' Ny B' Nw)] w1 (bF w1 (l[k]?.getD none))):
 Calls Tryz.prog 56 #[.agg (aK p E ec N nc),.int .i64 i,.agg (aE x A ca B cb)] w (jF w oo):=by
 have HF:=Hd fun w0 h=>bAz (w:=w) (w0:=w0) (p:=p) (E:=E) (ec:=ec) (N:=N) (nc:=nc) (x:=x) (A:=A) (ca:=ca) (B:=B) (cb:=cb) h;have Od:=Hd fun k (Ol:k<x.subs.length)=>hr.sub Ol;have Aq:=Hd Nt;have Ok:=Hd Fw;have Mg:=Hd Oi;have Oo:=Hd fun k ts (hk:k<l.length)(h:bV (l.take k)=some ts) a (ha:l[k]?.getD none=some a)=>aB6 hk h ha;have Cj:=Hd fun k (hk:k<l.length)(h:l[k]?.getD none=none)=>xQ hk h;have Nz:=Hd (show l.take m=l from Yx aA);have Nv:=Hd (show bV (l.take 0)=some []from rfl);obtain⟨i0,z0,Oq,Ot,On,Cu,Om⟩:=kG vH;rw[Nx]at Od;clear hr Nt Fw Oi;unfold aK at HF Aq⊢;unfold aE at HF Aq⊢;rw[Nx]at HF⊢;unfold bF at Aq;generalize p.ns.length=pn at *;generalize p.es.length=pe at *;clear Nx;go_in
 go_upto_region 1 with(fail);generalize Ai:(w.alloc _).alloc _=w0;obtain⟨Ae,Al,hp,hx⟩:=HF.o w0 Ai;have Af:=Hd Ae;have HP:=Hd hp;have HX:=Hd hx;have Oa:=World.ownsRow_lit (base:=w0.heap.size) (e:=41) (size:=3) w0 #[] 0 (Yh _) bS rfl;have Fy:=Hd Oa;have Of:=Hd ((Yg w0.heap.size w0).alloc (Yh _) (.cells #[] 41));clear Ai Ae Al hp hx HF Oa;go_upto_region 2 with(fail);generalize w0.alloc _=wN at *;go_wp2_with fail;go_loopw [8,9] (fun v i wr=>∃(k:Nat)(ts:List T3),k<=m/\i=.int .i64 k/\bV (l.take k)=some ts/\wr.ownsRow w0.heap.size 41 3 v k (gC ts)/\Below w0.heap.size w0 wr) (fun _ i _=>m-(intOf i).toNat)
 case atStart=>exact⟨0,[],Yq _,rfl,Nv.o,Fy.o,Of.o⟩
 case round=>
  obtain⟨k,ts,hk,rfl,Nu,Bq,Ay⟩:=hrel;have Oh:=Hd Nu;have Jx:=Hd Bq;have Cm:=Hd Ay;have Cb:=Af.o.tr Ay;have Bo:=Hd Cb;have p0:=HP.o wr Ay 0;have p1:=HP.o wr Ay 1;have q5:=HX.o wr Ay 5;simp only[Ya,Yb,Yc]at p0 p1 q5;clear Nu Bq Fy Of;by_cases Ah:k<m
  . obtain⟨b,off,rfl,hb,Ca⟩:=Od.o k Ah;obtain⟨A',Ny,B',Nw,Oj,Ap⟩:=Ca k Ah;obtain⟨c0,c1,c2,c3,c4,c5⟩:=dT (fT Oj hb fun p hp=>Cb.cell hp);have Oe:=Hd fun w1 (Aa:Below w.heap.size w w1)=>Aq.o k Ah A' Ny B' Nw w1 Aa Ap;have Fi:=Hd (Cj.o k aAp);have Gn:=Hd (Oo.o k ts aAp Oh.o);clear Ca Oj Ap Ay Cb;generalize aM x k=y at *;generalize l[k]?.getD none=o at *;generalize Og:(o.getD (0,0,0)).1=oa at *;generalize Ob:(o.getD (0,0,0)).2.1=ob at *;generalize Dk:(o.getD (0,0,0)).2.2=oc at *;generalize Oc:o.isSome=os at *;have HV:=Hd (show ∀r,o=some r->r=(oa,ob,oc)from fun r h=>by subst h Og Ob Dk;rfl);have HS:=Hd Oc;clear Og Ob Dk Oc;unfold aF at Oe;go_upto_region 5 with(fail);refine kF (l:=[_,_,_,_,_,_,_,_,_,_,_,_,_,_]) 11 12 _ _ (d:=10) (tx:=29) (T:=41) (zc:=aF 0 0 0) aC rfl rfl aC rfl aG (fun a W=>by rfl) rfl aC ?_
    repeat
     first
     |refine kJ rfl ?_
     | (apply kI rfl rfl aG
        case h1=>
         intro wb hb;have Bn:=cU hb;have l0:=fun d os=>Zs ((Bn.cell (Yi _ _ p0)).trans p0) d os;have l1:=fun d os=>Zs ((Bn.cell (Yi _ _ p1)).trans p1) d os;have l2:=fun d os=>Zs ((Bn.cell (Yi _ _ q5)).trans q5) d os;have m0:=fun d os=>Zs ((Bn.cell (Yi _ _ c0)).trans c0) d os;have m1:=fun d os=>Zs ((Bn.cell (Yi _ _ c1)).trans c1) d os;have m2:=fun d os=>Zs ((Bn.cell (Yi _ _ c2)).trans c2) d os;have m3:=fun d os=>Zs ((Bn.cell (Yi _ _ c3)).trans c3) d os;have m4:=fun d os=>Zs ((Bn.cell (Yi _ _ c4)).trans c4) d os;have m5:=fun d os=>Zs ((Bn.cell (Yi _ _ c5)).trans c5) d os;have h3:=Bo.o.tr Bn;have cA:=fun d os=>Zi (Oe.o (grow (redrawn wb d) os) (h3.trans ((Zt wb d os).mono h3.size)));exact tO
        simp only[Act.put,Yd,Ye,Yf])
    refine⟨aF oa ob oc,rfl,rfl,by simp[aF,Value.oneCell'],fun W g hW hg hz=>?_⟩;have Bt:=Hd (cU hW);have HZ:=Hd (show F3 41 W g oa ob oc from hz);clear hW hg hz p0 p1 q5 c0 c1 c2 c3 c4 c5;show Exit.then _ _ .normal _ W;simp only[Act.put,Yd,Ye,Yf];have Bx:=Hd (gE Jx.o (Bt.o));have Bp:=Hd (Cm.o.tr Bt.o);cases os with
    |false=>
     have HO:=Hd (show oo=none by rw[<-Ok.o];exact Fi.o (by have:=HS.o;cases o with|none=>rfl|some r=>cases this));go_wp2_with fail;try go_ret2
     exact⟨none,0,0,[],by rw[HO.o];rfl,fun r h=>tZ,Bo.o.tr Bt.o⟩
    |true=>
     have HO:=Hd (show o=some (oa,ob,oc)by have:=HS.o;cases h:o with|none=>rw[h]at this;cases this|some r=>rw[HV.o r h]);have Mh:=Hd (Gn.o _ HO.o);obtain⟨f0,f1,f2,-,-,-⟩:=Sx HZ.o.cell;simp only[aF,List.getElem?_toArray,Yz,Zb]at f0 f1 f2;have Fm:=Bp.o.size;go_wp2_with (at_builtin;refine wpList_append_own_at _ rfl _ _ 93 rfl w0.heap.size 41 i0 z0 3 24 Tryz.underlying93 Oq Ot On Cu Om bS u8 k (gC ts) rfl (gE Bx.o ((Yg W.heap.size W).alloc (Yh _) (.cells #[.int .i64 oa,.int .i64 ob,.int .i64 oc] 41))) ⟨W.heap.size,0,none⟩ 1 1 [.int .i64 oa,.int .i64 ob,.int .i64 oc] rfl rfl (fun j u hu=>World.news_of_block (Zx _ _) j u hu) aQ dP aA dA ?_;intro v' w9 Bb Ar Ec Dy;have Is:=Hd Bb;have Fq:=Hd (show Below w0.heap.size w0 w9 from(Bp.o.alloc Bp.o.size _).grown Ar dA (fun j hj=>(Bx.o.lt j hj).1));clear Bb Ar Ec Dy);exact aMz
  . obtain rfl:k=m:=by omega
    have HO:=Hd (show oo=some ts by rw[<-Ok.o,<-Nz.o];exact Oh.o);obtain⟨S,c,rfl,Cz⟩:=aR.of_own Jx.o aA;have Ew:=Hd Cz;clear Cz;go_wp2_with fail;try go_ret2
    exact⟨S,k,c,ts,by rw[HO.o];rfl,fun r h=>(by rw[HO.o]at h;injection h with h;exact⟨h.symm,Ew.o⟩),Bo.o⟩
theorem bGk(p:Pg)(E:Option Addr)(ec:Nat)(N:Option Addr)(nc:Nat)(i:Nat)(x:Ex)(A:Option Addr)(ca:Nat)(B:Option Addr)(cb:Nat)(w:World)(h:cJ w p E N)(hr:aH w x A B)(hk:x.k=1\/x.k=2\/x.k=4)(hs:bD x<=1000000)(Aq:∀q∈bL x,cX q)(o:Option T3)(ho:(eG p.es x).map (·.2)=o):
 Calls Tryz.prog 90 #[.agg (aK p E ec N nc),.int .i64 i,.agg (aE x A ca B cb)] w (fO w o):=by
 have HF:=Hd fun w0 h=>mI (w:=w) (w0:=w0) (p:=p) (E:=E) (ec:=ec) (N:=N) (nc:=nc) (x:=x) (A:=A) (ca:=ca) (B:=B) (cb:=cb) (T:=25) (U:=52) (V:=41) h;have HC:=Hd fun w1 (hb:Below w.heap.size w w1)=>aHo E p.es.length ec p.es x A ca B cb w1 (h.1.below hb) (hr.below hb) hs Aq;unfold kL at HC;generalize eG p.es x=oc at *;clear h hr hs Aq;unfold aK aE at HF⊢;unfold aE at HC;generalize p.es.length=pe at *;generalize p.ns.length=pn at *;rcases hk with hk|hk|hk
 all_goals
  rw[hk]at HF HC⊢;go_in
  go_upto_region 1 with(fail);generalize Ai:((w.alloc _).alloc _).alloc _=w0;obtain⟨Ae,Al,hp,hx,hR⟩:=HF.o w0 Ai;have Af:=Hd Ae;have HR:=Hd hR;have p0:=hp w0 (Yg _ _) 0;have p1:=hp w0 (Yg _ _) 1;obtain⟨q0,q1,q2,q3,q4,q5⟩:=Sx (hx w0 (Yg _ _));simp only[Ya,Yb,Yc]at p0 p1 q0 q1 q2 q3 q4 q5;clear Ai Al hp hx hR HF;have Bp:=Hd (HC.o w0 Ae);clear Ae HC;go_wp2_with fail;refine Bp.o.mono ?_;rintro e w1 ⟨S,n,c,a,b,d,vs,rfl,-,-,-,⟨hv,-⟩,Aa⟩;have Bi:=Hd (HR.o.below Aa);have Ac:=Hd (Af.o.tr Aa);have HV:=Hd hv;clear Aa hv Bp p0 p1 q0 q1 q2 q3 q4 q5;generalize Bx:oc.isSome=os at *;have HS:=Hd Bx;clear Bx;unfold aF;go_upto_region 6 with(fail);generalize Br:w1.alloc _=w2;obtain⟨Ad,Fh,hg2⟩:=iB Br;have Ce:=Hd (Bi.o.below Ad);have Aj:=Hd (Ac.o.tr Ad);obtain⟨f0,f1,f2,-,-,-⟩:=Sx Fh.cell;simp only[aF,List.getElem?_toArray,Yz,Zb]at f0 f1 f2;have hn:w1.heap.size≠w.heap.size+1+1:=by have:=Bi.o.lt;omega
  clear Br Ad Fh hg2;go_wp2_with (refine Zv rfl _ _ _ rfl (w.heap.size+1+1) _ rfl rfl _ _ Ce.o cW rfl aQ ?_)
  exact Zu (bA (p:=6) (u:=7) rfl _ _ (w.heap.size+1+1) a b d rfl (Ce.o.set _ _ _)) rfl ⟨a,b,d,by rw [<- ho,Option.isSome_map,HS.o];rfl,fun t ht=>(by
   rw[<-ho]at ht;obtain⟨r,h1,rfl⟩:=Option.map_eq_some_iff.1 ht;rw[HV.o r h1]),Xc Aj.o aA _⟩
theorem bGl(p:Pg)(E:Option Addr)(ec:Nat)(N:Option Addr)(nc:Nat)(i:Nat)(x:Ex)(A:Option Addr)(ca:Nat)(B:Option Addr)(cb:Nat)(w:World)(hk:x.k=17)(o:Option T3)(ho:none=o):
 Calls Tryz.prog 90 #[.agg (aK p E ec N nc),.int .i64 i,.agg (aE x A ca B cb)] w (fO w o):=by
 subst ho;have HF:=Hd fun w0 h=>mI (w:=w) (w0:=w0) (p:=p) (E:=E) (ec:=ec) (N:=N) (nc:=nc) (x:=x) (A:=A) (ca:=ca) (B:=B) (cb:=cb) (T:=25) (U:=52) (V:=41) h;unfold aK aE at HF⊢;generalize p.es.length=pe at *;generalize p.ns.length=pn at *;rw[hk]at HF⊢;go_in
 go_upto_region 1 with(fail);generalize Ai:((w.alloc _).alloc _).alloc _=w0;obtain⟨Ae,Al,hp,hx,hR⟩:=HF.o w0 Ai;have Af:=Hd Ae;have HR:=Hd hR;have p0:=hp w0 (Yg _ _) 0;have p1:=hp w0 (Yg _ _) 1;obtain⟨q0,q1,q2,q3,q4,q5⟩:=Sx (hx w0 (Yg _ _));simp only[Ya,Yb,Yc]at p0 p1 q0 q1 q2 q3 q4 q5;clear Ai Al hp hx hR HF;clear Ae;go_upto_region 15 with(fail);go_wp2_with (refine Zv rfl _ _ _ rfl (w.heap.size+1+1) _ rfl rfl _ _ HR.o cW rfl aQ ?_);exact Zu (bA (p:=6) (u:=7) rfl _ _ (w.heap.size+1+1) 0 0 0 rfl (HR.o.set _ _ _)) rfl ⟨0,0,0,rfl,fun t ht=>(by cases ht),Xc Af.o aA _⟩
theorem bGm(p:Pg)(E:Option Addr)(ec:Nat)(N:Option Addr)(nc:Nat)(i:Nat)(x:Ex)(A:Option Addr)(ca:Nat)(B:Option Addr)(cb:Nat)(w:World)(hk:(x.k=5\/x.k=6\/x.k=7\/x.k=14\/x.k=15\/x.k=16)\/(9<=x.k/\x.k<=13))(os:Option (List T3))(o:Option T3)
 (Jx:∀w1,Below w.heap.size w w1->Calls Tryz.prog 56 #[.agg (aK p E ec N nc),.int .i64 i,.agg (aE x A ca B cb)] w1 (jF w1 os))
 (Bp:os=none->o=none)
 (Bx:9<=x.k->x.k<=13->∀ts,os=some ts->∀S n c w1,Below w.heap.size w w1->aR w1 S n ts->Calls Tryz.prog 128 #[.agg (aK p E ec N nc),.int .i64 i,.agg (aE x A ca B cb),.slice S n c] w1 (fO w1 o))
 (Aq:(x.k=5\/x.k=6\/x.k=7\/x.k=14\/x.k=15\/x.k=16)->∀ts,os=some ts->∀S n c w1,Below w.heap.size w w1->aR w1 S n ts->Calls Tryz.prog 129 #[.agg (aE x A ca B cb),.slice S n c] w1 (fO w1 o)):
 Calls Tryz.prog 90 #[.agg (aK p E ec N nc),.int .i64 i,.agg (aE x A ca B cb)] w (fO w o):=by
 have HF:=Hd fun w0 h=>mI (w:=w) (w0:=w0) (p:=p) (E:=E) (ec:=ec) (N:=N) (nc:=nc) (x:=x) (A:=A) (ca:=ca) (B:=B) (cb:=cb) (T:=25) (U:=52) (V:=41) h;have HS:=Hd Jx;have Nt:=Hd Bx;have Nu:=Hd Aq;have Ly:=Hd Bp;clear Jx Bx Aq Bp;unfold aK aE at HF⊢;unfold aK aE at HS Nt;unfold aE at Nu;unfold jF at HS;unfold fO at Nt Nu;generalize p.es.length=pe at *;generalize p.ns.length=pn at *;generalize x.k=k at *;have HK:=Hd hk;have b1:(k==1)=false:=Xb.2 aA;have b2:(k==2)=false:=Xb.2 aA;have b4:(k==4)=false:=Xb.2 aA;have b3:(k==3)=false:=Xb.2 aA;have b8:(k==8)=false:=Xb.2 aA;have Nz:(k==17)=false:=Xb.2 aA;clear hk;go_in
 go_upto_region 1 with(fail);generalize Ai:((w.alloc _).alloc _).alloc _=w0;obtain⟨Ae,Al,hp,hx,hR⟩:=HF.o w0 Ai;have Af:=Hd Ae;have HR:=Hd hR;have HP:=Hd hp;have HX:=Hd hx;have p0:=hp w0 (Yg _ _) 0;have p1:=hp w0 (Yg _ _) 1;obtain⟨q0,q1,q2,q3,q4,q5⟩:=Sx (hx w0 (Yg _ _));simp only[Ya,Yb,Yc]at p0 p1 q0 q1 q2 q3 q4 q5;clear Ai Al hp hx hR HF;have Nw:=Hd (HS.o w0 Ae);clear Ae HS;go_wp2_with fail;refine Nw.o.mono ?_;rintro e w1 ⟨S,n,c,ts,rfl,hv,Aa⟩;have Bi:=Hd (HR.o.below Aa);have Ac:=Hd (Af.o.tr Aa);have HV:=Hd hv;obtain⟨r0,r1,r2,r3,r4,r5⟩:=Sx (HX.o w1 Aa);have s0:=HP.o w1 Aa 0;have s1:=HP.o w1 Aa 1;simp only[Ya,Yb,Yc]at r0 r1 r2 r3 r4 r5 s0 s1;clear Aa hv Nw p0 p1 q0 q1 q2 q3 q4 q5 HX HP b1 b2 b4 b3 b8 Nz;cases os with
 |none=>
  obtain rfl:=Ly.o rfl;go_upto_region 18 with(fail);go_wp2_with (refine Zv rfl _ _ _ rfl (w.heap.size+1+1) _ rfl rfl _ _ Bi.o cW rfl aQ ?_);exact Zu (bA (p:=6) (u:=7) rfl _ _ (w.heap.size+1+1) 0 0 0 rfl (Bi.o.set _ _ _)) rfl ⟨0,0,0,rfl,fun t ht=>(by cases ht),Xc Ac.o aA _⟩
 |some us=>
  obtain⟨he,Cz⟩:=HV.o us rfl;subst he;rcases HK.o with hk|⟨hk1,hk2⟩
  . have Nx:=Hd (Nu.o hk us rfl S n c w1 Ac.o Cz);have Ah:(decide ((9:Int)<=k) && decide (k<=13))=false:=by
     rcases hk with rfl|rfl|rfl|rfl|rfl|rfl<;>rfl
    clear Ah Nu Nt Cz;rcases hk with rfl|rfl|rfl|rfl|rfl|rfl
    all_goals
     go_wp2_with fail;refine Nx.o.mono ?_;rintro e w2 ⟨a,b,d,rfl,hv,Ad⟩;have Ce:=Hd (Bi.o.below Ad);have Aj:=Hd (Ac.o.tr Ad);have Nv:=Hd hv;clear Ad hv Nx r0 r1 r2 r3 r4 r5 s0 s1;unfold aF;go_wp2_with (refine Zv rfl _ _ _ rfl (w.heap.size+1+1) _ rfl rfl _ _ Ce.o cW rfl aQ ?_);exact Zu (bA (p:=6) (u:=7) rfl _ _ (w.heap.size+1+1) a b d rfl (Ce.o.set _ _ _)) rfl ⟨a,b,d,rfl,Nv.o,Xc Aj.o aA _⟩
  . have Ny:=Hd (Nt.o hk1 hk2 us rfl S n c w1 Ac.o Cz);have d1:decide ((9:Int)<=k)=true:=Zy hk1;have d2:decide (k<=(13:Int))=true:=Zy hk2;clear Nu Nt Cz hk1 hk2;go_wp2_with fail;refine Ny.o.mono ?_;rintro e w2 ⟨a,b,d,rfl,hv,Ad⟩;have Ce:=Hd (Bi.o.below Ad);have Aj:=Hd (Ac.o.tr Ad);have Nv:=Hd hv;clear Ad hv Ny r0 r1 r2 r3 r4 r5 s0 s1;unfold aF;go_wp2_with (refine Zv rfl _ _ _ rfl (w.heap.size+1+1) _ rfl rfl _ _ Ce.o cW rfl aQ ?_);exact Zu (bA (p:=6) (u:=7) rfl _ _ (w.heap.size+1+1) a b d rfl (Ce.o.set _ _ _)) rfl ⟨a,b,d,rfl,Nv.o,Xc Aj.o aA _⟩
theorem bGn(p:Pg)(E:Option Addr)(ec:Nat)(N:Option Addr)(nc:Nat)(i:Nat)(x:Ex)(A:Option Addr)(ca:Nat)(B:Option Addr)(cb:Nat)(w:World)(h:cJ w p E N)(hi:i<p.ns.length)(Bx:(aB p i).all.length<=1000)(hk:x.k=3)(o:Option T3)(ho:(aZ (aB p i) x.s).map aS=o):
 Calls Tryz.prog 90 #[.agg (aK p E ec N nc),.int .i64 i,.agg (aE x A ca B cb)] w (fO w o):=by
 have HF:=Hd fun w0 h=>mI (w:=w) (w0:=w0) (p:=p) (E:=E) (ec:=ec) (N:=N) (nc:=nc) (x:=x) (A:=A) (ca:=ca) (B:=B) (cb:=cb) (T:=25) (U:=52) (V:=41) h;obtain⟨nb,no,A1,c1,A2,c2,A3,c3,A4,c4,rfl,Aq,Ap,d0,d1,d2,d3,d4⟩:=iR h.2 hi;have Dv:=Hd fun w1 (hb:Below w.heap.size w w1)=>pT (aB p i) A1 c1 A2 c2 A3 c3 A4 c4 x.s w1 (Ap.below hb) Bx;unfold nL kY at Dv
 have HO:=Hd (show ∀ dd,(aZ (aB p i) x.s).getD default=dd->(aZ (aB p i) x.s).isSome=o.isSome/\∀ t,o=some t->t=(dd.k,dd.e,dd.l) from fun dd hd=>by
  subst hd ho;cases aZ (aB p i) x.s with
  |none=>exact⟨rfl,fun t h=>mY⟩
  |some d=>exact⟨rfl,fun t h=>(by injection h with h;exact h.symm)⟩)
 unfold aB at Dv HO;generalize Bp:aZ (p.ns[i]?.getD default) x.s=od at *;generalize Eb:p.ns[i]?.getD default=nd at *;unfold bK at Dv;unfold aK aE at HF⊢;rw[hk]at HF⊢
 have HD:=Hd (show ∀ w1,Below w.heap.size w w1->w1.cell? ⟨nb,no+i*5,none⟩=some (.string nd.nm)/\w1.cell? ⟨nb,no+i*5+1,none⟩=some (.slice A1 nd.ins.length c1)/\w1.cell? ⟨nb,no+i*5+2,none⟩=some (.slice A2 nd.outs.length c2)/\w1.cell? ⟨nb,no+i*5+3,none⟩=some (.slice A3 nd.vars.length c3)/\w1.cell? ⟨nb,no+i*5+4,none⟩=some (.slice A4 nd.eqs.length c4) from
  fun w1 hb=>⟨(hb.cell (p:=⟨nb,no+i*5,none⟩) Aq).trans d0,(hb.cell (p:=⟨nb,no+i*5+1,none⟩) Aq).trans d1,(hb.cell (p:=⟨nb,no+i*5+2,none⟩) Aq).trans d2,(hb.cell (p:=⟨nb,no+i*5+3,none⟩) Aq).trans d3,(hb.cell (p:=⟨nb,no+i*5+4,none⟩) Aq).trans d4⟩)
 clear d0 d1 d2 d3 d4 Ap hk h;generalize Jx:od.getD default=dd at *;generalize Nt:od.isSome=ds at *;unfold aU at Dv;have Ee:=Hd (HO.o dd rfl);clear Bp Eb HO;generalize p.es.length=pe at *;generalize p.ns.length=pn at *;go_in
 go_upto_region 1 with(fail);generalize Ai:((w.alloc _).alloc _).alloc _=w0;obtain⟨Ae,Al,hp,hx,hR⟩:=HF.o w0 Ai;have Af:=Hd Ae;have HR:=Hd hR;have p0:=hp w0 (Yg _ _) 0;have p1:=hp w0 (Yg _ _) 1;obtain⟨q0,q1,q2,q3,q4,q5⟩:=Sx (hx w0 (Yg _ _));simp only[Ya,Yb,Yc]at p0 p1 q0 q1 q2 q3 q4 q5;clear Ai Al hp hx hR HF;obtain⟨d0,d1,d2,d3,d4⟩:=HD.o w0 Ae;go_upto_region 8 with(fail);refine kF (l:=[_,_,_,_,_,_,_,_,_,_,_,_,_,_]) 11 12 _ _ (d:=11) (tx:=47) (T:=43) (zc:=dcZ) aC rfl rfl aC rfl aG (fun a W=>by rfl) rfl aC ?_
 repeat
  first
  |refine kJ rfl ?_
  | (apply kI rfl rfl aG
     case h1=>
      intro wb hb;have Bn:=cU hb;have l0:=fun d os=>Zs ((Bn.cell (Yi _ _ p1)).trans p1) d os;have l1:=fun d os=>Zs ((Bn.cell (Yi _ _ q2)).trans q2) d os;have m0:=fun d os=>Zs ((Bn.cell (Yi _ _ d0)).trans d0) d os;have m1:=fun d os=>Zs ((Bn.cell (Yi _ _ d1)).trans d1) d os;have m2:=fun d os=>Zs ((Bn.cell (Yi _ _ d2)).trans d2) d os;have m3:=fun d os=>Zs ((Bn.cell (Yi _ _ d3)).trans d3) d os;have m4:=fun d os=>Zs ((Bn.cell (Yi _ _ d4)).trans d4) d os;have h3:=Af.o.tr Bn;have cA:=fun d os=>Zi (Dv.o (grow (redrawn wb d) os) (h3.trans ((Zt wb d os).mono h3.size)));exact tO
     simp only[Act.put,Yd,Ye,Yf])
 refine⟨aU dd,rfl,rfl,by simp[aU,Value.oneCell'],fun W g hW hg hz=>?_⟩;have Bt:=Hd (cU hW);have k1:=jT (d:=dd) hz 1;have k2:=jT (d:=dd) hz 2;have k3:=jT (d:=dd) hz 3;simp only[aU,List.getElem?_toArray,Yz,Zb]at k1 k2 k3;have Bm:=Hd (HR.o.below Bt.o);have Bo:=Hd (Af.o.tr Bt.o);have hn:g≠w.heap.size+1+1:=by have:=HR.o.lt;omega
 clear hW hg hz p0 p1 q0 q1 q2 q3 q4 q5 d0 d1 d2 d3 d4 Ae Dv HD;show Exit.then _ _ .normal _ W;simp only[Act.put,Yd,Ye,Yf];go_wp2_with (refine Zv rfl _ _ _ rfl (w.heap.size+1+1) _ rfl rfl _ _ Bm.o cW rfl aQ ?_);exact Zu (bA (p:=6) (u:=7) rfl _ _ (w.heap.size+1+1) dd.k dd.e dd.l rfl (Bm.o.set _ _ _)) rfl ⟨dd.k,dd.e,dd.l,by rw[<-Ee.o.1];rfl,Ee.o.2,Xc Bo.o aA _⟩
end
end Go.Proofs.YtkbpdoomhfkngaaGreat
