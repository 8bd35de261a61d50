/- A part of the proof. Conditions: each theorem's own. -/
import Derived.Test.YtkbpdoomhfkngaaGreatC16
import Derived.Test.YtkbpdoomhfkngaaGreatC32
namespace Go.Proofs.YtkbpdoomhfkngaaGreat
set_option linter.unusedVariables false
set_option linter.unusedSimpArgs false
set_option maxRecDepth 100000
set_option maxHeartbeats 40000000
section
open Go.RowKit Go.Sort Go.BigFrame
structure Km where
 E:Option Addr
 ec:Nat
 A1:Option Addr
 c1:Nat
 A2:Option Addr
 c2:Nat
 A3:Option Addr
 c3:Nat
 A4:Option Addr
 c4:Nat
def cG(es:List En)(x:Nd)(r:Km):Array Value:=#[.slice r.E es.length r.ec,.string x.nm,.slice r.A1 x.ins.length r.c1,.slice r.A2 x.outs.length r.c2,.slice r.A3 x.vars.length r.c3,.slice r.A4 x.eqs.length r.c4]
def oE(w:World)(es:List En)(x:Nd)(r:Km):Prop:=bU w r.E es.length es/\cF w x r.A1 r.A2 r.A3 r.A4
theorem oE.below{w w':World}{es:List En}{x:Nd}{r:Km}(h:oE w es x r)(hb:Below w.heap.size w w'):oE w' es x r:=⟨h.1.below hb,h.2.below hb⟩
def lB(w:World)(g:Nat)(d:Cd):Prop:=w.heap[g]?=some (Obj.cells (gD d) 45)
theorem aL6:(Tryz.prog.info? 45).map (·.size)=some 2:=aC
theorem bE2{fn:Func}{p u:Tmp}(h:fn.results=#[.cell p 45,.tmp u])(tmps:Array Value)(w:World)(g:Nat){d:Cd}
 (hp:tmps.getD p undef=.pointer (some ⟨g,0,none⟩))(hg:lB w g d):(results fn tmps).run Tryz.prog w=.ok (.tuple #[.agg (gD d),tmps.getD u undef]) w:=by
 rw[results_cell_tmp h,hp];have hl:=run_loadVar_row (P:=Tryz.prog) w g 45 45 _ _ _ hg Tryz.underlying45 rfl aL6;simp[asAddr,Result.andThen,hl]
theorem lB.below{w w':World}{g:Nat}{d:Cd}(h:lB w g d)(hb:Below w.heap.size w w'):lB w' g d:=(hb.block g (Yl.1 h).1).trans h
theorem lB.set{w:World}{g:Nat}{d:Cd}(h:lB w g d)(d':Cd):lB (w.setRow g (gD d')) g d':=Xd _ _ _ _ _ _ h
theorem lB.cells{w:World}{g:Nat}{d:Cd}(h:lB w g d)(j:Nat):w.cell? ⟨g,j,none⟩=(gD d)[j]?:=by
 exact aEf
def wD(es:List En)(s t:ByteArray):Value:=.tuple #[.agg (gD ⟨s,((bP es t).map (·.2.2)).getD 0⟩),.bool (bP es t).isSome]
theorem aD1(es:List En)(x:Nd)(r:Km)(s t:ByteArray)(w:World)(h:bU w r.E es.length es):
 Calls Tryz.prog 40 #[.agg (cG es x r),.string s,.string t] w fun e w'=>e=.returned (wD es s t)/\Below w.heap.size w w':=by
 have HF:=Hd fun w0 hw=>gH (w:=w) (w1:=w0) (cs:=cG es x r) (ds:=gD ⟨⟨#[]⟩,0⟩) (T:=57) (U:=45) hw;have HN:=Hd fun w0 (hw:(w.alloc (.cells (cG es x r) 57)).alloc (.cells (gD ⟨⟨#[]⟩,0⟩) 45)=w0)=>(show lB w0 (w.heap.size+1) ⟨⟨#[]⟩,0⟩ by
  subst hw
  have:=Zx (w.alloc (.cells (cG es x r) 57)) (.cells (gD ⟨⟨#[]⟩,0⟩) 45)
  unfold lB;rwa[World.size_alloc]at this)
 have Cq:=Hd fun w1 (hb:Below w.heap.size w w1)=>zZ r.E es.length r.ec es t w1 (h.below hb);clear h;unfold wD;unfold lG aF at Cq;generalize ((bP es t).map (·.1)).getD 0=oa at *;generalize ((bP es t).map (·.2.1)).getD 0=ob at *;generalize ((bP es t).map (·.2.2)).getD 0=ov at *;generalize (bP es t).isSome=os at *;unfold cG at *;unfold gD at HF HN⊢;generalize es.length=pe at *;go_in
 go_upto_region 1 with(fail);generalize Ai:(w.alloc _).alloc _=w0;obtain⟨Ae,Al,hp,-⟩:=HF.o w0 Ai;have Bp:=Hd (HN.o w0 Ai);have Af:=Hd Ae;have p0:=hp w0 (Yg _ _) 0;simp only[Ya,Yb,Yc]at p0;have Jx:=Hd (Cq.o w0 Ae);clear Ai Ae Al hp HF HN Cq;go_wp2_with fail;refine Jx.o.mono ?_;rintro e w1 ⟨rfl,Aa⟩;have Ac:=Hd (aV Af.o Aa);have Bx:=Hd (Bp.o.below Aa);clear Aa p0 Jx Bp;go_upto_region 2 with(fail);generalize Br:w1.alloc _=w2;obtain⟨Ad,hg2,Nu⟩:=iV Br;have Aj:=Hd (aV Ac.o Ad);have Dg:=Hd (Bx.o.below Ad);clear Br Ad hg2 Nu Bx;have Aq:=Hd (Dg.o.set ⟨s,ov⟩);have Nt:=Hd (Xc Aj.o (g:=w.heap.size+1) aA (gD ⟨s,ov⟩));unfold gD at Aq Nt;go_wp2_with (refine Zv rfl _ _ _ rfl (w.heap.size+1) _ rfl rfl _ _ Dg.o aL6 rfl aQ ?_);exact Zu (bE2 (d:=⟨s,ov⟩) (p:=6) (u:=7) rfl _ _ (w.heap.size+1) rfl Aq.o) rfl ⟨rfl,Nt.o⟩
def oN(w:World)(o:Option (List Cd))(e:Ending)(w':World):Prop:=
 Below w.heap.size w w'/\match o with
  |none=>e=.returned (.tuple #[.slice none 0 0,.bool false])
  |some l=>∃A c,e=.returned (.tuple #[.slice A l.length c,.bool true])/\bW w' A l.length l/\l.length<=c
theorem aAe(es:List En)(x:Nd)(r:Km)(s:ByteArray)(w:World)(h:oE w es x r):
 Calls Tryz.prog 24 #[.agg (cG es x r),.string s] w (oN w (cR es x s)):=by
 have HF:=Hd fun w0 hw=>iV (w:=w) (w1:=w0) (cs:=cG es x r) (T:=57) hw;have Bz:=Hd fun w1 (hb:Below w.heap.size w w1)=>bCy x r.A1 r.c1 r.A2 r.c2 r.A3 r.c3 r.A4 r.c4 s w1 (h.2.below hb);have Ob:=Hd fun a t w1 (hb:Below w.heap.size w w1)=>aD1 es x r a t w1 (h.1.below hb);have Gl:=Hd (show cR es x s=(jY x s).bind (gS es)from rfl);have Oo:=Hd (show ∀l,jY x s=some l->l.length<=1000 from fun l hl=>aB4 hl);obtain⟨i0,z0,Ov,Oy,Om,Cu,Ol⟩:=kG yI;clear h;unfold wD gD at Ob;unfold xP bK at Bz;generalize cR es x s=Au at *;generalize jY x s=oc at *;unfold cG at *;generalize es.length=pe at *;go_in
 go_upto_region 1 with(fail);generalize Ai:w.alloc _=w0;obtain⟨Ae,Al,hp⟩:=HF.o w0 Ai;have Af:=Hd Ae;have HP:=Hd hp;obtain⟨-,p1,p2,p3,p4,p5⟩:=Sx (hp w0 (Yg _ _));simp only[Ya,Yb,Yc]at p1 p2 p3 p4 p5;have Of:=Hd (Bz.o w0 Ae);clear Ai Ae Al hp HF Bz;go_wp2_with fail;refine Of.o.mono ?_;rintro e w1 ⟨Aa,Cn⟩;have Ac:=Hd (aV Af.o Aa);have Fp:=Hd fun W (b:Below w1.heap.size w1 W) j=>HP.o W (aV Aa b) j;clear Of p1 p2 p3 p4 p5 Aa HP;cases Dk:oc with
 |none=>
  exact aMp
 |some l=>
  rw[Dk]at Cn;obtain⟨L,lc,rfl,Nz⟩:=Cn;have On:=Hd Nz;have Ok:=Hd (show Au=gS es l by rw[Gl.o,Dk];rfl);have Fa:=Hd (Oo.o l Dk);have Oz:=aI.max Nz;clear Nz Dk;generalize hm:l.length=m at *;have Lu:=Hd hm;clear hm;have Fy:=Hd (show w1.ownsRow w1.heap.size 45 2 (.slice none 0 0) 0 (fA [])from World.ownsRow_nil _ _ _ _);go_wp2_with fail;go_loopw [8,24] (fun v i wr=>∃(k:Nat)(cs:List Cd),k<=m/\i=.int .i64 k/\gS es (l.take k)=some cs/\wr.ownsRow w1.heap.size 45 2 v k (fA cs)/\Below w1.heap.size w1 wr) (fun _ i _=>m-(intOf i).toNat)
  case atStart=>exact⟨0,[],Yq _,rfl,rfl,Fy.o,Yg _ _⟩
  case round=>
   obtain⟨k,cs,hk,rfl,Nt,Bq,Ay⟩:=hrel;have Oa:=Hd Nt;have Bx:=Hd Bq;have Cm:=Hd Ay;have Bo:=Hd (aV Ac.o Ay);clear Nt Bq Fy;by_cases Ah:k<m
   . obtain⟨b,off,rfl,hb,e0,e1,e2,e3,e4,e5⟩:=aL2 (On.o.below Ay) Ah;have Fi:=Hd fun hc=>aIg (es:=es) (l:=l) (k:=k) aAq hc;have Gn:=Hd fun c hc=>aGk (es:=es) (l:=l) (k:=k) (c:=c) aAq Oa.o hc;have Lp:=Hd (show nT es (l[k]?.getD default)=(bP es (l[k]?.getD default).ct).map fun r=>⟨(l[k]?.getD default).on,r.2.2⟩from rfl);generalize Ot:l[k]?.getD default=d at *;clear Ot;have Fr:=Hd fun w1 (hb:Below w.heap.size w w1)=>Ob.o d.on d.ct w1 hb;obtain⟨Ox,dk,de,dl,Ho,Nu⟩:=d;dsimp only at e0 e1 e2 e3 e4 e5;have Fr:=Hd fun w1 (hb:Below w.heap.size w w1)=>Ob.o Ho Nu w1 hb;have Lp:=Hd (show nT es ⟨Ox,dk,de,dl,Ho,Nu⟩=(bP es Nu).map fun r=>⟨Ho,r.2.2⟩from Lp.o);generalize ho:bP es Nu=o at *;generalize Og:(o.map (·.2.2)).getD 0=ov at *;generalize Oi:o.isSome=os at *;have Hw:=Hd (show o.map (fun r=>(⟨Ho,r.2.2⟩:Cd))=if os=true then some ⟨Ho,ov⟩else none by subst Oi Og;cases o<;>rfl);clear ho Og Oi;go_upto_region 8 with(fail);generalize Oe:wr.alloc _=w4;obtain⟨Bk,Ow,Nv⟩:=iV Oe;have Be:=Hd (aV Bo.o Bk);have Hi:=Hd (aV Cm.o Bk);have Gk:=Hd (qV Bx.o Bk);have e2:=Nv w4 (Yg _ _) 2;have f4:=Nv w4 (Yg _ _) 4;have f5:=Nv w4 (Yg _ _) 5;obtain⟨p0,p1,p2,p3,p4,p5⟩:=Sx (Fp.o w4 Hi.o);simp only[Ya,Yb,Yc]at f4 f5 p0 p1 p2 p3 p4 p5;have Jc:=Hd (Fr.o w4 Be.o);clear Oe Bk Ow Nv e0 e1 e2 e3 e4 e5 Ay;go_wp2_with fail;refine Jc.o.mono ?_;rintro e w5 ⟨rfl,Bv⟩;have Mw:=Hd (aV Hi.o Bv);have Nx:=Hd (qV Gk.o Bv);clear Bv Jc f4 f5 p0 p1 p2 p3 p4 p5;go_upto_region 9 with(fail);generalize Od:w5.alloc _=w6;obtain⟨Ci,Ou,Ny⟩:=iV Od;have Oh:=Hd (aV Mw.o Ci);have Nw:=Hd (qV Nx.o Ci);have g0:=Ny w6 (Yg _ _) 0;have g1:=Ny w6 (Yg _ _) 1;simp only[Ya,Yb,Yc]at g0 g1;clear Od Ci Ou Ny;cases os with
     |false=>
      have HO:=Hd (show Au=none by rw[Ok.o];exact Fi.o aAn);go_wp2_with fail;refine Zu (results_tmp2 rfl _ _ _) rfl ?_;rw[HO.o];exact⟨aV Ac.o Oh.o,rfl⟩
     |true=>
      have Mh:=Hd (Gn.o ⟨Ho,ov⟩ aAn);have Jx:=Hd (aDz w6 ⟨Ho,ov⟩);have Ch:=Hd ((Yg w6.heap.size w6).alloc (Yh _) (.cells (gD ⟨Ho,ov⟩) 45));have Bp:=Hd (qV Nw.o Ch.o);have Fg:=Hd (aV Oh.o Ch.o);unfold gD at Jx Ch Bp Fg;have Pa:k<=1000:=by have:=Fa.o;omega
      go_wp2_with (at_builtin;refine wZ rfl _ _ 37 rfl w1.heap.size 45 i0 z0 24 Tryz.underlying37 Ov Oy Om Cu Ol _ k cs rfl Bp.o _ 1 1 [⟨Ho,ov⟩] rfl Jx.o dP aA Fg.o.size ?_;intro v' w9 Bb Ar;have Is:=Hd Bb;have Fq:=Hd (Fg.o.grown Ar Fg.o.size (fun j hj=>(Bp.o.lt j hj).1));clear Bb Ar);exact aNn
   . obtain rfl:k=m:=by omega
     have HO:=Hd (show Au=some cs by rw[Ok.o,<-Oa.o,Yx aPz]);have Oc:=xK Oa.o;rw[List.length_take,Lu.o,Nat.min_self]at Oc;obtain⟨S,c,rfl,Cz,Oj⟩:=bW.of_ownC Bx.o aA;have Ew:=Hd Cz;have Oq:=Hd Oj;have Aq:=Hd Oc;clear Cz Oc Oj;go_wp2_with fail;refine Zu (results_tmp2 rfl _ _ _) rfl ?_;rw[HO.o];exact⟨Bo.o,S,c,by rw[Aq.o];rfl,by rw[Aq.o];exact Ew.o,by rw[Aq.o];exact Oq.o⟩
theorem aAf(es:List En)(x:Nd)(r:Km)(s:ByteArray)(On:Option Addr)(n oc:Nat)(on:List Cd)(w:World)(h:oE w es x r)(ho:bW w On n on):
 Calls Tryz.prog 32 #[.agg (cG es x r),.string s,.slice On n oc] w fun e w'=>e=.returned (.bool (dO es x s on))/\Below w.heap.size w w':=by
 have HF:=Hd fun w0 hw=>iV (w:=w) (w1:=w0) (cs:=cG es x r) (T:=57) hw;have Bm:=Hd fun w1 (hb:Below w.heap.size w w1)=>aAe es x r s w1 (h.below hb);have Cc:=Hd ho;have HC:=Hd (show dO es x s on=(match cR es x s with|none=>false|some r=>dD r on)from rfl);have Bp:=aI.max ho;clear h ho;unfold oN at Bm;generalize dO es x s on=Au at *;generalize cR es x s=Aq at *;unfold cG at *;generalize es.length=pe at *;go_in
 go_upto_region 1 with(fail);generalize Ai:w.alloc _=w0;obtain⟨Ae,Al,hp⟩:=HF.o w0 Ai;have Af:=Hd Ae;obtain⟨p0,p1,p2,p3,p4,p5⟩:=Sx (hp w0 (Yg _ _));simp only[Ya,Yb,Yc]at p0 p1 p2 p3 p4 p5;have Co:=Hd (Bm.o w0 Ae);clear Ai Ae Al hp HF Bm;go_wp2_with fail;refine Co.o.mono ?_;rintro e w1 ⟨Aa,Cn⟩;have Ac:=Hd (aV Af.o Aa);clear Co p0 p1 p2 p3 p4 p5 Aa;cases Jh:Aq with
 |none=>
  exact zO
 |some row=>
  rw[Jh]at Cn HC;obtain⟨R,rc,rfl,Ip,-⟩:=Cn;have Jm:=Hd (bBc R row.length rc row On n oc on w1 Ip (Cc.o.below Ac.o));exact aRj
theorem bB0{es:List En}{nd:Nd}{y:Ex}{fs:List Ft}{on:List Cd}{k:Nat}(hn:on.length=k+1)(ha:y.arms.length=1)(hs:y.subs.length=1):nU es nd y fs on=match bP es (y.arms[0]?.getD ByteArray.empty)with
 |none=>false
 |some r=>gB (on[k]?.getD default) ⟨y.s,r.2.2⟩ && (dO es nd y.s (on.take k) && cL fs 0 (on.take k)):=by
 have Aq:on=on.take k++[on[k]?.getD default]:=by
  have h1:=List.take_succ_eq_append_getElem (l:=on) (i:=k) aA;rw[Yx aA]at h1;rw[Yk aA];exact h1
 unfold nU;rw[Zy ha,Zy hs];generalize on.take k=ah at *;generalize on[k]?.getD default=l at *;subst Aq;cases hr:cR es nd y.s with
 |none=>
  have h0:dO es nd y.s ah=false:=by unfold dO;rw[hr]
  cases bP es (y.arms[0]?.getD ByteArray.empty)with
  |none=>rfl
  |some r=>simp only[h0,Bool.false_and,Bool.and_false]
 |some row=>
  cases bP es (y.arms[0]?.getD ByteArray.empty)with
  |none=>rfl
  |some r=>
   simp only[Bool.and_true,Bool.true_and];by_cases h1:ah=row
   . subst h1;have h0:dO es nd y.s ah=true:=aKn.2 hr;rw[h0,Bool.true_and];congr 1;by_cases h2:l=⟨y.s,r.2.2⟩;· rw[h2,aG8,aCw]
     . rw[aCl (show ¬(ah++[l]=ah++[(⟨y.s,r.2.2⟩:Cd)])from fun e=>h2 (by simpa using List.append_cancel_left e))];cases h3:gB l ⟨y.s,r.2.2⟩with
       |false=>rfl
       |true=>exact absurd (aDq.1 h3) h2
   . have h0:dO es nd y.s ah=false:=by
      cases h:dO es nd y.s ah with
      |false=>rfl
      |true=>
       rw[aKn,hr]at h;exact absurd (Option.some.inj h).symm h1
     rw[h0,Bool.false_and,Bool.and_false,aCl (show ¬(ah++[l]=row++[(⟨y.s,r.2.2⟩:Cd)])from fun e=>h1 (List.append_inj_left' e rfl)),Bool.false_and]
theorem bB1{es:List En}{nd:Nd}{y:Ex}{fs:List Ft}{on:List Cd}(h:on.length=0\/¬y.arms.length=1\/¬y.subs.length=1):nU es nd y fs on=false:=by
 unfold nU;cases cR es nd y.s with
 |none=>rfl
 |some row=>
  cases bP es (y.arms[0]?.getD ByteArray.empty)with
  |none=>rfl
  |some r=>
   simp only;rcases h with h|h|h
   . have:on=[]:=Zr h
     subst this;rw[aCl aG,Bool.false_and,Bool.and_false]
   . rw[Zz h,Bool.false_and,Bool.false_and]
   . rw[Zz h,Bool.and_false,Bool.false_and]
theorem aYj(es:List En)(x:Nd)(r:Km)(y:Ex)(A:Option Addr)(ca:Nat)(B:Option Addr)(cb:Nat)(On:Option Addr)(n oc:Nat)(on:List Cd)(w:World)(h:oE w es x r)(hx:aH w y A B)(ho:bW w On n on)(Dk:n<=oc)(fs:List Ft)
 (Jx:0<y.subs.length->∀ A' Of B' Nw w1,Below w.heap.size w w1->aH w1 (aM y 0) A' B' ->
  Calls Tryz.prog 31 #[.agg (cG es x r),.agg (aE (aM y 0) A' Of B' Nw),.slice On (n-1) (n-1)] w1 fun e w'=>e=.returned (.bool (cL fs 0 (on.take (n-1))))/\Below w1.heap.size w1 w'):
 Calls Tryz.prog 50 #[.agg (cG es x r),.agg (aE y A ca B cb),.slice On n oc] w fun e w'=>e=.returned (.bool (nU es x y fs on))/\Below w.heap.size w w':=by
 have HF:=Hd fun w0 hw=>gH (w:=w) (w1:=w0) (cs:=cG es x r) (ds:=aE y A ca B cb) (T:=57) (U:=52) hw;have Ot:=Hd fun a t w1 (hb:Below w.heap.size w w1)=>aD1 es x r a t w1 (h.1.below hb);have Ov:=Hd fun w1 (hb:Below w.heap.size w w1)(hn:0<n)=>aAf es x r y.s On (n-1) (n-1) (on.take (n-1)) w1 (h.below hb) ((ho.below hb).take aA);have Cc:=Hd ho;have Og:=Hd (aI.len ho);have Pa:=Hd fun k (Ox:k<y.subs.length)=>hx.sub Ox;have Nt:=Hd Jx;have Ch:=Hd fun(h:y.arms.length=1)=>aP.cellC (k:=0) hx.arms aA;have Kt:=Hd fun k hn ha hs=>bB0 (es:=es) (nd:=x) (y:=y) (fs:=fs) (on:=on) (k:=k) hn ha hs;have Nu:=Hd fun h=>bB1 (es:=es) (nd:=x) (y:=y) (fs:=fs) (on:=on) h;have Ph:=aI.max ho;clear h hx ho Jx;unfold wD gD at Ot;generalize nU es x y fs on=Au at *;unfold cG aE at *;generalize es.length=pe at *;generalize Pe:y.subs.length=sl at *;generalize Pc:y.arms.length=al at *;generalize y.s=ys at *;go_in
 go_upto_region 1 with(fail);generalize Ai:(w.alloc _).alloc _=w0;obtain⟨Ae,Al,hp,hq⟩:=HF.o w0 Ai;have Af:=Hd Ae;have HP:=Hd hp;have HX:=Hd hq;have q4:=hq w0 (Yg _ _) 4;have q5:=hq w0 (Yg _ _) 5;simp only[Ya,Yb,Yc]at q4 q5;clear Ai Ae Al hp hq HF;by_cases Ga:n=0
 . have na:((n:Int)==0)=true:=by rw[Ga];rfl
   have HO:=Hd (show Au=false from Nu.o (.inl (by rw[Og.o];exact Ga)));clear Ga;exact zT
 have na:((n:Int)==0)=false:=mV;by_cases Aq:al=1
 . by_cases Oc:sl=1
   . have nb:((al:Int) !=1)=false:=by rw[Aq];rfl
     have ns:((sl:Int) !=1)=false:=by rw[Oc];rfl
     obtain⟨k,rfl⟩:∃k,n=k+1:=⟨n-1,by omega⟩;obtain⟨tb,Oz,rfl,Oy,t0⟩:=Ch.o Aq;have t0:=(Af.o.cell (p:=⟨tb,Oz,none⟩) Oy).trans (by simpa using t0);have Ol:=Hd (Kt.o k Og.o Aq Oc);simp only[Nat.add_sub_cancel]at Ov Nt;have Fr:=Hd fun w1 (hb:Below w.heap.size w w1)=>Ot.o ys (y.arms[0]?.getD ByteArray.empty) w1 hb;generalize y.arms[0]?.getD ByteArray.empty=Pb at *;generalize ho:bP es Pb=o at *;generalize Oi:(o.map (·.2.2)).getD 0=ov at *;generalize Ok:o.isSome=os at *;have Hw:=Hd (show Au=(os && (gB (on[k]?.getD default) ⟨ys,ov⟩ && (dO es x ys (on.take k) && cL fs 0 (on.take k))))by rw[Ol.o];subst Ok Oi;cases o<;>rfl);clear ho Oi Ok Ol Kt Nu;have Pd:(0:Int)<(al:Int):=aA;have k1:((k:Int)+1-1)=(k:Int):=aA;obtain⟨ob,oo,rfl,Oj,Oo⟩:=aI.at_ Cc.o aA;obtain⟨o0,o1⟩:=(Oo k aA).two;have o0:=(Af.o.cell (p:=⟨ob,oo+k*2,none⟩) Oj).trans o0;have o1:=(Af.o.cell (p:=⟨ob,oo+k*2+1,none⟩) Oj).trans o1;clear Oo;generalize on[k]?.getD default=l at *;obtain⟨l0,l1⟩:=l;dsimp only at o0 o1;obtain⟨r0,r1,r2,r3,r4,r5⟩:=Sx (HP.o w0 (Yg _ _));have q2:=HX.o w0 (Yg _ _) 2;simp only[Ya,Yb,Yc]at r0 r1 r2 r3 r4 r5 q2;go_upto_region 5 with(fail);refine kF (l:=[_,_,_,_,_,_,_,_,_,_,_,_,_,_]) 11 12 _ _ (d:=9) (tx:=42) (T:=45) (zc:=#[.string ⟨#[]⟩,.int .i64 0]) aC rfl rfl aC rfl aG (fun a W=>by rfl) rfl aC ?_
     repeat
      first
      |refine kJ rfl ?_
      | (apply kI rfl rfl aG
         case h1=>
          intro wb hb;have Bn:=cU hb;have m0:=fun d os=>Zs ((Bn.cell (Yi _ _ r0)).trans r0) d os;have m1:=fun d os=>Zs ((Bn.cell (Yi _ _ r1)).trans r1) d os;have m2:=fun d os=>Zs ((Bn.cell (Yi _ _ r2)).trans r2) d os;have m3:=fun d os=>Zs ((Bn.cell (Yi _ _ r3)).trans r3) d os;have m4:=fun d os=>Zs ((Bn.cell (Yi _ _ r4)).trans r4) d os;have m5:=fun d os=>Zs ((Bn.cell (Yi _ _ r5)).trans r5) d os;have m6:=fun d os=>Zs ((Bn.cell (Yi _ _ q2)).trans q2) d os;have m7:=fun d os=>Zs ((Bn.cell (Yi _ _ q4)).trans q4) d os;have m8:=fun d os=>Zs ((Bn.cell (Yi _ _ t0)).trans t0) d os;have h3:=aV Af.o Bn;exact aRm
         simp only[Act.put,Yd,Ye,Yf])
     refine⟨#[.string ys,.int .i64 ov],rfl,rfl,by simp[Value.oneCell'],fun W g hW hg hz=>?_⟩;have Ob:=cU hW;have Bt:=Hd (aV Af.o Ob);have Jp:=Hd Ob;have HZ:=Hd (show lB W g ⟨ys,ov⟩from hz);clear hW hg hz r0 r1 r2 r3 r4 r5 q2 q4 q5 t0 Ob;show Exit.then _ _ .normal _ W;simp only[Act.put,Yd,Ye,Yf];have o0:=(Jp.o.cell (Yi _ _ o0)).trans o0;have o1:=(Jp.o.cell (Yi _ _ o1)).trans o1;have z0:=HZ.o.cells 0;have z1:=HZ.o.cells 1;simp only[gD,List.getElem?_toArray,Yz,Zb]at z0 z1;have Pf:(k:Int)<(k:Int)+1:=aA;cases os with
     |false=>
      have HO:=Hd (show Au=false from Hw.o);exact aD8
     |true=>
      by_cases e0:l0=ys
      . by_cases e1:l1=ov
        . have Bx:=Hd (show Au=(dO es x ys (on.take k) && cL fs 0 (on.take k))by rw[Hw.o,e0,e1,aCw];rfl);subst e0 e1;clear Hw;obtain⟨sb,so,rfl,Az,Oh⟩:=Pa.o 0 aA;obtain⟨A',Of,B',Nw,Ou,Ap⟩:=Oh 0 aA;obtain⟨s0,s1,s2,s3,s4,s5⟩:=dT (fT Ou Az fun p hp=>Bt.o.cell hp);simp only[Nat.zero_mul,Nat.add_zero]at s0 s1 s2 s3 s4 s5;have Oq:=Hd fun W' (hb:Below W.heap.size W W')=>Ov.o W' (aV Bt.o hb) aA;have Ow:=Hd fun W' (hb:Below W.heap.size W W')=>Nt.o aA A' Of B' Nw W' (aV Bt.o hb) (Ap.below (aV Bt.o hb));have Pi:(0:Int)<(sl:Int):=aA;obtain⟨r0,r1,r2,r3,r4,r5⟩:=Sx (HP.o W Jp.o);have q2:=HX.o W Jp.o 2;have q5:=HX.o W Jp.o 5;simp only[Ya,Yb,Yc]at r0 r1 r2 r3 r4 r5 q2 q5;clear Oh Ou Ap;generalize dO es x l0 (on.take k)=hb at *;generalize cL fs 0 (on.take k)=ft at *;generalize aM y 0=yy at *;cases hb with
          |false=>
           have HO:=Hd (show Au=false from Bx.o);go_upto_region 6 with(fail);have l0:=fun d os=>Zs o0 d os;have l1:=fun d os=>Zs o1 d os;have l2:=fun d os=>Zs z0 d os;have l3:=fun d os=>Zs z1 d os;have l4:=fun d os=>Zs r0 d os;have l5:=fun d os=>Zs r1 d os;have l6:=fun d os=>Zs r2 d os;have l7:=fun d os=>Zs r3 d os;have l8:=fun d os=>Zs r4 d os;have l9:=fun d os=>Zs r5 d os;have Kx:=fun d os=>Zs q2 d os;have La:=fun d os=>Zs q5 d os;have Oe:=fun d os=>Zs s0 d os;have Nx:=fun d os=>Zs s1 d os;have Nv:=fun d os=>Zs s2 d os;have Oa:=fun d os=>Zs s3 d os;have Ny:=fun d os=>Zs s4 d os;have Od:=fun d os=>Zs s5 d os;have Nz:=Hd fun d os=>Zt W d os;have Bp:=fun d os=>Zi (Oq.o (grow (redrawn W d) os) (Zt W d os));refine Xa aC aC ?_;repeat (go_big_quiet_step (first|with_reducible exact Bp _ _))
           refine Xg ?_;intro _ Cy;obtain⟨⟨dq,Bj⟩,Bl⟩:=Cy;subst Bl;have Ac:=Hd (Nz.o dq Bj);clear l0 l1 l2 l3 l4 l5 l6 l7 l8 l9 Kx La Oe Nx Nv Oa Ny Od Bp o0 o1 z0 z1 r0 r1 r2 r3 r4 r5 q2 q5 s0 s1 s2 s3 s4 s5;exact aOe
          |true=>
           have HO:=Hd (show Au=ft from Bx.o);go_upto_region 6 with(fail);have l0:=fun d os=>Zs o0 d os;have l1:=fun d os=>Zs o1 d os;have l2:=fun d os=>Zs z0 d os;have l3:=fun d os=>Zs z1 d os;have l4:=fun d os=>Zs r0 d os;have l5:=fun d os=>Zs r1 d os;have l6:=fun d os=>Zs r2 d os;have l7:=fun d os=>Zs r3 d os;have l8:=fun d os=>Zs r4 d os;have l9:=fun d os=>Zs r5 d os;have Kx:=fun d os=>Zs q2 d os;have La:=fun d os=>Zs q5 d os;have Oe:=fun d os=>Zs s0 d os;have Nx:=fun d os=>Zs s1 d os;have Nv:=fun d os=>Zs s2 d os;have Oa:=fun d os=>Zs s3 d os;have Ny:=fun d os=>Zs s4 d os;have Od:=fun d os=>Zs s5 d os;have Nz:=Hd fun d os=>Zt W d os;have Bp:=fun d os=>Zi (Oq.o (grow (redrawn W d) os) (Zt W d os));have Om:=fun d os=>Zi (Ow.o (grow (redrawn W d) os) (Zt W d os));refine Xa aC aC ?_;repeat (go_big_quiet_step (first|with_reducible exact Bp _ _|with_reducible exact Om _ _))
           refine Xg ?_;intro _ Cy;obtain⟨⟨dq,Bj⟩,Bl⟩:=Cy;subst Bl;have Ac:=Hd (Nz.o dq Bj);clear l0 l1 l2 l3 l4 l5 l6 l7 l8 l9 Kx La Oe Nx Nv Oa Ny Od Bp Om o0 o1 z0 z1 r0 r1 r2 r3 r4 r5 q2 q5 s0 s1 s2 s3 s4 s5;exact aOe
        . have f1:(l1==ov)=false:=by rw[Xb];exact e1
          have HO:=Hd (show Au=false by rw[Hw.o];simp[gB,f1]);subst e0;exact aD8
      . have f0:(l0.toList==ys.toList)=false:=by
         cases h:(l0.toList==ys.toList)with
         |false=>rfl
         |true=>exact absurd (yA h) e0
        have HO:=Hd (show Au=false by rw[Hw.o];simp[gB,f0]);exact aD8
   . have nb:((al:Int) !=1)=false:=by rw[Aq];rfl
     have ns:((sl:Int) !=1)=true:=wI;have HO:=Hd (show Au=false from Nu.o (.inr (.inr Oc)));exact zT
 . have nb:((al:Int) !=1)=true:=by rw[bne_iff_ne];omega
   have HO:=Hd (show Au=false from Nu.o (.inr (.inl Aq)));exact zT
theorem aSm{P:Program}{ops:Array Oper}{o:Oper}{a:Act}{w:World}{K:Act->World->Prop}{Q:Exit->Act->World->Prop}{E:Prop}
 (hw:Region.wanted o (yielded ops a.tmps)=true)(s x:Operand)(t:TypeId)(Ei:o.op=Op.call { callee:=Callee.builtin Builtin.append,args:=#[s,x],argTypes:=#[t,t] })
 (e:TypeId)(i:TypeInfo)(z:Value)(size Aq:Nat)(h1:P.underlying t=some (.slice e))(h2:P.info? e=some i)(h3:i.zero=some z)(h4:i.size=size)(h5:i.bytes=Aq)(h6:z.cells.size=size)(h7:0<size)
 (ao:Option Addr)(n cap:Nat)(Bx:List Value)(hs:a.eval s=.slice ao n cap)(Jx:ao=none->n=0/\cap=0)(Eh:Bx.length=n*size)(Nt:∀b,ao=some b->∀j u,Bx[j]?=some u->w.cell? (b.add j)=some u)
 (ad:Addr)(m c:Nat)(Bp:List Value)(hx:a.eval x=.slice (some ad) m c)(hn:Bp.length=m*size)(hc:∀j u,Bp[j]?=some u->w.cell? (ad.add j)=some u)(Nv:∀u∈Bp,u.oneCell'=true)
 (Nu:cap<n+m)(b1:n+m<=maxLen)(b2:(n+m)*Aq<=140737488355328)
 (hK:∀v' w',w'.ownsRow w.heap.size e size v' (n+m) (Bx++Bp)->w.grownBy w' none->K (a.put o.dst v') w'):
 if Region.wanted o (yielded ops a.tmps)=true then Oper.wp P o a w K Q else E:=by
 rw[if_pos hw];cases ao with
 |some b=>
  obtain⟨v',w',Jg,r1,r2⟩:=run_append_arg_grows (P:=P) w t o.type e i z size Aq h1 h2 h3 h4 h5 h6 h7 b n cap Bx Eh (Nt b rfl) ad m c Bp hn hc Nu b1 b2;exact aNy
 |none=>
  obtain⟨rfl,rfl⟩:=Jx rfl;obtain rfl:Bx=[]:=Zr (by simpa using Eh);obtain⟨v',w',Jg,r1,r2,_⟩:=run_append_own (P:=P) w w.heap.size t o.type e i z size Aq h1 h2 h3 h4 h5 h6 h7 (.slice none 0 0) 0 [] (World.ownsRow_nil w _ e size) ad m c Bp hn hc Nv b1 b2 (Yh _);exact aNy
theorem bB2(es:List En)(x:Nd)(r:Km)(y:Ex)(A:Option Addr)(ca:Nat)(B:Option Addr)(cb:Nat)(On:Option Addr)(n oc:Nat)(on:List Cd)(w:World)(h:oE w es x r)(hx:aH w y A B)(ho:bW w On n on)(Dk:n<=oc)(Pi:n<=3000000)(fs:List Ft)
 (Bx:∀ k,k<y.subs.length->∀ A' Ny B' Nu R cr row w1,Below w.heap.size w w1->aH w1 (aM y k) A' B'->bW w1 R (n+1) row->n+1<=cr ->
  Calls Tryz.prog 31 #[.agg (cG es x r),.agg (aE (aM y k) A' Ny B' Nu),.slice R (n+1) cr] w1 fun e w'=>e=.returned (.bool (cL fs k row))/\Below w1.heap.size w1 w'):
 Calls Tryz.prog 51 #[.agg (cG es x r),.agg (aE y A ca B cb),.slice On n oc] w fun e w'=>e=.returned (.bool (oW es x y fs on))/\Below w.heap.size w w':=by
 have HF:=Hd fun w0 hw=>gH (w:=w) (w1:=w0) (cs:=cG es x r) (ds:=aE y A ca B cb) (T:=57) (U:=52) hw;have Og:=Hd fun a t w1 (hb:Below w.heap.size w w1)=>aD1 es x r a t w1 (h.1.below hb);have Oi:=Hd fun w1 (hb:Below w.heap.size w w1)=>aAf es x r y.s On n oc on w1 (h.below hb) (ho.below hb);have Cc:=Hd ho;have Ol:=Hd (aI.len ho);have Oy:=Hd fun k (Om:k<y.subs.length)=>hx.sub Om;have Nw:=Hd Bx;have Ch:=Hd fun k (h:k<y.arms.length)=>aP.cellC (k:=k) hx.arms h;have HC:=Hd (show oW es x y fs on=(dO es x y.s on && decide (y.arms.length=y.subs.length) && (List.range y.subs.length).all (iC es y fs on))from rfl);have Cj:=Hd fun k (hk:k<y.subs.length) h=>aI0 (es:=es) (n:=x) (x:=y) (fs:=fs) (on:=on) hk h;have Dl:=Hd fun h=>(uN (n:=y.subs.length) (f:=iC es y fs on)).2 h;have Jt:=Hd (aLb es y fs on);obtain⟨i0,z0,Pa,Ph,Ou,Cu,Oq⟩:=kG yI;have Pn:=aI.max ho;have Po:=hx.subs.2.1;have Pm:=hx.arms.2.1;clear h hx ho Bx;unfold wD gD at Og;generalize oW es x y fs on=Au at *;generalize dO es x y.s on=hv at *;unfold cG aE at *;generalize es.length=pe at *;generalize Pk:y.subs.length=sl at *;generalize Pj:y.arms.length=al at *;generalize y.s=ys at *;go_in
 go_upto_region 1 with(fail);generalize Ai:(w.alloc _).alloc _=w0;obtain⟨Ae,Al,hp,hq⟩:=HF.o w0 Ai;have Af:=Hd Ae;have HP:=Hd hp;have HX:=Hd hq;obtain⟨r0,r1,r2,r3,r4,r5⟩:=Sx (hp w0 (Yg _ _));obtain⟨-,-,q2,-,q4,q5⟩:=Sx (hq w0 (Yg _ _));simp only[Ya,Yb,Yc]at r0 r1 r2 r3 r4 r5 q2 q4 q5;have Od:=Hd (Oi.o w0 Ae);clear Ai Ae Al hp hq HF Oi;by_cases Bp:al=sl
 . subst Bp;have Ow:((al:Int) !=(al:Int))=false:=aG;go_wp2_with fail;refine Od.o.mono ?_;rintro e w2 ⟨rfl,Ad⟩;have Aj:=Hd (aV Af.o Ad);have Il:=Hd fun W (b:Below w2.heap.size w2 W) j=>HP.o W (aV Ad b) j;have Nx:=Hd fun W (b:Below w2.heap.size w2 W) j=>HX.o W (aV Ad b) j;clear r0 r1 r2 r3 r4 r5 q2 q4 q5 Ad HP HX Od;cases hv with
   |false=>
    have HO:=Hd (show Au=false from HC.o);exact vR
   |true=>
    have Gj:=Hd (show Au=(List.range al).all (iC es y fs on)by rw[HC.o];simp only[eq_self,decide_true,Bool.true_and]);have q5:=Nx.o w2 (Yg _ _) 5;simp only[Ya,Yb,Yc]at q5;go_wp2_with fail;clear q5 HC;go_loopw [35] (fun c wr=>∃k:Nat,k<=al/\c=.int .i64 k/\(∀j,j<k->iC es y fs on j=true)/\Below w2.heap.size w2 wr) (fun c _=>al-(intOf c).toNat)
    case atStart=>exact⟨0,Yq _,rfl,fun j hj=>absurd hj aA,Yg _ _⟩
    case round=>
     obtain⟨k,hk,rfl,Bc,Ay⟩:=hrel;have Cg:=Hd Bc;have Cm:=Hd Ay;have Bo:=Hd (aV Aj.o Ay);clear Bc Ay;by_cases Ah:k<al
     . obtain⟨tb,Ov,rfl,Ot,t0⟩:=Ch.o k Ah;obtain⟨sb,so,rfl,Az,Oa⟩:=Oy.o k Ah;obtain⟨A',Ny,B',Nu,Oh,Ap⟩:=Oa k Ah;obtain⟨s0,s1,s2,s3,s4,s5⟩:=dT (fT Oh Az fun p hp=>Bo.o.cell hp);have Fi:=Hd (Cj.o k Ah);have Cf:=Hd fun(h:iC es y fs on k=true)=>dC (P:=fun j=>iC es y fs on j=true) Cg.o h;have Of:=Hd (Jt.o k);have Gn:=Hd fun R cr row w1 (hb:Below w.heap.size w w1)(hr:bW w1 R (n+1) row)(hc:n+1<=cr)=>Nw.o k Ah A' Ny B' Nu R cr row w1 hb (Ap.below hb) hr hc;have Fr:=Hd fun w1 (hb:Below w.heap.size w w1)=>Og.o ys (y.arms[k]?.getD ByteArray.empty) w1 hb;clear Oa Oh Ap;generalize y.arms[k]?.getD ByteArray.empty=Pb at *;generalize ho:bP es Pb=o at *;generalize Ob:(o.map (·.2.2)).getD 0=ov at *;generalize Oe:o.isSome=os at *;have Hw:=Hd (show iC es y fs on k=(os && cL fs k (on++[⟨ys,ov⟩]))by rw[Of.o];subst Oe Ob;cases o<;>rfl);clear ho Ob Oe Of;generalize Pc:iC es y fs on k=ak at *;clear Pc;generalize aM y k=z at *;go_upto_region 7 with(fail);generalize Nz:wr.alloc _=w4;obtain⟨Bk,Pe,Oj⟩:=iV Nz;have Be:=Hd (aV Bo.o Bk);have Hi:=Hd (aV Cm.o Bk);have Pf:=Hd Oj;have t0:=(Be.o.cell (p:=⟨tb,Ov+k,none⟩) Ot).trans t0;obtain⟨r0,r1,r2,r3,r4,r5⟩:=Sx (Il.o w4 Hi.o);have q2:=Nx.o w4 Hi.o 2;have q4:=Nx.o w4 Hi.o 4;simp only[Ya,Yb,Yc]at r0 r1 r2 r3 r4 r5 q2 q4;clear Nz Bk Pe Oj s0 s1 s2 s3 s4 s5;refine kF (l:=[_,_,_,_,_,_,_,_,_,_,_,_,_,_,_]) 12 13 _ _ (d:=9) (tx:=50) (T:=45) (zc:=#[.string ⟨#[]⟩,.int .i64 0]) aC rfl rfl aC rfl aG (fun a W=>by rfl) rfl aC ?_
       repeat
        first
        |refine kJ rfl ?_
        | (apply kI rfl rfl aG
           case h1=>
            intro wb hb;have Bn:=cU hb;have m0:=fun d os=>Zs ((Bn.cell (Yi _ _ r0)).trans r0) d os;have m1:=fun d os=>Zs ((Bn.cell (Yi _ _ r1)).trans r1) d os;have m2:=fun d os=>Zs ((Bn.cell (Yi _ _ r2)).trans r2) d os;have m3:=fun d os=>Zs ((Bn.cell (Yi _ _ r3)).trans r3) d os;have m4:=fun d os=>Zs ((Bn.cell (Yi _ _ r4)).trans r4) d os;have m5:=fun d os=>Zs ((Bn.cell (Yi _ _ r5)).trans r5) d os;have m6:=fun d os=>Zs ((Bn.cell (Yi _ _ q2)).trans q2) d os;have m7:=fun d os=>Zs ((Bn.cell (Yi _ _ q4)).trans q4) d os;have m8:=fun d os=>Zs ((Bn.cell (Yi _ _ t0)).trans t0) d os;have h3:=aV Be.o Bn;exact aRm
           simp only[Act.put,Yd,Ye,Yf])
       refine⟨#[.string ys,.int .i64 ov],rfl,rfl,by simp[Value.oneCell'],fun W g hW hg hz=>?_⟩;have Nt:=cU hW;have Bt:=Hd (aV Be.o Nt);have Ji:=Hd (aV Hi.o Nt);have Jp:=Hd Nt;have HZ:=Hd (show lB W g ⟨ys,ov⟩from hz);clear hW hg hz r0 r1 r2 r3 r4 r5 q2 q4 t0 Nt;show Exit.then _ _ .normal _ W;simp only[Act.put,Yd,Ye,Yf];cases os with
       |false=>
        exact aMu
       |true=>
        have v0:=HZ.o.cells 0;have v1:=HZ.o.cells 1;obtain⟨s0,s1,s2,s3,s4,s5⟩:=Sx (Pf.o W Jp.o);obtain⟨r0,r1,r2,r3,r4,r5⟩:=Sx (Il.o W Ji.o);simp only[gD,List.getElem?_toArray,Yz,Zb]at v0 v1 s0 s1 s2 s3 s4 s5 r0 r1 r2 r3 r4 r5;have Eg:=Hd fun W' (hb:Below W.heap.size W W')=>(Cc.o.below (aV Bt.o hb)).news;have Ox:=Hd (show(fA on).length=n*2 by rw[zC,Ol.o]);have Pd:=Hd (show fA on++jC ⟨ys,ov⟩=fA (on++[⟨ys,ov⟩])by rw[aK9,bEl]);have Hc:=Hd fun R cr W' (hr:bW W' R (n+1) (on++[⟨ys,ov⟩]))(hc:n+1<=cr)(hb:Below W.heap.size W W')=>Gn.o R cr (on++[⟨ys,ov⟩]) W' (aV Bt.o hb) hr hc;go_upto_region 8 with(fail);have HK:=Hd fun Wz (Mi:Below W.heap.size W Wz)=>And.intro True.intro (And.intro ((Mi.cell (Yi _ _ v0)).trans v0) (And.intro ((Mi.cell (Yi _ _ v1)).trans v1) (And.intro ((Mi.cell (Yi _ _ r0)).trans r0) (And.intro ((Mi.cell (Yi _ _ r1)).trans r1) (And.intro ((Mi.cell (Yi _ _ r2)).trans r2) (And.intro ((Mi.cell (Yi _ _ r3)).trans r3) (And.intro ((Mi.cell (Yi _ _ r4)).trans r4) (And.intro ((Mi.cell (Yi _ _ r5)).trans r5) (And.intro ((Mi.cell (Yi _ _ s0)).trans s0) (And.intro ((Mi.cell (Yi _ _ s1)).trans s1) (And.intro ((Mi.cell (Yi _ _ s2)).trans s2) (And.intro ((Mi.cell (Yi _ _ s3)).trans s3) (And.intro ((Mi.cell (Yi _ _ s4)).trans s4) (And.intro ((Mi.cell (Yi _ _ s5)).trans s5) (True.intro)))))))))))))));refine wp_region_held_drew (S:=fun Wz=>Below W.heap.size W Wz) aC ?_ (fun hHeld=>?_);· exact zX
        refine aN (i:=0) hHeld ?_
        (try simp only[Act.put,Yd,Ye,Yf])
        refine aN (i:=1) hHeld ?_
        (try simp only[Act.put,Yd,Ye,Yf])
        refine aN (i:=2) hHeld ?_
        (try simp only[Act.put,Yd,Ye,Yf])
        refine aN (i:=3) hHeld ?_
        (try simp only[Act.put,Yd,Ye,Yf])
        refine aN (i:=4) hHeld ?_
        (try simp only[Act.put,Yd,Ye,Yf])
        refine aN (i:=5) hHeld ?_
        (try simp only[Act.put,Yd,Ye,Yf])
        refine aN (i:=6) hHeld ?_
        (try simp only[Act.put,Yd,Ye,Yf])
        refine Xf (rs:=[7]) aC aG ?_;refine Zk aX (fun K hK=>?_) Zl;go_simp;refine hK.out _ _ ?_ (fun hHeld=>?_);· exact hHeld.alloc hHeld.size _
        clear hK K
        (try simp only[Act.put,Yd,Ye,Yf])
        generalize Gt:World.alloc _ _=Wq at *;have Nv:=Hd (show ∀j u,(jC ⟨ys,ov⟩)[j]?=some u->Wq.cell? ((⟨W.heap.size,0,none⟩:Addr).add j)=some u by subst Gt;exact fun j u hu=>World.news_of_block (Zx _ _) j u hu);clear Gt;refine Xf (rs:=[8]) aC aG ?_;refine Zk aX (fun K hK=>?_) Zl;refine aSm aX _ _ 37 aX 45 i0 z0 2 24 Tryz.underlying37 Pa Ph Ou Cu Oq bS On n n (fA on) aX (fun e=>⟨(Eg.o _ hHeld).1 e,(Eg.o _ hHeld).1 e⟩) Ox.o (fun ad e j u hu=>(Eg.o _ hHeld).2 ad e j u hu) ⟨W.heap.size,0,none⟩ 1 1 (jC ⟨ys,ov⟩) aX rfl (fun j u hu=>Nv.o j u hu) (by simp[jC,Value.oneCell']) aA dP aA ?_;intro v9 W9 Aq Jx;rw[Pd.o]at Aq;have Dd:=Hd (show Below W.heap.size W W9 from hHeld.grown Jx hHeld.size (fun j hj=>by cases hj));obtain⟨S9,c9,rfl,Ok,Oc⟩:=bW.of_ownC Aq aA;have Oo:=Hd Ok;have Oz:=Hd Oc;clear Aq Jx Ok Oc;refine hK.out _ _ ?_ (fun hHeld=>?_);· exact Dd.o
        clear hK K
        (try simp only[Act.put,Yd,Ye,Yf])
        refine Xf (rs:=[9]) aC aG ?_;refine Zk aX (fun K hK=>?_) Zl;go_simp
        (go_at_call 31;(with_reducible refine(Hc.o S9 c9 _ Oo.o Oz.o ?hx).mono ?_);(case hx=>exact hHeld);rintro e Wn ⟨rfl,hq⟩;have Aw:=Hd (hHeld.tr hq);clear hq)
        go_wp2_with fail;refine hK.out _ _ ?_ (fun hHeld=>?_);· exact Aw.o
        clear hK K
        (try simp only[Act.put,Yd,Ye,Yf])
        refine aN (i:=10) hHeld ?_
        (try simp only[Act.put,Yd,Ye,Yf])
        refine aN (i:=11) hHeld ?_
        (try simp only[Act.put,Yd,Ye,Yf])
        refine wpAnyH_done aC ?_ _;generalize cL fs k (on++[⟨ys,ov⟩])=ft at *;exact aRa
     . obtain rfl:k=al:=by omega
       have HO:=Hd (show Au=true by rw[Gj.o];exact Dl.o fun j hj=>Cg.o j hj);go_wp2_with fail;go_ret;exact⟨gF HO.o.symm,Bo.o⟩
 . have Ow:((al:Int) !=(sl:Int))=true:=by rw[bne_iff_ne];omega
   have HO:=Hd (show Au=false by rw[HC.o,Zz Bp,Bool.and_false,Bool.false_and]);exact zT
theorem bE3(es:List En)(nd:Nd)(r:Km)(x:Ex)(A:Option Addr)(ca:Nat)(B:Option Addr)(cb:Nat)(On:Option Addr)(n oc:Nat)(on:List Cd)(w:World)(hk:x.k=1\/x.k=2\/x.k=4):
 Calls Tryz.prog 31 #[.agg (cG es nd r),.agg (aE x A ca B cb),.slice On n oc] w fun e w'=>e=.returned (.bool (true))/\Below w.heap.size w w':=by
 have HF:=Hd fun w0 hw=>gH (w:=w) (w1:=w0) (cs:=cG es nd r) (ds:=aE x A ca B cb) (T:=57) (U:=52) hw;unfold cG aE at *;generalize es.length=pe at *;generalize x.arms.length=al at *;generalize Aq:x.subs.length=sl at *;go_in
 go_upto_region 1 with(fail);generalize Ai:(w.alloc _).alloc _=w0;obtain⟨Ae,Al,hp,hq⟩:=HF.o w0 Ai;have Af:=Hd Ae;obtain⟨r0,r1,r2,r3,r4,r5⟩:=Sx (hp w0 (Yg _ _));obtain⟨q0,q1,q2,q3,q4,q5⟩:=Sx (hq w0 (Yg _ _));simp only[Ya,Yb,Yc]at r0 r1 r2 r3 r4 r5 q0 q1 q2 q3 q4 q5;clear Ai Ae Al hp hq HF;rcases hk with hk|hk|hk
 all_goals
  rw[hk]at q0;go_wp2_with fail;go_ret;exact⟨rfl,Af.o⟩
theorem bE4(es:List En)(nd:Nd)(r:Km)(x:Ex)(A:Option Addr)(ca:Nat)(B:Option Addr)(cb:Nat)(On:Option Addr)(n oc:Nat)(on:List Cd)(w:World)(hk:x.k=17):
 Calls Tryz.prog 31 #[.agg (cG es nd r),.agg (aE x A ca B cb),.slice On n oc] w fun e w'=>e=.returned (.bool (false))/\Below w.heap.size w w':=by
 have HF:=Hd fun w0 hw=>gH (w:=w) (w1:=w0) (cs:=cG es nd r) (ds:=aE x A ca B cb) (T:=57) (U:=52) hw;unfold aE at HF⊢;rw[hk]at HF⊢;unfold cG at *;generalize es.length=pe at *;generalize x.arms.length=al at *;generalize Aq:x.subs.length=sl at *;go_in
 go_upto_region 1 with(fail);generalize Ai:(w.alloc _).alloc _=w0;obtain⟨Ae,Al,hp,hq⟩:=HF.o w0 Ai;have Af:=Hd Ae;obtain⟨r0,r1,r2,r3,r4,r5⟩:=Sx (hp w0 (Yg _ _));obtain⟨q0,q1,q2,q3,q4,q5⟩:=Sx (hq w0 (Yg _ _));simp only[Ya,Yb,Yc]at r0 r1 r2 r3 r4 r5 q0 q1 q2 q3 q4 q5;clear Ai Ae Al hp hq HF;go_wp2_with fail;go_ret;exact⟨rfl,Af.o⟩
theorem bE5(es:List En)(nd:Nd)(r:Km)(x:Ex)(A:Option Addr)(ca:Nat)(B:Option Addr)(cb:Nat)(On:Option Addr)(n oc:Nat)(on:List Cd)(w:World)(hk:x.k=3)(Au:Bool)
 (hc:∀w1,Below w.heap.size w w1->Calls Tryz.prog 32 #[.agg (cG es nd r),.string x.s,.slice On n oc] w1 fun e w'=>e=.returned (.bool Au)/\Below w1.heap.size w1 w'):
 Calls Tryz.prog 31 #[.agg (cG es nd r),.agg (aE x A ca B cb),.slice On n oc] w fun e w'=>e=.returned (.bool (Au))/\Below w.heap.size w w':=by
 have HF:=Hd fun w0 hw=>gH (w:=w) (w1:=w0) (cs:=cG es nd r) (ds:=aE x A ca B cb) (T:=57) (U:=52) hw;have HC:=Hd hc;clear hc;unfold aE at HF⊢;rw[hk]at HF⊢;unfold cG at *;generalize es.length=pe at *;generalize x.arms.length=al at *;generalize Bp:x.subs.length=sl at *;go_in
 go_upto_region 1 with(fail);generalize Ai:(w.alloc _).alloc _=w0;obtain⟨Ae,Al,hp,hq⟩:=HF.o w0 Ai;have Af:=Hd Ae;obtain⟨r0,r1,r2,r3,r4,r5⟩:=Sx (hp w0 (Yg _ _));obtain⟨q0,q1,q2,q3,q4,q5⟩:=Sx (hq w0 (Yg _ _));simp only[Ya,Yb,Yc]at r0 r1 r2 r3 r4 r5 q0 q1 q2 q3 q4 q5;clear Ai Ae Al hp hq HF;have Aq:=Hd (HC.o w0 Af.o);clear HC;go_wp2_with fail;refine Aq.o.mono ?_;rintro e w1 ⟨rfl,Aa⟩;have Ac:=Hd (aV Af.o Aa);clear Aa Aq;go_wp2_with fail;go_ret;exact⟨rfl,Ac.o⟩
theorem bE6(es:List En)(nd:Nd)(r:Km)(x:Ex)(A:Option Addr)(ca:Nat)(B:Option Addr)(cb:Nat)(On:Option Addr)(n oc:Nat)(on:List Cd)(w:World)(hk:x.k=11)(Au:Bool)
 (hc:∀w1,Below w.heap.size w w1->Calls Tryz.prog 50 #[.agg (cG es nd r),.agg (aE x A ca B cb),.slice On n oc] w1 fun e w'=>e=.returned (.bool Au)/\Below w1.heap.size w1 w'):
 Calls Tryz.prog 31 #[.agg (cG es nd r),.agg (aE x A ca B cb),.slice On n oc] w fun e w'=>e=.returned (.bool (Au))/\Below w.heap.size w w':=by
 have HF:=Hd fun w0 hw=>gH (w:=w) (w1:=w0) (cs:=cG es nd r) (ds:=aE x A ca B cb) (T:=57) (U:=52) hw;have HC:=Hd hc;clear hc;unfold aE at HC HF⊢;rw[hk]at HC HF⊢;unfold cG at *;generalize es.length=pe at *;generalize x.arms.length=al at *;generalize Bp:x.subs.length=sl at *;go_in
 go_upto_region 1 with(fail);generalize Ai:(w.alloc _).alloc _=w0;obtain⟨Ae,Al,hp,hq⟩:=HF.o w0 Ai;have Af:=Hd Ae;obtain⟨r0,r1,r2,r3,r4,r5⟩:=Sx (hp w0 (Yg _ _));obtain⟨q0,q1,q2,q3,q4,q5⟩:=Sx (hq w0 (Yg _ _));simp only[Ya,Yb,Yc]at r0 r1 r2 r3 r4 r5 q0 q1 q2 q3 q4 q5;clear Ai Ae Al hp hq HF;have Aq:=Hd (HC.o w0 Af.o);clear HC;go_wp2_with fail;refine Aq.o.mono ?_;rintro e w1 ⟨rfl,Aa⟩;have Ac:=Hd (aV Af.o Aa);clear Aa Aq;go_wp2_with fail;go_ret;exact⟨rfl,Ac.o⟩
theorem bE7(es:List En)(nd:Nd)(r:Km)(x:Ex)(A:Option Addr)(ca:Nat)(B:Option Addr)(cb:Nat)(On:Option Addr)(n oc:Nat)(on:List Cd)(w:World)(hk:x.k=12)(Au:Bool)
 (hc:∀w1,Below w.heap.size w w1->Calls Tryz.prog 51 #[.agg (cG es nd r),.agg (aE x A ca B cb),.slice On n oc] w1 fun e w'=>e=.returned (.bool Au)/\Below w1.heap.size w1 w'):
 Calls Tryz.prog 31 #[.agg (cG es nd r),.agg (aE x A ca B cb),.slice On n oc] w fun e w'=>e=.returned (.bool (Au))/\Below w.heap.size w w':=by
 have HF:=Hd fun w0 hw=>gH (w:=w) (w1:=w0) (cs:=cG es nd r) (ds:=aE x A ca B cb) (T:=57) (U:=52) hw;have HC:=Hd hc;clear hc;unfold aE at HC HF⊢;rw[hk]at HC HF⊢;unfold cG at *;generalize es.length=pe at *;generalize x.arms.length=al at *;generalize Bp:x.subs.length=sl at *;go_in
 go_upto_region 1 with(fail);generalize Ai:(w.alloc _).alloc _=w0;obtain⟨Ae,Al,hp,hq⟩:=HF.o w0 Ai;have Af:=Hd Ae;obtain⟨r0,r1,r2,r3,r4,r5⟩:=Sx (hp w0 (Yg _ _));obtain⟨q0,q1,q2,q3,q4,q5⟩:=Sx (hq w0 (Yg _ _));simp only[Ya,Yb,Yc]at r0 r1 r2 r3 r4 r5 q0 q1 q2 q3 q4 q5;clear Ai Ae Al hp hq HF;have Aq:=Hd (HC.o w0 Af.o);clear HC;go_wp2_with fail;refine Aq.o.mono ?_;rintro e w1 ⟨rfl,Aa⟩;have Ac:=Hd (aV Af.o Aa);clear Aa Aq;go_wp2_with fail;go_ret;exact⟨rfl,Ac.o⟩
theorem bE8(es:List En)(nd:Nd)(r:Km)(x:Ex)(A:Option Addr)(ca:Nat)(B:Option Addr)(cb:Nat)(On:Option Addr)(n oc:Nat)(on:List Cd)(w:World)(hk:x.k=8)(h2:x.subs.length=2)(hx:aH w x A B)(fs:List Ft)
 (Bp:∀ k,k<x.subs.length->∀ A' Nu B' Jx w1,Below w.heap.size w w1->aH w1 (aM x k) A' B' ->
  Calls Tryz.prog 31 #[.agg (cG es nd r),.agg (aE (aM x k) A' Nu B' Jx),.slice On n oc] w1 fun e w'=>e=.returned (.bool (cL fs k on))/\Below w1.heap.size w1 w'):
 Calls Tryz.prog 31 #[.agg (cG es nd r),.agg (aE x A ca B cb),.slice On n oc] w fun e w'=>e=.returned (.bool (decide (x.subs.length=2) && cL fs 1 on))/\Below w.heap.size w w':=by
 have HF:=Hd fun w0 hw=>gH (w:=w) (w1:=w0) (cs:=cG es nd r) (ds:=aE x A ca B cb) (T:=57) (U:=52) hw;have Oe:=Hd fun k (Ny:k<x.subs.length)=>hx.sub Ny;have Bx:=Hd Bp;clear Bp hx;generalize Aq:(decide (x.subs.length=2) && cL fs 1 on)=Au at *;have Nt:=Hd (show Au=cL fs 1 on by rw[<-Aq,Zy h2,Bool.true_and]);have H2:=Hd h2;clear Aq h2;unfold aE at HF Bx⊢;rw[hk]at HF⊢;unfold cG at *;generalize es.length=pe at *;generalize x.arms.length=al at *;generalize Ok:x.subs.length=sl at *;go_in
 go_upto_region 1 with(fail);generalize Ai:(w.alloc _).alloc _=w0;obtain⟨Ae,Al,hp,hq⟩:=HF.o w0 Ai;have Af:=Hd Ae;obtain⟨r0,r1,r2,r3,r4,r5⟩:=Sx (hp w0 (Yg _ _));obtain⟨q0,q1,q2,q3,q4,q5⟩:=Sx (hq w0 (Yg _ _));simp only[Ya,Yb,Yc]at r0 r1 r2 r3 r4 r5 q0 q1 q2 q3 q4 q5;clear Ai Ae Al hp hq HF;have h2:=H2.o;obtain⟨sb,so,rfl,Az,Nw⟩:=Oe.o 1 aA;obtain⟨A',Nu,B',Jx,Nx,Ap⟩:=Nw 1 aA;obtain⟨s0,s1,s2,s3,s4,s5⟩:=dT (fT Nx Az fun p hp=>Af.o.cell hp);simp only[Nat.one_mul]at s0 s1 s2 s3 s4 s5;have Of:=Hd fun W (hb:Below w0.heap.size w0 W)=>Bx.o 1 aA A' Nu B' Jx W (aV Af.o hb) (Ap.below (aV Af.o hb));have Oi:(1:Int)<(sl:Int):=aA;have Oj:decide ((1:Int)<(sl:Int))=true:=Zy Oi;clear Nw Nx Ap;generalize cL fs 1 on=ft at *;generalize aM x 1=y at *;go_upto_region 13 with(fail);have l0:=fun d os=>Zs r0 d os;have l1:=fun d os=>Zs r1 d os;have l2:=fun d os=>Zs r2 d os;have l3:=fun d os=>Zs r3 d os;have l4:=fun d os=>Zs r4 d os;have l5:=fun d os=>Zs r5 d os;have l6:=fun d os=>Zs q0 d os;have l7:=fun d os=>Zs q1 d os;have l8:=fun d os=>Zs q2 d os;have l9:=fun d os=>Zs q3 d os;have Kx:=fun d os=>Zs q4 d os;have La:=fun d os=>Zs q5 d os;have Oh:=fun d os=>Zs s0 d os;have Oa:=fun d os=>Zs s1 d os;have Nz:=fun d os=>Zs s2 d os;have Od:=fun d os=>Zs s3 d os;have Ob:=fun d os=>Zs s4 d os;have Og:=fun d os=>Zs s5 d os;have Oc:=Hd fun d os=>Zt w0 d os;have Nv:=fun d os=>Zi (Of.o (grow (redrawn w0 d) os) (Zt w0 d os));refine Xa aC aC ?_;repeat (go_big_quiet_step (first|with_reducible exact Nv _ _))
 refine Xg ?_;intro _ Cy;obtain⟨⟨dq,Bj⟩,Bl⟩:=Cy;subst Bl;have Ac:=Hd (Oc.o dq Bj);clear l0 l1 l2 l3 l4 l5 l6 l7 l8 l9 Kx La Oh Oa Nz Od Ob Og Nv r0 r1 r2 r3 r4 r5 q0 q1 q2 q3 q4 q5 s0 s1 s2 s3 s4 s5;go_wp2_with fail;go_ret;exact⟨gF Nt.o.symm,aV Af.o Ac.o⟩
theorem bE9(es:List En)(nd:Nd)(r:Km)(x:Ex)(A:Option Addr)(ca:Nat)(B:Option Addr)(cb:Nat)(On:Option Addr)(n oc:Nat)(on:List Cd)(w:World)(k1:(x.k==1)=false)(k2:(x.k==2)=false)(k4:(x.k==4)=false)(k3:(x.k==3)=false)(k8:(x.k==8)=false)(Oc:(x.k==11)=false)(Oe:(x.k==12)=false)(Od:(x.k==17)=false)(hx:aH w x A B)(fs:List Ft)
 (Aq:∀ k,k<x.subs.length->∀ A' Jx B' Bp w1,Below w.heap.size w w1->aH w1 (aM x k) A' B' ->
  Calls Tryz.prog 31 #[.agg (cG es nd r),.agg (aE (aM x k) A' Jx B' Bp),.slice On n oc] w1 fun e w'=>e=.returned (.bool (cL fs k on))/\Below w1.heap.size w1 w'):
 Calls Tryz.prog 31 #[.agg (cG es nd r),.agg (aE x A ca B cb),.slice On n oc] w fun e w'=>e=.returned (.bool ((List.range x.subs.length).all fun k=>cL fs k on))/\Below w.heap.size w w':=by
 have HF:=Hd fun w0 hw=>gH (w:=w) (w1:=w0) (cs:=cG es nd r) (ds:=aE x A ca B cb) (T:=57) (U:=52) hw;have Ny:=Hd fun k (Nx:k<x.subs.length)=>hx.sub Nx;have Bx:=Hd Aq;have Of:=hx.subs.2.1;have Cj:=Hd fun k (hk:k<x.subs.length) h=>aB5 (f:=fun k=>cL fs k on) hk h;have Dl:=Hd fun h=>(uN (n:=x.subs.length) (f:=fun k=>cL fs k on)).2 h;clear Aq hx;generalize ((List.range x.subs.length).all fun k=>cL fs k on)=Au at *;unfold cG aE at *;generalize es.length=pe at *;generalize x.arms.length=al at *;generalize Ob:x.subs.length=sl at *;go_in
 go_upto_region 1 with(fail);generalize Ai:(w.alloc _).alloc _=w0;obtain⟨Ae,Al,hp,hq⟩:=HF.o w0 Ai;have Af:=Hd Ae;have HP:=Hd hp;obtain⟨r0,r1,r2,r3,r4,r5⟩:=Sx (hp w0 (Yg _ _));obtain⟨q0,q1,q2,q3,q4,q5⟩:=Sx (hq w0 (Yg _ _));simp only[Ya,Yb,Yc]at r0 r1 r2 r3 r4 r5 q0 q1 q2 q3 q4 q5;clear Ai Ae Al hp hq HF;go_wp2_with fail;clear r0 r1 r2 r3 r4 r5 q0 q1 q2 q3 q4 q5;go_loopw [54] (fun c wr=>∃k:Nat,k<=sl/\c=.int .i64 k/\(∀j,j<k->cL fs j on=true)/\Below w0.heap.size w0 wr) (fun c _=>sl-(intOf c).toNat)
 case atStart=>exact⟨0,Yq _,rfl,fun j hj=>absurd hj aA,Yg _ _⟩
 case round=>
  obtain⟨k,hk,rfl,Bc,Ay⟩:=hrel;have Cg:=Hd Bc;have Cm:=Hd Ay;have Bo:=Hd (aV Af.o Ay);clear Bc Ay;by_cases Ah:k<sl
  . obtain⟨sb,so,rfl,Az,Nu⟩:=Ny.o k Ah;obtain⟨A',Jx,B',Bp,Nv,Ap⟩:=Nu k Ah;obtain⟨s0,s1,s2,s3,s4,s5⟩:=dT (fT Nv Az fun p hp=>Bo.o.cell hp);have Ed:=Hd fun W (hb:Below w.heap.size w W)=>Bx.o k Ah A' Jx B' Bp W hb (Ap.below hb);have Fi:=Hd (Cj.o k Ah);have Cf:=Hd fun(h:cL fs k on=true)=>dC (P:=fun j=>cL fs j on=true) Cg.o h;clear Nu Nv Ap;generalize aM x k=y at *;generalize Oa:cL fs k on=ft at *;clear Oa;go_upto_region 19 with(fail);generalize Nt:wr.alloc _=w4;obtain⟨Bk,Nz,Nw⟩:=iV Nt;have Be:=Hd (aV Bo.o Bk);have Hi:=Hd (aV Cm.o Bk);have Jc:=Hd (Ed.o w4 Be.o);obtain⟨t0,t1,t2,t3,t4,t5⟩:=Sx (Nw w4 (Yg _ _));obtain⟨r0,r1,r2,r3,r4,r5⟩:=Sx (HP.o w4 Hi.o);simp only[Ya,Yb,Yc]at t0 t1 t2 t3 t4 t5 r0 r1 r2 r3 r4 r5;clear Nt Bk Nz Nw s0 s1 s2 s3 s4 s5;go_wp2_with fail;refine Jc.o.mono ?_;rintro e w5 ⟨rfl,Bv⟩;have Ck:=Hd (aV Be.o Bv);have Mw:=Hd (aV Hi.o Bv);clear Bv Jc t0 t1 t2 t3 t4 t5 r0 r1 r2 r3 r4 r5;cases ft with
    |false=>
     have HO:=Hd (show Au=false from Fi.o rfl);exact aEm
    |true=>
     exact aM9
  . exact aM2
def tN(x:Ex):Prop:=∀z∈bL x,z.k=8->z.subs.length=2
theorem bFa{x:Ex}(h:bH x=true):tN x:=fun z hz hk=>by
 have h1:=bAc (aUt h hz);have h2:=zG hk;rw[h2]at h1
 have:=h1.1
 have:=h1.2.1
 simp only at *;omega
theorem tN.sub{x:Ex}(h:tN x){k:Nat}(hk:k<x.subs.length):tN (aM x k):=fun z hz=>h z (aWz hk z hz)
theorem bFb(es:List En)(nd:Nd)(r:Km):∀x:Ex,∀(A:Option Addr)(ca:Nat)(B:Option Addr)(cb:Nat)(On:Option Addr)(n oc:Nat)(on:List Cd)(w:World),oE w es nd r->aH w x A B->bW w On n on->n<=oc->tN x->bD x<=1000000->n+bD x<=2500000->
 Calls Tryz.prog 31 #[.agg (cG es nd r),.agg (aE x A ca B cb),.slice On n oc] w fun e w'=>e=.returned (.bool (gX es nd x on))/\Below w.heap.size w w':=by
 refine nK fun x ih A ca B cb On n oc on w h hx ho Dk hF hs Gf=>?_;have Al:∀k,k<x.subs.length->bD (aM x k)<bD x:=fun k hk=>pQ (oL hk);have Bx:∀k,k<x.subs.length->∀A' Aq B' Bp w1,Below w.heap.size w w1->aH w1 (aM x k) A' B'->
  Calls Tryz.prog 31 #[.agg (cG es nd r),.agg (aE (aM x k) A' Aq B' Bp),.slice On n oc] w1 fun e w'=>e=.returned (.bool (cL (x.subs.map (gX es nd)) k on))/\Below w1.heap.size w1 w':=fun k hk A' Aq B' Bp w1 hb hr=>by
  rw[sX hk]
  have:=Al k hk
  exact ih k hk A' Aq B' Bp On n oc on w1 (h.below hb) hr (ho.below hb) Dk (hF.sub hk) aA aA
 have Nv:=hF x aAi;rw[aKp];generalize Nw:x.subs.map (gX es nd)=fs at Bx;unfold aA2;by_cases k1:(x.k==1 || x.k==2 || x.k==4)=true
 . rw[if_pos k1];exact bE3 es nd r x A ca B cb On n oc on w (by simpa[or_assoc]using k1)
 rw[if_neg k1];by_cases k3:(x.k==3)=true
 . rw[if_pos k3];exact bE5 es nd r x A ca B cb On n oc on w aAu _ fun w1 hb=>aAf es nd r x.s On n oc on w1 (h.below hb) (ho.below hb)
 rw[if_neg k3];by_cases k8:(x.k==8)=true
 . rw[if_pos k8];exact bE8 es nd r x A ca B cb On n oc on w (by simpa using k8) (Nv (by simpa using k8)) hx fs Bx
 rw[if_neg k8];by_cases Nt:(x.k==11)=true
 . rw[if_pos Nt];refine bE6 es nd r x A ca B cb On n oc on w (by simpa using Nt) _ fun w1 hb=>?_;refine aYj es nd r x A ca B cb On n oc on w1 (h.below hb) (hx.below hb) (ho.below hb) Dk fs fun hk A' Aq B' Bp w2 Ad hr=>?_;rw[<-Nw,sX hk]
   have:=Al 0 hk
   exact ih 0 hk A' Aq B' Bp On (n-1) (n-1) (on.take (n-1)) w2 ((h.below hb).below Ad) hr (((ho.below hb).below Ad).take aA) (Yh _) (hF.sub hk) aA aA
 rw[if_neg Nt];by_cases Nu:(x.k==12)=true
 . rw[if_pos Nu];refine bE7 es nd r x A ca B cb On n oc on w (by simpa using Nu) _ fun w1 hb=>?_;refine bB2 es nd r x A ca B cb On n oc on w1 (h.below hb) (hx.below hb) (ho.below hb) Dk aA fs fun k hk A' Aq B' Bp R cr row w2 Ad hr Ao hc=>?_;rw[<-Nw,sX hk]
   have:=Al k hk
   exact ih k hk A' Aq B' Bp R (n+1) cr row w2 ((h.below hb).below Ad) hr Ao hc (hF.sub hk) aA aA
 rw[if_neg Nu];by_cases Jx:(x.k==17)=true
 . rw[if_pos Jx];exact bE4 es nd r x A ca B cb On n oc on w (by simpa using Jx)
 rw[if_neg Jx];simp only[Bool.or_eq_true,not_or,Bool.not_eq_true]at k1 k3 k8 Nt Nu Jx;exact bE9 es nd r x A ca B cb On n oc on w k1.1.1 k1.1.2 k1.2 k3 k8 Nt Nu Jx hx fs Bx
theorem bFc(p:Pg)(E:Option Addr)(ec:Nat)(N:Option Addr)(nc:Nat)(i:Int)(s:ByteArray)(w:World)(hi:i<0\/(p.ns.length:Int)<=i):
 Calls Tryz.prog 10 #[.agg (aK p E ec N nc),.int .i64 i,.string s] w (oN w none):=by
 have HF:=Hd fun w0 hw=>iV (w:=w) (w1:=w0) (cs:=aK p E ec N nc) (T:=25) hw;unfold aK at HF⊢;generalize p.ns.length=pn at *;go_in
 go_upto_region 1 with(fail);generalize Ai:w.alloc _=w0;obtain⟨Ae,Al,hp⟩:=HF.o w0 Ai;have Af:=Hd Ae;have p1:=hp w0 (Yg _ _) 1;simp only[Ya,Yb,Yc]at p1;clear Ai Ae Al hp HF;by_cases h0:i<0
 . have hd:decide (i<0)=true:=Zy h0;exact aN5
 . have hd:decide (i<0)=false:=Zz h0;have Aq:(pn:Int)<=i:=aA;have Bp:decide ((pn:Int)<=i)=true:=Zy Aq;exact aN5
theorem bFd(p:Pg)(E:Option Addr)(ec:Nat)(N:Option Addr)(nc:Nat)(i:Nat)(s:ByteArray)(w:World)(h:cJ w p E N)(hi:i<p.ns.length):
 Calls Tryz.prog 10 #[.agg (aK p E ec N nc),.int .i64 i,.string s] w (oN w (cR p.es (aB p i) s)):=by
 have HF:=Hd fun w0 hw=>iV (w:=w) (w1:=w0) (cs:=aK p E ec N nc) (T:=25) hw;obtain⟨nb,no,A1,c1,A2,c2,A3,c3,A4,c4,hN,Aq,Ap,d0,d1,d2,d3,d4⟩:=aD0 h.2 hi;have Eb:p.ns[i]?.getD default=aB p i:=rfl;rw[Eb]at Ap d0 d1 d2 d3 d4;have Bm:=Hd fun w1 (hb:Below w.heap.size w w1)=>aAe p.es (aB p i) ⟨E,ec,A1,c1,A2,c2,A3,c3,A4,c4⟩ s w1 ⟨(h.below hb).1,Ap.below hb⟩;have Ny:=aI.max h.2;clear h Eb Ap;subst hN;unfold aK at HF⊢;unfold oN cG at Bm;unfold oN;dsimp only at Bm;generalize cR p.es (aB p i) s=Bx at *;generalize p.es.length=pe at *;generalize p.ns.length=pn at *;generalize aB p i=nd at *;go_in
 go_upto_region 1 with(fail);generalize Ai:w.alloc _=w0;obtain⟨Ae,Al,hp⟩:=HF.o w0 Ai;have Af:=Hd Ae;have p0:=hp w0 (Yg _ _) 0;have p1:=hp w0 (Yg _ _) 1;simp only[Ya,Yb,Yc]at p0 p1;have d0:=(Ae.cell (p:=⟨nb,no+i*5,none⟩) Aq).trans d0;have d1:=(Ae.cell (p:=⟨nb,no+i*5+1,none⟩) Aq).trans d1;have d2:=(Ae.cell (p:=⟨nb,no+i*5+2,none⟩) Aq).trans d2;have d3:=(Ae.cell (p:=⟨nb,no+i*5+3,none⟩) Aq).trans d3;have d4:=(Ae.cell (p:=⟨nb,no+i*5+4,none⟩) Aq).trans d4;have Jx:=Hd fun W (hb:Below w0.heap.size w0 W)=>Bm.o W (aV Af.o hb);clear Ai Ae Al hp HF Bm;have hd:decide ((i:Int)<0)=false:=Zz aA;have Nx:decide ((pn:Int)<=(i:Int))=false:=Zz aA;have Nz:(i:Int)<(pn:Int):=aA;cases Bx with
 |none=>
  have Bp:=Hd fun W (hb:Below w0.heap.size w0 W)=>(Jx.o W hb).mono fun e w' (h:_/\e=_)=>(show e=.returned (.tuple #[.slice none 0 0,.bool false])/\Below W.heap.size W w' from⟨h.2,h.1⟩);go_upto_region 3 with(fail);have HK:=Hd fun Wz (Mi:Below w0.heap.size w0 Wz)=>And.intro True.intro (And.intro ((Mi.cell (Yi _ _ p0)).trans p0) (And.intro ((Mi.cell (Yi _ _ p1)).trans p1) (And.intro ((Mi.cell (Yi _ _ d0)).trans d0) (And.intro ((Mi.cell (Yi _ _ d1)).trans d1) (And.intro ((Mi.cell (Yi _ _ d2)).trans d2) (And.intro ((Mi.cell (Yi _ _ d3)).trans d3) (And.intro ((Mi.cell (Yi _ _ d4)).trans d4) (True.intro))))))));refine wp_region_held_drew (S:=fun Wz=>Below w0.heap.size w0 Wz) aC ?_ (fun hHeld=>?_);· exact vU
  refine aN (i:=0) hHeld ?_
  (try simp only[Act.put,Yd,Ye,Yf])
  refine aN (i:=1) hHeld ?_
  (try simp only[Act.put,Yd,Ye,Yf])
  refine aN (i:=2) hHeld ?_
  (try simp only[Act.put,Yd,Ye,Yf])
  refine aN (i:=3) hHeld ?_
  (try simp only[Act.put,Yd,Ye,Yf])
  refine aN (i:=4) hHeld ?_
  (try simp only[Act.put,Yd,Ye,Yf])
  refine aN (i:=5) hHeld ?_
  (try simp only[Act.put,Yd,Ye,Yf])
  refine aN (i:=6) hHeld ?_
  (try simp only[Act.put,Yd,Ye,Yf])
  refine aN (i:=7) hHeld ?_
  (try simp only[Act.put,Yd,Ye,Yf])
  refine aN (i:=8) hHeld ?_
  (try simp only[Act.put,Yd,Ye,Yf])
  refine Xf (rs:=[9]) aC aG ?_;refine Zk aX (fun K hK=>?_) Zl;go_simp
  (go_at_call 24;(with_reducible refine(Bp.o _ ?hx).mono ?_);(case hx=>exact hHeld);rintro e Wn ⟨rfl,hq⟩;have Aw:=Hd (hHeld.tr hq);clear hq)
  go_wp2_with fail;refine hK.out _ _ ?_ (fun hHeld=>?_);· exact Aw.o
  clear hK K
  (try simp only[Act.put,Yd,Ye,Yf])
  refine aN (i:=10) hHeld ?_
  (try simp only[Act.put,Yd,Ye,Yf])
  refine aN (i:=11) hHeld ?_
  (try simp only[Act.put,Yd,Ye,Yf])
  refine aN (i:=12) hHeld ?_
  (try simp only[Act.put,Yd,Ye,Yf])
  refine aN (i:=13) hHeld ?_
  (try simp only[Act.put,Yd,Ye,Yf])
  refine wpAnyH_done aC ?_ _;go_wp2_with fail;refine Zu (results_tmp2 rfl _ _ _) rfl ?_;exact⟨aV Af.o Aw.o,rfl⟩
 |some row=>
  have Bp:=Hd fun W (hb:Below w0.heap.size w0 W)=>(Jx.o W hb).mono fun e w' (h:_/\_)=>(show(∃A c,e=.returned (.tuple #[.slice A row.length c,.bool true])/\bW w' A row.length row/\row.length<=c)/\Below W.heap.size W w' from⟨h.2,h.1⟩);go_upto_region 3 with(fail);have HK:=Hd fun Wz (Mi:Below w0.heap.size w0 Wz)=>And.intro True.intro (And.intro ((Mi.cell (Yi _ _ p0)).trans p0) (And.intro ((Mi.cell (Yi _ _ p1)).trans p1) (And.intro ((Mi.cell (Yi _ _ d0)).trans d0) (And.intro ((Mi.cell (Yi _ _ d1)).trans d1) (And.intro ((Mi.cell (Yi _ _ d2)).trans d2) (And.intro ((Mi.cell (Yi _ _ d3)).trans d3) (And.intro ((Mi.cell (Yi _ _ d4)).trans d4) (True.intro))))))));refine wp_region_held_drew (S:=fun Wz=>Below w0.heap.size w0 Wz) aC ?_ (fun hHeld=>?_);· exact vU
  refine aN (i:=0) hHeld ?_
  (try simp only[Act.put,Yd,Ye,Yf])
  refine aN (i:=1) hHeld ?_
  (try simp only[Act.put,Yd,Ye,Yf])
  refine aN (i:=2) hHeld ?_
  (try simp only[Act.put,Yd,Ye,Yf])
  refine aN (i:=3) hHeld ?_
  (try simp only[Act.put,Yd,Ye,Yf])
  refine aN (i:=4) hHeld ?_
  (try simp only[Act.put,Yd,Ye,Yf])
  refine aN (i:=5) hHeld ?_
  (try simp only[Act.put,Yd,Ye,Yf])
  refine aN (i:=6) hHeld ?_
  (try simp only[Act.put,Yd,Ye,Yf])
  refine aN (i:=7) hHeld ?_
  (try simp only[Act.put,Yd,Ye,Yf])
  refine aN (i:=8) hHeld ?_
  (try simp only[Act.put,Yd,Ye,Yf])
  refine Xf (rs:=[9]) aC aG ?_;refine Zk aX (fun K hK=>?_) Zl;go_simp
  (go_at_call 24;(with_reducible refine(Bp.o _ ?hx).mono ?_);(case hx=>exact hHeld);rintro e Wn ⟨⟨S9,c9,rfl,Nu,Nt⟩,hq⟩;have Aw:=Hd (hHeld.tr hq);have Nw:=Hd Nu;have Nv:=Hd Nt;clear Nu Nt;clear hq)
  go_wp2_with fail;refine hK.out _ _ ?_ (fun hHeld=>?_);· exact Aw.o
  clear hK K
  (try simp only[Act.put,Yd,Ye,Yf])
  refine aN (i:=10) hHeld ?_
  (try simp only[Act.put,Yd,Ye,Yf])
  refine aN (i:=11) hHeld ?_
  (try simp only[Act.put,Yd,Ye,Yf])
  refine aN (i:=12) hHeld ?_
  (try simp only[Act.put,Yd,Ye,Yf])
  refine aN (i:=13) hHeld ?_
  (try simp only[Act.put,Yd,Ye,Yf])
  refine wpAnyH_done aC ?_ _;go_wp2_with fail;refine Zu (results_tmp2 rfl _ _ _) rfl ?_;exact⟨aV Af.o Aw.o,S9,c9,rfl,Nw.o,Nv.o⟩
theorem bG0(p:Pg)(E:Option Addr)(ec:Nat)(N:Option Addr)(nc:Nat)(i:Int)(s:ByteArray)(w:World)(h:cJ w p E N):
 Calls Tryz.prog 10 #[.agg (aK p E ec N nc),.int .i64 i,.string s] w (oN w (wA p i s)):=by
 by_cases hi:i<0\/(p.ns.length:Int)<=i
 . rw[bBp hi];exact bFc p E ec N nc i s w hi
 . obtain⟨n,rfl⟩:∃n:Nat,i=n:=⟨i.toNat,by omega⟩;rw[bBq aA];exact bFd p E ec N nc n s w h aA
end
end Go.Proofs.YtkbpdoomhfkngaaGreat
