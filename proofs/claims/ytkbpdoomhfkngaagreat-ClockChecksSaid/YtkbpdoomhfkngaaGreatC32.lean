/- A part of the proof. Conditions: each theorem's own. -/
import Derived.Test.YtkbpdoomhfkngaaGreatC15
import Derived.Test.YtkbpdoomhfkngaaGreatC24
namespace Go.Proofs.YtkbpdoomhfkngaaGreat
set_option linter.unusedVariables false
set_option linter.unusedSimpArgs false
set_option maxRecDepth 100000
set_option maxHeartbeats 40000000
section
open Go.RowKit Go.Sort Go.BigFrame
theorem bBp{p:Pg}{i:Int}{s:ByteArray}(h:i<0\/(p.ns.length:Int)<=i):wA p i s=none:=if_pos h
theorem bBq{p:Pg}{i:Nat}{s:ByteArray}(h:i<p.ns.length):wA p i s=cR p.es (aB p i) s:=by
 unfold wA;rw[if_neg aA];rfl
theorem yK(p:Pg)(E:Option Addr)(ec:Nat)(N:Option Addr)(nc:Nat)(i:Nat)(s:ByteArray)(w:World)(h:cJ w p E N)(hi:i<p.ns.length)(hn:(aB p i).all.length<=1000):
 Calls Tryz.prog 21 #[.agg (aK p E ec N nc),.int .i64 i,.string s] w (vJ w (cR p.es (aB p i) s)):=by
 have HF:=Hd fun w1 hw=>kW w p E ec N nc w1 hw h;have Cq:=Hd fun t w1 (hb:Below w.heap.size w w1)=>rG E p.es.length ec p.es t w1 (h.below hb).1;obtain⟨nb,no,A1,c1,A2,c2,A3,c3,A4,c4,hN,Bx,Ap,d0,d1,d2,d3,d4⟩:=aD0 h.2 hi;have Eb:p.ns[i]?.getD default=aB p i:=rfl;rw[Eb]at Ap d0 d1 d2 d3 d4;have Bz:=Hd fun w1 (hb:Below w.heap.size w w1)=>aZj (aB p i) A1 c1 A2 c2 A3 c3 A4 c4 s w1 (Ap.below hb) hn;have Ov:=aI.max h.2;have Gl:=Hd (show cR p.es (aB p i) s=(jY (aB p i) s).bind (gS p.es)from rfl);obtain⟨i0,z0,On,Oo,Oh,Cu,Og⟩:=kG yI;clear h hn Eb Ap;subst hN;unfold aK at HF⊢;unfold lG aF at Cq;unfold bK at Bz;unfold xP at Bz;have Ok:=Hd (show ∀l,jY (aB p i) s=some l->l.length<=1000 from fun l hl=>aB4 hl);generalize cR p.es (aB p i) s=Au at *;generalize jY (aB p i) s=oc at *;generalize Ow:p.es=es at *;generalize es.length=pe at *;generalize p.ns.length=pn at *;generalize aB p i=nd at *;go_in
 go_upto_region 1 with(fail);generalize Ai:w.alloc _=w0;obtain⟨Ae,Al,-,hp⟩:=HF.o w0 Ai;have Af:=Hd Ae;have HP:=Hd hp;have p0:=hp w0 (Yg _ _) 0;have p1:=hp w0 (Yg _ _) 1;simp only[Ya,Yb,Yc]at p0 p1;have d0:=(Ae.cell (p:=⟨nb,no+i*5,none⟩) Bx).trans d0;have d1:=(Ae.cell (p:=⟨nb,no+i*5+1,none⟩) Bx).trans d1;have d2:=(Ae.cell (p:=⟨nb,no+i*5+2,none⟩) Bx).trans d2;have d3:=(Ae.cell (p:=⟨nb,no+i*5+3,none⟩) Bx).trans d3;have d4:=(Ae.cell (p:=⟨nb,no+i*5+4,none⟩) Bx).trans d4;have Oa:=Hd (Bz.o w0 Ae);clear Ai Ae Al hp HF Bz;have hd:decide ((i:Int)<0)=false:=Zz aA;have Ou:decide ((pn:Int)<=(i:Int))=false:=Zz aA;go_wp2_with fail;refine Oa.o.mono ?_;rintro e w1 ⟨Aa,Cn⟩;have Ac:=Hd (aV Af.o Aa);have Fp:=Hd fun W (b:Below w1.heap.size w1 W) j=>HP.o W (aV Aa b) j;clear Oa p0 p1 d0 d1 d2 d3 d4 Aa HP;cases Dk:oc with
 |none=>
  exact aMp
 |some l=>
  rw[Dk]at Cn;obtain⟨L,lc,rfl,Nw⟩:=Cn;have Oi:=Hd Nw;have Of:=Hd (show Au=gS es l by rw[Gl.o,Dk];rfl);have Fa:=Hd (Ok.o l Dk);have Oq:=aI.max Nw;clear Nw Dk;generalize hm:l.length=m at *;have Lu:=Hd hm;clear hm;have Oc:=World.ownsRow_lit (base:=w1.heap.size) (e:=45) (size:=2) w1 #[] 0 (Yh _) bS rfl;have Fy:=Hd Oc;have Oe:=Hd ((Yg w1.heap.size w1).alloc (Yh _) (.cells #[] 45));clear Oc;go_upto_region 7 with(fail);generalize w1.alloc _=wN at *;go_wp2_with fail;go_loopw [10,11] (fun v i wr=>∃(k:Nat)(cs:List Cd),k<=m/\i=.int .i64 k/\gS es (l.take k)=some cs/\wr.ownsRow w1.heap.size 45 2 v k (fA cs)/\Below w1.heap.size w1 wr) (fun _ i _=>m-(intOf i).toNat)
  case atStart=>exact⟨0,[],Yq _,rfl,rfl,Fy.o,Oe.o⟩
  case round=>
   obtain⟨k,cs,hk,rfl,Nu,Bq,Ay⟩:=hrel;have Nx:=Hd Nu;have Jx:=Hd Bq;have Cm:=Hd Ay;have Bo:=Hd (aV Ac.o Ay);have p0:=Fp.o wr Ay 0;simp only[Ya,Yb,Yc]at p0;clear Nu Bq Fy Oe;by_cases Ah:k<m
   . obtain⟨b,off,rfl,hb,e0,e1,e2,e3,e4,e5⟩:=aL2 (Oi.o.below Ay) Ah;have Fi:=Hd fun hc=>aIg (es:=es) (l:=l) (k:=k) aAq hc;have Gn:=Hd fun c hc=>aGk (es:=es) (l:=l) (k:=k) (c:=c) aAq Nx.o hc;have Lp:=Hd (show nT es (l[k]?.getD default)=(bP es (l[k]?.getD default).ct).map fun r=>⟨(l[k]?.getD default).on,r.2.2⟩from rfl);clear Ay e0 e1 e2 e3;generalize Ol:l[k]?.getD default=d at *;clear Ol;have Ms:=Hd fun w1 (hb:Below w.heap.size w w1)=>Cq.o d.ct w1 hb;generalize ho:bP es d.ct=o at *;generalize d.on=Ho at *;generalize d.ct=Ox at *;generalize Om:(o.map (·.1)).getD 0=oa at *;generalize Oj:(o.map (·.2.1)).getD 0=ob at *;generalize Ob:(o.map (·.2.2)).getD 0=ov at *;generalize Od:o.isSome=os at *;have Hw:=Hd (show o.map (fun r=>(⟨Ho,r.2.2⟩:Cd))=if os=true then some ⟨Ho,ov⟩else none by subst Od Ob;cases o<;>rfl);clear ho Om Oj Ob Od;go_upto_region 10 with(fail);refine kF (l:=[_,_,_,_,_,_,_,_,_,_,_,_,_,_,_,_]) 12 13 _ _ (d:=12) (tx:=52) (T:=41) (zc:=aF 0 0 0) aC rfl rfl aC rfl aG (fun a W=>by rfl) rfl aC ?_
     repeat
      first
      |refine kJ rfl ?_
      | (apply kI rfl rfl aG
         case h1=>
          intro wb hb;have Bn:=cU hb;have l0:=fun d os=>Zs ((Bn.cell (Yi _ _ p0)).trans p0) d os;have m4:=fun d os=>Zs ((Bn.cell (Yi _ _ e4)).trans e4) d os;have m5:=fun d os=>Zs ((Bn.cell (Yi _ _ e5)).trans e5) d os;exact aRd
         simp only[Act.put,Yd,Ye,Yf])
     refine⟨aF oa ob 0,rfl,rfl,by simp[aF,Value.oneCell'],fun W g hW hg hz=>?_⟩;have Bt:=Hd (cU hW);have e4:=((cU hW).cell (Yi _ _ e4)).trans e4;clear hW hg hz p0 e5;show Exit.then _ _ .normal _ W;simp only[Act.put,Yd,Ye,Yf];have Nv:=Hd (qV Jx.o (Bt.o));have Ny:=Hd (aV Cm.o Bt.o);cases os with
     |false=>
      have HO:=Hd (show Au=none by rw[Of.o];exact Fi.o aAn);go_wp2_with fail;refine Zu (results_tmp2 rfl _ _ _) rfl ?_;rw[HO.o];exact⟨aV Bo.o Bt.o,rfl⟩
     |true=>
      have Mh:=Hd (Gn.o ⟨Ho,ov⟩ aAn);have Nt:=Hd (aDz W ⟨Ho,ov⟩);have Ch:=Hd ((Yg W.heap.size W).alloc (Yh _) (.cells (gD ⟨Ho,ov⟩) 45));have Aq:=Hd (qV Nv.o Ch.o);have Ck:=Hd (aV Ny.o Ch.o);unfold gD at Nt Ch Aq Ck;have Ot:k<=1000:=by have:=Fa.o;omega
      go_wp2_with (at_builtin;refine wZ rfl _ _ 37 rfl w1.heap.size 45 i0 z0 24 Tryz.underlying37 On Oo Oh Cu Og _ k cs rfl Aq.o _ 1 1 [⟨Ho,ov⟩] rfl Nt.o dP aA Ck.o.size ?_;intro v' w9 Bb Ar;have Is:=Hd Bb;have Fq:=Hd (Ck.o.grown Ar Ck.o.size (fun j hj=>(Aq.o.lt j hj).1));clear Bb Ar);exact aNn
   . obtain rfl:k=m:=by omega
     have HO:=Hd (show Au=some cs by rw[Of.o,<-Nx.o,Yx aPz]);have Nz:=xK Nx.o;rw[List.length_take,Lu.o,Nat.min_self]at Nz;obtain⟨S,c,rfl,Cz⟩:=bW.of_own Jx.o aA;have Ew:=Hd Cz;have Bp:=Hd Nz;clear Cz Nz;go_wp2_with fail;refine Zu (results_tmp2 rfl _ _ _) rfl ?_;rw[HO.o];exact⟨Bo.o,S,c,by rw[Bp.o];rfl,by rw[Bp.o];exact Ew.o⟩
def aCc(w:World)(l:List Cd)(e:Ending)(w':World):Prop:=∃A c,e=.returned (.slice A l.length c)/\bW w' A l.length l/\l.length<=c/\Below w.heap.size w w'
theorem bW.of_ownC{w:World}{base n:Nat}{e:TypeId}{v:Value}{l:List Cd}(h:w.ownsRow base e 2 v n (fA l))(hm:n<=9223372036854775807):∃A c,v=.slice A n c/\bW w A n l/\n<=c:=by
 obtain⟨A,c,e1,h1⟩:=bW.of_own h hm;refine⟨A,c,e1,h1,?_⟩;rcases h.2 with⟨h2,h3⟩|⟨g,cap,cur,hv,hg,hh,hnc,hr⟩;· omega
 . rw[e1]at hv;injection hv with _ _ hc;omega
theorem aJ7(A:Option Addr)(n c:Nat)(l:List Cd)(s:ByteArray)(v:Int)(w:World)(h:bW w A n l)(hn:n<=4000000):
 Calls Tryz.prog 91 #[.slice A n c,.string s,.int .i64 v] w (aCc w (l++[⟨s,v⟩])):=by
 have Da:=aI.len h;obtain⟨i0,z0,Nx,Nv,Nu,Cu,Nw⟩:=kG yI;have Fy:=Hd (show(w.alloc (.cells #[] 45)).ownsRow w.heap.size 45 2 (.slice (some ⟨w.heap.size,0,none⟩) 0 0) 0 (fA [])from World.ownsRow_lit (base:=w.heap.size) (e:=45) (size:=2) w #[] 0 (Yh _) bS rfl);have Af:=Hd ((Yg w.heap.size w).alloc (Yh _) (.cells #[] 45));have Co:=Hd (h.below Af.o);have Iw:=Hd (show(l++[(⟨s,v⟩:Cd)]).length=n+1 by rw[Yn,Da];rfl);clear h Da;go_in
 go_wp2_with (at_builtin;(first
  |(refine wZ rfl _ _ 37 rfl w.heap.size 45 i0 z0 24 Tryz.underlying37 Nx Nv Nu Cu Nw _ 0 [] rfl Fy.o A n c l rfl Co.o dP aA Af.o.size ?_;intro v1 w1 Bp Jx;have Fk:=Hd Bp;have Ac:=Hd (Af.o.grown Jx Af.o.size (fun j hj=>(Fy.o.lt j hj).1));clear Bp Jx;have Nt:=Hd (aDz w1 ⟨s,v⟩);have Ch:=Hd ((Yg w1.heap.size w1).alloc (Yh _) (.cells (gD ⟨s,v⟩) 45));have Ee:=Hd (qV Fk.o Ch.o);have Aj:=Hd (aV Ac.o Ch.o);unfold gD at Nt Ch Ee Aj)
  |(refine wZ rfl _ _ 37 rfl w.heap.size 45 i0 z0 24 Tryz.underlying37 Nx Nv Nu Cu Nw _ (0+n) ([]++l) rfl Ee.o _ 1 1 [⟨s,v⟩] rfl Nt.o dP aA Aj.o.size ?_;intro v3 w3 Aq Bx;have Ny:=Hd Aq;have Ax:=Hd (Aj.o.grown Bx Aj.o.size (fun j hj=>(Ee.o.lt j hj).1));clear Aq Bx)))
 go_ret;obtain⟨S,c',e1,h1,h2⟩:=bW.of_ownC (l:=l++[⟨s,v⟩]) (n:=n+1) (by have:=Ny.o;rwa[Ze,Nat.zero_add]at this) aA;refine⟨S,c',?_,?_,?_,Ax.o⟩;· rw[e1,Iw.o];rfl
 . rw[Iw.o];exact h1
 . rw[Iw.o];exact h2
theorem aDj{es:List En}{n:Nd}{s:ByteArray}{row:List Cd}(h:cR es n s=some row):row.length<=1000:=by
 unfold cR at h;obtain⟨l,hl,hc⟩:=Option.bind_eq_some_iff.1 h;rw[xK hc];exact aB4 hl
theorem bBr(es:List En)(n:Nd)(x:Ex)(fs:List Ft)(on:List Cd):nU es n x fs on=match cR es n x.s with
 |none=>false
 |some row=>match bP es (x.arms[0]?.getD ByteArray.empty)with
  |none=>false
  |some r=>decide (x.arms.length=1) && decide (x.subs.length=1) && (dD on (row++[⟨x.s,r.2.2⟩]) && cL fs 0 row):=rfl
theorem aP.cellC{w:World}{A:Option Addr}{n k:Nat}{l:List ByteArray}(h:aP w A n l)(hk:k<n):∃b off,A=some ⟨b,off,none⟩/\b<w.heap.size/\w.cell? ⟨b,off+k,none⟩=some (.string (l[k]?.getD ByteArray.empty)):=by
 obtain⟨b,off,e,hb,hc⟩:=h.at_ hk;exact⟨b,off,e,hb,hc k hk⟩
theorem aYi(p:Pg)(E:Option Addr)(ec:Nat)(N:Option Addr)(nc:Nat)(i:Nat)(x:Ex)(A:Option Addr)(ca:Nat)(B:Option Addr)(cb:Nat)(On:Option Addr)(n oc:Nat)(on:List Cd)(w:World)(h:cJ w p E N)(hx:aH w x A B)(ho:bW w On n on)
 (hi:i<p.ns.length)(hn:(aB p i).all.length<=1000)(fs:List Ft)
 (Bx:0<x.subs.length->∀ A' Ob B' Nv R m cr row w1,Below w.heap.size w w1->aH w1 (aM x 0) A' B'->bW w1 R m row->m<=1000 ->
  Calls Tryz.prog 38 #[.agg (aK p E ec N nc),.int .i64 i,.agg (aE (aM x 0) A' Ob B' Nv),.slice R m cr] w1 fun e w'=>e=.returned (.bool (cL fs 0 row))/\Below w1.heap.size w1 w'):
 Calls Tryz.prog 59 #[.agg (aK p E ec N nc),.int .i64 i,.agg (aE x A ca B cb),.slice On n oc] w fun e w'=>e=.returned (.bool (nU p.es (aB p i) x fs on))/\Below w.heap.size w w':=by
 have HF:=Hd fun w0 hw=>gH (w:=w) (w1:=w0) (cs:=aK p E ec N nc) (ds:=aE x A ca B cb) (T:=25) (U:=52) hw;have Bm:=Hd fun w1 (hb:Below w.heap.size w w1)=>yK p E ec N nc i x.s w1 (h.below hb) hi hn;have Cq:=Hd fun t w1 (hb:Below w.heap.size w w1)=>rG E p.es.length ec p.es t w1 (h.below hb).1;have Cc:=Hd ho;have Ov:=Hd fun k (Ol:k<x.subs.length)=>hx.sub Ol;have Oa:=Hd Bx;have Ch:=Hd fun(h:x.arms.length=1)=>aP.cellC (k:=0) hx.arms aA;have HC:=Hd (bBr p.es (aB p i) x fs on);have Oq:=Hd (show ∀row,cR p.es (aB p i) x.s=some row->row.length<=1000 from fun row h=>aDj h);have Pd:=aI.max h.2;have Pf:=aI.max ho;clear h hx ho Bx hn;unfold vJ at Bm;unfold lG aF at Cq;generalize nU p.es (aB p i) x fs on=Au at *;generalize cR p.es (aB p i) x.s=Nx at *;unfold aK aE at *;generalize p.ns.length=pn at *;generalize Pe:p.es=es at *;generalize es.length=pe at *;generalize Pc:x.subs.length=sl at *;generalize Oz:x.arms.length=al at *;go_in
 go_upto_region 1 with(fail);generalize Ai:(w.alloc _).alloc _=w0;obtain⟨Ae,Al,hp,hq⟩:=HF.o w0 Ai;have Af:=Hd Ae;have HP:=Hd hp;have HX:=Hd hq;have p0:=hp w0 (Yg _ _) 0;have p1:=hp w0 (Yg _ _) 1;have q2:=hq w0 (Yg _ _) 2;simp only[Ya,Yb,Yc]at p0 p1 q2;have Co:=Hd (Bm.o w0 Ae);clear Ai Ae Al hp hq HF Bm;go_wp2_with fail;refine Co.o.mono ?_;rintro e w1 ⟨Aa,Cn⟩;have Ac:=Hd (aV Af.o Aa);have Fp:=Hd fun W (b:Below w1.heap.size w1 W) j=>HP.o W (aV Aa b) j;have Ff:=Hd fun W (b:Below w1.heap.size w1 W) j=>HX.o W (aV Aa b) j;clear Co p0 p1 q2 Aa HP HX;cases Jh:Nx with
 |none=>
  exact zO
 |some row=>
  rw[Jh]at Cn HC;obtain⟨R,rc,rfl,Ip⟩:=Cn;have Db:=Hd Ip;have Oe:=Hd (Oq.o row Jh);have Pa:=aI.max Ip;clear Ip Jh;generalize hm:row.length=m at *;have Lu:=Hd hm;clear hm;have q4:=Ff.o w1 (Yg _ _) 4;have q5:=Ff.o w1 (Yg _ _) 5;simp only[Ya,Yb,Yc]at q4 q5;by_cases Aq:al=1
  . by_cases Nz:sl=1
    . have na:((al:Int) !=1)=false:=by rw[Aq];rfl
      have ns:((sl:Int) !=1)=false:=by rw[Nz];rfl
      obtain⟨tb,Ot,rfl,Oo,t0⟩:=Ch.o Aq;have t0:=(Ac.o.cell (p:=⟨tb,Ot,none⟩) Oo).trans (by simpa using t0);have Oi:=Hd (show Au=match bP es (x.arms[0]?.getD ByteArray.empty) with | none=>false | some r=>dD on (row++[⟨x.s,r.2.2⟩]) && cL fs 0 row by
       rw[HC.o,Zy Aq,Zy Nz];cases bP es (x.arms[0]?.getD ByteArray.empty)<;>rfl)
      have Ms:=Hd fun w1 (hb:Below w.heap.size w w1)=>Cq.o (x.arms[0]?.getD ByteArray.empty) w1 hb;generalize x.arms[0]?.getD ByteArray.empty=Ox at *;generalize ho:bP es Ox=o at *;generalize Ow:(o.map (·.1)).getD 0=oa at *;generalize Ou:(o.map (·.2.1)).getD 0=ob at *;generalize Og:(o.map (·.2.2)).getD 0=ov at *;generalize Oh:o.isSome=os at *;have Hw:=Hd (show Au=(os && (dD on (row++[⟨x.s,ov⟩]) && cL fs 0 row))by rw[Oi.o];subst Oh Og;cases o<;>rfl);clear ho Ow Ou Og Oh HC Oi;have Pb:(0:Int)<(al:Int):=aA;have p0:=Fp.o w1 (Yg _ _) 0;simp only[Ya,Yb,Yc]at p0;go_upto_region 4 with(fail);refine kF (l:=[_,_,_,_,_,_,_,_,_,_,_,_,_,_,_]) 11 12 _ _ (d:=11) (tx:=44) (T:=41) (zc:=aF 0 0 0) aC rfl rfl aC rfl aG (fun a W=>by rfl) rfl aC ?_
      repeat
       first
       |refine kJ rfl ?_
       | (apply kI rfl rfl aG
          case h1=>
           intro wb hb;have Bn:=cU hb;have l0:=fun d os=>Zs ((Bn.cell (Yi _ _ p0)).trans p0) d os;have m4:=fun d os=>Zs ((Bn.cell (Yi _ _ q4)).trans q4) d os;have m5:=fun d os=>Zs ((Bn.cell (Yi _ _ t0)).trans t0) d os;have h3:=aV Ac.o Bn;have cA:=fun d os=>Zi (Ms.o (grow (redrawn wb d) os) (h3.trans ((Zt wb d os).mono h3.size)));exact tO
          simp only[Act.put,Yd,Ye,Yf])
      refine⟨aF oa ob 0,rfl,rfl,by simp[aF,Value.oneCell'],fun W g hW hg hz=>?_⟩;have Bp:=cU hW;have Bt:=Hd (aV Ac.o Bp);have Oc:=Hd (Db.o.below Bp);have Od:=Hd fun W' (b:Below W.heap.size W W') j=>Fp.o W' (aV Bp b) j;have Oj:=Hd fun W' (b:Below W.heap.size W W') j=>Ff.o W' (aV Bp b) j;clear hW hg hz p0 q4 q5 t0 Bp;show Exit.then _ _ .normal _ W;simp only[Act.put,Yd,Ye,Yf];cases os with
      |false=>
       have HO:=Hd (show Au=false from Hw.o);go_upto_region 5 with(fail);go_quiet (fail);go_wp2_with fail;go_ret;exact⟨gF HO.o.symm,bG Bt.o _⟩
      |true=>
       obtain⟨sb,so,rfl,Az,Of⟩:=Ov.o 0 aA;obtain⟨A',Ob,B',Nv,Ok,Ap⟩:=Of 0 aA;obtain⟨s0,s1,s2,s3,s4,s5⟩:=dT (fT Ok Az fun p hp=>Bt.o.cell hp);have Nu:=Hd fun W' (hb:Below W.heap.size W W')=>aJ7 R m rc row x.s ov W' (Oc.o.below hb) (by have:=Oe.o;omega);have Hc:=Hd fun W' (hb:Below W.heap.size W W')=>Oa.o aA A' Ob B' Nv R m rc row W' (aV Bt.o hb) (Ap.below (aV Bt.o hb)) (Oc.o.below hb) Oe.o;have Fa:=Hd (show(row++[(⟨x.s,ov⟩:Cd)]).length=m+1 by rw[Yn,Lu.o];rfl);have Jm:=Hd fun S c W' (hr:bW W' S (m+1) (row++[⟨x.s,ov⟩]))(hb:Below W.heap.size W W')=>xT On n oc on S (m+1) c (row++[⟨x.s,ov⟩]) W' (Cc.o.below (aV Bt.o hb)) hr;unfold aCc at Nu;rw[Fa.o]at Nu;have Ph:(0:Int)<(sl:Int):=aA;have p0:=Od.o W (Yg _ _) 0;have p1:=Od.o W (Yg _ _) 1;have q2:=Oj.o W (Yg _ _) 2;have q5:=Oj.o W (Yg _ _) 5;simp only[Ya,Yb,Yc]at p0 p1 q2 q5;simp only[Nat.zero_mul,Nat.add_zero]at s0 s1 s2 s3 s4 s5;clear Of Ok Ap;generalize dD on (row++[⟨x.s,ov⟩])=sm at *;generalize cL fs 0 row=ft at *;generalize row++[(⟨x.s,ov⟩:Cd)]=Om at *;generalize x.s=xs at *;generalize Oy:aM x 0=y at *;clear Oy;cases sm with
       |false=>
        have HO:=Hd (show Au=false from Hw.o);go_upto_region 5 with(fail);have HK:=Hd fun Wz (Mi:Below W.heap.size W Wz)=>And.intro True.intro (And.intro ((Mi.cell (Yi _ _ p0)).trans p0) (And.intro ((Mi.cell (Yi _ _ p1)).trans p1) (And.intro ((Mi.cell (Yi _ _ q2)).trans q2) (And.intro ((Mi.cell (Yi _ _ q5)).trans q5) (And.intro ((Mi.cell (Yi _ _ s0)).trans s0) (And.intro ((Mi.cell (Yi _ _ s1)).trans s1) (And.intro ((Mi.cell (Yi _ _ s2)).trans s2) (And.intro ((Mi.cell (Yi _ _ s3)).trans s3) (And.intro ((Mi.cell (Yi _ _ s4)).trans s4) (And.intro ((Mi.cell (Yi _ _ s5)).trans s5) (True.intro)))))))))));refine wp_region_held_drew (S:=fun Wz=>Below W.heap.size W Wz) aC ?_ (fun hHeld=>?_);· exact zX
        refine aN (i:=0) hHeld ?_
        (try simp only[Act.put,Yd,Ye,Yf])
        refine aN (i:=1) hHeld ?_
        (try simp only[Act.put,Yd,Ye,Yf])
        refine aN (i:=2) hHeld ?_
        (try simp only[Act.put,Yd,Ye,Yf])
        refine aN (i:=3) hHeld ?_
        (try simp only[Act.put,Yd,Ye,Yf])
        refine aN (i:=4) hHeld ?_
        (try simp only[Act.put,Yd,Ye,Yf])
        refine aN (i:=5) hHeld ?_
        (try simp only[Act.put,Yd,Ye,Yf])
        refine aN (i:=6) hHeld ?_
        (try simp only[Act.put,Yd,Ye,Yf])
        refine Xf (rs:=[7]) aC aG ?_;refine Zk aX (fun K hK=>?_) Zl;go_simp
        (go_at_call 91;(with_reducible refine(Nu.o _ ?hx).mono ?_);(case hx=>exact hHeld);rintro e Wg ⟨S9,c9,rfl,Jx,Ny,hq⟩;have Cl:=Hd (hHeld.tr hq);have Nw:=Hd Jx;clear Jx Ny;clear hq)
        go_wp2_with fail;refine hK.out _ _ ?_ (fun hHeld=>?_);· exact Cl.o
        clear hK K
        (try simp only[Act.put,Yd,Ye,Yf])
        refine Xf (rs:=[8]) aC aG ?_;refine Zk aX (fun K hK=>?_) Zl;go_simp
        (go_at_call 11;(with_reducible refine(Jm.o S9 c9 _ Nw.o ?hx).mono ?_);(case hx=>exact hHeld);rintro e Wm ⟨rfl,hq⟩;have Nt:=Hd (hHeld.tr hq);clear hq)
        go_wp2_with fail;refine hK.out _ _ ?_ (fun hHeld=>?_);· exact Nt.o
        clear hK K
        (try simp only[Act.put,Yd,Ye,Yf])
        refine aN (i:=9) hHeld ?_
        (try simp only[Act.put,Yd,Ye,Yf])
        refine aN (i:=10) hHeld ?_
        (try simp only[Act.put,Yd,Ye,Yf])
        refine qM (i:=11) hHeld ?_
        (try simp only[Act.put,Yd,Ye,Yf])
        refine qM (i:=12) hHeld ?_
        (try simp only[Act.put,Yd,Ye,Yf])
        refine qM (i:=13) hHeld ?_
        (try simp only[Act.put,Yd,Ye,Yf])
        refine qM (i:=14) hHeld ?_
        (try simp only[Act.put,Yd,Ye,Yf])
        refine qM (i:=15) hHeld ?_
        (try simp only[Act.put,Yd,Ye,Yf])
        refine qM (i:=16) hHeld ?_
        (try simp only[Act.put,Yd,Ye,Yf])
        refine qM (i:=17) hHeld ?_
        (try simp only[Act.put,Yd,Ye,Yf])
        refine qM (i:=18) hHeld ?_
        (try simp only[Act.put,Yd,Ye,Yf])
        refine aN (i:=19) hHeld ?_
        (try simp only[Act.put,Yd,Ye,Yf])
        refine aN (i:=20) hHeld ?_
        (try simp only[Act.put,Yd,Ye,Yf])
        refine wpAnyH_done aC ?_ _;go_wp2_with fail;go_ret;exact⟨gF HO.o.symm,aV Bt.o Nt.o⟩
       |true=>
        have HO:=Hd (show Au=ft from Hw.o);go_upto_region 5 with(fail);have HK:=Hd fun Wz (Mi:Below W.heap.size W Wz)=>And.intro True.intro (And.intro ((Mi.cell (Yi _ _ p0)).trans p0) (And.intro ((Mi.cell (Yi _ _ p1)).trans p1) (And.intro ((Mi.cell (Yi _ _ q2)).trans q2) (And.intro ((Mi.cell (Yi _ _ q5)).trans q5) (And.intro ((Mi.cell (Yi _ _ s0)).trans s0) (And.intro ((Mi.cell (Yi _ _ s1)).trans s1) (And.intro ((Mi.cell (Yi _ _ s2)).trans s2) (And.intro ((Mi.cell (Yi _ _ s3)).trans s3) (And.intro ((Mi.cell (Yi _ _ s4)).trans s4) (And.intro ((Mi.cell (Yi _ _ s5)).trans s5) (True.intro)))))))))));refine wp_region_held_drew (S:=fun Wz=>Below W.heap.size W Wz) aC ?_ (fun hHeld=>?_);· exact zX
        refine aN (i:=0) hHeld ?_
        (try simp only[Act.put,Yd,Ye,Yf])
        refine aN (i:=1) hHeld ?_
        (try simp only[Act.put,Yd,Ye,Yf])
        refine aN (i:=2) hHeld ?_
        (try simp only[Act.put,Yd,Ye,Yf])
        refine aN (i:=3) hHeld ?_
        (try simp only[Act.put,Yd,Ye,Yf])
        refine aN (i:=4) hHeld ?_
        (try simp only[Act.put,Yd,Ye,Yf])
        refine aN (i:=5) hHeld ?_
        (try simp only[Act.put,Yd,Ye,Yf])
        refine aN (i:=6) hHeld ?_
        (try simp only[Act.put,Yd,Ye,Yf])
        refine Xf (rs:=[7]) aC aG ?_;refine Zk aX (fun K hK=>?_) Zl;go_simp
        (go_at_call 91;(with_reducible refine(Nu.o _ ?hx).mono ?_);(case hx=>exact hHeld);rintro e Wg ⟨S9,c9,rfl,Jx,Ny,hq⟩;have Cl:=Hd (hHeld.tr hq);have Nw:=Hd Jx;clear Jx Ny;clear hq)
        go_wp2_with fail;refine hK.out _ _ ?_ (fun hHeld=>?_);· exact Cl.o
        clear hK K
        (try simp only[Act.put,Yd,Ye,Yf])
        refine Xf (rs:=[8]) aC aG ?_;refine Zk aX (fun K hK=>?_) Zl;go_simp
        (go_at_call 11;(with_reducible refine(Jm.o S9 c9 _ Nw.o ?hx).mono ?_);(case hx=>exact hHeld);rintro e Wm ⟨rfl,hq⟩;have Nt:=Hd (hHeld.tr hq);clear hq)
        go_wp2_with fail;refine hK.out _ _ ?_ (fun hHeld=>?_);· exact Nt.o
        clear hK K
        (try simp only[Act.put,Yd,Ye,Yf])
        refine aN (i:=9) hHeld ?_
        (try simp only[Act.put,Yd,Ye,Yf])
        refine aN (i:=10) hHeld ?_
        (try simp only[Act.put,Yd,Ye,Yf])
        refine aN (i:=11) hHeld ?_
        (try simp only[Act.put,Yd,Ye,Yf])
        refine aN (i:=12) hHeld ?_
        (try simp only[Act.put,Yd,Ye,Yf])
        refine aN (i:=13) hHeld ?_
        (try simp only[Act.put,Yd,Ye,Yf])
        refine aN (i:=14) hHeld ?_
        (try simp only[Act.put,Yd,Ye,Yf])
        refine aN (i:=15) hHeld ?_
        (try simp only[Act.put,Yd,Ye,Yf])
        refine aN (i:=16) hHeld ?_
        (try simp only[Act.put,Yd,Ye,Yf])
        refine aN (i:=17) hHeld ?_
        (try simp only[Act.put,Yd,Ye,Yf])
        refine Xf (rs:=[18]) aC aG ?_;refine Zk aX (fun K hK=>?_) Zl;go_simp
        (go_at_call 38;(with_reducible refine(Hc.o _ ?hx).mono ?_);(case hx=>exact hHeld);rintro e Wn ⟨rfl,hq⟩;have Aw:=Hd (hHeld.tr hq);clear hq)
        go_wp2_with fail;refine hK.out _ _ ?_ (fun hHeld=>?_);· exact Aw.o
        clear hK K
        (try simp only[Act.put,Yd,Ye,Yf])
        refine aN (i:=19) hHeld ?_
        (try simp only[Act.put,Yd,Ye,Yf])
        refine aN (i:=20) hHeld ?_
        (try simp only[Act.put,Yd,Ye,Yf])
        refine wpAnyH_done aC ?_ _;go_wp2_with fail;go_ret;exact⟨gF HO.o.symm,aV Bt.o Aw.o⟩
    . have na:((al:Int) !=1)=false:=by rw[Aq];rfl
      have ns:((sl:Int) !=1)=true:=wI;have HO:=Hd (show Au=false by rw[HC.o,Zz Nz,Bool.and_false];cases bP es (x.arms[0]?.getD ByteArray.empty)<;>rfl);exact zS
  . have na:((al:Int) !=1)=true:=by rw[bne_iff_ne];omega
    have HO:=Hd (show Au=false by rw[HC.o,Zz Aq,Bool.false_and];cases bP es (x.arms[0]?.getD ByteArray.empty)<;>rfl);exact zS
theorem aI0{es:List En}{n:Nd}{x:Ex}{fs:List Ft}{on:List Cd}{k:Nat}(hk:k<x.subs.length)(h:iC es x fs on k=false):oW es n x fs on=false:=by
 unfold oW;rw[aB5 hk h,Bool.and_false]
theorem aLb(es:List En)(x:Ex)(fs:List Ft)(on:List Cd)(k:Nat):iC es x fs on k=match bP es (x.arms[k]?.getD ByteArray.empty)with
 |none=>false
 |some r=>cL fs k (on++[⟨x.s,r.2.2⟩]):=rfl
theorem aVo(p:Pg)(E:Option Addr)(ec:Nat)(N:Option Addr)(nc:Nat)(i:Nat)(x:Ex)(A:Option Addr)(ca:Nat)(B:Option Addr)(cb:Nat)(On:Option Addr)(n oc:Nat)(on:List Cd)(w:World)(h:cJ w p E N)(hx:aH w x A B)(ho:bW w On n on)(Ox:n<=3000000)
 (hi:i<p.ns.length)(hn:(aB p i).all.length<=1000)(fs:List Ft)
 (Bp:∀ k,k<x.subs.length->∀ A' Nx B' Nt R cr row w1,Below w.heap.size w w1->aH w1 (aM x k) A' B'->bW w1 R (n+1) row ->
  Calls Tryz.prog 38 #[.agg (aK p E ec N nc),.int .i64 i,.agg (aE (aM x k) A' Nx B' Nt),.slice R (n+1) cr] w1 fun e w'=>e=.returned (.bool (cL fs k row))/\Below w1.heap.size w1 w'):
 Calls Tryz.prog 60 #[.agg (aK p E ec N nc),.int .i64 i,.agg (aE x A ca B cb),.slice On n oc] w fun e w'=>e=.returned (.bool (oW p.es (aB p i) x fs on))/\Below w.heap.size w w':=by
 have HF:=Hd fun w0 hw=>gH (w:=w) (w1:=w0) (cs:=aK p E ec N nc) (ds:=aE x A ca B cb) (T:=25) (U:=52) hw;have Bm:=Hd fun w1 (hb:Below w.heap.size w w1)=>yK p E ec N nc i x.s w1 (h.below hb) hi hn;have Cq:=Hd fun t w1 (hb:Below w.heap.size w w1)=>rG E p.es.length ec p.es t w1 (h.below hb).1;have Cc:=Hd ho;have Aq:=aI.len ho;have Og:=Hd Aq;have Ot:=Hd fun k (Oh:k<x.subs.length)=>hx.sub Oh;have Nw:=Hd Bp;have Ch:=Hd fun k (h:k<x.arms.length)=>aP.cellC (k:=k) hx.arms h;have HC:=Hd (show oW p.es (aB p i) x fs on=((match cR p.es (aB p i) x.s with|none=>false|some r=>dD r on) && decide (x.arms.length=x.subs.length) && (List.range x.subs.length).all (iC p.es x fs on))from rfl);have Cj:=Hd fun k (hk:k<x.subs.length) h=>aI0 (es:=p.es) (n:=aB p i) (x:=x) (fs:=fs) (on:=on) hk h;have Dl:=Hd fun h=>(uN (n:=x.subs.length) (f:=iC p.es x fs on)).2 h;have Jt:=Hd (aLb p.es x fs on);have Pc:=aI.max h.2;have Pe:=aI.max ho;have Of:=hx.subs.2.1;have Pb:=hx.arms.2.1;clear h ho Bp hn hx Aq;unfold vJ at Bm;unfold lG aF at Cq;generalize oW p.es (aB p i) x fs on=Au at *;generalize cR p.es (aB p i) x.s=Nu at *;unfold aK aE at *;generalize p.ns.length=pn at *;generalize Pd:p.es=es at *;generalize es.length=pe at *;generalize Pa:x.subs.length=sl at *;generalize Oy:x.arms.length=al at *;generalize x.s=xs at *;go_in
 go_upto_region 1 with(fail);generalize Ai:(w.alloc _).alloc _=w0;obtain⟨Ae,Al,hp,hq⟩:=HF.o w0 Ai;have Af:=Hd Ae;have HP:=Hd hp;have HX:=Hd hq;have p0:=hp w0 (Yg _ _) 0;have p1:=hp w0 (Yg _ _) 1;have q2:=hq w0 (Yg _ _) 2;simp only[Ya,Yb,Yc]at p0 p1 q2;have Co:=Hd (Bm.o w0 Ae);clear Ai Ae Al hp hq HF Bm;go_wp2_with fail;refine Co.o.mono ?_;rintro e w1 ⟨Aa,Cn⟩;have Ac:=Hd (aV Af.o Aa);have Fp:=Hd fun W (b:Below w1.heap.size w1 W) j=>HP.o W (aV Aa b) j;have Ff:=Hd fun W (b:Below w1.heap.size w1 W) j=>HX.o W (aV Aa b) j;clear Co p0 p1 q2 Aa HP HX;cases Jh:Nu with
 |none=>
  exact zO
 |some row=>
  rw[Jh]at Cn HC;obtain⟨R,rc,rfl,Ip⟩:=Cn;have Oz:=aI.max Ip;have Jm:=Hd (xT R row.length rc row On n oc on w1 Ip (Cc.o.below Ac.o));clear Ip Jh;generalize row.length=m at *;have Jx:=Hd (show Au=(dD row on && decide (al=sl) && (List.range sl).all (iC es x fs on))from HC.o);clear HC;generalize dD row on=sm at *;go_wp2_with fail;refine Jm.o.mono ?_;rintro e w2 ⟨rfl,Ad⟩;have Aj:=Hd (aV Ac.o Ad);have Il:=Hd fun W (b:Below w2.heap.size w2 W) j=>Fp.o W (aV Ad b) j;have Bx:=Hd fun W (b:Below w2.heap.size w2 W) j=>Ff.o W (aV Ad b) j;clear Ad Fp Ff Jm;cases sm with
  |false=>
   have HO:=Hd (show Au=false from Jx.o);exact vR
  |true=>
   have q4:=Bx.o w2 (Yg _ _) 4;have q5:=Bx.o w2 (Yg _ _) 5;simp only[Ya,Yb,Yc]at q4 q5;by_cases Aq:al=sl
   . subst Aq;have Oo:((al:Int) !=(al:Int))=false:=aG;have Gj:=Hd (show Au=(List.range al).all (iC es x fs on)by rw[Jx.o,Zy rfl];rfl);go_wp2_with fail;clear q4 q5 Jx;go_loopw [11] (fun c wr=>∃k:Nat,k<=al/\c=.int .i64 k/\(∀j,j<k->iC es x fs on j=true)/\Below w2.heap.size w2 wr) (fun c _=>al-(intOf c).toNat)
     case atStart=>exact⟨0,Yq _,rfl,fun j hj=>absurd hj aA,Yg _ _⟩
     case round=>
      obtain⟨k,hk,rfl,Bc,Ay⟩:=hrel;have Cg:=Hd Bc;have Cm:=Hd Ay;have Bo:=Hd (aV Aj.o Ay);have p0:=Il.o wr Ay 0;have q4:=Bx.o wr Ay 4;simp only[Ya,Yb,Yc]at p0 q4;clear Bc;by_cases Ah:k<al
      . obtain⟨tb,Ol,rfl,Ok,t0⟩:=Ch.o k Ah;have t0:=(Bo.o.cell (p:=⟨tb,Ol+k,none⟩) Ok).trans t0;have Fi:=Hd (Cj.o k Ah);have Cf:=Hd fun(h:iC es x fs on k=true)=>dC (P:=fun j=>iC es x fs on j=true) Cg.o h;have Oc:=Hd (Jt.o k);have Ms:=Hd fun w1 (hb:Below w.heap.size w w1)=>Cq.o (x.arms[k]?.getD ByteArray.empty) w1 hb;clear Ay;generalize x.arms[k]?.getD ByteArray.empty=Ov at *;generalize ho:bP es Ov=o at *;generalize Ou:(o.map (·.1)).getD 0=oa at *;generalize Om:(o.map (·.2.1)).getD 0=ob at *;generalize Oa:(o.map (·.2.2)).getD 0=ov at *;generalize Ob:o.isSome=os at *;have Hw:=Hd (show iC es x fs on k=(os && cL fs k (on++[⟨xs,ov⟩]))by rw[Oc.o];subst Ob Oa;cases o<;>rfl);clear ho Ou Om Oa Ob Oc;generalize Ow:iC es x fs on k=ak at *;clear Ow;go_upto_region 7 with(fail);refine kF (l:=[_,_,_,_,_,_,_,_,_,_,_,_,_,_,_,_]) 12 13 _ _ (d:=12) (tx:=56) (T:=41) (zc:=aF 0 0 0) aC rfl rfl aC rfl aG (fun a W=>by rfl) rfl aC ?_
        repeat
         first
         |refine kJ rfl ?_
         | (apply kI rfl rfl aG
            case h1=>
             intro wb hb;have Bn:=cU hb;have l0:=fun d os=>Zs ((Bn.cell (Yi _ _ p0)).trans p0) d os;have m4:=fun d os=>Zs ((Bn.cell (Yi _ _ q4)).trans q4) d os;have m5:=fun d os=>Zs ((Bn.cell (Yi _ _ t0)).trans t0) d os;exact aRd
            simp only[Act.put,Yd,Ye,Yf])
        refine⟨aF oa ob 0,rfl,rfl,by simp[aF,Value.oneCell'],fun W g hW hg hz=>?_⟩;have Nv:=cU hW;have Bt:=Hd (aV Bo.o Nv);have Ji:=Hd (aV Cm.o Nv);clear hW hg hz p0 q4 t0 Nv;show Exit.then _ _ .normal _ W;simp only[Act.put,Yd,Ye,Yf];cases os with
        |false=>
         exact aMu
        |true=>
         obtain⟨sb,so,rfl,Az,Nz⟩:=Ot.o k Ah;obtain⟨A',Nx,B',Nt,Od,Ap⟩:=Nz k Ah;obtain⟨s0,s1,s2,s3,s4,s5⟩:=dT (fT Od Az fun p hp=>Bt.o.cell hp);have Ny:=Hd fun W' (hb:Below W.heap.size W W')=>aJ7 On n oc on xs ov W' (Cc.o.below (aV Bt.o hb)) aA;have Hc:=Hd fun S c W' (hr:bW W' S (n+1) (on++[⟨xs,ov⟩]))(hb:Below W.heap.size W W')=>Nw.o k Ah A' Nx B' Nt S c (on++[⟨xs,ov⟩]) W' (aV Bt.o hb) (Ap.below (aV Bt.o hb)) hr;have Fa:=Hd (show(on++[(⟨xs,ov⟩:Cd)]).length=n+1 by rw[Yn,Og.o];rfl);unfold aCc at Ny;rw[Fa.o]at Ny;have p0:=Il.o W Ji.o 0;have p1:=Il.o W Ji.o 1;have q2:=Bx.o W Ji.o 2;have q5:=Bx.o W Ji.o 5;simp only[Ya,Yb,Yc]at p0 p1 q2 q5;clear Nz Od Ap;generalize cL fs k (on++[⟨xs,ov⟩])=ft at *;generalize on++[(⟨xs,ov⟩:Cd)]=Oi at *;generalize Of:aM x k=y at *;clear Of;go_upto_region 8 with(fail);have HK:=Hd fun Wz (Mi:Below W.heap.size W Wz)=>And.intro True.intro (And.intro ((Mi.cell (Yi _ _ p0)).trans p0) (And.intro ((Mi.cell (Yi _ _ p1)).trans p1) (And.intro ((Mi.cell (Yi _ _ q2)).trans q2) (And.intro ((Mi.cell (Yi _ _ q5)).trans q5) (And.intro ((Mi.cell (Yi _ _ s0)).trans s0) (And.intro ((Mi.cell (Yi _ _ s1)).trans s1) (And.intro ((Mi.cell (Yi _ _ s2)).trans s2) (And.intro ((Mi.cell (Yi _ _ s3)).trans s3) (And.intro ((Mi.cell (Yi _ _ s4)).trans s4) (And.intro ((Mi.cell (Yi _ _ s5)).trans s5) (True.intro)))))))))));refine wp_region_held_drew (S:=fun Wz=>Below W.heap.size W Wz) aC ?_ (fun hHeld=>?_);· exact zX
         refine aN (i:=0) hHeld ?_
         (try simp only[Act.put,Yd,Ye,Yf])
         refine aN (i:=1) hHeld ?_
         (try simp only[Act.put,Yd,Ye,Yf])
         refine aN (i:=2) hHeld ?_
         (try simp only[Act.put,Yd,Ye,Yf])
         refine aN (i:=3) hHeld ?_
         (try simp only[Act.put,Yd,Ye,Yf])
         refine aN (i:=4) hHeld ?_
         (try simp only[Act.put,Yd,Ye,Yf])
         refine aN (i:=5) hHeld ?_
         (try simp only[Act.put,Yd,Ye,Yf])
         refine aN (i:=6) hHeld ?_
         (try simp only[Act.put,Yd,Ye,Yf])
         refine aN (i:=7) hHeld ?_
         (try simp only[Act.put,Yd,Ye,Yf])
         refine aN (i:=8) hHeld ?_
         (try simp only[Act.put,Yd,Ye,Yf])
         refine aN (i:=9) hHeld ?_
         (try simp only[Act.put,Yd,Ye,Yf])
         refine aN (i:=10) hHeld ?_
         (try simp only[Act.put,Yd,Ye,Yf])
         refine aN (i:=11) hHeld ?_
         (try simp only[Act.put,Yd,Ye,Yf])
         refine aN (i:=12) hHeld ?_
         (try simp only[Act.put,Yd,Ye,Yf])
         refine aN (i:=13) hHeld ?_
         (try simp only[Act.put,Yd,Ye,Yf])
         refine Xf (rs:=[14]) aC aG ?_;refine Zk aX (fun K hK=>?_) Zl;go_simp
         (go_at_call 91;(with_reducible refine(Ny.o _ ?hx).mono ?_);(case hx=>exact hHeld);rintro e Wg ⟨S9,c9,rfl,Oe,Oq,hq⟩;have Cl:=Hd (hHeld.tr hq);have Oj:=Hd Oe;clear Oe Oq;clear hq)
         go_wp2_with fail;refine hK.out _ _ ?_ (fun hHeld=>?_);· exact Cl.o
         clear hK K
         (try simp only[Act.put,Yd,Ye,Yf])
         refine Xf (rs:=[15]) aC aG ?_;refine Zk aX (fun K hK=>?_) Zl;go_simp
         (go_at_call 38;(with_reducible refine(Hc.o S9 c9 _ Oj.o ?hx).mono ?_);(case hx=>exact hHeld);rintro e Wn ⟨rfl,hq⟩;have Aw:=Hd (hHeld.tr hq);clear hq)
         go_wp2_with fail;refine hK.out _ _ ?_ (fun hHeld=>?_);· exact Aw.o
         clear hK K
         (try simp only[Act.put,Yd,Ye,Yf])
         refine aN (i:=16) hHeld ?_
         (try simp only[Act.put,Yd,Ye,Yf])
         refine aN (i:=17) hHeld ?_
         (try simp only[Act.put,Yd,Ye,Yf])
         refine wpAnyH_done aC ?_ _;exact aRa
      . obtain rfl:k=al:=by omega
        have HO:=Hd (show Au=true by rw[Gj.o];exact Dl.o fun j hj=>Cg.o j hj);exact aOl
   . have Oo:((al:Int) !=(sl:Int))=true:=by rw[bne_iff_ne];omega
     have HO:=Hd (show Au=false by rw[Jx.o,Zz Aq];rfl);exact vR
theorem bBs(p:Pg)(E:Option Addr)(ec:Nat)(N:Option Addr)(nc:Nat)(i:Nat)(x:Ex)(A:Option Addr)(ca:Nat)(B:Option Addr)(cb:Nat)(On:Option Addr)(n oc:Nat)(on:List Cd)(w:World)(h:cJ w p E N)(hx:aH w x A B)(ho:bW w On n on)(hi:i<p.ns.length)(hk:x.k=1\/x.k=2\/x.k=4):
 Calls Tryz.prog 38 #[.agg (aK p E ec N nc),.int .i64 i,.agg (aE x A ca B cb),.slice On n oc] w fun e w'=>e=.returned (.bool (true))/\Below w.heap.size w w':=by
 have HF:=Hd fun w0 hw=>gH (w:=w) (w1:=w0) (cs:=aK p E ec N nc) (ds:=aE x A ca B cb) (T:=25) (U:=52) hw;have Jx:=aI.max h.2;have Bp:=aI.max ho;have hd:decide ((i:Int)<0)=false:=Zz aA;have Aq:decide ((p.ns.length:Int)<=(i:Int))=false:=Zz aA;clear h hx ho;unfold aK aE at *;generalize p.ns.length=pn at *;generalize p.es.length=pe at *;generalize x.arms.length=al at *;generalize Bx:x.subs.length=sl at *;go_in
 go_upto_region 1 with(fail);generalize Ai:(w.alloc _).alloc _=w0;obtain⟨Ae,Al,hp,hq⟩:=HF.o w0 Ai;have Af:=Hd Ae;have p0:=hp w0 (Yg _ _) 0;have p1:=hp w0 (Yg _ _) 1;obtain⟨q0,q1,q2,q3,q4,q5⟩:=Sx (hq w0 (Yg _ _));simp only[Ya,Yb,Yc]at p0 p1 q0 q1 q2 q3 q4 q5;clear Ai Ae Al hp hq HF;rcases hk with hk|hk|hk
 all_goals
  rw[hk]at q0;go_wp2_with fail;go_ret;exact⟨rfl,Af.o⟩
theorem bBt(p:Pg)(E:Option Addr)(ec:Nat)(N:Option Addr)(nc:Nat)(i:Nat)(x:Ex)(A:Option Addr)(ca:Nat)(B:Option Addr)(cb:Nat)(On:Option Addr)(n oc:Nat)(on:List Cd)(w:World)(h:cJ w p E N)(hx:aH w x A B)(ho:bW w On n on)(hi:i<p.ns.length)(hk:x.k=17):
 Calls Tryz.prog 38 #[.agg (aK p E ec N nc),.int .i64 i,.agg (aE x A ca B cb),.slice On n oc] w fun e w'=>e=.returned (.bool (false))/\Below w.heap.size w w':=by
 have HF:=Hd fun w0 hw=>gH (w:=w) (w1:=w0) (cs:=aK p E ec N nc) (ds:=aE x A ca B cb) (T:=25) (U:=52) hw;have Jx:=aI.max h.2;have Bp:=aI.max ho;have hd:decide ((i:Int)<0)=false:=Zz aA;have Aq:decide ((p.ns.length:Int)<=(i:Int))=false:=Zz aA;clear h hx ho;unfold aE at HF⊢;rw[hk]at HF⊢;unfold aK at *;generalize p.ns.length=pn at *;generalize p.es.length=pe at *;generalize x.arms.length=al at *;generalize Bx:x.subs.length=sl at *;go_in
 go_upto_region 1 with(fail);generalize Ai:(w.alloc _).alloc _=w0;obtain⟨Ae,Al,hp,hq⟩:=HF.o w0 Ai;have Af:=Hd Ae;have p0:=hp w0 (Yg _ _) 0;have p1:=hp w0 (Yg _ _) 1;obtain⟨q0,q1,q2,q3,q4,q5⟩:=Sx (hq w0 (Yg _ _));simp only[Ya,Yb,Yc]at p0 p1 q0 q1 q2 q3 q4 q5;clear Ai Ae Al hp hq HF;go_wp2_with fail;go_ret;exact⟨rfl,Af.o⟩
theorem bBu(p:Pg)(E:Option Addr)(ec:Nat)(N:Option Addr)(nc:Nat)(i:Nat)(x:Ex)(A:Option Addr)(ca:Nat)(B:Option Addr)(cb:Nat)(On:Option Addr)(n oc:Nat)(on:List Cd)(w:World)(h:cJ w p E N)(hx:aH w x A B)(ho:bW w On n on)(hi:i<p.ns.length)(hk:x.k=3)(hn:(aB p i).all.length<=1000):
 Calls Tryz.prog 38 #[.agg (aK p E ec N nc),.int .i64 i,.agg (aE x A ca B cb),.slice On n oc] w fun e w'=>e=.returned (.bool (dO p.es (aB p i) x.s on))/\Below w.heap.size w w':=by
 have HF:=Hd fun w0 hw=>gH (w:=w) (w1:=w0) (cs:=aK p E ec N nc) (ds:=aE x A ca B cb) (T:=25) (U:=52) hw;have Nt:=aI.max h.2;have Bx:=aI.max ho;have hd:decide ((i:Int)<0)=false:=Zz aA;have Bp:decide ((p.ns.length:Int)<=(i:Int))=false:=Zz aA;have Bm:=Hd fun w1 (hb:Below w.heap.size w w1)=>yK p E ec N nc i x.s w1 (h.below hb) hi hn;have Cc:=Hd ho;have HC:=Hd (show dO p.es (aB p i) x.s on=(match cR p.es (aB p i) x.s with|none=>false|some r=>dD r on)from rfl);clear h hx ho hn;unfold vJ at Bm;generalize dO p.es (aB p i) x.s on=Au at *;generalize cR p.es (aB p i) x.s=Aq at *;unfold aE at HF⊢;rw[hk]at HF⊢;unfold aK at *;generalize p.ns.length=pn at *;generalize p.es.length=pe at *;generalize x.arms.length=al at *;generalize Jx:x.subs.length=sl at *;go_in
 go_upto_region 1 with(fail);generalize Ai:(w.alloc _).alloc _=w0;obtain⟨Ae,Al,hp,hq⟩:=HF.o w0 Ai;have Af:=Hd Ae;have p0:=hp w0 (Yg _ _) 0;have p1:=hp w0 (Yg _ _) 1;obtain⟨q0,q1,q2,q3,q4,q5⟩:=Sx (hq w0 (Yg _ _));simp only[Ya,Yb,Yc]at p0 p1 q0 q1 q2 q3 q4 q5;clear Ai Ae Al hp hq HF;have Co:=Hd (Bm.o w0 Af.o);clear Bm;go_wp2_with fail;refine Co.o.mono ?_;rintro e w1 ⟨Aa,Cn⟩;have Ac:=Hd (aV Af.o Aa);clear Co p0 p1 q0 q1 q2 q3 q4 q5 Aa;cases Jh:Aq with
 |none=>
  exact zO
 |some row=>
  rw[Jh]at Cn HC;obtain⟨R,rc,rfl,Ip⟩:=Cn;have Jm:=Hd (xT R row.length rc row On n oc on w1 Ip (Cc.o.below Ac.o));exact aRj
theorem bBv(p:Pg)(E:Option Addr)(ec:Nat)(N:Option Addr)(nc:Nat)(i:Nat)(x:Ex)(A:Option Addr)(ca:Nat)(B:Option Addr)(cb:Nat)(On:Option Addr)(n oc:Nat)(on:List Cd)(w:World)(h:cJ w p E N)(hx:aH w x A B)(ho:bW w On n on)(hi:i<p.ns.length)(hk:x.k=11)(Au:Bool)
 (hc:∀w1,Below w.heap.size w w1->Calls Tryz.prog 59 #[.agg (aK p E ec N nc),.int .i64 i,.agg (aE x A ca B cb),.slice On n oc] w1 fun e w'=>e=.returned (.bool Au)/\Below w1.heap.size w1 w'):
 Calls Tryz.prog 38 #[.agg (aK p E ec N nc),.int .i64 i,.agg (aE x A ca B cb),.slice On n oc] w fun e w'=>e=.returned (.bool (Au))/\Below w.heap.size w w':=by
 have HF:=Hd fun w0 hw=>gH (w:=w) (w1:=w0) (cs:=aK p E ec N nc) (ds:=aE x A ca B cb) (T:=25) (U:=52) hw;have Nt:=aI.max h.2;have Bx:=aI.max ho;have hd:decide ((i:Int)<0)=false:=Zz aA;have Bp:decide ((p.ns.length:Int)<=(i:Int))=false:=Zz aA;have HC:=Hd hc;clear hc h hx ho;unfold aE at HC HF⊢;rw[hk]at HC HF⊢;unfold aK at *;generalize p.ns.length=pn at *;generalize p.es.length=pe at *;generalize x.arms.length=al at *;generalize Jx:x.subs.length=sl at *;go_in
 go_upto_region 1 with(fail);generalize Ai:(w.alloc _).alloc _=w0;obtain⟨Ae,Al,hp,hq⟩:=HF.o w0 Ai;have Af:=Hd Ae;have p0:=hp w0 (Yg _ _) 0;have p1:=hp w0 (Yg _ _) 1;obtain⟨q0,q1,q2,q3,q4,q5⟩:=Sx (hq w0 (Yg _ _));simp only[Ya,Yb,Yc]at p0 p1 q0 q1 q2 q3 q4 q5;clear Ai Ae Al hp hq HF;have Aq:=Hd (HC.o w0 Af.o);clear HC;go_wp2_with fail;refine Aq.o.mono ?_;rintro e w1 ⟨rfl,Aa⟩;have Ac:=Hd (aV Af.o Aa);clear Aa Aq;go_wp2_with fail;go_ret;exact⟨rfl,Ac.o⟩
theorem bBw(p:Pg)(E:Option Addr)(ec:Nat)(N:Option Addr)(nc:Nat)(i:Nat)(x:Ex)(A:Option Addr)(ca:Nat)(B:Option Addr)(cb:Nat)(On:Option Addr)(n oc:Nat)(on:List Cd)(w:World)(h:cJ w p E N)(hx:aH w x A B)(ho:bW w On n on)(hi:i<p.ns.length)(hk:x.k=12)(Au:Bool)
 (hc:∀w1,Below w.heap.size w w1->Calls Tryz.prog 60 #[.agg (aK p E ec N nc),.int .i64 i,.agg (aE x A ca B cb),.slice On n oc] w1 fun e w'=>e=.returned (.bool Au)/\Below w1.heap.size w1 w'):
 Calls Tryz.prog 38 #[.agg (aK p E ec N nc),.int .i64 i,.agg (aE x A ca B cb),.slice On n oc] w fun e w'=>e=.returned (.bool (Au))/\Below w.heap.size w w':=by
 have HF:=Hd fun w0 hw=>gH (w:=w) (w1:=w0) (cs:=aK p E ec N nc) (ds:=aE x A ca B cb) (T:=25) (U:=52) hw;have Nt:=aI.max h.2;have Bx:=aI.max ho;have hd:decide ((i:Int)<0)=false:=Zz aA;have Bp:decide ((p.ns.length:Int)<=(i:Int))=false:=Zz aA;have HC:=Hd hc;clear hc h hx ho;unfold aE at HC HF⊢;rw[hk]at HC HF⊢;unfold aK at *;generalize p.ns.length=pn at *;generalize p.es.length=pe at *;generalize x.arms.length=al at *;generalize Jx:x.subs.length=sl at *;go_in
 go_upto_region 1 with(fail);generalize Ai:(w.alloc _).alloc _=w0;obtain⟨Ae,Al,hp,hq⟩:=HF.o w0 Ai;have Af:=Hd Ae;have p0:=hp w0 (Yg _ _) 0;have p1:=hp w0 (Yg _ _) 1;obtain⟨q0,q1,q2,q3,q4,q5⟩:=Sx (hq w0 (Yg _ _));simp only[Ya,Yb,Yc]at p0 p1 q0 q1 q2 q3 q4 q5;clear Ai Ae Al hp hq HF;have Aq:=Hd (HC.o w0 Af.o);clear HC;go_wp2_with fail;refine Aq.o.mono ?_;rintro e w1 ⟨rfl,Aa⟩;have Ac:=Hd (aV Af.o Aa);clear Aa Aq;go_wp2_with fail;go_ret;exact⟨rfl,Ac.o⟩
theorem bBx(p:Pg)(E:Option Addr)(ec:Nat)(N:Option Addr)(nc:Nat)(i:Nat)(x:Ex)(A:Option Addr)(ca:Nat)(B:Option Addr)(cb:Nat)(On:Option Addr)(n oc:Nat)(on:List Cd)(w:World)(h:cJ w p E N)(hx:aH w x A B)(ho:bW w On n on)(hi:i<p.ns.length)(hk:x.k=8)(fs:List Ft)
 (Bx:∀ k,k<x.subs.length->∀ A' Nu B' Nt w1,Below w.heap.size w w1->aH w1 (aM x k) A' B' ->
  Calls Tryz.prog 38 #[.agg (aK p E ec N nc),.int .i64 i,.agg (aE (aM x k) A' Nu B' Nt),.slice On n oc] w1 fun e w'=>e=.returned (.bool (cL fs k on))/\Below w1.heap.size w1 w'):
 Calls Tryz.prog 38 #[.agg (aK p E ec N nc),.int .i64 i,.agg (aE x A ca B cb),.slice On n oc] w fun e w'=>e=.returned (.bool (decide (x.subs.length=2) && cL fs 1 on))/\Below w.heap.size w w':=by
 have HF:=Hd fun w0 hw=>gH (w:=w) (w1:=w0) (cs:=aK p E ec N nc) (ds:=aE x A ca B cb) (T:=25) (U:=52) hw;have Oh:=aI.max h.2;have Oi:=aI.max ho;have hd:decide ((i:Int)<0)=false:=Zz aA;have Og:decide ((p.ns.length:Int)<=(i:Int))=false:=Zz aA;have Oc:=Hd fun k (Ny:k<x.subs.length)=>hx.sub Ny;have Jx:=Hd Bx;have Ok:=hx.subs.2.1;clear Bx h hx ho;generalize Bp:(decide (x.subs.length=2) && cL fs 1 on)=Au at *;have Aq:=Hd Bp.symm;clear Bp;unfold aE at HF Jx⊢;rw[hk]at HF⊢;unfold aK at *;generalize p.ns.length=pn at *;generalize p.es.length=pe at *;generalize x.arms.length=al at *;generalize Of:x.subs.length=sl at *;go_in
 go_upto_region 1 with(fail);generalize Ai:(w.alloc _).alloc _=w0;obtain⟨Ae,Al,hp,hq⟩:=HF.o w0 Ai;have Af:=Hd Ae;have p0:=hp w0 (Yg _ _) 0;have p1:=hp w0 (Yg _ _) 1;obtain⟨q0,q1,q2,q3,q4,q5⟩:=Sx (hq w0 (Yg _ _));simp only[Ya,Yb,Yc]at p0 p1 q0 q1 q2 q3 q4 q5;clear Ai Ae Al hp hq HF;by_cases h2:sl=2
 . obtain⟨sb,so,rfl,Az,Nw⟩:=Oc.o 1 aA;obtain⟨A',Nu,B',Nt,Nx,Ap⟩:=Nw 1 aA;obtain⟨s0,s1,s2,s3,s4,s5⟩:=dT (fT Nx Az fun p hp=>Af.o.cell hp);simp only[Nat.one_mul]at s0 s1 s2 s3 s4 s5;have Od:=Hd fun W (hb:Below w0.heap.size w0 W)=>Jx.o 1 aA A' Nu B' Nt W (aV Af.o hb) (Ap.below (aV Af.o hb));have HO:=Hd (show Au=cL fs 1 on by rw[Aq.o,Zy h2,Bool.true_and]);clear Aq;have Oj:(1:Int)<(sl:Int):=aA;have Nz:((sl:Int)==2)=true:=by rw[h2];rfl
   clear Nw Nx Ap;generalize cL fs 1 on=ft at *;generalize aM x 1=y at *;go_upto_region 12 with(fail);have l0:=fun d os=>Zs p0 d os;have l1:=fun d os=>Zs p1 d os;have l2:=fun d os=>Zs q0 d os;have l3:=fun d os=>Zs q1 d os;have l4:=fun d os=>Zs q2 d os;have l5:=fun d os=>Zs q3 d os;have l6:=fun d os=>Zs q4 d os;have l7:=fun d os=>Zs q5 d os;have l8:=fun d os=>Zs s0 d os;have l9:=fun d os=>Zs s1 d os;have Kx:=fun d os=>Zs s2 d os;have La:=fun d os=>Zs s3 d os;have Oe:=fun d os=>Zs s4 d os;have Oa:=fun d os=>Zs s5 d os;have Ob:=Hd fun d os=>Zt w0 d os;have Nv:=fun d os=>Zi (Od.o (grow (redrawn w0 d) os) (Zt w0 d os));refine Xa aC aC ?_;repeat (go_big_quiet_step (first|with_reducible exact Nv _ _))
   refine Xg ?_;intro _ Cy;obtain⟨⟨dq,Bj⟩,Bl⟩:=Cy;subst Bl;have Ac:=Hd (Ob.o dq Bj);clear l0 l1 l2 l3 l4 l5 l6 l7 l8 l9 Kx La Oe Oa Nv p0 p1 q0 q1 q2 q3 q4 q5 s0 s1 s2 s3 s4 s5;go_wp2_with fail;go_ret;exact⟨gF HO.o.symm,aV Af.o Ac.o⟩
 . have Nz:((sl:Int)==2)=false:=by rw[Xb];omega
   have HO:=Hd (show Au=false by rw[Aq.o,Zz h2,Bool.false_and]);go_upto_region 12 with(fail);go_quiet (fail);go_wp2_with fail;go_ret;exact⟨gF HO.o.symm,bG Af.o _⟩
theorem bBy(p:Pg)(E:Option Addr)(ec:Nat)(N:Option Addr)(nc:Nat)(i:Nat)(x:Ex)(A:Option Addr)(ca:Nat)(B:Option Addr)(cb:Nat)(On:Option Addr)(n oc:Nat)(on:List Cd)(w:World)(h:cJ w p E N)(hx:aH w x A B)(ho:bW w On n on)(hi:i<p.ns.length)(k1:(x.k==1)=false)(k2:(x.k==2)=false)(k4:(x.k==4)=false)(k3:(x.k==3)=false)(k8:(x.k==8)=false)(Oe:(x.k==11)=false)(Oh:(x.k==12)=false)(Og:(x.k==17)=false)(fs:List Ft)
 (Aq:∀ k,k<x.subs.length->∀ A' Jx B' Bp w1,Below w.heap.size w w1->aH w1 (aM x k) A' B' ->
  Calls Tryz.prog 38 #[.agg (aK p E ec N nc),.int .i64 i,.agg (aE (aM x k) A' Jx B' Bp),.slice On n oc] w1 fun e w'=>e=.returned (.bool (cL fs k on))/\Below w1.heap.size w1 w'):
 Calls Tryz.prog 38 #[.agg (aK p E ec N nc),.int .i64 i,.agg (aE x A ca B cb),.slice On n oc] w fun e w'=>e=.returned (.bool ((List.range x.subs.length).all fun k=>cL fs k on))/\Below w.heap.size w w':=by
 have HF:=Hd fun w0 hw=>gH (w:=w) (w1:=w0) (cs:=aK p E ec N nc) (ds:=aE x A ca B cb) (T:=25) (U:=52) hw;have Od:=aI.max h.2;have Of:=aI.max ho;have hd:decide ((i:Int)<0)=false:=Zz aA;have Oc:decide ((p.ns.length:Int)<=(i:Int))=false:=Zz aA;have Ny:=Hd fun k (Nw:k<x.subs.length)=>hx.sub Nw;have Bx:=Hd Aq;have Oi:=hx.subs.2.1;have Cj:=Hd fun k (hk:k<x.subs.length) h=>aB5 (f:=fun k=>cL fs k on) hk h;have Dl:=Hd fun h=>(uN (n:=x.subs.length) (f:=fun k=>cL fs k on)).2 h;clear Aq h hx ho;generalize ((List.range x.subs.length).all fun k=>cL fs k on)=Au at *;unfold aK aE at *;generalize p.ns.length=pn at *;generalize p.es.length=pe at *;generalize x.arms.length=al at *;generalize Ob:x.subs.length=sl at *;go_in
 go_upto_region 1 with(fail);generalize Ai:(w.alloc _).alloc _=w0;obtain⟨Ae,Al,hp,hq⟩:=HF.o w0 Ai;have Af:=Hd Ae;have HP:=Hd hp;have HX:=Hd hq;have p0:=hp w0 (Yg _ _) 0;have p1:=hp w0 (Yg _ _) 1;obtain⟨q0,q1,q2,q3,q4,q5⟩:=Sx (hq w0 (Yg _ _));simp only[Ya,Yb,Yc]at p0 p1 q0 q1 q2 q3 q4 q5;clear Ai Ae Al hp hq HF;go_wp2_with fail;clear p0 p1 q0 q1 q2 q3 q4 q5;go_loopw [11] (fun c wr=>∃k:Nat,k<=sl/\c=.int .i64 k/\(∀j,j<k->cL fs j on=true)/\Below w0.heap.size w0 wr) (fun c _=>sl-(intOf c).toNat)
 case atStart=>exact⟨0,Yq _,rfl,fun j hj=>absurd hj aA,Yg _ _⟩
 case round=>
  obtain⟨k,hk,rfl,Bc,Ay⟩:=hrel;have Cg:=Hd Bc;have Cm:=Hd Ay;have Bo:=Hd (aV Af.o Ay);have p0:=HP.o wr Ay 0;have p1:=HP.o wr Ay 1;have q5:=HX.o wr Ay 5;simp only[Ya,Yb,Yc]at p0 p1 q5;clear Bc Ay;by_cases Ah:k<sl
  . obtain⟨sb,so,rfl,Az,Nu⟩:=Ny.o k Ah;obtain⟨A',Jx,B',Bp,Nv,Ap⟩:=Nu k Ah;obtain⟨s0,s1,s2,s3,s4,s5⟩:=dT (fT Nv Az fun p hp=>Bo.o.cell hp);have Nz:=Hd fun W (hb:Below wr.heap.size wr W)=>Bx.o k Ah A' Jx B' Bp W (aV Bo.o hb) (Ap.below (aV Bo.o hb));have Fi:=Hd (Cj.o k Ah);have Cf:=Hd fun(h:cL fs k on=true)=>dC (P:=fun j=>cL fs j on=true) Cg.o h;clear Nu Nv Ap;generalize aM x k=y at *;generalize Oa:cL fs k on=ft at *;clear Oa;go_upto_region 22 with(fail);have l0:=fun d os=>Zs p0 d os;have l1:=fun d os=>Zs p1 d os;have l2:=fun d os=>Zs q5 d os;have l3:=fun d os=>Zs s0 d os;have l4:=fun d os=>Zs s1 d os;have l5:=fun d os=>Zs s2 d os;have l6:=fun d os=>Zs s3 d os;have l7:=fun d os=>Zs s4 d os;have l8:=fun d os=>Zs s5 d os;have Nx:=Hd fun d os=>Zt wr d os;have Nt:=fun d os=>Zi (Nz.o (grow (redrawn wr d) os) (Zt wr d os));refine Xa aC aC ?_;repeat (go_big_quiet_step (first|with_reducible exact Nt _ _))
    refine Xg ?_;intro _ Cy;obtain⟨⟨dq,Bj⟩,Bl⟩:=Cy;subst Bl;have Ac:=Hd (Nx.o dq Bj);clear l0 l1 l2 l3 l4 l5 l6 l7 l8 Nt p0 p1 q5 s0 s1 s2 s3 s4 s5;cases ft with
    |false=>
     have HO:=Hd (show Au=false from Fi.o rfl);go_wp2_with fail;go_ret;exact⟨gF HO.o.symm,aV Bo.o Ac.o⟩
    |true=>
     have Dx:=Hd (Cf.o rfl);go_wp2_with fail;go_roundw;case rel=>exact⟨k+1,by omega,by go_num,Dx.o,aV Cm.o Ac.o⟩
     case measure=>simp[intOf];omega
  . exact aM2
theorem bBz(p:Pg)(E:Option Addr)(ec:Nat)(N:Option Addr)(nc:Nat)(i:Nat)(hi:i<p.ns.length)(hn:(aB p i).all.length<=1000):
 ∀x:Ex,∀(A:Option Addr)(ca:Nat)(B:Option Addr)(cb:Nat)(On:Option Addr)(n oc:Nat)(on:List Cd)(w:World),cJ w p E N->aH w x A B->bW w On n on->bD x<=1000000->n+bD x<=2500000->
  Calls Tryz.prog 38 #[.agg (aK p E ec N nc),.int .i64 i,.agg (aE x A ca B cb),.slice On n oc] w fun e w'=>e=.returned (.bool (gX p.es (aB p i) x on))/\Below w.heap.size w w':=by
 refine nK fun x ih A ca B cb On n oc on w h hx ho hs Gf=>?_;have Al:∀k,k<x.subs.length->bD (aM x k)<bD x:=fun k hk=>pQ (oL hk);have Bx:∀k,k<x.subs.length->∀A' Aq B' Bp w1,Below w.heap.size w w1->aH w1 (aM x k) A' B'->
  Calls Tryz.prog 38 #[.agg (aK p E ec N nc),.int .i64 i,.agg (aE (aM x k) A' Aq B' Bp),.slice On n oc] w1 fun e w'=>e=.returned (.bool (cL (x.subs.map (gX p.es (aB p i))) k on))/\Below w1.heap.size w1 w':=fun k hk A' Aq B' Bp w1 hb hr=>by
  rw[sX hk]
  have:=Al k hk
  exact ih k hk A' Aq B' Bp On n oc on w1 (h.below hb) hr (ho.below hb) aA aA
 rw[aKp];generalize Nv:x.subs.map (gX p.es (aB p i))=fs at Bx;unfold aA2;by_cases k1:(x.k==1 || x.k==2 || x.k==4)=true
 . rw[if_pos k1];exact bBs p E ec N nc i x A ca B cb On n oc on w h hx ho hi (by simpa[or_assoc]using k1)
 rw[if_neg k1];by_cases k3:(x.k==3)=true
 . rw[if_pos k3];exact bBu p E ec N nc i x A ca B cb On n oc on w h hx ho hi aAu hn
 rw[if_neg k3];by_cases k8:(x.k==8)=true
 . rw[if_pos k8];exact bBx p E ec N nc i x A ca B cb On n oc on w h hx ho hi (by simpa using k8) fs Bx
 rw[if_neg k8];by_cases Nt:(x.k==11)=true
 . rw[if_pos Nt];refine bBv p E ec N nc i x A ca B cb On n oc on w h hx ho hi (by simpa using Nt) _ fun w1 hb=>?_;refine aYi p E ec N nc i x A ca B cb On n oc on w1 (h.below hb) (hx.below hb) (ho.below hb) hi hn fs fun hk A' Aq B' Bp R m cr row w2 Ad hr Ao hm=>?_;rw[<-Nv,sX hk]
   have:=Al 0 hk
   exact ih 0 hk A' Aq B' Bp R m cr row w2 ((h.below hb).below Ad) hr Ao aA aA
 rw[if_neg Nt];by_cases Nu:(x.k==12)=true
 . rw[if_pos Nu];refine bBw p E ec N nc i x A ca B cb On n oc on w h hx ho hi (by simpa using Nu) _ fun w1 hb=>?_;refine aVo p E ec N nc i x A ca B cb On n oc on w1 (h.below hb) (hx.below hb) (ho.below hb) aA hi hn fs fun k hk A' Aq B' Bp R cr row w2 Ad hr Ao=>?_;rw[<-Nv,sX hk]
   have:=Al k hk
   exact ih k hk A' Aq B' Bp R (n+1) cr row w2 ((h.below hb).below Ad) hr Ao aA aA
 rw[if_neg Nu];by_cases Jx:(x.k==17)=true
 . rw[if_pos Jx];exact bBt p E ec N nc i x A ca B cb On n oc on w h hx ho hi (by simpa using Jx)
 rw[if_neg Jx];simp only[Bool.or_eq_true,not_or,Bool.not_eq_true]at k1 k3 k8 Nt Nu Jx;exact bBy p E ec N nc i x A ca B cb On n oc on w h hx ho hi k1.1.1 k1.1.2 k1.2 k3 k8 Nt Nu Jx fs Bx
end
end Go.Proofs.YtkbpdoomhfkngaaGreat
