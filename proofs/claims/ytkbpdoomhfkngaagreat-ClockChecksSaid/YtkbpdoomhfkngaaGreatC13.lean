/- A part of the proof. Conditions: each theorem's own. -/
import Derived.Test.YtkbpdoomhfkngaaGreatC08
import Derived.Test.YtkbpdoomhfkngaaGreatC12
namespace Go.Proofs.YtkbpdoomhfkngaaGreat
set_option linter.unusedVariables false
set_option linter.unusedSimpArgs false
set_option maxRecDepth 100000
set_option maxHeartbeats 40000000
section
open Go.RowKit Go.Sort
theorem aZ9(s:ByteArray)(w:World)(hs:s.size<=9223372036854775807):
 Calls Tryz.prog 136 #[.string s] w fun e w'=>e=.returned (.bool (!bE s.data.toList))/\Below w.heap.size w w':=by
 have HL:=Hd (jJ s w hs);generalize bE s.data.toList=b at *;go_in
 go_wp2_with fail;refine HL.o.mono ?_;rintro e w2 ⟨rfl,Ad⟩;have Aj:=Hd Ad;clear Ad;go_wp2_with fail;go_ret;exact⟨rfl,Aj.o⟩
theorem aWu(q:Qn)(A:Option Addr)(c:Nat)(A':Option Addr)(ca:Nat)(B':Option Addr)(cb:Nat)(w:World)(hr:aP w A q.ns.length q.ns)(hx:aH w q.x A' B')(Eu:wX q):
 Calls Tryz.prog 104 #[.agg (dW q A c A' ca B' cb)] w fun e w'=>e=.returned (.bool (!hM bH q))/\Below w.heap.size w w':=by
 have HF:=Hd fun w1 h=>aCi w q A c A' ca B' cb w1 h hr hx;have Nu:=hr.max;have Bp:=Hd fun w1 (h:aH w1 q.x A' B')=>yY q.x A' ca B' cb w1 h Eu.2.1 Eu.2.2;have Iq:=Hd fun w1 (h:aP w1 A q.ns.length q.ns)=>bFy 136 #[] (fun _ _=>rfl) (fun s=>!bE s.data.toList) A q.ns.length c q.ns w1 h
  fun s hs W _=>aZ9 s W (by have:=Eu.1 s hs;unfold maxLen at this;omega)
 have HE:=Hd (show(!hM bH q)=(decide (q.ns.length=0) || (q.ns.any fun s=>!bE s.data.toList) || !bH q.x || (!decide (q.ns.length<=1) && !(q.x.k==13))) by
  unfold hM;rw[<-List.not_all_eq_any_not];generalize (q.ns.all fun s=>bE s.data.toList)=a;rcases Nat.lt_trichotomy q.ns.length 1 with h|h|h
  . have:q.ns.length=0:=by omega
    simp[this]
  . simp[h]
  . have h0:q.ns.length≠0:=by omega
    have h1:q.ns.length≠1:=aA;have h2:¬q.ns.length<=1:=aA;have h3:0<q.ns.length:=aA;simp[h0,h1,h2,h3])
 clear Eu hr hx;unfold aE at Bp;unfold dW;generalize (!hM bH q)=Au at *;generalize bH q.x=rb at *;generalize (q.ns.any fun s=>!bE s.data.toList)=nb at *;go_in
 go_upto_region 1 with(fail);generalize Ag:w.alloc _=w1;obtain⟨Aa,hg,Jx,Aq,hcell⟩:=HF.o w1 Ag;have Ac:=Hd Aa;have HC:=Hd hcell;have Ff:=Hd Aq;have Bx:=Hd (Iq.o w1 Jx);simp only[dW]at HC;have q0:=HC.o w1 (Yg _ _) 0;simp only[Ya,Yb,Yc]at q0;clear Ag hcell Aa HF Jx Aq Iq;generalize q.ns.length=n at *;generalize q.x.k=xk at *;generalize q.x.n=xn at *;generalize q.x.s=xs at *;generalize q.x.op=xo at *;generalize q.x.arms.length=xa at *;generalize q.x.subs.length=xb at *;by_cases h0:n=0
 . subst h0;have d0:(((0:Nat):Int)==0)=true:=rfl;exact zR
 . have d0:((n:Int)==0)=false:=by rw[Xb];omega
   rw[show decide (n=0)=false by simp[h0]]at HE;clear h0;cases nb with
   |true=>
    go_wp2_with fail;refine Bx.o.mono ?_;exact aNe
   |false=>
    go_wp2_with fail;refine Bx.o.mono ?_;rintro e w2 ⟨rfl,Ad⟩;have Aj:=Hd (Ac.o.tr Ad);have Dh:=Hd Ad;have Ce:=Hd (Bp.o w2 (Ff.o.below Ad));obtain⟨-,p1,p2,p3,p4,p5⟩:=Sx (HC.o w2 Ad);have p6:=HC.o w2 Ad 6;simp only[Ya,Yb,Yc]at p1 p2 p3 p4 p5 p6;clear Ad q0;cases rb with
    |false=>
     go_wp2_with fail;refine Ce.o.mono ?_;rintro e w3 ⟨rfl,Ak⟩;have Ax:=Hd (Aj.o.tr Ak);clear Ak p1 p2 p3 p4 p5 p6;exact pD
    |true=>
     go_wp2_with fail;refine Ce.o.mono ?_;rintro e w3 ⟨rfl,Ak⟩;have Ax:=Hd (Aj.o.tr Ak);have Cr:=Dh.o.tr Ak;have s0:=HC.o w3 Cr 0;have s1:=HC.o w3 Cr 1;simp only[Ya,Yb,Yc]at s0 s1;clear Ak p1 p2 p3 p4 p5 p6 Cr;by_cases h1:n<=1
     . rw[show decide (n<=1)=true by simp[h1]]at HE;have d1:decide ((1:Int)<(n:Int))=false:=Zz aA;clear h1;exact pD
     . rw[show decide (n<=1)=false by simp[h1]]at HE;have d1:decide ((1:Int)<(n:Int))=true:=Zy aA;clear h1;cases hk:(xk==13)with
       |true=>
        rw[hk]at HE;have Nt:(xk !=13)=false:=by rw[bne,hk];rfl
        exact pD
       |false=>
        rw[hk]at HE;have Nt:(xk !=13)=true:=by rw[bne,hk];rfl
        exact pD
theorem aWv(x:Nd)(A1:Option Addr)(c1:Nat)(A2:Option Addr)(c2:Nat)(A3:Option Addr)(c3:Nat)(A4:Option Addr)(c4:Nat)(w:World)(h:cF w x A1 A2 A3 A4):
 Calls Tryz.prog 67 #[.agg (bK x A1 c1 A2 c2 A3 c3 A4 c4)] w fun e w'=>e=.returned (.bool (iX x))/\Below w.heap.size w w':=by
 have HF:=Hd fun w1 hw=>iE w x A1 c1 A2 c2 A3 c3 A4 c4 w1 hw h;have HE:=Hd (show iX x=(decide ((6:Int)<(x.ins.length:Int)) || decide ((6:Int)<(x.outs.length:Int)) || decide ((12:Int)<(x.vars.length:Int)) || decide ((18:Int)<(x.eqs.length:Int))) by
  unfold iX;congr 1
  . congr 1
    . congr 1;· exact decide_eq_decide.2 aA
      . exact decide_eq_decide.2 aA
    . exact decide_eq_decide.2 aA
  . exact decide_eq_decide.2 aA)
 clear h;unfold bK at HF⊢;generalize iX x=Au at *;generalize (x.ins.length:Nat)=n1 at *;generalize (x.outs.length:Nat)=n2 at *;generalize (x.vars.length:Nat)=n3 at *;generalize (x.eqs.length:Nat)=n4 at *;go_in
 go_upto_region 1 with(fail);generalize Ag:w.alloc _=w1;obtain⟨Aa,hg,Aq,hcell⟩:=HF.o w1 Ag;have Ac:=Hd Aa;obtain⟨-,q1,q2,q3,q4,-⟩:=Sx (hcell w1 (Yg _ _));simp only[Ya,Yb,Yc]at q1 q2 q3 q4;clear Ag hcell Aa HF Aq;cases e1:decide ((6:Int)<(n1:Int))with
 |true=>
  rw[e1]at HE;exact zR
 |false=>
  rw[e1]at HE;cases e2:decide ((6:Int)<(n2:Int))with
  |true=>
   rw[e2]at HE;exact zR
  |false=>
   rw[e2]at HE;cases e3:decide ((12:Int)<(n3:Int))with
   |true=>
    rw[e3]at HE;exact zR
   |false=>
    rw[e3]at HE;cases e4:decide ((18:Int)<(n4:Int))with
    |true=>
     exact aN8
    |false=>
     exact aN8
theorem aCq{α:Type}(a b:α->Bool):∀l:List α,(l.all fun d=>a d && b d)=(l.all a && l.all b)
 |[]=>rfl
 |x::l=>by
  simp only[List.all_cons,aCq a b l];cases a x<;>cases b x<;>cases l.all a<;>cases l.all b<;>rfl
theorem bAa(es:Nat)(n:Nd):(!gT es bQ bH n)=(!bE n.nm.data.toList || decide (n.outs.length=0) || (n.ins.any fun d=>!(eW es bQ d && eI d.on)) || (n.outs.any fun d=>!(eW es bQ d && eI d.on)) || (n.vars.any fun d=>!eW es bQ d) || (n.eqs.any fun q=>!hM bH q)):=by
 unfold gT jX Nd.all;rw[<-List.not_all_eq_any_not,<-List.not_all_eq_any_not,<-List.not_all_eq_any_not,<-List.not_all_eq_any_not,aCq,aCq,List.all_append,List.all_append,List.all_append];have h:decide (0<n.outs.length)=!decide (n.outs.length=0):=by
  rcases Nat.eq_zero_or_pos n.outs.length with h|h;· simp[h]
  . simp[h,Nat.pos_iff_ne_zero.1 h]
 rw[h];generalize n.ins.all (eW es bQ)=a1;generalize n.outs.all (eW es bQ)=a2;generalize n.vars.all (eW es bQ)=a3;generalize (n.ins.all fun d=>eI d.on)=a4;generalize (n.outs.all fun d=>eI d.on)=a5;generalize n.eqs.all (hM bH)=a6;generalize bE n.nm.data.toList=a7;generalize decide (n.outs.length=0)=a8;cases a1<;>cases a2<;>cases a3<;>cases a4<;>cases a5<;>cases a6<;>cases a7<;>cases a8<;>rfl
theorem aTg(w:World)(a b c:Value)(T U V:TypeId)(w3:World)(h:((w.alloc (.cells #[a] T)).alloc (.cells #[b] U)).alloc (.cells #[c] V)=w3):
 w3.cell? ⟨w.heap.size,0,none⟩=some a/\w3.cell? ⟨w.heap.size+1,0,none⟩=some b/\w3.cell? ⟨w.heap.size+1+1,0,none⟩=some c/\Below w.heap.size w w3:=by
 subst h;generalize h1:w.alloc (.cells #[a] T)=w1;have e1:w1.heap.size=w.heap.size+1:=by rw[<-h1];simp
 have c1:w1.cell? ⟨w.heap.size,0,none⟩=some a:=by rw[<-h1,Zp];rfl
 have b1:Below w.heap.size w w1:=by rw[<-h1];exact(Yg _ _).alloc (Yh _) _
 generalize h2:w1.alloc (.cells #[b] U)=w2;have e2:w2.heap.size=w1.heap.size+1:=by rw[<-h2];simp
 have c2:w2.cell? ⟨w1.heap.size,0,none⟩=some b:=by rw[<-h2,Zp];rfl
 have b2:Below w1.heap.size w1 w2:=by rw[<-h2];exact(Yg _ _).alloc (Yh _) _
 have b3:Below w2.heap.size w2 (w2.alloc (.cells #[c] V)):=(Yg _ _).alloc (Yh _) _;refine⟨?_,?_,?_,?_⟩;· rw[b3.cell (p:=⟨w.heap.size,0,none⟩) kS,b2.cell (p:=⟨w.heap.size,0,none⟩) kS,c1]
 . rw[b3.cell (p:=⟨w.heap.size+1,0,none⟩) (by show w.heap.size+1<_;omega),<-e1,c2]
 . rw[<-e1,<-e2,Zp];rfl
 . exact b1.trans ((b2.tr b3).mono b1.size)
def mS(w:World)(bp bv be:Nat)(E:Option Addr)(ne ec:Nat):Prop:=
 w.cell? ⟨be,0,none⟩=some (.slice E ne ec)/\w.cell? ⟨bv,0,none⟩=some (.func (.func 97) #[] #[.pointer (some ⟨be,0,none⟩)])/\
  w.cell? ⟨bp,0,none⟩=some (.func (.func 101) #[] #[.pointer (some ⟨bv,0,none⟩)])
theorem mS.below{w w':World}{bp bv be:Nat}{E:Option Addr}{ne ec:Nat}(h:mS w bp bv be E ne ec)(hb:Below w.heap.size w w'):mS w' bp bv be E ne ec:=
 ⟨(hb.cell (Yi _ _ h.1)).trans h.1,(hb.cell (Yi _ _ h.2.1)).trans h.2.1,(hb.cell (Yi _ _ h.2.2)).trans h.2.2⟩
theorem bAb(l:List Dc)(bp bv be:Nat)(E:Option Addr)(ne ec:Nat)(w:World)(hl:∀d∈l,nF d)(hn:ne<=9223372036854775807)(hb:mS w bp bv be E ne ec):
 vP 101 #[.pointer (some ⟨bv,0,none⟩)] (fun d=>!(eW ne bQ d && eI d.on)) l w:=
 fun d hd W hW=>bFz d bv be E ne ec W (hl d hd) hn (hb.below hW).1 (hb.below hW).2.1
theorem bDq(l:List Dc)(bp bv be:Nat)(E:Option Addr)(ne ec:Nat)(w:World)(hl:∀d∈l,nF d)(hn:ne<=9223372036854775807)(hb:mS w bp bv be E ne ec):
 vP 97 #[.pointer (some ⟨be,0,none⟩)] (fun d=>!eW ne bQ d) l w:=
 fun d hd W hW=>aO1 d be E ne ec W (hl d hd) hn (hb.below hW).1
theorem bGe(l:List Qn)(w:World)(hl:∀q∈l,wX q):zJ 104 #[] (fun q=>!hM bH q) l w:=
 fun q hq B c A ca D cb W _ hr=>aWu q B c A ca D cb W hr.1 hr.2 (hl q hq)
theorem bGf(x:Nd)(A1:Option Addr)(c1:Nat)(A2:Option Addr)(c2:Nat)(A3:Option Addr)(c3:Nat)(A4:Option Addr)(c4:Nat)(bp bv be:Nat)(E:Option Addr)(ne ec:Nat)(w:World)
 (h:cF w x A1 A2 A3 A4)(ho:OkN x)(hn:ne<=9223372036854775807)(Cp:mS w bp bv be E ne ec):
 Calls Tryz.prog 102 #[.agg (bK x A1 c1 A2 c2 A3 c3 A4 c4),.pointer (some ⟨bp,0,none⟩),.pointer (some ⟨bv,0,none⟩)] w fun e w'=>e=.returned (.bool (!gT ne bQ bH x))/\Below w.heap.size w w':=by
 have HF:=Hd fun w1 hw=>iE w x A1 c1 A2 c2 A3 c3 A4 c4 w1 hw h;have HE:=Hd (bAa ne x);have Nt:=Hd fun w1=>jJ x.nm w1 (by have:=ho.1;unfold maxLen at this;omega);have HP:=Hd fun(l:List Dc) w1 (hl:∀ d∈l,nF d) (hb:mS w1 bp bv be E ne ec)=>bAb l bp bv be E ne ec w1 hl hn hb;have HV:=Hd fun(l:List Dc) w1 (hl:∀ d∈l,nF d) (hb:mS w1 bp bv be E ne ec)=>bDq l bp bv be E ne ec w1 hl hn hb;have Bx:=Hd fun w1 (a:bZ w1 A1 x.ins.length x.ins) b=>aC9 101 #[.pointer (some ⟨bv,0,none⟩)] (fun _ _=>rfl) _ A1 x.ins.length c1 x.ins w1 a (HP.o x.ins w1 (fun d hd=>ho.2.1 d aD3) b);have Jx:=Hd fun w1 (a:bZ w1 A2 x.outs.length x.outs) b=>aC9 101 #[.pointer (some ⟨bv,0,none⟩)] (fun _ _=>rfl) _ A2 x.outs.length c2 x.outs w1 a (HP.o x.outs w1 (fun d hd=>ho.2.1 d aD3) b);have Gj:=Hd fun w1 (a:bZ w1 A3 x.vars.length x.vars) b=>aC9 97 #[.pointer (some ⟨be,0,none⟩)] (fun _ _=>rfl) _ A3 x.vars.length c3 x.vars w1 a (HV.o x.vars w1 (fun d hd=>ho.2.1 d aD3) b);have Jc:=Hd fun w1 (a:gN w1 A4 x.eqs.length x.eqs)=>bC0 104 #[] (fun _ _=>rfl) _ A4 x.eqs.length c4 x.eqs w1 a (bGe x.eqs w1 ho.2.2);have Bt:=Hd Cp;clear HP HV ho Cp h;unfold bK;generalize (!gT ne bQ bH x)=Au at *;generalize (x.ins.any fun d=>!(eW ne bQ d && eI d.on))=s1 at *;generalize (x.outs.any fun d=>!(eW ne bQ d && eI d.on))=s2 at *;generalize (x.vars.any fun d=>!eW ne bQ d)=s3 at *;generalize (x.eqs.any fun q=>!hM bH q)=s4 at *;generalize bE x.nm.data.toList=lb at *;have Nu:=Hd (show decide (x.outs.length=0)=((x.outs.length:Int)==0) by
  rcases Nat.eq_zero_or_pos x.outs.length with h|h;· simp[h]
  . rw[Zz aA];symm;rw[Xb];omega)
 rw[Nu.o]at HE;clear Nu;go_in
 go_upto_region 1 with(fail);generalize Ag:w.alloc _=w1;obtain⟨Aa,hg,Nv,hcell⟩:=HF.o w1 Ag;have Ac:=Hd Aa;have HX:=Hd hcell;have Bp:=Hd Nv;have Aq:=Hd (Bt.o.below Aa);simp only[bK]at HX;clear Ag hcell Aa HF Nv Bt;have p0:=HX.o w1 (Yg _ _) 0;simp only[Ya,Yb,Yc]at p0;cases lb with
 |false=>
  go_wp2_with fail;refine(Nt.o w1).mono ?_;rintro e w2 ⟨rfl,hb⟩;have Aj:=Hd (Ac.o.tr hb);clear hb p0;exact zQ
 |true=>
  go_wp2_with fail;refine(Nt.o w1).mono ?_;rintro e w2 ⟨rfl,hb⟩;have Dh:=Hd hb;have Aj:=Hd (Ac.o.tr hb);have p1:=HX.o w2 hb 1;have p2:=HX.o w2 hb 2;have pb:=(Aq.o.below hb).2.2;simp only[Ya,Yb,Yc]at p1 p2;clear hb p0;cases e0:((x.outs.length:Int)==0)with
  |true=>
   rw[e0]at HE;exact zQ
  |false=>
   rw[e0]at HE;cases s1 with
   |true=>
    go_wp2_with fail;refine(Bx.o w2 (bZ.below Bp.o.1 Dh.o) (Aq.o.below Dh.o)).mono ?_;rintro e w3 ⟨rfl,hb⟩;have Eo:=Hd (Dh.o.tr hb);have Ax:=Hd (Ac.o.tr Eo.o);clear hb p1 pb p2;exact pD
   |false=>
    go_wp2_with fail;refine(Bx.o w2 (bZ.below Bp.o.1 Dh.o) (Aq.o.below Dh.o)).mono ?_;rintro e w3 ⟨rfl,hb⟩;have Eo:=Hd (Dh.o.tr hb);clear hb p1 pb p2;have p2:=HX.o w3 Eo.o 2;simp only[Ya,Yb,Yc]at p2;have pb:=(Aq.o.below Eo.o).2.2;cases s2 with
    |true=>
     go_wp2_with fail;refine(Jx.o w3 (bZ.below Bp.o.2.1 Eo.o) (Aq.o.below Eo.o)).mono ?_;rintro e w4 ⟨rfl,hb⟩;have Ev:=Hd (Eo.o.tr hb);have Be:=Hd (Ac.o.tr Ev.o);clear hb p2 pb;go_wp2_with fail;go_ret;exact⟨aL jZ,Be.o⟩
    |false=>
     go_wp2_with fail;refine(Jx.o w3 (bZ.below Bp.o.2.1 Eo.o) (Aq.o.below Eo.o)).mono ?_;rintro e w4 ⟨rfl,hb⟩;have Ev:=Hd (Eo.o.tr hb);clear hb p2 pb;have p3:=HX.o w4 Ev.o 3;simp only[Ya,Yb,Yc]at p3;have pb:=(Aq.o.below Ev.o).2.1;cases s3 with
     |true=>
      go_wp2_with fail;refine(Gj.o w4 (bZ.below Bp.o.2.2.1 Ev.o) (Aq.o.below Ev.o)).mono ?_;rintro e w5 ⟨rfl,hb⟩;have Hq:=Hd (Ev.o.tr hb);have Ck:=Hd (Ac.o.tr Hq.o);clear hb p3 pb;go_wp2_with fail;go_ret;exact⟨aL jZ,Ck.o⟩
     |false=>
      go_wp2_with fail;refine(Gj.o w4 (bZ.below Bp.o.2.2.1 Ev.o) (Aq.o.below Ev.o)).mono ?_;rintro e w5 ⟨rfl,hb⟩;have Hq:=Hd (Ev.o.tr hb);clear hb p3 pb;have p4:=HX.o w5 Hq.o 4;simp only[Ya,Yb,Yc]at p4;go_wp2_with fail;refine(Jc.o w5 (gN.below Bp.o.2.2.2 Hq.o)).mono ?_;rintro e w6 ⟨rfl,hb⟩;have Nw:=Hd (Hq.o.tr hb);have Du:=Hd (Ac.o.tr Nw.o);clear hb p4;go_wp2_with fail;go_ret;exact⟨aL jZ,Du.o⟩
theorem aTh(E:Option Addr)(ne ec:Nat)(w:World):
 Calls Tryz.prog 68 #[.slice E ne ec] w fun e w'=>∃bp bv be,e=.returned (.func (.func 102) #[] #[.pointer (some ⟨bp,0,none⟩),.pointer (some ⟨bv,0,none⟩)])/\mS w' bp bv be E ne ec/\Below w.heap.size w w':=by
 have Aq:∀fn first cap w,(Instr.makeFunc fn first cap).run Tryz.prog w=.ok (.func fn first cap) w:=fun _ _ _ _=>rfl
 go_in
 go_wp2_with fail;go_ret;obtain⟨h1,h2,h3,h4⟩:=aTg w _ _ _ _ _ _ _ rfl;exact⟨w.heap.size+1+1,w.heap.size+1,w.heap.size,rfl,⟨h1,h2,h3⟩,h4⟩
def nW(x:Nd)(k:Nat):List Dc:=match k with|0=>[]|1=>x.ins|2=>x.ins++x.outs|_=>x.all
theorem aHh(x:Nd){k:Nat}(h:k<3):nW x (k+1)=nW x k++kP x k:=by
 match k,h with
 |0,_=>rfl
 |1,_=>rfl
 |2,_=>rfl
theorem aJm(x:Nd){k:Nat}(h:k<=3):(nW x k).length<=x.all.length:=by
 match k,h with
 |0,_=>exact Yq _
 |1,_=>simp[nW,Nd.all]
 |2,_=>simp[nW,Nd.all]
 |3,_=>exact Yh _
theorem aIj(x:Nd)(A1:Option Addr)(c1:Nat)(A2:Option Addr)(c2:Nat)(A3:Option Addr)(c3:Nat)(A4:Option Addr)(b:Nat)(w:World)(h:cF w x A1 A2 A3 A4)
 (hc:∀j,w.cell? ⟨b,j,none⟩=(vO x A1 c1 A2 c2 A3 c3)[j]?)(hb:b<w.heap.size)(hn:x.all.length<=1000):
 Calls Tryz.prog 72 #[.slice (some ⟨b,0,none⟩) 3 3] w (uT w x.all.length x.all):=by
 obtain⟨i0,z0,hi,Ny,Nv,Cu,Ob⟩:=kG uY;have Nu:=Hd fun(w:World)(h:cF w x A1 A2 A3 A4)(k:Nat) hk=>aJc (c1:=c1) (c2:=c2) (c3:=c3) h (k:=k) hk;have HC:=Hd hc;have HR:=Hd h;have HB:=Hd hb;have It:=Hd fun(k:Nat) hk=>aHh x (k:=k) hk;have Nx:=Hd fun(k:Nat) hk=>(show(nW x k).length<=1000 from Yp (aJm x (k:=k) hk) hn);have Bp:=Hd (show nW x 3=x.all from rfl);have Bx:=Hd (show nW x 0=[]from rfl);have Nw:=Hd fun w1=>bCx x.all.length w1 aA;have Nt:=Hd fun(k:Nat) hk=>(show(nW x k).length+(kP x k).length<=1000 by rw[<-Yn,<-aHh x hk];exact Yp (aJm x (k:=k+1) aA) hn);clear h hc hb hn;generalize nW x=Aq at *;generalize x.all=Jl at *;go_in
 go_wp2_with fail;go_loopw [3,11] (fun s i wr=>∃k:Nat,k<=3/\i=.int .i64 k/\s=.int .i64 (Aq k).length/\wr=w) (fun _ i _=>3-(intOf i).toNat)
 case atStart=>exact⟨0,by omega,rfl,by rw[Bx.o];rfl,rfl⟩
 case round=>
  obtain⟨k,hk,rfl,rfl,rfl⟩:=hrel;by_cases Ah:k<3
  . obtain⟨A,c,Jx,-⟩:=Nu.o wr HR.o k Ah;have e0:=HC.o k;rw[Jx]at e0;have Oa:=Nt.o k Ah;have HS:=Hd (show(Aq (k+1)).length=(Aq k).length+(kP x k).length by rw[It.o k Ah,Yn]);clear Jx;generalize hn1:(Aq k).length=n1 at *;generalize Nz:(kP x k).length=m1 at *;have d0:decide (((n1:Int)+(m1:Int))<0)=false:=Zz aA;clear hn1 Nz;go_wp2_with fail;go_roundw;case rel=>exact⟨k+1,by omega,by go_num,by rw[HS.o];go_num,gW⟩
    case measure=>simp[intOf];omega
  . obtain rfl:k=3:=by omega
    rw[Bp.o];go_wp2_with fail;refine(Nw.o wr).mono ?_;rintro e w2 ⟨v,rfl,Bq,Ad⟩;have Fy:=Hd Bq;have Aj:=Hd Ad;clear Bq Ad;go_wp2_with fail;generalize wr=w at *;go_loopw [6,27] (fun v i wr=>∃k:Nat,k<=3/\i=.int .i64 k/\wr.ownsRow w.heap.size 43 6 v (Aq k).length (dV (Aq k))/\Below w.heap.size w wr) (fun _ i _=>3-(intOf i).toNat)
    case atStart=>exact⟨0,by omega,rfl,by rw[Bx.o];exact Fy.o,Aj.o⟩
    case round=>
     obtain⟨k,hk,rfl,Bq,Ba⟩:=hrel;have HO:=Hd Bq;have Cf:=Hd Ba;clear Bq;by_cases Ah:k<3
     . obtain⟨A,c,Jx,Ap⟩:=Nu.o wr (HR.o.below Ba) k Ah;have e0:=(Ba.cell (p:=⟨b,k,none⟩) HB.o).trans (HC.o k);rw[Jx]at e0;have Ed:=Hd Ap;have Oa:=Nt.o k Ah;have HS:=Hd (It.o k Ah);clear Jx Ap Ba;go_wp2_with (at_builtin;refine aBa rfl _ _ 32 rfl w.heap.size 43 i0 z0 72 Tryz.underlying32 hi Ny Nv Cu Ob _ (Aq k).length (Aq k) rfl HO.o A (kP x k).length c (kP x k) rfl Ed.o dP aA Cf.o.size ?_;intro v' w5 Bb Ar;have Jj:=Cf.o.grown Ar Cf.o.size (fun j hj=>(HO.o.lt j hj).1);have Jb:=Hd Bb;have Ck:=Hd Jj;clear Bb Ar Jj);go_roundw;case rel=>exact⟨k+1,by omega,by go_num,by rw[HS.o,Yn];exact Jb.o,Ck.o⟩
       case measure=>simp[intOf];omega
     . obtain rfl:k=3:=by omega
       rw[Bp.o]at HO;have hO:=HO.o;obtain⟨A,c,rfl,Ap⟩:=bZ.of_own hO (by have:=Nx.o 3 aA;rw[Bp.o]at this;omega);have Ed:=Hd Ap;clear hO Ap;go_wp2_with fail;go_ret;exact⟨A,c,rfl,Ed.o,Cf.o⟩
theorem aUq(x:Nd)(A1:Option Addr)(c1:Nat)(A2:Option Addr)(c2:Nat)(A3:Option Addr)(c3:Nat)(A4:Option Addr)(c4:Nat)(w:World)(h:cF w x A1 A2 A3 A4):
 Calls Tryz.prog 70 #[.agg (bK x A1 c1 A2 c2 A3 c3 A4 c4)] w fun e w'=>e=.returned (.string x.nm)/\Below w.heap.size w w':=by
 have HF:=Hd fun w1 hw=>iE w x A1 c1 A2 c2 A3 c3 A4 c4 w1 hw h;clear h;unfold bK at HF⊢;go_in
 go_upto_region 1 with(fail);generalize Ag:w.alloc _=w1;obtain⟨Aa,hg,Aq,hcell⟩:=HF.o w1 Ag;have Ac:=Hd Aa;have q0:=hcell w1 (Yg _ _) 0;simp only[Ya,Yb,Yc]at q0;clear Ag hcell Aa HF Aq;go_wp2_with fail;go_ret;exact⟨rfl,Ac.o⟩
theorem aUr(d:Dc)(w:World):
 Calls Tryz.prog 107 #[.agg (aU d)] w fun e w'=>e=.returned (.string d.nm)/\Below w.heap.size w w':=by
 have HF:=Hd fun w1 hw=>mG w d w1 hw;unfold aU at HF⊢;go_in
 go_upto_region 1 with(fail);generalize Ag:w.alloc _=w1;obtain⟨Aa,hg,hcell⟩:=HF.o w1 Ag;have Ac:=Hd Aa;have q0:=hcell w1 (Yg _ _) 0;simp only[Ya,Yb,Yc]at q0;clear Ag hcell Aa HF;go_wp2_with fail;go_ret;exact⟨rfl,Ac.o⟩
theorem bDr(A:Option Addr)(n c:Nat)(l:List Dc)(w:World)(h:bZ w A n l)(hn:n<=100)(hz:∀s∈bM l,s.size<=maxLen):
 Calls Tryz.prog 106 #[.slice A n c,.func (.func 107) #[] #[]] w fun e w'=>e=.returned (.bool (cH (bM l)))/\Below w.heap.size w w':=by
 have HR:=Hd h;have Da:=aI.len h;obtain⟨i0,hi,Li,Lh,Lb⟩:=info_parts qT;have It:=Hd fun(k:Nat) hk=>aG7 (l:=l) (k:=k) hk;have Cc:=Hd fun B cc w1 (a:aP w1 B n (bM l))=>tI B n cc (bM l) w1 a hz hn;have Gh:=Hd (show(bM l).take n=bM l from Yx (by rw[aId,Da];exact Yh _));have Bt:=Hd (fun w d w1 h=>mG w d w1 h);have Iq:=Hd aUr;have Fa:=Hd Da;clear h hz Da;unfold aU at Bt Iq;generalize bM l=ss at *;generalize cH ss=Au at *;go_in
 go_wp2_with fail;go_loopw [5,10] (fun v i wr=>∃k:Nat,k<=n/\i=.int .i64 k/\wr.ownsRow w.heap.size 9 1 v k ((ss.take k).map Value.string)/\Below w.heap.size w wr) (fun _ i _=>n-(intOf i).toNat)
 case atStart=>exact⟨0,Yq _,rfl,⟨rfl,.inl ⟨rfl,rfl⟩⟩,Yg _ _⟩
 case round=>
  obtain⟨k,hk,rfl,Bq,Ba⟩:=hrel;have Cf:=Hd Ba;have Fy:=Hd Bq;clear Bq;by_cases Ah:k<n
  . obtain⟨b,off,rfl,hb,d0,d1,d2,d3,d4,d5⟩:=wB (HR.o.below Ba) Ah;have Gn:=Hd (It.o k mC)
    skip
    clear Ba;generalize l[k]?.getD default=p at *;have Gi:=Hd fun w3 h=>Bt.o wr p  w3 h;go_upto_region 5 with(fail);generalize Cr:wr.alloc _=w3;obtain⟨Ak,Bx,Aq⟩:=Gi.o w3 Cr;have Ax:=Hd (Cf.o.tr Ak);have Bp:=Hd (sS Fy.o Ak);obtain⟨e0,e1,e2,e3,e4,e5⟩:=Sx (Aq w3 (Yg _ _));simp only[Ya,Yb,Yc]at e0 e1 e2 e3 e4 e5;have Bz:=Hd (Iq.o p  w3);clear Aq Ak Cr Gi d0 d1 d2 d3 d4 d5;go_wp2_with fail;refine Bz.o.mono ?_;rintro e w4 ⟨rfl,Bk⟩;have Be:=Hd (Ax.o.tr Bk);have Gk:=Hd (sS Bp.o Bk);clear Bk e0 e1 e2 e3 e4 e5;exact aQf
  . exact aRk
theorem bDs(A:Option Addr)(n c:Nat)(l:List Nd)(w:World)(h:eX w A n l)(hn:n<=100)(hz:∀s∈l.map Nd.nm,s.size<=maxLen):
 Calls Tryz.prog 69 #[.slice A n c,.func (.func 70) #[] #[]] w fun e w'=>e=.returned (.bool (cH (l.map Nd.nm)))/\Below w.heap.size w w':=by
 have HR:=Hd h;have Da:=aI.len h;obtain⟨i0,hi,Li,Lh,Lb⟩:=info_parts qT;have It:=Hd fun(k:Nat) hk=>aCk (l:=l) (k:=k) hk;have Cc:=Hd fun B cc w1 (a:aP w1 B n (l.map Nd.nm))=>tI B n cc (l.map Nd.nm) w1 a hz hn;have Gh:=Hd (show(l.map Nd.nm).take n=l.map Nd.nm from Yx (by rw[List.length_map,Da];exact Yh _));have Bt:=Hd iE;have Iq:=Hd aUq;have Fa:=Hd Da;clear h hz Da;unfold bK at Bt Iq;generalize l.map Nd.nm=ss at *;generalize cH ss=Au at *;go_in
 go_wp2_with fail;go_loopw [5,10] (fun v i wr=>∃k:Nat,k<=n/\i=.int .i64 k/\wr.ownsRow w.heap.size 9 1 v k ((ss.take k).map Value.string)/\Below w.heap.size w wr) (fun _ i _=>n-(intOf i).toNat)
 case atStart=>exact⟨0,Yq _,rfl,⟨rfl,.inl ⟨rfl,rfl⟩⟩,Yg _ _⟩
 case round=>
  obtain⟨k,hk,rfl,Bq,Ba⟩:=hrel;have Cf:=Hd Ba;have Fy:=Hd Bq;clear Bq;by_cases Ah:k<n
  . obtain⟨b,off,A1,c1,A2,c2,A3,c3,A4,c4,rfl,hb,Ap,d0,d1,d2,d3,d4⟩:=aEv (HR.o.below Ba) Ah;have Gn:=Hd (It.o k mC);have Bp:=Hd Ap;clear Ba Ap;generalize l[k]?.getD default=p at *;have Gi:=Hd fun w3 h=>Bt.o wr p A1 c1 A2 c2 A3 c3 A4 c4 w3 h Bp.o;go_upto_region 5 with(fail);generalize Cr:wr.alloc _=w3;obtain⟨Ak,Nt,Jx,Aq⟩:=Gi.o w3 Cr;have Ax:=Hd (Cf.o.tr Ak);have Bx:=Hd (sS Fy.o Ak);obtain⟨e0,e1,e2,e3,e4,-⟩:=Sx (Aq w3 (Yg _ _));simp only[Ya,Yb,Yc]at e0 e1 e2 e3 e4;have Bz:=Hd (Iq.o p A1 c1 A2 c2 A3 c3 A4 c4 w3 Jx);clear Aq Ak Cr Gi d0 d1 d2 d3 d4 Jx;go_wp2_with fail;refine Bz.o.mono ?_;rintro e w4 ⟨rfl,Bk⟩;have Be:=Hd (Ax.o.tr Bk);have Gk:=Hd (sS Bx.o Bk);clear Bk e0 e1 e2 e3 e4;exact aQf
  . exact aRk
theorem aWw(x:Nd)(A1:Option Addr)(c1:Nat)(A2:Option Addr)(c2:Nat)(A3:Option Addr)(c3:Nat)(A4:Option Addr)(c4:Nat)(w:World)(h:cF w x A1 A2 A3 A4)(hn:x.all.length<=100)(hz:∀d∈x.all,d.nm.size<=maxLen):
 Calls Tryz.prog 71 #[.agg (bK x A1 c1 A2 c2 A3 c3 A4 c4)] w fun e w'=>e=.returned (.bool (!cH (bM x.all)))/\Below w.heap.size w w':=by
 have HF:=Hd fun w1 hw=>iE w x A1 c1 A2 c2 A3 c3 A4 c4 w1 hw h;have Bp:=Hd fun b w1 (a:cF w1 x A1 A2 A3 A4) hc hb=>aIj x A1 c1 A2 c2 A3 c3 A4 b w1 a hc hb aA
 have Cc:=Hd fun A c w1 (a:bZ w1 A x.all.length x.all)=>bDr A x.all.length c x.all w1 a hn (fun s hs=>by
  obtain⟨d,hd,rfl⟩:=List.mem_map.1 hs;exact hz d hd)
 clear h hn hz;unfold bK at HF⊢;unfold vO at Bp;generalize x.all=Jl at *;generalize cH (bM Jl)=Au at *;go_in
 go_upto_region 1 with(fail);generalize Ag:w.alloc _=w1;obtain⟨Aa,hg,Bx,hcell⟩:=HF.o w1 Ag;have Ac:=Hd Aa;obtain⟨-,q1,q2,q3,-,-⟩:=Sx (hcell w1 (Yg _ _));simp only[Ya,Yb,Yc]at q1 q2 q3;have Ad:=(Yg w1.heap.size w1).alloc (Yh _) (.cells #[.slice A1 x.ins.length c1,.slice A2 x.outs.length c2,.slice A3 x.vars.length c3] 32);have Aj:=Hd (Ac.o.tr Ad);have Aq:=Hd (Bp.o w1.heap.size _ (Bx.below Ad) (fun j=>by rw[Zp]) aG);rw[hg]at Aq;clear Ag hcell Aa Ad HF Bx;go_wp2_with fail;refine Aq.o.mono ?_;rintro e w3 ⟨A,c,rfl,Ap,Ak⟩;have Ax:=Hd (Aj.o.tr Ak);have HO:=Hd (Cc.o A c w3 Ap);clear Ap Ak;go_wp2_with fail;refine HO.o.mono ?_;rintro e w4 ⟨rfl,Bk⟩;have Be:=Hd (Ax.o.tr Bk);clear Bk;go_wp2_with fail;go_ret;exact⟨rfl,Be.o⟩
theorem aDs(g:Nat)(lb:Array Value)(eg:∀args w,(callFunc g args).run Tryz.prog w=.ok (.enter g args) w)(f:Nd->Bool)(b:Nat)(N:Option Addr)(nc:Nat)(ns:List Nd)(w:World)
 (hc:w.cell? ⟨b,1,none⟩=some (.slice N ns.length nc))(hr:eX w N ns.length ns)(hp:rS g lb f ns w):
 Calls Tryz.prog 64 #[.func (.func g) #[] lb,.pointer (some ⟨b,0,none⟩)] w fun e w'=>e=.returned (.bool (ns.any f))/\Below w.heap.size w w':=by
 have HC:=Hd (bCz g lb eg f N ns.length nc ns w hr hp);clear hr hp;generalize ns.any f=Au at *;go_in
 go_wp2_with fail;refine HC.o.mono ?_;rintro e w2 ⟨rfl,Ad⟩;have Aj:=Hd Ad;clear Ad;go_wp2_with fail;go_ret;exact⟨rfl,Aj.o⟩
theorem yD{p:Pg}(ht:gU p){x:Nd}(hx:x∈p.ns):kB x:=by
 obtain⟨j,hj,rfl⟩:=Zj hx
 have:=ht.2.2 j hj
 exact vT
theorem aWx(p:Pg):eJ p=if dB p.es=0 then(if p.ns.length=0 then 5 else if 6<p.ns.length then 4 else if p.ns.any iX then 4 else if(p.ns.any fun x=>!gT p.es.length bQ bH x)then 1 else if !cH (p.ns.map Nd.nm)then 6 else if(p.ns.any fun x=>!cH (bM x.all))then 6 else 0)else dB p.es:=by
 unfold eJ qC vZ;rw[<-List.not_all_eq_any_not,<-List.not_all_eq_any_not];generalize p.ns.all (gT p.es.length bQ bH)=a;generalize (p.ns.all fun n=>cH (bM n.all))=b;generalize cH (p.ns.map Nd.nm)=c;cases a<;>cases b<;>cases c<;>rfl
theorem bDt(p:Pg)(E:Option Addr)(ec:Nat)(N:Option Addr)(nc:Nat)(w:World)(h:cJ w p E N)(ht:gU p):
 Calls Tryz.prog 42 #[.agg (aK p E ec N nc)] w fun e w'=>e=.returned (.int .i64 (eJ p))/\Below w.heap.size w w':=by
 have HF:=Hd fun w1 hw=>kW w p E ec N nc w1 hw h;have Ob:∀fn first cap w,(Instr.makeFunc fn first cap).run Tryz.prog w=.ok (.func fn first cap) w:=fun _ _ _ _=>rfl
 have Nw:=Hd fun w1 a=>bCr E p.es.length ec p.es w1 a ht.1.ok ht.1.few;have Oe:=aI.max h.2;have Of:=ht.1.1;have Gf:=ht.2.1;have HE:=Hd (aWx p);have HM:=Hd fun w1=>aTh E p.es.length ec w1;have Fp:=Hd fun w1=>(show rS 67 #[] iX p.ns w1 from fun x hx A1 c1 A2 c2 A3 c3 A4 c4 W _ hr=>aWv x A1 c1 A2 c2 A3 c3 A4 c4 W hr)
 have Il:=Hd fun bp bv be w1 (hb:mS w1 bp bv be E p.es.length ec)=>(show rS 102 #[.pointer (some ⟨bp,0,none⟩),.pointer (some ⟨bv,0,none⟩)] (fun x=>!gT p.es.length bQ bH x) p.ns w1 from
  fun x hx A1 c1 A2 c2 A3 c3 A4 c4 W hW hr=>bGf x A1 c1 A2 c2 A3 c3 A4 c4 bp bv be E p.es.length ec W hr (yD ht hx).ok aA (hb.below hW))
 have Nt:=Hd fun w1=>(show rS 71 #[] (fun x=>!cH (bM x.all)) p.ns w1 from
  fun x hx A1 c1 A2 c2 A3 c3 A4 c4 W _ hr=>aWw x A1 c1 A2 c2 A3 c3 A4 c4 W hr (by have:=(yD ht hx).len;omega) (fun d hd=>((yD ht hx).ok.2.1 d hd).1))
 have Cc:=Hd fun w1 (a:eX w1 N p.ns.length p.ns)=>bDs N p.ns.length nc p.ns w1 a aA (fun s hs=>by
  obtain⟨x,hx,rfl⟩:=List.mem_map.1 hs;exact(yD ht hx).ok.1)
 have Nx:=Hd fun b w1 hc a=>aDs 67 #[] (fun _ _=>rfl) iX b N nc p.ns w1 hc a (Fp.o w1);have Fu:=Hd fun b bp bv be w1 hc a (hb:mS w1 bp bv be E p.es.length ec)=>aDs 102 #[.pointer (some ⟨bp,0,none⟩),.pointer (some ⟨bv,0,none⟩)] (fun _ _=>rfl) (fun x=>!gT p.es.length bQ bH x) b N nc p.ns w1 hc a (Il.o bp bv be w1 hb);have Ny:=Hd fun b w1 hc a=>aDs 71 #[] (fun _ _=>rfl) (fun x=>!cH (bM x.all)) b N nc p.ns w1 hc a (Nt.o w1);clear Fp Il Nt ht;unfold aK;generalize eJ p=Au at *;generalize p.ns.any iX=b1 at *;generalize (p.ns.any fun x=>!gT p.es.length bQ bH x)=b2 at *;generalize (p.ns.any fun x=>!cH (bM x.all))=b3 at *;generalize cH (p.ns.map Nd.nm)=o1 at *;go_in
 go_upto_region 1 with(fail);generalize Ag:w.alloc _=w1;obtain⟨Aa,hg,Bx,hcell⟩:=HF.o w1 Ag;have Ac:=Hd Aa;have HC:=Hd hcell;have Nz:=Hd (Nw.o w1 Bx.1);have Eg:=Hd (show eX w1 N p.ns.length p.ns from Bx.2);simp only[aK]at HC;have q0:=HC.o w1 (Yg _ _) 0;simp only[Ya,Yb,Yc]at q0;clear Ag hcell Aa HF h Bx Nw;generalize dB p.es=en at *;generalize p.es.length=ne at *;generalize Oa:p.ns.length=n at *;clear Oa;go_wp2_with fail;refine Nz.o.mono ?_;rintro e w2 ⟨rfl,Ad⟩;have Dh:=Hd Ad;have Aj:=Hd (Ac.o.tr Ad);have p0:=HC.o w2 Ad 0;have p1:=HC.o w2 Ad 1;simp only[Ya,Yb,Yc]at p0 p1;clear Ad q0;by_cases Aq:en=0
 . subst Aq;rw[if_pos rfl]at HE;rcases Nat.eq_zero_or_pos n with Ga|Ga;· exact aN3
   . rw[if_neg aA]at HE;have Oc:((n:Int)==0)=false:=mV;by_cases Bp:6<n
     . rw[if_pos Bp]at HE;have d6:decide ((6:Int)<(n:Int))=true:=Zy aA;exact zV
     . rw[if_neg Bp]at HE;have d6:decide ((6:Int)<(n:Int))=false:=Zz aA;have Jx:=Hd (Nx.o w.heap.size w2 p1 (eX.below Eg.o Dh.o));clear Bp Ga;cases b1 with
       |true=>
        rw[if_pos rfl]at HE;go_wp2_with fail;refine Jx.o.mono ?_;rintro e w3 ⟨rfl,Ak⟩;have Ax:=Hd (Aj.o.tr Ak);clear Ak p0 p1;go_wp2_with fail;go_ret;exact⟨eL HE.o.symm,Ax.o⟩
       |false=>
        rw[if_neg aG]at HE;go_wp2_with fail;refine Jx.o.mono ?_;rintro e w3 ⟨rfl,Ak⟩;have Eo:=Hd (Dh.o.tr Ak);have Ax:=Hd (Aj.o.tr Ak);clear Ak p0 p1;have p0:=HC.o w3 Eo.o 0;simp only[Ya,Yb,Yc]at p0;go_wp2_with fail;refine(HM.o w3).mono ?_;rintro e w4 ⟨bp,bv,be,rfl,Cp,Bk⟩;have Ev:=Hd (Eo.o.tr Bk);have Be:=Hd (Ax.o.tr Bk);clear Bk p0;have p1:=HC.o w4 Ev.o 1;simp only[Ya,Yb,Yc]at p1;have Nu:=Hd (Fu.o w.heap.size bp bv be w4 p1 (eX.below Eg.o Ev.o) Cp);clear Cp p1;cases b2 with
        |true=>
         rw[if_pos rfl]at HE;go_wp2_with fail;refine Nu.o.mono ?_;rintro e w5 ⟨rfl,Bv⟩;have Ck:=Hd (Be.o.tr Bv);clear Bv;go_wp2_with fail;go_ret;exact⟨eL HE.o.symm,Ck.o⟩
        |false=>
         rw[if_neg aG]at HE;go_wp2_with fail;refine Nu.o.mono ?_;rintro e w5 ⟨rfl,Bv⟩;have Hq:=Hd (Ev.o.tr Bv);have Ck:=Hd (Be.o.tr Bv);clear Bv;have p1:=HC.o w5 Hq.o 1;simp only[Ya,Yb,Yc]at p1;have Jb:=Hd (Cc.o w5 (eX.below Eg.o Hq.o));cases o1 with
         |false=>
          rw[if_pos (show(!false)=true from rfl)]at HE;go_wp2_with fail;refine Jb.o.mono ?_;rintro e w6 ⟨rfl,Ci⟩;have Du:=Hd (Ck.o.tr Ci);clear Ci p1;go_wp2_with fail;go_ret;exact⟨eL HE.o.symm,Du.o⟩
         |true=>
          rw[if_neg aG]at HE;go_wp2_with fail;refine Jb.o.mono ?_;rintro e w6 ⟨rfl,Ci⟩;have Nv:=Hd (Hq.o.tr Ci);have Du:=Hd (Ck.o.tr Ci);clear Ci p1;have p1:=HC.o w6 Nv.o 1;simp only[Ya,Yb,Yc]at p1;have Gj:=Hd (Ny.o w.heap.size w6 p1 (eX.below Eg.o Nv.o));clear p1;cases b3 with
          |true=>
           rw[if_pos rfl]at HE;exact aMx
          |false=>
           rw[if_neg aG]at HE;exact aMx
 . rw[if_neg Aq]at HE;have Od:(en !=0)=true:=by rw[bne_iff_ne];exact Aq
   clear Aq;exact zV
def aDc(g:Nat)(x0:Value)(f:Dc->Bool)(l:List Dc)(w:World):Prop:=
 ∀x,x∈l->∀(W:World),Below w.heap.size w W->
  Calls Tryz.prog g #[x0,.agg (aU x)] W fun e w'=>e=.returned (.bool (f x))/\Below W.heap.size W w'
theorem aUs(g:Nat)(x0:Value)(eg:∀args w,(callFunc g args).run Tryz.prog w=.ok (.enter g args) w)(f:Dc->Bool)(A:Option Addr)(n c:Nat)(l:List Dc)(w:World)(h:bZ w A n l)(hf:aDc g x0 f l w):
 Calls Tryz.prog 30 #[.slice A n c,.func (.func g) #[x0] #[]] w fun e w'=>e=.returned (.int .i64 (bR f l 0))/\Below w.heap.size w w':=by
 have HR:=Hd h;have HP:=Hd hf;have Da:=aI.len h;have Aq:=aI.max h;have Cs:=Hd (fun(k:Nat) hk hn hy=>show bR f l 0=(k:Int)by have:=oJ (l:=l) (f:=f) (k:=k) (i:=0) hk hn hy;rwa[Nat.zero_add]at this);have Cj:=Hd (fun hn=>show bR f l 0=-1 from oH (l:=l) (f:=f) (i:=0) hn);generalize bR f l 0=Au at *;have Fa:=Hd Da;clear h hf Da;unfold aDc at HP;go_in
 go_wp2_with fail;go_loopw [5,8] (fun _ i wr=>∃k:Nat,k<=n/\i=.int .i64 k/\(∀j,j<k->f (l[j]?.getD default)=false)/\Below w.heap.size w wr) (fun _ i _=>n-(intOf i).toNat)
 case atStart=>exact⟨0,Yq _,rfl,fun j hj=>absurd hj aA,Yg _ _⟩
 case round=>
  exact aP8
theorem vA(g:Nat)(x0:Value)(eg:∀args w,(callFunc g args).run Tryz.prog w=.ok (.enter g args) w)(f:Dc->Bool)(A:Option Addr)(n c:Nat)(l:List Dc)(w:World)(h:bZ w A n l)(hf:aDc g x0 f l w):
 Calls Tryz.prog 16 #[.slice A n c,.func (.func g) #[x0] #[]] w fun e w'=>e=.returned (.bool (l.any f))/\Below w.heap.size w w':=by
 have HI:=Hd (aUs g x0 eg f A n c l w h hf);have HA:=Hd (sT f l);clear h hf;go_in
 go_wp2_with fail;refine HI.o.mono ?_;rintro e w2 ⟨rfl,Ad⟩;have Aj:=Hd Ad;clear Ad;cases ha:l.any f with
 |true=>
  exact tQ
 |false=>
  exact tP
def aDt(g:Nat)(x0:Value)(f:ByteArray->Bool)(l:List ByteArray)(w:World):Prop:=
 ∀x,x∈l->∀(W:World),Below w.heap.size w W->
  Calls Tryz.prog g #[x0,.string x] W fun e w'=>e=.returned (.bool (f x))/\Below W.heap.size W w'
theorem aWy(g:Nat)(x0:Value)(eg:∀args w,(callFunc g args).run Tryz.prog w=.ok (.enter g args) w)(f:ByteArray->Bool)(A:Option Addr)(n c:Nat)(l:List ByteArray)(w:World)(h:aP w A n l)(hf:aDt g x0 f l w):
 Calls Tryz.prog 167 #[.slice A n c,.func (.func g) #[x0] #[]] w fun e w'=>e=.returned (.int .i64 (bR f l 0))/\Below w.heap.size w w':=by
 have HR:=Hd h;have HP:=Hd hf;have Da:=aP.len h;have Aq:=aP.max h;have Cs:=Hd (fun(k:Nat) hk hn hy=>show bR f l 0=(k:Int)by have:=aBj (l:=l) (f:=f) (k:=k) (i:=0) hk hn hy;rwa[Nat.zero_add]at this);have Cj:=Hd (fun hn=>show bR f l 0=-1 from aBe (l:=l) (f:=f) (i:=0) hn);generalize bR f l 0=Au at *;have Fa:=Hd Da;clear h hf Da;unfold aDt at HP;go_in
 go_wp2_with fail;go_loopw [5,8] (fun _ i wr=>∃k:Nat,k<=n/\i=.int .i64 k/\(∀j,j<k->f (l[j]?.getD ByteArray.empty)=false)/\Below w.heap.size w wr) (fun _ i _=>n-(intOf i).toNat)
 case atStart=>exact⟨0,Yq _,rfl,fun j hj=>absurd hj aA,Yg _ _⟩
 case round=>
  exact aP7
theorem bDu(g:Nat)(x0:Value)(eg:∀args w,(callFunc g args).run Tryz.prog w=.ok (.enter g args) w)(f:ByteArray->Bool)(A:Option Addr)(n c:Nat)(l:List ByteArray)(w:World)(h:aP w A n l)(hf:aDt g x0 f l w):
 Calls Tryz.prog 137 #[.slice A n c,.func (.func g) #[x0] #[]] w fun e w'=>e=.returned (.bool (l.any f))/\Below w.heap.size w w':=by
 have HI:=Hd (aWy g x0 eg f A n c l w h hf);have HA:=Hd (sT f l);clear h hf;go_in
 go_wp2_with fail;refine HI.o.mono ?_;rintro e w2 ⟨rfl,Ad⟩;have Aj:=Hd Ad;clear Ad;cases ha:l.any f with
 |true=>
  exact tQ
 |false=>
  exact tP
end
theorem aUt{x y:Ex}(h:bH x=true)(hy:y∈bL x):bO y=true:=by
 unfold bH at h;simp only[Ys]at h;exact Zg.1 h.2 y hy
theorem aWz{x:Ex}{k:Nat}(hk:k<x.subs.length):∀z∈bL (aM x k),z∈bL x:=by
 intro z hz;rw[qW];refine Zf _ ?_;have Aq:∀(l:List Ex)(y:Ex),y∈l->z∈bL y->z∈eC l:=by
  intro l;induction l with
  |nil=>intro y hy;cases hy
  |cons a l ih=>
   intro y hy hz;simp only[eC,Zo];rcases Yu.1 hy with rfl|hy;· exact .inl hz
   . exact .inr (ih y hy hz)
 exact Aq _ _ (oL hk) hz
theorem bAc{x:Ex}(h:bO x=true):(eV x).1<=x.subs.length/\(x.subs.length:Int)<=(eV x).2/\(x.k=8->dQ (aM x 0)=true):=by
 unfold bO at h;simp only[Ys,decide_eq_true_eq]at h;refine⟨h.1.1.2,h.1.2,fun hk=>?_⟩;have h2:=h.2;rw[hk]at h2;simpa using h2
end Go.Proofs.YtkbpdoomhfkngaaGreat
