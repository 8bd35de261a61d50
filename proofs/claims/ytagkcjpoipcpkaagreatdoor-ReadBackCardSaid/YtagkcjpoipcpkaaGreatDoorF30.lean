/- A part of the proof. Conditions: each theorem's own. -/
import Derived.Test.YtagkcjpoipcpkaaGreatDoorF10
import Derived.Test.YtagkcjpoipcpkaaGreatDoorF23
import Derived.Test.YtagkcjpoipcpkaaGreatDoorF28
import Derived.Test.YtagkcjpoipcpkaaGreatDoorF29
namespace Go.Proofs.YtagkcjpoipcpkaaGreatDoor
set_option linter.unusedVariables false
set_option linter.unusedSimpArgs false
set_option maxRecDepth 100000
set_option maxHeartbeats 40000000
section
open Go.RowKit Go.Sort
theorem bUp(s:BA)(w:World)(hs:s.size<=9223372036854775807):
 Calls Tryz.prog 164 #[.string s] w fun e w'=>e=.returned (.bool (!aQ s.data.toList))/\Below w.heap.size w w':=by
 have HL:=Hd (kR s w hs);generalize aQ s.data.toList=b at *;go_in
 go_wp2_with fail;refine HL.o.mono ?_;rintro e w2 ⟨rfl,Ag⟩;have Ai:=Hd Ag;clear Ag;go_wp2_with fail;go_ret;exact⟨rfl,Ai.o⟩
theorem bQj(q:Qn)(A:OA)(c:Nat)(A':OA)(ca:Nat)(B':OA)(cb:Nat)(w:World)(hr:aS w A q.ns.length q.ns)(hx:aM w q.x A' B')(Ax:OkQ q):
 Calls Tryz.prog 111 #[.agg (pV q A c A' ca B' cb)] w fun e w'=>e=.returned (.bool (!jU bJ q))/\Below w.heap.size w w':=by
 have HF:=Hd fun w1 h=>aW1 w q A c A' ca B' cb w1 h hr hx;have Fs:=hr.max;have Ae:=Hd fun w1 (h:aM w1 q.x A' B')=>aY2 q.x A' ca B' cb w1 h Ax.2.1 Ax.2.2;have Eb:=Hd fun w1 (h:aS w1 A q.ns.length q.ns)=>bZ3 164 #[] (fun _ _=>rfl) (fun s=>!aQ s.data.toList) A q.ns.length c q.ns w1 h
  fun s hs W _=>bUp s W (by have:=Ax.1 s hs;unfold maxLen at this;omega)
 have HE:=Hd (show(!jU bJ q)=(decide (q.ns.length=0) || (q.ns.any fun s=>!aQ s.data.toList) || !bJ q.x || (!decide (q.ns.length<=1) && !(q.x.k==13))) by
  unfold jU;rw[<-List.not_all_eq_any_not];generalize (q.ns.all fun s=>aQ s.data.toList)=a;rcases Nat.lt_trichotomy q.ns.length 1 with h|h|h
  . have:q.ns.length=0:=by omega
    simp[this]
  . simp[h]
  . have h0:q.ns.length≠0:=by omega
    have h1:q.ns.length≠1:=aA;have h2:¬q.ns.length<=1:=aA;have h3:0<q.ns.length:=aA;simp[h0,h1,h2,h3])
 clear Ax hr hx;unfold aJ at Ae;unfold pV;generalize (!jU bJ q)=Ct at *;generalize bJ q.x=rb at *;generalize (q.ns.any fun s=>!aQ s.data.toList)=nb at *;go_in
 go_upto_region 1 with(fail);generalize Af:w.alloc _=w1;obtain⟨Ab,hg,Aq,Aa,hcell⟩:=HF.o w1 Af;have Ac:=Hd Ab;have HC:=Hd hcell;have Bs:=Hd Aa;have Gz:=Hd (Eb.o w1 Aq);simp only[pV]at HC;have q0:=HC.o w1 (Yg _ _) 0;simp only[Ya,Yb,Yc]at q0;clear Af hcell Ab HF Aq Aa Eb;generalize q.ns.length=n at *;generalize q.x.k=xk at *;generalize q.x.n=xn at *;generalize q.x.s=xs at *;generalize q.x.op=xo at *;generalize q.x.arms.length=xa at *;generalize q.x.subs.length=xb at *;by_cases h0:n=0
 . subst h0;have d0:(((0:Nat):Int)==0)=true:=rfl;exact aJu
 . have d0:((n:Int)==0)=false:=by rw[Xf];omega
   rw[show decide (n=0)=false by simp[h0]]at HE;clear h0;cases nb with
   |true=>
    go_wp2_with fail;refine Gz.o.mono ?_;exact bCg
   |false=>
    go_wp2_with fail;refine Gz.o.mono ?_;rintro e w2 ⟨rfl,Ag⟩;have Ai:=Hd (Ac.o.tr Ag);have Cj:=Hd Ag;have Cn:=Hd (Ae.o w2 (Bs.o.below Ag));obtain⟨-,p1,p2,p3,p4,p5⟩:=Sx (HC.o w2 Ag);have p6:=HC.o w2 Ag 6;simp only[Ya,Yb,Yc]at p1 p2 p3 p4 p5 p6;clear Ag q0;cases rb with
    |false=>
     go_wp2_with fail;refine Cn.o.mono ?_;rintro e w3 ⟨rfl,Ak⟩;have Aj:=Hd (Ai.o.tr Ak);clear Ak p1 p2 p3 p4 p5 p6;exact wM
    |true=>
     go_wp2_with fail;refine Cn.o.mono ?_;rintro e w3 ⟨rfl,Ak⟩;have Aj:=Hd (Ai.o.tr Ak);have Em:=Cj.o.tr Ak;have s0:=HC.o w3 Em 0;have s1:=HC.o w3 Em 1;simp only[Ya,Yb,Yc]at s0 s1;clear Ak p1 p2 p3 p4 p5 p6 Em;by_cases h1:n<=1
     . rw[show decide (n<=1)=true by simp[h1]]at HE;have d1:decide ((1:Int)<(n:Int))=false:=Xd aA;clear h1;exact wM
     . rw[show decide (n<=1)=false by simp[h1]]at HE;have d1:decide ((1:Int)<(n:Int))=true:=Xc aA;clear h1;cases hk:(xk==13)with
       |true=>
        rw[hk]at HE;have Cb:(xk !=13)=false:=by rw[bne,hk];rfl
        exact wM
       |false=>
        rw[hk]at HE;have Cb:(xk !=13)=true:=by rw[bne,hk];rfl
        exact wM
theorem bQk(x:Nd)(A1:OA)(c1:Nat)(A2:OA)(c2:Nat)(A3:OA)(c3:Nat)(A4:OA)(c4:Nat)(w:World)(h:gA w x A1 A2 A3 A4):
 Calls Tryz.prog 49 #[.agg (eH x A1 c1 A2 c2 A3 c3 A4 c4)] w fun e w'=>e=.returned (.bool (mR x))/\Below w.heap.size w w':=by
 have HF:=Hd fun w1 hw=>uH w x A1 c1 A2 c2 A3 c3 A4 c4 w1 hw h;have HE:=Hd (show mR x=(decide ((6:Int)<(x.ins.length:Int)) || decide ((6:Int)<(x.outs.length:Int)) || decide ((12:Int)<(x.vars.length:Int)) || decide ((18:Int)<(x.eqs.length:Int))) by
  unfold mR;congr 1
  . congr 1
    . congr 1;· exact decide_eq_decide.2 aA
      . exact decide_eq_decide.2 aA
    . exact decide_eq_decide.2 aA
  . exact decide_eq_decide.2 aA)
 clear h;unfold eH at HF⊢;generalize mR x=Ae at *;generalize (x.ins.length:Nat)=n1 at *;generalize (x.outs.length:Nat)=n2 at *;generalize (x.vars.length:Nat)=n3 at *;generalize (x.eqs.length:Nat)=n4 at *;go_in
 go_upto_region 1 with(fail);generalize Af:w.alloc _=w1;obtain⟨Ab,hg,Aa,hcell⟩:=HF.o w1 Af;have Ac:=Hd Ab;obtain⟨-,q1,q2,q3,q4,-⟩:=Sx (hcell w1 (Yg _ _));simp only[Ya,Yb,Yc]at q1 q2 q3 q4;clear Af hcell Ab HF Aa;cases e1:decide ((6:Int)<(n1:Int))with
 |true=>
  rw[e1]at HE;exact aJu
 |false=>
  rw[e1]at HE;cases e2:decide ((6:Int)<(n2:Int))with
  |true=>
   rw[e2]at HE;exact aJu
  |false=>
   rw[e2]at HE;cases e3:decide ((12:Int)<(n3:Int))with
   |true=>
    rw[e3]at HE;exact aJu
   |false=>
    rw[e3]at HE;cases e4:decide ((18:Int)<(n4:Int))with
    |true=>
     exact bDu
    |false=>
     exact bDu
theorem aNl{α:Type}(a b:α->Bool):∀l:List α,(l.all fun d=>a d && b d)=(l.all a && l.all b)
 |[]=>rfl
 |x::l=>by
  simp only[List.all_cons,aNl a b l];cases a x<;>cases b x<;>cases l.all a<;>cases l.all b<;>rfl
theorem bUq(es:Nat)(n:Nd):(!jQ es bK bJ n)=(!aQ n.nm.data.toList || decide (n.outs.length=0) || (n.ins.any fun d=>!(gD es bK d && eO d.on)) || (n.outs.any fun d=>!(gD es bK d && eO d.on)) || (n.vars.any fun d=>!gD es bK d) || (n.eqs.any fun q=>!jU bJ q)):=by
 unfold jQ xV Nd.all;rw[<-List.not_all_eq_any_not,<-List.not_all_eq_any_not,<-List.not_all_eq_any_not,<-List.not_all_eq_any_not,aNl,aNl,List.all_append,List.all_append,List.all_append];have h:decide (0<n.outs.length)=!decide (n.outs.length=0):=by
  rcases Nat.eq_zero_or_pos n.outs.length with h|h;· simp[h]
  . simp[h,Nat.pos_iff_ne_zero.1 h]
 rw[h];generalize n.ins.all (gD es bK)=a1;generalize n.outs.all (gD es bK)=a2;generalize n.vars.all (gD es bK)=a3;generalize (n.ins.all fun d=>eO d.on)=a4;generalize (n.outs.all fun d=>eO d.on)=a5;generalize n.eqs.all (jU bJ)=a6;generalize aQ n.nm.data.toList=a7;generalize decide (n.outs.length=0)=a8;cases a1<;>cases a2<;>cases a3<;>cases a4<;>cases a5<;>cases a6<;>cases a7<;>cases a8<;>rfl
theorem bK3(w:World)(a b c:Value)(T U V:TypeId)(w3:World)(h:((w.alloc (.cells #[a] T)).alloc (.cells #[b] U)).alloc (.cells #[c] V)=w3):
 w3.cell? ⟨w.heap.size,0,none⟩=some a/\w3.cell? ⟨w.heap.size+1,0,none⟩=some b/\w3.cell? ⟨w.heap.size+1+1,0,none⟩=some c/\Below w.heap.size w w3:=by
 subst h;generalize h1:w.alloc (.cells #[a] T)=w1;have e1:w1.heap.size=w.heap.size+1:=by rw[<-h1];simp
 have c1:w1.cell? ⟨w.heap.size,0,none⟩=some a:=by rw[<-h1,Zs];rfl
 have b1:Below w.heap.size w w1:=by rw[<-h1];exact(Yg _ _).alloc (Yh _) _
 generalize h2:w1.alloc (.cells #[b] U)=w2;have e2:w2.heap.size=w1.heap.size+1:=by rw[<-h2];simp
 have c2:w2.cell? ⟨w1.heap.size,0,none⟩=some b:=by rw[<-h2,Zs];rfl
 have b2:Below w1.heap.size w1 w2:=by rw[<-h2];exact(Yg _ _).alloc (Yh _) _
 have b3:Below w2.heap.size w2 (w2.alloc (.cells #[c] V)):=(Yg _ _).alloc (Yh _) _;refine⟨?_,?_,?_,?_⟩;· rw[b3.cell (p:=⟨w.heap.size,0,none⟩) pS,b2.cell (p:=⟨w.heap.size,0,none⟩) pS,c1]
 . rw[b3.cell (p:=⟨w.heap.size+1,0,none⟩) (by show w.heap.size+1<_;omega),<-e1,c2]
 . rw[<-e1,<-e2,Zs];rfl
 . exact b1.trans ((b2.tr b3).mono b1.size)
def tS(w:World)(bp bv be:Nat)(E:OA)(ne ec:Nat):Prop:=
 w.cell? ⟨be,0,none⟩=some (.slice E ne ec)/\w.cell? ⟨bv,0,none⟩=some (.func (.func 103) #[] #[.pointer (some ⟨be,0,none⟩)])/\
  w.cell? ⟨bp,0,none⟩=some (.func (.func 107) #[] #[.pointer (some ⟨bv,0,none⟩)])
theorem tS.below{w w':World}{bp bv be:Nat}{E:OA}{ne ec:Nat}(h:tS w bp bv be E ne ec)(hb:Below w.heap.size w w'):tS w' bp bv be E ne ec:=
 ⟨(hb.cell (Yi _ _ h.1)).trans h.1,(hb.cell (Yi _ _ h.2.1)).trans h.2.1,(hb.cell (Yi _ _ h.2.2)).trans h.2.2⟩
theorem bUr(l:List Dc)(bp bv be:Nat)(E:OA)(ne ec:Nat)(w:World)(hl:∀d∈l,tY d)(hn:ne<=9223372036854775807)(hb:tS w bp bv be E ne ec):
 aFj 107 #[.pointer (some ⟨bv,0,none⟩)] (fun d=>!(gD ne bK d && eO d.on)) l w:=
 fun d hd W hW=>bZ4 d bv be E ne ec W (hl d hd) hn (hb.below hW).1 (hb.below hW).2.1
theorem bYl(l:List Dc)(bp bv be:Nat)(E:OA)(ne ec:Nat)(w:World)(hl:∀d∈l,tY d)(hn:ne<=9223372036854775807)(hb:tS w bp bv be E ne ec):
 aFj 103 #[.pointer (some ⟨be,0,none⟩)] (fun d=>!gD ne bK d) l w:=
 fun d hd W hW=>bFd d be E ne ec W (hl d hd) hn (hb.below hW).1
theorem cBk(l:List Qn)(w:World)(hl:∀q∈l,OkQ q):aI4 111 #[] (fun q=>!jU bJ q) l w:=
 fun q hq B c A ca D cb W _ hr=>bQj q B c A ca D cb W hr.1 hr.2 (hl q hq)
theorem cBl(x:Nd)(A1:OA)(c1:Nat)(A2:OA)(c2:Nat)(A3:OA)(c3:Nat)(A4:OA)(c4:Nat)(bp bv be:Nat)(E:OA)(ne ec:Nat)(w:World)
 (h:gA w x A1 A2 A3 A4)(ho:OkN x)(hn:ne<=9223372036854775807)(Dw:tS w bp bv be E ne ec):
 Calls Tryz.prog 108 #[.agg (eH x A1 c1 A2 c2 A3 c3 A4 c4),.pointer (some ⟨bp,0,none⟩),.pointer (some ⟨bv,0,none⟩)] w fun e w'=>e=.returned (.bool (!jQ ne bK bJ x))/\Below w.heap.size w w':=by
 have HF:=Hd fun w1 hw=>uH w x A1 c1 A2 c2 A3 c3 A4 c4 w1 hw h;have HE:=Hd (bUq ne x);have Bs:=Hd fun w1=>kR x.nm w1 (by have:=ho.1;unfold maxLen at this;omega);have HP:=Hd fun(l:List Dc) w1 (hl:∀ d∈l,tY d) (hb:tS w1 bp bv be E ne ec)=>bUr l bp bv be E ne ec w1 hl hn hb;have HV:=Hd fun(l:List Dc) w1 (hl:∀ d∈l,tY d) (hb:tS w1 bp bv be E ne ec)=>bYl l bp bv be E ne ec w1 hl hn hb;have Gs:=Hd fun w1 (a:cY w1 A1 x.ins.length x.ins) b=>aNy 107 #[.pointer (some ⟨bv,0,none⟩)] (fun _ _=>rfl) _ A1 x.ins.length c1 x.ins w1 a (HP.o x.ins w1 (fun d hd=>ho.2.1 d sM) b);have Aq:=Hd fun w1 (a:cY w1 A2 x.outs.length x.outs) b=>aNy 107 #[.pointer (some ⟨bv,0,none⟩)] (fun _ _=>rfl) _ A2 x.outs.length c2 x.outs w1 a (HP.o x.outs w1 (fun d hd=>ho.2.1 d sM) b);have Fi:=Hd fun w1 (a:cY w1 A3 x.vars.length x.vars) b=>aNy 103 #[.pointer (some ⟨be,0,none⟩)] (fun _ _=>rfl) _ A3 x.vars.length c3 x.vars w1 a (HV.o x.vars w1 (fun d hd=>ho.2.1 d sM) b);have Fu:=Hd fun w1 (a:nD w1 A4 x.eqs.length x.eqs)=>bWd 111 #[] (fun _ _=>rfl) _ A4 x.eqs.length c4 x.eqs w1 a (cBk x.eqs w1 ho.2.2);have Cx:=Hd Dw;clear HP HV ho Dw h;unfold eH;generalize (!jQ ne bK bJ x)=Hb at *;generalize (x.ins.any fun d=>!(gD ne bK d && eO d.on))=s1 at *;generalize (x.outs.any fun d=>!(gD ne bK d && eO d.on))=s2 at *;generalize (x.vars.any fun d=>!gD ne bK d)=s3 at *;generalize (x.eqs.any fun q=>!jU bJ q)=s4 at *;generalize aQ x.nm.data.toList=lb at *;have Ct:=Hd (show decide (x.outs.length=0)=((x.outs.length:Int)==0) by
  rcases Nat.eq_zero_or_pos x.outs.length with h|h;· simp[h]
  . rw[Xd aA];symm;rw[Xf];omega)
 rw[Ct.o]at HE;clear Ct;go_in
 go_upto_region 1 with(fail);generalize Af:w.alloc _=w1;obtain⟨Ab,hg,Fs,hcell⟩:=HF.o w1 Af;have Ac:=Hd Ab;have HX:=Hd hcell;have Ae:=Hd Fs;have Aa:=Hd (Cx.o.below Ab);simp only[eH]at HX;clear Af hcell Ab HF Fs Cx;have p0:=HX.o w1 (Yg _ _) 0;simp only[Ya,Yb,Yc]at p0;cases lb with
 |false=>
  go_wp2_with fail;refine(Bs.o w1).mono ?_;rintro e w2 ⟨rfl,hb⟩;have Ai:=Hd (Ac.o.tr hb);clear hb p0;exact aJt
 |true=>
  go_wp2_with fail;refine(Bs.o w1).mono ?_;rintro e w2 ⟨rfl,hb⟩;have Cj:=Hd hb;have Ai:=Hd (Ac.o.tr hb);have p1:=HX.o w2 hb 1;have p2:=HX.o w2 hb 2;have pb:=(Aa.o.below hb).2.2;simp only[Ya,Yb,Yc]at p1 p2;clear hb p0;cases e0:((x.outs.length:Int)==0)with
  |true=>
   rw[e0]at HE;exact aJt
  |false=>
   rw[e0]at HE;cases s1 with
   |true=>
    go_wp2_with fail;refine(Gs.o w2 (cY.below Ae.o.1 Cj.o) (Aa.o.below Cj.o)).mono ?_;rintro e w3 ⟨rfl,hb⟩;have Dm:=Hd (Cj.o.tr hb);have Aj:=Hd (Ac.o.tr Dm.o);clear hb p1 pb p2;exact wM
   |false=>
    go_wp2_with fail;refine(Gs.o w2 (cY.below Ae.o.1 Cj.o) (Aa.o.below Cj.o)).mono ?_;rintro e w3 ⟨rfl,hb⟩;have Dm:=Hd (Cj.o.tr hb);clear hb p1 pb p2;have p2:=HX.o w3 Dm.o 2;simp only[Ya,Yb,Yc]at p2;have pb:=(Aa.o.below Dm.o).2.2;cases s2 with
    |true=>
     go_wp2_with fail;refine(Aq.o w3 (cY.below Ae.o.2.1 Dm.o) (Aa.o.below Dm.o)).mono ?_;rintro e w4 ⟨rfl,hb⟩;have Es:=Hd (Dm.o.tr hb);have Bd:=Hd (Ac.o.tr Es.o);clear hb p2 pb;go_wp2_with fail;go_ret;exact⟨aO mQ,Bd.o⟩
    |false=>
     go_wp2_with fail;refine(Aq.o w3 (cY.below Ae.o.2.1 Dm.o) (Aa.o.below Dm.o)).mono ?_;rintro e w4 ⟨rfl,hb⟩;have Es:=Hd (Dm.o.tr hb);clear hb p2 pb;have p3:=HX.o w4 Es.o 3;simp only[Ya,Yb,Yc]at p3;have pb:=(Aa.o.below Es.o).2.1;cases s3 with
     |true=>
      go_wp2_with fail;refine(Fi.o w4 (cY.below Ae.o.2.2.1 Es.o) (Aa.o.below Es.o)).mono ?_;rintro e w5 ⟨rfl,hb⟩;have Ik:=Hd (Es.o.tr hb);have Bl:=Hd (Ac.o.tr Ik.o);clear hb p3 pb;go_wp2_with fail;go_ret;exact⟨aO mQ,Bl.o⟩
     |false=>
      go_wp2_with fail;refine(Fi.o w4 (cY.below Ae.o.2.2.1 Es.o) (Aa.o.below Es.o)).mono ?_;rintro e w5 ⟨rfl,hb⟩;have Ik:=Hd (Es.o.tr hb);clear hb p3 pb;have p4:=HX.o w5 Ik.o 4;simp only[Ya,Yb,Yc]at p4;go_wp2_with fail;refine(Fu.o w5 (nD.below Ae.o.2.2.2 Ik.o)).mono ?_;rintro e w6 ⟨rfl,hb⟩;have Ha:=Hd (Ik.o.tr hb);have Db:=Hd (Ac.o.tr Ha.o);clear hb p4;go_wp2_with fail;go_ret;exact⟨aO mQ,Db.o⟩
theorem bK4(E:OA)(ne ec:Nat)(w:World):
 Calls Tryz.prog 50 #[.slice E ne ec] w fun e w'=>∃bp bv be,e=.returned (.func (.func 108) #[] #[.pointer (some ⟨bp,0,none⟩),.pointer (some ⟨bv,0,none⟩)])/\tS w' bp bv be E ne ec/\Below w.heap.size w w':=by
 have Jt:∀fn first cap w,(Instr.makeFunc fn first cap).run Tryz.prog w=.ok (.func fn first cap) w:=fun _ _ _ _=>rfl
 go_in
 go_wp2_with fail;go_ret;obtain⟨h1,h2,h3,h4⟩:=bK3 w _ _ _ _ _ _ _ rfl;exact⟨w.heap.size+1+1,w.heap.size+1,w.heap.size,rfl,⟨h1,h2,h3⟩,h4⟩
theorem bM3(x:Nd)(A1:OA)(c1:Nat)(A2:OA)(c2:Nat)(A3:OA)(c3:Nat)(A4:OA)(c4:Nat)(w:World)(h:gA w x A1 A2 A3 A4):
 Calls Tryz.prog 52 #[.agg (eH x A1 c1 A2 c2 A3 c3 A4 c4)] w fun e w'=>e=.returned (.string x.nm)/\Below w.heap.size w w':=by
 have HF:=Hd fun w1 hw=>uH w x A1 c1 A2 c2 A3 c3 A4 c4 w1 hw h;clear h;unfold eH at HF⊢;go_in
 go_upto_region 1 with(fail);generalize Af:w.alloc _=w1;obtain⟨Ab,hg,Aa,hcell⟩:=HF.o w1 Af;have Ac:=Hd Ab;have q0:=hcell w1 (Yg _ _) 0;simp only[Ya,Yb,Yc]at q0;clear Af hcell Ab HF Aa;go_wp2_with fail;go_ret;exact⟨rfl,Ac.o⟩
theorem bM4(d:Dc)(w:World):
 Calls Tryz.prog 115 #[.agg (gG d)] w fun e w'=>e=.returned (.string d.nm)/\Below w.heap.size w w':=by
 have HF:=Hd fun w1 hw=>zU w d w1 hw;unfold gG at HF⊢;go_in
 go_upto_region 1 with(fail);generalize Af:w.alloc _=w1;obtain⟨Ab,hg,hcell⟩:=HF.o w1 Af;have Ac:=Hd Ab;have q0:=hcell w1 (Yg _ _) 0;simp only[Ya,Yb,Yc]at q0;clear Af hcell Ab HF;go_wp2_with fail;go_ret;exact⟨rfl,Ac.o⟩
theorem bYm(A:OA)(n c:Nat)(l:List Dc)(w:World)(h:cY w A n l)(hn:n<=100)(hz:∀s∈fW l,s.size<=maxLen):
 Calls Tryz.prog 113 #[.slice A n c,.func (.func 115) #[] #[]] w fun e w'=>e=.returned (.bool (dC (fW l)))/\Below w.heap.size w w':=by
 have HR:=Hd h;have Cq:=aY.len h;obtain⟨i0,hi,Ma,Ly,Lu⟩:=info_parts vQ;have Ix:=Hd fun(k:Nat) hk=>aTp (l:=l) (k:=k) hk;have Gg:=Hd fun B cc w1 (a:aS w1 B n (fW l))=>aCl B n cc (fW l) w1 a hz hn;have Cg:=Hd (show(fW l).take n=fW l from Yz (by rw[aVa,Cq];exact Yh _));have Cx:=Hd (fun w d w1 h=>zU w d w1 h);have Eb:=Hd bM4;have Fk:=Hd Cq;clear h hz Cq;unfold gG at Cx Eb;generalize fW l=ss at *;generalize dC ss=Ct at *;go_in
 go_wp2_with fail;go_loopw [5,10] (fun v i wr=>∃k:Nat,k<=n/\i=.int .i64 k/\wr.ownsRow w.heap.size 9 1 v k ((ss.take k).map Value.string)/\Below w.heap.size w wr) (fun _ i _=>n-(intOf i).toNat)
 case atStart=>exact⟨0,Ys _,rfl,⟨rfl,.inl ⟨rfl,rfl⟩⟩,Yg _ _⟩
 case round=>
  obtain⟨k,hk,rfl,Ao,An⟩:=hrel;have Bk:=Hd An;have Gl:=Hd Ao;clear Ao;by_cases Ah:k<n
  . obtain⟨b,off,rfl,hb,d0,d1,d2,d3,d4,d5⟩:=bFc (HR.o.below An) Ah;have Jr:=Hd (Ix.o k pC)
    skip
    clear An;generalize l[k]?.getD default=p at *;have Bs:=Hd fun w3 h=>Cx.o wr p  w3 h;go_upto_region 5 with(fail);generalize Em:wr.alloc _=w3;obtain⟨Ak,Ib,Aa⟩:=Bs.o w3 Em;have Aj:=Hd (Bk.o.tr Ak);have Ae:=Hd (aHc Gl.o Ak);obtain⟨e0,e1,e2,e3,e4,e5⟩:=Sx (Aa w3 (Yg _ _));simp only[Ya,Yb,Yc]at e0 e1 e2 e3 e4 e5;have Bq:=Hd (Eb.o p  w3);clear Aa Ak Em Bs d0 d1 d2 d3 d4 d5;go_wp2_with fail;refine Bq.o.mono ?_;rintro e w4 ⟨rfl,Aq⟩;have Bd:=Hd (Aj.o.tr Aq);have Ga:=Hd (aHc Ae.o Aq);clear Aq e0 e1 e2 e3 e4 e5;exact bGi
  . exact bHd
theorem bYn(A:OA)(n c:Nat)(l:List Nd)(w:World)(h:kE w A n l)(hn:n<=100)(hz:∀s∈l.map Nd.nm,s.size<=maxLen):
 Calls Tryz.prog 51 #[.slice A n c,.func (.func 52) #[] #[]] w fun e w'=>e=.returned (.bool (dC (l.map Nd.nm)))/\Below w.heap.size w w':=by
 have HR:=Hd h;have Cq:=aY.len h;obtain⟨i0,hi,Ma,Ly,Lu⟩:=info_parts vQ;have Ix:=Hd fun(k:Nat) hk=>aW4 (l:=l) (k:=k) hk;have Gg:=Hd fun B cc w1 (a:aS w1 B n (l.map Nd.nm))=>aCl B n cc (l.map Nd.nm) w1 a hz hn;have Cg:=Hd (show(l.map Nd.nm).take n=l.map Nd.nm from Yz (by rw[List.length_map,Cq];exact Yh _));have Cx:=Hd uH;have Eb:=Hd bM3;have Fk:=Hd Cq;clear h hz Cq;unfold eH at Cx Eb;generalize l.map Nd.nm=ss at *;generalize dC ss=Hb at *;go_in
 go_wp2_with fail;go_loopw [5,10] (fun v i wr=>∃k:Nat,k<=n/\i=.int .i64 k/\wr.ownsRow w.heap.size 9 1 v k ((ss.take k).map Value.string)/\Below w.heap.size w wr) (fun _ i _=>n-(intOf i).toNat)
 case atStart=>exact⟨0,Ys _,rfl,⟨rfl,.inl ⟨rfl,rfl⟩⟩,Yg _ _⟩
 case round=>
  obtain⟨k,hk,rfl,Ao,An⟩:=hrel;have Bk:=Hd An;have Gl:=Hd Ao;clear Ao;by_cases Ah:k<n
  . obtain⟨b,off,A1,c1,A2,c2,A3,c3,A4,c4,rfl,hb,Fs,d0,d1,d2,d3,d4⟩:=bFb (HR.o.below An) Ah;have Jr:=Hd (Ix.o k pC);have Ae:=Hd Fs;clear An Fs;generalize l[k]?.getD default=p at *;have Ha:=Hd fun w3 h=>Cx.o wr p A1 c1 A2 c2 A3 c3 A4 c4 w3 h Ae.o;go_upto_region 5 with(fail);generalize Em:wr.alloc _=w3;obtain⟨Ak,Ib,Ct,Aa⟩:=Ha.o w3 Em;have Aj:=Hd (Bk.o.tr Ak);have Aq:=Hd (aHc Gl.o Ak);obtain⟨e0,e1,e2,e3,e4,-⟩:=Sx (Aa w3 (Yg _ _));simp only[Ya,Yb,Yc]at e0 e1 e2 e3 e4;have Bq:=Hd (Eb.o p A1 c1 A2 c2 A3 c3 A4 c4 w3 Ct);clear Aa Ak Em Ha d0 d1 d2 d3 d4 Ct;go_wp2_with fail;refine Bq.o.mono ?_;rintro e w4 ⟨rfl,Bs⟩;have Bd:=Hd (Aj.o.tr Bs);have Ga:=Hd (aHc Aq.o Bs);clear Bs e0 e1 e2 e3 e4;exact bGi
  . exact bHd
theorem bQl(x:Nd)(A1:OA)(c1:Nat)(A2:OA)(c2:Nat)(A3:OA)(c3:Nat)(A4:OA)(c4:Nat)(w:World)(h:gA w x A1 A2 A3 A4)(hn:x.all.length<=100)(hz:∀d∈x.all,d.nm.size<=maxLen):
 Calls Tryz.prog 53 #[.agg (eH x A1 c1 A2 c2 A3 c3 A4 c4)] w fun e w'=>e=.returned (.bool (!dC (fW x.all)))/\Below w.heap.size w w':=by
 have HF:=Hd fun w1 hw=>uH w x A1 c1 A2 c2 A3 c3 A4 c4 w1 hw h;have Bs:=Hd fun b w1 (a:gA w1 x A1 A2 A3 A4) hc hb=>bOg x A1 c1 A2 c2 A3 c3 A4 b w1 a hc hb aA
 have Gg:=Hd fun A c w1 (a:cY w1 A x.all.length x.all)=>bYm A x.all.length c x.all w1 a hn (fun s hs=>by
  obtain⟨d,hd,rfl⟩:=List.mem_map.1 hs;exact hz d hd)
 clear h hn hz;unfold eH at HF⊢;unfold aOp at Bs;generalize x.all=all at *;generalize dC (fW all)=Fs at *;go_in
 go_upto_region 1 with(fail);generalize Af:w.alloc _=w1;obtain⟨Ab,hg,Ct,hcell⟩:=HF.o w1 Af;have Ac:=Hd Ab;obtain⟨-,q1,q2,q3,-,-⟩:=Sx (hcell w1 (Yg _ _));simp only[Ya,Yb,Yc]at q1 q2 q3;have Ag:=(Yg w1.heap.size w1).alloc (Yh _) (.cells #[.slice A1 x.ins.length c1,.slice A2 x.outs.length c2,.slice A3 x.vars.length c3] 66);have Ai:=Hd (Ac.o.tr Ag);have Ae:=Hd (Bs.o w1.heap.size _ (Ct.below Ag) (fun j=>by rw[Zs]) aC);rw[hg]at Ae;clear Af hcell Ab Ag HF Ct;go_wp2_with fail;refine Ae.o.mono ?_;rintro e w3 ⟨A,c,rfl,Aa,Ak⟩;have Aj:=Hd (Ai.o.tr Ak);have HO:=Hd (Gg.o A c w3 Aa);clear Aa Ak;go_wp2_with fail;refine HO.o.mono ?_;rintro e w4 ⟨rfl,Aq⟩;have Bd:=Hd (Aj.o.tr Aq);clear Aq;go_wp2_with fail;go_ret;exact⟨rfl,Bd.o⟩
theorem aOz(g:Nat)(lb:AV)(eg:∀args w,(callFunc g args).run Tryz.prog w=.ok (.enter g args) w)(f:Nd->Bool)(b:Nat)(N:OA)(nc:Nat)(ns:List Nd)(w:World)
 (hc:w.cell? ⟨b,1,none⟩=some (.slice N ns.length nc))(hr:kE w N ns.length ns)(hp:aAk g lb f ns w):
 Calls Tryz.prog 46 #[.func (.func g) #[] lb,.pointer (some ⟨b,0,none⟩)] w fun e w'=>e=.returned (.bool (ns.any f))/\Below w.heap.size w w':=by
 have HC:=Hd (bWc g lb eg f N ns.length nc ns w hr hp);clear hr hp;generalize ns.any f=Aa at *;go_in
 go_wp2_with fail;refine HC.o.mono ?_;rintro e w2 ⟨rfl,Ag⟩;have Ai:=Hd Ag;clear Ag;go_wp2_with fail;go_ret;exact⟨rfl,Ai.o⟩
theorem aId{p:Pg}(ht:qN p){x:Nd}(hx:x∈p.ns):pN x:=by
 obtain⟨j,hj,rfl⟩:=Zm hx
 have:=ht.2.2 j hj
 exact aQb
theorem bQm(p:Pg):eM p=if cG p.es=0 then(if p.ns.length=0 then 5 else if 6<p.ns.length then 4 else if p.ns.any mR then 4 else if(p.ns.any fun x=>!jQ p.es.length bK bJ x)then 1 else if !dC (p.ns.map Nd.nm)then 6 else if(p.ns.any fun x=>!dC (fW x.all))then 6 else 0)else cG p.es:=by
 unfold eM aI3 aJ9;rw[<-List.not_all_eq_any_not,<-List.not_all_eq_any_not];generalize p.ns.all (jQ p.es.length bK bJ)=a;generalize (p.ns.all fun n=>dC (fW n.all))=b;generalize dC (p.ns.map Nd.nm)=c;cases a<;>cases b<;>cases c<;>rfl
theorem bAd(p:Pg)(E:OA)(ec:Nat)(N:OA)(nc:Nat)(w:World)(h:lM w p E N)(ht:qN p):
 Calls Tryz.prog 17 #[.agg (fP p E ec N nc)] w fun e w'=>e=.returned (.int .i64 (eM p))/\Below w.heap.size w w':=by
 have HF:=Hd fun w1 hw=>xL w p E ec N nc w1 hw h;have Jt:∀fn first cap w,(Instr.makeFunc fn first cap).run Tryz.prog w=.ok (.func fn first cap) w:=fun _ _ _ _=>rfl
 have Jx:=Hd fun w1 a=>bVx E p.es.length ec p.es w1 a ht.1.ok ht.1.few;have Nn:=aY.max h.2;have No:=ht.1.1;have Nq:=ht.2.1;have HE:=Hd (bQm p);have HM:=Hd fun w1=>bK4 E p.es.length ec w1;have Ng:=Hd fun w1=>(show aAk 49 #[] mR p.ns w1 from fun x hx A1 c1 A2 c2 A3 c3 A4 c4 W _ hr=>bQk x A1 c1 A2 c2 A3 c3 A4 c4 W hr)
 have Fs:=Hd fun bp bv be w1 (hb:tS w1 bp bv be E p.es.length ec)=>(show aAk 108 #[.pointer (some ⟨bp,0,none⟩),.pointer (some ⟨bv,0,none⟩)] (fun x=>!jQ p.es.length bK bJ x) p.ns w1 from
  fun x hx A1 c1 A2 c2 A3 c3 A4 c4 W hW hr=>cBl x A1 c1 A2 c2 A3 c3 A4 c4 bp bv be E p.es.length ec W hr (aId ht hx).ok aA (hb.below hW))
 have Ha:=Hd fun w1=>(show aAk 53 #[] (fun x=>!dC (fW x.all)) p.ns w1 from
  fun x hx A1 c1 A2 c2 A3 c3 A4 c4 W _ hr=>bQl x A1 c1 A2 c2 A3 c3 A4 c4 W hr (by have:=(aId ht hx).len;omega) (fun d hd=>((aId ht hx).ok.2.1 d hd).1))
 have Gg:=Hd fun w1 (a:kE w1 N p.ns.length p.ns)=>bYn N p.ns.length nc p.ns w1 a aA (fun s hs=>by
  obtain⟨x,hx,rfl⟩:=List.mem_map.1 hs;exact(aId ht hx).ok.1)
 have Nh:=Hd fun b w1 hc a=>aOz 49 #[] (fun _ _=>rfl) mR b N nc p.ns w1 hc a (Ng.o w1);have Fl:=Hd fun b bp bv be w1 hc a (hb:tS w1 bp bv be E p.es.length ec)=>aOz 108 #[.pointer (some ⟨bp,0,none⟩),.pointer (some ⟨bv,0,none⟩)] (fun _ _=>rfl) (fun x=>!jQ p.es.length bK bJ x) b N nc p.ns w1 hc a (Fs.o bp bv be w1 hb);have Ni:=Hd fun b w1 hc a=>aOz 53 #[] (fun _ _=>rfl) (fun x=>!dC (fW x.all)) b N nc p.ns w1 hc a (Ha.o w1);clear Ng Fs Ha ht;unfold fP;generalize eM p=Np at *;generalize p.ns.any mR=b1 at *;generalize (p.ns.any fun x=>!jQ p.es.length bK bJ x)=b2 at *;generalize (p.ns.any fun x=>!dC (fW x.all))=b3 at *;generalize dC (p.ns.map Nd.nm)=o1 at *;go_in
 go_upto_region 1 with(fail);generalize Af:w.alloc _=w1;obtain⟨Ab,hg,Ct,hcell⟩:=HF.o w1 Af;have Ac:=Hd Ab;have HC:=Hd hcell;have Nj:=Hd (Jx.o w1 Ct.1);have Ae:=Hd (show kE w1 N p.ns.length p.ns from Ct.2);simp only[fP]at HC;have q0:=HC.o w1 (Yg _ _) 0;simp only[Ya,Yb,Yc]at q0;clear Af hcell Ab HF h Ct Jx;generalize cG p.es=en at *;generalize p.es.length=ne at *;generalize Nk:p.ns.length=n at *;clear Nk;go_wp2_with fail;refine Nj.o.mono ?_;rintro e w2 ⟨rfl,Ag⟩;have Cj:=Hd Ag;have Ai:=Hd (Ac.o.tr Ag);have p0:=HC.o w2 Ag 0;have p1:=HC.o w2 Ag 1;simp only[Ya,Yb,Yc]at p0 p1;clear Ag q0;by_cases Aa:en=0
 . subst Aa;rw[if_pos rfl]at HE;rcases Nat.eq_zero_or_pos n with Dy|Dy;· exact bDn
   . rw[if_neg aA]at HE;have Nl:((n:Int)==0)=false:=aDp;by_cases Aq:6<n
     . rw[if_pos Aq]at HE;have d6:decide ((6:Int)<(n:Int))=true:=Xc aA;exact aJy
     . rw[if_neg Aq]at HE;have d6:decide ((6:Int)<(n:Int))=false:=Xd aA;have Gs:=Hd (Nh.o w.heap.size w2 p1 (kE.below Ae.o Cj.o));clear Aq Dy;cases b1 with
       |true=>
        rw[if_pos rfl]at HE;go_wp2_with fail;refine Gs.o.mono ?_;rintro e w3 ⟨rfl,Ak⟩;have Aj:=Hd (Ai.o.tr Ak);clear Ak p0 p1;go_wp2_with fail;go_ret;exact⟨iL HE.o.symm,Aj.o⟩
       |false=>
        rw[if_neg aC]at HE;go_wp2_with fail;refine Gs.o.mono ?_;rintro e w3 ⟨rfl,Ak⟩;have Dm:=Hd (Cj.o.tr Ak);have Aj:=Hd (Ai.o.tr Ak);clear Ak p0 p1;have p0:=HC.o w3 Dm.o 0;simp only[Ya,Yb,Yc]at p0;go_wp2_with fail;refine(HM.o w3).mono ?_;rintro e w4 ⟨bp,bv,be,rfl,Dw,Bs⟩;have Es:=Hd (Dm.o.tr Bs);have Bd:=Hd (Aj.o.tr Bs);clear Bs p0;have p1:=HC.o w4 Es.o 1;simp only[Ya,Yb,Yc]at p1;have Hb:=Hd (Fl.o w.heap.size bp bv be w4 p1 (kE.below Ae.o Es.o) Dw);clear Dw p1;cases b2 with
        |true=>
         rw[if_pos rfl]at HE;go_wp2_with fail;refine Hb.o.mono ?_;rintro e w5 ⟨rfl,Cs⟩;have Bl:=Hd (Bd.o.tr Cs);clear Cs;go_wp2_with fail;go_ret;exact⟨iL HE.o.symm,Bl.o⟩
        |false=>
         rw[if_neg aC]at HE;go_wp2_with fail;refine Hb.o.mono ?_;rintro e w5 ⟨rfl,Cs⟩;have Ik:=Hd (Es.o.tr Cs);have Bl:=Hd (Bd.o.tr Cs);clear Cs;have p1:=HC.o w5 Ik.o 1;simp only[Ya,Yb,Yc]at p1;have Ig:=Hd (Gg.o w5 (kE.below Ae.o Ik.o));cases o1 with
         |false=>
          rw[if_pos (show(!false)=true from rfl)]at HE;go_wp2_with fail;refine Ig.o.mono ?_;rintro e w6 ⟨rfl,Bo⟩;have Db:=Hd (Bl.o.tr Bo);clear Bo p1;go_wp2_with fail;go_ret;exact⟨iL HE.o.symm,Db.o⟩
         |true=>
          rw[if_neg aC]at HE;go_wp2_with fail;refine Ig.o.mono ?_;rintro e w6 ⟨rfl,Bo⟩;have Hc:=Hd (Ik.o.tr Bo);have Db:=Hd (Bl.o.tr Bo);clear Bo p1;have p1:=HC.o w6 Hc.o 1;simp only[Ya,Yb,Yc]at p1;have Fi:=Hd (Ni.o w.heap.size w6 p1 (kE.below Ae.o Hc.o));clear p1;cases b3 with
          |true=>
           rw[if_pos rfl]at HE;exact bIa
          |false=>
           rw[if_neg aC]at HE;exact bIa
 . rw[if_neg Aa]at HE;have Nm:(en !=0)=true:=by rw[bne_iff_ne];exact Aa
   clear Aa;exact aJy
end
section
open Go.RowKit Go.Sort
open Classical in
noncomputable def bp (P:Nat->Prop) (w:World):World:={ w with heap:=w.heap.mapIdx fun i o=>if P i then .cells #[] 0 else o }
section
variable {P P':Nat->Prop}{w w':World}
theorem wC:(bp P w).heap.size=w.heap.size:=by simp[bp]
theorem aCg{p:Addr}(h:¬P p.block):(bp P w).cell? p=w.cell? p:=by
 unfold World.cell? bp;exact bCu
theorem aFg{p:Addr}{v:Value}(h:(bp P w).cell? p=some v):w.cell? p=some v/\¬P p.block:=by
 by_cases hp:P p.block
 . unfold World.cell? bp at h;exact aRh
 . exact⟨by rwa[aCg hp]at h,hp⟩
structure gN (P:Nat->Prop)(w:World)(P':Nat->Prop)(w':World):Prop where
 size:w.heap.size<=w'.heap.size
 keep:∀k,k<w.heap.size->¬P k->¬P' k/\w'.heap[k]?=w.heap[k]?
theorem gN.up(h:gN P w P' w')(p:Addr)(v:Value)(hc:(bp P w).cell? p=some v):(bp P' w').cell? p=some v:=by
 obtain⟨h1,h2⟩:=aFg hc;obtain⟨h3,h4⟩:=h.keep _ (Yi _ _ h1) h2;rw[aCg h3];unfold World.cell? at h1⊢;rw[h4];exact h1
theorem gN.ups(h:gN P w P' w'):(bp P w).heap.size<=(bp P' w').heap.size:=by rw[wC,wC];exact h.size
theorem gN.o{p:Addr}{v:Value}(hc:(bp P w).cell? p=some v):w.cell? p=some v:=(aFg hc).1
theorem aHi{b o:Nat}{vs:LV}(hk:∀p v,w.cell? p=some v->w'.cell? p=some v)(h:w.rangeAt b o vs):w'.rangeAt b o vs:=fun j v hv=>hk _ _ (h j v hv)
end
section
variable {α:Type}{At At':α->List Value->Prop}
def nF(At:α->List Value->Prop):List α->List Value->Prop
 |[],cs=>cs=[]
 |a::l,cs=>∃c1 c2,cs=c1++c2/\At a c1/\nF At l c2
theorem nF.snoc:∀{l:List α}{cs:LV}{a:α}{c:LV},nF At l cs->At a c->nF At (l++[a]) (cs++c)
 |[],cs,a,c,h,ha=>⟨c,[],by rw[show cs=[]from h];simp,ha,rfl⟩
 |b::l,cs,a,c,⟨c1,c2,e,h1,h2⟩,ha=>⟨c1,c2++c,by rw[e,Yy],h1,h2.snoc ha⟩
theorem nF.mono(hm:∀a c,At a c->At' a c):∀{l:List α}{cs:LV},nF At l cs->nF At' l cs
 |[],cs,h=>h
 |b::l,cs,⟨c1,c2,e,h1,h2⟩=>⟨c1,c2,e,hm _ _ h1,h2.mono hm⟩
theorem nF.len{k:Nat}(hk:∀a c,At a c->c.length=k):∀{l:List α}{cs:LV},nF At l cs->cs.length=l.length*k
 |[],cs,h=>by rw[show cs=[]from h];simp
 |b::l,cs,⟨c1,c2,e,h1,h2⟩=>by
  have:=h2.len hk
  have:=hk _ _ h1
  rw[e,Yo,Yq,Nat.add_mul];omega
theorem nF.get{k:Nat}(hk:∀a c,At a c->c.length=k):∀{l:List α}{cs:LV},nF At l cs->∀i a,l[i]?=some a->∃c,At a c/\∀j v,c[j]?=some v->cs[i*k+j]?=some v
 |[],cs,h,i,a,hi=>by simp at hi
 |b::l,cs,⟨c1,c2,e,h1,h2⟩,0,a,hi=>by
  simp only[Zd,Option.some.injEq]at hi;subst hi;refine⟨c1,h1,fun j v hv=>?_⟩;rw[e,Nat.zero_mul,Nat.zero_add,List.getElem?_append_left (List.getElem?_eq_some_iff.1 hv).1];exact hv
 |b::l,cs,⟨c1,c2,e,h1,h2⟩,i+1,a,hi=>by
  obtain⟨c,h3,h4⟩:=h2.get hk i a vG;refine⟨c,h3,fun j v hv=>?_⟩;have hl:=hk _ _ h1;rw[e,Nat.add_mul,Nat.one_mul,List.getElem?_append_right aA];rw[show i*k+k+j-c1.length=i*k+j by omega];exact h4 j v hv
end
theorem aFr{α:Type}[Inhabited α]{w w':World}{M:Nat}{e:TypeId}{k:Nat}{A:OA}{n c:Nat}{l:List α}{cs:LV}{At:World->Nat->Nat->α->Prop}{Ct:α->List Value->Prop}(hk:∀a c,Ct a c->c.length=k)(Aq:0<k)
 (ho:w.ownsRow M e k (.slice A n c) n cs)(hf:nF Ct l cs)(hn:l.length=n)(Ae:n<=9223372036854775807)(hs:w.heap.size<=w'.heap.size)(hw:∀g,(Value.slice A n c).ownBlock=some g->∀o,w'.cell? ⟨g,o,none⟩=w.cell? ⟨g,o,none⟩)
 (Ar:∀b o a c,Ct a c->(∀j v,c[j]?=some v->w'.cell? ⟨b,o+j,none⟩=some v)->At w' b o a):aY k At w' A n l:=by
 refine⟨hn,Ae,fun hp=>?_⟩;rcases ho.2 with⟨h1,h2⟩|⟨g,cap,cur,h1,hg,hh,h2,h3,h4,h5⟩;· exact aJ1
 . simp only[Value.slice.injEq]at h1;obtain⟨rfl,-,rfl⟩:=h1;refine⟨g,0,rfl,Yt (Ym.1 hh).1 hs,fun i hi=>?_⟩;have Aa:l[i]?=some (l[i]?.getD default):=by
    rw[Yk aA];rfl
   obtain⟨c1,h6,h7⟩:=hf.get hk i _ Aa;refine Ar g _ _ c1 h6 fun j v hv=>?_;rw[hw g rfl];have h8:=h7 j v hv;have hl:=hf.len hk;have Ah:=(List.getElem?_eq_some_iff.1 h8).1;rw[Nat.zero_add];exact(ho.cellAt (i*k+j) (by rw[<-hn,<-hl];exact Ah)).trans h8
end
section
open Go.RowKit Go.Sort
theorem aL8(s:UInt8):∀(l:List (List UInt8))(x:LU),l≠[]->dI s (l++[x])=dI s l++s::32::x
 |[],_,h=>absurd rfl h
 |[a],x,_=>rfl
 |a::b::l,x,_=>by
  have:=aL8 s (b::l) x aC
  simp only[Yx,dI]at this⊢;rw[this];simp
theorem zR{s:UInt8}{m:Nat}:∀{l:List (List UInt8)},(∀a∈l,a.length<=m)->(dI s l).length<=(m+2)*l.length
 |[],_=>Ys _
 |[a],h=>by
  have:=h a aC
  simp only[dI,Yq,Zg];omega
 |a::b::l,h=>by
  have h1:=h a aC;have h2:=zR (s:=s) (l:=b::l) (fun x hx=>h x wX);simp only[dI,Yo,Yq]at h2⊢;rw[Nat.mul_add (m+2) (l.length+1) 1];omega
theorem bJn{α:Type}[Inhabited α]{f:α->List UInt8}{l:List α}{k:Nat}(h:k<l.length):(l.map f).take (k+1)=(l.map f).take k++[f (l[k]?.getD default)]:=by
 exact bEb
theorem aWa{α:Type}{s:UInt8}{m:Nat}{f:α->List UInt8}{l:List α}(k:Nat)(h:∀x∈l,(f x).length<=m):(dI s ((l.map f).take k)).length<=(m+2)*l.length:=by
 have h1:=zR (s:=s) (m:=m) (l:=(l.map f).take k) (fun a ha=>by
  obtain⟨x,hx,rfl⟩:=List.mem_map.1 (List.mem_of_mem_take ha);exact h x hx)
 have h2:((l.map f).take k).length<=l.length:=by rw[List.length_take,List.length_map];omega
 exact Yr h1 (Nat.mul_le_mul_left _ h2)
theorem aSe{α:Type}{f:α->List UInt8}{l:List α}{k:Nat}(hk:k<l.length)(h:(l.map f).take k=[]):k=0:=by
 have:=congrArg List.length h
 rw[List.length_take,List.length_map,Zg]at this;omega
def iH(s:BA):List UInt8:=s.data.toList
theorem bUs{l:LB}{k:Nat}(h:k<l.length):(l.map iH).take (k+1)=(l.map iH).take k++[iH (l[k]?.getD ByteArray.empty)]:=by
 exact bEb
theorem bAe(A:OA)(n c:Nat)(ss:LB)(w:World)(h:aS w A n ss)(hn:n<=1000)(hs:∀s∈ss,s.size<=1000):
 Calls Tryz.prog 33 #[.slice A n c] w fun e w'=>e=.returned (.string (aB (dI 44 (ss.map iH))))/\w'=w:=by
 have Cq:=h.len;have HR:=Hd h;have Bs:=Hd fun k=>(show(dI 44 ((ss.map iH).take k)).length<=1002000 from Yr (aWa (m:=1000) k fun s Ct=>hs s Ct) aA);have Gc:=Hd fun(k:Nat) (hk:k<n)=>(show(ss[k]?.getD ByteArray.empty).size<=1000 by
  rw[Yk aA,Yv];exact hs _ (Zk _))
 have Aa:=Hd fun(k:Nat)(hk:k<ss.length)=>bUs hk;have Fs:=Hd fun(k:Nat)(hk:k<ss.length) h=>aSe (f:=iH) (l:=ss) (k:=k) hk h;have Fk:=Hd Cq;clear h hs Cq;go_in
 go_wp2_with fail;go_loopw [3,4] (fun s i wr=>∃k:Nat,k<=n/\i=.int .i64 k/\s=.string (aB (dI 44 ((ss.map iH).take k)))/\wr=w) (fun _ i _=>n-(intOf i).toNat)
 case atStart=>exact⟨0,Ys _,rfl,rfl,rfl⟩
 case round=>
  obtain⟨k,hk,rfl,rfl,rfl⟩:=hrel;have Hy:=Bs.o k;by_cases Ah:k<n
  . obtain⟨b,off,rfl,hb,hc⟩:=HR.o.at_ Ah;have d0:=hc k Ah;have Au:=Gc.o k Ah;have Cg:=Hd (Aa.o k pC);have Ae:=Hd (Fs.o k pC);clear hc;generalize ss[k]?.getD ByteArray.empty=y at *;generalize Aq:(ss.map iH).take k=tk at *;have Hb:(aB (dI 44 tk)).size=(dI 44 tk).length:=iJ _;by_cases h0:k=0
    . subst h0;simp only [Nat.add_zero] at d0;have HE:=Hd (show aB (dI 44 tk)++y=aB (dI 44 ((ss.map iH).take (0+1))) by
       rw[Cg.o,<-Aq];exact eT (by simp[aB,dI,iH]))
      generalize aB (dI 44 tk)=sa at *;have z1:(9223372036854775807<sa.size+y.size)=False:=aW;go_wp2_with fail;go_roundw;case rel=>exact⟨1,by omega,by go_num,by rw[<-HE.o],lY⟩
      case measure=>simp[intOf];omega
    . have hd:decide ((0:Int)<(k:Int))=true:=Xc aA;have HE:=Hd (show aB (dI 44 tk)++(⟨#[44,32]⟩:BA)++y=aB (dI 44 ((ss.map iH).take (k+1))) by
       rw[Cg.o,aL8 44 tk _ (fun h=>h0 (Ae.o h))];exact eT (by simp[aB,iH]))
      generalize aB (dI 44 tk)=sa at *;have z1:(9223372036854775807<sa.size+2)=False:=aW;have z2:(9223372036854775807<sa.size+2+y.size)=False:=aW;go_wp2_with fail;go_roundw;case rel=>exact⟨k+1,by omega,by go_num,by rw[<-HE.o],lY⟩
      case measure=>simp[intOf];omega
  . have Ha:k=n:=by omega
    have HE:=Hd (show(ss.map iH).take k=ss.map iH from Yz bB4);go_wp2_with fail;go_ret;exact⟨iK (by rw[HE.o]),rfl⟩
end
end Go.Proofs.YtagkcjpoipcpkaaGreatDoor
