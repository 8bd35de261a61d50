/- A part of the proof. Conditions: each theorem's own. -/
import Derived.Test.YtagkcjpoipcpkaaGreatDoorF10
import Derived.Test.YtagkcjpoipcpkaaGreatDoorF23
namespace Go.Proofs.YtagkcjpoipcpkaaGreatDoor
set_option linter.unusedVariables false
set_option linter.unusedSimpArgs false
set_option maxRecDepth 100000
set_option maxHeartbeats 40000000
section
open Go.RowKit Go.Sort
def eU:Ex:=.mk 0 0 ByteArray.empty 0 [] []
def mW(N:Nat)(all:List Tk)(at_:Int):Ex × Int × Int:=
 if iM all at_=true then
  match (aV N).ar (all.drop at_.toNat)with
  |.bad q=>(eU,((all.length-q.length:Nat):Int),2)
  |.ok x r1=>if 60<aT x\/12<gC x then(eU,at_,3)else if bJ x=false then(eU,at_,1)else(x,((all.length-r1.length:Nat):Int),0)
 else(eU,0,1)
section
variable {w w':World}{A:OA}{n c:Nat}{all:List Tk}
theorem aL9{at_:Int}(h:iM all at_=true):0<=at_/\at_<(all.length:Int)/\aU (all.drop at_.toNat)/\(all.drop at_.toNat).length=all.length-at_.toNat:=by
 simp only[iM,Yu,decide_eq_true_eq,beq_iff_eq]at h;obtain⟨h0,h1,h2⟩:=h;refine⟨h0,h1,?_,by simp⟩;have Ah:at_.toNat<all.length:=aA
 have Bv:all.drop at_.toNat≠[]:=fun e=>by
  have:=congrArg List.length e
  simp at this;omega
 refine⟨(all.drop at_.toNat).dropLast,(all.drop at_.toNat).getLast Bv,(List.dropLast_concat_getLast Bv).symm,?_⟩;rw[List.getLast_drop];rw[List.getLast_eq_getElem];rw[Yk aA]at h2;exact h2
def dS:Option Addr->Nat
 |some a=>a.block
 |none=>0
def aD6(b0 m:Nat):List Nat:=m::(List.range m).filter (fun k=>decide (k≠b0))
theorem aE2{b0 m k:Nat}:k∈aD6 b0 m↔k=m\/(k<m/\k≠b0):=by simp[aD6]
theorem bAf(h:eI w A n all)(ht:∀t∈all,iW t){at_:Int}(hb:iM all at_=true):aP (w.alloc (.cells (nE (.slice A n c) at_ (.slice none 0 0) (.slice none 0 0) 0) 257)) w.heap.size A n c all (all.drop at_.toNat) (.slice none 0 0) [] (.slice none 0 0) [] 0 (aD6 (dS A) w.heap.size):=by
 obtain⟨h0,h1,h2,h3⟩:=aL9 hb;have hl:=h.1;refine⟨?_,⟨h.1,h.2.1,fun hn=>?_⟩,?_,?_,h2,ht,⟨rfl,.inl ⟨rfl,rfl⟩⟩,⟨[],⟨rfl,.inl ⟨rfl,rfl⟩⟩,rfl⟩,aE2.2 (.inl rfl),fun k hk=>(by cases hk),fun k hk=>(by cases hk),fun k hk=>?_⟩;· rw[Xa,h3,show((n-(all.length-at_.toNat):Nat):Int)=at_ by omega]
 . obtain⟨b,off,e,Ah,hc⟩:=h.2.2 hn
   have Dp:b∉aD6 (dS A) w.heap.size:=fun hk=>by
    rw[e]at hk;rcases aE2.1 hk with hk|hk;· omega
    . exact hk.2 rfl
   have Aa:∀o v,w.cell? ⟨b,o,none⟩=some v->(fR (aD6 (dS A) w.heap.size) (w.alloc (.cells (nE (.slice A n c) at_ (.slice none 0 0) (.slice none 0 0) 0) 257))).cell? ⟨b,o,none⟩=some v:=fun o v hv=>by
    rw[rR (p:=⟨b,o,none⟩) Dp];exact(Yj _ _ _ Ah).trans hv
   exact⟨b,off,e,by rw[xM];simp;omega,fun i hi=>⟨Aa _ _ (hc i hi).1,Aa _ _ (hc i hi).2.1,Aa _ _ (hc i hi).2.2.1,Aa _ _ (hc i hi).2.2.2⟩⟩
 . rw[h3];omega
 . rw[h3,show n-(all.length-at_.toNat)=at_.toNat by omega]
 . rcases aE2.1 hk with hk|hk;· rw[hk];simp
   . simp;omega
def vC(B b0 N:Nat)(all:List Tk)(at_:Int)(e:Ending)(w':World):Prop:=
 ∃A1 ca B1 cb,e=.returned (.tuple #[.agg (aJ (mW N all at_).1 A1 ca B1 cb),.int .i64 (mW N all at_).2.1,.int .i64 (mW N all at_).2.2])/\aM (gZ B b0 w') (mW N all at_).1 A1 B1
theorem aB2(w:World):aM w eU none none:=by
 simp only[eU,aM];exact⟨aS.nil_ _,by simp,fun h=>by simp at h⟩
theorem aCh{fn:Func}{p u v:Tmp}(h:fn.results=#[.cell p 79,.tmp u,.tmp v])(tmps:AV)(w:World)(g:Nat){x:Ex}{A1:OA}{Bu:Nat}{B1:OA}{Br:Nat}
 (hp:tmps.getD p undef=.pointer (some ⟨g,0,none⟩))(hg:aX w g x A1 Bu B1 Br):(results fn tmps).run Tryz.prog w=.ok (.tuple #[.agg (aJ x A1 Bu B1 Br),tmps.getD u undef,tmps.getD v undef]) w:=by
 rw[aR6 h,hp];have hl:=run_loadVar_row (P:=Tryz.prog) w g 79 79 _ _ _ hg Tryz.underlying79 rfl aE6;simp[asAddr,Result.andThen,hl]
theorem xH{m g:Nat}{w w1:World}(h:Below m w w1)(hm:m<=g)(cs:AV):Below m w (w1.setRow g cs):=
 ⟨h.os,h.tape,h.output,by rw[setRow_size];exact h.size,fun k hk=>(setRow_other _ _ _ _ aA).trans (h.block k hk)⟩
theorem eI.stay(h:eI w A n all){w1:World}(h1:Below w.heap.size w w1):eI w1 A n all:=h.up h1.size (fun p v hc=>(h1.cell (Yi _ _ hc)).trans hc)
theorem bM5{N:Nat}{at_:Int}(hb:iM all at_=false):mW N all at_=(eU,0,1):=by simp[mW,hb]
theorem bQn{N:Nat}{at_:Int}{q:List Tk}(hb:iM all at_=true)(hp:(aV N).ar (all.drop at_.toNat)=.bad q):mW N all at_=(eU,((all.length-q.length:Nat):Int),2):=by simp only[mW,hb,if_true,hp]
theorem bM6{N:Nat}{at_:Int}{x:Ex}{r1:List Tk}(hb:iM all at_=true)(hp:(aV N).ar (all.drop at_.toNat)=.ok x r1)(hx:60<aT x\/12<gC x):mW N all at_=(eU,at_,3):=by simp only[mW,hb,if_true,hp,if_pos hx]
theorem bQo{N:Nat}{at_:Int}{x:Ex}{r1:List Tk}(hb:iM all at_=true)(hp:(aV N).ar (all.drop at_.toNat)=.ok x r1)(hx:¬(60<aT x\/12<gC x))(hr:bJ x=false):mW N all at_=(eU,at_,1):=by simp only[mW,hb,if_true,hp,if_neg hx,hr]
theorem bUt{N:Nat}{at_:Int}{x:Ex}{r1:List Tk}(hb:iM all at_=true)(hp:(aV N).ar (all.drop at_.toNat)=.ok x r1)(hx:¬(60<aT x\/12<gC x))(hr:bJ x=true):mW N all at_=(x,((all.length-r1.length:Nat):Int),0):=by
 simp only[mW,hb,if_true,hp,if_neg hx,hr];simp
theorem cDb{at_:Int}(h:eI w A n all)(hb:iM all at_=true):w.heap.size≠dS A:=by
 obtain⟨h0,h1,_,_⟩:=aL9 hb;have hl:=h.1;obtain⟨b,off,e,Ah,_⟩:=h.2.2 aA;rw[e];show w.heap.size≠b;omega
theorem aUo{N:Nat}{at_:Int}(h:eI w A n all)(ht:∀t∈all,iW t)(hn:all.length<=10000)(hN:all.length<=N)(hb:iM all at_=true)(w1:World)(h1:Below w.heap.size w w1):
 Calls Tryz.prog 226 #[rp w1.heap.size,bA w1.heap.size .arrow] (w1.alloc (.cells (nE (.slice A n c) at_ (.slice none 0 0) (.slice none 0 0) 0) 257)) fun e w'=>Below w1.heap.size w1 w'/\match (aV N).ar (all.drop at_.toNat)with
  |.ok x r1=>e=.returned (.bool true)/\aU r1/\r1.length<(all.drop at_.toNat).length/\aZw w1.heap.size (dS A) w' w1.heap.size A n c x r1
  |.bad q=>e=.returned (.bool false)/\aIc w' w1.heap.size A n c q:=by
 obtain⟨h0,h2,h3,h4⟩:=aL9 hb;refine(bXm (m:=w1.heap.size) (b0:=dS A) (N:=N) aA (bAf (h.stay h1) ht hb) aA (Yh _) rfl rfl (fun j hj Aa=>aE2.2 (.inr ⟨hj,Aa⟩)) aC).mono ?_;intro e w' ⟨Cl,hx⟩;exact⟨((Yg _ _).alloc (Yh _) _).trans Cl,hx⟩
theorem bQp(N:Nat)(at_:Int)(h:eI w A n all)(ht:∀t∈all,iW t)(hn:all.length<=10000)(hN:all.length<=N)(ha:-9223372036854775808<=at_/\at_<=9223372036854775807)(hb:iM all at_=false):
 Calls Tryz.prog 193 #[.slice A n c,.int .i64 at_] w fun e w'=>Below w.heap.size w w'/\vC w.heap.size (dS A) N all at_ e w':=by
 unfold vC;rw[bM5 hb];have HB:=Hd fun w1 (h1:Below w.heap.size w w1)=>aB1 (w:=w1) (c:=c) at_ (h.stay h1) ha;rw[hb]at HB;clear h hb;go_in
 go_wp2_with fail;generalize Aa:w.alloc _=w0;have Cd:=Hd (show Below w.heap.size w w0 by rw[<-Aa];exact(Yg _ _).alloc (Yh _) _);have Ae:=Hd (show aX w0 w.heap.size eU none 0 none 0 by rw[<-Aa];exact Xa _ _);clear Aa;refine(HB.o w0 Cd.o).mono ?_;rintro e w1 ⟨rfl,Ab⟩;have Ac:=Hd (Cd.o.tr Ab);have Bi:=Hd (show aX w1 w.heap.size eU none 0 none 0 from(Ab.block _ Ae.o.lt).trans Ae.o);clear Ab;go_wp2_with (first|(refine Zz rfl _ _ _ rfl (w.heap.size) _ rfl rfl _ _ (Bi.o) aE6 rfl aKq ?_));exact Zy (aCh (p:=4) (u:=5) (v:=6) rfl _ _ (w.heap.size) rfl (Bi.o.set (y:=eU) (A2:=none) (ca2:=0) (B2:=none) (cb2:=0))) rfl ⟨xH Ac.o (Yh _) _,_,_,_,_,rfl,aB2 _⟩
theorem bUu(N:Nat)(at_:Int)(h:eI w A n all)(ht:∀t∈all,iW t)(hn:all.length<=10000)(hN:all.length<=N)(ha:-9223372036854775808<=at_/\at_<=9223372036854775807)(hb:iM all at_=true){q:List Tk}(hp:(aV N).ar (all.drop at_.toNat)=.bad q):
 Calls Tryz.prog 193 #[.slice A n c,.int .i64 at_] w fun e w'=>Below w.heap.size w w'/\vC w.heap.size (dS A) N all at_ e w':=by
 unfold vC;rw[bQn hb hp];have HW:=Hd (aUo (c:=c) h ht hn hN hb);simp only[hp]at HW;have HB:=Hd fun w1 (h1:Below w.heap.size w w1)=>aB1 (w:=w1) (c:=c) at_ (h.stay h1) ha;rw[hb]at HB;rw[h.1];clear h hb hp;go_in
 go_wp2_with fail;generalize Ae:w.alloc _=w0;have Cd:=Hd (show Below w.heap.size w w0 by rw[<-Ae];exact(Yg _ _).alloc (Yh _) _);have Aq:=Hd (show aX w0 w.heap.size eU none 0 none 0 by rw[<-Ae];exact Xa _ _);clear Ae;refine(HB.o w0 Cd.o).mono ?_;rintro e w1 ⟨rfl,Ab⟩;have Ac:=Hd (Cd.o.tr Ab);have Bi:=Hd (show aX w1 w.heap.size eU none 0 none 0 from(Ab.block _ Aq.o.lt).trans Aq.o);clear Ab;go_wp2_with fail;refine(HW.o w1 Ac.o).mono ?_;rintro e w2 ⟨Ag,hx⟩;have Ai:=Hd (Ac.o.tr Ag);have Cn:=Hd (show aX w2 w.heap.size eU none 0 none 0 from(Ag.block _ Bi.o.lt).trans Bi.o);clear Ag;have Ct:w.heap.size≠w1.heap.size:=by have:=Bi.o.lt;omega
 generalize w1.heap.size=b at *;obtain⟨rfl,va,vp,sz,Ad⟩:=hx;have q1:=jN Ad 1 (.int .i64 ((n-q.length:Nat):Int)) rfl;clear Ad;have Ha:b≠w.heap.size:=Ne.symm Ct;obtain⟨d0,d1,d2,d3,d4,d5⟩:=Cn.o.cells;have f0:=Cn.o.fz 0;have f1:=Cn.o.fz 1;have f2:=Cn.o.fz 2;have f3:=Cn.o.fz 3;have f4:=Cn.o.fz 4;have f5:=Cn.o.fz 5;have hl:=Cn.o.lt;unfold eU at d0 d1 d2 d3 d4 d5;simp only[Ex.k,Ex.n,Ex.s,Ex.op,Ex.arms,Ex.subs,Zg]at d0 d1 d2 d3 d4 d5;go_upto_region 5 with(fail);go_region;have Aa:=aIs Cn.o eU none 0 none 0;unfold eU at Aa;simp only[Ex.k,Ex.n,Ex.s,Ex.op,Ex.arms,Ex.subs,Zg]at Aa;have Fs:(⟨#[]⟩:BA)=ByteArray.empty:=rfl;simp only[Fs]at *;rw[Aa];clear Aa d0 d1 d2 d3 d4 d5 f0 f1 f2 f3 f4 f5 q1;have Bs:=Hd (show aX (w2.setRow w.heap.size (aJ eU none 0 none 0)).drew w.heap.size eU none 0 none 0 from Cn.o.set);have Aj:=Hd (show Below w.heap.size w (w2.setRow w.heap.size (aJ eU none 0 none 0)).drew from(xH Ai.o (Yh _) _).drew);unfold eU at Bs Aj;generalize (w2.setRow w.heap.size _).drew=w3 at *;go_wp2_with fail;exact Zy (aCh (p:=4) (u:=5) (v:=6) rfl _ _ (w.heap.size) rfl Bs.o) rfl ⟨Aj.o,_,_,_,_,rfl,aB2 _⟩
theorem aIe{B b0 N:Nat}{at_:Int}{z:Ex × Int × Int}{e:Ending}{W:World}{A1:OA}{ca:Nat}{B1:OA}{cb:Nat}(hz:mW N all at_=z)(he:e=.returned (.tuple #[.agg (aJ z.1 A1 ca B1 cb),.int .i64 z.2.1,.int .i64 z.2.2]))(hx:aM (gZ B b0 W) z.1 A1 B1):vC B b0 N all at_ e W:=by
 unfold vC;rw[hz];exact⟨_,_,_,_,he,hx⟩
theorem bM7(N:Nat)(at_:Int)(h:eI w A n all)(ht:∀t∈all,iW t)(hn:all.length<=10000)(hN:all.length<=N)(ha:-9223372036854775808<=at_/\at_<=9223372036854775807)(hb:iM all at_=true){x:Ex}{r1:List Tk}(hp:(aV N).ar (all.drop at_.toNat)=.ok x r1)(Nv:aT x<=60->∀p∈bP x,eS p):
 Calls Tryz.prog 193 #[.slice A n c,.int .i64 at_] w fun e w'=>Below w.heap.size w w'/\vC w.heap.size (dS A) N all at_ e w':=by
 have Ns:=Hd fun h=>bM6 (N:=N) hb hp h;have Of:=Hd fun h1 h2=>bQo (N:=N) hb hp h1 h2;have Nj:=fun h1 h2=>bUt (N:=N) hb hp h1 h2;rw[h.1]at Nj;have Nx:=Hd Nj;clear Nj;have Jx:=Hd (cDb h hb);have HW:=Hd (aUo (c:=c) h ht hn hN hb);simp only[hp]at HW;have HB:=Hd fun w1 (h1:Below w.heap.size w w1)=>aB1 (w:=w1) (c:=c) at_ (h.stay h1) ha;rw[hb]at HB;clear h hb hp;have Ob:=Hd Nv;clear Nv;go_in
 go_wp2_with fail;generalize Nn:w.alloc _=w0;have Cd:=Hd (show Below w.heap.size w w0 by rw[<-Nn];exact(Yg _ _).alloc (Yh _) _);have No:=Hd (show aX w0 w.heap.size eU none 0 none 0 by rw[<-Nn];exact Xa _ _);clear Nn;refine(HB.o w0 Cd.o).mono ?_;rintro e w1 ⟨rfl,Ab⟩;have Ac:=Hd (Cd.o.tr Ab);have Bi:=Hd (show aX w1 w.heap.size eU none 0 none 0 from(Ab.block _ No.o.lt).trans No.o);clear Ab;go_wp2_with fail;refine(HW.o w1 Ac.o).mono ?_;rintro e w2 ⟨Ag,hx⟩;have Ai:=Hd (Ac.o.tr Ag);have Cn:=Hd (show aX w2 w.heap.size eU none 0 none 0 from(Ag.block _ Bi.o.lt).trans Bi.o);clear Ag;have Oe:w.heap.size≠w1.heap.size:=by have:=Bi.o.lt;omega
 have Nq:=Hd (show w.heap.size<w1.heap.size from Bi.o.lt);generalize w1.heap.size=b at *;obtain⟨rfl,_,_,va,g,cp,x1,A1,Bu,B1,Br,Ad,Ae,Nu,Nt⟩:=hx;have q1:=jN Ad 1 (.int .i64 ((n-r1.length:Nat):Int)) rfl;have q3:=jN Ad 3 (.slice (some ⟨g,0,none⟩) 1 cp) rfl;have q4:=jN Ad 4 (.int .i64 (aT x:Int)) rfl;have k0:=Ae 0 (.int .i64 x1.k) rfl;have k1:=Ae 1 (.int .i64 x1.n) rfl;have k2:=Ae 2 (.string x1.s) rfl;have k3:=Ae 3 (.int .i64 x1.op) rfl;have k4:=Ae 4 (.slice A1 x1.arms.length Bu) rfl;have k5:=Ae 5 (.slice B1 x1.subs.length Br) rfl;simp only[Nat.zero_add]at k0 k1 k2 k3 k4 k5;have HX:=Hd Nt;have Nr:=Hd Nu;clear Ad Ae Nu Nt;go_upto_region 7 with(fail);have Cc:=(Yg w2.heap.size w2).alloc (Yh _) (.cells (aJ x1 A1 Bu B1 Br) 79);have Hb:=Hd (show aX (w2.alloc (.cells (aJ x1 A1 Bu B1 Br) 79)) w2.heap.size x1 A1 Bu B1 Br from Xa _ _);have Ct:=Hd (show aX (w2.alloc (.cells (aJ x1 A1 Bu B1 Br) 79)) w.heap.size eU none 0 none 0 from(Cc.block _ Cn.o.lt).trans Cn.o);have Aj:=Hd (Ai.o.tr Cc);have Aa:=Hd (aN8 Nr.o Cc.size (fun k _ hk=>Cc.block k hk));have q1:=(Cc.cell (Yi _ _ q1)).trans q1;have q4:=(Cc.cell (Yi _ _ q4)).trans q4;have Od:w.heap.size≠w2.heap.size:=by have:=Cn.o.lt;omega
 unfold aJ at Hb Ct Aj Aa q1 q4;clear Cc q3 k0 k1 k2 k3 k4 k5 Nr;generalize w2.alloc _=w3 at *;generalize w2.heap.size=eb at *;by_cases Fs:60<aT x
 . have Gc:=Hd Fs;clear Fs;have hs:(60:Int)<(aT x:Int):=aKt;have hd:decide ((60:Int)<(aT x:Int))=true:=Xc hs;go_wp2_with (first|(refine Zz rfl _ _ _ rfl (w.heap.size) _ rfl rfl _ _ (Ct.o) aE6 rfl aKq ?_));exact Zy (aCh (p:=4) (u:=5) (v:=6) rfl _ _ (w.heap.size) rfl (Ct.o.set (y:=eU) (A2:=none) (ca2:=0) (B2:=none) (cb2:=0))) rfl ⟨xH Aj.o (Yh _) _,aIe (Ns.o (.inl Gc.o)) rfl (aB2 _)⟩
 . have Gc:=Hd (Nat.le_of_not_lt Fs);clear Fs;obtain rfl:=HX.o Gc.o;have hs:¬(60:Int)<(aT x1:Int):=aKt;have hd:decide ((60:Int)<(aT x1:Int))=false:=Xd hs;have Nz:=Hd fun w1 (h1:Below w3.heap.size w3 w1)=>aYt x1 A1 Bu B1 Br w1 ((aT8 Aa.o).below h1) aKt;have Ny:=Hd fun w1 (h1:Below w3.heap.size w3 w1)=>aY2 x1 A1 Bu B1 Br w1 ((aT8 Aa.o).below h1) aKt (Ob.o Gc.o);obtain⟨e0,e1,e2,e3,e4,e5⟩:=Hb.o.cells;go_wp2_with fail;refine(Nz.o w3 (Yg _ _)).mono ?_;rintro e w4 ⟨rfl,Aq⟩;have Bd:=Hd (Aj.o.tr Aq);have Ju:=Hd (show aX w4 w.heap.size eU none 0 none 0 from(Aq.block _ Ct.o.lt).trans Ct.o);have Nl:=Hd (show aX w4 eb x1 A1 Bu B1 Br from(Aq.block _ Hb.o.lt).trans Hb.o);have Ni:=Hd Aq;have q1:=(Aq.cell (Yi _ _ q1)).trans q1;clear Aq e0 e1 e2 e3 e4 e5 q4;by_cases Ha:12<gC x1
   . have Bs:=Hd Ha;clear Ha;generalize gC x1=dx at *;have Nk:(12:Int)<(dx:Int):=by have:=Bs.o;omega
     have Oa:decide ((12:Int)<(dx:Int))=true:=Xc Nk;go_wp2_with (first|(refine Zz rfl _ _ _ rfl (w.heap.size) _ rfl rfl _ _ (Ju.o) aE6 rfl aKq ?_));exact Zy (aCh (p:=4) (u:=5) (v:=6) rfl _ _ (w.heap.size) rfl (Ju.o.set (y:=eU) (A2:=none) (ca2:=0) (B2:=none) (cb2:=0))) rfl ⟨xH Bd.o (Yh _) _,aIe (Ns.o (.inr Bs.o)) rfl (aB2 _)⟩
   . have Bs:=Hd (Nat.le_of_not_lt Ha);have Iv:=Hd (show ¬(60<aT x1\/12<gC x1)by have:=Gc.o;omega);clear Ha;generalize Nm:gC x1=dx at Bs⊢;clear Nm;have Nk:¬(12:Int)<(dx:Int):=by have:=Bs.o;omega
     have Oa:decide ((12:Int)<(dx:Int))=false:=Xd Nk;obtain⟨e0,e1,e2,e3,e4,e5⟩:=Nl.o.cells;go_wp2_with fail;refine(Ny.o w4 Ni.o).mono ?_;rintro e w5 ⟨rfl,Cs⟩;have Bl:=Hd (Bd.o.tr Cs);have Ff:=Hd (show aX w5 w.heap.size eU none 0 none 0 from(Cs.block _ Ju.o.lt).trans Ju.o);have Oc:=Hd (show aX w5 eb x1 A1 Bu B1 Br from(Cs.block _ Nl.o.lt).trans Nl.o);have Nh:=Hd (aN8 Aa.o (Ni.o.tr Cs).size (fun k _ hk=>(Ni.o.tr Cs).block k hk));have q1:=(Cs.cell (Yi _ _ q1)).trans q1;clear Cs e0 e1 e2 e3 e4 e5;cases Hc:bJ x1 with
     |false=>
      have Ng:=Hd Hc;clear Hc;go_wp2_with (first|(refine Zz rfl _ _ _ rfl (w.heap.size) _ rfl rfl _ _ (Ff.o) aE6 rfl aKq ?_));exact Zy (aCh (p:=4) (u:=5) (v:=6) rfl _ _ (w.heap.size) rfl (Ff.o.set (y:=eU) (A2:=none) (ca2:=0) (B2:=none) (cb2:=0))) rfl ⟨xH Bl.o (Yh _) _,aIe (Of.o Iv.o Ng.o) rfl (aB2 _)⟩
     |true=>
      have Ng:=Hd Hc;clear Hc;have Og:b≠w.heap.size:=Ne.symm Oe;have Oh:eb≠w.heap.size:=Ne.symm Od;obtain⟨e0,e1,e2,e3,e4,e5⟩:=Oc.o.cells;obtain⟨d0,d1,d2,d3,d4,d5⟩:=Ff.o.cells;have f0:=Ff.o.fz 0;have f1:=Ff.o.fz 1;have f2:=Ff.o.fz 2;have f3:=Ff.o.fz 3;have f4:=Ff.o.fz 4;have f5:=Ff.o.fz 5;have hl:=Ff.o.lt;unfold eU at d0 d1 d2 d3 d4 d5;simp only[Ex.k,Ex.n,Ex.s,Ex.op,Ex.arms,Ex.subs,Zg]at d0 d1 d2 d3 d4 d5;go_upto_region 11 with(fail);go_region;rw[aIs Ff.o x1 A1 Bu B1 Br];clear d0 d1 d2 d3 d4 d5 f0 f1 f2 f3 f4 f5 q1 e0 e1 e2 e3 e4 e5;have Nw:=Hd (show aX (w5.setRow w.heap.size (aJ x1 A1 Bu B1 Br)).drew w.heap.size x1 A1 Bu B1 Br from Ff.o.set);have Db:=Hd (show Below w.heap.size w (w5.setRow w.heap.size (aJ x1 A1 Bu B1 Br)).drew from(xH Bl.o (Yh _) _).drew);have Np:aM (gZ w.heap.size (dS A) (w5.setRow w.heap.size (aJ x1 A1 Bu B1 Br)).drew) x1 A1 B1:=bMv (aN8 Nh.o (by show w5.heap.size<=(w5.setRow _ _).heap.size;rw[setRow_size];exact Yh _) (fun k hk _=>(setRow_other _ _ _ _ (fun e=>hk ⟨by rw[e];exact Nq.o,by rw[e];exact Jx.o⟩)))) (Nat.le_of_lt Nq.o);have Ee:=Hd Np;clear Np;generalize (w5.setRow w.heap.size _).drew=w6 at *;go_wp2_with fail;exact Zy (aCh (p:=4) (u:=5) (v:=6) rfl _ _ (w.heap.size) rfl Nw.o) rfl ⟨Db.o,aIe (Nx.o Iv.o Ng.o) rfl Ee.o⟩
theorem cBm(N:Nat)(at_:Int)(h:eI w A n all)(ht:∀t∈all,iW t)(hn:all.length<=10000)(hN:all.length<=N)(ha:-9223372036854775808<=at_/\at_<=9223372036854775807)(Aa:∀x r1,(aV N).ar (all.drop at_.toNat)=.ok x r1->aT x<=60->∀p∈bP x,eS p):
 Calls Tryz.prog 193 #[.slice A n c,.int .i64 at_] w fun e w'=>Below w.heap.size w w'/\vC w.heap.size (dS A) N all at_ e w':=by
 cases hb:iM all at_ with
 |false=>exact bQp N at_ h ht hn hN ha hb
 |true=>
  cases hp:(aV N).ar (all.drop at_.toNat)with
  |bad q=>exact bUu N at_ h ht hn hN ha hb hp
  |ok x r1=>
   exact bM7 N at_ h ht hn hN ha hb hp (Aa x r1 hp)
end
end
section
open Go.RowKit Go.Sort
section
variable {w w':World}
end
end
section
open Go.RowKit Go.Sort
section
variable {w w1 w2 w':World}{b:Nat}{A:OA}{n c:Nat}{all r r' r2:List Tk}{va va1 vp:Value}{st:LV}{ps:List Ex}{sz:Nat}{L L1 L2 S ft:LN}
def fY(w:World)(p:Nat)(s:BA):Prop:=w.heap[p]?=some (.cells #[.string s] 9)
theorem aWb{k:Nat}(hb:Below w.heap.size (bl b w) (bl b w2))(hk:k≠b)(Ah:k<w.heap.size):w2.heap[k]?=w.heap[k]?:=by
 have h:=hb.block k Ah;unfold bl at h;simpa[Array.getElem?_setIfInBounds,Ne.symm hk]using h
theorem fY.cell{p:Nat}{s:BA}(h:fY w p s):w.cell? ⟨p,0,none⟩=some (.string s):=jN h 0 _ rfl
theorem fY.fz{p:Nat}{s:BA}(h:fY w p s):w.frozen? ⟨p,0,none⟩=false:=by
 unfold World.frozen?;rw[show w.heap[p]?=_ from h];rfl
theorem cDc(p0 p1 p2:Nat)(s1 s2:BA)(h:bM w b A n c all r va vp sz)(h0:w.cell? ⟨p0,0,none⟩=some (rp b))(h1:fY w p1 s1)(h2:fY w p2 s2)(Ae:p0≠b)(Ab:p1≠b)(Ag:p2≠b)(Cy:p1≠p2):
 Calls Tryz.prog 243 #[rp p0,rp p1,rp p2] w fun e w'=>match dU r with
  |.ok z r1=>e=.returned (.tuple #[])/\∃w2,bM w2 b A n c all r1 va vp sz/\Below w.heap.size (bl b w) (bl b w2)/\w'=(w2.setCell ⟨p1,0,none⟩ (.string (aB z.1))).setCell ⟨p2,0,none⟩ (.string (aB z.2))
  |.bad q=>e=zB/\bM w' b A n c all q va vp sz/\Below w.heap.size (bl b w) (bl b w'):=by
 have HW:=Hd (aOv h);cases hw:dU r with
 |bad q=>
  have HK:=Hd (cW.bad_ HW.o hw);clear HW hw h;go_in
  go_wp2_with fail;refine HK.o.mono ?_;rintro e w2 ⟨rfl,hq,hb⟩;have HQ:=Hd hq;have HB:=Hd hb;clear hq hb;go_wp2_with fail;exact⟨rfl,rfl,HQ.o,HB.o⟩
 |ok z q=>
  have HK:=Hd (cW.ok_ HW.o hw);unfold aQk at HK;have H1:=Hd h1;have H2:=Hd h2;clear HW hw h h1 h2;generalize Co:aB z.1=z1 at *;generalize Cr:aB z.2=z2 at *;have Bn:=Hd Co;have Da:=Hd Cr;clear Co Cr;go_in
  go_wp2_with fail;refine HK.o.mono ?_;rintro e w2 ⟨rfl,hq,hb⟩;have k1:fY w2 p1 s1:=(aWb hb Ab (Ym.1 H1.o).1).trans H1.o;have k2:fY w2 p2 s2:=(aWb hb Ag (Ym.1 H2.o).1).trans H2.o;have c1:=k1.cell;have c2:=k2.cell;have f1:=k1.fz;have f2:=k2.fz;have Aa:p2≠p1:=Ne.symm Cy;have HQ:=Hd hq;have HB:=Hd hb;clear hq hb k1 k2;go_wp2_with fail;go_end0
  exact⟨rfl,w2,HQ.o,HB.o,by rw[Bn.o,Da.o]⟩
end
end
section
open Go.RowKit Go.Sort
section
variable {w w0 w1 w2 w':World}{b:Nat}{A:OA}{n c:Nat}{all r r' r2:List Tk}{va va1 vp:Value}{st:LV}{ps:List Ex}{sz:Nat}{L L1 L2 S ft:LN}
theorem fY.set{p:Nat}{s:BA}(h:fY w p s)(t:BA):fY (w.setCell ⟨p,0,none⟩ (.string t)) p t:=by
 unfold fY;rw[Xi _ _ _ _ _ _ _ h,Xh _ _ _ _ _ _ h];rfl
theorem fY.other{p q:Nat}{s:BA}(h:fY w p s)(hn:p≠q)(v:Value):fY (w.setCell ⟨q,0,none⟩ v) p s:=(Xb _ _ _ _ hn).trans h
theorem fY.stay{p:Nat}{s:BA}(h:fY w p s)(ht:Tn S L L1 w w1)(hn:p∉S):fY w1 p s:=(ht.block p (Ym.1 h).1 hn).trans h
structure bYo (b p0 p1 p2 m:Nat)(va vp:Value)(L:LN):Prop where
 l1:p1∈L
 l2:p2∈L
 b1:p1≠b
 b2:p2≠b
 n12:p1≠p2
 a1:va.ownBlock≠some p1
 a2:va.ownBlock≠some p2
 v1:vp.ownBlock≠some p1
 v2:vp.ownBlock≠some p2
 mb:m<=b
 m1:m<=p1
 m2:m<=p2
def IW(b:Nat)(A:OA)(n c:Nat)(all:List Tk)(m:Nat)(w0:World)(p0 p1 p2:Nat)(r0:List Tk)(k:Nat)(L:LN)(w:World):Prop:=
 ∃r va st vp,aP w b A n c all r va st vp [] 0 L/\bYo b p0 p1 p2 m va vp L/\Fz L w p0 (rp b)/\Below m w0 w/\
  ((k=1/\r=r0/\st=[aN 243 #[rp p0,rp p1,rp p2]]/\(∃s1,fY w p1 s1)/\∃s2,fY w p2 s2)\/(k=0/\st=[]/\∃z,dU r0=.ok z r/\fY w p1 (aB z.1)/\fY w p2 (aB z.2)))
def cDd(b:Nat)(A:OA)(n c:Nat)(all:List Tk)(m:Nat)(w0:World)(p0 p1 p2:Nat)(r0:List Tk)(L:LN)(w:World):Prop:=
 ∃r va vp z,w.cell? ⟨p0,0,none⟩=some (rp b)/\aP w b A n c all r va [] vp [] 0 L/\dU r0=.ok z r/\fY w p1 (aB z.1)/\fY w p2 (aB z.2)/\Below m w0 w
def cDs(b:Nat)(A:OA)(n c:Nat)(m:Nat)(w0:World)(p0:Nat)(r0:List Tk)(w:World):Prop:=
 ∃q,w.cell? ⟨p0,0,none⟩=some (rp b)/\dU r0=.bad q/\Below m w0 w/\∃Aa Aq Ae,w.heap[b]?=some (.cells (nE (.slice A n c) ((n-q.length:Nat):Int) Aa Aq Ae) 257)
theorem bM8{m p0 p1 p2:Nat}{r0:List Tk}(hm:m<=w0.heap.size):
 aQq b A n c all (IW b A n c all m w0 p0 p1 p2 r0) (cDd b A n c all m w0 p0 p1 p2 r0) (cDs b A n c m w0 p0 r0) where
 at_:=by
  intro k L w ⟨r,va,st,vp,hM,hs,h0,Cl,hk⟩;refine⟨r,va,st,vp,[],0,hM,?_,fun Av=>?_,?_⟩;· rcases hk with⟨_,_,rfl,_⟩|⟨_,rfl,_⟩<;>simp
  . rcases hk with⟨_,_,rfl,_⟩|⟨_,_,z,hz,Ab,Ag⟩;· cases Av
    . subst Av;exact⟨r,va,vp,z,h0.get,hM,hz,Ab,Ag,Cl⟩
  . intro v Nn Av g cap Nj w' Ch Aa Ct;rcases hk with⟨hk,rfl,rfl,⟨s1,Gh⟩,s2,Ef⟩|⟨_,rfl,_⟩
    . injection Av with hv Av;subst hv Av;have Cv:=cV hM;have Js:va.ownBlock=some g:=by rw[Nj];rfl
      have Ab:p1∉[b]:=fun h=>hs.b1 (Yp.1 h);have Ag:p2∉[b]:=fun h=>hs.b2 (Yp.1 h);have Jw:=h0.up Ct Cv;have Ep:p0≠b:=fun e=>(zV Jw).2 (by rw[show(⟨p0,0,none⟩:Addr).block=p0 from rfl,e];exact Aa.lb);have Aq:=Gh.stay Ct Ab;have Ae:=Ef.stay Ct Ag;have Bs:Below m w0 w':=xN Cl Ct (fun j hj=>by rw[Yp.1 hj];exact hs.mb) hm;refine vY ((cDc p0 p1 p2 s1 s2 Aa.q Jw.get Aq Ae Ep hs.b1 hs.b2 hs.n12).mono fun e w2 hx=>?_);cases hw:dU r with
      |bad q=>
       rw[hw]at hx;obtain⟨he,hq,hb⟩:=hx;obtain⟨Nl,Fs⟩:=Aa.move hq hb;exact .inr ⟨he,⟨q,(Jw.up Fs Cv).get,hw,xN Bs Fs (fun j hj=>by rw[Yp.1 hj];exact hs.mb) hm,_,_,_,Nl.row⟩,[b],L,Fs,Cv⟩
      |ok z q=>
       rw[hw]at hx;obtain⟨he,w3,hq,hb,rfl⟩:=hx;obtain⟨Er,Ec⟩:=Aa.move hq hb;have Hb:(Value.slice (some ⟨g,0,none⟩) ([]:LV).length cap).ownBlock≠some p1:=fun e=>hs.a1 (Js.trans e);have Hc:(Value.slice (some ⟨g,0,none⟩) ([]:LV).length cap).ownBlock≠some p2:=fun e=>hs.a2 (Js.trans e);obtain⟨Nh,Nk⟩:=Er.other hs.l1 hs.b1 Hb hs.v1 0 (.string (aB z.1));obtain⟨Hr,Ez⟩:=Nh.other hs.l2 hs.b2 Hc hs.v2 0 (.string (aB z.2));have Ng:=(Aq.stay Ec Ab).set (aB z.1);have Ni:=((Ae.stay Ec Ag).other (Ne.symm hs.n12) (.string (aB z.1))).set (aB z.2);have Ha:=Ng.other hs.n12 (.string (aB z.2))
       have hT:Tn [b,p1,p2] L L w' ((w3.setCell ⟨p1,0,none⟩ (.string (aB z.1))).setCell ⟨p2,0,none⟩ (.string (aB z.2))):=
        ((Ec.mono (S1:=[b,p1,p2]) (fun j hj=>by simp[Yp.1 hj])).trans Nk Aa.lv (fun j hj=>.inl (by simp[Yp.1 hj]))).trans Ez Aa.lv (fun j hj=>.inl (by simp[Yp.1 hj]))
       have Jx:∀j∈[b,p1,p2],j∈L:=fun j hj=>by
        simp only[Yw,Yl,or_false]at hj;rcases hj with rfl|rfl|rfl;· exact Aa.lb
        . exact hs.l1
        . exact hs.l2
       have Nm:∀j∈[b,p1,p2],m<=j:=fun j hj=>by
        simp only[Yw,Yl,or_false]at hj;rcases hj with rfl|rfl|rfl;· exact hs.mb
        . exact hs.m1
        . exact hs.m2
       exact .inl ⟨he,0,L,by omega,⟨q,_,[],vp,Hr,⟨hs.l1,hs.l2,hs.b1,hs.b2,hs.n12,Hb,Hc,hs.v1,hs.v2,hs.mb,hs.m1,hs.m2⟩,Jw.up hT Jx,xN Bs hT Nm hm,.inr ⟨rfl,rfl,z,hw,Ha,Ni⟩⟩,_,hT,Jx⟩
    . cases Av
end
end
section
open Go.RowKit Go.Sort
def sL(all:List Tk)(at_:Int):ByteArray × ByteArray × Int × Bool:=
 if iM all at_=true then
  match dU (all.drop at_.toNat)with
  |.bad q=>(⟨#[]⟩,⟨#[]⟩,((all.length-q.length:Nat):Int),false)
  |.ok z r1=>(aB z.1,aB z.2,((all.length-r1.length:Nat):Int),true)
 else(⟨#[]⟩,⟨#[]⟩,0,false)
def aA1(z:ByteArray × ByteArray × Int × Bool)(e:Ending):Prop:=e=.returned (.tuple #[.string z.1,.string z.2.1,.int .i64 z.2.2.1,.bool z.2.2.2])
section
variable {w w':World}{A:OA}{n c:Nat}{all:List Tk}
theorem bJ2(at_:Int)(h:eI w A n all)(ha:-9223372036854775808<=at_/\at_<=9223372036854775807)(hb:iM all at_=false):
 Calls Tryz.prog 224 #[.slice A n c,.int .i64 at_] w fun e w'=>Below w.heap.size w w'/\aA1 (sL all at_) e:=by
 have HB:=Hd (aB1 (w:=w) (c:=c) at_ h ha);rw[hb]at HB;rw[show sL all at_=(⟨#[]⟩,⟨#[]⟩,0,false)by simp[sL,hb]];clear h hb;go_in
 go_wp2_with fail;refine HB.o.mono ?_;rintro e w1 ⟨rfl,Ab⟩;have Ac:=Hd Ab;clear Ab;go_wp2_with fail;exact Zy (v:=.tuple #[.string ⟨#[]⟩,.string ⟨#[]⟩,.int .i64 0,.bool false]) aQ4 rfl ⟨Ac.o,rfl⟩
theorem aSf{at_:Int}{w1:World}(h:eI w1 A n all)(ht:∀t∈all,iW t)(hb:iM all at_=true):
 Calls Tryz.prog 226 #[rp w1.heap.size,aN 243 #[rp (w1.heap.size+1),rp (w1.heap.size+1+1),rp (w1.heap.size+1+1+1)]]
  ((((w1.alloc (.cells (nE (.slice A n c) at_ (.slice none 0 0) (.slice none 0 0) 0) 257)).alloc (.cells #[rp w1.heap.size] 254)).alloc (.cells #[.string ⟨#[]⟩] 9)).alloc (.cells #[.string ⟨#[]⟩] 9)) fun e w'=>Below w1.heap.size w1 w'/\w'.cell? ⟨w1.heap.size+1,0,none⟩=some (rp w1.heap.size)/\match dU (all.drop at_.toNat)with
  |.ok z r1=>e=.returned (.bool true)/\fY w' (w1.heap.size+1+1) (aB z.1)/\fY w' (w1.heap.size+1+1+1) (aB z.2)/\aIc w' w1.heap.size A n c r1
  |.bad q=>e=.returned (.bool false)/\aIc w' w1.heap.size A n c q:=by
 have Fs:=bAf (c:=c) h ht hb;have Bt:=Fs.alloc (.cells #[rp w1.heap.size] 254);have Hb:=Bt.use ((Yg _ _).alloc (Yh _) (.cells #[.string ⟨#[]⟩] 9)) (Yh _) aC;have Er:=Hb.use ((Yg _ _).alloc (Yh _) (.cells #[.string ⟨#[]⟩] 9)) (Yh _) aC;simp only[World.size_alloc]at Er;generalize hW:(((w1.alloc _).alloc _).alloc _).alloc _=W at *;have Ae:=news (w:=w1) (l:=[(nE (.slice A n c) at_ (.slice none 0 0) (.slice none 0 0) 0,257),(#[rp w1.heap.size],254),(#[.string ⟨#[]⟩],9),(#[.string ⟨#[]⟩],9)]) hW;have x1:fY W (w1.heap.size+1+1) ⟨#[]⟩:=Ae.at_ 2 _ rfl;have x2:fY W (w1.heap.size+1+1+1) ⟨#[]⟩:=Ae.at_ 3 _ rfl;have Au:=Ae.size
 have Ep:w1.heap.size+1∉(w1.heap.size+1+1+1)::(w1.heap.size+1+1)::aD6 (dS A) w1.heap.size:=fun hk=>by
  simp only[Yw,aE2]at hk;omega
 have x0:Fz _ W (w1.heap.size+1) (rp w1.heap.size):=Fz.new (Ae.cell 1 0 _ _ rfl rfl) Ep;refine(aZu (bM8 (m:=w1.heap.size) (w0:=w1) (p0:=w1.heap.size+1) (p1:=w1.heap.size+1+1) (p2:=w1.heap.size+1+1+1) (r0:=all.drop at_.toNat) (Yh _)) (.func 243) #[] #[rp (w1.heap.size+1),rp (w1.heap.size+1+1),rp (w1.heap.size+1+1+1)] Er ?_).mono ?_
 . intro W0 W1 va1 L1 Aa hM hT hg;have hS:∀j∈dZ w1.heap.size (.slice none 0 0),j=w1.heap.size:=fun j hj=>by simpa[dZ,Value.ownBlock]using hj
   have Ah:∀j,j<4->w1.heap.size+j<W.heap.size:=fun j hj=>by rw[Au];simpa using hj
   have Ao:∀j,j<4->va1.ownBlock≠some (w1.heap.size+j):=fun j hj e=>by
    rcases hg with hg|hg;· rw[hg]at e;cases e
    . have:=hg _ e
      have:=Ah j hj
      have:=Aa.size
      omega
   have y1:fY W0 (w1.heap.size+1+1) ⟨#[]⟩:=(Aa.block _ (Ah 2 aF)).trans x1;have y2:fY W0 (w1.heap.size+1+1+1) ⟨#[]⟩:=(Aa.block _ (Ah 3 aF)).trans x2;have n1:∀j,0<j->w1.heap.size+j∉dZ w1.heap.size (.slice none 0 0):=fun j hj hk=>by have:=hS _ hk;omega
   refine⟨1,_,va1,_,_,hM,⟨hT.stay _ aC (n1 2 aF),hT.stay _ aC (n1 3 aF),by omega,by omega,by omega,Ao 2 aF,Ao 3 aF,by simp[Value.ownBlock],by simp[Value.ownBlock],Yh _,by omega,by omega⟩,(x0.up (Tn.of_below (S:=[]) Aa) bS).up hT (mJ Er),?_,.inl ⟨rfl,rfl,rfl,⟨_,y1.stay hT (n1 2 aF)⟩,_,y2.stay hT (n1 3 aF)⟩⟩;exact xN ((Ae.below).trans (Aa.mono aA)) hT (fun j hj=>by rw[hS j hj];exact Yh _) (Yh _)
 . rintro e w' ⟨w2,Cv,⟨rfl,L',⟨r1,Bs,Aq,z,Ca,hM,hz,Ab,Ag,Cl⟩,Ct⟩|⟨rfl,q,Ca,hz,Cl,Bs,Aq,Ha,Ad⟩⟩
   . have Bv:∀j,j<4->w1.heap.size+j≠W.heap.size:=fun j hj=>by rw[Au];simp;omega
     refine⟨⟨Cv.os.trans Cl.os,Cv.tape.trans Cl.tape,Cv.output.trans Cl.output,Yr Cl.size (Xm Cv.size.symm),fun k hk=>(Cv.block k (by rw[Au];simp;omega)).trans (Cl.block k hk)⟩,bFu,?_⟩;rw[hz];exact⟨rfl,(Cv.block _ (Bv 2 aF)).trans Ab,(Cv.block _ (Bv 3 aF)).trans Ag,Bs,Aq,0,(Cv.block _ (Bv 0 aF)).trans hM.row⟩
   . have Bv:∀j,j<4->w1.heap.size+j≠W.heap.size:=fun j hj=>by rw[Au];simp;omega
     refine⟨⟨Cv.os.trans Cl.os,Cv.tape.trans Cl.tape,Cv.output.trans Cl.output,Yr Cl.size (Xm Cv.size.symm),fun k hk=>(Cv.block k (by rw[Au];simp;omega)).trans (Cl.block k hk)⟩,bFu,?_⟩;rw[hz];exact⟨rfl,Bs,Aq,Ha,(Cv.block _ (Bv 0 aF)).trans Ad⟩
theorem bM9(at_:Int)(h:eI w A n all)(ht:∀t∈all,iW t)(ha:-9223372036854775808<=at_/\at_<=9223372036854775807)(hb:iM all at_=true){z:List UInt8 × List UInt8}{r1:List Tk}(hw:dU (all.drop at_.toNat)=.ok z r1):
 Calls Tryz.prog 224 #[.slice A n c,.int .i64 at_] w fun e w'=>Below w.heap.size w w'/\aA1 (sL all at_) e:=by
 have Aa:=eX;have HB:=Hd (aB1 (w:=w) (c:=c) at_ h ha);rw[hb]at HB;have HW:=Hd fun w1 (h1:Below w.heap.size w w1)=>aSf (c:=c) (h.stay h1) ht hb;rw[hw]at HW;rw[show sL all at_=(aB z.1,aB z.2,((all.length-r1.length:Nat):Int),true)by simp[sL,hb,hw]];rw[h.1];clear h ht hb hw;go_in
 go_wp2_with fail;refine HB.o.mono ?_;rintro e w1 ⟨rfl,Ab⟩;have Ac:=Hd Ab;clear Ab;go_wp2_with fail;refine(HW.o w1 Ac.o).mono ?_;rintro e w2 ⟨Ag,c0,rfl,x1,x2,va,vp,sz,Ad⟩;have Ai:=Hd (Ac.o.tr Ag);have q1:=jN Ad 1 (.int .i64 ((n-r1.length:Nat):Int)) rfl;have c1:=x1.cell;have c2:=x2.cell;clear Ag Ad x1 x2;generalize w1.heap.size+1+1+1=p2 at *;generalize w1.heap.size+1+1=p1 at *;generalize w1.heap.size+1=p0 at *;generalize w1.heap.size=b at *;go_upto_region 7 with(fail);go_region;go_wp2_with fail;exact Zy (v:=.tuple #[.string (aB z.1),.string (aB z.2),.int .i64 ((n-r1.length:Nat):Int),.bool true]) aQ4 rfl ⟨Ai.o.drew,rfl⟩
theorem bK5(at_:Int)(h:eI w A n all)(ht:∀t∈all,iW t)(ha:-9223372036854775808<=at_/\at_<=9223372036854775807)(hb:iM all at_=true){q:List Tk}(hw:dU (all.drop at_.toNat)=.bad q):
 Calls Tryz.prog 224 #[.slice A n c,.int .i64 at_] w fun e w'=>Below w.heap.size w w'/\aA1 (sL all at_) e:=by
 have Aa:=eX;have HB:=Hd (aB1 (w:=w) (c:=c) at_ h ha);rw[hb]at HB;have HW:=Hd fun w1 (h1:Below w.heap.size w w1)=>aSf (c:=c) (h.stay h1) ht hb;rw[hw]at HW;rw[show sL all at_=(⟨#[]⟩,⟨#[]⟩,((all.length-q.length:Nat):Int),false)by simp[sL,hb,hw]];rw[h.1];clear h ht hb hw;go_in
 go_wp2_with fail;refine HB.o.mono ?_;rintro e w1 ⟨rfl,Ab⟩;have Ac:=Hd Ab;clear Ab;go_wp2_with fail;refine(HW.o w1 Ac.o).mono ?_;rintro e w2 ⟨Ag,c0,rfl,va,vp,sz,Ad⟩;have Ai:=Hd (Ac.o.tr Ag);have q1:=jN Ad 1 (.int .i64 ((n-q.length:Nat):Int)) rfl;clear Ag Ad;generalize w1.heap.size+1+1+1=p2 at *;generalize w1.heap.size+1+1=p1 at *;generalize w1.heap.size+1=p0 at *;generalize w1.heap.size=b at *;go_upto_region 6 with(fail);first|(go_region;go_wp2_with fail)|go_wp2_with fail
 exact Zy (v:=.tuple #[.string ⟨#[]⟩,.string ⟨#[]⟩,.int .i64 ((n-q.length:Nat):Int),.bool false]) aQ4 rfl ⟨by first|exact Ai.o|exact Ai.o.drew,rfl⟩
theorem cBn(at_:Int)(h:eI w A n all)(ht:∀t∈all,iW t)(ha:-9223372036854775808<=at_/\at_<=9223372036854775807):
 Calls Tryz.prog 224 #[.slice A n c,.int .i64 at_] w fun e w'=>Below w.heap.size w w'/\aA1 (sL all at_) e:=by
 cases hb:iM all at_ with
 |false=>exact bJ2 at_ h ha hb
 |true=>
  cases hw:dU (all.drop at_.toNat)with
  |bad q=>exact bK5 at_ h ht ha hb hw
  |ok z r1=>exact bM9 at_ h ht ha hb hw
end
end
end Go.Proofs.YtagkcjpoipcpkaaGreatDoor
