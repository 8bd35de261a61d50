/- A part of the proof. Conditions: each theorem's own. -/
import Derived.Test.YtagkcjpoipcpkaaGreatDoorF17
import Derived.Test.YtagkcjpoipcpkaaGreatDoorF24
namespace Go.Proofs.YtagkcjpoipcpkaaGreatDoor
set_option linter.unusedVariables false
set_option linter.unusedSimpArgs false
set_option maxRecDepth 100000
set_option maxHeartbeats 40000000
section
open Go.RowKit Go.Sort
theorem bU{w:World}{g:Nat}{cs:AV}{T:TypeId}(h:w.heap[g]?=some (.cells cs T))(j:Nat)(v:Value)(hv:cs[j]?=some v):w.cell? ⟨g,j,none⟩=some v:=by
 unfold World.cell?;rw[h];exact hv
theorem wK(W:World){g j:Nat}(v:Value){p o:Nat}(h:p≠g):(W.setCell ⟨g,j,none⟩ v).cell? ⟨p,o,none⟩=W.cell? ⟨p,o,none⟩:=Yn (Xb _ _ _ _ h)
abbrev aH (b:Nat):Value:=.pointer (some ⟨b,0,none⟩)
def zC(v:Value)(i:Int)(ve vn:Value):Array Value:=#[v,.int .i64 i,ve,vn]
structure GQ where
 W:World
 b:Nat
 A:Option Addr
 n:Nat
 c:Nat
 all:List Tk
 ve:Value
 vn:Value
 lock:Bool
structure GQ.Ok (G:GQ):Prop where
 rd:eI (bl G.b G.W) G.A G.n G.all
 tks:∀t∈G.all,iW t
 nwd:∀t∈G.all,t.k=2->bQ t.s=false
 lb:G.b<G.W.heap.size
structure GQ.St (G:GQ)(w:World)(r:List Tk):Prop where
 row:∃ve vn,w.heap[G.b]?=some (.cells (zC (.slice G.A G.n G.c) ((G.n-r.length:Nat):Int) ve vn) 44)/\(G.lock=true->ve=G.ve/\vn=G.vn)
 lo:Below G.W.heap.size (bl G.b G.W) (bl G.b w)
 len:r.length<=G.n
 pre:G.all.drop (G.n-r.length)=r
 fin:aU r
section
variable {G:GQ}{w w':World}{r r':List Tk}
theorem GQ.St.lt(h:G.St w r):G.b<w.heap.size:=by
 obtain⟨ve,vn,h1,-⟩:=h.row;exact(Ym.1 h1).1
theorem GQ.St.cell(h:G.St w r)(j:Nat)(hj:j<2:=by decide):w.cell? ⟨G.b,j,none⟩=(zC (.slice G.A G.n G.c) ((G.n-r.length:Nat):Int) G.ve G.vn)[j]?:=by
 obtain⟨ve,vn,h1,-⟩:=h.row;unfold World.cell?;rw[h1]
 match j,hj with
 |0,_=>rfl
 |1,_=>rfl
theorem GQ.St.cellE(h:G.St w r)(hl:G.lock=true):w.cell? ⟨G.b,2,none⟩=some G.ve:=by
 obtain⟨ve,vn,h1,h2⟩:=h.row;rw[<-(h2 hl).1];unfold World.cell?;rw[h1];rfl
theorem GQ.St.cellN(h:G.St w r)(hl:G.lock=true):w.cell? ⟨G.b,3,none⟩=some G.vn:=by
 obtain⟨ve,vn,h1,h2⟩:=h.row;rw[<-(h2 hl).2];unfold World.cell?;rw[h1];rfl
theorem GQ.St.fz(h:G.St w r)(j:Nat):w.frozen? ⟨G.b,j,none⟩=false:=by
 obtain⟨ve,vn,h1,-⟩:=h.row;unfold World.frozen?;rw[h1];simp
theorem GQ.St.max(h:G.St w r)(ok:G.Ok):G.n<=9223372036854775807:=ok.rd.2.1
theorem GQ.St.rd(h:G.St w r)(ok:G.Ok):eI (bl G.b w) G.A G.n G.all:=ok.rd.below (by rw[fC];exact h.lo)
theorem GQ.St.pos(h:G.St w r):1<=r.length:=by
 exact bE5
theorem GQ.St.size(h:G.St w r):G.W.heap.size<=w.heap.size:=by
 have:=h.lo.size
 rwa[fC,fC]at this
theorem GQ.St.kb(h:G.St w r)(hr:w'.heap[G.b]?=w.heap[G.b]?)(hb:Below w.heap.size (bl G.b w) (bl G.b w')):G.St w' r:=
 ⟨by rw[hr];exact h.row,h.lo.trans (hb.mono h.size),h.len,h.pre,h.fin⟩
theorem GQ.St.below(h:G.St w r)(hb:Below w.heap.size w w'):G.St w' r:=h.kb (hb.block _ h.lt) (iQ hb)
theorem GQ.St.drew(h:G.St w r):G.St w.drew r:=h.below (eP (Yg _ _) 1)
theorem GQ.St.alloc(h:G.St w r)(o:Obj):G.St (w.alloc o) r:=h.below ((Yg _ _).alloc (Yh _) o)
theorem GQ.St.setCell(h:G.St w r){g j:Nat}{v:Value}(hg:g≠G.b)(hn:G.W.heap.size<=g):G.St (w.setCell ⟨g,j,none⟩ v) r:=by
 refine⟨by rw[Xb _ _ _ _ (show G.b≠g from Ne.symm hg)];exact h.row,?_,h.len,h.pre,h.fin⟩;refine⟨h.lo.os,h.lo.tape,h.lo.output,by rw[fC,fC];simpa using h.size,fun k hk=>?_⟩;have h1:=h.lo.block k hk;by_cases hb:k=G.b
 . subst hb;rw[qQ (k:=0),qQ (k:=0)]at h1⊢;simpa using h1
 . rw[dH hb,dH hb]at h1⊢;rw[Xb _ _ _ _ (show k≠g by omega)];exact h1
theorem GQ.St.tok(h:G.St w r)(ok:G.Ok):∃t r' b0 off,r=t::r'/\G.A=some ⟨b0,off,none⟩/\b0≠G.b/\b0<w.heap.size/\G.n-r.length<G.n/\G.all[G.n-r.length]?=some t/\
 w.cell? ⟨b0,off+(G.n-r.length)*4,none⟩=some (.int .i64 t.k)/\w.cell? ⟨b0,off+(G.n-r.length)*4+1,none⟩=some (.string (aZ t.s))/\
 w.cell? ⟨b0,off+(G.n-r.length)*4+2,none⟩=some (.int .i64 t.n)/\w.cell? ⟨b0,off+(G.n-r.length)*4+3,none⟩=some (.int .i64 (t.a:Int)):=by
 obtain⟨t,r',e⟩:=h.fin.cons_;have hp:=h.pos;have hl:=h.len;obtain⟨b0,off,hA,Aa,hc⟩:=(h.rd ok).2.2 aA;have hi:G.n-r.length<G.n:=aA;obtain⟨c0,c1,c2,c3⟩:=hc (G.n-r.length) hi;have Ar:G.all[G.n-r.length]?=some t:=by
  exact bDx
 rw[Ar,Yv]at c0 c1 c2 c3;refine⟨t,r',b0,off,e,hA,?_,by rwa[fC]at Aa,hi,Ar,rU c0,rU c1,rU c2,rU c3⟩;rintro rfl;unfold World.cell? at c0;rw[qQ (k:=0)]at c0;simp only at c0;split at c0;· exact bCz
 . cases c0
theorem GQ.St.next{t:Tk}(h:G.St w (t::r'))(ht:t.k≠6):G.St (w.setCell ⟨G.b,1,none⟩ (.int .i64 ((G.n-r'.length:Nat):Int))) r':=by
 have hl:=h.len;simp only[Yq]at hl;refine⟨?_,by rw[aCu];exact h.lo,by omega,?_,h.fin.tail ht⟩;· exact bCv
 . have h1:=h.pre;simp only[Yq]at h1;rw[show G.n-r'.length=(G.n-(r'.length+1))+1 by omega,<-List.drop_drop,h1];rfl
theorem GQ.St.goto(h:G.St w r)(hl:r'.length<=G.n)(hp:G.all.drop (G.n-r'.length)=r')(hf:aU r'):G.St (w.setCell ⟨G.b,1,none⟩ (.int .i64 ((G.n-r'.length:Nat):Int))) r':=by
 refine⟨?_,by rw[aCu];exact h.lo,hl,hp,hf⟩;exact bCv
structure cDq (G:GQ)(w:World)(t:Tk)(r':List Tk)(b0 off i:Nat)(j:Int):Prop where
 a:G.A=some ⟨b0,off,none⟩
 ok:iW t
 nwd:t.k=2->bQ t.s=false
 q0:w.cell? ⟨G.b,0,none⟩=some (.slice G.A G.n G.c)
 q1:w.cell? ⟨G.b,1,none⟩=some (.int .i64 (i:Int))
 lb:G.b<w.heap.size
 l0:b0<w.heap.size
 ne:b0≠G.b
 lt:i<G.n
 mx:G.n<=9223372036854775807
 t0:w.cell? ⟨b0,off+i*4,none⟩=some (.int .i64 t.k)
 t1:w.cell? ⟨b0,off+i*4+1,none⟩=some (.string (aB t.s))
 t2:w.cell? ⟨b0,off+i*4+2,none⟩=some (.int .i64 t.n)
 t3:w.cell? ⟨b0,off+i*4+3,none⟩=some (.int .i64 (t.a:Int))
 add:(i:Int)+1=j
 jn:0<=j/\j<=9223372036854775807
 p1:∀w1,Below w.heap.size w w1->w1.cell? ⟨G.b,1,none⟩=some (.int .i64 (i:Int))
 fz:∀w1,Below w.heap.size w w1->∀j,w1.frozen? ⟨G.b,j,none⟩=false
 nx:∀w1,Below w.heap.size w w1->t.k≠6->G.St (w1.setCell ⟨G.b,1,none⟩ (.int .i64 j)) r'
theorem GQ.St.tokR(h:G.St w r)(ok:G.Ok):∃t r' b0 off i j,r=t::r'/\cDq G w t r' b0 off i j:=by
 obtain⟨t,r',b0,off,e,ha,Bv,Aa,hi,Ar,t0,t1,t2,t3⟩:=h.tok ok;have hl:=h.len;have hm:=h.max ok;subst e;simp only[Yq]at hl;refine⟨t,r',b0,off,G.n-(t::r').length,((G.n-r'.length:Nat):Int),rfl,ha,ok.tks t (List.mem_of_getElem? Ar),ok.nwd t (List.mem_of_getElem? Ar),h.cell 0,h.cell 1,h.lt,Aa,Bv,hi,hm,t0,t1,t2,t3,?_,by omega,fun w1 h1=>(h.below h1).cell 1,fun w1 h1 j=>(h.below h1).fz j,fun w1 h1 h2=>(h.below h1).next h2⟩;simp only[Yq];omega
theorem aFp{t:Tk}(ok:G.Ok)(h:G.St w (t::r')):
 Calls Tryz.prog 97 #[aH G.b] w fun e w'=>e=.returned (yN t)/\Below w.heap.size w w':=by
 obtain⟨t1,r1,b0,off,i,j,hE,Ae⟩:=h.tokR ok;injection hE with Ct Fs;subst Ct Fs;have q0:=Ae.q0;have q1:=Ae.q1;rw[Ae.a]at q0;have Bs:=Ae.l0;have Cl:=Ae.lb;have hi:=Ae.lt;have Jx:=Ae.mx;have t0:=Ae.t0;have t1:=Ae.t1;have t2:=Ae.t2;have t3:=Ae.t3;have Nh:(0:Int)<=(i:Int):=aA;have Hb:(i:Int)<(G.n:Int):=aA;clear h Ae ok;generalize G.b=b at *;generalize G.n=n at *;generalize G.c=c at *;go_in
 go_upto_region 1 with(fail);generalize Af:w.alloc _=w1;have Aq:=Hd (show bL 91 w1 w.heap.size cI by rw[<-Af];exact bL.new 91 w cI);have Ac:=Hd (show Below w.heap.size w w1 by rw[<-Af];exact(Yg _ _).alloc (Yh _) _);have Aa:∀p:Addr,p.block<w.heap.size->w1.cell? p=w.cell? p:=fun p hp=>Ac.o.cell hp;have t0:=(Aa _ Bs).trans t0;have t1:=(Aa _ Bs).trans t1;have t2:=(Aa _ Bs).trans t2;have t3:=(Aa _ Bs).trans t3;have q0:=(Aa _ Cl).trans q0;have q1:=(Aa _ Cl).trans q1;have r0:=Aq.o.c0;have r1:=Aq.o.c1;have r2:=Aq.o.c2;have r3:=Aq.o.c3;have fz:∀j,w1.frozen? ⟨w.heap.size,j,none⟩=false:=Aq.o.thaw;have f0:=fz 0;have f1:=fz 1;have f2:=fz 2;have f3:=fz 3;have Hc:b0≠w.heap.size:=aA;have Bm:w.heap.size≠b0:=aA;have Ng:b≠w.heap.size:=aA;have Ha:w.heap.size≠b:=aA;clear fz Aa Af;go_region;rw[show aB t.s=aZ t.s from rfl,aXf Aq.o t];have Cn:=Hd (show bL 91 (w1.setRow w.heap.size (dO t)).drew w.heap.size t from Aq.o.set t);have Ai:=Hd (show Below w.heap.size w (w1.setRow w.heap.size (dO t)).drew from eP (Xg Ac.o (Yh _) _) 1);generalize (w1.setRow w.heap.size (dO t)).drew=w2 at *;go_wp2_with fail;exact Zy (bA7 (p:=2) rfl _ _ w.heap.size t rfl Cn.o) rfl ⟨rfl,Ai.o⟩
end
end
section
open Go.RowKit Go.Sort
def iX(r:List Tk)(e:Int):Value:=.iface 46 (.agg #[.int .i64 (aA0 r),.int .i64 e])
def At(G:GQ)(w:World)(r:List Tk)(w':World):Prop:=G.St w' r/\Below w.heap.size (bl G.b w) (bl G.b w')
def sX{α:Type}(G:GQ)(w:World)(x:PR α)(V:α->Value->Prop)(B:Value->Value->Prop)(e:Ending)(w':World):Prop:=match x with
 |.ok a r=>(∃v,e=.returned v/\V a v)/\At G w r w'
 |.bad r=>(∃v,e=.returned v/\B (iX r 2) v)/\At G w r w'
def iR(z:Int):List Tk->PR (List UInt8)
 |t::r=>if t.k=z/\bQ t.s=false then .ok t.s r else .bad (t::r)
 |[]=>.bad []
def ngP:List Tk->PR Int
 |t::r=>if t.k=3/\1<=t.n/\t.n<=8 then .ok t.n r else .bad (t::r)
 |[]=>.bad []
theorem aV5(r:List Tk):iR 1 r=bT r:=by cases r<;>rfl
theorem aV6{r:List Tk}(h:∀t∈r,t.k=2->bQ t.s=false):iR 2 r=kT r:=by
 cases r with
 |nil=>rfl
 |cons t q=>
  simp only[iR,kT];by_cases hk:t.k=2;· rw[if_pos hk,if_pos ⟨hk,h t Zc hk⟩]
  . rw[if_neg hk,if_neg fun h=>hk h.1]
theorem cA7{b j:Nat}{v:Value}{w w1:World}(h:Below w.heap.size (bl b w) (bl b w1)):Below w.heap.size (bl b w) (bl b (w1.setCell ⟨b,j,none⟩ v)):=by
 rw[aCu];exact h
theorem bXz(k s n a:Value)(w:World):(Instr.field 91 (.agg #[k,s,n,a]) 0).run Tryz.prog w=.ok k w:=by
 exact aP5
theorem bX0(k s n a:Value)(w:World):(Instr.field 91 (.agg #[k,s,n,a]) 3).run Tryz.prog w=.ok a w:=by
 exact aP5
section
variable {G:GQ}{w w':World}{r r':List Tk}
theorem At.refl(h:G.St w r):At G w r w:=⟨h,Yg _ _⟩
theorem At.below(h:G.St w r)(hb:Below w.heap.size w w'):At G w r w':=⟨h.below hb,iQ hb⟩
theorem aK8(s:BA)(ok:G.Ok)(h:G.St w r):
 Calls Tryz.prog 87 #[aH G.b,.string s] w fun e w'=>e=.returned (.bool (aG s.data.toList r))/\Below w.heap.size w w':=by
 obtain⟨t,r',rfl⟩:=h.fin.cons_;have HN:=Hd (aFp ok h);have HB:=Hd (aZc t.s s);rw[show aG s.data.toList (t::r')=((t.s==s.data.toList) && (t.k==1 || t.k==5))from rfl,<-HB.o];unfold yN at HN;clear HB h ok;generalize aB t.s=ts at *;generalize t.k=k at *;generalize t.n=tn at *;generalize t.a=ta at *;generalize G.b=b at *;cases Aa:(ts.toList==s.toList)<;>cases h1:(k==1)<;>cases h5:(k==5)
 all_goals
  go_in
  go_wp2_with fail;refine HN.o.mono ?_;rintro e w1 ⟨rfl,Ab⟩;have Ac:=Hd Ab;clear Ab;go_wp2_with fail;go_ret;exact⟨rfl,Ac.o.trans (((Yg _ _).alloc (Yh _) _).mono Ac.o.size)⟩
theorem bUd{s:LU}{t:Tk}{r':List Tk}(h:aG s (t::r')=true):t.k≠6:=by
 simp only[aG,Yu,Bool.or_eq_true,beq_iff_eq]at h;omega
theorem GQ.St.at1{t:Tk}(h:G.St w (t::r'))(ok:G.Ok):∃(i j:Int),IntKind.i64.wrap (i+1)=j/\(∀w1,Below w.heap.size w w1->w1.cell? ⟨G.b,1,none⟩=some (.int .i64 i)/\w1.frozen? ⟨G.b,1,none⟩=false)/\
 ∀w1,Below w.heap.size w w1->t.k≠6->At G w r' (w1.setCell ⟨G.b,1,none⟩ (.int .i64 j)):=by
 obtain⟨t1,r1,b0,off,i,j,hE,H⟩:=h.tokR ok;injection hE with Ae Aa;subst Ae Aa;refine⟨i,j,?_,fun w1 h1=>⟨H.p1 w1 h1,H.fz w1 h1 1⟩,fun w1 h1 h6=>⟨H.nx w1 h1 h6,cA7 (iQ h1)⟩⟩;rw[H.add,IntKind.wrap_i64]
 have:=H.jn
 omega
theorem yC(s:BA)(ok:G.Ok)(h:G.St w r):
 Calls Tryz.prog 148 #[aH G.b,.string s] w fun e w'=>e=.returned (.bool (aG s.data.toList r))/\At G w (if aG s.data.toList r=true then r.tail else r) w':=by
 have HI:=Hd (aK8 s ok h);have HS:=Hd h;obtain⟨t,r',rfl⟩:=h.fin.cons_;obtain⟨i,j,Aa,hc,hn⟩:=h.at1 ok;have HC:=Hd hc;have HN:=Hd hn;have H6:=Hd (fun h=>bUd (s:=s.data.toList) (t:=t) (r':=r') h);clear h ok hc hn;generalize aG s.data.toList (t::r')=c at *;cases c with
 |false=>
  go_in
  go_wp2_with fail;refine HI.o.mono ?_;rintro e w1 ⟨rfl,Ab⟩;have Ac:=Hd Ab;clear Ab;go_wp2_with fail;go_ret;exact⟨rfl,At.below HS.o Ac.o⟩
 |true=>
  go_in
  go_wp2_with fail;refine HI.o.mono ?_;rintro e w1 ⟨rfl,Ab⟩;have Ac:=Hd Ab;obtain⟨q1,f1⟩:=HC.o w1 Ab;clear Ab;generalize hb:G.b=b at *;go_wp2_with fail;go_ret;exact⟨rfl,HN.o _ Ac.o (H6.o lY)⟩
theorem aV7(z:Int)(ok:G.Ok)(h:G.St w r):
 Calls Tryz.prog 157 #[aH G.b,.int .i64 z] w fun e w'=>e=.returned (iX r z)/\At G w r w':=by
 have HS:=Hd h;obtain⟨t,r',rfl⟩:=h.fin.cons_;have HN:=Hd (aFp ok h);unfold yN at HN;have HV:=Hd (show iX (t::r') z=.iface 46 (.agg #[.int .i64 (t.a:Int),.int .i64 z])from rfl);rw[HV.o];clear h ok HV;generalize aB t.s=ts at *;generalize t.k=k at *;generalize t.n=tn at *;generalize t.a=ta at *;have Aa:=bX0 (.int .i64 k) (.string ts) (.int .i64 tn) (.int .i64 (ta:Int));go_in
 go_wp2_with fail;refine HN.o.mono ?_;rintro e w1 ⟨rfl,Ab⟩;have Ac:=Hd Ab;clear Ab;go_wp2_with fail;go_ret;exact⟨rfl,At.below HS.o Ac.o⟩
theorem aCz(ok:G.Ok)(h:G.St w r):
 Calls Tryz.prog 98 #[aH G.b] w fun e w'=>e=.returned (iX r 2)/\At G w r w':=by
 have HR:=Hd (aV7 2 ok h);clear h ok;go_in
 go_wp2_with fail;refine HR.o.mono ?_;rintro e w1 ⟨rfl,h1⟩;have H1:=Hd h1;clear h1;go_wp2_with fail;go_ret;exact⟨rfl,H1.o⟩
theorem At.trans{w1 w2:World}{r1:List Tk}(h:At G w r w1)(k:At G w1 r1 w2):At G w r1 w2:=⟨k.1,eD h.2 k.2⟩
theorem bBj(s:BA)(ok:G.Ok)(h:G.St w r):
 Calls Tryz.prog 144 #[aH G.b,.string s] w (sX G w (aR s.data.toList r) (fun _ v=>v=.nilIface) (fun u v=>v=u)):=by
 have HT:=Hd (yC s ok h);have HS:=Hd fun w1 (h1:G.St w1 r)=>aCz ok h1;unfold aR;clear h ok;generalize aG s.data.toList r=c at *;cases c with
 |false=>
  show Calls _ _ _ _ fun e w'=>(∃v,e=.returned v/\v=iX r 2)/\At G w r w';go_in
  go_wp2_with fail;refine HT.o.mono ?_;rintro e w1 ⟨rfl,h1⟩;have H1:=Hd (show At G w r w1 from h1);clear h1;go_wp2_with fail;refine(HS.o w1 H1.o.1).mono ?_;rintro e w2 ⟨rfl,h2⟩;have H2:=Hd h2;clear h2;go_wp2_with fail;go_ret;exact⟨⟨_,rfl,rfl⟩,H1.o.trans H2.o⟩
 |true=>
  show Calls _ _ _ _ fun e w'=>(∃v,e=.returned v/\v=.nilIface)/\At G w r.tail w';go_in
  go_wp2_with fail;refine HT.o.mono ?_;rintro e w1 ⟨rfl,h1⟩;have H1:=Hd (show At G w r.tail w1 from h1);clear h1;go_wp2_with fail;go_ret;exact⟨⟨_,rfl,rfl⟩,H1.o⟩
end
end
section
open Go.RowKit Go.Sort
section
variable {G:GQ}{w w':World}{r r':List Tk}
theorem bBk(z:Int)(hz:z≠6)(ok:G.Ok)(h:G.St w r):
 Calls Tryz.prog 146 #[aH G.b,.int .i64 z] w (sX G w (iR z r) (fun s v=>v=.tuple #[.string (aB s),.nilIface]) (fun u v=>v=.tuple #[.string ⟨#[]⟩,u])):=by
 have HP:=Hd fun w1 (h1:G.St w1 r)=>aCz ok h1;have HA:=Hd fun w1 (hb:Below w.heap.size w w1)=>At.below h hb;obtain⟨t,r',rfl⟩:=h.fin.cons_;have HN:=Hd (aFp ok h);obtain⟨i,j,Fs,hc,hn⟩:=h.at1 ok;have HC:=Hd hc;have HX:=Hd hn;have HW:=Hd (xS (aB t.s));rw[show(aB t.s).data.toList=t.s by simp[aB]]at HW;unfold yN at HN;clear h ok hc hn;show Calls _ _ _ _ (sX G w (if t.k=z/\bQ t.s=false then .ok t.s r' else .bad (t::r')) _ _);by_cases hk:t.k=z
 . have Bs:(t.k !=z)=false:=by simp[hk]
   cases hw:bQ t.s with
   |false=>
    rw[if_pos ⟨hk,rfl⟩];show Calls _ _ _ _ fun e w'=>(∃v,e=.returned v/\v=.tuple #[.string (aB t.s),.nilIface])/\At G w r' w';have Aq:t.k≠6:=by rw[hk];exact hz
    rw[hw]at HW;have HK:=Hd Aq;clear hk Aq HP;generalize Ae:aB t.s=ts at *;clear Ae;generalize t.k=k at *;generalize t.n=tn at *;generalize t.a=ta at *;generalize hb:G.b=b at *;go_in
    go_wp2_with fail;refine HN.o.mono ?_;rintro e w1 ⟨rfl,Ab⟩;have Ac:=Hd Ab;clear Ab;go_wp2_with fail;generalize Aa:w1.alloc _=w2;have Ai:=Hd (show Below w.heap.size w w2 by rw[<-Aa];exact Ac.o.trans (((Yg _ _).alloc (Yh _) _).mono Ac.o.size));have c1:w2.cell? ⟨w1.heap.size,1,none⟩=some (.string ts):=by rw[<-Aa];exact bU (Xa _ _) 1 _ rfl
    have Ah:w1.heap.size<w2.heap.size:=by rw[<-Aa];simp
    have Bv:w1.heap.size≠b:=fun e=>by
     exact bC6
    clear Aa;refine(HW.o w2).mono ?_;rintro e w3 ⟨rfl,rfl⟩;obtain⟨q1,f1⟩:=HC.o w2 Ai.o;have Ct:(w2.setCell ⟨b,1,none⟩ (.int .i64 j)).cell? ⟨w1.heap.size,1,none⟩=some (.string ts):=(wK w2 _ Bv).trans c1;exact bEh
   |true=>
    rw[if_neg aC];show Calls _ _ _ _ fun e w'=>(∃v,e=.returned v/\v=.tuple #[.string ⟨#[]⟩,iX (t::r') 2])/\At G w (t::r') w';rw[hw]at HW;generalize iX (t::r') 2=ev at *;generalize Ae:aB t.s=ts at *;clear Ae hk HX HC;generalize t.k=k at *;generalize t.n=tn at *;generalize t.a=ta at *;go_in
    go_wp2_with fail;refine HN.o.mono ?_;rintro e w1 ⟨rfl,Ab⟩;have Ac:=Hd Ab;clear Ab;go_wp2_with fail;generalize Aa:w1.alloc _=w2;have Ai:=Hd (show Below w.heap.size w w2 by rw[<-Aa];exact Ac.o.trans (((Yg _ _).alloc (Yh _) _).mono Ac.o.size));clear Aa;refine(HW.o w2).mono ?_;rintro e w3 ⟨rfl,rfl⟩;go_wp2_with fail;exact bH7
 . have Bs:(t.k !=z)=true:=by simp[hk]
   rw[if_neg fun h=>hk h.1];show Calls _ _ _ _ fun e w'=>(∃v,e=.returned v/\v=.tuple #[.string ⟨#[]⟩,iX (t::r') 2])/\At G w (t::r') w';generalize iX (t::r') 2=ev at *;generalize Ae:aB t.s=ts at *;clear Ae hk HX HC HW;generalize t.k=k at *;generalize t.n=tn at *;generalize t.a=ta at *;go_in
   go_wp2_with fail;refine HN.o.mono ?_;rintro e w1 ⟨rfl,Ab⟩;have Ac:=Hd Ab;clear Ab;go_wp2_with fail;generalize Aa:w1.alloc _=w2;have Ai:=Hd (show Below w.heap.size w w2 by rw[<-Aa];exact Ac.o.trans (((Yg _ _).alloc (Yh _) _).mono Ac.o.size));clear Aa;exact bH7
theorem bUe(ok:G.Ok)(h:G.St w r):
 Calls Tryz.prog 222 #[aH G.b,.int .i64 8] w (sX G w (ngP r) (fun s v=>v=.tuple #[.int .i64 s,.nilIface]) (fun u v=>v=.tuple #[.int .i64 0,u])):=by
 have HP:=Hd fun w1 (h1:G.St w1 r)=>aCz ok h1;have HA:=Hd fun w1 (hb:Below w.heap.size w w1)=>At.below h hb;obtain⟨t,r',rfl⟩:=h.fin.cons_;have HN:=Hd (aFp ok h);obtain⟨i,j,Ct,hc,hn⟩:=h.at1 ok;have HC:=Hd hc;have HX:=Hd hn;unfold yN at HN;clear h ok hc hn;show Calls _ _ _ _ (sX G w (if t.k=3/\1<=t.n/\t.n<=8 then .ok t.n r' else .bad (t::r')) _ _);by_cases hk:t.k=3/\1<=t.n/\t.n<=8
 . have Aq:(t.k !=3)=false:=by simp[hk.1]
   have Cb:decide (t.n<1)=false:=Xd aA;have Fs:decide (8<t.n)=false:=Xd aA;rw[if_pos hk];show Calls _ _ _ _ fun e w'=>(∃v,e=.returned v/\v=.tuple #[.int .i64 t.n,.nilIface])/\At G w r' w';have HK:=Hd (show t.k≠6 by omega);clear hk HP;generalize Ae:aB t.s=ts at *;clear Ae;generalize t.k=k at *;generalize t.n=tn at *;generalize t.a=ta at *;generalize hb:G.b=b at *;go_in
   go_wp2_with fail;refine HN.o.mono ?_;rintro e w1 ⟨rfl,Ab⟩;have Ac:=Hd Ab;clear Ab;go_upto_region 4 with(fail);generalize Aa:w1.alloc _=w2;have Ai:=Hd (show Below w.heap.size w w2 by rw[<-Aa];exact Ac.o.trans (((Yg _ _).alloc (Yh _) _).mono Ac.o.size));have c1:w2.cell? ⟨w1.heap.size,2,none⟩=some (.int .i64 tn):=by rw[<-Aa];exact bU (Xa _ _) 2 _ rfl
   have Bv:w1.heap.size≠b:=fun e=>by
    exact bC6
   clear Aa;obtain⟨q1,f1⟩:=HC.o w2 Ai.o;have Bs:(w2.setCell ⟨b,1,none⟩ (.int .i64 j)).cell? ⟨w1.heap.size,2,none⟩=some (.int .i64 tn):=(wK w2 _ Bv).trans c1;exact bEh
 . rw[if_neg hk];show Calls _ _ _ _ fun e w'=>(∃v,e=.returned v/\v=.tuple #[.int .i64 0,iX (t::r') 2])/\At G w (t::r') w';generalize iX (t::r') 2=ev at *;have hcs:(t.k !=3)=true\/((t.k !=3)=false/\decide (t.n<1)=true)\/((t.k !=3)=false/\decide (t.n<1)=false/\decide (8<t.n)=true):=by
    simp only[bne_iff_ne,ne_eq,decide_eq_true_eq,decide_eq_false_iff_not,bne_eq_false_iff_eq];omega
   clear hk HX HC;generalize Ae:aB t.s=ts at *;clear Ae;generalize t.k=k at *;generalize t.n=tn at *;generalize t.a=ta at *;rcases hcs with k1|⟨k1,k2⟩|⟨k1,k2,k3⟩
   all_goals
    go_in
    go_wp2_with fail;refine HN.o.mono ?_;rintro e w1 ⟨rfl,Ab⟩;have Ac:=Hd Ab;clear Ab;go_wp2_with fail;generalize Aa:w1.alloc _=w2;have Ai:=Hd (show Below w.heap.size w w2 by rw[<-Aa];exact Ac.o.trans (((Yg _ _).alloc (Yh _) _).mono Ac.o.size));clear Aa;refine(HP.o w2 (HA.o w2 Ai.o).1).mono ?_;rintro e w4 ⟨rfl,h4⟩;have H4:=Hd h4;clear h4;go_wp2_with fail;go_ret2;exact⟨⟨_,rfl,rfl⟩,(HA.o w2 Ai.o).trans H4.o⟩
theorem cC3(ok:G.Ok)(h:G.St w r):
 Calls Tryz.prog 45 #[aH G.b] w fun e w'=>(∃v,e=.returned v/\v=if uX r=6 then .nilIface else iX r 2)/\At G w r w':=by
 have HP:=Hd fun w1 (h1:G.St w1 r)=>aCz ok h1;have HA:=Hd fun w1 (hb:Below w.heap.size w w1)=>At.below h hb;obtain⟨t,r',rfl⟩:=h.fin.cons_;have HN:=Hd (aFp ok h);have HH:=Hd (show uX (t::r')=t.k from rfl);rw[HH.o];unfold yN at HN;clear h ok HH;generalize iX (t::r') 2=ev at *;generalize Aa:aB t.s=ts at *;clear Aa;generalize t.k=k at *;generalize t.n=tn at *;generalize t.a=ta at *;have Ae:=bXz (.int .i64 k) (.string ts) (.int .i64 tn) (.int .i64 (ta:Int));cases h6:(k !=6)with
 |false=>
  have he:k=6:=aJh;have HE:=Hd (show(if k=6 then Value.nilIface else ev)=.nilIface from if_pos he);rw[HE.o];clear he HE;go_in
  go_wp2_with fail;refine HN.o.mono ?_;rintro e w1 ⟨rfl,Ab⟩;have Ac:=Hd Ab;clear Ab;go_wp2_with fail;go_ret;exact⟨⟨_,rfl,rfl⟩,HA.o w1 Ac.o⟩
 |true=>
  have he:¬k=6:=aJh;have HE:=Hd (show(if k=6 then Value.nilIface else ev)=ev from if_neg he);rw[HE.o];clear he HE;go_in
  go_wp2_with fail;refine HN.o.mono ?_;rintro e w1 ⟨rfl,Ab⟩;have Ac:=Hd Ab;clear Ab;go_wp2_with fail;refine(HP.o w1 (HA.o w1 Ac.o).1).mono ?_;rintro e w4 ⟨rfl,h4⟩;have H4:=Hd h4;clear h4;go_wp2_with fail;go_ret;exact⟨⟨_,rfl,rfl⟩,(HA.o w1 Ac.o).trans H4.o⟩
end
end
section
open Go.RowKit Go.Extern.Stop Go.Stop Go.Extern
theorem bBl(t:Value)(w:World):Calls Tryz.prog 15 #[.nilIface,t] w fun e w'=>e=.returned (.bool false)/\w'=w:=by
 go_in
 go_wp2;go_ret;exact⟨rfl,rfl⟩
theorem cA8(t:Addr)(w:World):(ReflectliteValue.unpack (.iface 51 (.pointer (some t)))).run Tryz.prog w
 =.ok (.agg #[.pointer (some ⟨8,51,none⟩),.pointer (some ⟨w.heap.size,0,none⟩),.int .u64 150]) (w.alloc (.cells #[.pointer (some t)] 51)):=by kernel_rfl
theorem bX1(a:Addr)(w:World):(ReflectliteValue.methodAny (ReflectliteValue.valueError "reflectlite.Value.Type" 0) (fun t _ _ _=>ReflectliteType.toType t) #[.agg #[.pointer (some ⟨8,51,none⟩),.pointer (some a),.int .u64 150]]).run Tryz.prog w
 =.ok (.iface 141 (.agg #[.pointer (some ⟨8,51,none⟩)])) w:=by kernel_rfl
theorem cA9(h:Value)(w:World):(Go.method 431 141 (.agg #[h]) "Kind").run Tryz.prog w=.ok (336,h) w:=by kernel_rfl
theorem bX2(w:World):((ReflectliteType.abiMethod fun t=>(fun a:Nat=>Value.int IntKind.u8 (a:Int)) <$> Rtype.kind t) #[.pointer (some ⟨8,51,none⟩)]).run Tryz.prog w=.ok (.int .u8 22) w:=aE
theorem bX3(w:World):((ReflectliteType.abiMethod fun t=>(fun a:Nat=>Value.int IntKind.u8 (a:Int)) <$> Rtype.kind t) #[.pointer (some ⟨8,46,none⟩)]).run Tryz.prog w=.ok (.int .u8 25) w:=aE
theorem bIl(z:Sem Value)(f:TypeId->Addr->Nat->Nat->Sem Value)(v:Value):
 ReflectliteValue.method z f #[v]=(do match <-ReflectliteValue.parts v with|none=>z|some (t,a,fl)=>f t a fl (fl % 32)):=rfl
theorem aX7(a:Addr)(w:World):(ReflectliteValue.parts (.agg #[.pointer (some ⟨8,51,none⟩),.pointer (some a),.int .u64 150])).run Tryz.prog w=.ok (some (51,a,150)) w:=aE
theorem bUf(a p:Addr)(W:World)(ha:W.cell? a=some (.pointer (some p))):
 (ReflectliteValue.method (ReflectliteValue.valueError "reflectlite.Value.IsNil" 0) ReflectliteValue.isNil #[.agg #[.pointer (some ⟨8,51,none⟩),.pointer (some a),.int .u64 150]]).run Tryz.prog W=.ok (.bool false) W:=by
 rw[bIl];simp only[Sem.run_bind,aX7,Result.andThen];simp[ReflectliteValue.isNil,loadVar,isAgg,underlying,Tryz.underlying51,ha,Result.andThen]
theorem cBa(h:Value)(w:World):(Go.method 431 141 (.agg #[h]) "Elem").run Tryz.prog w=.ok (346,.agg #[h]) w:=by kernel_rfl
theorem cBb(h:Value)(w:World):(Go.method 431 141 (.agg #[h]) "Implements").run Tryz.prog w=.ok (347,.agg #[h]) w:=by kernel_rfl
theorem cBc(h:Value)(w:World):(Go.method 431 141 (.agg #[h]) "AssignableTo").run Tryz.prog w=.ok (344,.agg #[h]) w:=by kernel_rfl
theorem bX4(w:World):(ReflectliteType.method ReflectliteType.elem #[.agg #[.pointer (some ⟨8,51,none⟩)]]).run Tryz.prog w=.ok (.iface 141 (.agg #[.pointer (some ⟨8,46,none⟩)])) w:=aE
theorem bX5(w:World):(ReflectliteType.relation "Implements" ReflectliteType.implements_ #[.agg #[.pointer (some ⟨8,46,none⟩)],.iface 141 (.agg #[.pointer (some ⟨8,49,none⟩)])]).run Tryz.prog w=.ok (.bool true) w:=by kernel_rfl
theorem bP6(v:Value)(w:World):(ReflectliteType.typeOf #[.iface 46 v]).run Tryz.prog w=.ok (.iface 141 (.agg #[.pointer (some ⟨8,46,none⟩)])) w:=aE
theorem bX6(w:World):(ReflectliteType.relation "AssignableTo" ReflectliteType.assignableTo #[.agg #[.pointer (some ⟨8,46,none⟩)],.iface 141 (.agg #[.pointer (some ⟨8,46,none⟩)])]).run Tryz.prog w=.ok (.bool true) w:=by kernel_rfl
theorem cBd(x y:Int)(w:World):(ReflectliteValue.unpack (.iface 46 (.agg #[.int .i64 x,.int .i64 y]))).run Tryz.prog w
 =.ok (.agg #[.pointer (some ⟨8,46,none⟩),.pointer (some ⟨w.heap.size,0,none⟩),.int .u64 153]) (w.alloc (.cells #[.int .i64 x,.int .i64 y] 46)):=by kernel_rfl
theorem bP7(w:World):(Rtype.elem? 51).run Tryz.prog w=.ok (some 46) w:=aE
theorem cC4(p:Addr)(w:World):(ReflectliteValue.mk 46 p ReflectliteValue.flagAddr).run Tryz.prog w=.ok (.agg #[.pointer (some ⟨8,46,none⟩),.pointer (some p),.int .u64 409]) w:=aE
theorem bUg(a p:Addr)(W:World)(ha:W.cell? a=some (.pointer (some p))):
 (ReflectliteValue.method (ReflectliteValue.valueError "reflectlite.Value.Elem" 0) ReflectliteValue.elem #[.agg #[.pointer (some ⟨8,51,none⟩),.pointer (some a),.int .u64 150]]).run Tryz.prog W
  =.ok (.agg #[.pointer (some ⟨8,46,none⟩),.pointer (some p),.int .u64 409]) W:=by
 rw[bIl];simp only[Sem.run_bind,aX7,Result.andThen];simp[ReflectliteValue.elem,loadVar,isAgg,underlying,Tryz.underlying51,ha,Result.andThen,bP7,cC4]
theorem cDr(v x:Value):ReflectliteValue.set #[v,x]=(do
 let (some (dst,a,fl),some (src,b,_)):=(<-ReflectliteValue.parts v,<-ReflectliteValue.parts x)
  |unsupported (.noEntry "extern/(internal/reflectlite.Value).Set.zeroValue")
 if fl / ReflectliteValue.flagAddr % 2==0 then unsupported (.noEntry "extern/(internal/reflectlite.Value).Set.unaddressable")
 let Aa <-loadVar src b
 if <-Rtype.directlyAssignable dst src then storeVar dst a Aa
 else if <-Rtype.implements dst src then
  if(<-Rtype.kind src)==20 then
   match Aa with
   |.nilIface=>unsupported (.noEntry "extern/reflectlite: a nil value of one interface type handed on as a value of another")
   |_=>storeVar dst a Aa
  else storeVar dst a (.iface src Aa)
 else panicString ("reflectlite.Set: value of type " ++(<-Rtype.spelt src) ++ " is not assignable to type " ++(<-Rtype.spelt dst))
 pure (.tuple #[])):=rfl
theorem bP8(a:Addr)(w:World):(ReflectliteValue.parts (.agg #[.pointer (some ⟨8,46,none⟩),.pointer (some a),.int .u64 409])).run Tryz.prog w=.ok (some (46,a,409)) w:=aE
theorem bUh(a:Addr)(w:World):(ReflectliteValue.parts (.agg #[.pointer (some ⟨8,46,none⟩),.pointer (some a),.int .u64 153])).run Tryz.prog w=.ok (some (46,a,153)) w:=aE
theorem bP9(w:World):(Rtype.directlyAssignable 46 46).run Tryz.prog w=.ok true w:=aE
theorem bX7(w:World):(sizeOf 46).run Tryz.prog w=.ok 2 w:=aE
theorem cBe(t b:Nat)(x y:Int)(o0 o1:Value)(W:World)(Ae:W.cell? ⟨b,0,none⟩=some (.int .i64 x))(Ab:W.cell? ⟨b,1,none⟩=some (.int .i64 y))(ht:W.heap[t]?=some (.cells #[o0,o1] 46)):
 (ReflectliteValue.set #[.agg #[.pointer (some ⟨8,46,none⟩),.pointer (some ⟨t,0,none⟩),.int .u64 409],.agg #[.pointer (some ⟨8,46,none⟩),.pointer (some ⟨b,0,none⟩),.int .u64 153]]).run Tryz.prog W
  =.ok (.tuple #[]) ((W.setCell ⟨t,0,none⟩ (.int .i64 x)).setCell ⟨t,1,none⟩ (.int .i64 y)):=by
 have h0:=bU ht 0 o0 rfl
 have hf:∀j,W.frozen? ⟨t,j,none⟩=false:=fun j=>by
  unfold World.frozen?;rw[ht];simp
 have Aa:(W.setCell ⟨t,0,none⟩ (.int .i64 x)).heap[t]?=some (.cells #[.int .i64 x,o1] 46):=by
  rw[Xi _ _ _ _ _ _ _ ht,Xh _ _ _ _ _ _ ht];rfl
 have h1:=bU Aa 1 o1 rfl;have Gw:(W.setCell ⟨t,0,none⟩ (.int .i64 x)).frozen? ⟨t,1,none⟩=false:=by
  unfold World.frozen?;rw[Aa];simp
 have s0:(store ⟨t,0,none⟩ (.int .i64 x)).run Tryz.prog W=.ok () (W.setCell ⟨t,0,none⟩ (.int .i64 x)):=by
  rw[run_store Tryz.prog W _ _ _ bC,h0];simp[hf]
 have s1:(store ⟨t,1,none⟩ (.int .i64 y)).run Tryz.prog (W.setCell ⟨t,0,none⟩ (.int .i64 x))=.ok () ((W.setCell ⟨t,0,none⟩ (.int .i64 x)).setCell ⟨t,1,none⟩ (.int .i64 y)):=by
  rw[run_store Tryz.prog _ _ _ _ bC,h1];simp[Gw]
 rw[cDr];simp only[Sem.run_bind,bP8,bUh,Result.andThen];simp[ReflectliteValue.flagAddr,loadVar,isAgg,underlying,Tryz.underlying46,Ae,Ab,Result.andThen,bP9,storeVar,Value.cells,storeCells,Addr.add,loadCells,loadCellsFrom,bX7,s0,s1]
def aD4:Value:=.iface 141 (.agg #[.pointer (some ⟨8,49,none⟩)])
def xF(w:World)(t:Nat)(x y:Int):World:=(((((w.alloc (.cells #[.pointer (some ⟨t,0,none⟩)] 51)).alloc (.cells #[.pointer (some ⟨8,51,none⟩),.pointer (some ⟨w.heap.size,0,none⟩),.int .u64 150] 97)).alloc (.cells #[.pointer (some ⟨8,51,none⟩),.pointer (some ⟨w.heap.size,0,none⟩),.int .u64 150] 97)).alloc (.cells #[.int .i64 x,.int .i64 y] 46)).setCell ⟨t,0,none⟩ (.int .i64 x)).setCell ⟨t,1,none⟩ (.int .i64 y)
theorem qE{W:World}{o:Obj}{t:Nat}(h:t<W.heap.size):(W.alloc o).heap[t]?=W.heap[t]?:=((Yg _ _).alloc (Yh _) o:Below W.heap.size W _).block t h
theorem cBf(x y:Int)(t:Nat)(o0 o1:Value)(w:World)(hg:w.cell? ⟨0,0,none⟩=some aD4)(ht:w.heap[t]?=some (.cells #[o0,o1] 46)):
 Calls Tryz.prog 15 #[.iface 46 (.agg #[.int .i64 x,.int .i64 y]),.iface 51 (.pointer (some ⟨t,0,none⟩))] w fun e w'=>e=.returned (.bool true)/\w'=xF w t x y:=by
 unfold xF;unfold aD4 at hg;have h6:=@run_callFunc_extern Tryz.prog 37 _ (fun args=>ReflectliteValue.unpack (args.getD 0 (.tuple #[]))) Tryz.func37 aE aE aE aE;have h7:=@run_callFunc_extern Tryz.prog 38 _ (ReflectliteValue.methodAny (ReflectliteValue.valueError "reflectlite.Value.Type" 0) (fun t _ _ _=>ReflectliteType.toType t)) Tryz.func38 (by kernel_rfl) (by kernel_rfl) (by kernel_rfl) (by kernel_rfl);have h8:=@run_callFunc_extern Tryz.prog 39 _ (ReflectliteValue.method (ReflectliteValue.valueError "reflectlite.Value.IsNil" 0) ReflectliteValue.isNil) Tryz.func39 (by kernel_rfl) (by kernel_rfl) (by kernel_rfl) (by kernel_rfl);have Fs:=@run_callFunc_extern Tryz.prog 336 _ (ReflectliteType.abiMethod fun t=>do pure (.int .u8 (<-Rtype.kind t))) Tryz.func336 aE aE aE aE;have Hc:=@run_callFunc_extern Tryz.prog 346 _ (ReflectliteType.method ReflectliteType.elem) Tryz.func346 aE aE aE aE;have Hb:=@run_callFunc_extern Tryz.prog 347 _ (ReflectliteType.relation "Implements" ReflectliteType.implements_) Tryz.func347 (by kernel_rfl) (by kernel_rfl) (by kernel_rfl) (by kernel_rfl);have Ct:=@run_callFunc_extern Tryz.prog 82 _ ReflectliteType.typeOf Tryz.func82 aE aE aE aE;have Ae:=@run_callFunc_extern Tryz.prog 344 _ (ReflectliteType.relation "AssignableTo" ReflectliteType.assignableTo) Tryz.func344 (by kernel_rfl) (by kernel_rfl) (by kernel_rfl) (by kernel_rfl);have h11:=@run_callFunc_extern Tryz.prog 83 _ (ReflectliteValue.method (ReflectliteValue.valueError "reflectlite.Value.Elem" 0) ReflectliteValue.elem) Tryz.func83 (by kernel_rfl) (by kernel_rfl) (by kernel_rfl) (by kernel_rfl);have Cy:=@run_callFunc_extern Tryz.prog 84 _ ReflectliteValue.set Tryz.func84 aE aE aE aE;have tO:=bP6;have mA:=cBc;have Nh:=bX6;have Ha:=cBd;have f6:=cA8;have f7:=bX1;have mK:=cA9;have mE:=cBa;have mI:=cBb;have Ng:=bX2;have Aq:=bX3;have Jx:=bX4;have Bs:=bX5;have n8:=bUf ⟨w.heap.size,0,none⟩ ⟨t,0,none⟩ ((w.alloc (.cells #[.pointer (some ⟨t,0,none⟩)] 51)).alloc (.cells #[.pointer (some ⟨8,51,none⟩),.pointer (some ⟨w.heap.size,0,none⟩),.int .u64 150] 97)) aC;have Ah:0<w.heap.size:=Yi _ _ hg;have hg2:((w.alloc (.cells #[.pointer (some ⟨t,0,none⟩)] 51)).alloc (.cells #[.pointer (some ⟨8,51,none⟩),.pointer (some ⟨w.heap.size,0,none⟩),.int .u64 150] 97)).cell? ⟨0,0,none⟩=some (.iface 141 (.agg #[.pointer (some ⟨8,49,none⟩)])):=by
  rw[Yj _ _ ⟨0,0,none⟩ aC,Yj _ _ ⟨0,0,none⟩ Ah];exact hg
 have Aa:t<w.heap.size:=(Ym.1 ht).1;have el:=bUg ⟨w.heap.size,0,none⟩ ⟨t,0,none⟩ (((w.alloc (.cells #[.pointer (some ⟨t,0,none⟩)] 51)).alloc (.cells #[.pointer (some ⟨8,51,none⟩),.pointer (some ⟨w.heap.size,0,none⟩),.int .u64 150] 97)).alloc (.cells #[.pointer (some ⟨8,51,none⟩),.pointer (some ⟨w.heap.size,0,none⟩),.int .u64 150] 97)) (by rw[Yj _ _ ⟨w.heap.size,0,none⟩ cP];simp);have st:=cBe t (w.heap.size+1+1+1) x y o0 o1 ((((w.alloc (.cells #[.pointer (some ⟨t,0,none⟩)] 51)).alloc (.cells #[.pointer (some ⟨8,51,none⟩),.pointer (some ⟨w.heap.size,0,none⟩),.int .u64 150] 97)).alloc (.cells #[.pointer (some ⟨8,51,none⟩),.pointer (some ⟨w.heap.size,0,none⟩),.int .u64 150] 97)).alloc (.cells #[.int .i64 x,.int .i64 y] 46))
  bF3
  bF3
  (by rw[qE cP,qE cP,qE cP,qE Aa];exact ht)
 clear ht;go_in
 go_wp2;refine wp_loop_rounds 1 ?_;rw[rounds_succ];go_wp2;go_ret;exact⟨rfl,rfl⟩
end
end Go.Proofs.YtagkcjpoipcpkaaGreatDoor
