/- A part of the proof. Conditions: each theorem's own. -/
import Derived.Test.YtkbpdoomhfkngaaGreatC23
namespace Go.Proofs.YtkbpdoomhfkngaaGreat
set_option linter.unusedVariables false
set_option linter.unusedSimpArgs false
set_option maxRecDepth 100000
set_option maxHeartbeats 40000000
section
open Go.RowKit Go.Sort Go.BigFrame
def nY(es:List En)(x:Nd)(d:Dc):Bool:=!(d.on.toList==[]) && !fL es x d.on [d.ct]
theorem aVc(p:Pg)(x:Nd)(r:Rm)(d:Dc)(w:World)(h:dF w p x r):
 Calls Tryz.prog 28 #[.agg (aY p x r),.agg (aU d)] w fun e w'=>e=.returned (.bool (nY p.es x d))/\Below w.heap.size w w':=by
 have Gh:=Hd fun(A:Option Addr) w1 (hb:Below w.heap.size w w1)(hA:aP w1 A 1 [d.ct])=>aDi p x r d.on A 1 1 [d.ct] w1 (h.below hb) hA;have HO:=Hd (show nY p.es x d=(!(d.on.toList==[]) && !fL p.es x d.on [d.ct])from rfl);clear h;generalize nY p.es x d=Au at *;generalize fL p.es x d.on [d.ct]=tb at *;unfold aY aU at *;generalize d.on=on at *;generalize d.ct=ct at *;cases h1:(on.toList==[])with
 |true=>
  have h2:on.toList.isEmpty=true:=aAl;have HR:=Hd (show Au=false by rw[HO.o,h1];rfl);go_in
  go_upto_region 1 with(fail);generalize Ai:(w.alloc _).alloc _=w0;obtain⟨Ae,Al,Bf,As⟩:=lO Ai;have Af:=Hd Ae;have d4:=As w0 (Yg _ _) 4;simp only[Ya,Yb,Yc]at d4;clear Ai Ae Al Bf As;go_wp2_with fail;go_ret;exact⟨fF HR.o.symm,Af.o⟩
 |false=>
  have h2:on.toList.isEmpty=false:=aAl;have HR:=Hd (show Au=!tb by rw[HO.o,h1];rfl);go_in
  go_upto_region 1 with(fail);generalize Ai:(w.alloc _).alloc _=w0;obtain⟨Ae,Al,Bf,As⟩:=lO Ai;have Af:=Hd Ae;obtain⟨q0,q1,q2,q3,q4,q5⟩:=Sx (Bf w0 (Yg _ _));have q6:=Bf w0 (Yg _ _) 6;have d4:=As w0 (Yg _ _) 4;have d5:=As w0 (Yg _ _) 5;simp only[Ya,Yb,Yc]at q0 q1 q2 q3 q4 q5 q6 d4 d5;have Aq:=Hd (Gh.o (some ⟨w0.heap.size,0,none⟩) _ (Ae.alloc Ae.size _) (aP.lit1 w0 ct 9));clear Ai Ae Al Bf As;go_wp2_with fail;refine Aq.o.mono ?_;rintro e w1 ⟨rfl,Aa⟩;have Ac:=Hd (aT (Af.o.alloc Af.o.size _) Aa);clear Aa;go_wp2_with fail;go_ret;exact⟨fF HR.o.symm,Ac.o⟩
theorem aR.take{w:World}{S:Option Addr}{m:Nat}{ts:List T3}(h:aR w S m ts){a:Nat}(ha:a<=m):aR w S a (ts.take a):=
 ⟨by rw [List.length_take,h.len];omega,by have:=h.max;omega,fun h0=>by
  obtain⟨b,off,e,hb,hc⟩:=aI.at_ h aA;refine⟨b,off,e,hb,fun i hi=>?_⟩;rw[List.getElem?_take_of_lt hi];exact hc i aA⟩
theorem aR.drop{w:World}{b off m:Nat}{ts:List T3}(h:aR w (some ⟨b,off,none⟩) m ts){a q:Nat}(ha:m=a+q):aR w (some ⟨b,off+a*3,none⟩) q (ts.drop a):=
 ⟨by rw [List.length_drop,h.len];omega,by have:=h.max;omega,fun h0=>by
  obtain⟨b',Kd,e,hb,hc⟩:=aI.at_ h aA;injection e with e;injection e with e1 e2;subst e1 e2;refine⟨b,_,rfl,hb,fun i hi=>?_⟩
  have:=hc (a+i) aA
  rw[List.getElem?_drop,show off+a*3+i*3=off+(a+i)*3 by omega];exact this⟩
def ndZ:Array Value:=#[.string ⟨#[]⟩,.slice none 0 0,.slice none 0 0,.slice none 0 0,.slice none 0 0]
def qN(S:Option Addr)(m c:Nat):Prop:=m<=c/\c<=maxLen/\((S=none/\m=0/\c=0)\/∃b off,S=some ⟨b,off,none⟩)
theorem aR.dropN{w:World}{b off m:Nat}{ts:List T3}(h:aR w (some ⟨b,off,none⟩) m ts){a:Nat}(ha:a<=m):aR w (some ⟨b,off+a*3,none⟩) (m-a) (ts.drop a):=h.drop aA
theorem aR.none_{w:World}{S:Option Addr}{l:List T3}(h:l.length=0):aR w S 0 l:=⟨h,by omega,by omega⟩
theorem yJ{W:World}{g:Nat}{cs:Array Value}{T:TypeId}(h:W.heap[g]?=some (Obj.cells cs T))(j:Nat):W.cell? ⟨g,j,none⟩=cs[j]?:=pO h W (Yg _ _) j
theorem aVd(p:Pg)(x:Nd)(r:Rm)(y:Ex)(A:Option Addr)(ca:Nat)(B:Option Addr)(cb:Nat)(b off m a q sc:Nat)(ts:List T3)(w:World)(h:dF w p x r)(hS:aR w (some ⟨b,off,none⟩) m ts)(hm:m=a+q)(Od:m<=sc)(Oe:sc<=maxLen)(hn:y.n=(q:Int))(hq:q<=1)(De:∀j,j<p.ns.length->(aB p j).ins.length<=1000/\(aB p j).outs.length<=1000):
 Calls Tryz.prog 78 #[.agg (aY p x r),.agg (aE y A ca B cb),.slice (some ⟨b,off,none⟩) m sc] w (jF w ((mA p y ts).map fun j=>(aB p j).outs.map aS)):=by
 have Oc:=hS.len;have hmm:=hS.max;have Iy:=Hd fun w1 (hb:Below w.heap.size w w1)=>aLo p r.E r.ec r.N r.nc y.s w1 (h.below hb).1;have HS:=Hd fun w1 (hb:Below w.heap.size w w1)=>hS.below hb;have Eg:=Hd fun w1 (hb:Below w.heap.size w w1)=>(show eX w1 r.N p.ns.length p.ns from(h.below hb).1.2);have HC:=Hd (show mA p y ts=if cY p y.s<0 then none
  else if(decide (ts.take a=(aB p (cY p y.s).toNat).ins.map aS) && eP (2,0,0) (ts.drop a))=true then some (cY p y.s).toNat else none from by
  unfold mA;rw[hn,Oc,hm,Int.toNat_natCast,Nat.add_sub_cancel])
 have Ny:=Hd (yF p y.s);have Ku:=Hd aHs;have Gz:=Hd tA;clear h hS;generalize Fw:(mA p y ts).map (fun j=>(aB p j).outs.map aS)=oo;generalize mA p y ts=cp at *;generalize cY p y.s=f at *;unfold aY aE aF at *;rw[hn];rcases Ny.o with rfl|⟨i,rfl,hi⟩;· exact aQl
 have Bx:=Hd (show cp=if(decide (ts.take a=(aB p i).ins.map aS) && eP (2,0,0) (ts.drop a))=true then some i else none by rw[HC.o,if_neg aA,Int.toNat_natCast]);obtain⟨nb,no,A1,c1,A2,c2,A3,c3,A4,c4,hN,Bp,Ap,d0,d1,d2,d3,d4⟩:=iR (Eg.o w (Yg _ _)) hi;obtain⟨Oa,Nx⟩:=De i hi;have Hy:=Hd fun w1 (hb:Below w.heap.size w w1)=>Ku.o A1 (p.ns[i]?.getD default).ins.length c1 (p.ns[i]?.getD default).ins w1 (Ap.below hb).1 Oa;have Ln:=Hd fun w1 (hb:Below w.heap.size w w1)=>Ku.o A2 (p.ns[i]?.getD default).outs.length c2 (p.ns[i]?.getD default).outs w1 (Ap.below hb).2.1 Nx
 have HD:=Hd (show ∀ w1,Below w.heap.size w w1->w1.cell? ⟨nb,no+i*5,none⟩=some (.string (p.ns[i]?.getD default).nm)/\w1.cell? ⟨nb,no+i*5+1,none⟩=some (.slice A1 (p.ns[i]?.getD default).ins.length c1)/\w1.cell? ⟨nb,no+i*5+2,none⟩=some (.slice A2 (p.ns[i]?.getD default).outs.length c2)/\w1.cell? ⟨nb,no+i*5+3,none⟩=some (.slice A3 (p.ns[i]?.getD default).vars.length c3)/\w1.cell? ⟨nb,no+i*5+4,none⟩=some (.slice A4 (p.ns[i]?.getD default).eqs.length c4) from
  fun w1 hb=>⟨(hb.cell (p:=⟨nb,no+i*5,none⟩) Bp).trans d0,(hb.cell (p:=⟨nb,no+i*5+1,none⟩) Bp).trans d1,(hb.cell (p:=⟨nb,no+i*5+2,none⟩) Bp).trans d2,(hb.cell (p:=⟨nb,no+i*5+3,none⟩) Bp).trans d3,(hb.cell (p:=⟨nb,no+i*5+4,none⟩) Bp).trans d4⟩)
 have Nt:=Hd (show oo=cp.map fun j=>(aB p j).outs.map aS from Fw.symm);clear d0 d1 d2 d3 d4 Ap Eg HC Fw Ku Oa Nx Ny;unfold aDh at Hy Ln;rw[hN];have Ha:=Hd fun(T1:Option Addr)(tn tc:Nat) w1 (hb:Below w.heap.size w w1)(ht:aR w1 T1 tn ((aB p i).ins.map aS))=>aJ3 (some ⟨b,off,none⟩) T1 a tn sc tc (ts.take a) ((aB p i).ins.map aS) w1 ((HS.o w1 hb).take aA) ht;have Ch:=Hd fun(ad:Option Addr)(n1 cc:Nat) w1 (hr:aR w1 ad n1 (ts.drop a))=>mB 2 0 0 ad n1 cc (ts.drop a) w1 hr;unfold aF at Ch;have Ki:=Hd (show((aB p i).ins.map aS).length=(p.ns[i]?.getD default).ins.length by rw[List.length_map];rfl);generalize Ge:decide (ts.take a=(aB p i).ins.map aS)=bq at *;generalize Fz:eP (2,0,0) (ts.drop a)=ba at *;have Gv:=Hd (show(bq && ba)=false->oo=none from fun h=>by rw[Nt.o,Bx.o,h];rfl);have Kb:=Hd (show(bq && ba)=true->oo=some ((aB p i).outs.map aS)from fun h=>by rw[Nt.o,Bx.o,h];rfl);clear Nt Bx Ge Fz;have Aq:(m:Int)-(q:Int)=(a:Int):=aA;have Og:decide ((i:Int)<0)=false:=Zz aA;have Ni:a<=m:=aA;have HM:=Hd hm;clear hm;unfold aB at Ha Ki Gv Kb;generalize p.ns[i]?.getD default=nd at *;go_in
 go_upto_region 1 with(fail);generalize Ai:(w.alloc _).alloc _=w0;obtain⟨Ae,Al,Bf,As⟩:=lO Ai;have Af:=Hd Ae;have Nv:=Hd Bf;have Nw:=Hd As;have q0:=Bf w0 (Yg _ _) 0;have q1:=Bf w0 (Yg _ _) 1;have r2:=As w0 (Yg _ _) 2;simp only[Ya,Yb,Yc]at q0 q1 r2;rw[hN]at Iy;clear Ai Ae Al Bf As;go_wp2_with fail;refine(Iy.o w0 Af.o).mono ?_;rintro e w1 ⟨rfl,Aa⟩;have Ac:=Hd (aT Af.o Aa);have q1:=Nv.o w1 Aa 1;have r1:=Nw.o w1 Aa 1;simp only[Ya,Yb,Yc]at q1 r1;obtain⟨d0,d1,d2,d3,d4⟩:=HD.o w1 Ac.o;clear Aa q0 r2 Iy Nv Nw HD;go_upto_region 4 with(fail);refine kF (l:=[_,_,_,_,_,_,_,_,_,_,_,_,_,_]) 11 12 _ _ (d:=9) (tx:=23) (T:=36) (zc:=ndZ) aC rfl rfl aC rfl aG (fun a W=>by rfl) rfl aC ?_
 repeat
  first
  |refine kJ rfl ?_
  | (apply kI rfl rfl aG
     case h1=>
      exact aQd
     simp only[Act.put,Yd,Ye,Yf])
 refine⟨#[.string nd.nm,.slice A1 nd.ins.length c1,.slice A2 nd.outs.length c2,.slice A3 nd.vars.length c3,.slice A4 nd.eqs.length c4],rfl,rfl,by simp[Value.oneCell'],fun W g hW hg hz=>?_⟩;have Bt:=Hd (aT Ac.o (cU hW));have k1:=yJ hz 1;have k2:=yJ hz 2;simp only[Ya,Yb,Yc]at k1 k2;clear hW hg hz q1 r1 d0 d1 d2 d3 d4;show Exit.then _ _ .normal _ W;simp only[Act.put,Yd,Ye,Yf];try rw[Aq]
 have Of:a<=sc:=aA;have Nu:=Yi _ _ k1;have Di:=Hd (show g<W.heap.size from Nu);clear Nu;cases bq with
 |false=>
  exact aQc
 |true=>
  have Jx:=Hd (show m=a->(ts.drop a).length=0 from fun h=>by rw[List.length_drop];omega);by_cases Ob:sc=a
  . have Nz:m=a:=by omega
    have Mp:=Hd (Jx.o Nz);clear Jx;obtain rfl:q=0:=by have:=HM.o;omega
    clear Ni Aq HM;subst Ob;subst Nz;exact fK1
  . clear Jx;clear Aq;exact fK1
theorem aX5(p:Pg)(x:Nd)(r:Rm)(y:Ex)(A:Option Addr)(ca:Nat)(B:Option Addr)(cb:Nat)(ts:List T3)(w:World)(h:dF w p x r)(hS:aR w none 0 ts)(hn:y.n=((0:Nat):Int))(De:∀j,j<p.ns.length->(aB p j).ins.length<=1000/\(aB p j).outs.length<=1000):
 Calls Tryz.prog 78 #[.agg (aY p x r),.agg (aE y A ca B cb),.slice none 0 0] w (jF w ((mA p y ts).map fun j=>(aB p j).outs.map aS)):=by
 have Nv:=hS.len;have hmm:=hS.max;have Iy:=Hd fun w1 (hb:Below w.heap.size w w1)=>aLo p r.E r.ec r.N r.nc y.s w1 (h.below hb).1;have HS:=Hd fun w1 (hb:Below w.heap.size w w1)=>hS.below hb;have Eg:=Hd fun w1 (hb:Below w.heap.size w w1)=>(show eX w1 r.N p.ns.length p.ns from(h.below hb).1.2);have HC:=Hd (show mA p y ts=if cY p y.s<0 then none
  else if(decide (ts.take 0=(aB p (cY p y.s).toNat).ins.map aS) && eP (2,0,0) (ts.drop 0))=true then some (cY p y.s).toNat else none from by
  unfold mA;rw[hn,Nv,Int.toNat_natCast])
 have Nx:=Hd (yF p y.s);have Ku:=Hd aHs;have Gz:=Hd tA;clear h hS;generalize Fw:(mA p y ts).map (fun j=>(aB p j).outs.map aS)=oo;generalize mA p y ts=cp at *;generalize cY p y.s=f at *;unfold aY aE aF at *;rw[hn];rcases Nx.o with rfl|⟨i,rfl,hi⟩;· exact aQl
 have Bp:=Hd (show cp=if(decide (ts.take 0=(aB p i).ins.map aS) && eP (2,0,0) (ts.drop 0))=true then some i else none by rw[HC.o,if_neg aA,Int.toNat_natCast]);obtain⟨nb,no,A1,c1,A2,c2,A3,c3,A4,c4,hN,Aq,Ap,d0,d1,d2,d3,d4⟩:=iR (Eg.o w (Yg _ _)) hi;obtain⟨Ny,Nw⟩:=De i hi;have Hy:=Hd fun w1 (hb:Below w.heap.size w w1)=>Ku.o A1 (p.ns[i]?.getD default).ins.length c1 (p.ns[i]?.getD default).ins w1 (Ap.below hb).1 Ny;have Ln:=Hd fun w1 (hb:Below w.heap.size w w1)=>Ku.o A2 (p.ns[i]?.getD default).outs.length c2 (p.ns[i]?.getD default).outs w1 (Ap.below hb).2.1 Nw
 have HD:=Hd (show ∀ w1,Below w.heap.size w w1->w1.cell? ⟨nb,no+i*5,none⟩=some (.string (p.ns[i]?.getD default).nm)/\w1.cell? ⟨nb,no+i*5+1,none⟩=some (.slice A1 (p.ns[i]?.getD default).ins.length c1)/\w1.cell? ⟨nb,no+i*5+2,none⟩=some (.slice A2 (p.ns[i]?.getD default).outs.length c2)/\w1.cell? ⟨nb,no+i*5+3,none⟩=some (.slice A3 (p.ns[i]?.getD default).vars.length c3)/\w1.cell? ⟨nb,no+i*5+4,none⟩=some (.slice A4 (p.ns[i]?.getD default).eqs.length c4) from
  fun w1 hb=>⟨(hb.cell (p:=⟨nb,no+i*5,none⟩) Aq).trans d0,(hb.cell (p:=⟨nb,no+i*5+1,none⟩) Aq).trans d1,(hb.cell (p:=⟨nb,no+i*5+2,none⟩) Aq).trans d2,(hb.cell (p:=⟨nb,no+i*5+3,none⟩) Aq).trans d3,(hb.cell (p:=⟨nb,no+i*5+4,none⟩) Aq).trans d4⟩)
 have Bx:=Hd (show oo=cp.map fun j=>(aB p j).outs.map aS from Fw.symm);clear d0 d1 d2 d3 d4 Ap Eg HC Fw Ku Ny Nw Nx;unfold aDh at Hy Ln;rw[hN];have Ha:=Hd fun(T1:Option Addr)(tn tc:Nat) w1 (hb:Below w.heap.size w w1)(ht:aR w1 T1 tn ((aB p i).ins.map aS))=>aJ3 none T1 0 tn 0 tc (ts.take 0) ((aB p i).ins.map aS) w1 ((HS.o w1 hb).take aA) ht;have Ch:=Hd fun(ad:Option Addr)(n1 cc:Nat) w1 (hr:aR w1 ad n1 (ts.drop 0))=>mB 2 0 0 ad n1 cc (ts.drop 0) w1 hr;unfold aF at Ch;have Ki:=Hd (show((aB p i).ins.map aS).length=(p.ns[i]?.getD default).ins.length by rw[List.length_map];rfl);generalize Ge:decide (ts.take 0=(aB p i).ins.map aS)=bq at *;generalize Fz:eP (2,0,0) (ts.drop 0)=ba at *;have Gv:=Hd (show(bq && ba)=false->oo=none from fun h=>by rw[Bx.o,Bp.o,h];rfl);have Kb:=Hd (show(bq && ba)=true->oo=some ((aB p i).outs.map aS)from fun h=>by rw[Bx.o,Bp.o,h];rfl);clear Bx Bp Ge Fz;have Nz:decide ((i:Int)<0)=false:=Zz aA;unfold aB at Ha Ki Gv Kb;generalize p.ns[i]?.getD default=nd at *;go_in
 go_upto_region 1 with(fail);generalize Ai:(w.alloc _).alloc _=w0;obtain⟨Ae,Al,Bf,As⟩:=lO Ai;have Af:=Hd Ae;have Nt:=Hd Bf;have Nu:=Hd As;have q0:=Bf w0 (Yg _ _) 0;have q1:=Bf w0 (Yg _ _) 1;have r2:=As w0 (Yg _ _) 2;simp only[Ya,Yb,Yc]at q0 q1 r2;rw[hN]at Iy;clear Ai Ae Al Bf As;go_wp2_with fail;refine(Iy.o w0 Af.o).mono ?_;rintro e w1 ⟨rfl,Aa⟩;have Ac:=Hd (aT Af.o Aa);have q1:=Nt.o w1 Aa 1;have r1:=Nu.o w1 Aa 1;simp only[Ya,Yb,Yc]at q1 r1;obtain⟨d0,d1,d2,d3,d4⟩:=HD.o w1 Ac.o;clear Aa q0 r2 Iy Nt Nu HD;go_upto_region 4 with(fail);refine kF (l:=[_,_,_,_,_,_,_,_,_,_,_,_,_,_]) 11 12 _ _ (d:=9) (tx:=23) (T:=36) (zc:=ndZ) aC rfl rfl aC rfl aG (fun a W=>by rfl) rfl aC ?_
 repeat
  first
  |refine kJ rfl ?_
  | (apply kI rfl rfl aG
     case h1=>
      exact aQd
     simp only[Act.put,Yd,Ye,Yf])
 refine⟨#[.string nd.nm,.slice A1 nd.ins.length c1,.slice A2 nd.outs.length c2,.slice A3 nd.vars.length c3,.slice A4 nd.eqs.length c4],rfl,rfl,by simp[Value.oneCell'],fun W g hW hg hz=>?_⟩;have Bt:=Hd (aT Ac.o (cU hW));have k1:=yJ hz 1;have k2:=yJ hz 2;simp only[Ya,Yb,Yc]at k1 k2;clear hW hg hz q1 r1 d0 d1 d2 d3 d4;show Exit.then _ _ .normal _ W;simp only[Act.put,Yd,Ye,Yf];have Jx:=Yi _ _ k1;have Di:=Hd (show g<W.heap.size from Jx);clear Jx;cases bq with
 |false=>
  exact aQc
 |true=>
  have Mp:=Hd (show(ts.drop 0).length=0 by rw[List.length_drop,Nv]);cases ba with
  |false=>
   have HO:=Hd (Gv.o rfl);clear Gv Kb Ln;go_upto_region 5 with(fail);go_region_held3 (fun X=>X.cell? ⟨g,1,none⟩=some (.slice A1 nd.ins.length c1)) (first|exact k1|exact Ll|exact Lg|exact Ls|exact Lt)
    ((first
      |(go_at_call 118;refine(Hy.o _ (Bt.o.trans ((bG (Yg W.heap.size W) 1).mono Bt.o.size))).mono ?_;rintro e Wa ⟨T1,tc,rfl,Cz,Fz⟩;have Dd:=Hd ((bG (Yg W.heap.size W) 1).trans (Fz.mono (bG (Yg W.heap.size W) 1).size));have Hp:=Hd Cz;have Ll:=(Dd.o.cell (p:=⟨g,1,none⟩) Di.o).trans k1;clear Fz Cz)
      |(go_at_call 117;refine(Ha.o T1 _ tc Wa (Bt.o.tr Dd.o) (by have:=Hp.o;rwa[Ki.o]at this)).mono ?_;rintro e Wb ⟨rfl,Bn⟩;have Hl:=Hd (Dd.o.tr Bn);have Lg:=(Hl.o.cell (p:=⟨g,1,none⟩) Di.o).trans k1;clear Bn)
      |(go_at_call 120;refine(Gz.o 2 Wb).mono ?_;rintro e Wc ⟨rfl,Iv⟩;have Jf:=Hd (Hl.o.tr Iv);have Ls:=(Jf.o.cell (p:=⟨g,1,none⟩) Di.o).trans k1;clear Iv)
      |(go_at_call 119;refine(Ch.o _ _ _ Wc (by exact aR.none_ Mp.o)).mono ?_;rintro e Wd ⟨rfl,Hf⟩;have Hb:=Hd (Jf.o.tr Hf);have Lt:=(Hb.o.cell (p:=⟨g,1,none⟩) Di.o).trans k1;clear Hf)))
   go_wp2_with fail;try go_ret2
   exact⟨none,0,0,[],by rw[HO.o];rfl,fun r h=>tZ,Bt.o.tr Hb.o⟩
  |true=>
   have HO:=Hd (Kb.o rfl);clear Gv Kb;go_upto_region 5 with(fail);go_region_held3 (fun X=>X.cell? ⟨g,1,none⟩=some (.slice A1 nd.ins.length c1)) (first|exact k1|exact Ll|exact Lg|exact Ls|exact Lt)
    ((first
      |(go_at_call 118;refine(Hy.o _ (Bt.o.trans ((bG (Yg W.heap.size W) 1).mono Bt.o.size))).mono ?_;rintro e Wa ⟨T1,tc,rfl,Cz,Fz⟩;have Dd:=Hd ((bG (Yg W.heap.size W) 1).trans (Fz.mono (bG (Yg W.heap.size W) 1).size));have Hp:=Hd Cz;have Ll:=(Dd.o.cell (p:=⟨g,1,none⟩) Di.o).trans k1;clear Fz Cz)
      |(go_at_call 117;refine(Ha.o T1 _ tc Wa (Bt.o.tr Dd.o) (by have:=Hp.o;rwa[Ki.o]at this)).mono ?_;rintro e Wb ⟨rfl,Bn⟩;have Hl:=Hd (Dd.o.tr Bn);have Lg:=(Hl.o.cell (p:=⟨g,1,none⟩) Di.o).trans k1;clear Bn)
      |(go_at_call 120;refine(Gz.o 2 Wb).mono ?_;rintro e Wc ⟨rfl,Iv⟩;have Jf:=Hd (Hl.o.tr Iv);have Ls:=(Jf.o.cell (p:=⟨g,1,none⟩) Di.o).trans k1;clear Iv)
      |(go_at_call 119;refine(Ch.o _ _ _ Wc (by exact aR.none_ Mp.o)).mono ?_;rintro e Wd ⟨rfl,Hf⟩;have Hb:=Hd (Jf.o.tr Hf);have Lt:=(Hb.o.cell (p:=⟨g,1,none⟩) Di.o).trans k1;clear Hf)))
   have k2:=(Hb.o.cell (p:=⟨g,2,none⟩) Di.o).trans k2;have Ey:=Hd (Bt.o.tr Hb.o);go_wp2_with fail;refine(Ln.o Wd Ey.o).mono ?_;rintro e w9 ⟨T9,t9,rfl,Kn,Kq⟩;have Le:=Hd Kn;have Fq:=Hd (aT Ey.o Kq);clear Kn Kq;go_wp2_with fail;try go_ret2
   exact⟨T9,nd.outs.length,t9,nd.outs.map aS,by rw[HO.o];rfl,fun r h=>(by rw[HO.o]at h;injection h with h;exact⟨h.symm,by have:=Le.o;rwa[List.length_map]at this⟩),Fq.o⟩
end
end Go.Proofs.YtkbpdoomhfkngaaGreat
