/- A part of the proof. Conditions: each theorem's own. -/
import Derived.Test.YtagkcjpoipcpkaaGreatDoorF18
namespace Go.Proofs.YtagkcjpoipcpkaaGreatDoor
set_option linter.unusedVariables false
set_option linter.unusedSimpArgs false
set_option maxRecDepth 100000
set_option maxHeartbeats 40000000
section
open Go.RowKit Go.Sort
section
variable {w w1 w2 w':World}{b:Nat}{A:OA}{n c:Nat}{all r r' r2:List Tk}{va va1 vp:Value}{st:LV}{ps:List Ex}{sz:Nat}{L L1 L2 S ft:LN}
theorem aP.size(h:aP w b A n c all r va st vp ps sz L):aP (w.setCell ⟨b,4,none⟩ (.int .i64 ((sz+1:Nat):Int))) b A n c all r va st vp ps (sz+1) L/\Tn [b] L L w (w.setCell ⟨b,4,none⟩ (.int .i64 ((sz+1:Nat):Int))):=by
 have Dd:∀k,k≠b->(w.setCell ⟨b,4,none⟩ (.int .i64 ((sz+1:Nat):Int))).heap[k]?=w.heap[k]?:=fun k hk=>Xb _ _ _ _ hk;have ht:Tn [b] L L w (w.setCell ⟨b,4,none⟩ (.int .i64 ((sz+1:Nat):Int))):=⟨rfl,rfl,rfl,by simp,fun k _ hn=>Dd k (fun e=>hn yW),fun k hk=>.inl hk,fun k hk _=>hk⟩;obtain⟨cs,h1,h2⟩:=h.op;refine⟨⟨?_,h.rd.up ht.ups (ht.up (cV h)),h.len,h.pre,h.fin,h.tks,jM h.oa fun k hk=>Dd k fun e=>h.va_ne (e ▸ hk),⟨cs,jM h1 fun k hk=>Dd k fun e=>h.vp_ne (e ▸ hk),sB ht.ups (ht.up (cV h)) h2⟩,h.lb,h.la,h.lp,fun k hk=>by simpa using h.lv k hk⟩,ht⟩;exact aPv
theorem aSc(g k:Nat):(⟨g,0,none⟩:Addr).add k=⟨g,k,none⟩:=aGg
theorem aXk{A3:OA}{m cp f:Nat}{cs:LV}{T:TypeId}(ho:w.ownsRow 0 T 6 (.slice A3 m cp) m cs)(hf:f<=m):
 ((if cp=f then A3 else Option.map (fun x=>x.add (f*6)) A3)=none->m-f=0)/\
   ∀ad,(if cp=f then A3 else Option.map (fun x=>x.add (f*6)) A3)=some ad->∀j u,(cs.drop (f*6))[j]?=some u->w.cell? (ad.add j)=some u:=by
 have hl:=ho.1;rcases ho.2 with⟨h1,h2⟩|⟨g,cap,cur,h1,_,hh,h2,_⟩
 . injection h1 with h1 h3 h4;subst h1 h2;refine⟨fun _=>by omega,fun ad he=>?_⟩;split at he<;>simp at he
 . injection h1 with h1 h3 h4;subst h1 h4;split
   . rename_i hc
     have:cs.drop (f*6)=[]:=List.drop_eq_nil_of_le aA
     rw[this];exact⟨fun h=>by simp at h,fun ad he j u hj=>by simp at hj⟩
   . refine⟨fun h=>by simp at h,fun ad he j u hj=>?_⟩;simp only[Option.map_some,Option.some.injEq]at he;subst he;rw[aSc,aM5,ho.cellAt (f*6+j) (by rw[<-hl];have:=(List.getElem?_eq_some_iff.1 hj).1;rw[Zv]at this;omega)];rw[List.getElem?_drop]at hj;exact hj
theorem bTt{A3:OA}{m cp f:Nat}{cs:LV}{T:TypeId}(ho:w.ownsRow 0 T 6 (.slice A3 m cp) m cs)(hf:f<=m):w.ownsRow 0 T 6 (.slice A3 f cp) f (cs.take (f*6)):=by
 have hl:=ho.1;refine⟨by rw[List.length_take];omega,?_⟩;rcases ho.2 with⟨h1,h2⟩|⟨g,cap,cur,h1,hg,hh,h2,h3,h4,h5⟩
 . injection h1 with h1 h3 h4;subst h1 h4
   have:f=0:=aA
   subst this;exact .inl ⟨rfl,rfl⟩
 . injection h1 with h1 h6 h7;subst h1 h7;refine .inr ⟨g,cp,cur,rfl,hg,hh,by omega,h3,h4,?_⟩;rw[<-h5,List.take_take];congr 1;omega
theorem aMt{W:World}:∀{l:List Ex}{cs:LV}(f:Nat),jJ W l cs->f<=l.length->jJ W (l.take f) (cs.take (f*6))/\jJ W (l.drop f) (cs.drop (f*6))
 |l,cs,0,h,_=>⟨by simp[jJ],by simpa using h⟩
 |[],cs,f+1,h,hf=>absurd hf aC
 |x::l,cs,f+1,h,hf=>by
  obtain⟨A,ca,B,cb,Aa,rfl,h1,h2⟩:=h;obtain⟨h3,h4⟩:=aMt f h2 wW;have e:(dB x A ca B cb).length=6:=rfl;have e2:(f+1)*6=(dB x A ca B cb).length+f*6:=by rw[e];omega
  have e3:(dB x A ca B cb++Aa).take ((f+1)*6)=dB x A ca B cb++Aa.take (f*6):=by rw[e2,List.take_length_add_append]
  have e4:(dB x A ca B cb++Aa).drop ((f+1)*6)=Aa.drop (f*6):=by rw[e2,List.drop_length_add_append]
  rw[e3,e4];exact⟨⟨A,ca,B,cb,_,rfl,h1,h3⟩,h4⟩
theorem bMi(x:Ex)(l:List Ex)(Aa:OA)(ca:Nat)(B:OA)(cb:Nat):aJ (nI x l) Aa ca B cb=#[.int .i64 x.k,.int .i64 x.n,.string x.s,.int .i64 x.op,.slice Aa x.arms.length ca,.slice B l.length cb]:=by
 cases x;rfl
theorem aSd(x:Ex)(l:List Ex):(nI x l).arms=x.arms/\(nI x l).subs=l:=by
 cases x;exact⟨rfl,rfl⟩
theorem bO8{eb f ca c':Nat}{x:Ex}{Aa A':OA}{cs:LV}{w4:World}(h:aP w b A n c all r va st vp ps sz L)(hf:f<=ps.length)(Be:ps.length<=1000000)(Ha:eb∈L)(Ad:aX w eb x Aa ca none 0)(Ct:aS (fR L w) Aa x.arms.length x.arms)(hv:vp.ownBlock≠some eb)(Hv:x.subs=[])
 (Jx:jJ (fR L w) ps cs)(Du:w.grownBy w4 none)(Ao:w4.ownsRow 0 79 6 (.slice A' (ps.length-f) c') (ps.length-f) (cs.drop (f*6)))(Ar:(Value.slice A' (ps.length-f) c').ownBlock=none\/(Value.slice A' (ps.length-f) c').ownBlock=some w.heap.size):
 aP (w4.setCell ⟨eb,5,none⟩ (.slice A' (ps.length-f) c')) b A n c all r va st vp ps sz L/\Tn [eb] L L w (w4.setCell ⟨eb,5,none⟩ (.slice A' (ps.length-f) c'))/\
  aX (w4.setCell ⟨eb,5,none⟩ (.slice A' (ps.length-f) c')) eb (nI x (ps.drop f)) Aa ca A' c'/\aM (fR L (w4.setCell ⟨eb,5,none⟩ (.slice A' (ps.length-f) c'))) (nI x (ps.drop f)) Aa A'/\jJ (fR L (w4.setCell ⟨eb,5,none⟩ (.slice A' (ps.length-f) c'))) ps cs:=by
 have Ah:eb<w.heap.size:=Ad.lt;have Aq:w4.heap[eb]?=some (.cells (aJ x Aa ca none 0) 79):=(Du.block eb Ah aC).trans Ad;generalize hW:w4.setCell ⟨eb,5,none⟩ (.slice A' (ps.length-f) c')=W;have Dd:∀k,k≠eb->W.heap[k]?=w4.heap[k]?:=fun k hk=>by rw[<-hW];exact Xb _ _ _ _ hk
 have Ng:W.heap[eb]?=some (.cells (aJ (nI x (ps.drop f)) Aa ca A' c') 79):=by
  rw[<-hW,Xi _ _ _ _ _ _ _ Aq,Xh _ _ _ _ _ _ Aq,bMi];simp[aJ,Hv]
 have hS:∀k∈[eb],k∈L:=fun k hk=>by rw[Yp.1 hk];exact Ha
 have Au:W.heap.size=w4.heap.size:=aPh;have ht:Tn [eb] L L w W:=⟨by rw[<-hW];exact Du.os,by rw[<-hW];exact Du.tape,by rw[<-hW];exact Du.output,by rw[Au];exact Du.size,fun k hk hn=>(Dd k (fun e=>hn yW)).trans (Du.block k hk aC),fun k hk=>.inl hk,fun k hk _=>hk⟩;have Ae:∀k,k<w.heap.size->k≠eb->W.heap[k]?=w.heap[k]?:=fun k hk hn=>ht.block k hk (by simp[hn]);obtain⟨Hc,h1,h2⟩:=h.op;have Nh:b≠eb:=by
  rintro rfl;have h3:=h.row;rw[show w.heap[b]?=_ from Ad]at h3;injection h3 with h3;injection h3 with _ h3;exact absurd h3 aF
 have Bs:=sB ht.ups (ht.up hS) Jx;refine⟨⟨(Ae b h.lt Nh).trans h.row,h.rd.up ht.ups (ht.up hS),h.len,h.pre,h.fin,h.tks,jM h.oa fun k hk=>Ae k (h.lv k (h.la k hk)) fun e=>?_,⟨Hc,jM h1 fun k hk=>Ae k (h.lv k (h.lp k hk)) fun e=>hv (e ▸ hk),sB ht.ups (ht.up hS) h2⟩,h.lb,h.la,h.lp,fun k hk=>Yt (h.lv k hk) ht.size⟩,ht,Ng,?_,Bs⟩;· exact oQ h.oa Ad aF (e ▸ hk)
 . rw[aAi,(aSd x (ps.drop f)).1,(aSd x (ps.drop f)).2];refine⟨Ct.up ht.ups (ht.up hS),?_⟩;have Cq:(ps.drop f).length=ps.length-f:=Zv;refine⟨Cq.symm ▸ rfl,by rw[Cq];omega,fun hn=>?_⟩;rw[Cq]at hn;rcases Ao.2 with⟨h3,h4⟩|⟨g,cap,cur,h3,hg,hh,h4,h5,h6,h7⟩;· omega
   . injection h3 with h3 h8 h9;subst h3 h9;have hg2:g=w.heap.size:=by
      rcases Ar with Ar|Ar;· simp[Value.ownBlock]at Ar
      . simpa[Value.ownBlock]using Ar
     have Fs:g≠eb:=aA;have Hb:g∉L:=fun hk=>by have:=h.lv g hk;omega
     have Ni:g<W.heap.size:=by rw[Au];exact(Ym.1 hh).1
     refine⟨g,0,rfl,by rw[xM];exact Ni,aOj (aMt f Bs hf).2 fun j v hj=>?_⟩;rw[rR (p:=⟨g,0+j,none⟩) Hb];unfold World.cell?;rw[Dd g Fs]
     have:=Ao.cellAt j (by rw[<-Ao.1];exact(List.getElem?_eq_some_iff.1 hj).1)
     unfold World.cell? at this;rw[Nat.zero_add];exact this.trans hj
theorem aT1{eb f ca cb c2:Nat}{x:Ex}{Aa B A2:OA}{cs:LV}{w5 w6:World}(h:aP w b A n c all r va st vp ps sz L)(h5:aP w5 b A n c all r va st vp ps (sz+1) L)(hT:Tn [b,eb] L L w w5)(hf:f<=ps.length)(Nk:aM (fR L w5) x Aa B)
 (hcs:jJ (fR L w5) ps cs)(hb:Below w5.heap.size w5 w1)(Du:w1.grownBy w6 vp.ownBlock)(Ao:w6.ownsRow 0 79 6 (.slice A2 (f+1) c2) (f+1) (cs.take (f*6)++dB x Aa ca B cb))(Ar:(Value.slice A2 (f+1) c2).ownBlock=vp.ownBlock\/(Value.slice A2 (f+1) c2).ownBlock=some w1.heap.size):
 bF w b A n c all va st vp L [eb] (.ok ([],ps.take f++[x],sz+1) r) (.returned (.tuple #[])) (w6.setCell ⟨b,3,none⟩ (.slice A2 (f+1) c2)):=by
 have Cl:=h5.lt;have Ha:b<w1.heap.size:=Yt Cl hb.size;have Aq:w6.heap[b]?=some (.cells (nE (.slice A n c) ((n-r.length:Nat):Int) va vp (sz+1)) 257):=(Du.block b Ha (fun e=>h5.vp_ne e.symm)).trans ((hb.block b Cl).trans h5.row);obtain⟨gg,Bs⟩:∃gg,(Value.slice A2 (f+1) c2).ownBlock=some gg:=by
  rcases Ao.2 with⟨h1,h2⟩|⟨g,cap,cur,h1,_⟩;· omega
  . exact⟨g,by rw[h1];rfl⟩
 generalize Nl:Value.slice A2 (f+1) c2=v' at *;have Fs:gg<w6.heap.size:=(Ao.lt gg Bs).2;have Nm:gg≠b:=by
  rintro rfl;exact oQ Ao Aq aF Bs
 have Ae:vp.ownBlock=some gg\/w5.heap.size<=gg:=by
  rcases Ar with Ar|Ar;· exact .inl (Ar.symm.trans Bs)
  . rw[Bs]at Ar;injection Ar with Ar;exact .inr aO7
 generalize hW:w6.setCell ⟨b,3,none⟩ v'=W;have Dd:∀k,k≠b->W.heap[k]?=w6.heap[k]?:=fun k hk=>by rw[<-hW];exact Xb _ _ _ _ hk
 have Au:W.heap.size=w6.heap.size:=aPh
 have Ja:∀k∈b::vp.ownBlock.toList,k∈L:=fun k hk=>by
  simp only[Yw,Option.mem_toList]at hk;rcases hk with rfl|hk;· exact h5.lb
  . exact h5.lp k hk
 have Ct:Tn (b::vp.ownBlock.toList) L (gg::L) w5 W:=by
  refine⟨by rw[<-hW];exact Du.os.trans hb.os,by rw[<-hW];exact Du.tape.trans hb.tape,by rw[<-hW];exact Du.output.trans hb.output,by rw[Au];exact Yr hb.size Du.size,fun k hk hn=>?_,fun k hk=>?_,fun k hk _=>Zi _ hk⟩;· exact bIc
  . rcases Yw.1 hk with rfl|hk
    . rcases Ae with h1|h1;· exact .inl (h5.lp k h1)
      . exact .inr h1
    . exact .inl hk
 have Nj:Tn (cU b va vp [eb]) L L w w5:=hT.mono fun k hk=>by
  simp only[Yw,Yl,or_false]at hk;rcases hk with rfl|rfl;· exact aC6
  . simp[cU]
 have Jx:Tn (cU b va vp [eb]) L (gg::L) w W:=Nj.trans Ct h.lv fun k hk=>.inl (by
  simp only[Yw,Option.mem_toList]at hk;rcases hk with rfl|hk;· exact aC6
  . simp[cU,hk])
 have Ng:va.ownBlock≠some gg:=fun e=>by
  rcases Ae with h1|h1;· exact h5.vap e h1
  . have:=h5.lv gg (h5.la gg e);omega
 have Ni:jJ (fR (gg::L) W) (ps.take f++[x]) (cs.take (f*6)++dB x Aa ca B cb):=
  aNs (sB Ct.ups (Ct.up Ja) (aMt f hcs hf).1) (aYr (oP Ct.ups (Ct.up Ja) x Aa B Nk))
 have Hb:(ps.take f++[x]).length=f+1:=by simp[Nat.min_eq_left hf]
 refine⟨rfl,va,v',gg::L,[],[],⟨?_,h5.rd.up Ct.ups (Ct.up Ja),h5.len,h5.pre,h5.fin,h5.tks,jM h5.oa fun k hk=>?_,⟨_,?_,Ni⟩,Zi _ h5.lb,fun k hk=>Zi _ (h5.la k hk),fun k hk=>?_,fun k hk=>?_⟩,rfl,Jx,List.nodup_nil,fun k hk=>absurd hk Yl,fun k hk=>absurd hk Yl,dQ.refl _ _,?_⟩
 . rw[<-hW,Xi _ _ _ _ _ _ _ Aq,Xh _ _ _ _ _ _ Aq];rfl
 . have Nh:k≠b:=fun e=>h5.va_ne (e ▸ hk);have Hc:=h5.lv k (h5.la k hk);rw[Dd k Nh,Du.block k (Yt Hc hb.size) (fun e=>h5.vap hk e.symm),hb.block k Hc]
 . show W.ownsRow 0 _ 6 v' (ps.take f++[x]).length _;rw[Hb];exact jM Ao fun k hk=>Dd k (by rw[Bs]at hk;injection hk with hk;omega)
 . rw[Bs]at hk;injection hk with hk;exact hk ▸ Zc
 . rw[Au];rcases Yw.1 hk with rfl|hk;· exact Fs
   . have:=h5.lv k hk;have:=hb.size;have:=Du.size;omega
 . rcases Ae with h1|h1;· exact .inl (Bs.trans h1.symm)
   . refine .inr fun k hk=>?_;rw[Bs]at hk;injection hk with hk
     have:=hT.size
     omega
theorem aCw(A:OA)(m c m' c':Nat):(Value.slice A m c).ownBlock=(Value.slice A m' c').ownBlock:=by cases A<;>rfl
theorem iC(W:World){g j:Nat}(v:Value){p o:Nat}(h:p≠g):(W.setCell ⟨g,j,none⟩ v).cell? ⟨p,o,none⟩=W.cell? ⟨p,o,none⟩:=Yn (Xb _ _ _ _ h)
theorem bO9{l:List (Nat × Value)}{w4:World}(k:pY L w l)(hg:w.grownBy w4 none):pY L w4 l:=
 k.up (S:=[]) ⟨hg.os,hg.tape,hg.output,hg.size,fun k hk _=>hg.block k hk aC,fun k hk=>.inl hk,fun k hk _=>hk⟩ bS
theorem pY.ne{l:List (Nat × Value)}(k:pY L w l)(i p:Nat)(v:Value)(h:l[i]?=some (p,v)){g:Nat}(hg:g∈L):p≠g:=by
 have h1:=(zV (k (p,v) (List.mem_of_getElem? h))).2;rintro rfl;exact h1 hg
theorem vX(x:Ex)(f eb p0 p1 p2:Nat)(h:aP w b A n c all r va st vp ps sz L)(hf:f<=ps.length)(Be:ps.length<=1000000)(Au:sz<=1000000)(he:jL L w eb x)(hv:vp.ownBlock≠some eb)(h0:Fz L w p0 (rp b))(h1:Fz L w p1 (rp eb))(h2:Fz L w p2 (.int .i64 (f:Int))):
 Calls Tryz.prog 273 #[rp p0,rp p1,rp p2] w (bF w b A n c all va st vp L [eb] (jR x f ps sz r)):=by
 obtain⟨i0,hi,Cm,Co,Cr⟩:=bAo;obtain⟨Dg,Oe,Oc⟩:=oO h he;obtain⟨Nk,Nh⟩:=h.size;have HM:=Hd h;have Bc:=Hd Nk;have Bs:=Hd Nh;have HZ:=Hd (bH h0 (bH h1 (bH h2 (jA L w))));have Bn:=Hd (HZ.o.up Nh (cV h));have Ns:=Hd (cV h);obtain⟨Fs,Hv,Aa,ca,Ad,Ct⟩:=he;obtain⟨A3,cp,Nx,Of⟩:∃A3 cp,vp=.slice A3 ps.length cp/\ps.length<=cp:=by
  obtain⟨cs,ho,_⟩:=h.op;rcases ho.2 with⟨h1,h2⟩|⟨g,cap,cur,h1,_,_,h2,_⟩;· exact⟨none,0,by rw[h1,h2],by omega⟩
  . exact⟨_,_,h1,h2⟩
 subst Nx;have hv:=Hd hv;have c4:w.cell? ⟨b,4,none⟩=some (.int .i64 (sz:Int)):=h.cell 4;have f4:w.frozen? ⟨b,4,none⟩=false:=h.q.fz 4;have c0:=h0.get;have c1:=h1.get;have c2:=h2.get;have Af:IntKind.i64.wrap ((sz:Int)+1)=((sz+1:Nat):Int):=aGh;have Od:wrap64 (((sz+1:Nat):Int))=((sz+1:Nat):Int):=by unfold wrap64;omega
 by_cases Cz:sz+1<=60
 . have hd:decide (((sz+1:Nat):Int)<=60)=true:=Xc aA;clear h h0 h1 h2 Nk Nh;generalize Kh:((sz+1:Nat):Int)=zz at *;go_in
   go_upto_region 1 with(fail);generalize w.setCell _ _=w1 at *;have d0:=Bn.o.at_ 0 p0 _ rfl;have d1:=Bn.o.at_ 1 p1 _ rfl;have d2:=Bn.o.at_ 2 p2 _ rfl;have d4:w1.cell? ⟨b,4,none⟩=some (.int .i64 zz):=bCa;have d3:w1.cell? ⟨b,3,none⟩=some (.slice A3 ps.length cp):=Bc.o.cell 3;have Bi:=Hd (show aX w1 eb x Aa ca none 0 from(Bs.o.block eb Ad.lt aDt).trans Ad);obtain⟨k0,k1,k2,k3,k4,k5⟩:=Bi.o.cells;have Ae:=Ct.up Bs.o.ups (Bs.o.up Ns.o);have Ng:=Hd Ae;obtain⟨cs,ho,Hb⟩:=Bc.o.op;have HO:=Hd ho;have Ha:=Hd Hb;have Ob:=ho.1;obtain⟨Jx,Ni⟩:=aXk ho hf;have Ny:=Hd Ni;have Oa:=Hd Jx;have Nw:(f:Int)<=(ps.length:Int):=aA;have Nz:(0:Int)<=(f:Int):=aA;have Nt:(f:Int)<=(cp:Int):=aA;have Nj:f<=cp:=aA;have n0:=Bn.o.ne 0 p0 _ rfl Fs;have n1:=Bn.o.ne 1 p1 _ rfl Fs;have n2:=Bn.o.ne 2 p2 _ rfl Fs;have nb:b≠eb:=fun e=>Dg e.symm;clear c0 c1 c2 c4 f4 Ad ho Hb Jx Ni Ct Ae;generalize No:(if cp=f then A3 else Option.map (fun x=>x.add (f*6)) A3)=AA at *;rw[Hv]at k5;have Nq:=Bi.o.fz 5;go_upto_region 2 with(fail);refine wp_region_held_drew (S:=(fun W=>W.cell? ⟨p0,0,none⟩=some (rp b)/\W.cell? ⟨p1,0,none⟩=some (rp eb)/\W.cell? ⟨p2,0,none⟩=some (.int .i64 (f:Int))/\W.cell? ⟨b,3,none⟩=some (.slice A3 ps.length cp))) aE ?_ (fun hHeld=>?_);· exact⟨d0,d1,d2,d3⟩
   refine dM (i:=0) (v:=rp eb) hHeld ?_
   (try simp only[Act.put,Yd,Ye,Yf])
   refine dM (i:=1) (v:=rp eb) hHeld ?_
   (try simp only[Act.put,Yd,Ye,Yf])
   refine dM (i:=2) (v:=rp eb) hHeld ?_
   (try simp only[Act.put,Yd,Ye,Yf])
   refine dM (i:=3) (v:=.pointer (some ⟨eb,5,none⟩)) hHeld ?_
   (try simp only[Act.put,Yd,Ye,Yf])
   refine dM (i:=5) (v:=rp b) hHeld ?_
   (try simp only[Act.put,Yd,Ye,Yf])
   refine dM (i:=6) (v:=rp b) hHeld ?_
   (try simp only[Act.put,Yd,Ye,Yf])
   refine dM (i:=7) (v:=.pointer (some ⟨b,3,none⟩)) hHeld ?_
   (try simp only[Act.put,Yd,Ye,Yf])
   refine dM (i:=8) (v:=.slice A3 ps.length cp) hHeld ?_
   (try simp only[Act.put,Yd,Ye,Yf])
   refine dM (i:=9) (v:=.int .i64 (f:Int)) hHeld ?_
   (try simp only[Act.put,Yd,Ye,Yf])
   refine dM (i:=10) (v:=.slice AA (ps.length-f) (cp-f)) hHeld ?_
   (try simp only[Act.put,Yd,Ye,Yf])
   refine Xj (rs:=[4]) aE aC ?_;refine Zn bC (fun K hK=>?_) ?_
   . go_simp;refine hK.out _ _ ?_ (fun hHeld=>?_);· exact⟨d0,d1,d2,d3⟩
     clear hK K
     (try simp only[Act.put,Yd,Ye,Yf])
     refine Xj (rs:=[11]) aE aC ?_;refine Zn bC (fun K hK=>?_) ?_
     . refine zG bC _ _ _ bC 0 79 i0 _ 6 88 Tryz.underlying77 hi Co Cm Cr rfl aF (.slice none 0 0) 0 [] bC (World.ownsRow_nil _ _ _ _) _ (ps.length-f) _ (cs.drop (f*6)) bC (by rw[Zv];omega) Oa.o Ny.o (fun u hu=>aMf Ha.o u (List.mem_of_mem_drop hu)) fZ aA (Ys _) ?_;intro A4 Nv w4 Bh As Cw;have Aq:w1.grownBy w4 none:=⟨As.os,As.tape,As.output,As.size,fun k hk _=>As.block k hk (by simp[Value.ownBlock])⟩;have Ks:=Hd Aq;have Ga:=Hd Bh;have Hu:=Hd Cw;have Nu:w4.cell? ⟨eb,5,none⟩=some (.slice none 0 0):=(Yn (Aq.block eb Bi.o.lt aC)).trans k5;have Nm:w4.frozen? ⟨eb,5,none⟩=false:=(World.frozen?_of_block (Aq.block eb Bi.o.lt aC)).trans Nq;have Nl:=Hd (bO9 Bn.o Aq);have e0:=Nl.o.at_ 0 p0 _ rfl;have e1:=Nl.o.at_ 1 p1 _ rfl;have e2:=Nl.o.at_ 2 p2 _ rfl;have e3:w4.cell? ⟨b,3,none⟩=some (.slice A3 ps.length cp):=(Yn (Aq.block b Bc.o.lt aC)).trans d3;clear Bh As Cw Aq;refine hK.out _ _ ?_ (fun hHeld=>?_);· exact⟨e0,e1,e2,e3⟩
       clear hK K
       (try simp only[Act.put,Yd,Ye,Yf])
       refine dM (i:=12) (v:=rp eb) hHeld ?_
       (try simp only[Act.put,Yd,Ye,Yf])
       refine dM (i:=13) (v:=.pointer (some ⟨eb,5,none⟩)) hHeld ?_
       (try simp only[Act.put,Yd,Ye,Yf])
       refine Xj (rs:=[14]) aE aC ?_;refine Zn bC (fun K hK=>?_) ?_
       . go_simp;refine hK.out _ _ ?_ (fun hHeld=>?_);· exact⟨(iC _ _ n0).trans e0,(iC _ _ n1).trans e1,(iC _ _ n2).trans e2,(iC _ _ nb).trans e3⟩
         clear hK K
         (try simp only[Act.put,Yd,Ye,Yf])
         refine wpAnyH_done aE ?_ _;go_upto_region 3 with(fail);have Bh:=Ga.o;rw[Nat.zero_add,Zh]at Bh;have Cw:=Hu.o;rw[Nat.zero_add]at Cw;obtain⟨Hr,Ez,Nn,Nr,Np⟩:=bO8 Bc.o hf Be Fs Bi.o Ng.o hv.o Hv Ha.o Ks.o Bh Cw;have Ig:=Hd (jM HO.o fun k hk=>Ez.block k (Bc.o.lv k (Bc.o.lp k hk)) (fun e=>hv.o (by rw[hk,Yp.1 e])));have Ht:=Hd (Tn.trans (S:=[b,eb]) (Bs.o.mono (fun k hk=>by rw[Yp.1 hk];exact Zc)) Ez HM.o.lv (fun k hk=>.inl (by rw[Yp.1 hk];simp)));have Dz:=Hd (Bn.o.up Ez (fun k hk=>by rw[Yp.1 hk];exact Fs));have Ea:=Hd Hr;have Ff:=Hd Nn;have Lw:=Hd Nr;have Mg:=Hd Np;generalize w4.setCell _ _=w5 at *;have Jp:=Hd (show qR x f ps sz=ps.take f++[nI x (ps.drop f)]by unfold qR;rw[if_pos Cz]);generalize nI x (ps.drop f)=y at *;obtain⟨v0,v1,v2,v3,v4,v5⟩:=Nn.cells;generalize A4=B5 at *;generalize Nv=Iu at *;clear No Hr Ez Nn Nr Np Bh Cw e0 e1 e2 e3 Nu Nm d0 d1 d2 d3 d4 k0 k1 k2 k3 k4 k5 Nq;exact fK0
       exact Zo
     exact Zo
   exact Zo
 . have hd:decide (((sz+1:Nat):Int)<=60)=false:=Xd aA;clear h h0 h1 h2 Nk Nh;generalize Kh:((sz+1:Nat):Int)=zz at *;go_in
   go_upto_region 1 with(fail);generalize w.setCell _ _=w1 at *;have d0:=Bn.o.at_ 0 p0 _ rfl;have d1:=Bn.o.at_ 1 p1 _ rfl;have d2:=Bn.o.at_ 2 p2 _ rfl;have d4:w1.cell? ⟨b,4,none⟩=some (.int .i64 zz):=bCa;have d3:w1.cell? ⟨b,3,none⟩=some (.slice A3 ps.length cp):=Bc.o.cell 3;have Bi:=Hd (show aX w1 eb x Aa ca none 0 from(Bs.o.block eb Ad.lt aDt).trans Ad);obtain⟨k0,k1,k2,k3,k4,k5⟩:=Bi.o.cells;have Ae:=Ct.up Bs.o.ups (Bs.o.up Ns.o);have Ng:=Hd Ae;obtain⟨cs,ho,Hb⟩:=Bc.o.op;have HO:=Hd ho;have Ha:=Hd Hb;have Ob:=ho.1;obtain⟨Jx,Ni⟩:=aXk ho hf;have Nw:(f:Int)<=(ps.length:Int):=aA;have Nz:(0:Int)<=(f:Int):=aA;have Nt:(f:Int)<=(cp:Int):=aA;have Nj:f<=cp:=aA;have n0:=Bn.o.ne 0 p0 _ rfl Fs;have n1:=Bn.o.ne 1 p1 _ rfl Fs;have n2:=Bn.o.ne 2 p2 _ rfl Fs;have nb:b≠eb:=fun e=>Dg e.symm;clear c0 c1 c2 c4 f4 Ad ho Hb Jx Ni Ct Ae;generalize No:(if cp=f then A3 else Option.map (fun x=>x.add (f*6)) A3)=AA at *;rw[Hv]at k5;go_upto_region 3 with(fail);have Ig:=Hd HO.o;have Ht:=Hd (Bs.o.mono (S1:=[b,eb]) (fun k hk=>by rw[Yp.1 hk];exact Zc));have Dz:=Hd Bn.o;have Ea:=Hd Bc.o;have Ff:=Hd Bi.o;have Lw:=Hd (show aM (fR L w1) x Aa none by rw[aAi,Hv];exact⟨Ng.o,gK.nil_ _⟩);have Mg:=Hd Ha.o;have Jp:=Hd (show qR x f ps sz=ps.take f++[x]by unfold qR;rw[if_neg Cz]);obtain⟨v0,v1,v2,v3,v4,v5⟩:=Bi.o.cells;clear No d0 d1 d2 d3 d4 k0 k1 k2 k3 k4 k5 Hv Bc Bs Bn Bi Ng Ha HO;generalize w1=w5 at *;generalize x=y at *;obtain⟨B5,Jv⟩:∃B5:Option Addr,B5=none:=⟨_,rfl⟩;obtain⟨Iu,Hc⟩:∃Iu:Nat,Iu=0:=⟨_,rfl⟩;rw[<-Jv,<-Hc]at Ff v5;rw[<-Jv]at Lw;clear Jv Hc;exact fK0
end
end
section
open Go.RowKit Go.Sort
section
variable {w w1 w2 w':World}{b:Nat}{A:OA}{n c:Nat}{all r r' r2:List Tk}{va va1 vp:Value}{st:LV}{ps:List Ex}{sz:Nat}{L L1 L2 S ft:LN}
theorem aP.other(h:aP w b A n c all r va st vp ps sz L){g:Nat}(hg:g∈L)(h1:g≠b)(h2:va.ownBlock≠some g)(h3:vp.ownBlock≠some g)(j:Nat)(v:Value):
 aP (w.setCell ⟨g,j,none⟩ v) b A n c all r va st vp ps sz L/\Tn [g] L L w (w.setCell ⟨g,j,none⟩ v):=by
 have Dd:∀k,k≠g->(w.setCell ⟨g,j,none⟩ v).heap[k]?=w.heap[k]?:=fun k hk=>Xb _ _ _ _ hk;have ht:Tn [g] L L w (w.setCell ⟨g,j,none⟩ v):=⟨rfl,rfl,rfl,by simp,fun k _ hn=>Dd k (fun e=>hn yW),fun k hk=>.inl hk,fun k hk _=>hk⟩;have hS:∀k∈[g],k∈L:=fun k hk=>by rw[Yp.1 hk];exact hg
 obtain⟨cs,h4,h5⟩:=h.op;exact⟨⟨(Dd b (Ne.symm h1)).trans h.row,h.rd.up ht.ups (ht.up hS),h.len,h.pre,h.fin,h.tks,jM h.oa fun k hk=>Dd k fun e=>h2 (e ▸ hk),⟨cs,jM h4 fun k hk=>Dd k fun e=>h3 (e ▸ hk),sB ht.ups (ht.up hS) h5⟩,h.lb,h.la,h.lp,fun k hk=>by simpa using h.lv k hk⟩,ht⟩
theorem bPa{new:List Fr}{vt v0:LV}{fts:LN}(h:aP w b A n c all r va st vp ps sz L)(hT:Tn (cU b va vp ft) L L1 w w1)(h1:aP w1 b A n c all r2 va1 (v0++st) vp ps sz L1)(hg:dQ w va va1)
 (hF:kC L1 w1 b new (vt++v0) fts)(hn:fts.Nodup)(hf:∀k∈fts,k∈ft\/w.heap.size<=k)(Gw:∀k∈fts,k≠b/\va1.ownBlock≠some k/\vp.ownBlock≠some k/\k<w1.heap.size)
 {e:Ending}(hx:e=.returned (.tuple #[])/\∃Aa L',aP w' b A n c all r2 Aa (vt++(v0++st)) vp ps sz L'/\Tn (dZ b va1) L1 L' w1 w'/\dQ w1 va1 Aa):bF w b A n c all va st vp L ft (.ok (new,ps,sz) r2) e w':=by
 obtain⟨e1,Aa,L',hM,Ae,hg2⟩:=hx;refine⟨e1,Aa,vp,L',vt++v0,fts,by rw[Yy];exact hM,hF.up Ae (mJ h1) fun k hk hs=>?_,hT.trans Ae h.lv fun k hk=>?_,hn,hf,fun k hk=>⟨(Gw k hk).1,fun e=>?_,(Gw k hk).2.2.1⟩,hg.trans hg2 hT.size,dQ.refl _ _⟩;· exact bCm
 . exact bDs
 . exact bC5
theorem aJb:fQ [44]:=.inr aF
theorem aVv:fQ qL:=.inl aF
theorem aCc{b:Nat}{va vp:Value}{ft:LN}:∀k∈ft,k∈cU b va vp ft:=by
 intro k hk;simp[cU,hk]
theorem bPb(x:Ex)(Aa:OA)(ca:Nat)(B:OA)(cb:Nat):(aJ x Aa ca B cb).setIfInBounds 1 (.int .i64 1)=aJ (aDd x) Aa ca B cb:=by
 cases x;rfl
theorem aT2(x:Ex):(aDd x).arms=x.arms/\(aDd x).subs=x.subs:=by
 cases x;exact⟨rfl,rfl⟩
theorem jL.set1{eb:Nat}{x:Ex}(h:aP w b A n c all r va st vp ps sz L)(k:jL L w eb x)(hv:vp.ownBlock≠some eb):
 jL L (w.setCell ⟨eb,1,none⟩ (.int .i64 1)) eb (aDd x)/\aP (w.setCell ⟨eb,1,none⟩ (.int .i64 1)) b A n c all r va st vp ps sz L/\Tn [eb] L L w (w.setCell ⟨eb,1,none⟩ (.int .i64 1)):=by
 obtain⟨s1,s2,s3⟩:=oO h k;obtain⟨hM,hT⟩:=h.other k.1 s1 s2 hv 1 (.int .i64 1);obtain⟨h0,hx,Aa,ca,h1,h2⟩:=k;refine⟨⟨h0,(aT2 x).2.trans hx,Aa,ca,?_,?_⟩,hM,hT⟩
 . unfold aX;rw[Xi _ _ _ _ _ _ _ h1,Xh _ _ _ _ _ _ h1,bPb]
 . rw[(aT2 x).1];exact h2.up hT.ups (hT.up fun k hk=>by rw[Yp.1 hk];exact h0)
theorem aVw(x:Ex)(f eb p0 p1 p2 q0 q1 q2:Nat)(h:aP w b A n c all r va st vp ps sz L)(Av:st.length<=900000)(he:jL L w eb x)(hv:vp.ownBlock≠some eb)(h0:Fz L w p0 (rp b))(h1:Fz L w p1 (aN 273 #[rp q0,rp q1,rp q2]))(hm:oR L w b eb f (aN 273 #[rp q0,rp q1,rp q2]))(h2:Fz L w p2 (rp eb)):
 Calls Tryz.prog 321 #[rp p0,rp p1,rp p2] w (bF w b A n c all va st vp L [eb] (lB x f ps sz r)):=by
 have No:=eX;have HM:=Hd h;have HE:=Hd he;have HV:=Hd hv;have Nl:=Hd hm;have HZ:=Hd (bH h0 (bH h1 (bH h2 (jA L w))));have c0:=h0.get;have c1:=h1.get;clear h he hv hm h0 h1 h2;show Calls _ _ _ _ (bF w b A n c all va st vp L [eb] (if aG qL r=true then .ok ([.m .post,.made (aDd x) f],ps,sz) r.tail else .ok ([.made x f],ps,sz) r));cases hi:aG qL r with
 |false=>
  rw[if_neg aC];go_in
  go_wp2_with fail;refine(kQ [aN 273 #[rp q0,rp q1,rp q2]] 1 aC HM.o aA (cJ iB)).mono ?_;rintro e w1 ⟨rfl,va1,L1,Bt,Bf,Aq⟩;have Aa:=((gI (L:=L) (w:=w) (.cells #[aN 273 #[rp q0,rp q1,rp q2]] 1)).mono (S1:=dZ b va) (fun k hk=>absurd hk Yl)).trans Bf HM.o.lv (fun k hk=>.inl hk);obtain⟨s1,s2,s3⟩:=oO HM.o HE.o
  have Bv:eb∉dZ b va:=fun hk=>by
   exact bD4
  have Fs:=Hd (HE.o.up Aa (mJ HM.o) Bv);have Bs:=Hd (Nl.o.up Aa (mJ HM.o));have Bn:=Hd (HZ.o.up Aa (mJ HM.o));have Bc:=Hd Bt;have Hc:=Hd Aa;have Ni:=Hd (show dQ w va va1 by
   rcases Aq with Aq|Aq;· exact .inl Aq
   . exact .inr fun k hk=>by have:=Aq k hk;simp at this;omega)
  have d0:=Bn.o.at_ 0 p0 _ rfl;clear Bt Bf Aa Aq c0 c1 s1 s2 s3 Bv HZ;go_wp2_with fail;refine(gO ⟨#[101,118,101,114,121]⟩ aVv Bc.o.q hi).mono ?_;rintro e w2 ⟨rfl,Ci,Ag⟩;obtain⟨Hb,Ct⟩:=Bc.o.move Ci Ag;have Cf:=Hd Hb;have De:=Hd Ct;clear Ci Ag Hb Ct;go_wp2_with fail;go_end0
  obtain⟨s1,s2,s3⟩:=oO Bc.o Fs.o;have Ha:=Fs.o.up De.o (cV Bc.o) aJg;refine⟨rfl,va1,vp,L1,[aN 273 #[rp q0,rp q1,rp q2]],[eb],Cf.o,⟨[eb],[],rfl,⟨eb,rfl,Ha,Bs.o.up De.o (cV Bc.o)⟩,rfl⟩,(Hc.o.mono aBn).trans De.o HM.o.lv (fun k hk=>.inl (eZ k hk)),aBv _,fun k hk=>.inl hk,fun k hk=>?_,Ni.o,dQ.refl _ _⟩;rw[Yp.1 hk];exact⟨s1,s2,HV.o⟩
 |true=>
  rw[if_pos rfl];go_in
  go_wp2_with fail;refine(kQ [aN 273 #[rp q0,rp q1,rp q2]] 1 aC HM.o aA (cJ iB)).mono ?_;rintro e w1 ⟨rfl,va1,L1,Bt,Bf,Aq⟩;have Aa:=((gI (L:=L) (w:=w) (.cells #[aN 273 #[rp q0,rp q1,rp q2]] 1)).mono (S1:=dZ b va) (fun k hk=>absurd hk Yl)).trans Bf HM.o.lv (fun k hk=>.inl hk);obtain⟨s1,s2,s3⟩:=oO HM.o HE.o
  have Bv:eb∉dZ b va:=fun hk=>by
   exact bD4
  have Fs:=Hd (HE.o.up Aa (mJ HM.o) Bv);have Bs:=Hd (Nl.o.up Aa (mJ HM.o));have Bn:=Hd (HZ.o.up Aa (mJ HM.o));have Bc:=Hd Bt;have Hc:=Hd Aa;have Ni:=Hd (show dQ w va va1 by
   rcases Aq with Aq|Aq;· exact .inl Aq
   . exact .inr fun k hk=>by have:=Aq k hk;simp at this;omega)
  have d0:=Bn.o.at_ 0 p0 _ rfl;clear Bt Bf Aa Aq c0 c1 s1 s2 s3 Bv HZ;go_wp2_with fail;refine(mG ⟨#[101,118,101,114,121]⟩ aVv Bc.o.q hi).mono ?_;rintro e w2 ⟨rfl,Ci,Ag⟩;obtain⟨Hb,Ct⟩:=Bc.o.move Ci Ag;obtain⟨s1,s2,s3⟩:=oO Bc.o Fs.o;have Ha:=Fs.o.up Ct (cV Bc.o) aJg;obtain⟨Nj,Er,Ec⟩:=Ha.set1 Hb HV.o;have Jx:∀k∈[eb],k∈L1:=fun k hk=>by rw[Yp.1 hk];exact Ha.1
  have Da:=Hd (Bn.o.up Ct (cV Bc.o));have Nm:=Hd (Da.o.up Ec Jx);have Nh:=Hd ((Bs.o.up Ct (cV Bc.o)).up Ec Jx);have Nk:=Hd Nj;have Ng:=Hd Er;have Nn:=Hd (((Hc.o.mono aBn).trans Ct HM.o.lv (fun k hk=>.inl (eZ (ft:=[eb]) (vp:=vp) k hk))).trans Ec HM.o.lv (fun k hk=>.inl (aCc k hk)));have d2:=Da.o.at_ 2 p2 _ rfl;have e0:=Nm.o.at_ 0 p0 _ rfl;obtain⟨_,_,Ae,ce,Cu,_⟩:=Ha;have k1:=Cu.cells.2.1;have f1:=Cu.fz 1;clear Ci Ag Hb Ct Nj Er Ec Jx Bs Fs Bc Cu d0;go_upto_region 3 with(fail);generalize w2.setCell _ _=w3 at *;go_wp2_with fail;refine(kQ [bA b .post] 1 aC Ng.o cP (cJ iB)).mono ?_;rintro e w4 ⟨rfl,hx⟩;have HX:=Hd hx;clear hx;go_wp2_with fail;go_end0
  obtain⟨t1,t2,t3⟩:=oO Ng.o Nk.o;have Cc:=(gI (L:=L1) (w:=w3) (.cells #[bA b .post] 1));refine bPa (v0:=[aN 273 #[rp q0,rp q1,rp q2]]) (fts:=[eb]) HM.o (Nn.o.trans Cc HM.o.lv (fun k hk=>absurd hk Yl)) (Ng.o.alloc _) Ni.o ?_ (aBv _) (fun k hk=>.inl hk) (fun k hk=>?_) ⟨rfl,HX.o⟩;· exact⟨[],[eb],rfl,⟨rfl,rfl⟩,[eb],[],rfl,⟨eb,rfl,Nk.o.up Cc bS Yl,Nh.o.up Cc bS⟩,rfl⟩
  . rw[Yp.1 hk];exact⟨t1,t2,HV.o,by simp;omega⟩
end
end
section
open Go.RowKit Go.Sort
section
variable {w w1 w2 w':World}{b:Nat}{A:OA}{n c:Nat}{all r r' r2:List Tk}{va va1 vp:Value}{st:LV}{ps:List Ex}{sz:Nat}{L L1 L2 S ft:LN}
theorem xG{x:Ex}{f:Nat}{e:Ending}(h:bF w b A n c all va st vp L ft (jR x f ps sz r) e w'):e=.returned (.tuple #[]):=h.1
theorem aSb{x:Ex}{f:Nat}{e:Ending}(h:bF w b A n c all va st vp L ft (lB x f ps sz r) e w'):e=.returned (.tuple #[]):=by
 unfold lB at h;split at h;· exact h.1
 . exact h.1
theorem bJl(Aa:LU)(x:Ex)(f eb p0 p1 p2 p3 q0 q1 q2:Nat)(hs:fQ Aa)(h:aP w b A n c all r va st vp ps sz L)(Av:st.length<=900000)(hf:f<=ps.length)(Be:ps.length<=1000000)(Au:sz<=1000000)(he:jL L w eb x)(hv:vp.ownBlock≠some eb)(h0:Fz L w p0 (rp b))(h1:Fz L w p1 (aN 316 #[rp p0,rp p1,rp p2,rp p3]))(h2:Fz L w p2 (.string (aZ Aa)))(h3:Fz L w p3 (aN 273 #[rp q0,rp q1,rp q2]))(k0:Fz L w q0 (rp b))(k1:Fz L w q1 (rp eb))(k2:Fz L w q2 (.int .i64 (f:Int))):
 Calls Tryz.prog 316 #[rp p0,rp p1,rp p2,rp p3] w (bF w b A n c all va st vp L [eb] (dG (.list Aa false x f) ps sz r)):=by
 have Fs:=eX;have HM:=Hd h;have HE:=Hd he;have HV:=Hd hv;have HF:=Hd (show sS L w b (.list Aa false x f) (aN 316 #[rp p0,rp p1,rp p2,rp p3]) [eb]from⟨eb,rfl,he,hs,p0,p1,p2,p3,_,rfl,h0,h1,h2,h3,(show xZ L w false b eb f (aN 273 #[rp q0,rp q1,rp q2])from⟨q0,q1,q2,rfl,k0,k1,k2⟩)⟩);have HK:=Hd (bH k0 (bH k1 (bH k2 (jA L w))));have HZ:=Hd (bH h0 (bH h1 (bH h2 (bH h3 (jA L w)))));have c0:=h0.get;have Cg:=Hd fun w1 (hq:bM w1 b A n c all r va vp sz)=>(show Calls Tryz.prog 261 #[rp b,.string (aZ Aa)] w1 (cW w1 b A n c all va vp sz (aR Aa r) fun _ e=>e=.returned (.tuple #[]))from pJ (aZ Aa) hs hq);clear h he hv h0 h1 h2 h3 hs k0 k1 k2;show Calls _ _ _ _ (bF w b A n c all va st vp L [eb] (if aG [44] r=true then .ok ([.m .arrow,.list Aa false x f],ps,sz) r.tail else(aR Aa r).bind fun _ r=>yM false x f ps sz r));generalize aZ Aa=ss at *;cases hi:aG [44] r with
 |true=>
  rw[if_pos rfl];have HT:=Hd (mG ⟨#[44]⟩ aJb HM.o.q hi);clear Cg hi;go_in
  go_wp2_with fail;refine HT.o.mono ?_;rintro e w2 ⟨rfl,Ci,Ag⟩;obtain⟨Aq,Ae⟩:=HM.o.move Ci Ag;have Cf:=Hd Aq;have De:=Hd Ae;have Da:=Hd (HZ.o.up Ae (cV HM.o));have d0:=Da.o.at_ 0 p0 _ rfl;have d1:=Da.o.at_ 1 p1 _ rfl;clear Ci Ag Aq Ae c0 HZ;go_wp2_with fail;refine(kQ [bA b .arrow,aN 316 #[rp p0,rp p1,rp p2,rp p3]] 1 aC Cf.o aA (cJ (cJ iB))).mono ?_;rintro e w4 ⟨rfl,hx⟩;have HX:=Hd hx;clear hx;go_wp2_with fail;go_end0
  obtain⟨s1,s2,s3⟩:=oO HM.o HE.o;have Cc:=(gI (L:=L) (w:=w2) (.cells #[bA b .arrow,aN 316 #[rp p0,rp p1,rp p2,rp p3]] 1));have Ct:=(HF.o.up De.o (cV HM.o) (fun k hk=>by rw[Yp.1 hk];simpa using s1)).up Cc bS (fun k hk=>Yl);refine zQ (new:=[.m .arrow,.list Aa false x f]) (vt:=[bA b .arrow,aN 316 #[rp p0,rp p1,rp p2,rp p3]]) (fts:=[eb]) HM.o ((De.o.mono eZ).trans Cc HM.o.lv (fun k hk=>absurd hk Yl)) (Cf.o.alloc _) (dQ.refl _ _) ⟨[],[eb],rfl,⟨rfl,rfl⟩,[eb],[],rfl,Ct,rfl⟩ (aBv _) (fun k hk=>.inl hk) (fun k hk=>?_) ⟨rfl,HX.o⟩;exact bDy
 |false=>
  rw[if_neg aC];have HT:=Hd (gO ⟨#[44]⟩ aJb HM.o.q hi);clear hi;cases hn:aR Aa r with
  |bad q=>
   exact bGm
  |ok u q=>
   have HN:=Hd fun w1 hq=>cW.ok_ (Cg.o w1 hq) hn;clear Cg hn;go_in
   go_wp2_with fail;refine HT.o.mono ?_;rintro e w1 ⟨rfl,Bz,Ab⟩;have Gz:=Hd (HN.o w1 Bz);have Ac:=Hd Ab;obtain⟨Bt,Bf⟩:=HM.o.move Bz Ab;have Bn:=Hd (HZ.o.up Bf (cV HM.o));have d0:=Bn.o.at_ 0 p0 _ rfl;have d2:=Bn.o.at_ 2 p2 _ rfl;clear Bz Ab Bt Bf c0 HN Bn;go_wp2_with fail;refine Gz.o.mono ?_;rintro e w2 ⟨rfl,Ci,Ag⟩;obtain⟨Aq,Ae⟩:=HM.o.move Ci (eD Ac.o Ag);obtain⟨s1,s2,s3⟩:=oO HM.o HE.o;have Cf:=Hd Aq;have De:=Hd Ae;have Fm:=Hd (HE.o.up Ae (cV HM.o) aJg);have Bs:=Hd (HK.o.up Ae (cV HM.o));have Da:=Hd (HZ.o.up Ae (cV HM.o));have e3:=Da.o.at_ 3 p3 _ rfl;clear Ci Ag Aq Ae HZ Ac d0 d2;go_wp2_with fail;refine(vX x f eb q0 q1 q2 Cf.o hf Be Au Fm.o HV.o (Bs.o (q0,rp b) aC) (Bs.o (q1,rp eb) aC) (Bs.o (q2,.int .i64 (f:Int)) aC)).mono ?_;intro e w3 hx;obtain rfl:=xG hx;have HX:=Hd hx;clear hx;go_wp2_with fail;go_end0
   exact kJ (o:=jR x f ps sz q) HM.o (De.o.mono eZ) (fun k hk=>.inl hk) HX.o
theorem bJd(Aa:LU)(x:Ex)(f eb p0 p1 p2 p3 q0 q1 q2 a0 a1 a2:Nat)(hs:fQ Aa)(h:aP w b A n c all r va st vp ps sz L)(Av:st.length<=900000)(hf:f<=ps.length)(Be:ps.length<=1000000)(Au:sz<=1000000)(he:jL L w eb x)(hv:vp.ownBlock≠some eb)(h0:Fz L w p0 (rp b))(h1:Fz L w p1 (aN 316 #[rp p0,rp p1,rp p2,rp p3]))(h2:Fz L w p2 (.string (aZ Aa)))(h3:Fz L w p3 (aN 321 #[rp a0,rp a1,rp a2]))(k0:Fz L w a0 (rp b))(k1:Fz L w a1 (aN 273 #[rp q0,rp q1,rp q2]))(k2:Fz L w a2 (rp eb))(hm:oR L w b eb f (aN 273 #[rp q0,rp q1,rp q2])):
 Calls Tryz.prog 316 #[rp p0,rp p1,rp p2,rp p3] w (bF w b A n c all va st vp L [eb] (dG (.list Aa true x f) ps sz r)):=by
 have Fs:=eX;have HM:=Hd h;have HE:=Hd he;have HV:=Hd hv;have HF:=Hd (show sS L w b (.list Aa true x f) (aN 316 #[rp p0,rp p1,rp p2,rp p3]) [eb]from⟨eb,rfl,he,hs,p0,p1,p2,p3,_,rfl,h0,h1,h2,h3,(show xZ L w true b eb f (aN 321 #[rp a0,rp a1,rp a2])from⟨a0,a1,a2,_,rfl,k0,k1,hm,k2⟩)⟩);have HK:=Hd (show pY L w [(a0,rp b),(a1,aN 273 #[rp q0,rp q1,rp q2]),(a2,rp eb)]/\oR L w b eb f (aN 273 #[rp q0,rp q1,rp q2])from⟨bH k0 (bH k1 (bH k2 (jA L w))),hm⟩);have HZ:=Hd (bH h0 (bH h1 (bH h2 (bH h3 (jA L w)))));have c0:=h0.get;have Cg:=Hd fun w1 (hq:bM w1 b A n c all r va vp sz)=>(show Calls Tryz.prog 261 #[rp b,.string (aZ Aa)] w1 (cW w1 b A n c all va vp sz (aR Aa r) fun _ e=>e=.returned (.tuple #[]))from pJ (aZ Aa) hs hq);clear h he hv h0 h1 h2 h3 hs k0 k1 k2 hm;show Calls _ _ _ _ (bF w b A n c all va st vp L [eb] (if aG [44] r=true then .ok ([.m .arrow,.list Aa true x f],ps,sz) r.tail else(aR Aa r).bind fun _ r=>yM true x f ps sz r));generalize aZ Aa=ss at *;cases hi:aG [44] r with
 |true=>
  rw[if_pos rfl];have HT:=Hd (mG ⟨#[44]⟩ aJb HM.o.q hi);clear Cg hi;go_in
  go_wp2_with fail;refine HT.o.mono ?_;rintro e w2 ⟨rfl,Ci,Ag⟩;obtain⟨Aq,Ae⟩:=HM.o.move Ci Ag;have Cf:=Hd Aq;have De:=Hd Ae;have Da:=Hd (HZ.o.up Ae (cV HM.o));have d0:=Da.o.at_ 0 p0 _ rfl;have d1:=Da.o.at_ 1 p1 _ rfl;clear Ci Ag Aq Ae c0 HZ;go_wp2_with fail;refine(kQ [bA b .arrow,aN 316 #[rp p0,rp p1,rp p2,rp p3]] 1 aC Cf.o aA (cJ (cJ iB))).mono ?_;rintro e w4 ⟨rfl,hx⟩;have HX:=Hd hx;clear hx;go_wp2_with fail;go_end0
  obtain⟨s1,s2,s3⟩:=oO HM.o HE.o;have Cc:=(gI (L:=L) (w:=w2) (.cells #[bA b .arrow,aN 316 #[rp p0,rp p1,rp p2,rp p3]] 1));have Ct:=(HF.o.up De.o (cV HM.o) (fun k hk=>by rw[Yp.1 hk];simpa using s1)).up Cc bS (fun k hk=>Yl);refine zQ (new:=[.m .arrow,.list Aa true x f]) (vt:=[bA b .arrow,aN 316 #[rp p0,rp p1,rp p2,rp p3]]) (fts:=[eb]) HM.o ((De.o.mono eZ).trans Cc HM.o.lv (fun k hk=>absurd hk Yl)) (Cf.o.alloc _) (dQ.refl _ _) ⟨[],[eb],rfl,⟨rfl,rfl⟩,[eb],[],rfl,Ct,rfl⟩ (aBv _) (fun k hk=>.inl hk) (fun k hk=>?_) ⟨rfl,HX.o⟩;exact bDy
 |false=>
  rw[if_neg aC];have HT:=Hd (gO ⟨#[44]⟩ aJb HM.o.q hi);clear hi;cases hn:aR Aa r with
  |bad q=>
   exact bGm
  |ok u q=>
   have HN:=Hd fun w1 hq=>cW.ok_ (Cg.o w1 hq) hn;clear Cg hn;go_in
   go_wp2_with fail;refine HT.o.mono ?_;rintro e w1 ⟨rfl,Bz,Ab⟩;have Gz:=Hd (HN.o w1 Bz);have Ac:=Hd Ab;obtain⟨Bt,Bf⟩:=HM.o.move Bz Ab;have Bn:=Hd (HZ.o.up Bf (cV HM.o));have d0:=Bn.o.at_ 0 p0 _ rfl;have d2:=Bn.o.at_ 2 p2 _ rfl;clear Bz Ab Bt Bf c0 HN Bn;go_wp2_with fail;refine Gz.o.mono ?_;rintro e w2 ⟨rfl,Ci,Ag⟩;obtain⟨Aq,Ae⟩:=HM.o.move Ci (eD Ac.o Ag);obtain⟨s1,s2,s3⟩:=oO HM.o HE.o;have Cf:=Hd Aq;have De:=Hd Ae;have Fm:=Hd (HE.o.up Ae (cV HM.o) aJg);have Bs:=Hd (show pY L w2 [(a0,rp b),(a1,aN 273 #[rp q0,rp q1,rp q2]),(a2,rp eb)]/\oR L w2 b eb f (aN 273 #[rp q0,rp q1,rp q2])from⟨HK.o.1.up Ae (cV HM.o),HK.o.2.up Ae (cV HM.o)⟩);have Da:=Hd (HZ.o.up Ae (cV HM.o));have e3:=Da.o.at_ 3 p3 _ rfl;clear Ci Ag Aq Ae HZ Ac d0 d2;go_wp2_with fail;refine(aVw x f eb a0 a1 a2 q0 q1 q2 Cf.o aA Fm.o HV.o (Bs.o.1 (a0,rp b) aC) (Bs.o.1 (a1,aN 273 #[rp q0,rp q1,rp q2]) aC) Bs.o.2 (Bs.o.1 (a2,rp eb) aC)).mono ?_;intro e w3 hx;obtain rfl:=aSb hx;have HX:=Hd hx;clear hx;go_wp2_with fail;go_end0
   exact kJ (o:=lB x f ps sz q) HM.o (De.o.mono eZ) (fun k hk=>.inl hk) HX.o
end
end
end Go.Proofs.YtagkcjpoipcpkaaGreatDoor
