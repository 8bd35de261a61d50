/- A part of the proof. Conditions: each theorem's own. -/
import Derived.Test.YtkbpdoomhfkngaaGreatC11
import Derived.Test.YtkbpdoomhfkngaaGreatC14
namespace Go.Proofs.YtkbpdoomhfkngaaGreat
set_option linter.unusedVariables false
set_option linter.unusedSimpArgs false
set_option maxRecDepth 100000
set_option maxHeartbeats 40000000
section
open Go.RowKit Go.Sort
theorem mH{n:Nd}(h:kB n):n.all.length<=1000/\qK n/\∀j,j<n.eqs.length->bD (n.eqs[j]?.getD default).x<=1000000:=by
 have h1:=(nM h.1).2;have h2:=(nM h.2.1).2;have h3:=(nM h.2.2.1).2;have h4:=h.2.2.2.1;refine⟨by rw[pZ];omega,⟨by omega,fun q hq=>?_⟩,fun j hj=>uM (h.2.2.2.2.2 j hj).2.1⟩;obtain⟨j,hj,rfl⟩:=Zj hq
 have:=(h.2.2.2.2.2 j hj).1
 rw[Yk hj,Yt]at this;omega
theorem aHi{p:Pg}{k:Nat}(h0:eJ p=0)(hk:k<p.ns.length)(hn:∀a,a<k->eN p a=(0,0,0))(h:eN p k≠(0,0,0)):dR p=eN p k:=by
 unfold dR;rw[if_pos h0];exact lN hk hn h
theorem aIm{p:Pg}(h0:eJ p=0)(hn:∀a,a<p.ns.length->eN p a=(0,0,0)):dR p=(0,0,0):=by
 unfold dR;rw[if_pos h0];exact kH hn
theorem aO7{a b c:Int}(h:¬((a,b,c):Fl)=(0,0,0)):(a !=0)=true\/(a=0/\(b !=0)=true)\/(a=0/\b=0/\(c !=0)=true):=by
 by_cases ha:a=0
 . by_cases hb:b=0
   . by_cases hc:c=0
     . subst ha hb hc;exact absurd rfl h
     . exact .inr (.inr ⟨ha,hb,bne_iff_ne.2 hc⟩)
   . exact .inr (.inl ⟨ha,bne_iff_ne.2 hb⟩)
 . exact .inl (bne_iff_ne.2 ha)
theorem aUx(p:Pg)(E:Option Addr)(ec:Nat)(N:Option Addr)(nc:Nat)(w:World)(h:cJ w p E N)(ht:gU p):
 Calls Tryz.prog 33 #[.agg (aK p E ec N nc)] w fun e w'=>e=.returned (jS (dR p))/\Below w.heap.size w w':=by
 have HF:=Hd fun w1 hw=>kW w p E ec N nc w1 hw h;have Fr:=Hd fun w1 (a:Below w.heap.size w w1)=>aZi p E ec N nc w1 (h.below a) ht;have Bx:=Hd fun i (hi:i<p.ns.length) w1 (a:Below w.heap.size w w1)=>aW5 p E ec N nc i w1 (h.below a) hi (mH (ht.2.2 i hi)).1 (mH (ht.2.2 i hi)).2.1 (mH (ht.2.2 i hi)).2.2;have Hc:=Hd yE;have Cs:=Hd fun k h0 hk hn h=>aHi (p:=p) (k:=k) h0 hk hn h;have Cj:=Hd fun h0 hn=>aIm (p:=p) h0 hn;have Gr:=Hd fun(h0:¬eJ p=0)=>(show dR p=(0,-1,eJ p)by unfold dR;rw[if_neg h0]);have Ob:=aI.max h.2;clear h ht;generalize dR p=Bu at *;generalize eJ p=ck at *;unfold aK at HF Fr Bx⊢;unfold jS at Bx;generalize eN p=nS at *;generalize Oc:p.ns.length=pn at *;go_in
 go_upto_region 1 with(fail);generalize Ag:w.alloc _=w1;obtain⟨Aa,Nz,Av,Aq⟩:=HF.o w1 Ag;generalize Br:w1.alloc _=w2;obtain⟨Ad,Nt,hg2⟩:=lV Br;simp only[Nz]at Nt;have Ce:=Hd Nt;have Aj:=Hd (Aa.tr Ad);have Bp:=Hd fun W (b:Below w2.heap.size w2 W) j=>Aq W (Ad.tr b) j;have y0:=Bp.o w2 (Yg _ _) 0;have y1:=Bp.o w2 (Yg _ _) 1;simp only[Ya,Yb,Yc]at y0 y1;have Ny:=Hd (Fr.o w2 Aj.o);clear Ag Br Aq Aa Ad Av HF hg2 Nt;go_wp2_with fail;refine Ny.o.mono ?_;rintro e w3 ⟨rfl,Ak⟩;have Ax:=Hd (Aj.o.tr Ak);have Nx:=Hd (Ce.o.below Ak);have Gj:=Hd fun W (b:Below w3.heap.size w3 W) j=>Bp.o W (Ak.tr b) j;clear Ak y0 y1 Bp Ny Ce;by_cases h0:ck=0
 . have Oa:(ck !=0)=false:=by rw[h0];rfl
   go_wp2_with fail;go_loopw [4] (fun c wr=>∃k:Nat,k<=pn/\c=.int .i64 k/\(∀a,a<k->nS a=(0,0,0))/\Below w3.heap.size w3 wr) (fun c _=>pn-(intOf c).toNat)
   case atStart=>exact⟨0,Yq _,rfl,fun a ha=>absurd ha aA,Yg _ _⟩
   case round=>
    obtain⟨k,hk,rfl,Bc,Ay⟩:=hrel;have Cg:=Hd Bc;have Cm:=Hd Ay;have Fb:=Hd (Ax.o.tr Ay);have Db:=Hd (Nx.o.below Ay);have y0:=Gj.o wr Ay 0;have y1:=Gj.o wr Ay 1;simp only[Ya,Yb,Yc]at y0 y1;clear Bc Ay;by_cases Ah:k<pn
    . have Nw:=Hd (Bx.o k Ah wr Fb.o);have Cf:=Hd fun hz=>dC (P:=fun a=>nS a=(0,0,0)) Cg.o hz;have HH:=Hd (Cs.o k h0 Ah Cg.o);generalize nS k=f at *;obtain⟨fa,fb,fc⟩:=f;go_wp2_with fail;refine Nw.o.mono ?_;rintro e w7 ⟨rfl,Dw⟩;have Fg:=Hd (Fb.o.tr Dw);have Jx:=Hd (Cm.o.tr Dw);have Ik:=Hd (Db.o.below Dw);clear Dw y0 y1 Nw;simp only[aF];go_upto_region 8 with(fail);generalize Jy:w7.alloc _=w8;have Hn:Below w7.heap.size w7 w8:=aE5;have Nv:F3 30 w8 w7.heap.size fa fb fc:=aE6;obtain⟨z0,z1,z2,-,-,-⟩:=Sx Nv.cell;simp only[aF,List.getElem?_toArray,Yz,Zb]at z0 z1 z2;have Jq:=Hd (Fg.o.tr Hn);have Nu:=Hd (Jx.o.tr Hn);have Je:=Hd (Ik.o.below Hn);clear Jy Hn Nv;by_cases hz:((fa,fb,fc):Fl)=(0,0,0)
      . have Dg:=Hd (Cf.o hz);injection hz with ha Iv;injection Iv with hb hc;subst ha hb hc;go_wp2_with fail;go_roundw;case rel=>exact⟨k+1,by omega,by go_num,Dg.o,Nu.o⟩
        case measure=>simp[intOf];omega
      . have HR:=Hd (show Bu=(fa,fb,fc)from HH.o hz);rcases aO7 hz with ha|⟨ha,hb⟩|⟨ha,hb,hc⟩
        . have Ns:(fa==0)=false:=by rw[bne_iff_ne]at ha;exact Xb.2 ha
          clear hz;go_wp2_with (refine Zv rfl _ _ _ rfl (w.heap.size+1) _ rfl rfl _ _ Je.o eT rfl fI ?_);exact Zu (fC (p:=2) rfl _ _ (w.heap.size+1) fa fb fc rfl (Je.o.set _ _ _)) rfl ⟨by rw[HR.o];rfl,Xc Jq.o (Nat.le_succ _) _⟩
        . have Ad:(fb==0)=false:=by rw[bne_iff_ne]at hb;exact Xb.2 hb
          subst ha;clear hz;go_wp2_with (refine Zv rfl _ _ _ rfl (w.heap.size+1) _ rfl rfl _ _ Je.o eT rfl fI ?_);exact Zu (fC (p:=2) rfl _ _ (w.heap.size+1) 0 fb fc rfl (Je.o.set _ _ _)) rfl ⟨by rw[HR.o];rfl,Xc Jq.o (Nat.le_succ _) _⟩
        . have Gb:(fc==0)=false:=by rw[bne_iff_ne]at hc;exact Xb.2 hc
          subst ha hb;clear hz;go_wp2_with (refine Zv rfl _ _ _ rfl (w.heap.size+1) _ rfl rfl _ _ Je.o eT rfl fI ?_);exact Zu (fC (p:=2) rfl _ _ (w.heap.size+1) 0 0 fc rfl (Je.o.set _ _ _)) rfl ⟨by rw[HR.o];rfl,Xc Jq.o (Nat.le_succ _) _⟩
    . have Im:k=pn:=by omega
      subst Im;have HR:=Hd (Cj.o h0 Cg.o);go_wp2_with (refine Zv rfl _ _ _ rfl (w.heap.size+1) _ rfl rfl _ _ Db.o eT rfl fI ?_);exact Zu (fC (p:=2) rfl _ _ (w.heap.size+1) 0 0 0 rfl (Db.o.set _ _ _)) rfl ⟨by rw[HR.o];rfl,Xc Fb.o (Nat.le_succ _) _⟩
 . have Oa:(ck !=0)=true:=by rw[bne_iff_ne];exact h0
   have HR:=Hd (Gr.o h0);go_wp2_with fail;refine(Hc.o 0 (-1) ck w3).mono ?_;rintro e wz ⟨rfl,Ej⟩;have Es:=Hd (Nx.o.below Ej);have Hk:=Hd (Ax.o.tr Ej);clear Ej;go_wp2_with (refine Zv rfl _ _ _ rfl (w.heap.size+1) _ rfl rfl _ _ Es.o eT rfl fI ?_);exact Zu (fC (p:=2) rfl _ _ (w.heap.size+1) 0 (-1) ck rfl (Es.o.set _ _ _)) rfl ⟨by rw[HR.o];rfl,Xc Hk.o (Nat.le_succ _) _⟩
end
theorem aDu{s t:ByteArray}:cI s t=true↔t.data.toList=s.data.toList:=by simp[cI]
theorem aW6{s:ByteArray}{l:List ByteArray}(h:l.any (cI s)=false):lE s l=0:=by
 unfold lE;rw[List.length_eq_zero_iff,List.filter_eq_nil_iff];intro x hx
 have:=List.any_eq_false.1 h x hx
 simpa using this
def rT(vs Aq:List ByteArray)(es:List En)(e:Ex):Bool:=
 if e.k==3 then vs.any (cI e.s)
 else if e.k==11 || e.k==12 then vs.any (cI e.s) && !(e.arms.any fun a=>!dM es a)
 else if e.k==4 then dM es e.s
 else if e.k==13 then Aq.any (cI e.s)
 else !(e.k==17)
def oO(vs ds:List ByteArray)(s:ByteArray):Int:=if vs.any (cI s)=false then 5 else if ds.any (cI s)=true then 6 else 0
def fX(n:Nd)(j:Nat):List ByteArray:=bM n.ins++(n.eqs.take j).flatMap Qn.ns
def nA(vs:List ByteArray)(es:List En)(d:Dc):Bool:=!(d.on.toList==[]) && (!vs.any (cI d.on) || !dM es d.ct)
theorem aDe(n:Nd)(s:ByteArray):gA n s=(bM n.all).any (cI s):=by
 unfold gA aZ bM;rw[List.any_map,Zn,List.find?_isSome,List.any_eq_true];rfl
theorem aW7(n:Nd)(s:ByteArray):mJ n s=(bM n.ins).any (cI s):=by
 unfold mJ bM;rw[List.any_map];rfl
theorem aKw(s:ByteArray)(l:List ByteArray):decide (0<lE s l)=l.any (cI s):=by
 cases h:l.any (cI s)with
 |false=>rw[aW6 h];rfl
 |true=>
  obtain⟨x,hx,hn⟩:=List.any_eq_true.1 h;refine Zy ?_;unfold lE;exact List.length_pos_of_mem (List.mem_filter.2 ⟨hx,hn⟩)
theorem aJp{α:Type}(f:α->Bool):∀(l:List α)(o:Nat),bR f l o=-1\/(o:Int)<=bR f l o
 |[],o=>.inl rfl
 |a::l,o=>by
  rw[bR];cases f a with
  |true=>exact .inr aG
  |false=>
   rcases aJp f l (o+1)with h|h;· exact .inl iI
   . exact .inr (by simp only[Yy,if_false];omega)
theorem aHj{α:Type}(f:α->Bool):∀(l:List α)(i o:Nat),(decide (0<=bR f l o) && decide (bR f l o<((o+i:Nat):Int)))=(l.take i).any f
 |[],i,o=>by simp[bR]
 |a::l,0,o=>by
  rcases aJp f (a::l) o with h|h;· rw[h];simp
  . rw[show decide (bR f (a::l) o<((o+0:Nat):Int))=false from Zz aA];simp
 |a::l,i+1,o=>by
  rw[bR,List.take_succ_cons,List.any_cons];cases h:f a with
  |true=>
   simp only[if_true,Bool.true_or,Ys,decide_eq_true_eq];omega
  |false=>
   simp only[Yy,if_false,Bool.false_or];rw[<-aHj f l i (o+1),show o+1+i=o+(i+1)by omega]
theorem aW8(p:Pg)(i:Nat)(s:ByteArray):(decide (0<=cY p s) && decide (cY p s<(i:Int)))=((p.ns.take i).map Nd.nm).any (cI s):=by
 unfold cY
 have:=aHj (fun n:Nd=>n.nm.data.toList==s.data.toList) p.ns i 0
 rw[Nat.zero_add]at this;rw[this,List.any_map];rfl
theorem aW9{e:Ex}(h:bO e=true)(h1:(e.k==11)=false)(h2:(e.k==12)=false):e.arms=[]:=by
 unfold bO at h;simp only[Ys]at h;have ha:iP e=true:=h.1.1.1.2;unfold iP at ha;simp only[h1,h2,Ys,Yy,if_false]at ha;exact List.length_eq_zero_iff.1 (by simpa using ha.2)
theorem bAi{p:Pg}{i:Nat}{e:Ex}(h:bO e=true):rT (bM (aB p i).all) ((p.ns.take i).map Nd.nm) p.es e=lX p i e:=by
 have hA:=aW9 h;unfold rT lX;rw[<-aDe,aW8];rw[show(!(e.arms.any fun a=>!dM p.es a))=e.arms.all (dM p.es)by rw[<-List.not_all_eq_any_not,Bool.not_not]];by_cases h3:e.k=3
 . rw[hA (by rw[h3];rfl) (by rw[h3];rfl),h3];cases gA (aB p i) e.s<;>rfl
 . by_cases Bx:e.k=11
   . rw[Bx];exact aOq
   . by_cases Fo:e.k=12
     . rw[Fo];exact aOq
     . have b3:(e.k==3)=false:=Xb.2 h3;have Bp:(e.k==11)=false:=Xb.2 Bx;have Aq:(e.k==12)=false:=Xb.2 Fo;rw[hA Bp Aq];simp only[b3,Bp,Aq,Bool.false_or,Bool.false_and,Yy,if_false,List.all_nil,Bool.true_eq_false]
theorem aJq(n:Nd)(j:Nat)(ns:List ByteArray)(k:Nat):kZ n j ns k=oO (bM n.all) (fX n j++ns.take k) (ns[k]?.getD ByteArray.empty):=by
 unfold kZ oO fX fP;rw[aDe,aW7,aKw];generalize ns[k]?.getD ByteArray.empty=s;rw[List.any_append,List.any_append];cases (bM n.all).any (cI s)<;>cases (bM n.ins).any (cI s)<;>cases ((n.eqs.take j).flatMap Qn.ns).any (cI s)<;>cases (ns.take k).any (cI s)<;>rfl
theorem aLy(p:Pg)(n:Nd)(d:Dc):nA (bM n.all) p.es d=!kV p n d:=by
 unfold nA kV;rw[aDe];cases (d.on.toList==[])<;>cases (bM n.all).any (cI d.on)<;>cases dM p.es d.ct<;>rfl
theorem aXa{n:Nd}{j:Nat}(h:j<n.eqs.length):fX n (j+1)=fX n j++(n.eqs[j]?.getD default).ns:=by
 unfold fX;rw[List.take_add_one,Yk h,List.flatMap_append,Yw];simp
theorem aXb(n:Nd):fX n 0=bM n.ins:=by simp[fX]
def lA(p:Pg)(i:Nat)(a e:Int):Prop:=eN p i=if e=0 then((0,0,0):Fl)else((i:Int),a,e)
theorem aXc{p:Pg}{i:Nat}(h:(aB p i).vars.any (nA (bM (aB p i).all) p.es)=true):lA p i (-1) 5:=by
 unfold lA eN;rw[if_pos,if_neg bS];obtain⟨d,hd,ho⟩:=List.any_eq_true.1 h;rw[aLy,Bool.not_eq_true']at ho;rw[List.all_eq_false];exact⟨d,by unfold Nd.all;exact List.mem_append_right _ hd,by rw[ho];decide⟩
theorem aJr{p:Pg}{n:Nd}(hp:jX n=true)(h:n.vars.any (nA (bM n.all) p.es)=false):n.all.all (kV p n)=true:=by
 rw[Zg];intro d hd;unfold Nd.all at hd;rcases Zo.1 hd with hd|hd
 . have:=Zg.1 hp d hd
   unfold eI at this;unfold kV;rw[Zc,this];rfl
 . have:=List.any_eq_false.1 h d hd
   rw[aLy]at this;simpa using this
theorem bAj{p:Pg}{i k:Nat}(hp:jX (aB p i)=true)(h:(aB p i).vars.any (nA (bM (aB p i).all) p.es)=false)(hk:k<(aB p i).eqs.length)(hn:∀j,j<k->eZ p i j=0)(he:eZ p i k≠0):lA p i k (eZ p i k):=by
 unfold lA eN;rw[if_neg (by rw[aJr hp h];decide),if_neg he];have h1:dY ((0,0,0):Fl) (hP p i) (aB p i).eqs.length=hP p i k:=lN hk (fun j hj=>by unfold hP;rw[if_pos (hn j hj)]) (by unfold hP;rw[if_neg he];intro e;injection e with _ e;injection e with _ e;exact he e);have h2:hP p i k=((i:Int),(k:Int),eZ p i k):=by unfold hP;rw[if_neg he]
 rw[h1,h2,if_neg (by intro e;injection e with _ e;injection e with _ e;exact he e)]
theorem aUy{n:Nd}(h:cH (bM n.all)=true){d:Dc}(hd:d∈n.outs++n.vars):(bM n.ins).any (cI d.nm)=false:=by
 unfold cH vW at h;have h:=of_decide_eq_true h;rw[List.any_eq_false];intro s hs hn;have e:n.all=n.ins++(n.outs++n.vars):=by unfold Nd.all;rw[Yw]
 rw[e]at h;unfold bM at h hs;rw[Zq,Zq,List.nodup_append]at h;exact h.2.2 _ (List.mem_map.2 ⟨s,hs,rfl⟩) _ (List.mem_map.2 ⟨d.nm,List.mem_map.2 ⟨d,hd,rfl⟩,rfl⟩) (aDu.1 hn)
theorem bAk{n:Nd}(h:cH (bM n.all)=true):(n.outs.any (fun d=>!(fX n n.eqs.length).any (cI d.nm)) || n.vars.any (fun d=>!(fX n n.eqs.length).any (cI d.nm)))=!((n.all.drop n.ins.length).all fun d=>decide (0<fP n d.nm n.eqs.length)):=by
 have e:n.all.drop n.ins.length=n.outs++n.vars:=by unfold Nd.all;rw[Yw,List.drop_left]
 rw[e,<-List.any_append,List.not_all_eq_any_not];rw[Zn,List.any_eq_true,List.any_eq_true]
 have Aq:∀d∈n.outs++n.vars,(fX n n.eqs.length).any (cI d.nm)=decide (0<fP n d.nm n.eqs.length):=fun d hd=>by
  unfold fX fP;rw[List.any_append,aUy h hd,aKw,Bool.false_or]
 exact⟨fun⟨d,hd,hn⟩=>⟨d,hd,by rw[<-Aq d hd];exact hn⟩,fun⟨d,hd,hn⟩=>⟨d,hd,by rw[Aq d hd];exact hn⟩⟩
theorem aXd{p:Pg}{i:Nat}(hp:jX (aB p i)=true)(ho:cH (bM (aB p i).all)=true)(h:(aB p i).vars.any (nA (bM (aB p i).all) p.es)=false)(hn:∀j,j<(aB p i).eqs.length->eZ p i j=0)
 {b:Bool}(hb:((aB p i).outs.any (fun d=>!(fX (aB p i) (aB p i).eqs.length).any (cI d.nm)) || (aB p i).vars.any (fun d=>!(fX (aB p i) (aB p i).eqs.length).any (cI d.nm)))=b):lA p i (-1) (if b=true then 5 else 0):=by
 rw[bAk ho]at hb;unfold lA eN;rw[if_neg (by rw[aJr hp h];decide),if_pos (kH fun j hj=>by unfold hP;rw[if_pos (hn j hj)])];cases b with
 |true=>
  rw[Bool.not_eq_true']at hb;rw[if_neg (by rw[hb];decide)];rfl
 |false=>
  rw[Bool.not_eq_false']at hb;rw[if_pos hb];rfl
section
open Go Go.Sort Go.RowKit
section
variable {P:Program}{md:Region.Mode}{Q:Exit->Act->World->Prop}{ops:Array Oper}{Bp:World->Prop}{K:Act->Prop}{d tx:Tmp}{T:TypeId}{zc:Array Value}
def gV(o:Oper):Bool:=match o.op with|.alloc _=>true|.store _ _ _=>true|_=>false
def sG(o:Oper)(v:Value)(a:Act):Act:=if gV o=true then a else a.put o.dst v
def yG(P:Program)(ops:Array Oper)(Bp:World->Prop)(o:Oper)(v:Value)(a:Act):Prop:=gV o=true\/nJ P ops Bp o v a
theorem qD{o:Oper}(h:gV o=true)(v:Value)(a:Act):sG o v a=a:=if_pos h
theorem qG{o:Oper}(h:gV o=false)(v:Value)(a:Act):sG o v a=a.put o.dst v:=if_neg (by rw[h];decide)
def nB(P:Program)(ops:Array Oper)(Bp:World->Prop)(i:Nat)(K:Act->Prop)(a:Act):Prop:=
 match ops[i]? with
 |none=>K a
 |some o=>∃v,yG P ops Bp o v a/\K (sG o v a)
def tF(P:Program)(md:Region.Mode)(ops:Array Oper)(Bp:World->Prop)(K:Act->Prop):Nat->Array Bool->Act->Prop
 |0,L,a=>Region.ready md ops L=[]/\K a
 |f+1,L,a=>(Region.ready md ops L=[]->K a)/\∀i∈Region.ready md ops L,nB P ops Bp i (tF P md ops Bp K f (L.setIfInBounds i true)) a
def rU(P:Program)(ops:Array Oper)(Bp:World->Prop)(K:Act->Prop):List Oper->Act->Prop
 |[],a=>K a
 |o::rest,a=>∃v,yG P ops Bp o v a/\rU P ops Bp K rest (sG o v a)
theorem aIn{i:Nat}{a:Act}{K K':Act->Prop}(h:∀a,K a->K' a)(hh:nB P ops Bp i K a):nB P ops Bp i K' a:=by
 unfold nB at *;exact aNa
theorem bAl{j:Nat}{oi oj:Oper}{v:Value}(hj:ops[j]?=some oj)(Bx:oi.apart ops oj=true)(Jx:∀cs b,oi.op≠.select cs b)(Nt:∀cs b,oj.op≠.select cs b){K:Act->Prop}{a:Act}
 (hy:yG P ops Bp oi v a)(h:nB P ops Bp j K (sG oi v a)):nB P ops Bp j (fun a'=>yG P ops Bp oi v a'/\K (sG oi v a')) a:=by
 obtain⟨h1,h2,h3⟩:=Oper.apart_spec Bx;cases hm:gV oi with
 |true=>
  rw[qD hm]at h;exact aIn (fun a' h'=>⟨.inl hm,by rw[qD hm];exact h'⟩) h
 |false=>
  have hy:nJ P ops Bp oi v a:=hy.resolve_left (by rw[hm];decide);rw[qG hm]at h;unfold nB at *;simp only[hj]at *;obtain⟨u,hu,hn⟩:=h;cases Aq:gV oj with
  |true=>
   rw[qD Aq]at hn;refine⟨u,.inl Aq,?_⟩;rw[qD Aq,qG hm];exact⟨.inr hy,hn⟩
  |false=>
   have hu:nJ P ops Bp oj u (a.put oi.dst v):=hu.resolve_left (by rw[Aq];decide);rw[qG Aq]at hn;refine⟨u,.inr fun wb hb=>(hu wb hb).of_same (execOp_put oj Nt a oi.dst v h1).symm (wanted_put oj a oi.dst v h1).symm,?_⟩;rw[qG Aq,qG hm];refine⟨.inr fun wb hb=>(hy wb hb).of_same (execOp_put oi Jx a oj.dst u h3) (wanted_put oi a oj.dst u h3),?_⟩;rw[<-Act.put_comm a v u h2];exact hn
theorem aSu{i:Nat}{oi:Oper}{v:Value}(hi:ops[i]?=some oi)(Jx:∀(j:Nat)(o:Oper) cs b,ops[j]?=some o->o.op≠.select cs b):
 ∀(Aq:Nat)(L:Array Bool)(a:Act),
  (∀j oj,ops[j]?=some oj->j≠i->L.getD j true=false->(∀e∈oj.after,Region.binds md e=true->e.on≠i)->oi.apart ops oj=true)->
  i∈Region.ready md ops L->yG P ops Bp oi v a->tF P md ops Bp K Aq (L.setIfInBounds i true) (sG oi v a)->tF P md ops Bp K (Aq+1) L a:=by
 have Mq:∀{K:Act->Prop}{a:Act},yG P ops Bp oi v a->K (sG oi v a)->nB P ops Bp i K a:=fun hy h=>by
  unfold nB;simp only[hi];exact⟨v,hy,h⟩
 intro Aq;induction Aq with
 |zero=>
  exact aMq
 |succ Aq ih=>
  intro L a Js hr hy H;refine⟨fun h=>(by rw[h]at hr;cases hr),fun j hj=>?_⟩;by_cases Jo:j=i
  . subst Jo;exact Mq hy H
  . have h1:=H.2 j (ready_mono hj Jo);obtain⟨Lc,oj,Nt,Bh⟩:=mem_ready.1 hj
    have Nu:∀e∈oj.after,Region.binds md e=true->e.on≠i:=fun e he hb Jd=>by
     exact aMg
    have h2:=bAl Nt (Js j oj Nt Jo Lc Nu) (fun cs b=>Jx i oi cs b hi) (fun cs b=>Jx j oj cs b Nt) hy h1
    have Bx:∀k ok,ops[k]?=some ok->k≠i->(L.setIfInBounds j true).getD k true=false->(∀e∈ok.after,Region.binds md e=true->e.on≠i)->oi.apart ops ok=true:=fun k ok hk Nn Ng Hr=>by
     exact aNo
    refine aIn (fun a' h3=>ih (L.setIfInBounds j true) a' Bx (ready_mono hr (Ne.symm Jo)) h3.1 ?_) h2;rw[Array.setIfInBounds_comm _ _ Jo];exact h3.2
theorem aGm(hs:Region.noSelect ops=true):∀(l:List Oper)(k:Nat)(L:Array Bool)(a:Act),(∀j,l[j]?=ops[k+j]?)->
 Region.lexFrom md ops l.length k L=true->rU P ops Bp K l a->tF P md ops Bp K l.length L a
 |[],_,_,_,_,hB,h=>⟨by simpa[Region.lexFrom]using hB,h⟩
 |o::l,k,L,a,hl,hB,h=>by
  have h0:ops[k]?=some o:=by simpa using (hl 0).symm
  simp only[Yo,Region.lexFrom,Ys]at hB;obtain⟨⟨hr,hf⟩,Aq⟩:=hB;obtain⟨v,hy,hK⟩:=h;exact aSu h0 (Region.noSelect_spec hs) l.length L a (Region.free_spec h0 hf) (by simpa using hr) hy
   (aGm hs l (k+1) _ _ (fun j=>by have:=hl (j+1);simpa[Nat.add_assoc,Nat.add_comm 1 j]using this) Aq hK)
theorem aGn:∀(f:Nat)(L:Array Bool)(a:Act),tF P md ops Bp K f L a->(∀(i:Nat) o,ops[i]?=some o->L.getD i true=false->o.dst≠some tx)->∃a',K a'/\a'.eval (.tmp tx)=a.eval (.tmp tx)
 |0,L,a,h,_=>⟨a,h.2,rfl⟩
 |f+1,L,a,h,hm=>by
  by_cases hr:Region.ready md ops L=[];· exact⟨a,h.1 hr,rfl⟩
  . obtain⟨i,hi⟩:=List.exists_mem_of_ne_nil _ hr;obtain⟨hu,o,ho,_⟩:=mem_ready.1 hi;have hf:=h.2 i hi;unfold nB at hf;rw[ho]at hf;obtain⟨v,_,hn⟩:=hf
    obtain⟨a',h1,h2⟩:=aGn f _ _ hn fun j oj hj hl=>hm j oj hj (by
     by_cases Aq:i=j
     . subst Aq;exact hu
     . rwa[getD_set_ne true Aq]at hl)
    refine⟨a',h1,h2.trans ?_⟩;cases Bx:gV o with
    |true=>rw[qD Bx]
    |false=>rw[qG Bx];exact pM (hm i o ho hu)
theorem aDv{i:Nat}{o:Oper}(ho:ops[i]?=some o){v:Value}{a:Act}{W:World}{K':Act->World->Prop}(hy:YieldsIn P ops (cT W) o v a)(h:∀W',cT W W'->K' (a.put o.dst v) W'):wpOp P ops Q i K' a W:=
 wpOp_of_qOp (C:=cT W) (K:=fun a'=>a'=a.put o.dst v) (aJg W) (fun a' w' Cy e=>by rw[e];exact h w' Cy) (YieldsIn.qOp ho hy rfl)
theorem getD_both{L:Array Bool}{i:Nat}(h:i<L.size)(b c:Bool):L.getD i b=L.getD i c:=by simp[Array.getD,h]
theorem aKx{L:Array Bool}{i:Nat}:(L.setIfInBounds i true).getD i true=true:=by
 by_cases h:i<L.size;· simp[Array.getD,h]
 . simp[Array.getD,h]
end
section
variable {P:Program}{md:Region.Mode}{Q:Exit->Act->World->Prop}{l:List Oper}{oa os:Oper}{w:World}{d tx:Tmp}{T:TypeId}{zc:Array Value}{p q:Nat}
def aDw(Q:Exit->Act->World->Prop)(w:World)(d tx:Tmp)(T:TypeId)(zc:Array Value):Act->Prop:=fun a'=>
 ∃cells:Array Value,a'.eval (.tmp tx)=.agg cells/\cells.size=zc.size/\cells.all (·.oneCell')=true/\
  ∀W g,cT w W->w.heap.size<=g->W.heap[g]?=some (.cells cells T)->Q .normal (a'.put (some d) (.pointer (some ⟨g,0,none⟩))) W
structure MidB (P:Program)(md:Region.Mode)(l:List Oper)(p q:Nat)(oa os:Oper)(d tx:Tmp)(T:TypeId)(zc:Array Value)(Q:Exit->Act->World->Prop):Prop where
 head:iY md l=true
 nos:Region.noSelect l.toArray=true
 pa:l[p]?=some oa
 qs:l[q]?=some os
 pq:p≠q
 only:∀(i:Nat) o,l[i]?=some o->gV o=true->i=p\/i=q
 ma:gV oa=true
 ms:gV os=true
 da:oa.dst=some d
 ne:tx≠d
 ap:∀(i:Nat) o,l[i]?=some o->gV o=false->oa.apart l.toArray o=true
 ga:oa.guard=none
 gs:os.guard=none
 ds:os.dst=none
 sa:∃e∈os.after,Region.binds md e=true/\e.on=p
 sx:∀(i:Nat) o,l[i]?=some o->o.dst=some tx->∃e∈os.after,Region.binds md e=true/\e.on=i
 al:∀(a:Act)(W:World),(execOp a.eval oa).run P W=.ok (.value (.pointer (some ⟨W.heap.size,0,none⟩))) (W.alloc (.cells zc T))
 st:∀(a:Act)(W:World)(g:Nat)(cells:Array Value)(K:Act->World->Prop),a.eval (.tmp d)=.pointer (some ⟨g,0,none⟩)->a.eval (.tmp tx)=.agg cells->W.heap[g]?=some (.cells zc T)->cells.size=zc.size->cells.all (·.oneCell')=true->
  K a (W.setRow g cells)->os.wp P a W K Q
variable (B:MidB P md l p q oa os d tx T zc Q)
def aR7(l:List Oper)(p q:Nat)(w:World)(d tx:Tmp)(T:TypeId)(zc:Array Value)(L:Array Bool)(a Aq:Act)(W:World):Prop:=
 (L.getD p true=false/\L.getD q true=false/\Aq=a)\/
 (L.getD p true=true/\L.getD q true=false/\∃g,w.heap.size<=g/\W.heap[g]?=some (.cells zc T)/\Aq=a.put (some d) (.pointer (some ⟨g,0,none⟩)))\/
 (L.getD p true=true/\L.getD q true=true/\∃g cells,w.heap.size<=g/\W.heap[g]?=some (.cells cells T)/\a.eval (.tmp tx)=.agg cells/\(∀(i:Nat) o,l[i]?=some o->o.dst=some tx->L.getD i true=true)/\Aq=a.put (some d) (.pointer (some ⟨g,0,none⟩)))
include B in
theorem bGh:∀(f:Nat)(L:Array Bool)(a Aq:Act)(W:World),L.size=l.length->tF P md l.toArray (cT w) (aDw Q w d tx T zc) f L a->cT w W->d<a.tmps.size->aR7 l p q w d tx T zc L a Aq W->
 wpAny P md l.toArray Q f L Aq W:=by
 have hp:p<l.length:=(List.getElem?_eq_some_iff.1 B.pa).1;have hq:q<l.length:=(List.getElem?_eq_some_iff.1 B.qs).1
 have Jx:∀(L:Array Bool)(a Aq:Act)(W:World),L.size=l.length->Region.ready md l.toArray L=[]->aDw Q w d tx T zc a->cT w W->aR7 l p q w d tx T zc L a Aq W->Q .normal Aq W:=fun L a Aq W hL hr hK hC hS=>by
  have Bh:=pL B.head hL hr;have h1:=Bh p hp;have h2:=Bh q hq;rw[getD_both aA false true]at h1 h2;rcases hS with⟨e,_,_⟩|⟨_,e,_⟩|⟨_,_,g,cells,hg,hz,hx,_,rfl⟩;· rw[h1]at e;cases e
  . rw[h2]at e;cases e
  . obtain⟨Nw,e1,_,_,hQ⟩:=hK;rw[hx]at e1;injection e1 with e1;subst e1;exact hQ W g hC hg hz
 intro f;induction f with
 |zero=>
  intro L a Aq W hL h hC hd hS;exact⟨h.1,Jx L a Aq W hL h.1 h.2 hC hS⟩
 |succ f ih=>
  intro L a Aq W hL h hC hd hS;refine⟨fun h0=>Jx L a Aq W hL h0 (h.1 h0) hC hS,fun i hi=>?_⟩;obtain⟨hu,o,ho,Bh⟩:=mem_ready.1 hi;have hf:=h.2 i hi;unfold nB at hf;rw[ho]at hf;obtain⟨v,hy,hn⟩:=hf;have Bp:l[i]?=some o:=by rwa[List.getElem?_toArray]at ho
  have Ob:i<l.length:=(List.getElem?_eq_some_iff.1 Bp).1;by_cases Nt:i=p
  . subst Nt;rw[B.pa]at Bp;obtain rfl:=Option.some.inj Bp;rw[qD B.ma]at hn;rcases hS with⟨_,e2,rfl⟩|⟨e1,_⟩|⟨e1,_⟩
    . unfold wpOp;rw[ho];simp only;rw[if_pos (by simp[Region.wanted,B.ga])];refine .inl ?_;unfold Oper.wp;rw[B.al];show wpAny P md _ Q f _ (Aq.put oa.dst _) _;rw[B.da];have hb:=cU hC;exact ih _ Aq _ _ mW hn (tK (hb.alloc hb.size _)) hd (.inr (.inl ⟨aKx,by rw[getD_set_ne true B.pq];exact e2,_,hb.size,Zx _ _,rfl⟩))
    . rw[hu]at e1;cases e1
    . rw[hu]at e1;cases e1
  . by_cases Nu:i=q
    . subst Nu;rw[B.qs]at Bp;obtain rfl:=Option.some.inj Bp;rw[qD B.ms]at hn;rcases hS with⟨e1,_⟩|⟨e1,_,g,hg,hz,rfl⟩|⟨_,e2,_⟩
      . obtain⟨x,hx,hb,Nx⟩:=B.sa
        have:=Bh x hx hb
        rw[Nx]at this;rw[getD_both aA true false]at e1;simp[Array.getD,hL,hp]at this e1;rw[this]at e1;cases e1
      . have hm:∀(j:Nat) o,l[j]?=some o->o.dst=some tx->L.getD j true=true:=fun j o hj e=>by
         obtain⟨x,hx,hb,Nx⟩:=B.sx j o hj e;have hl:j<l.length:=(List.getElem?_eq_some_iff.1 hj).1
         have:=Bh x hx hb
         rw[Nx]at this;exact vV
        obtain⟨a',⟨cells,e3,e4,e5,_⟩,e6⟩:=aGn (tx:=tx) f _ _ hn fun j o hj hl e=>by
         rw[List.getElem?_toArray]at hj
         have:=uV (i:=i) (hm j o hj e)
         rw[this]at hl;cases hl
        have hx:a.eval (.tmp tx)=.agg cells:=e6.symm.trans e3;unfold wpOp;rw[ho];simp only;rw[if_pos aE8];refine .inl (B.st _ W g cells _ (aJi hd) ((pM (fun e=>B.ne (by injection e with e;exact e.symm))).trans hx) hz e4 e5 ?_);have Al:W.heap[g]?=some (.cells zc T (0,0)):=hz;exact ih _ a _ _ mW hn (tK (Xc (cU hC) hg cells)) hd (.inr (.inr ⟨by rw[getD_set_ne true (Ne.symm B.pq)];exact e1,aKx,g,cells,hg,Xd _ _ _ _ _ _ Al,hx,fun j o hj e=>uV (hm j o hj e),rfl⟩))
      . rw[hu]at e2;cases e2
    . have Nv:gV o=false:=by
       cases Nv:gV o with
       |false=>rfl
       |true=>exact(B.only i o Bp Nv).elim (fun h=>absurd h Nt) (fun h=>absurd h Nu)
      have hy:nJ P l.toArray (cT w) o v a:=hy.resolve_left (by rw[Nv];decide);rw[qG Nv]at hn;obtain⟨p1,p2,p3⟩:=Oper.apart_spec (B.ap i o Bp Nv);have Ny:∀cs b,o.op≠.select cs b:=fun cs b=>Region.noSelect_spec B.nos i _ cs b ho;have Oa:∀g,YieldsIn P l.toArray (cT W) o v (a.put (some d) (.pointer (some ⟨g,0,none⟩))):=fun g=>(hy W hC).of_same (execOp_put _ Ny a (some d) _ (B.da ▸ p1)) (wanted_put _ a (some d) _ (B.da ▸ p1));rcases hS with⟨e1,e2,rfl⟩|⟨e1,e2,g,hg,hz,rfl⟩|⟨e1,e2,g,cells,hg,hz,hx,hm,rfl⟩
      . refine aDv ho (hy W hC) fun W' Bx=>?_;exact ih _ _ _ W' mW hn (qZ hC Bx) aFg (.inl ⟨by rw[getD_set_ne true Nt];exact e1,by rw[getD_set_ne true Nu];exact e2,rfl⟩)
      . refine aDv ho (Oa g) fun W' Bx=>?_;have Nz:g<W.heap.size:=(Yl.1 hz).1;exact ih _ _ _ W' mW hn (qZ hC Bx) aFg (.inr (.inl ⟨by rw[getD_set_ne true Nt];exact e1,by rw[getD_set_ne true Nu];exact e2,g,hg,((cU Bx).block g Nz).trans hz,Act.put_comm a (x:=some d) (y:=o.dst) _ _ (B.da ▸ p2)⟩))
      . refine aDv ho (Oa g) fun W' Bx=>?_;have Nz:g<W.heap.size:=(Yl.1 hz).1
        have An:o.dst≠some tx:=fun e=>by
         have h1:=hm i o Bp e;rw[hu]at h1;cases h1
        exact ih _ _ _ W' mW hn (qZ hC Bx) aFg (.inr (.inr ⟨by rw[getD_set_ne true Nt];exact e1,by rw[getD_set_ne true Nu];exact e2,g,cells,hg,((cU Bx).block g Nz).trans hz,(pM An).trans hx,fun j o hj e=>uV (hm j o hj e),Act.put_comm a (x:=some d) (y:=o.dst) _ _ (B.da ▸ p2)⟩))
end
end
section
open Go Go.Sort Go.RowKit
section
variable {P:Program}{Q:Exit->Act->World->Prop}{l:List Oper}{w:World}{K:Act->Prop}{d tx:Tmp}{T:TypeId}{zc:Array Value}{p q:Nat}
def aR8(l:List Oper)(p q:Nat)(oa os:Oper)(d tx:Tmp):Bool:=
 Region.lexB .any l.toArray && iY .any l && (!(p==q) && gV oa && gV os && oa.guard.isNone && os.guard.isNone && os.dst.isNone && !(tx==d)) &&
  ((List.range l.length).all fun i=>((l[i]?).map fun o=>(!gV o || i==p || i==q) && (gV o || oa.apart l.toArray o) && (!(o.dst==some tx) || os.after.any fun e=>Region.binds .any e && e.on==i)).getD true) &&
  (os.after.any fun e=>Region.binds .any e && e.on==p)
theorem kF{id:Nat}{a:Act}(p q:Nat)(oa os:Oper)(hm:P.follows .mixedOrders=true)(Bp:l[p]?=some oa)(Aq:l[q]?=some os)(hB:aR8 l p q oa os d tx=true)(hd:oa.dst=some d)(Bx:d<a.tmps.size)
 (Nv:∀(a:Act)(W:World),(execOp a.eval oa).run P W=.ok (.value (.pointer (some ⟨W.heap.size,0,none⟩))) (W.alloc (.cells zc T)))
 (Jx:os.op=.store T (.tmp d) (.tmp tx))(hi:(P.info? T).map (·.size)=some zc.size)
 (h:rU P l.toArray (cT w) (aDw (fun e a w=>Q e a w) w d tx T zc) l a):(Code.region id l.toArray true).wp P Q a w:=by
 simp only[aR8,Ys]at hB;obtain⟨⟨⟨⟨h1,h2⟩,⟨⟨⟨⟨⟨⟨h3,h4⟩,h5⟩,h6⟩,h7⟩,h8⟩,h9⟩⟩,Nt⟩,Nu⟩:=hB;simp only[Region.lexB,Ys]at h1;have h0:=aGm h1.1 l 0 (Array.replicate l.toArray.size false) a aG aD4 h;have gs:os.dst=none:=by simpa using h8
 have Ao:∀(i:Nat) o,l[i]?=some o->(gV o=true->i=p\/i=q)/\(gV o=false->oa.apart l.toArray o=true)/\(o.dst=some tx->∃e∈os.after,Region.binds .any e=true/\e.on=i):=fun i o ho=>by
  have hl:i<l.length:=(List.getElem?_eq_some_iff.1 ho).1
  have:=Zg.1 Nt i (List.mem_range.2 hl)
  simp only[ho,Option.map_some,Yt,Ys,Bool.or_eq_true,Bool.not_eq_true',beq_iff_eq,Xb]at this;have t1:=this.1.1;have t2:=this.1.2;have t3:=this.2;clear this;refine⟨fun hm=>?_,fun hm=>?_,fun e=>?_⟩
  . rcases t1.elim (fun h=>h.elim (fun h=>Or.inl h) (fun h=>Or.inr (Or.inl h))) (fun h=>Or.inr (Or.inr h))with h|h|h;· exact absurd (hm.symm.trans h) bS
    . exact .inl h
    . exact .inr h
  . rcases t2 with h|h;· exact absurd (hm.symm.trans h) bS
    . exact h
  . rcases t3 with h|h;· exact absurd e h
    . obtain⟨x,hx,hh⟩:=Array.any_eq_true'.1 h;exact aOo
 have B:MidB P .any l p q oa os d tx T zc Q:={
  head:=h2,nos:=h1.1,pa:=Bp,qs:=Aq,ma:=h4,ms:=h5,da:=hd,al:=Nv,ds:=gs
  pq:=by simpa using h3
  ne:=by simpa using h9
  ga:=by simpa using h6
  gs:=by simpa using h7
  only:=fun i o ho=>(Ao i o ho).1
  ap:=fun i o ho=>(Ao i o ho).2.1
  sx:=fun i o ho=>(Ao i o ho).2.2
  sa:=by
   obtain⟨x,hx,hh⟩:=Array.any_eq_true'.1 Nu;exact aOo
  st:=fun a W g cells K e1 e2 e3 e4 e5 hK=>wp_store_row T (.tmp d) (.tmp tx) Jx g cells e1 e2 T zc e3 (by rw[hi,e4]) e4.symm e5 (by rw[gs];exact hK) }
 refine wp_region_any hm ?_;have hC:cT w { w with drawn:=w.drawn+1 }:=⟨⟨w.drawn+1,#[]⟩,by rw[grow_empty];rfl⟩
 have hf:∀i,i<l.length->(Array.replicate l.toArray.size false).getD i true=false:=fun i hi=>by
  have Nw:i<l.toArray.size:=qI;simp[Array.getD,hi]
 have hz:=bGh B l.length (Array.replicate l.toArray.size false) a a { w with drawn:=w.drawn+1 } aG h0 hC Bx (.inl ⟨hf p (List.getElem?_eq_some_iff.1 Bp).1,hf q (List.getElem?_eq_some_iff.1 Aq).1,rfl⟩);have e1:l.toArray.size=l.length:=aG;rw[e1]at hz⊢;exact hz
theorem kI{Bp:World->Prop}{ops:Array Oper}{o:Oper}{rest:List Oper}{a:Act}{v:Value}{t:Tmp}(hm:gV o=false)(ho:o.dst=some t)(ht:t<a.tmps.size)
 (h1:∀wb,Bp wb->wpQuiet P ops (fun w'=>∃p:Regrown,w'=grow (redrawn wb p.d) p.os) (fun a'=>a'.tmps[t]?=some v) [o] a)(h2:rU P ops Bp K rest (a.put (some t) v)):rU P ops Bp K (o::rest) a:=by
 refine⟨v,.inr fun wb hb=>?_,by rw[qG hm,ho];exact h2⟩;have h:=h1 wb hb;unfold wpQuiet at h;by_cases hw:Region.wanted o (yielded ops a.tmps)=true;· exact aMt
 . exact aM3
theorem kJ{Bp:World->Prop}{ops:Array Oper}{o:Oper}{rest:List Oper}{a:Act}(hm:gV o=true)(h:rU P ops Bp K rest a):rU P ops Bp K (o::rest) a:=
 ⟨undef,.inl hm,by rw[qD hm];exact h⟩
end
end
end Go.Proofs.YtkbpdoomhfkngaaGreat
