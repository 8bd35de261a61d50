/- A part of the proof. Conditions: each theorem's own. -/
import Derived.Test.YtkbpdoomhfkngaaGreatC07
namespace Go.Proofs.YtkbpdoomhfkngaaGreat
set_option linter.unusedVariables false
set_option linter.unusedSimpArgs false
set_option maxRecDepth 100000
set_option maxHeartbeats 40000000
section
open Go.RowKit Go.Sort
def aF(a b c:Int):Array Value:=#[.int .i64 a,.int .i64 b,.int .i64 c]
def F3(T:TypeId)(W:World)(g:Nat)(a b c:Int):Prop:=W.heap[g]?=some (Obj.cells (aF a b c) T)
section
variable {T:TypeId}{W W':World}{g:Nat}{a b c:Int}
theorem F3.lt(h:F3 T W g a b c):g<W.heap.size:=(Yl.1 h).1
theorem F3.below(h:F3 T W g a b c)(hb:Below W.heap.size W W'):F3 T W' g a b c:=(hb.block g h.lt).trans h
theorem F3.set(h:F3 T W g a b c)(x y z:Int):F3 T (W.setRow g (aF x y z)) g x y z:=Xd _ _ _ _ _ _ h
theorem F3.cell(h:F3 T W g a b c)(j:Nat):W.cell? ⟨g,j,none⟩=(aF a b c)[j]?:=by
 have:=cell_setRow_same W g j _ (aF a b c) _ _ h
 exact aEs
theorem F3.new(T:TypeId)(W:World)(a b c:Int):F3 T (W.alloc (.cells (aF a b c) T)) W.heap.size a b c:=Zx _ _
end
theorem eT:(Tryz.prog.info? 30).map (·.size)=some 3:=aC
theorem cW:(Tryz.prog.info? 41).map (·.size)=some 3:=aC
theorem fC{fn:Func}{p:Tmp}(h:fn.results=#[.cell p 30])(tmps:Array Value)(w:World)(i:Nat)(a b c:Int)
 (hp:tmps.getD p undef=.pointer (some ⟨i,0,none⟩))(hg:F3 30 w i a b c):(results fn tmps).run Tryz.prog w=.ok (.agg (aF a b c)) w:=
 results_cell_row h tmps w i _ _ _ _ hp hg Tryz.underlying30 rfl eT
theorem aSl{fn:Func}{p u v:Tmp}{ty:TypeId}(h:fn.results=#[.cell p ty,.tmp u,.tmp v])(tmps:Array Value)(P:Program)(w:World):
 (results fn tmps).run P w =
  ((asAddr (tmps.getD p undef)).run P w).andThen fun a w₁=>((loadVar ty a).run P w₁).andThen fun x w₂=>.ok (.tuple #[x,tmps.getD u undef,tmps.getD v undef]) w₂:=by
 simp only[results,h];simp[Sem.run_bind,Result.andThen]
theorem rO{fn:Func}{p u v:Tmp}(h:fn.results=#[.cell p 41,.tmp u,.tmp v])(tmps:Array Value)(w:World)(g:Nat)(a b c:Int)
 (hp:tmps.getD p undef=.pointer (some ⟨g,0,none⟩))(hg:F3 41 w g a b c):(results fn tmps).run Tryz.prog w=.ok (.tuple #[.agg (aF a b c),tmps.getD u undef,tmps.getD v undef]) w:=by
 rw[aSl h,hp];have hl:=run_loadVar_row (P:=Tryz.prog) w g 41 41 _ _ _ hg Tryz.underlying41 rfl cW;simp[asAddr,Result.andThen,hl]
theorem lV{w w0:World}{T:TypeId}(h:w.alloc (.cells #[.int .i64 0,.int .i64 0,.int .i64 0] T)=w0):Below w.heap.size w w0/\F3 T w0 w.heap.size 0 0 0/\w0.heap.size=w.heap.size+1:=by
 exact aN9
def lG(o:Option (Int × Int × Int)):Value:=.tuple #[.agg (aF ((o.map (·.1)).getD 0) ((o.map (·.2.1)).getD 0) 0),.int .i64 ((o.map (·.2.2)).getD 0),.bool o.isSome]
theorem uP{w w1:World}{v:Array Value}(h:Below w.heap.size w w1):Below w.heap.size w (w1.setRow w.heap.size v):=Xc h (Yh _) _
theorem yE(a b c:Int)(w:World):Calls Tryz.prog 22 #[.int .i64 a,.int .i64 b,.int .i64 c] w fun e w'=>e=.returned (.agg (aF a b c))/\Below w.heap.size w w':=by
 go_in
 go_upto_region 1 with(fail);generalize Ai:w.alloc _=w0;obtain⟨Ae,hR,Me⟩:=lV Ai;have Af:=Hd Ae;have HR:=Hd hR;clear Ae hR Ai;go_wp2_with (refine Zv rfl _ _ _ rfl (w.heap.size) _ rfl rfl _ _ HR.o eT rfl aQ ?_);exact Zu (fC (p:=6) rfl _ _ w.heap.size a b c rfl (HR.o.set a b c)) rfl ⟨rfl,uP Af.o⟩
theorem rG(A:Option Addr)(n c:Nat)(es:List En)(s:ByteArray)(w:World)(hE:bU w A n es):
 Calls Tryz.prog 35 #[.slice A n c,.string s] w fun e w'=>e=.returned (lG (bP es s))/\Below w.heap.size w w':=by
 have HC:=Hd fun w1 (hb:Below w.heap.size w w1)=>bCl A n c es s w1 (hE.below hb);have HA:=Hd (show bP es s=if(s.toList==[116,114,117,101])=true then some (2,0,1)else if(s.toList==[102,97,108,115,101])=true then some (2,0,0)else(iF es s).map fun p=>(3,(p.1:Int),(p.2.1:Int))from rfl);generalize bP es s=ar at *;clear hE;cases h1:(s.toList==[116,114,117,101])with
 |true=>
  exact aQv
 |false=>
  exact fK4
end
section
open Go.RowKit Go.Sort
theorem fF{a b:Bool}(h:a=b):Ending.returned (.bool a)=.returned (.bool b):=uC
theorem aB7{w w1 w2:World}{o:Obj}(h:Below w.heap.size w w1)(e:w1.alloc o=w2):Below w.heap.size w w2:=by
 subst e;exact h.alloc h.size _
theorem aDd(x:Nd)(A1:Option Addr)(c1:Nat)(A2:Option Addr)(c2:Nat)(A3:Option Addr)(c3:Nat)(A4:Option Addr)(c4:Nat)(s:ByteArray)(w:World)(h:cF w x A1 A2 A3 A4)(hn:x.all.length<=1000):
 Calls Tryz.prog 84 #[.agg (bK x A1 c1 A2 c2 A3 c3 A4 c4),.string s] w fun e w'=>e=.returned (.bool (gA x s))/\Below w.heap.size w w':=by
 have HF:=Hd fun w1 hw=>iE w x A1 c1 A2 c2 A3 c3 A4 c4 w1 hw h;have HC:=Hd fun w1 (a:cF w1 x A1 A2 A3 A4)=>pT x A1 c1 A2 c2 A3 c3 A4 c4 s w1 a hn;have HV:=Hd (show(aZ x s).isSome=gA x s from rfl);clear h hn;unfold nL kY at HC;unfold aU at HC;generalize (aZ x s).isSome=ok at *;generalize (aZ x s).getD default=d at *;unfold bK at HF HC⊢;go_in
 go_upto_region 1 with(fail);generalize Ag:w.alloc _=w1;obtain⟨Aa,hg,Av,hcell⟩:=HF.o w1 Ag;have Ac:=Hd Aa;obtain⟨q0,q1,q2,q3,q4,-⟩:=Sx (hcell w1 (Yg _ _));simp only[Ya,Yb,Yc]at q0 q1 q2 q3 q4;have HD:=Hd (HC.o w1 Av);clear Ag hcell Aa HF HC Av hg;go_wp2_with fail;refine HD.o.mono ?_;rintro e w2 ⟨rfl,Ad⟩;have Aj:=Hd (Ac.o.tr Ad);clear Ad q0 q1 q2 q3 q4 HD;go_wp2_with fail;go_ret;exact⟨fF HV.o,aB7 Aj.o rfl⟩
theorem aIk(p:Pg)(E:Option Addr)(ec:Nat)(N:Option Addr)(nc:Nat)(s:ByteArray)(w:World)(h:cJ w p E N):
 Calls Tryz.prog 85 #[.agg (aK p E ec N nc),.string s] w fun e w'=>e=.returned (.bool (dM p.es s))/\Below w.heap.size w w':=by
 have HF:=Hd fun w1 hw=>kW w p E ec N nc w1 hw h;have HC:=Hd fun w1 (a:bU w1 E p.es.length p.es)=>rG E p.es.length ec p.es s w1 a;have HV:=Hd (show(bP p.es s).isSome=dM p.es s from rfl);clear h;unfold lG aF at HC;generalize (bP p.es s).isSome=ok at *;generalize ((bP p.es s).map (·.1)).getD 0=r1 at *;generalize ((bP p.es s).map (·.2.1)).getD 0=r2 at *;generalize ((bP p.es s).map (·.2.2)).getD 0=r3 at *;unfold aK at HF⊢;go_in
 go_upto_region 1 with(fail);generalize Ag:w.alloc _=w1;obtain⟨Aa,hg,Av,hcell⟩:=HF.o w1 Ag;have Ac:=Hd Aa;have q0:=hcell w1 (Yg _ _) 0;simp only[Ya,Yb,Yc]at q0;have HD:=Hd (HC.o w1 Av.1);clear Ag hcell Aa HF HC Av hg;go_wp2_with fail;refine HD.o.mono ?_;rintro e w2 ⟨rfl,Ad⟩;have Aj:=Hd (Ac.o.tr Ad);clear Ad q0 HD;go_wp2_with fail;go_ret;exact⟨fF HV.o,aB7 Aj.o rfl⟩
theorem aW0{n:Nd}{s:ByteArray}{k:Nat}(hk:k<n.ins.length)(h:((n.ins[k]?.getD default).nm.toList==s.toList)=true):mJ n s=true:=by
 unfold mJ;rw[Yk hk]at h;refine List.any_eq_true.2 ⟨_,Zh hk,?_⟩;rw[Zc,Zc]at h;exact h
theorem bAd{n:Nd}{s:ByteArray}(h:∀j,j<n.ins.length->((n.ins[j]?.getD default).nm.toList==s.toList)=false):mJ n s=false:=by
 unfold mJ;rw[List.any_eq_false];intro d hd;obtain⟨j,hj,rfl⟩:=Zj hd
 have:=h j hj
 rw[Yk hj,Zc,Zc]at this;simpa[cI]using this
theorem aUu(x:Nd)(A1:Option Addr)(c1:Nat)(A2:Option Addr)(c2:Nat)(A3:Option Addr)(c3:Nat)(A4:Option Addr)(c4:Nat)(s:ByteArray)(w:World)(h:cF w x A1 A2 A3 A4):
 Calls Tryz.prog 125 #[.agg (bK x A1 c1 A2 c2 A3 c3 A4 c4),.string s] w fun e w'=>e=.returned (.bool (mJ x s))/\Below w.heap.size w w':=by
 have HF:=Hd fun w1 hw=>iE w x A1 c1 A2 c2 A3 c3 A4 c4 w1 hw h;have HH:=Hd fun k hk h=>aW0 (n:=x) (s:=s) (k:=k) hk h;have HN:=Hd fun h=>bAd (n:=x) (s:=s) h;have Bp:=aI.max h.1;clear h;generalize mJ x s=Bu at *;unfold bK at HF⊢;generalize hn1:x.ins.length=n1 at *;go_in
 go_upto_region 1 with(fail);generalize Ag:w.alloc _=w1;obtain⟨Aa,hg,Av,hcell⟩:=HF.o w1 Ag;have Ac:=Hd Aa;have HC:=Hd hcell;have HR:=Hd Av.1;clear Ag hcell Aa HF Av hg;go_wp2_with fail;go_loopw [5] (fun i wr=>∃k:Nat,k<=n1/\i=.int .i64 k/\(∀j,j<k->((x.ins[j]?.getD default).nm.toList==s.toList)=false)/\Below w1.heap.size w1 wr) (fun i _=>n1-(intOf i).toNat)
 case atStart=>exact⟨0,Yq _,rfl,fun j hj=>absurd hj aA,Yg _ _⟩
 case round=>
  obtain⟨k,hk,rfl,Bc,Ay⟩:=hrel;have Cg:=Hd Bc;have Cm:=Hd Ay;have q1:=HC.o wr Ay 1;simp only[Ya,Yb,Yc]at q1;by_cases Ah:k<n1
  . obtain⟨b,off,rfl,hb,Ca⟩:=aI.at_ (HR.o.below Ay) aA;obtain⟨d0,-⟩:=(Ca k aA).six;have Aq:=Hd (HH.o k aA);have Cf:=Hd fun hf=>dC (P:=fun j=>((x.ins[j]?.getD default).nm.toList==s.toList)=false) Cg.o hf;clear Ca Bc Ay;generalize (x.ins[k]?.getD default).nm=nm at *;cases hx:(nm.toList==s.toList)with
    |true=>
     have HE:=Hd (Aq.o hx);exact aOi
    |false=>
     have Ly:=Hd (Cf.o hx);go_wp2_with fail;go_roundw;case rel=>exact⟨k+1,by omega,by go_num,Ly.o,Cm.o⟩
     case measure=>simp[intOf];omega
  . have Im:k=n1:=by omega
    have HE:=Hd (HN.o fun j hj=>Bc j aA);clear Bc Ay;exact aOi
theorem aJn(s:ByteArray)(a b:List ByteArray):lE s (a++b)=lE s a+lE s b:=by simp[lE]
theorem aKt(s:ByteArray)(l:List ByteArray):lE s l<=l.length:=List.length_filter_le _ _
theorem aUv(n:Nd)(s:ByteArray)(i:Nat):nR n s i 0=fP n s i:=by simp[nR,fP]
theorem aUw{n:Nd}{s:ByteArray}{i j:Nat}(hj:j<(n.eqs[i]?.getD default).ns.length):nR n s i (j+1)=nR n s i j+(if(((n.eqs[i]?.getD default).ns[j]?.getD ByteArray.empty).toList==s.toList)=true then 1 else 0):=by
 unfold nR;rw[List.take_add_one,Yk hj,<-Yw,aJn];congr 1;simp only[Option.toList_some,Yt,Zc];unfold lE;by_cases h:cI s (n.eqs[i]?.getD default).ns[j]=true
 . rw[List.filter_cons_of_pos h];exact(if_pos h).symm
 . rw[List.filter_cons_of_neg h];exact(if_neg h).symm
theorem aW1{n:Nd}{s:ByteArray}{i j:Nat}(hi:i<n.eqs.length)(hj:j=(n.eqs[i]?.getD default).ns.length):nR n s i j=fP n s (i+1):=by
 unfold nR fP;rw[hj,List.take_length,List.take_add_one,Yk hi,List.flatMap_append];simp
theorem aW2(n:Nd)(s:ByteArray):fP n s 0=0:=by simp[fP,lE]
def qK(n:Nd):Prop:=n.eqs.length<=1000/\∀q∈n.eqs,q.ns.length<=1000
theorem qK.at_{n:Nd}(h:qK n){i:Nat}(hi:i<n.eqs.length):(n.eqs[i]?.getD default).ns.length<=1000:=by
 rw[Yk hi,Yt];exact h.2 _ (Zh _)
theorem bDv{n:Nd}{s:ByteArray}(h:qK n):∀i,fP n s i<=1000*n.eqs.length:=by
 intro i;refine Yp (aKt _ _) ?_;have h1:∀(l:List Qn),(∀q∈l,q.ns.length<=1000)->(l.flatMap Qn.ns).length<=1000*l.length:=by
  intro l;induction l with
  |nil=>intro _;simp
  |cons a l ih=>
   intro hl;have h2:=ih fun q hq=>hl q (by simp[hq]);have h3:=hl a aG;simp only[List.flatMap_cons,Yn,Yo];omega
 have h2:=h1 (n.eqs.take i) fun q hq=>h.2 q (List.mem_of_mem_take hq);have h3:(n.eqs.take i).length<=n.eqs.length:=by rw[List.length_take];omega
 exact Yp h2 (Nat.mul_le_mul_left _ h3)
theorem bAe{n:Nd}{s:ByteArray}(h:qK n)(i j:Nat):nR n s i j<=1000*n.eqs.length+j:=by
 have h1:=bDv (s:=s) h i;unfold nR;rw[aJn];have h2:=aKt s ((n.eqs[i]?.getD default).ns.take j);have h3:((n.eqs[i]?.getD default).ns.take j).length<=j:=by rw[List.length_take];omega
 unfold fP at h1;omega
theorem aF4(x:Nd)(A1:Option Addr)(c1:Nat)(A2:Option Addr)(c2:Nat)(A3:Option Addr)(c3:Nat)(A4:Option Addr)(c4:Nat)(s:ByteArray)(m:Nat)(w:World)(h:cF w x A1 A2 A3 A4)(hm:m<=x.eqs.length)(hq:qK x):
 Calls Tryz.prog 87 #[.agg (bK x A1 c1 A2 c2 A3 c3 A4 c4),.string s,.int .i64 m] w fun e w'=>e=.returned (.int .i64 (fP x s m))/\Below w.heap.size w w':=by
 have HF:=Hd fun w1 hw=>iE w x A1 c1 A2 c2 A3 c3 A4 c4 w1 hw h;have Ob:=aI.max h.2.2.2;have Mv:=hq.1;have Nt:=Hd fun i (hi:i<x.eqs.length)=>hq.at_ hi;have Cf:=Hd fun i j hj=>aUw (n:=x) (s:=s) (i:=i) (j:=j) hj;have Bx:=Hd fun i j hi hj=>aW1 (n:=x) (s:=s) (i:=i) (j:=j) hi hj;have HZ:=Hd fun i=>aUv x s i;have Nz:=Hd (aW2 x s);have Ny:=Hd fun i j=>bAe (s:=s) hq i j;clear h hq;unfold bK at HF⊢;generalize hn1:x.eqs.length=nq at *;generalize nR x s=dt at *;generalize fP x s=dn at *;go_in
 go_upto_region 1 with(fail);generalize Ag:w.alloc _=w1;obtain⟨Aa,hg,Av,hcell⟩:=HF.o w1 Ag;have Ac:=Hd Aa;have q4:=hcell w1 (Yg _ _) 4;simp only[Ya,Yb,Yc]at q4;have HR:=Hd Av.2.2.2;clear Ag hcell Aa HF Av hg;go_wp2_with fail;go_loopw [7,8] (fun c i wr=>∃k:Nat,k<=m/\i=.int .i64 k/\c=.int .i64 (dn k)/\wr=w1) (fun _ i _=>m-(intOf i).toNat)
 case atStart=>exact⟨0,Yq _,rfl,by rw[Nz.o];rfl,rfl⟩
 case round=>
  obtain⟨k,hk,rfl,rfl,rfl⟩:=hrel;by_cases Ah:k<m
  . obtain⟨b,off,rfl,hb,Ca⟩:=aI.at_ HR.o aA;obtain⟨A,c,A',ca,B',cb,r1,r2,e0,-⟩:=(Ca k aA).seven;have Oc:=Nt.o k aA;have Fi:=Hd fun j hj=>Cf.o k j hj;have Nw:=Hd fun j hj=>Bx.o k j aA hj;have Nx:=Hd (HZ.o k);have Nv:=Hd (Ny.o k);have Bi:=Hd r1;clear Ca r2 r1;generalize Nu:(x.eqs[k]?.getD default).ns.length=nk at *;generalize (x.eqs[k]?.getD default).ns=ns at *;go_wp2_with fail;go_loopw [7,9] (fun c i Bp=>∃j:Nat,j<=nk/\i=.int .i64 j/\c=.int .i64 (dt k j)/\Bp=wr) (fun _ i _=>nk-(intOf i).toNat)
    case atStart=>exact⟨0,Yq _,rfl,by rw[Nx.o],rfl⟩
    case round=>
     obtain⟨j,hj,rfl,rfl,rfl⟩:=hrel;have Oa:=Nv.o j;by_cases Kr:j<nk
     . obtain⟨b2,Gc,rfl,Ad,Aq⟩:=Bi.o.at_ Kr;have d0:=Aq j Kr;have HN:=Hd (Fi.o j Kr);clear Aq;generalize ns[j]?.getD ByteArray.empty=y at *;generalize dt k j=dj at *;cases hx:(y.toList==s.toList)with
       |true=>
        have HE:=Hd (show dt k (j+1)=dj+1 by rw[HN.o,if_pos hx]);go_wp2_with fail;go_roundw;case rel=>exact⟨j+1,by omega,by go_num,by rw[HE.o];go_num,gW⟩
        case measure=>simp[intOf];omega
       |false=>
        have HE:=Hd (show dt k (j+1)=dj by rw[HN.o,if_neg (by rw[hx];simp)];rfl);go_wp2_with fail;go_roundw;case rel=>exact⟨j+1,by omega,by go_num,by rw[HE.o],gW⟩
        case measure=>simp[intOf];omega
     . have Kz:j=nk:=by omega
       have HE:=Hd (Nw.o j Kz);go_wp2_with fail;go_roundw;case rel=>exact⟨k+1,by omega,by go_num,by rw[HE.o],gW⟩
       case measure=>simp[intOf];omega
  . have Jx:k=m:=by omega
    subst Jx;go_wp2_with fail;go_ret;exact⟨rfl,Ac.o⟩
end
section
open Go.RowKit Go.Sort Go.BigFrame
theorem iR{w:World}{A:Option Addr}{n i:Nat}{l:List Nd}(h:eX w A n l)(hi:i<n):
 ∃b off A1 c1 A2 c2 A3 c3 A4 c4,A=some ⟨b,off,none⟩/\b<w.heap.size/\cF w (l[i]?.getD default) A1 A2 A3 A4/\
 w.cell? ⟨b,off+i*5,none⟩=some (.string (l[i]?.getD default).nm)/\w.cell? ⟨b,off+i*5+1,none⟩=some (.slice A1 (l[i]?.getD default).ins.length c1)/\w.cell? ⟨b,off+i*5+2,none⟩=some (.slice A2 (l[i]?.getD default).outs.length c2)/\w.cell? ⟨b,off+i*5+3,none⟩=some (.slice A3 (l[i]?.getD default).vars.length c3)/\w.cell? ⟨b,off+i*5+4,none⟩=some (.slice A4 (l[i]?.getD default).eqs.length c4):=by
 obtain⟨b,off,e,hb,hc⟩:=aI.at_ h aA;obtain⟨A1,c1,A2,c2,A3,c3,A4,c4,h1,h2⟩:=hc i hi;obtain⟨d0,d1,d2,d3,d4⟩:=uX h1;exact⟨b,off,A1,c1,A2,c2,A3,c3,A4,c4,e,hb,h2,d0,d1,d2,d3,d4⟩
theorem aKu{arms:List ByteArray}{j:Nat}:arms[j]?.getD default=arms[j]?.getD ByteArray.empty:=rfl
def aEz(p:Pg)(i:Nat)(k:Int)(s:ByteArray):Bool:=
 if(k==4)=true then dM p.es s else if(k==13)=true then decide (0<=cY p s) && decide (cY p s<(i:Int))else !(k==17)
theorem bAf(p:Pg)(i:Nat)(e:Ex):lX p i e=(if((e.k==3 || e.k==11 || e.k==12) && !gA (aB p i) e.s)=true then false else if e.arms.all (dM p.es)=false then false else aEz p i e.k e.s):=rfl
theorem aW3(p:Pg)(E:Option Addr)(ec:Nat)(N:Option Addr)(nc:Nat)(i:Nat)(x:Ex)(A:Option Addr)(ca:Nat)(B:Option Addr)(cb:Nat)(w:World)(h:cJ w p E N)(hi:i<p.ns.length)(hr:aH w x A B)(hn:(aB p i).all.length<=1000):
 Calls Tryz.prog 126 #[.agg (aK p E ec N nc),.int .i64 i,.agg (aE x A ca B cb)] w fun e w'=>e=.returned (.bool (lX p i x))/\Below w.heap.size w w':=by
 have HF:=Hd fun w1 hw=>kW w p E ec N nc w1 hw h;have Nv:=Hd fun w1 w2 hw (hb:Below w.heap.size w w1)=>fB w1 x A ca B cb w2 hw (hr.below hb);obtain⟨bn,on,A1,c1,A2,c2,A3,c3,A4,c4,e0,Jx,Gy,d0,d1,d2,d3,d4⟩:=iR h.2 hi;have Nt:=Hd fun w1 (a:Below w.heap.size w w1)=>aDd (p.ns[i]?.getD default) A1 c1 A2 c2 A3 c3 A4 c4 x.s w1 (Gy.below a) hn;have Cq:=Hd fun s w1 (a:Below w.heap.size w w1)=>aIk p E ec N nc s w1 (h.below a);have Nz:=Hd fun w1 (a:Below w.heap.size w w1)=>aKm p E ec N nc x.s w1 (h.below a);have Nw:=Hd fun w1 (a:Below w.heap.size w w1)=>And.intro ((a.cell (p:=⟨bn,on+i*5,none⟩) Jx).trans d0) (And.intro ((a.cell (p:=⟨bn,on+i*5+1,none⟩) Jx).trans d1) (And.intro ((a.cell (p:=⟨bn,on+i*5+2,none⟩) Jx).trans d2) (And.intro ((a.cell (p:=⟨bn,on+i*5+3,none⟩) Jx).trans d3) ((a.cell (p:=⟨bn,on+i*5+4,none⟩) Jx).trans d4))));have Nu:=Hd fun w1 w2 hw (a:Below w.heap.size w w1)=>iE w1 (p.ns[i]?.getD default) A1 c1 A2 c2 A3 c3 A4 c4 w2 hw (Gy.below a);have Kt:=Hd fun w1 (a:Below w.heap.size w w1)=>(hr.below a).arms;have HP:=Hd (bAf p i x);have Mc:=Hd (show aEz p i x.k x.s=if(x.k==4)=true then dM p.es x.s else if(x.k==13)=true then decide (0<=cY p x.s) && decide (cY p x.s<(i:Int))else !(x.k==17)from rfl);have Om:=aI.max h.2;have Ol:=hr.arms.max;subst e0;clear h hr Gy hn d0 d1 d2 d3 d4;generalize lX p i x=Bu at *;generalize aEz p i x.k x.s=pe at *;rw[show gA (aB p i) x.s=gA (p.ns[i]?.getD default) x.s from rfl]at HP;generalize gA (p.ns[i]?.getD default) x.s=iv at *;generalize Ob:dM p.es x.s=av at *;generalize cY p x.s=fn at *;unfold aK at HF Cq Nz⊢;unfold aE at Nv⊢;unfold bK at Nt Nu;generalize p.ns[i]?.getD default=y at *;generalize Ou:p.ns.length=pn at *;generalize x.k=k at *;generalize x.s=xs at *;have Oh:=Hd Ob;clear Ob;generalize Ok:x.arms.length=na at *;generalize x.arms=arms at *;go_in
 go_upto_region 1 with(fail);generalize Ag:w.alloc _=w1;obtain⟨Aa,Od,Av,Aq⟩:=HF.o w1 Ag;generalize Br:w1.alloc _=w2;obtain⟨Ad,hg2,Gg,Am⟩:=Nv.o w1 w2 Br Aa;simp only[Od]at Am;have Aj:=Hd (Aa.tr Ad);have q1:=Aq w2 Ad 1;simp only[Ya,Yb,Yc]at q1;obtain⟨d0,d1,d2,d3,d4⟩:=Nw.o w2 Aj.o;have Ot:(i:Int)<(pn:Int):=aA;have Oq:(0:Int)<=(i:Int):=aA;have On:i<=9223372036854775807:=aA;have Nx:=Hd fun W (b:Below w2.heap.size w2 W) j=>Aq W (Ad.tr b) j;have Ny:=Hd Am;clear Ag Br Aq Am Aa Ad Av Gg HF Nv;go_upto_region 2 with(fail);generalize Cr:w2.alloc _=w3;obtain⟨Ak,Oc,-,Bx⟩:=Nu.o w2 w3 Cr Aj.o;have Ax:=Hd (Aj.o.tr Ak);have Fp:=Hd fun W (b:Below w3.heap.size w3 W) j=>Nx.o W (Ak.tr b) j;have Ff:=Hd fun W (b:Below w3.heap.size w3 W) j=>Ny.o W (Ak.tr b) j;have Oe:=Hd Bx;clear Cr Ak Oc Bx Nx Ny Nu Nw d0 d1 d2 d3 d4 q1;have x0:=Ff.o w3 (Yg _ _) 0;have x2:=Ff.o w3 (Yg _ _) 2;obtain⟨n0,n1,n2,n3,n4,-⟩:=Sx (Oe.o w3 (Yg _ _));simp only[Ya,Yb,Yc]at x0 x2 n0 n1 n2 n3 n4;have Nh:=Hd (Nt.o w3 Ax.o);clear Nt;by_cases Bp:(k==3 || k==11 || k==12)=true
 . have hk:k=3\/k=11\/k=12:=by simpa[or_assoc]using Bp
   cases iv with
   |false=>
    have HR:=Hd (show Bu=false by rw[HP.o,Bp];rfl);rcases hk with hk|hk|hk;· exact aD6
    . exact aD6
    . exact aD6
   |true=>
    have Mm:=Hd (show ¬((k==3 || k==11 || k==12) && !true)=true by simp);rcases hk with hk|hk|hk;· exact fK3
    . exact fK3
    . exact fK3
 . have Mm:=Hd (show ¬((k==3 || k==11 || k==12) && !iv)=true by rw[Bool.not_eq_true]at Bp;rw[Bp];simp);have Oo:(k==3)=false:=by rw[Bool.not_eq_true,Bool.or_eq_false_iff,Bool.or_eq_false_iff]at Bp;exact Bp.1.1
   have Oi:(k==11)=false:=by rw[Bool.not_eq_true,Bool.or_eq_false_iff,Bool.or_eq_false_iff]at Bp;exact Bp.1.2
   have Oj:(k==12)=false:=by rw[Bool.not_eq_true,Bool.or_eq_false_iff,Bool.or_eq_false_iff]at Bp;exact Bp.2
   have Mn:=Hd (Yg w3.heap.size w3);clear Nh Bp n0 n1 n2 n3 n4 x2;go_wp2_with fail;clear x0;go_loopw [8] (fun c wr=>∃j:Nat,j<=na/\c=.int .i64 j/\(arms.take j).all (dM p.es)=true/\Below w3.heap.size w3 wr) (fun c _=>na-(intOf c).toNat)
   case atStart=>exact⟨0,Yq _,rfl,by simp,Mn.o⟩
   case round=>
    obtain⟨j,hj,rfl,Bc,Ay⟩:=hrel;have Cg:=Hd Bc;have Cm:=Hd Ay;have x4:=Ff.o wr Ay 4;have x0:=Ff.o wr Ay 0;have x2:=Ff.o wr Ay 2;have y0:=Fp.o wr Ay 0;have y1:=Fp.o wr Ay 1;simp only[Ya,Yb,Yc]at x4 x0 x2 y0 y1;have Fb:=Hd (Ax.o.tr Ay);by_cases Kr:j<na
    . obtain⟨b5,o5,rfl,Bv,Ca⟩:=(Kt.o wr Fb.o).at_ (i:=j) Kr;have a0:=Ca j Kr;have Ky:j<arms.length:=aA;have Gx:=Hd (qQ (f:=dM p.es) Cg.o Ky);have Gv:=Hd (oI (f:=dM p.es) Ky);rw[aKu]at Gx Gv;have Hv:=Hd fun W (b:Below wr.heap.size wr W)=>Cq.o (arms[j]?.getD ByteArray.empty) W (Fb.o.tr b);clear Ca Bc Ay;generalize arms[j]?.getD ByteArray.empty=am at *;generalize dM p.es am=bm at *;go_upto_region 7 with(fail);have Gs:=Hd fun d os=>Zt wr d os;have l0:=fun d os=>Zs y0 d os;have l1:=fun d os=>Zs y1 d os;have l4:=fun d os=>Zs x4 d os;have la:=fun d os=>Zs a0 d os;have cA:=fun d os=>Zi (Hv.o (grow (redrawn wr d) os) (Zt wr d os));refine Xa aC aC ?_;repeat (go_big_quiet_step (with_reducible exact cA _ _))
      refine Xg ?_;intro _ Cr;obtain⟨⟨Gw,Dz⟩,Ct⟩:=Cr;have Bg:=Gs.o Gw Dz;rw[<-Ct]at Bg;clear cA l0 l1 l4 la Ct x4 x0 x2 y0 y1 a0;rename_i w9;have Fq:=Hd (Cm.o.tr Bg);clear Bg;cases bm with
      |true=>
       have Fu:=Hd (Gx.o rfl);go_wp2_with fail;go_roundw;case rel=>exact⟨j+1,by omega,by go_num,Fu.o,Fq.o⟩
       case measure=>simp[intOf];omega
      |false=>
       have HR:=Hd (show Bu=false by rw[HP.o,if_neg Mm.o,if_pos (Gv.o rfl)]);go_wp2_with fail;go_ret;exact⟨fF HR.o.symm,Ax.o.tr Fq.o⟩
    . have Kz:j=na:=by omega
      subst Kz;have HR:=Hd (show Bu=pe by rw[HP.o,if_neg Mm.o,if_neg];rw[Yx aA]at Bc;rw[Bc];simp);clear Bc Ay;cases k4:(k==4)with
      |true=>
       have Db:=Hd (show Bu=av by rw[HR.o,Mc.o,if_pos k4]);have Hv:=Hd (Cq.o xs wr Fb.o);rw[Oh.o]at Hv;go_wp2_with fail;refine Hv.o.mono ?_;rintro e w9 ⟨rfl,Kq⟩;have Fq:=Hd (Fb.o.tr Kq);clear Kq;exact aEl
      |false=>
       cases Oa:(k==13)with
       |true=>
        have Db:=Hd (show Bu=(decide (0<=fn) && decide (fn<(i:Int)))by rw[HR.o,Mc.o,if_neg (by rw[k4];simp),if_pos Oa]);have Of:=Hd (Nz.o wr Fb.o);go_wp2_with fail;refine Of.o.mono ?_;rintro e w9 ⟨rfl,Kq⟩;have Fq:=Hd (Fb.o.tr Kq);clear Kq;by_cases f0:0<=fn
        . have g0:decide (0<=fn)=true:=Zy f0;rw[g0,Bool.true_and]at Db;exact aEl
        . have g0:decide (0<=fn)=false:=Zz f0;rw[g0,Bool.false_and]at Db;exact aEl
       |false=>
        have Db:=Hd (show Bu=!(k==17)by rw[HR.o,Mc.o,if_neg (by rw[k4];simp),if_neg (by rw[Oa];simp)]);have Og:(k !=17)=!(k==17):=rfl;go_wp2_with fail;go_ret;exact⟨fF Db.o.symm,Fb.o⟩
theorem vB{a b:Int}(h:a=b):Ending.returned (.int .i64 a)=.returned (.int .i64 b):=uC
theorem aKv{p:Pg}{i j k:Nat}(hk:k<((aB p i).eqs[j]?.getD default).ns.length)(hn:∀a,a<k->kZ (aB p i) j ((aB p i).eqs[j]?.getD default).ns a=0)(h:kZ (aB p i) j ((aB p i).eqs[j]?.getD default).ns k≠0):
 eZ p i j=kZ (aB p i) j ((aB p i).eqs[j]?.getD default).ns k:=by
 unfold eZ;rw[lN hk hn h,if_neg h]
theorem aIl{p:Pg}{i j:Nat}(hn:∀a,a<((aB p i).eqs[j]?.getD default).ns.length->kZ (aB p i) j ((aB p i).eqs[j]?.getD default).ns a=0):
 eZ p i j=if(bL ((aB p i).eqs[j]?.getD default).x).all (lX p i)=true then 0 else 5:=by
 unfold eZ;rw[kH hn,if_pos rfl]
theorem aTi{s:ByteArray}{ns:List ByteArray}{k:Nat}(hk:k<=ns.length)(h:∀a,a<k->((ns[a]?.getD ByteArray.empty).toList==s.toList)=false):(ns.take k).any (cI s)=false:=by
 rw[List.any_eq_false];intro x hx;obtain⟨a,ha,rfl⟩:=Zj hx;rw[List.length_take]at ha
 have:=h a aA
 rw[Yk aA,Zc,Zc]at this;rw[List.getElem_take];simpa[cI]using this
theorem aS1{s:ByteArray}{ns:List ByteArray}{k a:Nat}(hk:k<=ns.length)(ha:a<k)(h:((ns[a]?.getD ByteArray.empty).toList==s.toList)=true):(ns.take k).any (cI s)=true:=by
 refine List.any_eq_true.2 ⟨ns[a],?_,?_⟩
 . rw[List.mem_take_iff_getElem];exact⟨a,by omega,rfl⟩
 . rw[Yk aA,Zc,Zc]at h;exact h
theorem bDw(p:Pg)(E:Option Addr)(ec:Nat)(N:Option Addr)(nc:Nat)(i j:Nat)(w:World)(h:cJ w p E N)(hi:i<p.ns.length)(hj:j<(aB p i).eqs.length)(hn:(aB p i).all.length<=1000)(hq:qK (aB p i))(hx:bD ((aB p i).eqs[j]?.getD default).x<=1000000):
 Calls Tryz.prog 86 #[.agg (aK p E ec N nc),.int .i64 i,.int .i64 j] w fun e w'=>e=.returned (.int .i64 (eZ p i j))/\Below w.heap.size w w':=by
 have HF:=Hd fun w1 hw=>kW w p E ec N nc w1 hw h;obtain⟨bn,on,A1,c1,A2,c2,A3,c3,A4,c4,e0,Oc,Gy,d0,d1,d2,d3,d4⟩:=iR h.2 hi;subst e0;rw[show(p.ns[i]?.getD default)=aB p i from rfl]at Gy d0 d1 d2 d3 d4;have Ow:=Hd fun s w1 (a:Below w.heap.size w w1)=>aDd (aB p i) A1 c1 A2 c2 A3 c3 A4 c4 s w1 (Gy.below a) hn;have Hy:=Hd fun s w1 (a:Below w.heap.size w w1)=>aUu (aB p i) A1 c1 A2 c2 A3 c3 A4 c4 s w1 (Gy.below a);have Pe:=Hd fun s w1 (a:Below w.heap.size w w1)=>aF4 (aB p i) A1 c1 A2 c2 A3 c3 A4 c4 s j w1 (Gy.below a) (Nat.le_of_lt hj) hq;have Om:=Hd fun x A ca B cb w1 (a:Below w.heap.size w w1)(r:aH w1 x A B)=>aW3 p E ec (some ⟨bn,on,none⟩) nc i x A ca B cb w1 (h.below a) hi r hn;have Ov:=Hd fun w1 (a:Below w.heap.size w w1)=>And.intro ((a.cell (p:=⟨bn,on+i*5,none⟩) Oc).trans d0) (And.intro ((a.cell (p:=⟨bn,on+i*5+1,none⟩) Oc).trans d1) (And.intro ((a.cell (p:=⟨bn,on+i*5+2,none⟩) Oc).trans d2) (And.intro ((a.cell (p:=⟨bn,on+i*5+3,none⟩) Oc).trans d3) ((a.cell (p:=⟨bn,on+i*5+4,none⟩) Oc).trans d4))));have Ol:=Hd fun w1 w2 hw (a:Below w.heap.size w w1)=>iE w1 (aB p i) A1 c1 A2 c2 A3 c3 A4 c4 w2 hw (Gy.below a);obtain⟨bq,oq,e1,Ge,Pf⟩:=aI.at_ Gy.2.2.2 aA;obtain⟨AN,cN,AA,cA,AB,cB,r1,r2,g0,g1,g2,g3,g4,g5,g6⟩:=(Pf j hj).seven;subst e1;have Ox:=Hd fun w1 (a:Below w.heap.size w w1)=>And.intro ((a.cell (p:=⟨bq,oq+j*7,none⟩) Ge).trans g0) (And.intro ((a.cell (p:=⟨bq,oq+j*7+1,none⟩) Ge).trans g1) (And.intro ((a.cell (p:=⟨bq,oq+j*7+2,none⟩) Ge).trans g2) (And.intro ((a.cell (p:=⟨bq,oq+j*7+3,none⟩) Ge).trans g3) (And.intro ((a.cell (p:=⟨bq,oq+j*7+4,none⟩) Ge).trans g4) (And.intro ((a.cell (p:=⟨bq,oq+j*7+5,none⟩) Ge).trans g5) ((a.cell (p:=⟨bq,oq+j*7+6,none⟩) Ge).trans g6))))));have Oj:=Hd fun w1 w2 hw (a:Below w.heap.size w w1)=>aCi w1 ((aB p i).eqs[j]?.getD default) AN cN AA cA AB cB w2 hw (r1.below a) (r2.below a);have Iq:=Hd fun w1 (a:Below w.heap.size w w1)=>r1.below a;have Pm:=Hd fun w1 (a:Below w.heap.size w w1)=>aCd ((aB p i).eqs[j]?.getD default).x AA cA AB cB w w1 r2 a hx;have Pr:=Hd fun k hk hn h=>aKv (p:=p) (i:=i) (j:=j) (k:=k) hk hn h;have Pp:=Hd fun hn=>aIl (p:=p) (i:=i) (j:=j) hn;have Pb:=Hd (sN ((aB p i).eqs[j]?.getD default).x);have Qr:=aI.max h.2;have Qo:=aI.max Gy.2.2.2;have Qm:=r1.max;have Qw:=r1.len;have Qu:=hq.1;clear h Gy hn d0 d1 d2 d3 d4 Pf r1 r2 g0 g1 g2 g3 g4 g5 g6 hx hq;generalize eZ p i j=Bu at *;unfold aK at HF Om⊢;unfold bK at Ow Hy Pe Ol;unfold dW at Oj;unfold aE at Om Pm;have Eg:=Hd (show ∀k,kZ (aB p i) j ((aB p i).eqs[j]?.getD default).ns k=if gA (aB p i) ((((aB p i).eqs[j]?.getD default).ns)[k]?.getD ByteArray.empty)=false then 5 else if(mJ (aB p i) ((((aB p i).eqs[j]?.getD default).ns)[k]?.getD ByteArray.empty) || decide (0<fP (aB p i) ((((aB p i).eqs[j]?.getD default).ns)[k]?.getD ByteArray.empty) j))=true then 6 else if(((aB p i).eqs[j]?.getD default).ns.take k).any (cI ((((aB p i).eqs[j]?.getD default).ns)[k]?.getD ByteArray.empty))=true then 6 else 0 from fun k=>rfl);generalize kZ (aB p i) j ((aB p i).eqs[j]?.getD default).ns=nS at *;generalize Qb:(aB p i).eqs[j]?.getD default=q at *;clear Qb;generalize Qh:aB p i=y at *;clear Qh;generalize Qy:p.ns.length=pn at *;generalize Mv:y.eqs.length=nq at *;generalize Qz:q.ns.length=nn at *;go_in
 go_upto_region 1 with(fail);generalize Ag:w.alloc _=w1;obtain⟨Aa,Pw,Av,Bp⟩:=HF.o w1 Ag;have q1:=Bp w1 (Yg _ _) 1;simp only[Ya,Yb,Yc]at q1;have Ac:=Hd Aa;have Oz:=Hd Bp;obtain⟨d0,d1,d2,d3,d4⟩:=Ov.o w1 Aa;have Qx:(i:Int)<(pn:Int):=aA;have Qt:(0:Int)<=(i:Int):=aA;have Qs:i<=9223372036854775807:=aA;have Ql:(j:Int)<(nq:Int):=aA;have Qk:(0:Int)<=(j:Int):=aA;clear Ag Bp Aa Av HF Pw;go_upto_region 2 with(fail);generalize Br:w1.alloc _=w2;obtain⟨Ad,hg2,-,Am⟩:=Ol.o w1 w2 Br Ac.o;have Aj:=Hd (Ac.o.tr Ad);have Oa:=Hd fun W (b:Below w2.heap.size w2 W) j=>Oz.o W (Ad.tr b) j;have n4:=Am w2 (Yg _ _) 4;simp only[Ya,Yb,Yc]at n4;have Pc:=Hd Am;obtain⟨g0,g1,g2,g3,g4,g5,g6⟩:=Ox.o w2 Aj.o;clear Br Am Ad hg2 Ol Ov d0 d1 d2 d3 d4 q1 Oz;go_upto_region 3 with(fail);generalize Cr:w2.alloc _=w3;obtain⟨Ak,Pu,-,-,Jx⟩:=Oj.o w2 w3 Cr Aj.o;have Ax:=Hd (Aj.o.tr Ak);have Fp:=Hd fun W (b:Below w3.heap.size w3 W) j=>Oa.o W (Ak.tr b) j;have Pa:=Hd fun W (b:Below w3.heap.size w3 W) j=>Pc.o W (Ak.tr b) j;have Io:=Hd Jx;clear Cr Jx Ak Pu Oj Ox g0 g1 g2 g3 g4 g5 g6 n4 Oa Pc;go_wp2_with fail;go_loopw [9] (fun c wr=>∃k:Nat,k<=nn/\c=.int .i64 k/\(∀a,a<k->nS a=0)/\Below w3.heap.size w3 wr) (fun c _=>nn-(intOf c).toNat)
 case atStart=>exact⟨0,Yq _,rfl,fun a ha=>absurd ha aA,Yg _ _⟩
 case round=>
  obtain⟨k,hk,rfl,Bc,Ay⟩:=hrel;have Cg:=Hd Bc;have Cm:=Hd Ay;have Fb:=Hd (Ax.o.tr Ay);have x0:=Io.o wr Ay 0;obtain⟨n0,n1,n2,n3,n4,-⟩:=Sx (Pa.o wr Ay);simp only[Ya,Yb,Yc]at x0 n0 n1 n2 n3 n4;clear Bc Ay;by_cases Ah:k<nn
  . obtain⟨b5,o5,rfl,Bv,Ca⟩:=(Iq.o wr Fb.o).at_ (i:=k) Ah;have a0:=Ca k Ah;have Fi:=Hd (Eg.o k);have Od:=Hd (Pr.o k Ah Cg.o);have Qi:=Hd fun hz=>dC (P:=fun a=>nS a=0) Cg.o hz;have Oe:=Hd fun W (b:Below wr.heap.size wr W)=>(Iq.o W (Fb.o.tr b));have Px:=Hd fun W (b:Below wr.heap.size wr W)=>(b.cell (p:=⟨b5,o5+k,none⟩) Bv).trans a0;have Oh:=Hd fun W b=>Pe.o (q.ns[k]?.getD ByteArray.empty) W b;have Qg:k<=q.ns.length:=aA;clear Ca;generalize Df:q.ns[k]?.getD ByteArray.empty=nm at *;have Og:=Hd Df;clear Df;generalize Pk:gA y nm=iv at *;have Qd:=Hd Pk;clear Pk;generalize Ny:mJ y nm=Py at *;have Ou:=Hd Ny;clear Ny;generalize Ps:fP y nm j=df at *;clear Ps;generalize Po:nS k=sk at *;clear Po;have Oy:=Hd fun W (b:Below wr.heap.size wr W)=>Ow.o nm W (Fb.o.tr b);rw[Qd.o]at Oy;go_upto_region 6 with(fail);have Gs:=Hd fun d os=>Zt wr d os;have l0:=fun d os=>Zs n0 d os;have l1:=fun d os=>Zs n1 d os;have l2:=fun d os=>Zs n2 d os;have l3:=fun d os=>Zs n3 d os;have l4:=fun d os=>Zs n4 d os;have lx:=fun d os=>Zs x0 d os;have la:=fun d os=>Zs a0 d os;have cA:=fun d os=>Zi (Oy.o (grow (redrawn wr d) os) (Zt wr d os));refine Xa aC aC ?_;repeat (go_big_quiet_step (with_reducible exact cA _ _))
    refine Xg ?_;intro _ Cr;obtain⟨⟨Gw,Dz⟩,Ct⟩:=Cr;have Bg:=Gs.o Gw Dz;rw[<-Ct]at Bg;clear cA l0 l1 l2 l3 l4 lx la Ct;rename_i w4;have Be:=Hd (Cm.o.tr Bg);have Nz:=Hd Bg;clear Bg;have Pq:=Hd fun W (b:Below w4.heap.size w4 W)=>Px.o W (Nz.o.tr b);have Ev:=Hd (Ax.o.tr Be.o);clear x0 n0 n1 n2 n3 n4 a0;cases iv with
    |false=>
     have HR:=Hd (show Bu=5 by
      have h5:sk=5:=by rw[Fi.o,if_pos rfl]
      rw[Od.o aAt,h5])
     go_wp2_with fail;go_ret;exact⟨vB HR.o.symm,Ev.o⟩
    |true=>
     have a0:=Pq.o w4 (Yg _ _);have x0:=Io.o w4 Be.o 0;obtain⟨n0,n1,n2,n3,n4,-⟩:=Sx (Pa.o w4 Be.o);simp only[Ya,Yb,Yc]at x0 n0 n1 n2 n3 n4;have Of:=Hd fun W (b:Below w4.heap.size w4 W)=>Hy.o nm W (Ev.o.tr b);have Qa:=Hd fun W (b:Below w4.heap.size w4 W)=>Oh.o W (Ev.o.tr b);rw[Ou.o]at Of;go_upto_region 8 with(fail);cases Py with
     |true=>
      have Gs:=Hd fun d os=>Zt w4 d os;have l0:=fun d os=>Zs n0 d os;have l1:=fun d os=>Zs n1 d os;have l2:=fun d os=>Zs n2 d os;have l3:=fun d os=>Zs n3 d os;have l4:=fun d os=>Zs n4 d os;have l5:=fun d os=>Zs x0 d os;have l6:=fun d os=>Zs a0 d os;have cB:=fun d os=>Zi (Of.o (grow (redrawn w4 d) os) (Zt w4 d os));refine Xa aC aC ?_;repeat (go_big_quiet_step (first|with_reducible exact cB _ _))
      refine Xg ?_;intro _ Cr;obtain⟨⟨Gw,Dz⟩,Ct⟩:=Cr;have Bg:=Gs.o Gw Dz;rw [<- Ct] at Bg;clear l0 l1 l2 l3 l4 l5 l6 cB Ct;rename_i w5;have Ck:=Hd (Ev.o.tr Bg);clear Bg x0 n0 n1 n2 n3 n4 a0;have HR:=Hd (show Bu=6 by
       have h5:sk=6:=by rw[Fi.o];rfl
       rw[Od.o aAt,h5])
      go_wp2_with fail;go_ret;exact⟨vB HR.o.symm,Ck.o⟩
     |false=>
      have Gs:=Hd fun d os=>Zt w4 d os;have l0:=fun d os=>Zs n0 d os;have l1:=fun d os=>Zs n1 d os;have l2:=fun d os=>Zs n2 d os;have l3:=fun d os=>Zs n3 d os;have l4:=fun d os=>Zs n4 d os;have l5:=fun d os=>Zs x0 d os;have l6:=fun d os=>Zs a0 d os;have cB:=fun d os=>Zi (Of.o (grow (redrawn w4 d) os) (Zt w4 d os));have cC:=fun d os=>Zi (Qa.o (grow (redrawn w4 d) os) (Zt w4 d os));refine Xa aC aC ?_;repeat (go_big_quiet_step (first|with_reducible exact cB _ _|with_reducible exact cC _ _))
      refine Xg ?_;intro _ Cr;obtain⟨⟨Gw,Dz⟩,Ct⟩:=Cr;have Bg:=Gs.o Gw Dz;rw[<-Ct]at Bg;clear l0 l1 l2 l3 l4 l5 l6 cB cC Ct;rename_i w5;have Oo:=Hd (Nz.o.tr Bg);have Ck:=Hd (Be.o.tr Bg);have Hq:=Hd (Ev.o.tr Bg);clear Bg x0 n0 n1 n2 n3 n4 a0;by_cases hd:0<df
      . have dd:decide ((0:Int)<(df:Int))=true:=Zy aA;have HR:=Hd (show Bu=6 by
         have h5:sk=6:=by rw[Fi.o,Zy hd];rfl
         rw[Od.o aAt,h5])
        go_wp2_with fail;go_ret;exact⟨vB HR.o.symm,Hq.o⟩
      . have dd:decide ((0:Int)<(df:Int))=false:=Zz aA;have Nx:=Hd (show sk=if(q.ns.take k).any (cI nm)=true then 6 else 0 by rw[Fi.o,Zz hd];rfl);go_wp2_with fail;generalize wr=wo at *;go_loopw [10] (fun c wr=>∃m:Nat,m<=k/\c=.int .i64 m/\(∀a,a<m->((q.ns[a]?.getD ByteArray.empty).toList==nm.toList)=false)/\Below w5.heap.size w5 wr) (fun c _=>k-(intOf c).toNat)
        case atStart=>exact⟨0,Yq _,rfl,fun a ha=>absurd ha aA,Yg _ _⟩
        case round=>
         obtain⟨m,hm,rfl,Nt,Aq⟩:=hrel;have Nu:=Hd Nt;have Oq:=Hd (Oo.o.tr Aq);have Nw:=Hd Aq;have Du:=Hd (Ck.o.tr Aq);clear Nt Aq;by_cases Pz:m<k
         . obtain⟨b6,o6,e6,Ci,Bx⟩:=(Oe.o wr Oq.o).at_ (i:=m) aA;have a1:=Bx m aA;have a0:=Bx k Ah;rw[Og.o]at a0;injection e6 with e6;injection e6 with e6 e7 _;subst e6 e7;have x0:=Io.o wr Du.o 0;simp only[List.getElem?_toArray,Yz]at x0;have Ot:=Hd fun hz=>dC (P:=fun a=>((q.ns[a]?.getD ByteArray.empty).toList==nm.toList)=false) Nu.o hz;have Ix:=Hd fun hz=>aS1 (s:=nm) (ns:=q.ns) (k:=k) (a:=m) aA Pz hz;have Qf:(m:Int)<(nn:Int):=aA;have Qv:(k:Int)<(nn:Int):=aA;have Pv:(0:Int)<=(m:Int):=aA;have Mr:(0:Int)<=(k:Int):=aA;clear Bx;generalize q.ns[m]?.getD ByteArray.empty=am at *;go_upto_region 13 with(fail);have Gs:=Hd fun d os=>Zt wr d os;have l0:=fun d os=>Zs x0 d os;have l1:=fun d os=>Zs a0 d os;have l2:=fun d os=>Zs a1 d os;refine Xa aC aC ?_;repeat (go_big_quiet_step (fail))
           refine Xg ?_;intro _ Cr;obtain⟨⟨Gw,Dz⟩,Ct⟩:=Cr;have Bg:=Gs.o Gw Dz;rw[<-Ct]at Bg;clear l0 l1 l2 Ct;rename_i w7;have Fg:=Hd (Nw.o.tr Bg);clear Bg x0 a0 a1;cases hx:(am.toList==nm.toList)with
           |true=>
            have HR:=Hd (show Bu=6 by
             have h5:sk=6:=by rw[Nx.o,if_pos (Ix.o hx)]
             rw[Od.o aAt,h5])
            exact aOk
           |false=>
            have Dg:=Hd (Ot.o hx);go_wp2_with fail;go_roundw;case rel=>exact⟨m+1,by omega,by go_num,Dg.o,Fg.o⟩
            case measure=>simp[intOf];omega
         . have Oi:m=k:=by omega
           subst Oi;have HZ:=Hd (Qi.o (by rw[Nx.o,aTi aA Nu.o];rfl));go_wp2_with fail;go_roundw;case rel=>exact⟨m+1,by omega,by go_num,HZ.o,Du.o⟩
           case measure=>simp[intOf];omega
  . have Im:k=nn:=by omega
    subst Im;have Ph:=Hd (Pp.o Cg.o);obtain⟨-,x1,x2,x3,x4,x5⟩:=Sx (Io.o wr Cm.o);have x6:=Io.o wr Cm.o 6;simp only[Ya,Yb,Yc]at x1 x2 x3 x4 x5 x6;have Ok:=Hd (Pm.o wr Fb.o);unfold aKd at Ok;clear n0 n1 n2 n3 n4;go_wp2_with fail;refine Ok.o.mono ?_;rintro e w5 ⟨AP,cP,cs,rfl,Nv,Pd,Bv,-⟩;have Hq:=Hd (Fb.o.tr Bv);have Ck:=Hd (Cm.o.tr Bv);have Qc:=Hd (Nv.rd Pd Hq.o);have Qj:=Nv.2.1;clear Nv Pd Bv x0 x1 x2 x3 x4 x5 x6 Ok;generalize Qq:bD q.x=np at *;generalize bL q.x=ps at *;go_wp2_with fail;generalize wr=wo at *;go_loopw [12] (fun c wr=>∃m:Nat,m<=np/\c=.int .i64 m/\(ps.take m).all (lX p i)=true/\Below w5.heap.size w5 wr) (fun c _=>np-(intOf c).toNat)
    case atStart=>exact⟨0,Yq _,rfl,by simp,Yg _ _⟩
    case round=>
     obtain⟨m,hm,rfl,Nt,Aq⟩:=hrel;have Nu:=Hd Nt;have Du:=Hd (Ck.o.tr Aq);have Pi:=Hd (Hq.o.tr Aq);have Nw:=Hd Aq;have Ed:=Hd (Qc.o.below Aq);clear Nt Aq;by_cases On:m<np
     . have Ob:m<ps.length:=by rw[Pb.o];exact On
       obtain⟨b6,o6,rfl,Ci,Bx⟩:=Ed.o.at_ On;obtain⟨pA,Pn,pB,Qe,Pj,Ap⟩:=Bx m On;obtain⟨z0,z1,z2,z3,z4,z5⟩:=dT Pj;have y0:=Fp.o wr Du.o 0;have y1:=Fp.o wr Du.o 1;simp only[Ya,Yb,Yc]at y0 y1;have Gx:=Hd (qQ (f:=lX p i) Nu.o Ob);have Gv:=Hd (oI (f:=lX p i) Ob);have Hv:=Hd fun W (b:Below wr.heap.size wr W)=>Om.o (ps[m]?.getD default) pA Pn pB Qe W (Pi.o.tr b) (Ap.below b);have Qf:(m:Int)<(np:Int):=aA;have Pv:(0:Int)<=(m:Int):=aA;clear Bx Pj Ap;generalize lX p i (ps[m]?.getD default)=bm at *;generalize ps[m]?.getD default=pe at *;go_upto_region 19 with(fail);have Gs:=Hd fun d os=>Zt wr d os;have l0:=fun d os=>Zs y0 d os;have l1:=fun d os=>Zs y1 d os;have l2:=fun d os=>Zs z0 d os;have l3:=fun d os=>Zs z1 d os;have l4:=fun d os=>Zs z2 d os;have l5:=fun d os=>Zs z3 d os;have l6:=fun d os=>Zs z4 d os;have l7:=fun d os=>Zs z5 d os;have cA:=fun d os=>Zi (Hv.o (grow (redrawn wr d) os) (Zt wr d os));refine Xa aC aC ?_;repeat (go_big_quiet_step (first|with_reducible exact cA _ _))
       refine Xg ?_;intro _ Cr;obtain⟨⟨Gw,Dz⟩,Ct⟩:=Cr;have Bg:=Gs.o Gw Dz;rw[<-Ct]at Bg;clear l0 l1 l2 l3 l4 l5 l6 l7 cA Ct;rename_i w7;have Fg:=Hd (Nw.o.tr Bg);clear Bg y0 y1 z0 z1 z2 z3 z4 z5;cases bm with
       |true=>
        have Fu:=Hd (Gx.o rfl);go_wp2_with fail;go_roundw;case rel=>exact⟨m+1,by omega,by go_num,Fu.o,Fg.o⟩
        case measure=>simp[intOf];omega
       |false=>
        have HR:=Hd (show Bu=5 by rw[Ph.o,Gv.o rfl];rfl);exact aOk
     . have Qp:m=np:=by omega
       have HR:=Hd (show Bu=0 by
        have h1:=Nu.o;rw[Yx (by rw[Pb.o];omega)]at h1;rw[Ph.o,h1];rfl)
       go_wp2_with fail;go_ret;exact⟨vB HR.o.symm,Pi.o⟩
def jS(f:Fl):Value:=.agg (aF f.1 f.2.1 f.2.2)
theorem bAg{p:Pg}{i:Nat}(h:(aB p i).all.all (kV p (aB p i))=false):eN p i=((i:Int),-1,5):=by
 unfold eN;rw[if_pos h]
theorem aJo{p:Pg}{i j:Nat}(h:eZ p i j=0):hP p i j=(0,0,0):=by
 unfold hP;rw[if_pos h]
theorem bGg{p:Pg}{i j:Nat}(h:eZ p i j≠0):hP p i j=((i:Int),(j:Int),eZ p i j)/\hP p i j≠(0,0,0):=by
 have h1:hP p i j=((i:Int),(j:Int),eZ p i j):=by unfold hP;rw[if_neg h]
 refine⟨h1,fun e=>?_⟩;rw[h1]at e;injection e with _ e;injection e with _ e;exact h e
theorem bAh{p:Pg}{i k:Nat}(h:(aB p i).all.all (kV p (aB p i))=true)(hk:k<(aB p i).eqs.length)(hn:∀a,a<k->eZ p i a=0)(he:eZ p i k≠0):eN p i=((i:Int),(k:Int),eZ p i k):=by
 unfold eN;obtain⟨h1,h2⟩:=bGg he;rw[if_neg (by rw[h];simp),lN (f:=hP p i) hk (fun a ha=>aJo (hn a ha)) h2,if_neg h2,h1]
theorem aW4{p:Pg}{i:Nat}(h:(aB p i).all.all (kV p (aB p i))=true)(hn:∀a,a<(aB p i).eqs.length->eZ p i a=0):
 eN p i=if((aB p i).all.drop (aB p i).ins.length).all (fun d=>decide (0<fP (aB p i) d.nm (aB p i).eqs.length))=true then(0,0,0)else((i:Int),-1,5):=by
 unfold eN;rw[if_neg (by rw[h];simp),kH (f:=hP p i) fun a ha=>aJo (hn a ha),if_pos rfl]
theorem aTj{α:Type}[Inhabited α]{f:α->Bool}{l:List α}{m k:Nat}(hm:m<=k)(hk:k<l.length)(hf:f (l[k]?.getD default)=false):(l.drop m).all f=false:=by
 rw[List.all_eq_false];refine⟨l[k],?_,?_⟩
 . rw[List.mem_drop_iff_getElem];exact⟨k-m,by omega,by congr 1;omega⟩
 . rw[Yk hk,Yt]at hf;rw[hf];simp
theorem aS2{α:Type}[Inhabited α]{f:α->Bool}{l:List α}{m:Nat}(h:∀k,m<=k->k<l.length->f (l[k]?.getD default)=true):(l.drop m).all f=true:=by
 rw[Zg];intro x hx;rw[List.mem_drop_iff_getElem]at hx;obtain⟨k,hk,rfl⟩:=hx
 have:=h (m+k) aA aA
 rwa[Yk aA,Yt]at this
theorem aW5(p:Pg)(E:Option Addr)(ec:Nat)(N:Option Addr)(nc:Nat)(i:Nat)(w:World)(h:cJ w p E N)(hi:i<p.ns.length)(hn:(aB p i).all.length<=1000)(hq:qK (aB p i))(hx:∀j,j<(aB p i).eqs.length->bD ((aB p i).eqs[j]?.getD default).x<=1000000):
 Calls Tryz.prog 54 #[.agg (aK p E ec N nc),.int .i64 i] w fun e w'=>e=.returned (jS (eN p i))/\Below w.heap.size w w':=by
 have HF:=Hd fun w1 hw=>kW w p E ec N nc w1 hw h;obtain⟨bn,on,A1,c1,A2,c2,A3,c3,A4,c4,e0,Og,Gy,d0,d1,d2,d3,d4⟩:=iR h.2 hi;subst e0;rw[show(p.ns[i]?.getD default)=aB p i from rfl]at Gy d0 d1 d2 d3 d4;have Ov:=Hd fun s w1 (a:Below w.heap.size w w1)=>aDd (aB p i) A1 c1 A2 c2 A3 c3 A4 c4 s w1 (Gy.below a) hn;have Cq:=Hd fun s w1 (a:Below w.heap.size w w1)=>aIk p E ec (some ⟨bn,on,none⟩) nc s w1 (h.below a);have Oz:=Hd fun s w1 (a:Below w.heap.size w w1)=>aF4 (aB p i) A1 c1 A2 c2 A3 c3 A4 c4 s (aB p i).eqs.length w1 (Gy.below a) (Yh _) hq;have Ha:=Hd fun j (hj:j<(aB p i).eqs.length) w1 (a:Below w.heap.size w w1)=>bDw p E ec (some ⟨bn,on,none⟩) nc i j w1 (h.below a) hi hj hn hq (hx j hj);have Ch:=Hd fun w1 (a:Below w.heap.size w w1)=>tE (aB p i) A1 c1 A2 c2 A3 c3 A4 c4 w1 (Gy.below a) hn;have Hc:=Hd yE;have Ot:=Hd fun w1 (a:Below w.heap.size w w1)=>And.intro ((a.cell (p:=⟨bn,on+i*5,none⟩) Og).trans d0) (And.intro ((a.cell (p:=⟨bn,on+i*5+1,none⟩) Og).trans d1) (And.intro ((a.cell (p:=⟨bn,on+i*5+2,none⟩) Og).trans d2) (And.intro ((a.cell (p:=⟨bn,on+i*5+3,none⟩) Og).trans d3) ((a.cell (p:=⟨bn,on+i*5+4,none⟩) Og).trans d4))));have Om:=Hd fun w1 w2 hw (a:Below w.heap.size w w1)=>iE w1 (aB p i) A1 c1 A2 c2 A3 c3 A4 c4 w2 hw (Gy.below a);have Cc:=Hd fun h=>bAg (p:=p) (i:=i) h;have Po:=Hd fun k h hk hn he=>bAh (p:=p) (i:=i) (k:=k) h hk hn he;have Oo:=Hd fun h hn=>aW4 (p:=p) (i:=i) h hn;have Qa:=aI.max h.2;have Pz:=aI.max Gy.2.2.2;have Pj:=aI.max Gy.1;have Qf:=hq.1;have Pw:(aB p i).ins.length<=(aB p i).all.length:=by rw[pZ];omega
 have Pm:=Hd (show ∀d,kV p (aB p i) d=((d.on.toList==[]) || (gA (aB p i) d.on && dM p.es d.ct))from fun d=>rfl);clear h Gy d0 d1 d2 d3 d4 hx hq;generalize eN p i=Bu at *;generalize kV p (aB p i)=Ob at *;unfold aK at HF Cq Ha⊢;unfold bK at Ov Oz Om Ch;generalize Pu:aB p i=y at *;clear Pu;generalize eZ p i=eS at *;generalize Qj:p.ns.length=pn at *;generalize Mv:y.eqs.length=nq at *;generalize Qh:y.ins.length=n1 at *;generalize Px:y.all.length=na at *;generalize Pn:y.all=ys at *;clear Pn;go_in
 go_upto_region 1 with(fail);generalize Ag:w.alloc _=w1;obtain⟨Aa,Pi,Av,Bx⟩:=HF.o w1 Ag;generalize Br:w1.alloc _=w2;obtain⟨Ad,On,hg2⟩:=lV Br;simp only[Pi]at On;have Ce:=Hd On;have Aj:=Hd (Aa.tr Ad);have q1:=Bx w2 Ad 1;simp only[Ya,Yb,Yc]at q1;have Oy:=Hd fun W (b:Below w2.heap.size w2 W) j=>Bx W (Ad.tr b) j;obtain⟨d0,d1,d2,d3,d4⟩:=Ot.o w2 Aj.o;have Qi:(i:Int)<(pn:Int):=aA;have Qe:(0:Int)<=(i:Int):=aA;have Qb:i<=9223372036854775807:=aA;clear Ag Br Bx Aa Ad Av HF hg2 On;go_upto_region 2 with(fail);generalize Cr:w2.alloc _=w3;obtain⟨Ak,Pf,-,Aq⟩:=Om.o w2 w3 Cr Aj.o;have Ax:=Hd (Aj.o.tr Ak);have Pa:=Hd (Ce.o.below Ak);have Gj:=Hd fun W (b:Below w3.heap.size w3 W) j=>Oy.o W (Ak.tr b) j;have n0:=Aq w3 (Yg _ _) 0;have Of:=Aq w3 (Yg _ _) 1;obtain⟨-,-,n2,n3,n4,-⟩:=Sx (Aq w3 (Yg _ _));simp only[Ya,Yb,Yc]at n0 Of n2 n3 n4;have Ox:=Hd Aq;have Hv:=Hd (Ch.o w3 Ax.o);unfold uT at Hv;clear Cr Aq Ak Pf Om Ot d0 d1 d2 d3 d4 q1 Oy Ce;go_wp2_with fail;refine Hv.o.mono ?_;rintro e w4 ⟨AD,cD,rfl,Ap,Bk⟩;have Be:=Hd (Ax.o.tr Bk);have Oj:=Hd (Pa.o.below Bk);have Oh:=Hd fun W (b:Below w4.heap.size w4 W) j=>Gj.o W (Bk.tr b) j;have Nx:=Hd fun W (b:Below w4.heap.size w4 W) j=>Ox.o W (Bk.tr b) j;have Ou:=Hd Ap;have Qg:=aI.len Ap;have Qd:=aI.max Ap;clear Ap Bk n0 Of n2 n3 n4 Hv Gj Ox Pa;go_wp2_with fail;go_loopw [7] (fun c wr=>∃k:Nat,k<=na/\c=.int .i64 k/\(ys.take k).all Ob=true/\Below w4.heap.size w4 wr) (fun c _=>na-(intOf c).toNat)
 case atStart=>exact⟨0,Yq _,rfl,by simp,Yg _ _⟩
 case round=>
  obtain⟨k,hk,rfl,Bc,Ay⟩:=hrel;have Cg:=Hd Bc;have Cm:=Hd Ay;have Fb:=Hd (Be.o.tr Ay);have Db:=Hd (Oj.o.below Ay);clear Bc;by_cases Ah:k<na
  . obtain⟨b5,o5,rfl,Bv,Ca⟩:=aI.at_ (Ou.o.below Ay) aA;obtain⟨z0,z1,z2,z3,z4,z5⟩:=(Ca k Ah).six;have Gx:=Hd (qQ (f:=Ob) (l:=ys) (k:=k) Cg.o aA);have Gv:=Hd (oI (f:=Ob) (l:=ys) (k:=k) aA);have Jz:=Hd (Pm.o (ys[k]?.getD default));obtain⟨n0,n1,n2,n3,n4,-⟩:=Sx (Nx.o wr Ay);have y0:=Oh.o wr Ay 0;have y1:=Oh.o wr Ay 1;simp only[Ya,Yb,Yc]at n0 n1 n2 n3 n4 y0 y1;have Pr:(k:Int)<(na:Int):=aA;have Mr:(0:Int)<=(k:Int):=aA;clear Ca Ay;generalize Ob (ys[k]?.getD default)=ob at *;generalize (ys[k]?.getD default).on=Nz at *;generalize (ys[k]?.getD default).ct=Pc at *;generalize Pe:gA y Nz=iv at *;generalize Pd:dM p.es Pc=av at *;have Oa:=Hd fun W (b:Below wr.heap.size wr W)=>Ov.o Nz W (Fb.o.tr b);have Lp:=Hd fun W (b:Below wr.heap.size wr W)=>Cq.o Pc W (Fb.o.tr b);rw[Pe]at Oa;rw[Pd]at Lp;clear Pe Pd;have An:(Nz.toList !=[])=!(Nz.toList==[]):=rfl;go_upto_region 6 with(fail);cases ho:(Nz.toList==[])with
    |true=>
     rw[ho]at An;have HT:=Hd (Gx.o (by rw[Jz.o,ho];rfl));have Gs:=Hd fun d os=>Zt wr d os;have l0:=fun d os=>Zs n0 d os;have l1:=fun d os=>Zs n1 d os;have l2:=fun d os=>Zs n2 d os;have l3:=fun d os=>Zs n3 d os;have l4:=fun d os=>Zs n4 d os;have l5:=fun d os=>Zs y0 d os;have l6:=fun d os=>Zs y1 d os;have l7:=fun d os=>Zs z4 d os;have l8:=fun d os=>Zs z5 d os;have cA:=fun d os=>Zi (Oa.o (grow (redrawn wr d) os) (Zt wr d os));refine Xa aC aC ?_;repeat (go_big_quiet_step (first|with_reducible exact cA _ _))
     refine Xg ?_;intro _ Cr;obtain⟨⟨Gw,Dz⟩,Ct⟩:=Cr;have Bg:=Gs.o Gw Dz;rw[<-Ct]at Bg;clear l0 l1 l2 l3 l4 l5 l6 l7 l8 cA Ct;exact aMc
    |false=>
     rw[ho]at An;cases iv with
     |false=>
      have Gs:=Hd fun d os=>Zt wr d os;have l0:=fun d os=>Zs n0 d os;have l1:=fun d os=>Zs n1 d os;have l2:=fun d os=>Zs n2 d os;have l3:=fun d os=>Zs n3 d os;have l4:=fun d os=>Zs n4 d os;have l5:=fun d os=>Zs y0 d os;have l6:=fun d os=>Zs y1 d os;have l7:=fun d os=>Zs z4 d os;have l8:=fun d os=>Zs z5 d os;have cA:=fun d os=>Zi (Oa.o (grow (redrawn wr d) os) (Zt wr d os));refine Xa aC aC ?_;repeat (go_big_quiet_step (first|with_reducible exact cA _ _))
      refine Xg ?_;intro _ Cr;obtain⟨⟨Gw,Dz⟩,Ct⟩:=Cr;have Bg:=Gs.o Gw Dz;rw[<-Ct]at Bg;clear l0 l1 l2 l3 l4 l5 l6 l7 l8 cA Ct;exact aQj
     |true=>
      cases av with
      |true=>
       have HT:=Hd (Gx.o (by rw[Jz.o,ho];rfl));have Gs:=Hd fun d os=>Zt wr d os;have l0:=fun d os=>Zs n0 d os;have l1:=fun d os=>Zs n1 d os;have l2:=fun d os=>Zs n2 d os;have l3:=fun d os=>Zs n3 d os;have l4:=fun d os=>Zs n4 d os;have l5:=fun d os=>Zs y0 d os;have l6:=fun d os=>Zs y1 d os;have l7:=fun d os=>Zs z4 d os;have l8:=fun d os=>Zs z5 d os;have cA:=fun d os=>Zi (Oa.o (grow (redrawn wr d) os) (Zt wr d os));have cB:=fun d os=>Zi (Lp.o (grow (redrawn wr d) os) (Zt wr d os));refine Xa aC aC ?_;repeat (go_big_quiet_step (first|with_reducible exact cA _ _|with_reducible exact cB _ _))
       refine Xg ?_;intro _ Cr;obtain⟨⟨Gw,Dz⟩,Ct⟩:=Cr;have Bg:=Gs.o Gw Dz;rw[<-Ct]at Bg;clear l0 l1 l2 l3 l4 l5 l6 l7 l8 cA cB Ct;exact aMc
      |false=>
       have Gs:=Hd fun d os=>Zt wr d os;have l0:=fun d os=>Zs n0 d os;have l1:=fun d os=>Zs n1 d os;have l2:=fun d os=>Zs n2 d os;have l3:=fun d os=>Zs n3 d os;have l4:=fun d os=>Zs n4 d os;have l5:=fun d os=>Zs y0 d os;have l6:=fun d os=>Zs y1 d os;have l7:=fun d os=>Zs z4 d os;have l8:=fun d os=>Zs z5 d os;have cA:=fun d os=>Zi (Oa.o (grow (redrawn wr d) os) (Zt wr d os));have cB:=fun d os=>Zi (Lp.o (grow (redrawn wr d) os) (Zt wr d os));refine Xa aC aC ?_;repeat (go_big_quiet_step (first|with_reducible exact cA _ _|with_reducible exact cB _ _))
       refine Xg ?_;intro _ Cr;obtain⟨⟨Gw,Dz⟩,Ct⟩:=Cr;have Bg:=Gs.o Gw Dz;rw[<-Ct]at Bg;clear l0 l1 l2 l3 l4 l5 l6 l7 l8 cA cB Ct;exact aQj
  . have Im:k=na:=by omega
    subst Im;have Dl:=Hd (show ys.all Ob=true by
     have h1:=Cg.o;rwa[Yx aA]at h1)
    clear Ay;generalize wr=wo at *;go_wp2_with fail;go_loopw [8] (fun c wr=>∃m:Nat,m<=nq/\c=.int .i64 m/\(∀a,a<m->eS a=0)/\Below w4.heap.size w4 wr) (fun c _=>nq-(intOf c).toNat)
    case atStart=>exact⟨0,Yq _,rfl,fun a ha=>absurd ha aA,Cm.o⟩
    case round=>
     obtain⟨m,hm,rfl,Oc,Bp⟩:=hrel;have Nv:=Hd Oc;have Ny:=Hd Bp;have Oe:=Hd (Be.o.tr Bp);have Oi:=Hd (Oj.o.below Bp);have n4:=Nx.o wr Bp 4;have Of:=Nx.o wr Bp 1;have y0:=Oh.o wr Bp 0;have y1:=Oh.o wr Bp 1;simp only[Ya,Yb,Yc]at n4 Of y0 y1;clear Oc Bp;by_cases Pb:m<nq
     . have Ow:=Hd (Ha.o m Pb wr Oe.o);have Cf:=Hd fun hz=>dC (P:=fun a=>eS a=0) Nv.o hz;have Fi:=Hd fun he=>Po.o m Dl.o Pb Nv.o he;generalize eS m=em at *;go_wp2_with fail;refine Ow.o.mono ?_;rintro e w7 ⟨rfl,Dw⟩;have Fg:=Hd (Oe.o.tr Dw);have Nt:=Hd (Ny.o.tr Dw);have Ik:=Hd (Oi.o.below Dw);clear Dw n4 Of y0 y1 Ow;by_cases hz:em=0
       . have Dg:=Hd (Cf.o hz);have Ok:(em !=0)=false:=by rw[hz];rfl
         go_wp2_with fail;go_roundw;case rel=>exact⟨m+1,by omega,by go_num,Dg.o,Nt.o⟩
         case measure=>simp[intOf];omega
       . have HR:=Hd (show Bu=((i:Int),(m:Int),em)from Fi.o hz);have Ok:(em !=0)=true:=by rw[bne_iff_ne];exact hz
         go_wp2_with fail;refine(Hc.o (i) (m) (em) w7).mono ?_;rintro e wz ⟨rfl,Ej⟩;have Es:=Hd ((Ik.o).below Ej);have Hk:=Hd ((Fg.o).trans (Ej.mono (Fg.o).size));clear Ej;go_wp2_with (refine Zv rfl _ _ _ rfl (w.heap.size+1) _ rfl rfl _ _ Es.o eT rfl fI ?_);exact Zu (fC (p:=4) rfl _ _ (w.heap.size+1) (i) (m) (em) rfl (Es.o.set _ _ _)) rfl ⟨by rw[HR.o];rfl,Xc Hk.o (Nat.le_succ _) _⟩
     . have Pk:m=nq:=by omega
       subst Pk;have Od:=Hd (Oo.o Dl.o Nv.o);generalize wr=Py at *;go_wp2_with fail;go_loopw [10] (fun c wr=>∃u:Nat,n1<=u/\u<=k/\c=.int .i64 u/\(∀a,n1<=a->a<u->0<fP y (ys[a]?.getD default).nm m)/\Below w4.heap.size w4 wr) (fun c _=>k-(intOf c).toNat)
       case atStart=>exact⟨n1,Yh _,by omega,rfl,fun a h1 h2=>absurd h1 aA,Ny.o⟩
       case round=>
        obtain⟨u,Pq,hu,rfl,Jx,Bg⟩:=hrel;have Ol:=Hd Jx;have Oq:=Hd Bg;have Nu:=Hd (Be.o.tr Bg);have Nw:=Hd (Oj.o.below Bg);by_cases Ph:u<k
        . obtain⟨b5,o5,rfl,Bv,Ca⟩:=aI.at_ (Ou.o.below Bg) aA;obtain⟨z0,z1,z2,z3,z4,z5⟩:=(Ca u Ph).six;have n0:=Nx.o wr Bg 0;have m1:=Nx.o wr Bg 1;obtain⟨-,-,n2,n3,n4,-⟩:=Sx (Nx.o wr Bg);simp only [Ya,Yb,Yc] at n0 m1 n2 n3 n4;have Pr:(u:Int)<(k:Int):=aA;have Mr:(0:Int)<=(u:Int):=aA;have Ps:=Hd fun W (b:Below wr.heap.size wr W)=>Oz.o (ys[u]?.getD default).nm W (Nu.o.tr b);have Cj:=Hd fun(h0:fP y (ys[u]?.getD default).nm m=0)=>(show Bu=((i:Int),-1,5) by
           rw[Od.o,aTj (k:=u) Pq aA (by rw[h0];rfl)];rfl)
          have Ix:=Hd fun(h0:0<fP y (ys[u]?.getD default).nm m)=>(show ∀ a,n1<=a->a<u+1->0<fP y (ys[a]?.getD default).nm m from fun a h1 h2=>by
           by_cases ha:a<u;· exact Ol.o a h1 ha
           . obtain rfl:a=u:=by omega
             exact h0)
          clear Ca Bg Jx;generalize Pv:fP y (ys[u]?.getD default).nm m=du at *;clear Pv;generalize (ys[u]?.getD default).nm=Qc at *;go_upto_region 17 with(fail);have Gs:=Hd fun d os=>Zt wr d os;have l0:=fun d os=>Zs n0 d os;have l1:=fun d os=>Zs m1 d os;have l2:=fun d os=>Zs n2 d os;have l3:=fun d os=>Zs n3 d os;have l4:=fun d os=>Zs n4 d os;have l5:=fun d os=>Zs z0 d os;have cA:=fun d os=>Zi (Ps.o (grow (redrawn wr d) os) (Zt wr d os));refine Xa aC aC ?_;repeat (go_big_quiet_step (first|with_reducible exact cA _ _))
          refine Xg ?_;intro _ Cr;obtain⟨⟨Gw,Dz⟩,Ct⟩:=Cr;have Bg:=Gs.o Gw Dz;rw[<-Ct]at Bg;clear l0 l1 l2 l3 l4 l5 cA Ct;rename_i w7;have Fg:=Hd (Nu.o.tr Bg);have Nt:=Hd (Oq.o.tr Bg);have Ik:=Hd (Nw.o.below Bg);clear Bg z0 z1 z2 z3 z4 z5 n0 m1 n2 n3 n4;by_cases hz:du=0
          . have HR:=Hd (Cj.o hz);have Ok:((du:Int)==0)=true:=by rw[hz];rfl
            go_wp2_with fail;refine(Hc.o (i) (-1) (5) w7).mono ?_;rintro e wz ⟨rfl,Ej⟩;have Es:=Hd ((Ik.o).below Ej);have Hk:=Hd ((Fg.o).trans (Ej.mono (Fg.o).size));clear Ej;go_wp2_with (refine Zv rfl _ _ _ rfl (w.heap.size+1) _ rfl rfl _ _ Es.o eT rfl fI ?_);exact Zu (fC (p:=4) rfl _ _ (w.heap.size+1) (i) (-1) (5) rfl (Es.o.set _ _ _)) rfl ⟨by rw[HR.o];rfl,Xc Hk.o (Nat.le_succ _) _⟩
          . have Dg:=Hd (Ix.o aA);have Ok:((du:Int)==0)=false:=mV;go_wp2_with fail;go_roundw;case rel=>exact⟨u+1,by omega,by omega,by go_num,Dg.o,Nt.o⟩
            case measure=>simp[intOf];omega
        . have Pp:u=k:=by omega
          subst Pp;have HR:=Hd (show Bu=(0,0,0) by
           rw[Od.o,aS2 (f:=fun d:Dc=>decide (0<fP y d.nm m)) (l:=ys) (m:=n1) fun a h1 h2=>Zy (Jx a h1 aA)];rfl)
          clear Jx Bg;go_wp2_with (refine Zv rfl _ _ _ rfl (w.heap.size+1) _ rfl rfl _ _ Nw.o eT rfl fI ?_);exact Zu (fC (p:=4) rfl _ _ (w.heap.size+1) 0 0 0 rfl (Nw.o.set _ _ _)) rfl ⟨by rw[HR.o];rfl,Xc Nu.o (Nat.le_succ _) _⟩
end
end Go.Proofs.YtkbpdoomhfkngaaGreat
