/- A part of the proof. Conditions: each theorem's own. -/
import Derived.Test.YtkbpdoomhfkngaaGreatC08
import Derived.Test.YtkbpdoomhfkngaaGreatC21
namespace Go.Proofs.YtkbpdoomhfkngaaGreat
set_option linter.unusedVariables false
set_option linter.unusedSimpArgs false
set_option maxRecDepth 100000
set_option maxHeartbeats 40000000
section
open Go.RowKit Go.Sort Go.BigFrame
theorem tA(k:Int)(w:World):
 Calls Tryz.prog 120 #[.int .i64 k] w fun r w'=>r=.returned (.agg (aF k 0 0))/\Below w.heap.size w w':=by
 unfold aF;go_in
 go_wp2_with fail;exact Zu (zK rfl _ _ w.heap.size k 0 0 rfl (Zx _ _)) rfl ⟨rfl,(Yg _ _).alloc (Yh _) _⟩
theorem iO(a b c:Int)(so:Bool)(w:World):
 Calls Tryz.prog 145 #[.agg (aF a b c),.bool so] w (bF w (if so=true then some (a,b,c)else none)):=by
 cases so with
 |false=>
  unfold bF aF;go_in
  go_wp2_with fail;exact Zu (bA rfl _ _ (w.heap.size+1) 0 0 0 rfl (heap_alloc2_new _ _ _)) rfl ⟨rfl,((Yg _ _).alloc (Yh _) _).alloc aG _⟩
 |true=>
  unfold bF aF;go_in
  go_wp2_with fail;exact Zu (bA rfl _ _ (w.heap.size+1) a b c rfl (heap_alloc2_new _ _ _)) rfl ⟨rfl,((Yg _ _).alloc (Yh _) _).alloc aG _⟩
theorem aR.lit(w:World)(a b c:Int)(T:TypeId):aR (w.alloc (.cells #[.int .i64 a,.int .i64 b,.int .i64 c] T)) (some ⟨w.heap.size,0,none⟩) 1 [(a,b,c)]:=
 ⟨rfl,by omega,fun _=>⟨_,0,rfl,by simp,fun i hi=>by
  obtain rfl:i=0:=by omega
  intro j v hv;rw[Zp];show(#[Value.int .i64 a,.int .i64 b,.int .i64 c]:Array Value)[0+0*3+j]?=some v;rw[show 0+0*3+j=j by omega];simpa[nC]using hv⟩⟩
theorem mB(a b c:Int)(A:Option Addr)(n cp:Nat)(l:List T3)(w:World)(h:aR w A n l):
 Calls Tryz.prog 119 #[.agg (aF a b c),.slice A n cp] w fun e w'=>e=.returned (.bool (eP (a,b,c) l))/\Below w.heap.size w w':=by
 have hl:=h.len;have hm:=h.max;have HR:=Hd h;have Cj:=Hd fun i hi hn=>aK4 (t:=(a,b,c)) (l:=l) (i:=i) hi hn;have Jv:=Hd fun h=>bA3 (t:=(a,b,c)) (l:=l) h;clear h;generalize eP (a,b,c) l=Au at *;unfold aF;go_in
 go_upto_region 1 with(fail);generalize Ag:w.alloc _=w1;obtain⟨Aa,Bp,Nt⟩:=iB Ag;have Ac:=Hd Aa;have Nu:=Hd Bp;clear Ag Aa Bp Nt;go_wp2_with fail;go_loopw [9] (fun i wr=>∃k:Nat,k<=n/\i=.int .i64 k/\(∀j,j<k->aD l j=(a,b,c))/\Below w1.heap.size w1 wr) (fun i _=>n-(intOf i).toNat)
 case atStart=>exact⟨0,Yq _,rfl,fun j hj=>absurd hj aA,Yg _ _⟩
 case round=>
  obtain⟨k,hk,rfl,Bc,Ay⟩:=hrel;have Cg:=Hd Bc;have Cm:=Hd Ay;have HF:=Hd (Nu.o.below Ay);have Bo:=Hd (Ac.o.tr Ay);clear Bc Ay;by_cases Ah:k<n
  . obtain⟨sb,off,rfl,Az,hc⟩:=(HR.o.below Bo.o).at_ Ah;obtain⟨c0,c1,c2⟩:=hc k Ah;have HN:=Hd (Cj.o k aA);have Dx:=Hd fun(e:aD l k=(a,b,c))=>dC (P:=fun j=>aD l j=(a,b,c)) Cg.o e;clear hc;generalize aD l k=x at c0 c1 c2 HN Dx;obtain⟨x0,x1,x2⟩:=x;dsimp only at c0 c1 c2;go_upto_region 4 with(fail);generalize Aq:wr.alloc _=w4;obtain⟨Bk,Bx,Jx⟩:=iB Aq;have Be:=Hd (Cm.o.tr Bk);have f0:=(HF.o.below Bk).cell 0;have f1:=(HF.o.below Bk).cell 1;have f2:=(HF.o.below Bk).cell 2;obtain⟨e0,e1,e2,-,-,-⟩:=Sx Bx.cell;simp only[aF,List.getElem?_toArray,Yz,Zb]at f0 f1 f2 e0 e1 e2;clear Aq Bk Bx Jx c0 c1 c2;rcases jD x0 x1 x2 a b c with⟨h0,h1,h2,he⟩|⟨h1,he⟩|⟨h0,h1,he⟩|⟨h0,h1,h2,he⟩
    . have Lk:=Hd (Dx.o he);clear Dx HN;subst h0 h1 h2;go_wp2_with fail;go_roundw;case rel=>exact⟨k+1,by omega,by go_num,Lk.o,Be.o⟩
      case measure=>simp[intOf];omega
    . have HO:=Hd (HN.o he);clear HN Dx he;exact aEj
    . have HO:=Hd (HN.o he);clear HN Dx he;subst h0;exact aEj
    . have HO:=Hd (HN.o he);clear HN Dx he;subst h0 h1;exact aEj
  . exact aNv
theorem aJ3(A B:Option Addr)(n m c d:Nat)(l r:List T3)(w:World)(h:aR w A n l)(h':aR w B m r):
 Calls Tryz.prog 117 #[.slice A n c,.slice B m d] w fun e w'=>e=.returned (.bool (decide (l=r)))/\Below w.heap.size w w':=by
 have hl:=h.len;have hm:=h.max;have Bp:=h'.len;have Bx:=h'.max;have HR:=Hd h;have Aq:=Hd h';have Iw:=Hd (show n≠m->decide (l=r)=false from fun An=>Zz fun e=>An (by rw[<-hl,<-Bp,e]));have Cj:=Hd (show ∀i,i<n->¬aD l i=aD r i->decide (l=r)=false from fun i hi hn=>Zz fun e=>hn (by rw[e]))
 have Jv:=Hd (show n=m->(∀ i,i<n->aD l i=aD r i)->decide (l=r)=true from fun Df ha=>Zy (by
  apply List.ext_getElem aA;intro i h1 h2
  have:=ha i aA
  rwa[rP h1,rP h2]at this))
 clear h h';generalize decide (l=r)=Au at *;go_in
 by_cases Df:n=m
 . subst Df;have hq:((n:Int) !=(n:Int))=false:=aG;go_wp2_with fail;go_loopw [5,13] (fun _ i wr=>∃k:Nat,k<=n/\i=.int .i64 k/\(∀j,j<k->aD l j=aD r j)/\∃p,wr=w.drewN p) (fun _ i _=>n-(intOf i).toNat)
   case atStart=>exact⟨0,Yq _,rfl,fun j hj=>absurd hj aA,0,rfl⟩
   case round=>
    obtain⟨k,hk,rfl,Bc,p,rfl⟩:=hrel;have Cg:=Hd Bc;clear Bc;by_cases Ah:k<n
    . obtain⟨b,off,rfl,hb,hc⟩:=HR.o.at_ Ah;obtain⟨c0,c1,c2⟩:=hc k Ah;obtain⟨b',Kd,rfl,Ia,Kl⟩:=Aq.o.at_ Ah;obtain⟨d0,d1,d2⟩:=Kl k Ah;have HN:=Hd (Cj.o k Ah);have Dx:=Hd fun(e:aD l k=aD r k)=>dC (P:=fun j=>aD l j=aD r j) Cg.o e;clear hc Kl;generalize aD l k=x at c0 c1 c2 HN Dx;generalize aD r k=y at d0 d1 d2 HN Dx;obtain⟨x0,x1,x2⟩:=x;obtain⟨y0,y1,y2⟩:=y;dsimp only at c0 c1 c2 d0 d1 d2;rcases jD x0 x1 x2 y0 y1 y2 with⟨rfl,rfl,rfl,he⟩|⟨h1,he⟩|⟨rfl,h1,he⟩|⟨rfl,rfl,h1,he⟩
      . have Lk:=Hd (Dx.o rfl);clear Dx HN;go_wp2_with fail;go_quiet (fail);go_wp2_with fail;go_roundw;case rel=>exact⟨k+1,by omega,by go_num,fun j hj=>Lk.o j hj,_,rfl⟩
        case measure=>simp[intOf];omega
      all_goals exact aMj
    . have HY:=Hd (Jv.o gW fun j hj=>Cg.o j aA);exact aEe
 . exact aM0
def aDh(w:World)(l:List T3)(e:Ending)(w':World):Prop:=∃S c,e=.returned (.slice S l.length c)/\aR w' S l.length l/\Below w.heap.size w w'
theorem aHs(A:Option Addr)(n cp:Nat)(l:List Dc)(w:World)(h:bZ w A n l)(hn:n<=1000):
 Calls Tryz.prog 118 #[.slice A n cp] w (aDh w (l.map aS)):=by
 have Da:=aI.len h;have HR:=Hd h;have Dv:=Hd mG
 have Gh:=Hd (show ∀ k,k<n->(l.take (k+1)).map aS=(l.take k).map aS++[aS (l[k]?.getD default)] from fun k hk=>by
  rw[List.take_succ_eq_append_getElem aA,Zq,Yk aA]
  rfl)
 have HZ:=Hd (show(l.take 0).map aS=[]from rfl);have Bp:=Hd (show(l.take n).map aS=l.map aS by rw[Yx aA]);have Bx:=Hd (show(l.map aS).length=n by rw[List.length_map,Da]);obtain⟨i0,z0,Nx,Nv,Nt,Cu,Nw⟩:=kG vH;clear h Da;go_in
 go_wp2_with fail;go_loopw [3,8] (fun v i wr=>∃k:Nat,k<=n/\i=.int .i64 k/\wr.ownsRow w.heap.size 41 3 v k (gC ((l.take k).map aS))/\Below w.heap.size w wr) (fun _ i _=>n-(intOf i).toNat)
 case atStart=>exact⟨0,Yq _,rfl,by rw[HZ.o];exact World.ownsRow_nil _ _ _ _,Yg _ _⟩
 case round=>
  obtain⟨k,hk,rfl,Bq,Ay⟩:=hrel;have Aq:=Hd Bq;have Cm:=Hd Ay;clear Bq;by_cases Ah:k<n
  . obtain⟨b,off,rfl,hb,d0,d1,d2,d3,d4,d5⟩:=wB (HR.o.below Ay) Ah;have HK:=Hd (Gh.o k Ah);clear Ay;generalize l[k]?.getD default=x at d0 d1 d2 d3 d4 d5 HK;have HD:=Hd fun w1 hw=>Dv.o wr x w1 hw;unfold aU at HD;go_upto_region 5 with(fail);generalize Jx:wr.alloc _=w4;obtain⟨Bk,Nu,Bf⟩:=HD.o w4 Jx;have Be:=Hd (Cm.o.tr Bk);have Gk:=Hd (gE Aq.o Bk);obtain⟨-,e1,e2,e3,-,-⟩:=Sx (Bf w4 (Yg _ _));simp only[Ya,Yb,Yc]at e1 e2 e3;have Fm:=Be.o.size;clear Jx Bk Nu Bf d0 d1 d2 d3 d4 d5 HD;go_wp2_with (at_builtin;refine wpList_append_own_at _ rfl _ _ 93 rfl w.heap.size 41 i0 z0 3 24 Tryz.underlying93 Nx Nv Nt Cu Nw bS u3 k (gC ((l.take k).map aS)) rfl (gE Gk.o ((Yg w4.heap.size w4).alloc (Yh _) (.cells #[.int .i64 x.k,.int .i64 x.e,.int .i64 x.l] 41))) ⟨w4.heap.size,0,none⟩ 1 1 [.int .i64 x.k,.int .i64 x.e,.int .i64 x.l] rfl rfl (fun j u hu=>World.news_of_block (Zx _ _) j u hu) aQ dP aA dA ?_;intro v' w9 Bb Ar Ec Dy;have Is:=Hd Bb;have Fq:=Hd (show Below w.heap.size w w9 from(Be.o.alloc Be.o.size _).grown Ar dA (fun j hj=>(Gk.o.lt j hj).1));clear Bb Ar Ec Dy);go_roundw;case rel=>exact⟨k+1,by omega,by go_num,by rw[HK.o,yZ,zA];exact Is.o,Fq.o⟩
    case measure=>simp[intOf];omega
  . obtain rfl:k=n:=by omega
    obtain⟨S,c,rfl,Cz⟩:=aR.of_own Aq.o aA;have Ew:=Hd Cz;clear Cz Ay;go_wp2_with fail;go_ret;exact⟨S,c,(by rw[Bx.o];rfl),by rw[Bx.o,<-Bp.o];exact Ew.o,Cm.o⟩
end
end Go.Proofs.YtkbpdoomhfkngaaGreat
