/- Parts of the proof: TpE, TpF, TpU. Conditions: each theorem's own. -/
import Derived.Test.YtegjgiofmpolnaaGreatC13
import Derived.Test.YtegjgiofmpolnaaGreatC16
namespace Go.Proofs.YtegjgiofmpolnaaGreat
set_option linter.unusedVariables false
set_option linter.unusedSimpArgs false
set_option maxRecDepth 100000
set_option maxHeartbeats 40000000
section
open Go.RowKit Go.Sort
theorem aDn{α:Type}{f:α->Bool}:∀ (l:List α) (i:Nat),bE f l i=-1\/∃ k:Nat,bE f l i=((i+k:Nat):Int)/\k<l.length
 | [],i=>.inl rfl
 | a::l,i=>by
  unfold bE
  cases f a with
  | true=>exact .inr ⟨0,by simp,by simp⟩
  | false=>
   rcases aDn (f:=f) l (i+1) with h | ⟨k,h,hk⟩
   . exact .inl (by simpa using h)
   . exact .inr ⟨k+1,by simp only [Yy,if_false,h];congr 1;omega,by simpa using hk⟩
theorem tY(p:Pg) (s:ByteArray):cQ p s=-1\/∃ k:Nat,cQ p s=(k:Int)/\k<p.ns.length:=by
 rcases aDn (f:=fun n:Nd=>n.nm.data.toList==s.data.toList) p.ns 0 with h | ⟨k,h,hk⟩
 . exact .inl h
 . exact .inr ⟨k,by simpa [cQ] using h,hk⟩
theorem uY{w:World}{A:Option Addr}{n:Nat}{l:List Dc}(h:cH w A n l){i:Nat}(hi:i<n):
 ∃ b Aa,A=some ⟨b,Aa,none⟩/\b<w.heap.size/\∀ i,i<n->w.cell? ⟨b,Aa+i*6+1,none⟩=some (.int .i64 (aO (l[i]?.getD default)).1)/\w.cell? ⟨b,Aa+i*6+2,none⟩=some (.int .i64 (aO (l[i]?.getD default)).2.1) /\
  w.cell? ⟨b,Aa+i*6+3,none⟩=some (.int .i64 (aO (l[i]?.getD default)).2.2):=by
 obtain⟨b,Aa,e,hb,hc⟩:=aQ.at_ h (by omega);exact⟨b,Aa,e,hb,fun i hi=>⟨hc i hi 1 _ rfl,hc i hi 2 _ rfl,hc i hi 3 _ rfl⟩⟩
theorem nU{w0:World}{g:Nat}{cs:Array Value}{T:TypeId}(h:w0.heap[g]?=some (Obj.cells cs T)):∀ w',Below w0.heap.size w0 w'->∀ j,w'.cell? ⟨g,j,none⟩=cs[j]?:=fun w' hb j=>by
 have Aa:g<w0.heap.size:=(Yl.1 h).1;have h2:=(hb.block g Aa).trans h;unfold World.cell?;rw [show w'.heap[(⟨g,j,none⟩:Addr).block]?=_ from h2];rfl
theorem yX{w w0:World}{p:Pg}{E:Option Addr}{ec:Nat}{N:Option Addr}{nc:Nat}{x:Ex}{A:Option Addr}{ca:Nat}{B:Option Addr}{cb:Nat}{T U:TypeId}
 (h:(w.alloc (.cells (aP p E ec N nc) T)).alloc (.cells (aE x A ca B cb) U)=w0):
 Below w.heap.size w w0/\w0.heap.size=w.heap.size+2/\(∀ w',Below w0.heap.size w0 w'->∀ j,w'.cell? ⟨w.heap.size,j,none⟩=(aP p E ec N nc)[j]?)/\(∀ w',Below w0.heap.size w0 w'->∀ j,w'.cell? ⟨w.heap.size+1,j,none⟩=(aE x A ca B cb)[j]?):=by
 subst h;refine⟨((Yg _ _).alloc (Yh _) _).alloc (by simp) _,by simp,nU (T:=T) (dX _ (Zw _ _)),nU (T:=U) ?_⟩;have h0:=Zw (w.alloc (.cells (aP p E ec N nc) T)) (.cells (aE x A ca B cb) U);rwa [show(w.alloc (.cells (aP p E ec N nc) T)).heap.size=w.heap.size+1 by simp] at h0
def aFt(o:Option Nat):Value:=.tuple #[.int .i64 ((o.map (fun k=>(k:Int))).getD 0),.bool o.isSome]
theorem xI{n k:Nat}{f:Nat->Bool}(hk:k<n) (h:f k=false):(List.range n).all f=false:=by
 rw [List.all_eq_false];exact⟨k,List.mem_range.2 hk,by simp [h]⟩
theorem wV{n:Nat}{f:Nat->Bool}(h:∀ k,k<n->f k=true):(List.range n).all f=true:=by
 rw [Zf];exact fun k hk=>h k (List.mem_range.1 hk)
theorem aCg(p:Pg) (E:Option Addr) (ec:Nat) (N:Option Addr) (nc:Nat) (x:Ex) (A:Option Addr) (ca:Nat) (B:Option Addr) (cb:Nat) (S:Option Addr) (m sc:Nat) (ts:List T3) (w:World) (h:cW w p E N) (hS:aM w S m ts) (hn:x.n=0\/x.n=1):
 Calls Tryz.prog 64 #[.agg (aP p E ec N nc),.agg (aE x A ca B cb),.slice S m sc] w fun e w'=>e=.returned (aFt (fB p x ts))/\Below w.heap.size w w':=by
 have HF:=Hd fun w0 h=>yX (w:=w) (w0:=w0) (p:=p) (E:=E) (ec:=ec) (N:=N) (nc:=nc) (x:=x) (A:=A) (ca:=ca) (B:=B) (cb:=cb) (T:=25) (U:=35) h;have Ba:=Hd fun w1 (hb:Below w.heap.size w w1)=>aEl p E ec N nc x.s w1 (h.below hb);have Bk:=Hd wB;have Bo:=Hd fun w1 (hb:Below w.heap.size w w1)=>(show eW w1 N p.ns.length p.ns from(h.below hb).2);have Au:=Hd fun w1 (hb:Below w.heap.size w w1)=>hS.below hb;have Bq:=hS.len;have Cg:=hS.max;have Ce:=aQ.max h.2
 have HC:=Hd (show fB p x ts=if cQ p x.s<0 then none
  else if ¬ ((ts.length:Int)-x.n=((aA p (cQ p x.s).toNat).ins.length:Int)) then none
  else if(x.n==1 && !fD (aB ts (ts.length-1)))=true then none
  else if(List.range (aA p (cQ p x.s).toNat).ins.length).all (fun k=>decide (aO ((aA p (cQ p x.s).toNat).ins[k]?.getD default)=aB ts k))=true then some (cQ p x.s).toNat else none from rfl)
 have Bl:=Hd (tY p x.s);clear h hS;rw [Bq] at HC;unfold aP aE at HF ⊢;unfold aP at Ba;generalize fB p x ts=Ax at *;generalize cQ p x.s=f at *;generalize x.n=nn at *;rcases Bl.o with rfl | ⟨i,rfl,hi⟩
 . have HN:=Hd (show Ax=none by rw [HC.o,if_pos (by omega)]);clear HC;rw [HN.o]
   go_enter Tryz.func64,Tryz.ntmps64
   go_upto_region 1 with(fail)
   generalize An:(w.alloc _).alloc _=w0;obtain⟨Aw,Bh,hp,hx⟩:=HF.o w0 An;have Ai:=Hd Aw;have p0:=hp w0 (Yg _ _) 0;have p1:=hp w0 (Yg _ _) 1;have r2:=hx w0 (Yg _ _) 2;simp only [Ya,Yb,Yc] at p0 p1 r2;clear An Aw Bh hp hx HF
   go_wp2_with fail
   refine(Ba.o w0 Ai.o).mono ?_;rintro e w1 ⟨rfl,Af⟩;have Ab:=Hd (Ai.o.trans (Af.mono Ai.o.size));clear Af p0 p1 r2
   go_wp2_with fail
   go_ret2
   exact⟨rfl,Ab.o⟩
 rw [if_neg (by omega),Int.toNat_natCast] at HC;obtain⟨nb,no,A1,c1,A2,c2,A3,c3,A4,c4,rfl,Br,Bf,d0,d1,d2,d3,d4⟩:=iN (Bo.o w (Yg _ _)) hi;have Bd:=Hd d1;have Az:=Hd fun w1 (hb:Below w.heap.size w w1)=>(show cH w1 A1 (p.ns[i]?.getD default).ins.length (p.ns[i]?.getD default).ins from(Bf.below hb).1);have Bb:=Hd Br;unfold aA at HC;have Cd:=aQ.max Bf.1;clear d0 d1 d2 d3 d4 Bf Bo;generalize (p.ns[i]?.getD default).ins=Aa at *;generalize hK:Aa.length=K at *;have Ch:decide ((i:Int)<0)=false:=Zy (by omega);have Bt:0<=nn:=by rcases hn with h | h <;> omega
 have Cb:nn<=1:=by rcases hn with h | h <;> omega
 go_enter Tryz.func64,Tryz.ntmps64
 go_upto_region 1 with(fail)
 generalize An:(w.alloc _).alloc _=w0;obtain⟨Aw,Bh,hp,hx⟩:=HF.o w0 An;have Ai:=Hd Aw;have HP:=Hd hp;have HX:=Hd hx;have p0:=hp w0 (Yg _ _) 0;have p1:=hp w0 (Yg _ _) 1;have r2:=hx w0 (Yg _ _) 2;simp only [Ya,Yb,Yc] at p0 p1 r2;clear An Aw Bh hp hx HF
 go_wp2_with fail
 refine(Ba.o w0 Ai.o).mono ?_;rintro e w1 ⟨rfl,Af⟩;have Ab:=Hd (Ai.o.trans (Af.mono Ai.o.size));have Bp:=Hd Af;have p1:=HP.o w1 Af 1;have r1:=HX.o w1 Af 1;simp only [Ya,Yb,Yc] at p1 r1;have d1:=(Ab.o.cell (p:=⟨nb,no+i*5+1,none⟩) Bb.o).trans Bd.o;clear Af p0 r2 Ba
 go_upto_region 5 with(fail)
 by_cases Al:(m:Int)-nn=(K:Int)
 . rw [Al];clear Bt Cb;rw [if_neg (by simpa using Al)] at HC;rcases hn with Bn | hn1
   . have hq:(nn==1)=false:=by rw [Bn];rfl
     have Ac:=Hd (show m=K by omega);rw [hq,Bool.false_and,if_neg (by simp)] at HC;clear Al Bn
     have Bg:=Hd (show ∀ k,k<K->¬ aO (Aa[k]?.getD default)=aB ts k->Ax=none from fun k hk Bc=>by
      rw [HC.o,if_neg];rw [xI hk (Zy Bc)]
      simp)
     have Be:=Hd (show(∀ k,k<K->aO (Aa[k]?.getD default)=aB ts k)->Ax=some i from fun Ag=>by
      rw [HC.o,if_pos (wV fun k hk=>Zx (Ag k hk))])
     have HI:=Hd (Az.o w1 Ab.o);have HY:=Hd (Au.o w1 Ab.o);clear HC Az Au Bk Bb Bd Bl
     go_wp2_with fail
     go_loopw [10] (fun j wr=>∃ k:Nat,k<=K/\j=.int .i64 k/\(∀ q,q<k->aO (Aa[q]?.getD default)=aB ts q)/\∃ z,wr=w1.drewN z) (fun j _=>K-(intOf j).toNat)
     case atStart=>exact⟨0,Yq _,rfl,fun q hq=>absurd hq (by omega),0,rfl⟩
     case round=>
      obtain⟨k,hk,rfl,Ay,z,rfl⟩:=hrel;have As:=Hd Ay;clear Ay
      by_cases Ah:k<K
      . have Bj:k<m:=by have:=Ac.o;omega
        obtain⟨ib,io,rfl,Bv,Aq⟩:=uY HI.o Ah;obtain⟨sb,so,rfl,Bx,Ap⟩:=HY.o.at_ (i:=k) (by have:=Ac.o;omega);obtain⟨a0,a1,a2⟩:=Aq k Ah;obtain⟨b0,b1,b2⟩:=Ap k (by have:=Ac.o;omega);have Ae:=Hd fun(e:¬ aO (Aa[k]?.getD default)=aB ts k)=>Bg.o k Ah e
        have Ad:=Hd fun(e:aO (Aa[k]?.getD default)=aB ts k)=>(show ∀ q,q<k+1->aO (Aa[q]?.getD default)=aB ts q from fun q hq=>by
         rcases Nat.lt_or_ge q k with h1 | h1
         . exact As.o q h1
         . obtain rfl:q=k:=by omega
           exact e)
        clear Aq Ap;generalize Ao:aO (Aa[k]?.getD default)=tx at a0 a1 a2 Ae Ad;generalize Ar:aB ts k=ty at b0 b1 b2 Ae Ad;obtain⟨x0,x1,x2⟩:=tx;obtain⟨y0,y1,y2⟩:=ty
        dsimp only at a0 a1 a2 b0 b1 b2
        rcases iC x0 x1 x2 y0 y1 y2 with⟨rfl,rfl,rfl,he⟩|⟨h1,he⟩|⟨rfl,h1,he⟩|⟨rfl,rfl,h1,he⟩
        . have Bm:=Hd (Ad.o rfl);clear Ad Ae Ao Ar
          go_wp2_with fail
          go_quiet (fail)
          go_wp2_with fail
          go_roundw
          case rel=>exact⟨k+1,by omega,by go_num,fun q hq=>Bm.o q hq,_,rfl⟩
          case measure=>simp [intOf];omega
        all_goals
         have HO:=Hd (Ae.o he);clear Ae Ad he Ao Ar
         go_wp2_with fail
         go_quiet (fail)
         go_wp2_with fail
         go_ret2
         exact⟨by rw [HO.o];rfl,aY (aY Ab.o _) _⟩
      . have HO:=Hd (Be.o fun q hq=>As.o q (by omega))
        go_wp2_with fail
        go_ret2
        exact⟨by rw [HO.o];rfl,aY Ab.o _⟩
   . have hq:(nn==1)=true:=by rw [hn1];rfl
     rw [hq,Bool.true_and] at HC;have Ac:=Hd (show m=K+1 by omega);clear Al hn1;obtain⟨Cc,Bw,Ca,Bi,Av⟩:=(Au.o w1 Ab.o).at_ (i:=K) (by have:=Ac.o;omega);obtain⟨t0,t1,t2⟩:=Av K (by have:=Ac.o;omega);have Bz:K<m:=by have:=Ac.o;omega
     rw [show m-1=K by have:=Ac.o;omega] at HC;have Am:=Hd fun w1=>Bk.o (aB ts K).1 (aB ts K).2.1 (aB ts K).2.2 w1;rw [show(((aB ts K).1,(aB ts K).2.1,(aB ts K).2.2):T3)=aB ts K from rfl] at Am;unfold aC at Am;subst Ca;clear Av;generalize hu:aB ts K=u at t0 t1 t2 HC Am;generalize Cf:fD u=tt at HC Am
     cases tt with
     | false=>
      rw [show(!false)=true from rfl,if_pos rfl] at HC
      go_wp2_with fail
      refine(Am.o w1).mono ?_;rintro e w2 ⟨rfl,Ak⟩;have Aj:=Hd (Ab.o.trans (Ak.mono Ab.o.size));clear Ak
      go_wp2_with fail
      go_ret2
      exact⟨by rw [HC.o];rfl,Aj.o⟩
     | true=>
      rw [if_neg (by simp)] at HC
      go_wp2_with fail
      refine(Am.o w1).mono ?_;rintro e w2 ⟨rfl,Ak⟩;have Aj:=Hd (Ab.o.trans (Ak.mono Ab.o.size));have p1:=HP.o w2 (Bp.o.trans (Ak.mono Bp.o.size)) 1;simp only [Ya,Yb,Yc] at p1;have d1:=(Aj.o.cell (p:=⟨nb,no+i*5+1,none⟩) Bb.o).trans Bd.o;clear Ak t0 t1 t2 r1 Bi
      have Bg:=Hd (show ∀ k,k<K->¬ aO (Aa[k]?.getD default)=aB ts k->Ax=none from fun k hk Bc=>by
       rw [HC.o,if_neg];rw [xI hk (Zy Bc)]
       simp)
      have Be:=Hd (show(∀ k,k<K->aO (Aa[k]?.getD default)=aB ts k)->Ax=some i from fun Ag=>by
       rw [HC.o,if_pos (wV fun k hk=>Zx (Ag k hk))])
      have HI:=Hd (Az.o w2 Aj.o);have HY:=Hd (Au.o w2 Aj.o);clear HC Az Au Bk Bb Bd Bl
      go_wp2_with fail
      go_loopw [10] (fun j wr=>∃ k:Nat,k<=K/\j=.int .i64 k/\(∀ q,q<k->aO (Aa[q]?.getD default)=aB ts q)/\∃ z,wr=w2.drewN z) (fun j _=>K-(intOf j).toNat)
      case atStart=>exact⟨0,Yq _,rfl,fun q hq=>absurd hq (by omega),0,rfl⟩
      case round=>
       obtain⟨k,hk,rfl,Ay,z,rfl⟩:=hrel;have As:=Hd Ay;clear Ay
       by_cases Ah:k<K
       . have Bj:k<m:=by have:=Ac.o;omega
         obtain⟨ib,io,rfl,Bv,Aq⟩:=uY HI.o Ah;obtain⟨sb,so,Bu,Bx,Ap⟩:=HY.o.at_ (i:=k) (by have:=Ac.o;omega)
         obtain⟨rfl,rfl⟩:Cc=sb/\Bw=so:=by
          injection Bu with h;injection h with h1 h2;exact⟨h1,h2⟩
         obtain⟨a0,a1,a2⟩:=Aq k Ah;obtain⟨b0,b1,b2⟩:=Ap k (by have:=Ac.o;omega);have Ae:=Hd fun(e:¬ aO (Aa[k]?.getD default)=aB ts k)=>Bg.o k Ah e
         have Ad:=Hd fun(e:aO (Aa[k]?.getD default)=aB ts k)=>(show ∀ q,q<k+1->aO (Aa[q]?.getD default)=aB ts q from fun q hq=>by
          rcases Nat.lt_or_ge q k with h1 | h1
          . exact As.o q h1
          . obtain rfl:q=k:=by omega
            exact e)
         clear Aq Ap;generalize Ao:aO (Aa[k]?.getD default)=tx at a0 a1 a2 Ae Ad;generalize Ar:aB ts k=ty at b0 b1 b2 Ae Ad;obtain⟨x0,x1,x2⟩:=tx;obtain⟨y0,y1,y2⟩:=ty
         dsimp only at a0 a1 a2 b0 b1 b2
         rcases iC x0 x1 x2 y0 y1 y2 with⟨rfl,rfl,rfl,he⟩|⟨h1,he⟩|⟨rfl,h1,he⟩|⟨rfl,rfl,h1,he⟩
         . have Bm:=Hd (Ad.o rfl);clear Ad Ae Ao Ar
           go_wp2_with fail
           go_quiet (fail)
           go_wp2_with fail
           go_roundw
           case rel=>exact⟨k+1,by omega,by go_num,fun q hq=>Bm.o q hq,_,rfl⟩
           case measure=>simp [intOf];omega
         all_goals
          have HO:=Hd (Ae.o he);clear Ae Ad he Ao Ar
          go_wp2_with fail
          go_quiet (fail)
          go_wp2_with fail
          go_ret2
          exact⟨by rw [HO.o];rfl,aY (aY Aj.o _) _⟩
       . have HO:=Hd (Be.o fun q hq=>As.o q (by omega))
         go_wp2_with fail
         go_ret2
         exact⟨by rw [HO.o];rfl,aY Aj.o _⟩
 . have Bc:((m:Int)-nn != (K:Int))=true:=by rw [bne_iff_ne];exact Al
   rw [if_pos (by simpa using Al)] at HC
   go_wp2_with fail
   go_ret2
   exact⟨by rw [HC.o];rfl,Ab.o⟩
end
section
open Go.RowKit Go.Sort
def eV(w:World) (o:Option T3) (e:Ending) (w':World):Prop:=∃ a b c,e=.returned (.tuple #[.agg (aC a b c),.bool o.isSome])/\(∀ t,o=some t->t=(a,b,c))/\Below w.heap.size w w'
theorem lA{w w0:World}{p:Pg}{E:Option Addr}{ec:Nat}{N:Option Addr}{nc:Nat}{x:Ex}{A:Option Addr}{ca:Nat}{B:Option Addr}{cb:Nat}{T U V:TypeId}
 (h:((w.alloc (.cells (aP p E ec N nc) T)).alloc (.cells (aE x A ca B cb) U)).alloc (.cells #[.int .i64 0,.int .i64 0,.int .i64 0] V)=w0):
 Below w.heap.size w w0/\w0.heap.size=w.heap.size+3/\(∀ w',Below w0.heap.size w0 w'->∀ j,w'.cell? ⟨w.heap.size,j,none⟩=(aP p E ec N nc)[j]?)/\(∀ w',Below w0.heap.size w0 w'->∀ j,w'.cell? ⟨w.heap.size+1,j,none⟩=(aE x A ca B cb)[j]?)/\F3 V w0 (w.heap.size+1+1) 0 0 0:=by
 generalize Ab:(w.alloc (.cells (aP p E ec N nc) T)).alloc (.cells (aE x A ca B cb) U)=w1 at h;obtain⟨h1,h2,h3,h4⟩:=yX Ab;subst h;have hb:=(Yg w1.heap.size w1).alloc (Yh _) (.cells #[.int .i64 0,.int .i64 0,.int .i64 0] V);refine⟨h1.trans (hb.mono h1.size),by simp;omega,fun w' Aa j=>h3 w' (hb.trans (Aa.mono hb.size)) j,fun w' Aa j=>h4 w' (hb.trans (Aa.mono hb.size)) j,?_⟩;have h0:=F3.new V w1 0 0 0;rwa [show w1.heap.size=w.heap.size+1+1 by omega] at h0
theorem aM8(p:Pg) (E:Option Addr) (ec:Nat) (N:Option Addr) (nc:Nat) (i:Int) (x:Ex) (A:Option Addr) (ca:Nat) (B:Option Addr) (cb:Nat) (S:Option Addr) (m sc:Nat) (ts:List T3) (w:World) (hS:aM w S m ts) (hk:x.k=9) (hm:2<=m):
 Calls Tryz.prog 81 #[.agg (aP p E ec N nc),.int .i64 i,.agg (aE x A ca B cb),.slice S m sc] w (eV w (if aB ts 0=aB ts 1 then some (aB ts 0) else none)):=by
 have HF:=Hd fun w0 h=>lA (w:=w) (w0:=w0) (p:=p) (E:=E) (ec:=ec) (N:=N) (nc:=nc) (x:=x) (A:=A) (ca:=ca) (B:=B) (cb:=cb) (T:=25) (U:=35) (V:=38) h;obtain⟨sb,so,rfl,Ab,Ac⟩:=hS.at_ (i:=0) (by omega);obtain⟨a0,a1,a2⟩:=Ac 0 (by omega);obtain⟨b0,b1,b2⟩:=Ac 1 (by omega);simp only [Nat.zero_mul,Nat.add_zero,Nat.one_mul] at a0 a1 a2 b0 b1 b2;unfold aE at HF ⊢;unfold aP at HF ⊢;rw [hk] at HF ⊢;clear hS Ac hk;generalize aB ts 0=tx at *;generalize aB ts 1=ty at *;obtain⟨x0,x1,x2⟩:=tx;obtain⟨y0,y1,y2⟩:=ty
 dsimp only at a0 a1 a2 b0 b1 b2
 go_enter Tryz.func81,Tryz.ntmps81
 go_upto_region 1 with(fail)
 generalize Ae:((w.alloc _).alloc _).alloc _=w0;obtain⟨Aa,Ah,hp,hx,hR⟩:=HF.o w0 Ae;have Ai:=Hd Aa;have HR:=Hd hR;have q0:=hx w0 (Yg _ _) 0;simp only [Ya,Yb,Yc] at q0;have a0:=(Aa.cell (p:=⟨sb,so,none⟩) Ab).trans a0;have a1:=(Aa.cell (p:=⟨sb,so+1,none⟩) Ab).trans a1;have a2:=(Aa.cell (p:=⟨sb,so+2,none⟩) Ab).trans a2;have b0:=(Aa.cell (p:=⟨sb,so+3,none⟩) Ab).trans b0;have b1:=(Aa.cell (p:=⟨sb,so+3+1,none⟩) Ab).trans b1;have b2:=(Aa.cell (p:=⟨sb,so+3+2,none⟩) Ab).trans b2;obtain⟨r0,r1,r2⟩:=hR.three;have fz:∀ j,w0.frozen? ⟨w.heap.size+1+1,j,none⟩=false:=fun j=>frozen_of_row w0 _ j _ _ hR;have n1:sb≠w.heap.size+1+1:=by omega
 have n2:w.heap.size+1+1≠sb:=by omega
 have Aj:1<m:=by omega
 have Ak:0<m:=by omega
 clear Ae Aa Ah hp hx hR HF hm
 go_upto_region 2 with(fail)
 rcases iC x0 x1 x2 y0 y1 y2 with⟨rfl,rfl,rfl,he⟩|⟨h1,he⟩|⟨rfl,h1,he⟩|⟨rfl,rfl,h1,he⟩
 all_goals
  go_region
  generalize Ad:World.drew _=w4;obtain⟨hF,hB⟩:=qR HR.o Ai.o (by omega) Ad;have Ag:=Hd hF;have Af:=Hd hB;clear Ad hF hB
  go_wp2_with fail
  refine Zt (aL (p:=8) (u:=9) rfl _ _ (w.heap.size+1+1) x0 x1 x2 rfl Ag.o) rfl ⟨x0,x1,x2,?_,?_,Af.o⟩
  . rfl
  . intro t ht
    first | (exact(Option.some.inj ht).symm) | cases ht
theorem aKg(p:Pg) (E:Option Addr) (ec:Nat) (N:Option Addr) (nc:Nat) (i:Int) (x:Ex) (A:Option Addr) (ca:Nat) (B:Option Addr) (cb:Nat) (S:Option Addr) (m sc:Nat) (ts:List T3) (w:World) (hS:aM w S m ts) (hk:x.k=10) (hm:1<=m):
 Calls Tryz.prog 81 #[.agg (aP p E ec N nc),.int .i64 i,.agg (aE x A ca B cb),.slice S m sc] w (eV w (some (aB ts 0))):=by
 have HF:=Hd fun w0 h=>lA (w:=w) (w0:=w0) (p:=p) (E:=E) (ec:=ec) (N:=N) (nc:=nc) (x:=x) (A:=A) (ca:=ca) (B:=B) (cb:=cb) (T:=25) (U:=35) (V:=38) h;obtain⟨sb,so,rfl,Ab,Ad⟩:=hS.at_ (i:=0) (by omega);obtain⟨a0,a1,a2⟩:=Ad 0 (by omega);simp only [Nat.zero_mul,Nat.add_zero,Nat.one_mul] at a0 a1 a2;unfold aE at HF ⊢;unfold aP at HF ⊢;rw [hk] at HF ⊢;clear hS Ad hk;generalize aB ts 0=tx at *;obtain⟨x0,x1,x2⟩:=tx
 dsimp only at a0 a1 a2
 go_enter Tryz.func81,Tryz.ntmps81
 go_upto_region 1 with(fail)
 generalize Ac:((w.alloc _).alloc _).alloc _=w0;obtain⟨Aa,Ae,hp,hx,hR⟩:=HF.o w0 Ac;have Af:=Hd Aa;have HR:=Hd hR;have q0:=hx w0 (Yg _ _) 0;simp only [Ya,Yb,Yc] at q0;have a0:=(Aa.cell (p:=⟨sb,so,none⟩) Ab).trans a0;have a1:=(Aa.cell (p:=⟨sb,so+1,none⟩) Ab).trans a1;have a2:=(Aa.cell (p:=⟨sb,so+2,none⟩) Ab).trans a2;have Ag:0<m:=by omega
 clear Ac Aa Ae hp hx hR HF hm
 go_wp2_with (refine Zu rfl _ _ _ rfl (w.heap.size+1+1) _ rfl rfl _ _ HR.o bM rfl (by simp [Value.oneCell']) ?_)
 exact Zt (aL (p:=8) (u:=9) rfl _ _ (w.heap.size+1+1) x0 x1 x2 rfl (HR.o.set x0 x1 x2)) rfl ⟨x0,x1,x2,rfl,fun t ht=>(Option.some.inj ht).symm,Xb Af.o (by omega) _⟩
end
section
open Go.RowKit Go.Sort Go.BigFrame
theorem aEq:(Tryz.prog.info? 2).map (fun i=>(i.zero,i.size,i.bytes))=some (some (.int .i64 0),1,8):=by kernel_rfl
theorem mT{w:World}{base:Nat}{e T:TypeId}{size:Nat}{v:Value}{n:Nat}{xs:List Value}{g:Nat}{cs:Array Value}(h:w.ownsRow base e size v n xs) (hg:w.heap[g]?=some (Obj.cells cs T)) (hT:T≠e):some g≠v.ownBlock:=by
 rcases h.2 with⟨rfl,_⟩|⟨g',cap,cur,rfl,_,h2,_⟩
 . intro e;cases e
 . intro he;have he:g=g':=by simpa [Value.ownBlock] using he
   subst he;rw [hg] at h2;have h2:=Option.some.inj h2;injection h2 with _ h3;exact hT h3
theorem fK{w w':World}{base:Nat}{e:TypeId}{size n:Nat}{v:Value}{xs:List Value}(h:w.ownsRow base e size v n xs) (hb:Below w.heap.size w w'):w'.ownsRow base e size v n xs:=by
 refine⟨h.1,?_⟩;rcases h.2 with h2 | ⟨g,cap,cur,hv,hg,hh,hr⟩
 . exact .inl h2
 . exact .inr ⟨g,cap,cur,hv,hg,(hb.block g (Yl.1 hh).1).trans hh,hr⟩
theorem aBd{W:World}{g r:Nat}{x y z a b c:Value}(hn:g≠r) (h:W.cell? ⟨g,0,none⟩=some a/\W.cell? ⟨g,1,none⟩=some b/\W.cell? ⟨g,2,none⟩=some c):
 (((W.setCell ⟨r,0,none⟩ x).setCell ⟨r,1,none⟩ y).setCell ⟨r,2,none⟩ z).cell? ⟨g,0,none⟩=some a/\(((W.setCell ⟨r,0,none⟩ x).setCell ⟨r,1,none⟩ y).setCell ⟨r,2,none⟩ z).cell? ⟨g,1,none⟩=some b/\(((W.setCell ⟨r,0,none⟩ x).setCell ⟨r,1,none⟩ y).setCell ⟨r,2,none⟩ z).cell? ⟨g,2,none⟩=some c:=by
 have k:∀ j,(((W.setCell ⟨r,0,none⟩ x).setCell ⟨r,1,none⟩ y).setCell ⟨r,2,none⟩ z).cell? ⟨g,j,none⟩=W.cell? ⟨g,j,none⟩:=fun j=>Ym (a:=⟨g,j,none⟩) (by
  rw [Below.heap_setCell _ _ _ _ (by exact hn),Below.heap_setCell _ _ _ _ (by exact hn),Below.heap_setCell _ _ _ _ (by exact hn)])
 exact⟨(k 0).trans h.1,(k 1).trans h.2.1,(k 2).trans h.2.2⟩
theorem zW{w w6 w9:World}{o:Obj}{row:Option Nat}(h:Below w.heap.size w w6) (hg:((w6.alloc o).drewN 1).grownBy w9 row) (hr:∀ j,row=some j->w.heap.size<=j):Below w.heap.size w w9:=
 (aY (h.alloc h.size o) 1).grown hg (by have:=h.size;show w.heap.size<=(w6.alloc o).heap.size;rw [World.size_alloc];omega) hr
theorem aBe{w:World}{base:Nat}{e:TypeId}{size n:Nat}{v:Value}{xs:List Value}{r:Nat}(h:w.ownsRow base e size v n xs) (hn:some r≠v.ownBlock) (cs:Array Value):(w.setRow r cs).ownsRow base e size v n xs:=by
 refine⟨h.1,?_⟩;rcases h.2 with h2 | ⟨g,cap,cur,hv,hg,hh,hr⟩
 . exact .inl h2
 . refine .inr ⟨g,cap,cur,hv,hg,(setRow_other _ _ _ _ (fun e=>hn ?_)).trans hh,hr⟩;rw [hv,<- e];rfl
theorem aDo{es:List En}{l:List Ex}:∀ {k:Nat}{r:List Int × T3},gJ es l k=some r->r.1.length=k
 | 0,r,h=>by simp only [gJ] at h;injection h with h;subst h;rfl
 | k+1,r,h=>by
  simp only [gJ] at h
  cases h1:gJ es l k with
  | none=>rw [h1] at h;cases h
  | some r' =>
   rw [h1] at h;simp only at h
   cases h2:dF es (l[k]?.getD default) with
   | none=>rw [h2] at h;cases h
   | some t=>
    rw [h2] at h;simp only at h
    split at h
    . cases h
    . injection h with h;subst h
      simp [aDo h1]
theorem aCh{es:List En}{l:List Ex}:∀ {k m:Nat},k<=m->gJ es l k=none->gJ es l m=none
 | k,0,h,hn=>by
  obtain rfl:k=0:=by omega
  exact hn
 | k,m+1,h,hn=>by
  by_cases e:k=m+1
  . subst e;exact hn
  . simp only [gJ,aCh (k:=k) (m:=m) (by omega) hn]
theorem wC{es:List En}{x:Ex}(h:(bB x && dC x)=true) (hk:x.k=14):dL es x=(gJ es x.subs x.subs.length).map fun r=>(r.1,(r.2.1,r.2.2.1,(x.subs.length:Int))):=by
 unfold dL;rw [if_neg (by rw [h];decide),if_pos (by rw [hk];rfl)]
theorem cZ.of_own{w:World}{base:Nat}{v:Value}{n:Nat}{l:List Int}(h:w.ownsRow base 2 1 v n (l.map (Value.int .i64))) (hn:n<=1000):∃ A c,v=.slice A n c/\cZ w A n l/\n<=c/\c<=maxLen:=by
 have hl:l.length=n:=by simpa using h.1
 rcases h.2 with⟨rfl,rfl⟩|⟨g,cap,cur,rfl,hb,hg,hnc,hcm,hcs,ht⟩
 . exact⟨none,0,rfl,⟨hl,by omega,fun h=>absurd h (by omega)⟩,Yh _,by unfold maxLen;omega⟩
 . refine⟨_,cap,rfl,⟨hl,by omega,fun _=>⟨g,0,rfl,(Yl.1 hg).1,fun i hi=>?_⟩⟩,hnc,hcm⟩
   show w.cell? ⟨g,0+i*1,none⟩=some (.int .i64 (l[i]?.getD default))
   have h1:(cur.toList.take (n*1))[i]?=(l.map (Value.int .i64))[i]?:=by rw [ht]
   have Aa:i<l.length:=by omega
   rw [List.getElem?_take,if_pos (by omega),List.getElem?_map,Array.getElem?_toList,Yk Aa] at h1;simp only [World.cell?,hg];rw [Yk Aa,show 0+i*1=i by omega]
   simpa using h1
theorem aHa(l:Option Addr) (n c:Nat) (es:List En) (x:Ex) (A:Option Addr) (ca:Nat) (B:Option Addr) (cb:Nat) (w:World) (hE:bV w l n es) (hr:aJ w x A B) (hs:bG x<=1000000) (Df:∀ p∈bI x,cL p) (Ac:(bB x && dC x)=true) (hk:x.k=14) (m:Nat) (Cy:x.subs.length=m) (oo:Option (List Int × T3)) (Da:gJ es x.subs m=oo):
 Calls Tryz.prog 18 #[.slice l n c,.agg (aE x A ca B cb)] w (jI w (oo.map fun r=>(r.1,(r.2.1,r.2.2.1,(m:Int))))):=by
 have Bh:∀ k,k<x.subs.length->cK (aU x k)=true:=fun k Bf=>by
  simp only [Ys] at Ac;have:=Ac.2;unfold dC at this;rw [if_pos (by rw [hk];rfl)] at this;exact Zf.1 this _ (by unfold aU;rw [Yk Bf];exact Zg _)
 have Ci:x.subs.length<=60:=by
  simp only [Ys] at Ac;have h1:=Ac.1;unfold bB at h1;simp only [Ys,Bool.not_eq_true',decide_eq_false_iff_not] at h1;have h2:=kG x;have h3:=tG x.subs;omega
 have HF:=Hd fun w0 h=>qS (w:=w) (w0:=w0) (x:=x) (A:=A) (ca:=ca) (B:=B) (cb:=cb) h;have Bx:=Hd fun w1 (hb:Below w.heap.size w w1)=>tR x A ca B cb w1 (hr.below hb) hs Df;have Br:=Hd fun w1 (hb:Below w.heap.size w w1)=>tQ x A ca B cb w1 (hr.below hb);have Cp:=Hd fun k (Bf:k<x.subs.length)=>hr.sub Bf;have Bn:=Hd fun k (Bf:k<x.subs.length) A' Cm B' Ch w1 (hb:Below w.heap.size w w1) (Bq:aJ w (aU x k) A' B')=>aDm l n c es (aU x k) A' Cm B' Ch w1 (hE.below hb) (Bq.below hb) (Bh k Bf);have Fm:(x.k != 14)=false:=by rw [hk];rfl
 simp only [Ys] at Ac;rw [Ac.1] at Bx;rw [Ac.2] at Br;clear hE hr hs Df Ac Bh hk;have Cj:=Hd Da;have Ev:=Hd (show ∀ k,aU x k=x.subs[k]?.getD default from fun k=>rfl);have Fc:=Hd (fun k (hk:k<=x.subs.length) h=>aCh (es:=es) (l:=x.subs) (k:=k) (m:=x.subs.length) hk h);unfold vK at Bn;unfold aE at HF Bx Br Bn ⊢;unfold aC at Bn;have HM:=Hd Cy;rw [Cy] at *;clear Da
 go_enter Tryz.func18,Tryz.ntmps18
 go_upto_region 1 with(fail)
 generalize Cx:(w.alloc _).alloc _=w0;obtain⟨hR,hx,Ct,Eu⟩:=HF.o w0 Cx;have HR:=Hd hR;have HX:=Hd hx;have Dw:=Hd Ct;obtain⟨q0,q1,q2,q3,q4,q5⟩:=Sx (hx w0 (Yg _ _));simp only [Ya,Yb,Yc] at q0 q1 q2 q3 q4 q5;have Ef:=Hd (Bx.o w0 Ct);clear Cx hR hx Ct Eu HF Bx
 go_wp2_with fail
 refine Ef.o.mono ?_;rintro e w1 ⟨rfl,Ay⟩;have Ds:=Hd (HR.o.below Ay);have Cv:=Hd (Dw.o.trans (Ay.mono Dw.o.size));have Cs:=Hd fun w' (h:Below w1.heap.size w1 w') j=>HX.o w' (Ay.trans (h.mono Ay.size)) j;obtain⟨r0,r1,r2,r3,r4,r5⟩:=Sx (HX.o w1 Ay);simp only [Ya,Yb,Yc] at r0 r1 r2 r3 r4 r5;have Dt:=Hd (Br.o w1 Cv.o);clear Ay q0 q1 q2 q3 q4 q5 Ef Br HX
 go_wp2_with fail
 refine Dt.o.mono ?_;rintro e w2 ⟨rfl,Ba⟩;have Bz:=Hd (Ds.o.below Ba);have Al:=Hd (Cv.o.trans (Ba.mono Cv.o.size));have Ea:=Hd fun w' (h:Below w2.heap.size w2 w') j=>Cs.o w' (Ba.trans (h.mono Ba.size)) j;have s0:=Cs.o w2 Ba 0;simp only [Ya,Yb,Yc] at s0;have Ee:=World.ownsRow_lit (base:=w2.heap.size) (e:=2) (size:=1) w2 #[] 0 (Yh _) (by decide) rfl;have Eo:=Bz.o.lt;clear Ba r0 r1 r2 r3 r4 r5 Dt Ds Cs
 go_upto_region 9 with(fail)
 generalize Co:w2.alloc _=w3 at *;have Ei:Below w2.heap.size w2 w3:=by rw [<- Co];exact(Yg _ _).alloc (Yh _) _
 have Dv:w3.heap.size=w2.heap.size+1:=by rw [<- Co];simp
 generalize Cw:w3.alloc _=w4;obtain⟨Cn,Cb,Fe⟩:=jA Cw;have Bb:=fK Ee Cn;rw [Dv] at Cb;have Bg:=Ei.trans (Cn.mono (by omega));have Eb:=Hd Bb;have Dh:=Hd Cb;have Be:=Hd Bg;clear Co Cw Ei Dv Cn Cb Fe Bb Bg Ee s0;obtain⟨i0,Dz,Dn,Ek,Dl⟩:=info_parts aEq;have An:=Hd Eo
 go_wp2_with fail
 go_loopw [10,12] (fun v i wr=>∃ (k:Nat) (vs:List Int) (t:T3),k<=m/\i=.int .i64 k/\gJ es x.subs k=some (vs,t)/\wr.ownsRow w2.heap.size 2 1 v k (vs.map (Value.int .i64))/\F3 38 wr (w2.heap.size+1) t.1 t.2.1 t.2.2/\Below w2.heap.size w2 wr) (fun _ i _=>m-(intOf i).toNat)
 case atStart=>exact⟨0,[],(0,0,0),Yq _,rfl,rfl,Eb.o,Dh.o,Be.o⟩
 case round=>
  obtain⟨k,vs,t,hk,rfl,Bl,Bm,Ej,Ax⟩:=hrel;have As:=Hd Bl;have Ag:=Hd Bm;have Ak:=Hd Ej;have Bp:=Hd Ax;have Bc:=Al.o.trans (Ax.mono Al.o.size);have Fk:=Hd Bc;have q5:=Ea.o wr Ax 5;have q0:=Ea.o wr Ax 0;simp only [Ya,Yb,Yc] at q5 q0;obtain⟨t0,t1,t2⟩:=t
  dsimp only at As Ak
  clear Bl Bm Ej Eb Dh Be
  by_cases Cg:k<m
  . obtain⟨b,Fi,rfl,hb,Du⟩:=Cp.o k Cg;obtain⟨A',Cm,B',Ch,Ed,Bq⟩:=Du k Cg;obtain⟨c0,c1,c2,c3,c4,c5⟩:=eG (jH Ed hb fun p hp=>Bc.cell hp);have Dp:=Hd (Bn.o k Cg A' Cm B' Ch wr Bc Bq);have Bo:=Hd (show gJ es x.subs (k+1)=(match dF es (aU x k) with | none=>none | some u=>if 0<k/\¬ u.1=(t0,t1,t2) then none else some (vs++[u.2],u.1)) by simp only [gJ,As.o,<- Ev.o];rfl);have Az:=Hd (Fc.o (k+1) (by omega));clear Du Ed Bq Ax Bc;generalize dF es (aU x k)=o at *;generalize aU x k=y at *;generalize Dm:(o.map (·.2)).getD 0=ov at *;generalize Dx:(o.map (·.1.1)).getD 0=oa at *;generalize Dq:(o.map (·.1.2.1)).getD 0=ob at *;generalize Eg:(o.map (·.1.2.2)).getD 0=oc at *;generalize Ec:o.isSome=os at *;have HV:=Hd (show ∀ r,o=some r->r=((oa,ob,oc),ov) from fun r h=>by subst h Dm Dx Dq Eg;rfl);have HS:=Hd Ec;clear Dm Dx Dq Eg Ec
    go_wp2_with fail
    refine Dp.o.mono ?_;rintro e w5 ⟨rfl,Bv⟩;have Bi:=Hd (fK Ag.o Bv);have Cd:=Hd (Ak.o.below Bv);have Ce:=Hd (Bp.o.trans (Bv.mono Bp.o.size));clear Bv q0 q5 c0 c1 c2 c3 c4 c5 Dp Ag Ak
    go_upto_region 13 with(fail)
    generalize Di:w5.alloc _=w6;obtain⟨Bw,De,Cz⟩:=gM Di;have Ad:=Hd (fK Bi.o Bw);have Ao:=Hd (Cd.o.below Bw);have Am:=Hd (Ce.o.trans (Bw.mono Ce.o.size));have Ap:=Hd De;have Bt:=Hd (show w2.heap.size+1<w5.heap.size from Cd.o.lt);have Fj:=Hd Cz;clear Di Bw De Cz Bi Cd Ce;generalize w5.heap.size=g at *;obtain⟨f0,f1,f2,-,-,-⟩:=Sx Ap.o.cell;obtain⟨e0,e1,e2,-,-,-⟩:=Sx Ao.o.cell;simp only [aC,List.getElem?_toArray,Yz,Zb] at f0 f1 f2 e0 e1 e2
    cases os with
    | false=>
     have HO:=Hd (show o=none by have:=HS.o;cases o with | none=>rfl | some r=>cases this);have Bd:=Hd (show oo=none by rw [<- Cj.o];exact Az.o (by rw [Bo.o,HO.o]));have Bk:=Hd (show F3 38 w6 (w.heap.size+1) 0 0 0 from(Am.o.block _ An.o).trans Bz.o);have Aw:=Hd (Al.o.trans (Am.o.mono Al.o.size))
     go_upto_region 14 with(fail)
     go_wp2_with (refine Zu rfl _ _ _ rfl (w.heap.size+1) _ rfl rfl _ _ Bk.o bM rfl (by simp [Value.oneCell']) ?_)
     exact Zt (gW (p:=5) (u:=4) (v:=6) rfl _ _ (w.heap.size+1) 0 0 0 rfl (Bk.o.set _ _ _)) rfl ⟨none,0,0,0,0,0,[],by rw [Bd.o];rfl,cZ.nil_ _,Yh _,by unfold maxLen;omega,⟨fun r h=>(by rw [Bd.o] at h;cases h),fun _=>⟨rfl,rfl,rfl,rfl⟩⟩,Xb Aw.o (by omega) _⟩
    | true=>
     have HO:=Hd (show o=some ((oa,ob,oc),ov) by have:=HS.o;cases h:o with | none=>rw [h] at this;cases this | some r=>rw [HV.o r h])
     by_cases Dy:k=0
     . have Cq:=Hd (show gJ es x.subs (k+1)=some (vs++[ov],(oa,ob,oc)) by rw [Bo.o,HO.o];simp only;rw [if_neg (by omega)]);have Cc:=Hd (show w2.heap.size<=w6.heap.size from Am.o.size);have Au:=Ap.o.lt;have Er:=Ao.o.lt;have a0:=(Yj w6 (.cells #[.int .i64 ov] 2) ⟨g,0,none⟩ Au).trans f0;have a1:=(Yj w6 (.cells #[.int .i64 ov] 2) ⟨g,1,none⟩ Au).trans f1;have a2:=(Yj w6 (.cells #[.int .i64 ov] 2) ⟨g,2,none⟩ Au).trans f2;have n1:w2.heap.size+1≠g:=by have:=Bt.o;omega
       have n2:g≠w2.heap.size+1:=by have:=Bt.o;omega
       have Az:=Hd n1
       go_upto_region 15 with(fail)
       go_region_held3 (fun W=>W.cell? ⟨g,0,none⟩=some (.int .i64 oa)/\W.cell? ⟨g,1,none⟩=some (.int .i64 ob)/\W.cell? ⟨g,2,none⟩=some (.int .i64 oc)) (first | exact⟨f0,f1,f2⟩ | exact⟨a0,a1,a2⟩ | exact⟨b0,b1,b2⟩ | exact aBd (Ne.symm Az.o) ⟨b0,b1,b2⟩)
        ((first | (refine oR (by rfl) _ _ 44 (by rfl) w2.heap.size 2 i0 (.int .i64 0) 1 8 Tryz.underlying44 Dz Dn Ek Dl rfl (by decide) u10 k (vs.map (Value.int .i64)) (by rfl) (fK Ad.o (aY ((Yg w6.heap.size w6).alloc (Yh _) (.cells #[.int .i64 ov] 2)) 1)) (some ⟨w6.heap.size,0,none⟩) 1 1 [.int .i64 ov] (by rfl) rfl (fun h=>by cases h) (fun ad e j u hu=>by cases e;exact cell_one_new w6 (.int .i64 ov) 2 j u hu) (by simp [Value.oneCell']) (by unfold maxLen;omega) (by omega) (by have:=Cc.o;simp;omega) ?_;intro A9 c9 w9 Ab Aa Af;have Ai:=Hd Ab;have Av:=Hd (show F3 38 w9 g oa ob oc from(Aa.block g (by show g<(w6.alloc _).heap.size;rw [World.size_alloc];omega) (mT Ad.o Ap.o (by decide))).trans (Ap.o.below (aY ((Yg w6.heap.size w6).alloc (Yh _) (.cells #[.int .i64 ov] 2)) 1)));have Ae:=Hd (show F3 38 w9 (w2.heap.size+1) t0 t1 t2 from(Aa.block (w2.heap.size+1) (by show w2.heap.size+1<(w6.alloc _).heap.size;rw [World.size_alloc];omega) (mT Ad.o Ao.o (by decide))).trans (Ao.o.below (aY ((Yg w6.heap.size w6).alloc (Yh _) (.cells #[.int .i64 ov] 2)) 1)));have Cu:=Hd (zW Am.o Aa (fun j hj=>(Ad.o.lt j hj).1));have b0:=Av.o.cell 0;have b1:=Av.o.cell 1;have b2:=Av.o.cell 2;have d0:=Ae.o.cell 0;have d1:=Ae.o.cell 1;have d2:=Ae.o.cell 2;have fz:∀ j,w9.frozen? ⟨w2.heap.size+1,j,none⟩=false:=(fun j=>frozen_of_row w9 _ j _ _ Ae.o);simp only [aC,List.getElem?_toArray,Yz,Zb] at b0 b1 b2 d0 d1 d2;clear Ab Aa Af)))
       generalize Aj:World.setCell _ _ _=wz;rw [fX Ae.o] at Aj;have Ah:=Hd (show wz.ownsRow w2.heap.size 2 1 (.slice A9 (k+1) c9) (k+1) ((vs++[ov]).map (Value.int .i64)) by rw [<- Aj,Zp];exact aBe Ai.o (mT Ai.o Ae.o (by decide)) _);have Cf:=Hd (show F3 38 wz (w2.heap.size+1) oa ob oc by rw [<- Aj];exact Ae.o.set _ _ _);have Cl:=Hd (show Below w2.heap.size w2 wz by rw [<- Aj];exact Xb Cu.o (by omega) _);clear Aj a0 a1 a2 b0 b1 b2 d0 d1 d2 fz f0 f1 f2 e0 e1 e2
       go_wp2_with fail
       go_roundw
       case rel=>exact⟨k+1,vs++[ov],(oa,ob,oc),by omega,by go_num,Cq.o,(by first | exact Ah.o | (have h9:=Ah.o;rw [Dy] at h9 ⊢;exact h9)),Cf.o,Cl.o⟩
       case measure=>simp [intOf];omega
     . have Fh:(0:Int)<(k:Int):=by omega
       rcases iC oa ob oc t0 t1 t2 with⟨rfl,rfl,rfl,he⟩|⟨h1,he⟩|⟨rfl,h1,he⟩|⟨rfl,rfl,h1,he⟩
       . have Cq:=Hd (show gJ es x.subs (k+1)=some (vs++[ov],(oa,ob,oc)) by rw [Bo.o,HO.o];simp only;rw [if_neg (by simp)]);have Cc:=Hd (show w2.heap.size<=w6.heap.size from Am.o.size);have Au:=Ap.o.lt;have Er:=Ao.o.lt;have a0:=(Yj w6 (.cells #[.int .i64 ov] 2) ⟨g,0,none⟩ Au).trans f0;have a1:=(Yj w6 (.cells #[.int .i64 ov] 2) ⟨g,1,none⟩ Au).trans f1;have a2:=(Yj w6 (.cells #[.int .i64 ov] 2) ⟨g,2,none⟩ Au).trans f2;have n1:w2.heap.size+1≠g:=by have:=Bt.o;omega
         have n2:g≠w2.heap.size+1:=by have:=Bt.o;omega
         have Az:=Hd n1
         go_upto_region 15 with(fail)
         go_region_held3 (fun W=>W.cell? ⟨g,0,none⟩=some (.int .i64 oa)/\W.cell? ⟨g,1,none⟩=some (.int .i64 ob)/\W.cell? ⟨g,2,none⟩=some (.int .i64 oc)) (first | exact⟨f0,f1,f2⟩ | exact⟨a0,a1,a2⟩ | exact⟨b0,b1,b2⟩ | exact aBd (Ne.symm Az.o) ⟨b0,b1,b2⟩)
          ((first | (refine oR (by rfl) _ _ 44 (by rfl) w2.heap.size 2 i0 (.int .i64 0) 1 8 Tryz.underlying44 Dz Dn Ek Dl rfl (by decide) u10 k (vs.map (Value.int .i64)) (by rfl) (fK Ad.o (aY ((Yg w6.heap.size w6).alloc (Yh _) (.cells #[.int .i64 ov] 2)) 1)) (some ⟨w6.heap.size,0,none⟩) 1 1 [.int .i64 ov] (by rfl) rfl (fun h=>by cases h) (fun ad e j u hu=>by cases e;exact cell_one_new w6 (.int .i64 ov) 2 j u hu) (by simp [Value.oneCell']) (by unfold maxLen;omega) (by omega) (by have:=Cc.o;simp;omega) ?_;intro A9 c9 w9 Ab Aa Af;have Ai:=Hd Ab;have Av:=Hd (show F3 38 w9 g oa ob oc from(Aa.block g (by show g<(w6.alloc _).heap.size;rw [World.size_alloc];omega) (mT Ad.o Ap.o (by decide))).trans (Ap.o.below (aY ((Yg w6.heap.size w6).alloc (Yh _) (.cells #[.int .i64 ov] 2)) 1)));have Ae:=Hd (show F3 38 w9 (w2.heap.size+1) oa ob oc from(Aa.block (w2.heap.size+1) (by show w2.heap.size+1<(w6.alloc _).heap.size;rw [World.size_alloc];omega) (mT Ad.o Ao.o (by decide))).trans (Ao.o.below (aY ((Yg w6.heap.size w6).alloc (Yh _) (.cells #[.int .i64 ov] 2)) 1)));have Cu:=Hd (zW Am.o Aa (fun j hj=>(Ad.o.lt j hj).1));have b0:=Av.o.cell 0;have b1:=Av.o.cell 1;have b2:=Av.o.cell 2;have d0:=Ae.o.cell 0;have d1:=Ae.o.cell 1;have d2:=Ae.o.cell 2;have fz:∀ j,w9.frozen? ⟨w2.heap.size+1,j,none⟩=false:=(fun j=>frozen_of_row w9 _ j _ _ Ae.o);simp only [aC,List.getElem?_toArray,Yz,Zb] at b0 b1 b2 d0 d1 d2;clear Ab Aa Af)))
         generalize Aj:World.setCell _ _ _=wz;rw [fX Ae.o] at Aj;have Ah:=Hd (show wz.ownsRow w2.heap.size 2 1 (.slice A9 (k+1) c9) (k+1) ((vs++[ov]).map (Value.int .i64)) by rw [<- Aj,Zp];exact aBe Ai.o (mT Ai.o Ae.o (by decide)) _);have Cf:=Hd (show F3 38 wz (w2.heap.size+1) oa ob oc by rw [<- Aj];exact Ae.o.set _ _ _);have Cl:=Hd (show Below w2.heap.size w2 wz by rw [<- Aj];exact Xb Cu.o (by omega) _);clear Aj a0 a1 a2 b0 b1 b2 d0 d1 d2 fz f0 f1 f2 e0 e1 e2
         go_wp2_with fail
         go_roundw
         case rel=>exact⟨k+1,vs++[ov],(oa,ob,oc),by omega,by go_num,Cq.o,(by first | exact Ah.o | (have h9:=Ah.o;rw [Dy] at h9 ⊢;exact h9)),Cf.o,Cl.o⟩
         case measure=>simp [intOf];omega
       all_goals
        have Bd:=Hd (show oo=none by rw [<- Cj.o];exact Az.o (by rw [Bo.o,HO.o];simp only;rw [if_pos ⟨by omega,he⟩]));clear he;have Bk:=Hd (show F3 38 w6 (w.heap.size+1) 0 0 0 from(Am.o.block _ An.o).trans Bz.o);have Aw:=Hd (Al.o.trans (Am.o.mono Al.o.size))
        go_upto_region 14 with(fail)
        go_wp2_with (refine Zu rfl _ _ _ rfl (w.heap.size+1) _ rfl rfl _ _ Bk.o bM rfl (by simp [Value.oneCell']) ?_)
        exact Zt (gW (p:=5) (u:=4) (v:=6) rfl _ _ (w.heap.size+1) 0 0 0 rfl (Bk.o.set _ _ _)) rfl ⟨none,0,0,0,0,0,[],by rw [Bd.o];rfl,cZ.nil_ _,Yh _,by unfold maxLen;omega,⟨fun r h=>(by rw [Bd.o] at h;cases h),fun _=>⟨rfl,rfl,rfl,rfl⟩⟩,Xb Aw.o (by omega) _⟩
  . obtain rfl:k=m:=by omega
    obtain⟨S,c',rfl,Dr,Ez,Ew⟩:=cZ.of_own Ag.o (by omega);have Ar:=Hd Dr;obtain⟨e0,e1,e2,-,-,-⟩:=Sx Ak.o.cell;simp only [aC,List.getElem?_toArray,Yz,Zb] at e0 e1 e2;have fz:=frozen_of_row wr (w2.heap.size+1) 2 _ _ Ak.o
    have Dd:∀ b o,S=some ⟨b,o,none⟩->0<k->some (w2.heap.size+1)≠some b:=fun b o e _=>by
     have:=mT Ag.o Ak.o (by decide);rw [e] at this;exact this
    have Ey:=Hd Dd;have Fb:=Hd (fun b o (e:S=some ⟨b,o,none⟩)=>(show w2.heap.size<=b from(Ag.o.lt b (by rw [e];rfl)).1));have Ff:=Hd ((Bp.o.block _ An.o).trans Bz.o);clear Dr Dd Ax Bc q0
    go_upto_region 17 with(fail)
    generalize Aq:wr.setCell _ _=w7;rw [Xd _ _ _ _ _ _ _ Ak.o,show(aC t0 t1 t2).setIfInBounds 2 (.int .i64 (k:Int))=aC t0 t1 k from rfl] at Aq;have Dg:F3 38 w7 (w2.heap.size+1) t0 t1 k:=by rw [<- Aq];exact Ak.o.set _ _ _
    have Db:F3 38 w7 (w.heap.size+1) 0 0 0:=by rw [<- Aq];exact(setRow_other _ _ _ _ (by have:=An.o;omega)).trans Ff.o
    have Dk:Below w2.heap.size w2 w7:=by rw [<- Aq];exact Xb Bp.o (by omega) _
    have Dj:cZ w7 S k vs:=⟨Ar.o.1,Ar.o.2.1,fun h0=>by
     obtain⟨b,o,e,hb,hc⟩:=Ar.o.2.2 h0;refine⟨b,o,e,by rw [<- Aq];simpa [World.setRow] using hb,fun i hi=>?_⟩;rw [<- Aq];exact(Ym (a:=⟨b,_,none⟩) (setRow_other _ _ _ _ (fun h=>Ey.o b o e h0 (congrArg some (show b=w2.heap.size+1 from h).symm)))).trans (hc i hi)⟩
    have Es:=Hd Dg;have Ca:=Hd Db;have El:=Hd (Al.o.trans (Dk.mono Al.o.size));have Em:=Hd Dj;clear Aq Dg Db Dk Dj e0 e1 e2 fz q5;obtain⟨f0,f1,f2,-,-,-⟩:=Sx Es.o.cell;obtain⟨r0,r1,r2,-,-,-⟩:=Sx Ca.o.cell;simp only [aC,List.getElem?_toArray,Yz,Zb] at f0 f1 f2 r0 r1 r2;have fz:∀ j,w7.frozen? ⟨w.heap.size+1,j,none⟩=false:=fun j=>frozen_of_row w7 _ j _ _ Ca.o;have n1:w.heap.size+1≠w2.heap.size+1:=by have:=An.o;omega
    have n2:w2.heap.size+1≠w.heap.size+1:=by have:=An.o;omega
    generalize Fa:w2.heap.size+1=Fg at *;have Ck:=Hd (show oo=some (vs,(t0,t1,t2)) by rw [<- Cj.o];exact As.o)
    go_region
    have Bu:=Em.o;generalize Bj:World.drew _=w8;obtain⟨hF,hB⟩:=qR Ca.o El.o (by omega) Bj;rw [fX Ca.o] at Bj
    have Eh:cZ w8 S k vs:=⟨Bu.1,Bu.2.1,fun h0=>by
     obtain⟨b,o,e,hb,hc⟩:=Bu.2.2 h0;refine⟨b,o,e,by rw [<- Bj];simpa [World.setRow] using hb,fun i hi=>?_⟩;rw [<- Bj];have Cr:b≠w.heap.size+1:=by have:=Fb.o b o e;have:=An.o;omega
     exact(Ym (a:=⟨b,_,none⟩) (setRow_other _ _ _ _ Cr)).trans (hc i hi)⟩
    have Ep:=Hd hF;have Et:=Hd hB;have Fd:=Hd Eh;clear Bj hF hB Eh Bu
    go_wp2_with fail
    exact Zt (gW (p:=5) (u:=4) (v:=6) rfl _ _ (w.heap.size+1) t0 t1 k rfl Ep.o) rfl ⟨S,k,c',t0,t1,k,vs,by rw [Ck.o];rfl,Fd.o,Ez,Ew,⟨fun r h=>(by
     rw [Ck.o] at h;injection h with h;exact h.symm),fun h=>(by rw [Ck.o] at h;cases h)⟩,Et.o⟩
end
end Go.Proofs.YtegjgiofmpolnaaGreat
