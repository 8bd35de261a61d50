/- Parts of the proof: TpE, TpF, TpB, TpS, TpT. Conditions: each theorem's own. -/
import Derived.Test.YtegjgiofmpolnaaGreatO13
namespace Go.Proofs.YtegjgiofmpolnaaGreat
set_option linter.unusedVariables false
set_option linter.unusedSimpArgs false
set_option maxRecDepth 100000
set_option maxHeartbeats 40000000
section
open Go.RowKit Go.Sort
theorem findI_in{α:Type}{f:α→Bool}:∀ (l:List α) (i:Nat),findI f l i=-1∨∃ k:Nat,findI f l i=((i+k:Nat):Int)∧k<l.length
 | [],i=>.inl rfl
 | a::l,i=>by
  unfold findI
  cases f a with
  | true=>exact .inr ⟨0,by simp,by simp⟩
  | false=>
   rcases findI_in (f:=f) l (i+1) with h | ⟨k,h,hk⟩
   · exact .inl (by simpa using h)
   · exact .inr ⟨k+1,by simp only [Bool.false_eq_true,if_false,h];congr 1;omega,by simpa using hk⟩
theorem findN_in(p:Pg) (s:ByteArray):findN p s=-1∨∃ k:Nat,findN p s=(k:Int)∧k<p.ns.length:=by
 rcases findI_in (f:=fun n:Nd=>n.nm.data.toList==s.data.toList) p.ns 0 with h | ⟨k,h,hk⟩
 · exact .inl h
 · exact .inr ⟨k,by simpa [findN] using h,hk⟩
theorem rdD_ty{w:World}{A:Option Addr}{n:Nat}{l:List Dc}(h:RdD w A n l){i:Nat}(hi:i<n):
 ∃ b off,A=some ⟨b,off,none⟩∧b<w.heap.size∧∀ i,i<n→w.cell? ⟨b,off+i*6+1,none⟩=some (.int .i64 (tyD (l[i]?.getD default)).1)∧w.cell? ⟨b,off+i*6+2,none⟩=some (.int .i64 (tyD (l[i]?.getD default)).2.1) ∧
  w.cell? ⟨b,off+i*6+3,none⟩=some (.int .i64 (tyD (l[i]?.getD default)).2.2):=by
 obtain⟨b,off,e,hb,hc⟩:=RdS.at_ h (by omega);exact⟨b,off,e,hb,fun i hi=>⟨hc i hi 1 _ rfl,hc i hi 2 _ rfl,hc i hi 3 _ rfl⟩⟩
theorem row_later{w0:World}{g:Nat}{cs:Array Value}{T:TypeId}(h:w0.heap[g]?=some (Obj.cells cs T)):∀ w',Below w0.heap.size w0 w'→∀ j,w'.cell? ⟨g,j,none⟩=cs[j]?:=fun w' hb j=>by
 have hlt:g<w0.heap.size:=(Array.getElem?_eq_some_iff.1 h).1;have h2:=(hb.block g hlt).trans h;unfold World.cell?;rw [show w'.heap[(⟨g,j,none⟩:Addr).block]?=_ from h2];rfl
theorem pe_box{w w0:World}{p:Pg}{E:Option Addr}{ec:Nat}{N:Option Addr}{nc:Nat}{x:Ex}{A:Option Addr}{ca:Nat}{B:Option Addr}{cb:Nat}{T U:TypeId}
 (h:(w.alloc (.cells (pgA p E ec N nc) T)).alloc (.cells (exA x A ca B cb) U)=w0):
 Below w.heap.size w w0∧w0.heap.size=w.heap.size+2∧(∀ w',Below w0.heap.size w0 w'→∀ j,w'.cell? ⟨w.heap.size,j,none⟩=(pgA p E ec N nc)[j]?)∧(∀ w',Below w0.heap.size w0 w'→∀ j,w'.cell? ⟨w.heap.size+1,j,none⟩=(exA x A ca B cb)[j]?):=by
 subst h;refine⟨((Below.refl _ _).alloc (Nat.le_refl _) _).alloc (by simp) _,by simp,row_later (T:=T) (heap_up _ (heap_alloc_new _ _)),row_later (T:=U) ?_⟩;have h0:=heap_alloc_new (w.alloc (.cells (pgA p E ec N nc) T)) (.cells (exA x A ca B cb) U);rwa [show(w.alloc (.cells (pgA p E ec N nc) T)).heap.size=w.heap.size+1 by simp] at h0
def callV(o:Option Nat):Value:=.tuple #[.int .i64 ((o.map (fun k=>(k:Int))).getD 0),.bool o.isSome]
theorem range_no{n k:Nat}{f:Nat→Bool}(hk:k<n) (h:f k=false):(List.range n).all f=false:=by
 rw [List.all_eq_false];exact⟨k,List.mem_range.2 hk,by simp [h]⟩
theorem range_yes{n:Nat}{f:Nat→Bool}(h:∀ k,k<n→f k=true):(List.range n).all f=true:=by
 rw [List.all_eq_true];exact fun k hk=>h k (List.mem_range.1 hk)
theorem refCall16(p:Pg) (E:Option Addr) (ec:Nat) (N:Option Addr) (nc:Nat) (x:Ex) (A:Option Addr) (ca:Nat) (B:Option Addr) (cb:Nat) (S:Option Addr) (m sc:Nat) (ts:List T3) (w:World) (h:rdP w p E N) (hS:RdY w S m ts) (hn:x.n=0∨x.n=1):
 Calls Tryz.prog 64 #[.agg (pgA p E ec N nc),.agg (exA x A ca B cb),.slice S m sc] w fun e w'=>e=.returned (callV (callT p x ts))∧Below w.heap.size w w':=by
 have HF:=Hd fun w0 h=>pe_box (w:=w) (w0:=w0) (p:=p) (E:=E) (ec:=ec) (N:=N) (nc:=nc) (x:=x) (A:=A) (ca:=ca) (B:=B) (cb:=cb) (T:=25) (U:=35) h;have HFN:=Hd fun w1 (hb:Below w.heap.size w w1)=>refFind p E ec N nc x.s w1 (h.below hb);have HTR:=Hd refTruth16;have HNS:=Hd fun w1 (hb:Below w.heap.size w w1)=>(show RdNs w1 N p.ns.length p.ns from(h.below hb).2);have HSS:=Hd fun w1 (hb:Below w.heap.size w w1)=>hS.below hb;have hml:=hS.len;have hmm:=hS.max;have hnm:=RdS.max h.2
 have HC:=Hd (show callT p x ts=if findN p x.s<0 then none
  else if ¬ ((ts.length:Int)-x.n=((ndAt p (findN p x.s).toNat).ins.length:Int)) then none
  else if(x.n==1 && !truthT (atT ts (ts.length-1)))=true then none
  else if(List.range (ndAt p (findN p x.s).toNat).ins.length).all (fun k=>decide (tyD ((ndAt p (findN p x.s).toNat).ins[k]?.getD default)=atT ts k))=true then some (findN p x.s).toNat else none from rfl)
 have HFI:=Hd (findN_in p x.s);clear h hS;rw [hml] at HC;unfold pgA exA at HF ⊢;unfold pgA at HFN;generalize callT p x ts=out at *;generalize findN p x.s=f at *;generalize x.n=nn at *;rcases HFI.out with rfl | ⟨i,rfl,hi⟩
 · have HN:=Hd (show out=none by rw [HC.out,if_pos (by omega)]);clear HC;rw [HN.out]
   go_enter Tryz.func64,Tryz.ntmps64
   go_upto_region 1 with(fail)
   generalize hw0:(w.alloc _).alloc _=w0;obtain⟨hb0,hsz,hp,hx⟩:=HF.out w0 hw0;have HB0:=Hd hb0;have p0:=hp w0 (Below.refl _ _) 0;have p1:=hp w0 (Below.refl _ _) 1;have r2:=hx w0 (Below.refl _ _) 2;simp only [Ya,Yb,Yc] at p0 p1 r2;clear hw0 hb0 hsz hp hx HF
   go_wp2_with fail
   refine(HFN.out w0 HB0.out).mono ?_;rintro e w1 ⟨rfl,hb1⟩;have HB1:=Hd (HB0.out.trans (hb1.mono HB0.out.size));clear hb1 p0 p1 r2
   go_wp2_with fail
   go_ret2
   exact⟨rfl,HB1.out⟩
 rw [if_neg (by omega),Int.toNat_natCast] at HC;obtain⟨nb,no,A1,c1,A2,c2,A3,c3,A4,c4,rfl,hnb,hrd,d0,d1,d2,d3,d4⟩:=nd_at15 (HNS.out w (Below.refl _ _)) hi;have HD1:=Hd d1;have HIN:=Hd fun w1 (hb:Below w.heap.size w w1)=>(show RdD w1 A1 (p.ns[i]?.getD default).ins.length (p.ns[i]?.getD default).ins from(hrd.below hb).1);have HNB:=Hd hnb;unfold ndAt at HC;have hkm:=RdS.max hrd.1;clear d0 d1 d2 d3 d4 hrd HNS;generalize (p.ns[i]?.getD default).ins=ins at *;generalize hK:ins.length=K at *;have hd0:decide ((i:Int)<0)=false:=decide_eq_false (by omega);have hnl:0≤nn:=by rcases hn with h | h <;> omega
 have hnh:nn≤1:=by rcases hn with h | h <;> omega
 go_enter Tryz.func64,Tryz.ntmps64
 go_upto_region 1 with(fail)
 generalize hw0:(w.alloc _).alloc _=w0;obtain⟨hb0,hsz,hp,hx⟩:=HF.out w0 hw0;have HB0:=Hd hb0;have HP:=Hd hp;have HX:=Hd hx;have p0:=hp w0 (Below.refl _ _) 0;have p1:=hp w0 (Below.refl _ _) 1;have r2:=hx w0 (Below.refl _ _) 2;simp only [Ya,Yb,Yc] at p0 p1 r2;clear hw0 hb0 hsz hp hx HF
 go_wp2_with fail
 refine(HFN.out w0 HB0.out).mono ?_;rintro e w1 ⟨rfl,hb1⟩;have HB1:=Hd (HB0.out.trans (hb1.mono HB0.out.size));have HW1:=Hd hb1;have p1:=HP.out w1 hb1 1;have r1:=HX.out w1 hb1 1;simp only [Ya,Yb,Yc] at p1 r1;have d1:=(HB1.out.cell (p:=⟨nb,no+i*5+1,none⟩) HNB.out).trans HD1.out;clear hb1 p0 r2 HFN
 go_upto_region 5 with(fail)
 by_cases hmk:(m:Int)-nn=(K:Int)
 · rw [hmk];clear hnl hnh;rw [if_neg (by simpa using hmk)] at HC;rcases hn with hn0 | hn1
   · have hq:(nn==1)=false:=by rw [hn0];rfl
     have HMK:=Hd (show m=K by omega);rw [hq,Bool.false_and,if_neg (by simp)] at HC;clear hmk hn0
     have HNo:=Hd (show ∀ k,k<K→¬ tyD (ins[k]?.getD default)=atT ts k→out=none from fun k hk hne=>by
      rw [HC.out,if_neg];rw [range_no hk (decide_eq_false hne)]
      simp)
     have HYe:=Hd (show(∀ k,k<K→tyD (ins[k]?.getD default)=atT ts k)→out=some i from fun hall=>by
      rw [HC.out,if_pos (range_yes fun k hk=>decide_eq_true (hall k hk))])
     have HI:=Hd (HIN.out w1 HB1.out);have HY:=Hd (HSS.out w1 HB1.out);clear HC HIN HSS HTR HNB HD1 HFI
     go_wp2_with fail
     go_loopw [10] (fun j wr=>∃ k:Nat,k≤K∧j=.int .i64 k∧(∀ q,q<k→tyD (ins[q]?.getD default)=atT ts q)∧∃ z,wr=w1.drewN z) (fun j _=>K-(intOf j).toNat)
     case atStart=>exact⟨0,Nat.zero_le _,rfl,fun q hq=>absurd hq (by omega),0,rfl⟩
     case round=>
      obtain⟨k,hk,rfl,hto,z,rfl⟩:=hrel;have HTO:=Hd hto;clear hto
      by_cases hlt:k<K
      · have hkm2:k<m:=by have:=HMK.out;omega
        obtain⟨ib,io,rfl,hib,hic⟩:=rdD_ty HI.out hlt;obtain⟨sb,so,rfl,hsb,hsc⟩:=HY.out.at_ (i:=k) (by have:=HMK.out;omega);obtain⟨a0,a1,a2⟩:=hic k hlt;obtain⟨b0,b1,b2⟩:=hsc k (by have:=HMK.out;omega);have HNO:=Hd fun(e:¬ tyD (ins[k]?.getD default)=atT ts k)=>HNo.out k hlt e
        have HT2:=Hd fun(e:tyD (ins[k]?.getD default)=atT ts k)=>(show ∀ q,q<k+1→tyD (ins[q]?.getD default)=atT ts q from fun q hq=>by
         rcases Nat.lt_or_ge q k with h1 | h1
         · exact HTO.out q h1
         · obtain rfl:q=k:=by omega
           exact e)
        clear hic hsc;generalize hgx:tyD (ins[k]?.getD default)=tx at a0 a1 a2 HNO HT2;generalize hgy:atT ts k=ty at b0 b1 b2 HNO HT2;obtain⟨x0,x1,x2⟩:=tx;obtain⟨y0,y1,y2⟩:=ty
        dsimp only at a0 a1 a2 b0 b1 b2
        rcases t3_cases x0 x1 x2 y0 y1 y2 with⟨rfl,rfl,rfl,he⟩|⟨h1,he⟩|⟨rfl,h1,he⟩|⟨rfl,rfl,h1,he⟩
        · have HT3:=Hd (HT2.out rfl);clear HT2 HNO hgx hgy
          go_wp2_with fail
          go_quiet (fail)
          go_wp2_with fail
          go_roundw
          case rel=>exact⟨k+1,by omega,by go_num,fun q hq=>HT3.out q hq,_,rfl⟩
          case measure=>simp [intOf];omega
        all_goals
         have HO:=Hd (HNO.out he);clear HNO HT2 he hgx hgy
         go_wp2_with fail
         go_quiet (fail)
         go_wp2_with fail
         go_ret2
         exact⟨by rw [HO.out];rfl,below_drewN (below_drewN HB1.out _) _⟩
      · have HO:=Hd (HYe.out fun q hq=>HTO.out q (by omega))
        go_wp2_with fail
        go_ret2
        exact⟨by rw [HO.out];rfl,below_drewN HB1.out _⟩
   · have hq:(nn==1)=true:=by rw [hn1];rfl
     rw [hq,Bool.true_and] at HC;have HMK:=Hd (show m=K+1 by omega);clear hmk hn1;obtain⟨sb0,so0,hS0,hsb0,hsc0⟩:=(HSS.out w1 HB1.out).at_ (i:=K) (by have:=HMK.out;omega);obtain⟨t0,t1,t2⟩:=hsc0 K (by have:=HMK.out;omega);have hkm3:K<m:=by have:=HMK.out;omega
     rw [show m-1=K by have:=HMK.out;omega] at HC;have HTK:=Hd fun w1=>HTR.out (atT ts K).1 (atT ts K).2.1 (atT ts K).2.2 w1;rw [show(((atT ts K).1,(atT ts K).2.1,(atT ts K).2.2):T3)=atT ts K from rfl] at HTK;unfold f3A at HTK;subst hS0;clear hsc0;generalize hu:atT ts K=u at t0 t1 t2 HC HTK;generalize htt:truthT u=tt at HC HTK
     cases tt with
     | false=>
      rw [show(!false)=true from rfl,if_pos rfl] at HC
      go_wp2_with fail
      refine(HTK.out w1).mono ?_;rintro e w2 ⟨rfl,hb2⟩;have HB2:=Hd (HB1.out.trans (hb2.mono HB1.out.size));clear hb2
      go_wp2_with fail
      go_ret2
      exact⟨by rw [HC.out];rfl,HB2.out⟩
     | true=>
      rw [if_neg (by simp)] at HC
      go_wp2_with fail
      refine(HTK.out w1).mono ?_;rintro e w2 ⟨rfl,hb2⟩;have HB2:=Hd (HB1.out.trans (hb2.mono HB1.out.size));have p1:=HP.out w2 (HW1.out.trans (hb2.mono HW1.out.size)) 1;simp only [Ya,Yb,Yc] at p1;have d1:=(HB2.out.cell (p:=⟨nb,no+i*5+1,none⟩) HNB.out).trans HD1.out;clear hb2 t0 t1 t2 r1 hsb0
      have HNo:=Hd (show ∀ k,k<K→¬ tyD (ins[k]?.getD default)=atT ts k→out=none from fun k hk hne=>by
       rw [HC.out,if_neg];rw [range_no hk (decide_eq_false hne)]
       simp)
      have HYe:=Hd (show(∀ k,k<K→tyD (ins[k]?.getD default)=atT ts k)→out=some i from fun hall=>by
       rw [HC.out,if_pos (range_yes fun k hk=>decide_eq_true (hall k hk))])
      have HI:=Hd (HIN.out w2 HB2.out);have HY:=Hd (HSS.out w2 HB2.out);clear HC HIN HSS HTR HNB HD1 HFI
      go_wp2_with fail
      go_loopw [10] (fun j wr=>∃ k:Nat,k≤K∧j=.int .i64 k∧(∀ q,q<k→tyD (ins[q]?.getD default)=atT ts q)∧∃ z,wr=w2.drewN z) (fun j _=>K-(intOf j).toNat)
      case atStart=>exact⟨0,Nat.zero_le _,rfl,fun q hq=>absurd hq (by omega),0,rfl⟩
      case round=>
       obtain⟨k,hk,rfl,hto,z,rfl⟩:=hrel;have HTO:=Hd hto;clear hto
       by_cases hlt:k<K
       · have hkm2:k<m:=by have:=HMK.out;omega
         obtain⟨ib,io,rfl,hib,hic⟩:=rdD_ty HI.out hlt;obtain⟨sb,so,hSe,hsb,hsc⟩:=HY.out.at_ (i:=k) (by have:=HMK.out;omega)
         obtain⟨rfl,rfl⟩:sb0=sb∧so0=so:=by
          injection hSe with h;injection h with h1 h2;exact⟨h1,h2⟩
         obtain⟨a0,a1,a2⟩:=hic k hlt;obtain⟨b0,b1,b2⟩:=hsc k (by have:=HMK.out;omega);have HNO:=Hd fun(e:¬ tyD (ins[k]?.getD default)=atT ts k)=>HNo.out k hlt e
         have HT2:=Hd fun(e:tyD (ins[k]?.getD default)=atT ts k)=>(show ∀ q,q<k+1→tyD (ins[q]?.getD default)=atT ts q from fun q hq=>by
          rcases Nat.lt_or_ge q k with h1 | h1
          · exact HTO.out q h1
          · obtain rfl:q=k:=by omega
            exact e)
         clear hic hsc;generalize hgx:tyD (ins[k]?.getD default)=tx at a0 a1 a2 HNO HT2;generalize hgy:atT ts k=ty at b0 b1 b2 HNO HT2;obtain⟨x0,x1,x2⟩:=tx;obtain⟨y0,y1,y2⟩:=ty
         dsimp only at a0 a1 a2 b0 b1 b2
         rcases t3_cases x0 x1 x2 y0 y1 y2 with⟨rfl,rfl,rfl,he⟩|⟨h1,he⟩|⟨rfl,h1,he⟩|⟨rfl,rfl,h1,he⟩
         · have HT3:=Hd (HT2.out rfl);clear HT2 HNO hgx hgy
           go_wp2_with fail
           go_quiet (fail)
           go_wp2_with fail
           go_roundw
           case rel=>exact⟨k+1,by omega,by go_num,fun q hq=>HT3.out q hq,_,rfl⟩
           case measure=>simp [intOf];omega
         all_goals
          have HO:=Hd (HNO.out he);clear HNO HT2 he hgx hgy
          go_wp2_with fail
          go_quiet (fail)
          go_wp2_with fail
          go_ret2
          exact⟨by rw [HO.out];rfl,below_drewN (below_drewN HB2.out _) _⟩
       · have HO:=Hd (HYe.out fun q hq=>HTO.out q (by omega))
         go_wp2_with fail
         go_ret2
         exact⟨by rw [HO.out];rfl,below_drewN HB2.out _⟩
 · have hne:((m:Int)-nn != (K:Int))=true:=by rw [bne_iff_ne];exact hmk
   rw [if_pos (by simpa using hmk)] at HC
   go_wp2_with fail
   go_ret2
   exact⟨by rw [HC.out];rfl,HB1.out⟩
end
section
open Go.RowKit Go.Sort
def TyAns(w:World) (o:Option T3) (e:Ending) (w':World):Prop:=∃ a b c,e=.returned (.tuple #[.agg (f3A a b c),.bool o.isSome])∧(∀ t,o=some t→t=(a,b,c))∧Below w.heap.size w w'
theorem pe_box3{w w0:World}{p:Pg}{E:Option Addr}{ec:Nat}{N:Option Addr}{nc:Nat}{x:Ex}{A:Option Addr}{ca:Nat}{B:Option Addr}{cb:Nat}{T U V:TypeId}
 (h:((w.alloc (.cells (pgA p E ec N nc) T)).alloc (.cells (exA x A ca B cb) U)).alloc (.cells #[.int .i64 0,.int .i64 0,.int .i64 0] V)=w0):
 Below w.heap.size w w0∧w0.heap.size=w.heap.size+3∧(∀ w',Below w0.heap.size w0 w'→∀ j,w'.cell? ⟨w.heap.size,j,none⟩=(pgA p E ec N nc)[j]?)∧(∀ w',Below w0.heap.size w0 w'→∀ j,w'.cell? ⟨w.heap.size+1,j,none⟩=(exA x A ca B cb)[j]?)∧F3 V w0 (w.heap.size+1+1) 0 0 0:=by
 generalize hw1:(w.alloc (.cells (pgA p E ec N nc) T)).alloc (.cells (exA x A ca B cb) U)=w1 at h;obtain⟨h1,h2,h3,h4⟩:=pe_box hw1;subst h;have hb:=(Below.refl w1.heap.size w1).alloc (Nat.le_refl _) (.cells #[.int .i64 0,.int .i64 0,.int .i64 0] V);refine⟨h1.trans (hb.mono h1.size),by simp;omega,fun w' hb' j=>h3 w' (hb.trans (hb'.mono hb.size)) j,fun w' hb' j=>h4 w' (hb.trans (hb'.mono hb.size)) j,?_⟩;have h0:=F3.new V w1 0 0 0;rwa [show w1.heap.size=w.heap.size+1+1 by omega] at h0
theorem RdY.three{w:World}{b off n c:Nat}{l:List T3}(h:RdY w (some ⟨b,off,none⟩) n l){i:Nat}(hi:i<n):w.cell? ⟨b,off+i*3,none⟩=some (.int .i64 (atT l i).1)∧w.cell? ⟨b,off+i*3+1,none⟩=some (.int .i64 (atT l i).2.1)∧w.cell? ⟨b,off+i*3+2,none⟩=some (.int .i64 (atT l i).2.2):=by
 obtain⟨b',off',e,_,hc⟩:=h.at_ hi;injection e with e;injection e with e1 e2;subst e1 e2;exact hc i hi
theorem refFlow9(p:Pg) (E:Option Addr) (ec:Nat) (N:Option Addr) (nc:Nat) (i:Int) (x:Ex) (A:Option Addr) (ca:Nat) (B:Option Addr) (cb:Nat) (S:Option Addr) (m sc:Nat) (ts:List T3) (w:World) (hS:RdY w S m ts) (hk:x.k=9) (hm:2≤m):
 Calls Tryz.prog 81 #[.agg (pgA p E ec N nc),.int .i64 i,.agg (exA x A ca B cb),.slice S m sc] w (TyAns w (if atT ts 0=atT ts 1 then some (atT ts 0) else none)):=by
 have HF:=Hd fun w0 h=>pe_box3 (w:=w) (w0:=w0) (p:=p) (E:=E) (ec:=ec) (N:=N) (nc:=nc) (x:=x) (A:=A) (ca:=ca) (B:=B) (cb:=cb) (T:=25) (U:=35) (V:=38) h;obtain⟨sb,so,rfl,hsb,hsc⟩:=hS.at_ (i:=0) (by omega);obtain⟨a0,a1,a2⟩:=hsc 0 (by omega);obtain⟨b0,b1,b2⟩:=hsc 1 (by omega);simp only [Nat.zero_mul,Nat.add_zero,Nat.one_mul] at a0 a1 a2 b0 b1 b2;unfold exA at HF ⊢;unfold pgA at HF ⊢;rw [hk] at HF ⊢;clear hS hsc hk;generalize atT ts 0=tx at *;generalize atT ts 1=ty at *;obtain⟨x0,x1,x2⟩:=tx;obtain⟨y0,y1,y2⟩:=ty
 dsimp only at a0 a1 a2 b0 b1 b2
 go_enter Tryz.func81,Tryz.ntmps81
 go_upto_region 1 with(fail)
 generalize hw0:((w.alloc _).alloc _).alloc _=w0;obtain⟨hb0,hsz,hp,hx,hR⟩:=HF.out w0 hw0;have HB0:=Hd hb0;have HR:=Hd hR;have q0:=hx w0 (Below.refl _ _) 0;simp only [Ya,Yb,Yc] at q0;have a0:=(hb0.cell (p:=⟨sb,so,none⟩) hsb).trans a0;have a1:=(hb0.cell (p:=⟨sb,so+1,none⟩) hsb).trans a1;have a2:=(hb0.cell (p:=⟨sb,so+2,none⟩) hsb).trans a2;have b0:=(hb0.cell (p:=⟨sb,so+3,none⟩) hsb).trans b0;have b1:=(hb0.cell (p:=⟨sb,so+3+1,none⟩) hsb).trans b1;have b2:=(hb0.cell (p:=⟨sb,so+3+2,none⟩) hsb).trans b2;obtain⟨r0,r1,r2⟩:=hR.three;have fz:∀ j,w0.frozen? ⟨w.heap.size+1+1,j,none⟩=false:=fun j=>frozen_of_row w0 _ j _ _ hR;have n1:sb≠w.heap.size+1+1:=by omega
 have n2:w.heap.size+1+1≠sb:=by omega
 have h1m:1<m:=by omega
 have h0m:0<m:=by omega
 clear hw0 hb0 hsz hp hx hR HF hm
 go_upto_region 2 with(fail)
 rcases t3_cases x0 x1 x2 y0 y1 y2 with⟨rfl,rfl,rfl,he⟩|⟨h1,he⟩|⟨rfl,h1,he⟩|⟨rfl,rfl,h1,he⟩
 all_goals
  go_region
  generalize hw4:World.drew _=w4;obtain⟨hF,hB⟩:=f3_out HR.out HB0.out (by omega) hw4;have HF4:=Hd hF;have HB4:=Hd hB;clear hw4 hF hB
  go_wp2_with fail
  refine bodyPost_ret (res_ty2 (p:=8) (u:=9) rfl _ _ (w.heap.size+1+1) x0 x1 x2 rfl HF4.out) rfl ⟨x0,x1,x2,?_,?_,HB4.out⟩
  · rfl
  · intro t ht
    first | (exact(Option.some.inj ht).symm) | cases ht
theorem refFlow10(p:Pg) (E:Option Addr) (ec:Nat) (N:Option Addr) (nc:Nat) (i:Int) (x:Ex) (A:Option Addr) (ca:Nat) (B:Option Addr) (cb:Nat) (S:Option Addr) (m sc:Nat) (ts:List T3) (w:World) (hS:RdY w S m ts) (hk:x.k=10) (hm:1≤m):
 Calls Tryz.prog 81 #[.agg (pgA p E ec N nc),.int .i64 i,.agg (exA x A ca B cb),.slice S m sc] w (TyAns w (some (atT ts 0))):=by
 have HF:=Hd fun w0 h=>pe_box3 (w:=w) (w0:=w0) (p:=p) (E:=E) (ec:=ec) (N:=N) (nc:=nc) (x:=x) (A:=A) (ca:=ca) (B:=B) (cb:=cb) (T:=25) (U:=35) (V:=38) h;obtain⟨sb,so,rfl,hsb,hsc⟩:=hS.at_ (i:=0) (by omega);obtain⟨a0,a1,a2⟩:=hsc 0 (by omega);simp only [Nat.zero_mul,Nat.add_zero,Nat.one_mul] at a0 a1 a2;unfold exA at HF ⊢;unfold pgA at HF ⊢;rw [hk] at HF ⊢;clear hS hsc hk;generalize atT ts 0=tx at *;obtain⟨x0,x1,x2⟩:=tx
 dsimp only at a0 a1 a2
 go_enter Tryz.func81,Tryz.ntmps81
 go_upto_region 1 with(fail)
 generalize hw0:((w.alloc _).alloc _).alloc _=w0;obtain⟨hb0,hsz,hp,hx,hR⟩:=HF.out w0 hw0;have HB0:=Hd hb0;have HR:=Hd hR;have q0:=hx w0 (Below.refl _ _) 0;simp only [Ya,Yb,Yc] at q0;have a0:=(hb0.cell (p:=⟨sb,so,none⟩) hsb).trans a0;have a1:=(hb0.cell (p:=⟨sb,so+1,none⟩) hsb).trans a1;have a2:=(hb0.cell (p:=⟨sb,so+2,none⟩) hsb).trans a2;have h0m:0<m:=by omega
 clear hw0 hb0 hsz hp hx hR HF hm
 go_wp2_with (refine wpList_store_row rfl _ _ _ rfl (w.heap.size+1+1) _ rfl rfl _ _ HR.out ty3_info rfl (by simp [Value.oneCell']) ?_)
 exact bodyPost_ret (res_ty2 (p:=8) (u:=9) rfl _ _ (w.heap.size+1+1) x0 x1 x2 rfl (HR.out.set x0 x1 x2)) rfl ⟨x0,x1,x2,rfl,fun t ht=>(Option.some.inj ht).symm,below_setRow HB0.out (by omega) _⟩
end
section
open Go.RowKit Go.Sort
theorem results_tmp_cell_tmp{fn:Func}{p u v:Tmp}{ty:TypeId}(h:fn.results=#[.tmp u,.cell p ty,.tmp v]) (tmps:Array Value) (P:Program) (w:World):
 (results fn tmps).run P w =
  ((asAddr (tmps.getD p undef)).run P w).andThen fun a w₁=>((loadVar ty a).run P w₁).andThen fun x w₂=>.ok (.tuple #[tmps.getD u undef,x,tmps.getD v undef]) w₂:=by
 simp only [results,h]
 simp [Sem.run_bind,Result.andThen]
theorem res_xty{fn:Func}{p u v:Tmp}(h:fn.results=#[.tmp u,.cell p 38,.tmp v]) (tmps:Array Value) (w:World) (g:Nat) (a b c:Int)
 (hp:tmps.getD p undef=.pointer (some ⟨g,0,none⟩)) (hg:F3 38 w g a b c):(results fn tmps).run Tryz.prog w=.ok (.tuple #[tmps.getD u undef,.agg (f3A a b c),tmps.getD v undef]) w:=by
 rw [results_tmp_cell_tmp h,hp];have hl:=run_loadVar_row (P:=Tryz.prog) w g 38 38 _ _ _ hg Tryz.underlying38 rfl ty3_info
 simp [asAddr,Result.andThen,hl]
def litV(o:Option (T3 × Int)):Value:=.tuple #[.int .i64 ((o.map (·.2)).getD 0),.agg (f3A ((o.map (·.1.1)).getD 0) ((o.map (·.1.2.1)).getD 0) ((o.map (·.1.2.2)).getD 0)),.bool o.isSome]
theorem box_res{w w0:World}{x:Ex}{A:Option Addr}{ca:Nat}{B:Option Addr}{cb:Nat}{T U:TypeId}(h:(w.alloc (.cells (exA x A ca B cb) T)).alloc (.cells #[.int .i64 0,.int .i64 0,.int .i64 0] U)=w0):
 F3 U w0 (w.heap.size+1) 0 0 0∧(∀ w',Below w0.heap.size w0 w'→∀ j,w'.cell? ⟨w.heap.size,j,none⟩=(exA x A ca B cb)[j]?)∧Below w.heap.size w w0∧w0.heap.size=w.heap.size+2:=by
 subst h;have h0:=F3.new U (w.alloc (.cells (exA x A ca B cb) T)) 0 0 0;have e1:(w.alloc (.cells (exA x A ca B cb) T)).heap.size=w.heap.size+1:=by simp
 rw [e1] at h0;refine⟨h0,fun w' hb j=>?_,((Below.refl _ _).alloc (Nat.le_refl _) _).alloc (by simp) _,by simp⟩;have hr:((w.alloc (.cells (exA x A ca B cb) T)).alloc (.cells #[.int .i64 0,.int .i64 0,.int .i64 0] U)).heap[w.heap.size]?=some (.cells (exA x A ca B cb) T):=heap_up _ (heap_alloc_new _ _);have h2:=(hb.block w.heap.size (by simp;omega)).trans hr;unfold World.cell?;rw [show w'.heap[(⟨w.heap.size,j,none⟩:Addr).block]?=_ from h2];rfl
theorem refLit16(l:Option Addr) (n c:Nat) (es:List En) (x:Ex) (A:Option Addr) (ca:Nat) (B:Option Addr) (cb:Nat) (w:World) (hE:RdE w l n es) (hr:rdX w x A B) (hx:literalX x=true):
 Calls Tryz.prog 49 #[.slice l n c,.agg (exA x A ca B cb)] w fun e w'=>e=.returned (litV (litT es x))∧Below w.heap.size w w':=by
 have HF:=Hd fun w0 h=>box_res (w:=w) (w0:=w0) (x:=x) (A:=A) (ca:=ca) (B:=B) (cb:=cb) (T:=35) (U:=38) h;have HAR:=Hd fun w1 (hb:Below w.heap.size w w1)=>refArm15 l n c es x.s w1 (hE.below hb);have HS:=Hd (show litT es x=if(x.k==1)=true then some ((1,0,0),x.n) else if(x.k==2)=true then some ((2,0,0),x.n) else if(x.k==5)=true then some ((1,0,0),wrap64 (-(subX x 0).n)) else(armR es x.s).map fun r=>((r.1,r.2.1,0),r.2.2) from rfl)
 have HSB:=Hd fun w1 (hb:Below w.heap.size w w1) (h5:x.k=5)=>(show ∃ b off,B=some ⟨b,off,none⟩∧x.subs.length=1∧w1.cell? ⟨b,off+1,none⟩=some (.int .i64 (subX x 0).n) from by
  have h1:x.subs.length=1:=by
   unfold literalX at hx;rw [h5] at hx
   simp at hx
   exact hx.1.2
  obtain⟨b,off,e,hb',hat⟩:=(hr.below hb).sub (i:=0) (by omega);obtain⟨A',c',B',d',hrg,_⟩:=hat 0 (by omega);obtain⟨c0,c1,-⟩:=rangeAt_six hrg;exact⟨b,off,e,h1,by simpa using c1⟩)
 clear hE hr hx;unfold exA at HF ⊢;generalize litT es x=out at *;generalize armR es x.s=ar at *;generalize hk:x.k=k at *
 by_cases h1:k=1
 · subst h1;have HN:=Hd (show out=some ((1,0,0),x.n) from HS.out);rw [HN.out]
   go_enter Tryz.func49,Tryz.ntmps49
   go_upto_region 1 with(fail)
   generalize hw0:(w.alloc _).alloc _=w0;obtain⟨hR,hcell,hb0,hsz⟩:=HF.out w0 hw0;have HR:=Hd hR;have HB0:=Hd hb0;have q0:=hcell w0 (Below.refl _ _) 0;have q1:=hcell w0 (Below.refl _ _) 1;simp only [Ya,Yb,Yc] at q0 q1;clear hw0 hR hcell hb0 hsz HF HSB HAR HS
   go_wp2_with (refine wpList_store_row rfl _ _ _ rfl (w.heap.size+1) _ rfl rfl _ _ HR.out ty3_info rfl (by simp [Value.oneCell']) ?_)
   exact bodyPost_ret (res_xty (p:=5) (u:=4) (v:=6) rfl _ _ (w.heap.size+1) 1 0 0 rfl (HR.out.set 1 0 0)) rfl ⟨rfl,below_setRow HB0.out (by omega) _⟩
 by_cases h2:k=2
 · subst h2;have HN:=Hd (show out=some ((2,0,0),x.n) from HS.out);rw [HN.out]
   go_enter Tryz.func49,Tryz.ntmps49
   go_upto_region 1 with(fail)
   generalize hw0:(w.alloc _).alloc _=w0;obtain⟨hR,hcell,hb0,hsz⟩:=HF.out w0 hw0;have HR:=Hd hR;have HB0:=Hd hb0;have q0:=hcell w0 (Below.refl _ _) 0;have q1:=hcell w0 (Below.refl _ _) 1;simp only [Ya,Yb,Yc] at q0 q1;clear hw0 hR hcell hb0 hsz HF HSB HAR HS
   go_wp2_with (refine wpList_store_row rfl _ _ _ rfl (w.heap.size+1) _ rfl rfl _ _ HR.out ty3_info rfl (by simp [Value.oneCell']) ?_)
   exact bodyPost_ret (res_xty (p:=5) (u:=4) (v:=6) rfl _ _ (w.heap.size+1) 2 0 0 rfl (HR.out.set 2 0 0)) rfl ⟨rfl,below_setRow HB0.out (by omega) _⟩
 have e1:(k==1)=false:=by simpa using h1
 have e2:(k==2)=false:=by simpa using h2
 by_cases h5:k=5
 · subst h5;obtain⟨b,off,rfl,hl,hc⟩:=HSB.out w (Below.refl _ _) rfl;have HSC:=Hd hc;generalize (subX x 0).n=z at *;have HN:=Hd (show out=some ((1,0,0),wrap64 (-z)) from HS.out);rw [HN.out];rw [hl] at HF ⊢;have hbl:=World.block_lt_of_cell? _ _ hc
   go_enter Tryz.func49,Tryz.ntmps49
   go_upto_region 1 with(fail)
   generalize hw0:(w.alloc _).alloc _=w0;obtain⟨hR,hcell,hb0,hsz⟩:=HF.out w0 hw0;have HR:=Hd hR;have HB0:=Hd hb0;have q0:=hcell w0 (Below.refl _ _) 0;have q5:=hcell w0 (Below.refl _ _) 5;simp only [Ya,Yb,Yc] at q0 q5;have c1:=(hb0.cell (p:=⟨b,off+1,none⟩) hbl).trans HSC.out;clear hw0 hR hcell hb0 hsz HF HSB HAR HS hc hbl h1 h2 e1 e2
   go_wp2_with (refine wpList_store_row rfl _ _ _ rfl (w.heap.size+1) _ rfl rfl _ _ HR.out ty3_info rfl (by simp [Value.oneCell']) ?_)
   exact bodyPost_ret (res_xty (p:=5) (u:=4) (v:=6) rfl _ _ (w.heap.size+1) 1 0 0 rfl (HR.out.set 1 0 0)) rfl ⟨rfl,below_setRow HB0.out (by omega) _⟩
 have e5:(k==5)=false:=by simpa using h5
 have HV:=Hd (show litV out=.tuple #[.int .i64 ((ar.map (·.2.2)).getD 0),.agg (f3A ((ar.map (·.1)).getD 0) ((ar.map (·.2.1)).getD 0) 0),.bool ar.isSome] from by
  rw [HS.out,e1,e2,e5]
  cases ar <;> rfl)
 unfold armW at HAR;rw [HV.out];clear HV HS h1 h2 h5 HSB;generalize (ar.map (·.2.2)).getD 0=z at *;generalize (ar.map (·.1)).getD 0=a at *;generalize (ar.map (·.2.1)).getD 0=b at *;generalize ar.isSome=t at *;clear out ar
 go_enter Tryz.func49,Tryz.ntmps49
 go_upto_region 1 with(fail)
 generalize hw0:(w.alloc _).alloc _=w0;obtain⟨hR,hcell,hb0,hsz⟩:=HF.out w0 hw0;have HR:=Hd hR;have HB0:=Hd hb0;have q0:=hcell w0 (Below.refl _ _) 0;have q2:=hcell w0 (Below.refl _ _) 2;simp only [Ya,Yb,Yc] at q0 q2;clear hw0 hR hcell hb0 HF;have hlt:w.heap.size+1<w0.heap.size:=by omega
 clear hsz
 go_wp2_with fail
 refine(HAR.out w0 HB0.out).mono ?_;rintro e w1 ⟨rfl,hb1⟩;have HR1:=Hd (HR.out.below hb1);have HB1:=Hd (HB0.out.trans (hb1.mono HB0.out.size));have hlt1:w.heap.size+1<w1.heap.size:=by have:=hb1.size;omega
 clear hb1 q0 q2 hlt;unfold f3A
 go_upto_region 9 with(fail)
 generalize hw2:w1.alloc _=w2
 have h3:F3 38 w2 w1.heap.size a b 0∧F3 38 w2 (w.heap.size+1) 0 0 0∧Below w.heap.size w w2:=by
  subst hw2;exact⟨F3.new _ _ _ _ _,heap_up _ HR1.out,HB1.out.alloc HB1.out.size _⟩
 obtain⟨hS,hT,hb2⟩:=h3;have HT:=Hd hT;have HB2:=Hd hb2;obtain⟨s0,s1,s2,-,-,-⟩:=Sx hS.cell;obtain⟨t0,t1,t2,-,-,-⟩:=Sx hT.cell;simp only [f3A,List.getElem?_toArray,List.getElem?_cons_zero,List.getElem?_cons_succ] at s0 s1 s2 t0 t1 t2;have fz:∀ j,w2.frozen? ⟨w.heap.size+1,j,none⟩=false:=fun j=>frozen_of_row w2 _ j _ _ hT;have n1:w.heap.size+1≠w1.heap.size:=by omega
 have n2:w1.heap.size≠w.heap.size+1:=by omega
 clear hw2 hS hT hb2;generalize w1.heap.size=g at *
 go_region
 generalize hw4:World.drew _=w4;obtain⟨hF,hB⟩:=f3_out HT.out HB2.out (by omega) hw4;have HF4:=Hd hF;have HB4:=Hd hB;clear hw4 hF hB
 go_wp2_with fail
 exact bodyPost_ret (res_xty (p:=5) (u:=4) (v:=6) rfl _ _ (w.heap.size+1) a b 0 rfl HF4.out) rfl ⟨rfl,HB4.out⟩
end
section
open Go.RowKit Go.Sort Go.BigFrame
def RdI(w:World) (A:Option Addr) (n:Nat) (l:List Int):Prop:=RdS 1 (fun w b o z=>w.cell? ⟨b,o,none⟩=some (.int .i64 z)) w A n l
def ConstAns(w:World) (o:Option (List Int × T3)) (e:Ending) (w':World):Prop:=
 ∃ S n c a b d vs,e=.returned (.tuple #[.slice S n c,.agg (f3A a b d),.bool o.isSome])∧RdI w' S n vs∧n≤c∧c≤maxLen∧((∀ r,o=some r→r=(vs,(a,b,d)))∧(o=none→vs=[]∧a=0∧b=0∧d=0))∧Below w.heap.size w w'
theorem RdI.nil_(w:World):RdI w none 0 []:=RdS.nil_ _ _ _
theorem constT_no{es:List En}{x:Ex}(h:(rightX x && constX x)=false):constT es x=none:=by unfold constT;rw [if_pos h]
theorem constT_lit{es:List En}{x:Ex}(h:(rightX x && constX x)=true) (hk:x.k≠14):constT es x=(litT es x).map fun r=>([r.2],r.1):=by
 unfold constT;rw [if_neg (by rw [h];decide),if_neg (by simpa using hk)]
theorem xt_box{w w0:World}{x:Ex}{A:Option Addr}{ca:Nat}{B:Option Addr}{cb:Nat}(h:(w.alloc (.cells (exA x A ca B cb) 35)).alloc (.cells #[.int .i64 0,.int .i64 0,.int .i64 0] 38)=w0):
 F3 38 w0 (w.heap.size+1) 0 0 0∧(∀ w',Below w0.heap.size w0 w'→∀ j,w'.cell? ⟨w.heap.size,j,none⟩=(exA x A ca B cb)[j]?)∧Below w.heap.size w w0∧w0.heap.size=w.heap.size+2:=box_res h
theorem refConstNo(l:Option Addr) (n c:Nat) (x:Ex) (A:Option Addr) (ca:Nat) (B:Option Addr) (cb:Nat) (w:World) (hr:rdX w x A B) (hs:sizeX x≤1000000) (hsh:∀ p∈partsX x,ShortP p) (hno:(rightX x && constX x)=false):
 Calls Tryz.prog 18 #[.slice l n c,.agg (exA x A ca B cb)] w (ConstAns w none):=by
 have HF:=Hd fun w0 h=>xt_box (w:=w) (w0:=w0) (x:=x) (A:=A) (ca:=ca) (B:=B) (cb:=cb) h;have HRI:=Hd fun w1 (hb:Below w.heap.size w w1)=>refRight x A ca B cb w1 (hr.below hb) hs hsh;have HCO:=Hd fun w1 (hb:Below w.heap.size w w1)=>refConst x A ca B cb w1 (hr.below hb);clear hr hs hsh;generalize rightX x=br at *;generalize constX x=bc at *;unfold exA at HF HRI HCO ⊢
 go_enter Tryz.func18,Tryz.ntmps18
 go_upto_region 1 with(fail)
 generalize hw0:(w.alloc _).alloc _=w0;obtain⟨hR,hx,hb0,hsz⟩:=HF.out w0 hw0;have HR:=Hd hR;have HX:=Hd hx;have HB0:=Hd hb0;obtain⟨q0,q1,q2,q3,q4,q5⟩:=Sx (hx w0 (Below.refl _ _));simp only [Ya,Yb,Yc] at q0 q1 q2 q3 q4 q5;have HR1:=Hd (HRI.out w0 hb0);clear hw0 hR hx hb0 hsz HF HRI
 cases br with
 | false=>
  go_wp2_with fail
  refine HR1.out.mono ?_;rintro e w1 ⟨rfl,hb1⟩;have HRY:=Hd (HR.out.below hb1);have HB1:=Hd (HB0.out.trans (hb1.mono HB0.out.size));clear hb1 q0 q1 q2 q3 q4 q5 HR1 HCO
  go_upto_region 2 with(fail)
  go_wp2_with (refine wpList_store_row rfl _ _ _ rfl (w.heap.size+1) _ rfl rfl _ _ HRY.out ty3_info rfl (by simp [Value.oneCell']) ?_)
  exact bodyPost_ret (res_xty (p:=5) (u:=4) (v:=6) rfl _ _ (w.heap.size+1) 0 0 0 rfl (HRY.out.set _ _ _)) rfl ⟨none,0,0,0,0,0,[],rfl,RdI.nil_ _,Nat.le_refl _,by unfold maxLen;omega,⟨fun r h=>(by cases h),fun _=>⟨rfl,rfl,rfl,rfl⟩⟩,below_setRow HB1.out (by omega) _⟩
 | true=>
  obtain rfl:bc=false:=by simpa using hno
  go_wp2_with fail
  refine HR1.out.mono ?_;rintro e w1 ⟨rfl,hb1⟩;have HRY:=Hd (HR.out.below hb1);have HB1:=Hd (HB0.out.trans (hb1.mono HB0.out.size));obtain⟨r0,r1,r2,r3,r4,r5⟩:=Sx (HX.out w1 hb1);simp only [Ya,Yb,Yc] at r0 r1 r2 r3 r4 r5;have HC1:=Hd (HCO.out w1 HB1.out);clear hb1 q0 q1 q2 q3 q4 q5 HR1 HCO
  go_wp2_with fail
  refine HC1.out.mono ?_;rintro e w2 ⟨rfl,hb2⟩;have HRZ:=Hd (HRY.out.below hb2);have HB2:=Hd (HB1.out.trans (hb2.mono HB1.out.size));clear hb2 r0 r1 r2 r3 r4 r5 HC1
  go_upto_region 2 with(fail)
  go_wp2_with (refine wpList_store_row rfl _ _ _ rfl (w.heap.size+1) _ rfl rfl _ _ HRZ.out ty3_info rfl (by simp [Value.oneCell']) ?_)
  exact bodyPost_ret (res_xty (p:=5) (u:=4) (v:=6) rfl _ _ (w.heap.size+1) 0 0 0 rfl (HRZ.out.set _ _ _)) rfl ⟨none,0,0,0,0,0,[],rfl,RdI.nil_ _,Nat.le_refl _,by unfold maxLen;omega,⟨fun r h=>(by cases h),fun _=>⟨rfl,rfl,rfl,rfl⟩⟩,below_setRow HB2.out (by omega) _⟩
end
section
open Go.RowKit Go.Sort Go.BigFrame
theorem RdI.one(w:World) (T:TypeId) (v:Int):RdI (w.alloc (.cells #[.int .i64 v] T)) (some ⟨w.heap.size,0,none⟩) 1 [v]:=
 ⟨rfl,by omega,fun _=>⟨_,0,rfl,by simp,fun i hi=>by
  obtain rfl:i=0:=by omega
  show World.cell? _ ⟨w.heap.size,0+0*1,none⟩=_
  rw [World.cell?_alloc_new];rfl⟩⟩
theorem keeps_i:KeepsAt (fun(w:World) b o (z:Int)=>w.cell? ⟨b,o,none⟩=some (.int .i64 z)):=fun h hb hs hk=>(hk _ hb).trans h
theorem RdI.keep{w w':World}{A:Option Addr}{n:Nat}{l:List Int}(h:RdI w A n l) (hs:w.heap.size≤w'.heap.size) (hk:∀ p:Addr,p.block<w.heap.size→w'.cell? p=w.cell? p):RdI w' A n l:=RdS.keep keeps_i h hs hk
theorem RdI.below{w w':World}{A:Option Addr}{n:Nat}{l:List Int}(h:RdI w A n l) (hb:Below w.heap.size w w'):RdI w' A n l:=h.keep hb.size fun _ hp=>hb.cell hp
theorem RdI.set{w:World}{g r:Nat}{o n:Nat}{l:List Int}(h:RdI w (some ⟨g,o,none⟩) n l) (hn:g≠r) (cs:Array Value):RdI (w.setRow r cs) (some ⟨g,o,none⟩) n l:=
 ⟨h.1,h.2.1,fun h0=>by
  obtain⟨b,off,e,hb,hc⟩:=h.2.2 h0;injection e with e;injection e with e1 e2;subst e1 e2;exact⟨_,_,rfl,by simpa [World.setRow] using hb,fun i hi=>(World.cell?_of_block (a:=⟨g,_,none⟩) (setRow_other _ _ _ _ hn)).trans (hc i hi)⟩⟩
theorem refConstLit(l:Option Addr) (n c:Nat) (es:List En) (x:Ex) (A:Option Addr) (ca:Nat) (B:Option Addr) (cb:Nat) (w:World) (hE:RdE w l n es) (hr:rdX w x A B) (hs:sizeX x≤1000000) (hsh:∀ p∈partsX x,ShortP p) (hyes:(rightX x && constX x)=true) (hk:x.k≠14):
 Calls Tryz.prog 18 #[.slice l n c,.agg (exA x A ca B cb)] w (ConstAns w ((litT es x).map fun r=>([r.2],r.1))):=by
 have hlit:literalX x=true:=by
  simp only [Bool.and_eq_true] at hyes;have:=hyes.2;unfold constX at this;rwa [if_neg (by simpa using hk)] at this
 have HF:=Hd fun w0 h=>xt_box (w:=w) (w0:=w0) (x:=x) (A:=A) (ca:=ca) (B:=B) (cb:=cb) h;have HRI:=Hd fun w1 (hb:Below w.heap.size w w1)=>refRight x A ca B cb w1 (hr.below hb) hs hsh;have HCO:=Hd fun w1 (hb:Below w.heap.size w w1)=>refConst x A ca B cb w1 (hr.below hb);have HLI:=Hd fun w1 (hb:Below w.heap.size w w1)=>refLit16 l n c es x A ca B cb w1 (hE.below hb) (hr.below hb) hlit;have hkb:(x.k != 14)=true:=bne_iff_ne.2 hk;simp only [Bool.and_eq_true] at hyes;rw [hyes.1] at HRI;rw [hyes.2] at HCO;clear hE hr hs hsh hyes hlit hk;generalize litT es x=o at *;unfold litV at HLI;unfold exA at HF HRI HCO HLI ⊢;unfold f3A at HLI;generalize hov:(o.map (·.2)).getD 0=ov at *;generalize hoa:(o.map (·.1.1)).getD 0=oa at *;generalize hob:(o.map (·.1.2.1)).getD 0=ob at *;generalize hoc:(o.map (·.1.2.2)).getD 0=oc at *;generalize hos:o.isSome=os at *;have HV:=Hd (show ∀ r,o=some r→r=((oa,ob,oc),ov) from fun r h=>by subst h hov hoa hob hoc;rfl);have HS:=Hd hos;clear hov hoa hob hoc hos
 go_enter Tryz.func18,Tryz.ntmps18
 go_upto_region 1 with(fail)
 generalize hw0:(w.alloc _).alloc _=w0;obtain⟨hR,hx,hb0,hsz⟩:=HF.out w0 hw0;have HR:=Hd hR;have HX:=Hd hx;have HB0:=Hd hb0;obtain⟨q0,q1,q2,q3,q4,q5⟩:=Sx (hx w0 (Below.refl _ _));simp only [Ya,Yb,Yc] at q0 q1 q2 q3 q4 q5;have HR1:=Hd (HRI.out w0 hb0);clear hw0 hR hx hb0 hsz HF HRI
 go_wp2_with fail
 refine HR1.out.mono ?_;rintro e w1 ⟨rfl,hb1⟩;have HRY:=Hd (HR.out.below hb1);have HB1:=Hd (HB0.out.trans (hb1.mono HB0.out.size));have HX1:=Hd fun w' (h:Below w1.heap.size w1 w') j=>HX.out w' (hb1.trans (h.mono hb1.size)) j;obtain⟨r0,r1,r2,r3,r4,r5⟩:=Sx (HX.out w1 hb1);simp only [Ya,Yb,Yc] at r0 r1 r2 r3 r4 r5;have HC1:=Hd (HCO.out w1 HB1.out);clear hb1 q0 q1 q2 q3 q4 q5 HR1 HCO HX
 go_wp2_with fail
 refine HC1.out.mono ?_;rintro e w2 ⟨rfl,hb2⟩;have HRZ:=Hd (HRY.out.below hb2);have HB2:=Hd (HB1.out.trans (hb2.mono HB1.out.size));obtain⟨s0,s1,s2,s3,s4,s5⟩:=Sx (HX1.out w2 hb2);simp only [Ya,Yb,Yc] at s0 s1 s2 s3 s4 s5;have HL2:=Hd (HLI.out w2 HB2.out);clear hb2 r0 r1 r2 r3 r4 r5 HC1 HRY HX1 HLI
 go_wp2_with fail
 refine HL2.out.mono ?_;rintro e w3 ⟨rfl,hb3⟩;have HR3:=Hd (HRZ.out.below hb3);have HB3:=Hd (HB2.out.trans (hb3.mono HB2.out.size));clear hb3 s0 s1 s2 s3 s4 s5 HL2 HRZ
 go_upto_region 5 with(fail)
 generalize hw4:w3.alloc _=w4;obtain⟨hb4,hF4,hg4⟩:=ty_box hw4;have HR4:=Hd (HR3.out.below hb4);have HB4:=Hd (HB3.out.trans (hb4.mono HB3.out.size));have HF4:=Hd hF4;have hlt:=HR3.out.lt;have hg2:w.heap.size+1≠w3.heap.size:=by omega
 clear hw4 hb4 hF4 HR3;generalize w3.heap.size=g at *
 cases os with
 | false=>
  go_upto_region 6 with(fail)
  have HO:=Hd (show o=none by have:=HS.out;cases o with | none=>rfl | some r=>cases this)
  go_wp2_with (refine wpList_store_row rfl _ _ _ rfl (w.heap.size+1) _ rfl rfl _ _ HR4.out ty3_info rfl (by simp [Value.oneCell']) ?_)
  exact bodyPost_ret (res_xty (p:=5) (u:=4) (v:=6) rfl _ _ (w.heap.size+1) 0 0 0 rfl (HR4.out.set _ _ _)) rfl ⟨none,0,0,0,0,0,[],by rw [HO.out];rfl,RdI.nil_ _,Nat.le_refl _,by unfold maxLen;omega,⟨fun r h=>(by rw [HO.out] at h;cases h),fun _=>⟨rfl,rfl,rfl,rfl⟩⟩,below_setRow HB4.out (by omega) _⟩
 | true=>
  obtain⟨f0,f1,f2,-,-,-⟩:=Sx HF4.out.cell;simp only [f3A,List.getElem?_toArray,List.getElem?_cons_zero,List.getElem?_cons_succ] at f0 f1 f2;have HRA:=Hd (HR4.out.below ((Below.refl w4.heap.size w4).alloc (Nat.le_refl _) (.cells #[.int .i64 ov] 2)));obtain⟨hv0,hv1,hv2,-,-,-⟩:=Sx HRA.out.cell;simp only [f3A,List.getElem?_toArray,List.getElem?_cons_zero,List.getElem?_cons_succ] at hv0 hv1 hv2;have fz:∀ j,(w4.alloc (.cells #[.int .i64 ov] 2)).frozen? ⟨w.heap.size+1,j,none⟩=false:=fun j=>frozen_of_row _ _ j _ _ HRA.out;have hlr:=HR4.out.lt;have hlg:=HF4.out.lt;have n1:w.heap.size+1≠w4.heap.size:=by omega
  have n2:w4.heap.size≠w.heap.size+1:=by omega
  have n3:g≠w.heap.size+1:=by omega
  have hu0:=(World.cell?_alloc_lt w4 (.cells #[.int .i64 ov] 2) ⟨g,0,none⟩ hlg).trans f0;have hu1:=(World.cell?_alloc_lt w4 (.cells #[.int .i64 ov] 2) ⟨g,1,none⟩ hlg).trans f1;have hu2:=(World.cell?_alloc_lt w4 (.cells #[.int .i64 ov] 2) ⟨g,2,none⟩ hlg).trans f2
  go_upto_region 7 with(fail)
  go_region
  have hI:=(RdI.one w4 2 ov).set (r:=w.heap.size+1) n2 (f3A oa ob oc);generalize hw5:World.drew _=w5;have hw6:=hw5;rw [f3_set HRA.out] at hw6;obtain⟨hF,hB⟩:=f3_out HRA.out (HB4.out.alloc HB4.out.size _) (by omega) hw5;have HF5:=Hd hF;have HB5:=Hd hB;have HI5:=Hd (show RdI w5 (some ⟨g+1,0,none⟩) 1 [ov] by rw [← hw6,← hg4];exact hI);clear hw5 hw6 hF hB hI
  go_wp2_with fail
  exact bodyPost_ret (res_xty (p:=5) (u:=4) (v:=6) rfl _ _ (w.heap.size+1) oa ob oc rfl HF5.out) rfl ⟨some ⟨g+1,0,none⟩,1,1,oa,ob,oc,[ov],by rw [Option.isSome_map,HS.out];rfl,HI5.out,Nat.le_refl _,by unfold maxLen;omega,⟨fun r h=>(by
   obtain⟨r',h1,rfl⟩:=Option.map_eq_some_iff.1 h;have:=HV.out r' h1;subst this;rfl),fun h=>(by have:=congrArg Option.isSome h;rw [Option.isSome_map,HS.out] at this;cases this)⟩,HB5.out⟩
end
end Go.Proofs.YtegjgiofmpolnaaGreat
