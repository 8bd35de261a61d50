/- Parts of the proof: ClA, ClB, ClO. Conditions: each theorem's own. -/
import Derived.Test.YtkbpdoomhfkngaaO09
namespace Go.Proofs.Ytkbpdoomhfkngaa
set_option linter.unusedVariables false
set_option linter.unusedSimpArgs false
set_option maxRecDepth 100000
set_option maxHeartbeats 40000000
section
open Go.RowKit Go.Sort
def cdL(c:Cd):List Value:=[.string c.nm,.int .i64 c.v]
def cdA(c:Cd):Array Value:=#[.string c.nm,.int .i64 c.v]
def CdAt(w:World) (b o:Nat) (c:Cd):Prop:=w.rangeAt b o (cdL c)
def RdC(w:World) (A:Option Addr) (n:Nat) (l:List Cd):Prop:=RdS 2 CdAt w A n l
theorem keeps_cd:KeepsAt CdAt:=fun h hb hs hk=>rangeAt_keep h hb hk
theorem CdAt.two{w:World}{b o:Nat}{c:Cd}(h:CdAt w b o c):w.cell? ⟨b,o,none⟩=some (.string c.nm)∧w.cell? ⟨b,o+1,none⟩=some (.int .i64 c.v):=⟨h 0 _ rfl,h 1 _ rfl⟩
def flC(l:List Cd):List Value:=l.flatMap cdL
theorem flC_len(l:List Cd):(flC l).length=l.length*2:=by
 induction l with
 | nil=>rfl
 | cons d l ih=>simp only [flC,List.flatMap_cons,List.length_append,List.length_cons] at ih ⊢;rw [ih];simp [cdL];omega
theorem flC_app(a b:List Cd):flC (a++b)=flC a++flC b:=by simp [flC]
theorem flC_one(d:Cd):flC [d]=cdL d:=by simp [flC]
theorem flC_at:∀ (l:List Cd) (i j:Nat),i<l.length→j<2→(flC l)[i*2+j]?=(cdL (l[i]?.getD default))[j]?
 | t::ts,0,j,_,hj=>by
  have hz:j<(cdL t).length:=by simpa [cdL] using hj
  simp only [flC,List.flatMap_cons,Nat.zero_mul,Nat.zero_add];rw [List.getElem?_append_left hz]
  simp
 | t::ts,i+1,j,hi,hj=>by
  have ih:=flC_at ts i j (by simpa using hi) hj;have hz:(cdL t).length=2:=by simp [cdL]
  simp only [flC,List.flatMap_cons];rw [List.getElem?_append_right (by rw [hz];omega),hz,show(i+1)*2+j-2=i*2+j by omega]
  simpa [flC] using ih
theorem flC_ones(l:List Cd):∀ u∈flC l,u.oneCell'=true:=by
 intro u hu;simp only [flC,List.mem_flatMap] at hu;obtain⟨t,_,hu⟩:=hu
 simp [cdL] at hu
 rcases hu with rfl | rfl <;> rfl
section
variable {w w':World}{A:Option Addr}{n:Nat}{l:List Cd}
theorem RdC.keep(h:RdC w A n l) (hs:w.heap.size≤w'.heap.size) (hk:∀ p:Addr,p.block<w.heap.size→w'.cell? p=w.cell? p):RdC w' A n l:=RdS.keep keeps_cd h hs hk
theorem RdC.below(h:RdC w A n l) (hb:Below w.heap.size w w'):RdC w' A n l:=h.keep hb.size fun _ hp=>hb.cell hp
theorem RdC.of_own{base:Nat}{e:TypeId}{v:Value}(h:w.ownsRow base e 2 v n (flC l)) (hm:n≤9223372036854775807):∃ A c,v=.slice A n c∧RdC w A n l:=by
 have hl:l.length=n:=by
  have:=h.1;rw [flC_len] at this;omega
 rcases h.2 with⟨rfl,rfl⟩|⟨g,cap,cur,rfl,hg,hh,hnc,hcm,hcs,ht⟩
 · obtain rfl:l=[]:=List.eq_nil_of_length_eq_zero hl;exact⟨none,0,rfl,RdS.nil_ _ _ _⟩
 · refine⟨_,cap,rfl,hl,hm,fun hn=>⟨g,0,rfl,(Array.getElem?_eq_some_iff.1 hh).1,fun i hi=>?_⟩⟩;intro j v hv
   have hj:j<2:=by
    rcases Nat.lt_or_ge j 2 with h | h
    · exact h
    · rw [List.getElem?_eq_none (by simpa [cdL] using h)] at hv;cases hv
   rw [Nat.zero_add,h.cellAt (i*2+j) (by omega),flC_at l i j (by omega) hj,hv]
theorem RdC.news(h:RdC w A n l):(A=none→n=0)∧∀ ad,A=some ad→∀ j u,(flC l)[j]?=some u→w.cell? (ad.add j)=some u:=by
 constructor
 · rintro rfl;rcases Nat.eq_zero_or_pos n with h0 | h0
   · exact h0
   · obtain⟨b,off,e,_⟩:=RdS.at_ h h0;cases e
 · rintro ad rfl j u hu
   have hj:j<l.length*2:=by
    rcases Nat.lt_or_ge j (l.length*2) with h1 | h1
    · exact h1
    · rw [List.getElem?_eq_none (by rw [flC_len];exact h1)] at hu;cases hu
   have hlen:=RdS.len h;obtain⟨b,off,e,hb,hc⟩:=RdS.at_ h (by omega);injection e with e;subst e;have h6:j / 2*2+j % 2=j:=by omega
   have h7:j % 2<2:=by omega
   have h1:=hc (j / 2) (by omega);rw [add_addr];have h2:=flC_at l (j / 2) (j % 2) (by omega) h7;rw [h6,hu] at h2;have h3:=h1 (j % 2) u h2.symm;rwa [show off+j / 2*2+j % 2=off+j by omega] at h3
theorem RdC.take(h:RdC w A n l){k:Nat}(hk:k≤n):RdC w A k (l.take k):=by
 refine⟨by rw [List.length_take,h.1];omega,by have:=h.2.1;omega,fun h0=>?_⟩;obtain⟨b,off,e,hb,hc⟩:=RdS.at_ h (by omega);refine⟨b,off,e,hb,fun i hi=>?_⟩;have:=hc i (by omega);rwa [List.getElem?_take_of_lt hi]
end
theorem infoCond:(Try.prog.info? 60).map (fun i=>(i.size,i.bytes,i.zero.map fun z=>z.cells.size))=some (2,24,some 2):=by kernel_rfl
theorem cells_cd:Try.prog.cellsOf 60=2:=by kernel_rfl
section
variable {P:Program}{w:World}
theorem wpList_append_cd{ops:Array Oper}{rest:List Oper}{o:Oper}{a:Act}{Q:Exit→Act→World→Prop}(hgd:o.guard=none) (s x:Operand) (t:TypeId)
 (ho:o.op=.call { callee:=.builtin .append,args:=#[s,x],argTypes:=#[t,t] })
 (base:Nat) (e:TypeId) (i:TypeInfo) (z:Value) (bytes:Nat) (ht:P.underlying t=some (.slice e)) (hi:P.info? e=some i) (hz:i.zero=some z)
 (hsize:i.size=2) (hby:i.bytes=bytes) (hzs:z.cells.size=2)
 (v:Value) (n:Nat) (xs:List Cd) (hs:a.eval s=v) (hown:w.ownsRow base e 2 v n (flC xs))
 (A:Option Addr) (m c:Nat) (l:List Cd) (hx:a.eval x=.slice A m c) (hr:RdC w A m l)
 (h63:n+m≤maxLen) (hbytes:(n+m)*bytes≤140737488355328) (hbase:base≤w.heap.size)
 (h:∀ v' w',w'.ownsRow base e 2 v' (n+m) (flC (xs++l))→w.grownBy w' v.ownBlock→wpList P ops Q rest (a.put o.dst v') w'):wpList P ops Q (o::rest) a w:=by
 obtain⟨hA,hnews⟩:=hr.news;have hlen:=RdS.len hr;rcases A with _ | ad
 · obtain rfl:m=0:=hA rfl;obtain rfl:l=[]:=List.eq_nil_of_length_eq_zero hlen;refine wpList_plain hgd fun K hK=>?_;have hrun:=run_append_nil (P:=P) (w:=w) base t o.type e i 2 ht hi v n _ hown c;unfold Oper.wp
   simp [execOp,ho,resolve,invoke,builtin,hs,hx,hrun,Result.andThen]
   exact hK _ _ (h v w (by simpa using hown) (World.grownBy.refl w _))
 · exact wpList_append_own_at w hgd s x t ho base e i z 2 bytes ht hi hz hsize hby hzs (by decide) v n _ hs hown ad m c (flC l) hx (by rw [flC_len,hlen]) (fun j u hu=>hnews ad rfl j u hu) (flC_ones l) h63 hbytes hbase fun v' w' h1 h2 _ _=>h v' w' (by rw [flC_app];exact h1) h2
end
theorem cd_lit(w:World) (d:Cd):RdC (w.alloc (.cells (cdA d) 60)) (some ⟨w.heap.size,0,none⟩) 1 [d]:=by
 refine⟨rfl,by omega,fun _=>⟨w.heap.size,0,rfl,by simp,fun i hi=>?_⟩⟩;obtain rfl:i=0:=by omega
 intro j v hv;rw [show 0+0*2+j=j by omega,World.cell?_alloc_new];have:(cdL d)[j]?=some v:=by simpa using hv
 rw [← this]
 show(cdL d).toArray[j]?=_
 simp
theorem nd_atC{w:World}{A:Option Addr}{n i:Nat}{l:List Nd}(h:RdNs w A n l) (hi:i<n):
 ∃ b off A1 c1 A2 c2 A3 c3 A4 c4,A=some ⟨b,off,none⟩∧b<w.heap.size∧rdN w (l[i]?.getD default) A1 A2 A3 A4 ∧
 w.cell? ⟨b,off+i*5,none⟩=some (.string (l[i]?.getD default).nm)∧w.cell? ⟨b,off+i*5+1,none⟩=some (.slice A1 (l[i]?.getD default).ins.length c1)∧w.cell? ⟨b,off+i*5+2,none⟩=some (.slice A2 (l[i]?.getD default).outs.length c2)∧w.cell? ⟨b,off+i*5+3,none⟩=some (.slice A3 (l[i]?.getD default).vars.length c3)∧w.cell? ⟨b,off+i*5+4,none⟩=some (.slice A4 (l[i]?.getD default).eqs.length c4):=by
 obtain⟨b,off,e,hb,hc⟩:=RdS.at_ h (by omega);obtain⟨A1,c1,A2,c2,A3,c3,A4,c4,h1,h2⟩:=hc i hi;obtain⟨d0,d1,d2,d3,d4⟩:=ndL_five h1;exact⟨b,off,A1,c1,A2,c2,A3,c3,A4,c4,e,hb,h2,d0,d1,d2,d3,d4⟩
theorem dc_atC{w:World}{A:Option Addr}{n i:Nat}{l:List Dc}(h:RdD w A n l) (hi:i<n):
 ∃ b off,A=some ⟨b,off,none⟩∧b<w.heap.size∧w.cell? ⟨b,off+i*6,none⟩=some (.string (l[i]?.getD default).nm)∧w.cell? ⟨b,off+i*6+1,none⟩=some (.int .i64 (l[i]?.getD default).k)∧w.cell? ⟨b,off+i*6+2,none⟩=some (.int .i64 (l[i]?.getD default).e) ∧
  w.cell? ⟨b,off+i*6+3,none⟩=some (.int .i64 (l[i]?.getD default).l)∧w.cell? ⟨b,off+i*6+4,none⟩=some (.string (l[i]?.getD default).on)∧w.cell? ⟨b,off+i*6+5,none⟩=some (.string (l[i]?.getD default).ct):=by
 obtain⟨b,off,e,hb,hc⟩:=RdS.at_ h (by omega);exact⟨b,off,e,hb,(hc i hi).six⟩
theorem cl_box{w w1:World}{cs:Array Value}{T:TypeId}(h:w.alloc (.cells cs T)=w1):Below w.heap.size w w1∧w1.heap.size=w.heap.size+1∧∀ w',Below w1.heap.size w1 w'→∀ j,w'.cell? ⟨w.heap.size,j,none⟩=cs[j]?:=by
 subst h;refine⟨(Below.refl _ _).alloc (Nat.le_refl _) _,by simp,fun w' hb j=>?_⟩;rw [hb.cell (p:=⟨w.heap.size,j,none⟩) (by simp),World.cell?_alloc_new]
theorem cl_box2{w w1:World}{cs ds:Array Value}{T U:TypeId}(h:(w.alloc (.cells cs T)).alloc (.cells ds U)=w1):Below w.heap.size w w1∧w1.heap.size=w.heap.size+2∧(∀ w',Below w1.heap.size w1 w'→∀ j,w'.cell? ⟨w.heap.size,j,none⟩=cs[j]?)∧(∀ w',Below w1.heap.size w1 w'→∀ j,w'.cell? ⟨w.heap.size+1,j,none⟩=ds[j]?):=by
 generalize h0:w.alloc (.cells cs T)=w0 at h;obtain⟨b0,e0,k0⟩:=cl_box h0;obtain⟨b1,e1,k1⟩:=cl_box h;rw [e0] at k1;exact⟨b0.trans (b1.mono b0.size),by omega,fun w' hb j=>k0 w' (b1.trans (hb.mono b1.size)) j,k1⟩
theorem below_nextC{w w1 w2:World}(h:Below w.heap.size w w1) (hb:Below w1.heap.size w1 w2):Below w.heap.size w w2:=h.trans (hb.mono h.size)
theorem own_belowC{w w':World}{base:Nat}{e:TypeId}{size n:Nat}{v:Value}{xs:List Value}(h:w.ownsRow base e size v n xs) (hb:Below w.heap.size w w'):w'.ownsRow base e size v n xs:=by
 refine⟨h.1,?_⟩;rcases h.2 with h2 | ⟨g,cap,cur,hv,hg,hh,hr⟩
 · exact .inl h2
 · exact .inr ⟨g,cap,cur,hv,hg,(hb.block g (Array.getElem?_eq_some_iff.1 hh).1).trans hh,hr⟩
theorem ret_boolC{a b:Bool}(h:a=b):Ending.returned (.bool a)=.returned (.bool b):=by rw [h]
end
section
open Go.RowKit Go.Sort
theorem eqC_refl(a:Cd):eqC a a=true:=eqC_eq.2 rfl
theorem refSame17(A:Option Addr) (n c:Nat) (l:List Cd) (B:Option Addr) (m d:Nat) (r:List Cd) (w:World) (hl:RdC w A n l) (hr:RdC w B m r):
 Calls Try.prog 11 #[.slice A n c,.slice B m d] w fun e w'=>e=.returned (.bool (sameC l r))∧Below w.heap.size w w':=by
 have hln:=RdS.len hl;have hrn:=RdS.len hr;have hlm:=RdS.max hl;have hrm:=RdS.max hr
 by_cases hnm:n=m
 · subst hnm;have HNO:=Hd fun(i:Nat) hi hf=>sameL_no (f:=eqC) (l:=l) (m:=r) (i:=i) (by rw [hln];exact hi) (by rw [hln,hrn]) hf;have HYES:=Hd fun hf=>sameL_yes (f:=eqC) (l:=l) (m:=r) (by rw [hln,hrn]) (by rw [hln];exact hf);unfold sameC;generalize sameL eqC l r=out at *;have dn:decide ((n:Int)=(n:Int))=true:=decide_eq_true rfl
   go_enter Try.func11,Try.ntmps11
   go_wp2_with fail
   go_loopw [5] (fun i wr=>∃ k:Nat,k≤n∧i=.int .i64 k∧(∀ j,j<k→eqC (l[j]?.getD default) (r[j]?.getD default)=true)∧Below w.heap.size w wr) (fun i _=>n-(intOf i).toNat)
   case atStart=>exact⟨0,Nat.zero_le _,rfl,fun j hj=>absurd hj (by omega),Below.refl _ _⟩
   case round=>
    obtain⟨k,hk,rfl,hto,hnx⟩:=hrel;have HT:=Hd hto;have HNX:=Hd hnx;clear hto
    by_cases hlt:k<n
    · obtain⟨b,off,rfl,hb,hc⟩:=RdS.at_ (hl.below hnx) (by omega);obtain⟨b',off',rfl,hb',hc'⟩:=RdS.at_ (hr.below hnx) (by omega);obtain⟨p0,p1⟩:=(hc k hlt).two;obtain⟨q0,q1⟩:=(hc' k hlt).two;clear hc hc' hnx;have HN:=Hd (HNO.out k hlt);have HS:=Hd fun(hf:eqC (l[k]?.getD default) (r[k]?.getD default)=true)=>to_next (P:=fun j=>eqC (l[j]?.getD default) (r[j]?.getD default)=true) HT.out hf;generalize l[k]?.getD default=x at p0 p1 HN HS;generalize r[k]?.getD default=y at q0 q1 HN HS;obtain⟨x0,x1⟩:=x;obtain⟨y0,y1⟩:=y;simp only at p0 p1 q0 q1
      by_cases e0:x0=y0
      · subst e0
        by_cases e1:x1=y1
        · subst e1;have HS2:=Hd (HS.out (eqC_refl _))
          go_upto_region 6 with(fail)
          go_quiet (fail)
          go_wp2_with fail
          go_roundw
          case rel=>exact⟨k+1,by omega,by go_num,HS2.out,below_drewN HNX.out _⟩
          case measure=>simp [intOf];omega
        · have f1:(x1==y1)=false:=by rw [beq_eq_false_iff_ne];exact e1
          have HN2:=Hd (HN.out (by simp [eqC,f1]))
          go_upto_region 6 with(fail)
          go_quiet (fail)
          go_wp2_with fail
          go_ret
          exact⟨ret_bool HN2.out.symm,below_drewN HNX.out _⟩
      · have f0:(x0.toList==y0.toList)=false:=by
         cases h:(x0.toList==y0.toList) with
         | false=>rfl
         | true=>exact absurd (bytes_eq h) e0
        have HN2:=Hd (HN.out (by simp [eqC,f0]))
        go_upto_region 6 with(fail)
        go_quiet (fail)
        go_wp2_with fail
        go_ret
        exact⟨ret_bool HN2.out.symm,below_drewN HNX.out _⟩
    · have hkn:k=n:=by omega
      have HY:=Hd (HYES.out fun i hi=>HT.out i (by omega))
      go_wp2_with fail
      go_ret
      exact⟨ret_bool HY.out.symm,HNX.out⟩
 · have dn:decide ((n:Int)=(m:Int))=false:=decide_eq_false (by omega);have dm:((n:Int)==(m:Int))=false:=by rw [beq_eq_false_iff_ne];omega
   have HE:=Hd (sameL_len (f:=eqC) (l:=l) (m:=r) (by rw [hln,hrn];exact hnm))
   go_enter Try.func11,Try.ntmps11
   go_wp2_with fail
   go_ret
   exact⟨ret_bool HE.out.symm,Below.refl _ _⟩
theorem slEqualC(A:Option Addr) (n c:Nat) (l:List Cd) (B:Option Addr) (m d:Nat) (r:List Cd) (w:World) (hl:RdC w A n l) (hr:RdC w B m r):
 Calls Try.prog 59 #[.slice A n c,.slice B m d] w fun e w'=>e=.returned (.bool (sameC l r))∧Below w.heap.size w w':=by
 have hln:=RdS.len hl;have hrn:=RdS.len hr;have hlm:=RdS.max hl;have hrm:=RdS.max hr
 by_cases hnm:n=m
 · subst hnm;have HNO:=Hd fun(i:Nat) hi hf=>sameL_no (f:=eqC) (l:=l) (m:=r) (i:=i) (by rw [hln];exact hi) (by rw [hln,hrn]) hf;have HYES:=Hd fun hf=>sameL_yes (f:=eqC) (l:=l) (m:=r) (by rw [hln,hrn]) (by rw [hln];exact hf);unfold sameC;generalize sameL eqC l r=out at *;have dn:decide ((n:Int)=(n:Int))=true:=decide_eq_true rfl
   go_enter Try.func59,Try.ntmps59
   go_wp2_with fail
   go_loopw [13] (fun i wr=>∃ k:Nat,k≤n∧i=.int .i64 k∧(∀ j,j<k→eqC (l[j]?.getD default) (r[j]?.getD default)=true)∧Below w.heap.size w wr) (fun i _=>n-(intOf i).toNat)
   case atStart=>exact⟨0,Nat.zero_le _,rfl,fun j hj=>absurd hj (by omega),Below.refl _ _⟩
   case round=>
    obtain⟨k,hk,rfl,hto,hnx⟩:=hrel;have HT:=Hd hto;have HNX:=Hd hnx;clear hto
    by_cases hlt:k<n
    · obtain⟨b,off,rfl,hb,hc⟩:=RdS.at_ (hl.below hnx) (by omega);obtain⟨b',off',rfl,hb',hc'⟩:=RdS.at_ (hr.below hnx) (by omega);obtain⟨p0,p1⟩:=(hc k hlt).two;obtain⟨q0,q1⟩:=(hc' k hlt).two;clear hc hc' hnx;have HN:=Hd (HNO.out k hlt);have HS:=Hd fun(hf:eqC (l[k]?.getD default) (r[k]?.getD default)=true)=>to_next (P:=fun j=>eqC (l[j]?.getD default) (r[j]?.getD default)=true) HT.out hf;generalize l[k]?.getD default=x at p0 p1 HN HS;generalize r[k]?.getD default=y at q0 q1 HN HS;obtain⟨x0,x1⟩:=x;obtain⟨y0,y1⟩:=y;simp only at p0 p1 q0 q1
      by_cases e0:x0=y0
      · subst e0
        by_cases e1:x1=y1
        · subst e1;have HS2:=Hd (HS.out (eqC_refl _))
          go_upto_region 6 with(fail)
          go_quiet (fail)
          go_wp2_with fail
          go_roundw
          case rel=>exact⟨k+1,by omega,by go_num,HS2.out,below_drewN HNX.out _⟩
          case measure=>simp [intOf];omega
        · have f1:(x1==y1)=false:=by rw [beq_eq_false_iff_ne];exact e1
          have HN2:=Hd (HN.out (by simp [eqC,f1]))
          go_upto_region 6 with(fail)
          go_quiet (fail)
          go_wp2_with fail
          go_ret
          exact⟨ret_bool HN2.out.symm,below_drewN HNX.out _⟩
      · have f0:(x0.toList==y0.toList)=false:=by
         cases h:(x0.toList==y0.toList) with
         | false=>rfl
         | true=>exact absurd (bytes_eq h) e0
        have HN2:=Hd (HN.out (by simp [eqC,f0]))
        go_upto_region 6 with(fail)
        go_quiet (fail)
        go_wp2_with fail
        go_ret
        exact⟨ret_bool HN2.out.symm,below_drewN HNX.out _⟩
    · have hkn:k=n:=by omega
      have HY:=Hd (HYES.out fun i hi=>HT.out i (by omega))
      go_wp2_with fail
      go_ret
      exact⟨ret_bool HY.out.symm,HNX.out⟩
 · have dn:decide ((n:Int)=(m:Int))=false:=decide_eq_false (by omega);have dm:((n:Int)==(m:Int))=false:=by rw [beq_eq_false_iff_ne];omega
   have HE:=Hd (sameL_len (f:=eqC) (l:=l) (m:=r) (by rw [hln,hrn];exact hnm))
   go_enter Try.func59,Try.ntmps59
   go_wp2_with fail
   go_ret
   exact⟨ret_bool HE.out.symm,Below.refl _ _⟩
end
section
theorem right_part{x y:Ex}(h:rightX x=true) (hy:y∈partsX x):partX y=true:=by
 unfold rightX at h;simp only [Bool.and_eq_true] at h;exact List.all_eq_true.1 h.2 y hy
theorem parts_sub{x:Ex}{k:Nat}(hk:k<x.subs.length):∀ z∈partsX (subX x k),z∈partsX x:=by
 intro z hz;rw [partsX_eq];refine List.mem_cons_of_mem _ ?_
 have key:∀ (l:List Ex) (y:Ex),y∈l→z∈partsX y→z∈partssX l:=by
  intro l
  induction l with
  | nil=>intro y hy;cases hy
  | cons a l ih=>
   intro y hy hz;simp only [partssX,List.mem_append];rcases List.mem_cons.1 hy with rfl | hy
   · exact .inl hz
   · exact .inr (ih y hy hz)
 exact key _ _ (subX_mem hk) hz
theorem parts_cases{x z:Ex}(h:z∈partsX x):z=x∨∃ k,k<x.subs.length∧z∈partsX (subX x k):=by
 rw [partsX_eq] at h;rcases List.mem_cons.1 h with h | h
 · exact .inl h
 · right
   have key:∀ (l:List Ex),z∈partssX l→∃ k,k<l.length∧z∈partsX (l[k]?.getD default):=by
    intro l
    induction l with
    | nil=>intro h;simp [partssX] at h
    | cons a l ih=>
     intro h;simp only [partssX,List.mem_append] at h;rcases h with h | h
     · exact⟨0,by simp,by simpa using h⟩
     · obtain⟨k,hk,hz⟩:=ih h;exact⟨k+1,by simp;omega,by simpa using hz⟩
   exact key _ h
theorem part_len{x:Ex}(h:partX x=true):(subsX x).1≤x.subs.length∧(x.subs.length:Int)≤(subsX x).2∧(x.k=8→constX (subX x 0)=true):=by
 unfold partX at h;simp only [Bool.and_eq_true,decide_eq_true_eq] at h;refine⟨h.1.1.2,h.1.2,fun hk=>?_⟩;have h2:=h.2;rw [hk] at h2
 simpa using h2
def NamedX(x:Ex):Prop:=∃ z∈partsX x,isVar z=true
theorem varsX_named{x:Ex}:0<(varsX x).length↔NamedX x:=by
 unfold varsX NamedX;rw [List.length_map,List.length_pos_iff_exists_mem];simp only [List.mem_filter]
theorem named_cases{x:Ex}(h:NamedX x):isVar x=true∨∃ k,k<x.subs.length∧NamedX (subX x k):=by
 obtain⟨z,hz,hv⟩:=h;rcases parts_cases hz with rfl | ⟨k,hk,hz⟩
 · exact .inl hv
 · exact .inr ⟨k,hk,z,hz,hv⟩
theorem leaf_unnamed{y:Ex}(hp:partX y=true) (hk:y.k=1∨y.k=2∨y.k=4):¬ NamedX y:=by
 intro h;have hl:=(part_len hp).2.1
 have hz:(subsX y).2=0:=by
  unfold subsX;rcases hk with hk | hk | hk <;> (rw [hk];rfl)
 rcases named_cases h with h | ⟨k,hk2,_⟩
 · unfold isVar at h;rcases hk with hk | hk | hk <;> (rw [hk] at h;revert h;decide)
 · omega
theorem lit_unnamed{y:Ex}(hp:∀ z∈partsX y,partX z=true) (hl:literalX y=true):¬ NamedX y:=by
 have hy:=hp y (by rw [partsX_eq];exact List.mem_cons_self);unfold literalX at hl
 by_cases h5:y.k=5
 · rw [h5] at hl
   simp at hl
   intro h;rcases named_cases h with h | ⟨k,hk,h⟩
   · unfold isVar at h;rw [h5] at h
     revert h
     decide
   · obtain rfl:k=0:=by omega
     exact leaf_unnamed (hp _ (parts_sub hk _ (by rw [partsX_eq (subX y 0)];exact List.mem_cons_self))) (.inl hl.2) h
 · rw [if_neg (by simpa using h5)] at hl
   simp at hl
   refine leaf_unnamed hy ?_;rcases hl with(h | h) | h
   · exact .inl h
   · exact .inr (.inl h)
   · exact .inr (.inr h)
theorem const_unnamed{y:Ex}(hp:∀ z∈partsX y,partX z=true) (hc:constX y=true):¬ NamedX y:=by
 unfold constX at hc
 by_cases h14:y.k=14
 · rw [h14] at hc;have hc:y.subs.all literalX=true:=hc;intro h;rcases named_cases h with h | ⟨k,hk,h⟩
   · unfold isVar at h;rw [h14] at h
     revert h
     decide
   · exact lit_unnamed (fun z hz=>hp z (parts_sub hk z hz)) (List.all_eq_true.1 hc _ (subX_mem hk)) h
 · rw [if_neg (by simpa using h14)] at hc;exact lit_unnamed hp hc
theorem fit_one{es:List En}{n:Nd}:∀ x:Ex,(∀ z∈partsX x,partX z=true)→NamedX x→∀ on1 on2:List Cd,fitX es n x on1=true→fitX es n x on2=true→on1=on2:=by
 refine size_ind fun x ih hp hn on1 on2 h1 h2=>?_;have hx:=hp x (by rw [partsX_eq];exact List.mem_cons_self)
 have hsub:∀ k,k<x.subs.length→NamedX (subX x k)→fitAt (x.subs.map (fitX es n)) k on1=true→fitAt (x.subs.map (fitX es n)) k on2=true→on1=on2:=fun k hk hnk a b=>by
  rw [fitAt_eq hk] at a b;exact ih k hk (fun z hz=>hp z (parts_sub hk z hz)) hnk on1 on2 a b
 rw [fitX_eq] at h1 h2;unfold fitK at h1 h2
 by_cases k1:(x.k==1 || x.k==2 || x.k==4)=true
 · exact absurd hn (leaf_unnamed hx (by simpa [or_assoc] using k1))
 rw [if_neg k1] at h1 h2
 by_cases k3:(x.k==3)=true
 · rw [if_pos k3,hasC_eq] at h1 h2;rw [h1] at h2;exact Option.some.inj h2
 rw [if_neg k3] at h1 h2
 by_cases k8:(x.k==8)=true
 · rw [if_pos k8,Bool.and_eq_true,decide_eq_true_eq] at h1 h2;have e8:x.k=8:=by simpa using k8
   rcases named_cases hn with h | ⟨k,hk,h⟩
   · unfold isVar at h;rw [e8] at h;exact absurd h (by decide)
   · by_cases hk0:k=0
     · subst hk0;exact absurd h (const_unnamed (fun z hz=>hp z (parts_sub hk z hz)) ((part_len hx).2.2 e8))
     · obtain rfl:k=1:=by omega
       exact hsub 1 hk h h1.2 h2.2
 rw [if_neg k8] at h1 h2
 by_cases k11:(x.k==11)=true
 · rw [if_pos k11] at h1 h2;unfold whenC at h1 h2
   cases hr:rowC es n x.s with
   | none=>rw [hr] at h1;cases h1
   | some row=>
    cases ha:armR es (x.arms[0]?.getD ByteArray.empty) with
    | none=>rw [hr,ha] at h1;cases h1
    | some r=>
     rw [hr,ha] at h1 h2;simp only [Bool.and_eq_true] at h1 h2;rw [sameC_eq.1 h1.2.1,sameC_eq.1 h2.2.1]
 rw [if_neg k11] at h1 h2
 by_cases k12:(x.k==12)=true
 · rw [if_pos k12] at h1 h2;unfold mergeC at h1 h2;simp only [Bool.and_eq_true] at h1 h2;have a:=hasC_eq.1 h1.1.1;rw [hasC_eq.1 h2.1.1] at a;exact(Option.some.inj a).symm
 rw [if_neg k12] at h1 h2
 by_cases k17:(x.k==17)=true
 · rw [if_pos k17] at h1
   cases h1
 rw [if_neg k17] at h1 h2;rcases named_cases hn with h | ⟨k,hk,h⟩
 · unfold isVar at h
   simp at h k3 k11 k12
   rcases h with(h | h) | h
   · exact absurd h k3
   · exact absurd h k11
   · exact absurd h k12
 · exact hsub k hk h (rangeC_all.1 h1 k hk) (rangeC_all.1 h2 k hk)
end
end Go.Proofs.Ytkbpdoomhfkngaa
