/- Parts of the proof: PgB, PgC, PgD, TyL, ArT, ArU, TrO, TyZ. Conditions: each theorem's own. -/
import Derived.BigRegion
import Derived.Sort.Grow
import Derived.Laws.ResultCell
import Derived.Test.YtegjgiofmpolnaaGreatC08
import Derived.Test.YtegjgiofmpolnaaGreatC09
namespace Go.Proofs.YtegjgiofmpolnaaGreat
set_option linter.unusedVariables false
set_option linter.unusedSimpArgs false
set_option maxRecDepth 100000
set_option maxHeartbeats 40000000
section
open Go.RowKit Go.Sort Go.ChangeShapes Go.WideShapes Go.Deep
theorem Zj:type_of% @AllReadyH.cons:=@AllReadyH.cons
theorem Zk:type_of% @AllReadyH.nil:=@AllReadyH.nil
theorem Zv:type_of% @wpAnyH_take:=@wpAnyH_take
theorem Xe:type_of% @wpAnyH_ready:=@wpAnyH_ready
end
section
open Go.RowKit
theorem aA9{l:List Dc}{k:Nat}(hk:k<l.length):(bD l).take (k+1)=(bD l).take k++[(l[k]?.getD default).nm]:=by
 rw [bD,List.take_add_one,List.getElem?_map,Yk hk]
 simp
theorem aCa(l:List Dc):(bD l).length=l.length:=by simp [bD]
def aJl(w:World) (n:Nat) (ss:List ByteArray) (e:Ending) (w':World):Prop:=∃ A c,e=.returned (.slice A n c)/\aN w' A n ss/\Below w.heap.size w w'
theorem aCb(A:Option Addr) (n c:Nat) (l:List Dc) (w:World) (h:cH w A n l) (hn:n<=1000):
 Calls Tryz.prog 70 #[.slice A n c] w (aJl w n (bD l)):=by
 have Ah:=h.len;have Ba:=h.max;obtain⟨i0,hi,Av,Ar,As⟩:=info_parts oU;have Ag:=Hd (World.ownsRow_lit (base:=w.heap.size) (e:=9) (size:=1) w #[] 0 (Yh _) (by decide) rfl);have Ai:=Hd ((Yg w.heap.size w).alloc (Yh _) (.cells #[] 9));have Az:=Hd Ah
 go_enter Tryz.func70,Tryz.ntmps70
 go_wp2_with fail
 go_loopw [3,4] (fun v i wr=>∃ k:Nat,k<=n/\i=.int .i64 k/\wr.ownsRow w.heap.size 9 1 v k (((bD l).take k).map Value.string)/\Below w.heap.size w wr) (fun _ i _=>n-(intOf i).toNat)
 case atStart=>exact⟨0,Yq _,rfl,Ag.o,Ai.o⟩
 case round=>
  obtain⟨k,hk,rfl,Aa,Ad⟩:=hrel
  by_cases Aw:k<n
  . obtain⟨b,Aq,rfl,hb,hc⟩:=aQ.at_ h (by omega);obtain⟨Ao,-⟩:=(hc k Aw).six;have Ax:=(Ad.cell (p:=⟨b,Aq+k*6,none⟩) hb).trans Ao;have Am:=Hd (aA9 (l:=l) (k:=k) (by omega));generalize (l[k]?.getD default).nm=x at Ax Am;have Af:=Hd Ad;have H3:=Hd Aa;have Au:=Ad.size;clear Aa Ag Ai Ao hc
    go_wp2_with (at_builtin;refine wpList_append_own_at _ rfl _ _ 32 rfl w.heap.size 9 i0 (.string ByteArray.empty) 1 16 Tryz.underlying32 hi Av Ar As rfl (by decide) _ _ _ rfl (H3.o.alloc _) ⟨wr.heap.size,0,none⟩ 1 1 [.string x] rfl rfl (cell_one_new _ _ _) (lQ [x]) (by unfold maxLen;omega) (by omega) (by simp;omega) ?_;intro v' w1 Ab Ac Aj Ae;have An:=(Af.o.alloc Au (.cells #[.string x] 9)).grown Ac (by simp;omega) (fun j hj=>(H3.o.lt j hj).1);have HO:=Hd Ab;have Ay:=Hd An;clear Ac Ab Aj Ae An)
    go_roundw
    case rel=>
     refine⟨k+1,by omega,by go_num,?_,Ay.o⟩;rw [Am.o,Zp];exact HO.o
    case measure=>simp [intOf];omega
  . obtain rfl:k=n:=by omega
    have Al:(bD l).take k=bD l:=Yx (by rw [aCa];omega);rw [Al] at Aa;obtain⟨A1,c1,rfl,Ak,_⟩:=aN.of_own Aa (by omega);have Ap:=Hd Ak;have Af:=Hd Ad;clear Aa Ak Ag Ai Al Ad
    go_wp2_with fail
    go_ret
    exact⟨A1,c1,rfl,Ap.o,Af.o⟩
theorem aMp(s:ByteArray) (w:World) (hs:s.size<=9223372036854775807):
 Calls Tryz.prog 157 #[.string s] w fun e w'=>e=.returned (.bool (lJ s))/\w=w':=by
 have HH:=Hd (rR s w hs);have HE:=Hd (show lJ s=(dY s.data.toList || (s.toList==[116,114,117,101]) || (s.toList==[102,97,108,115,101])) by rw [Zc];rfl)
 cases h1:dY s.data.toList with
 | true=>
  rw [h1] at HH HE
  go_enter Tryz.func157,Tryz.ntmps157
  go_wp2_with fail
  refine HH.o.mono ?_;rintro e w1 ⟨rfl,rfl⟩
  go_wp2_with fail
  go_ret
  exact⟨aF (by rw [HE.o];rfl),rfl⟩
 | false=>
  rw [h1] at HH HE
  cases h2:(s.toList==[116,114,117,101]) with
  | true=>
   rw [h2] at HE
   go_enter Tryz.func157,Tryz.ntmps157
   go_wp2_with fail
   refine HH.o.mono ?_;rintro e w1 ⟨rfl,rfl⟩
   go_wp2_with fail
   go_ret
   exact⟨aF (by rw [HE.o];rfl),rfl⟩
  | false=>
   rw [h2] at HE
   cases h3:(s.toList==[102,97,108,115,101]) with
   | true=>
    rw [h3] at HE
    go_enter Tryz.func157,Tryz.ntmps157
    go_wp2_with fail
    refine HH.o.mono ?_;rintro e w1 ⟨rfl,rfl⟩
    go_wp2_with fail
    go_ret
    exact⟨aF (by rw [HE.o];rfl),rfl⟩
   | false=>
    rw [h3] at HE
    go_enter Tryz.func157,Tryz.ntmps157
    go_wp2_with fail
    refine HH.o.mono ?_;rintro e w1 ⟨rfl,rfl⟩
    go_wp2_with fail
    go_ret
    exact⟨aF (by rw [HE.o];rfl),rfl⟩
end
section
open Go.RowKit Go.Sort
def eL(l:List Dc):List Value:=l.flatMap kU
theorem qM(l:List Dc):(eL l).length=l.length*6:=by
 induction l with
 | nil=>rfl
 | cons d l ih=>simp only [eL,List.flatMap_cons,Yn,Yo] at ih ⊢;rw [ih];simp [kU];omega
theorem yA(a b:List Dc):eL (a++b)=eL a++eL b:=by simp [eL]
theorem yU:∀ (l:List Dc) (i j:Nat),i<l.length->j<6->(eL l)[i*6+j]?=(kU (l[i]?.getD default))[j]?
 | t::ts,0,j,_,hj=>by
  have hz:j<(kU t).length:=by simpa [kU] using hj
  simp only [eL,List.flatMap_cons,Nat.zero_mul,Nat.zero_add];rw [List.getElem?_append_left hz]
  simp
 | t::ts,i+1,j,hi,hj=>by
  have ih:=yU ts i j (by simpa using hi) hj;have hz:(kU t).length=6:=by simp [kU]
  simp only [eL,List.flatMap_cons];rw [List.getElem?_append_right (by rw [hz];omega),hz,show(i+1)*6+j-6=i*6+j by omega]
  simpa [eL] using ih
theorem tV(l:List Dc):∀ u∈eL l,u.oneCell'=true:=by
 intro u hu;simp only [eL,List.mem_flatMap] at hu;obtain⟨t,_,hu⟩:=hu
 simp [kU] at hu
 rcases hu with rfl | rfl | rfl | rfl | rfl | rfl <;> rfl
section
variable {w w':World}{A:Option Addr}{n:Nat}{l:List Dc}
theorem cH.of_own{base:Nat}{e:TypeId}{v:Value}(h:w.ownsRow base e 6 v n (eL l)) (hm:n<=9223372036854775807):∃ A c,v=.slice A n c/\cH w A n l:=by
 have hl:l.length=n:=by
  have:=h.1;rw [qM] at this;omega
 rcases h.2 with⟨rfl,rfl⟩|⟨g,cap,cur,rfl,hg,hh,hnc,hcm,hcs,ht⟩
 . obtain rfl:l=[]:=Zq hl;exact⟨none,0,rfl,aQ.nil_ _ _ _⟩
 . refine⟨_,cap,rfl,hl,hm,fun hn=>⟨g,0,rfl,(Yl.1 hh).1,fun i hi=>?_⟩⟩;intro j v hv
   have hj:j<6:=by
    rcases Nat.lt_or_ge j 6 with h | h
    . exact h
    . rw [List.getElem?_eq_none (by simpa [kU] using h)] at hv;cases hv
   rw [Nat.zero_add,h.cellAt (i*6+j) (by omega),yU l i j (by omega) hj,hv]
theorem cH.news(h:cH w A n l):(A=none->n=0)/\∀ ad,A=some ad->∀ j u,(eL l)[j]?=some u->w.cell? (ad.add j)=some u:=by
 constructor
 . rintro rfl;rcases Nat.eq_zero_or_pos n with h0 | h0
   . exact h0
   . obtain⟨b,Aa,e,_⟩:=aQ.at_ h h0;cases e
 . rintro ad rfl j u hu
   have hj:j<l.length*6:=by
    rcases Nat.lt_or_ge j (l.length*6) with h1 | h1
    . exact h1
    . rw [List.getElem?_eq_none (by rw [qM];exact h1)] at hu;cases hu
   have Ab:=aQ.len h;obtain⟨b,Aa,e,hb,hc⟩:=aQ.at_ h (by omega);injection e with e;subst e;have h6:j / 6*6+j % 6=j:=by omega
   have h7:j % 6<6:=by omega
   have h1:=hc (j / 6) (by omega);rw [aLx];have h2:=yU l (j / 6) (j % 6) (by omega) h7;rw [h6,hu] at h2;have h3:=h1 (j % 6) u h2.symm;rwa [show Aa+j / 6*6+j % 6=Aa+j by omega] at h3
end
theorem xC:(Tryz.prog.info? 58).map (fun i=>(i.size,i.bytes,i.zero.map fun z=>z.cells.size))=some (6,72,some 6):=by kernel_rfl
theorem nO{P:Program}{t:TypeId}{a b c:Nat}(h:(P.info? t).map (fun i=>(i.size,i.bytes,i.zero.map fun z=>z.cells.size))=some (a,b,some c)):∃ i z,P.info? t=some i/\i.zero=some z/\i.size=a/\i.bytes=b/\z.cells.size=c:=by
 obtain⟨i,h1,h2⟩:=Option.map_eq_some_iff.1 h;simp only [Prod.mk.injEq,Option.map_eq_some_iff] at h2;obtain⟨h3,h4,z,h5,h6⟩:=h2;exact⟨i,z,h1,h5,h3,h4,h6⟩
theorem iB(w:World) (x:Nd) (A1:Option Addr) (c1:Nat) (A2:Option Addr) (c2:Nat) (A3:Option Addr) (c3:Nat) (A4:Option Addr) (c4:Nat) (w1:World) (h:w.alloc (.cells (bL x A1 c1 A2 c2 A3 c3 A4 c4) 53)=w1) (hr:cJ w x A1 A2 A3 A4):
 Below w.heap.size w w1/\w1.heap.size=w.heap.size+1/\cJ w1 x A1 A2 A3 A4/\∀ w',Below w1.heap.size w1 w'->∀ j,w'.cell? ⟨w.heap.size,j,none⟩=(bL x A1 c1 A2 c2 A3 c3 A4 c4)[j]?:=by
 subst h;refine⟨(Yg _ _).alloc (Yh _) _,by simp,hr.below ((Yg _ _).alloc (Yh _) _),fun w' hb j=>?_⟩;rw [hb.cell (p:=⟨w.heap.size,j,none⟩) (by simp),Zo]
def tJ(w:World) (n:Nat) (l:List Dc) (e:Ending) (w':World):Prop:=∃ A c,e=.returned (.slice A n c)/\cH w' A n l/\Below w.heap.size w w'
theorem rT(x:Nd) (A1:Option Addr) (c1:Nat) (A2:Option Addr) (c2:Nat) (A3:Option Addr) (c3:Nat) (A4:Option Addr) (c4:Nat) (w:World) (h:cJ w x A1 A2 A3 A4) (hn:x.all.length<=1000):
 Calls Tryz.prog 27 #[.agg (bL x A1 c1 A2 c2 A3 c3 A4 c4)] w (tJ w x.all.length x.all):=by
 have An:=oB x;have Bt:=Hd (show eL x.all=eL x.ins++eL x.outs++eL x.vars by rw [Nd.all,yA,yA]);have Bw:=Hd (qM x.ins);have Bk:=Hd (qM x.outs);have Bm:=Hd (qM x.vars);have Br:=Hd (tV x.ins);have Bl:=Hd (tV x.outs);have Bu:=Hd (tV x.vars);obtain⟨i0,z0,hi,Az,Av,As,Aw⟩:=nO xC;obtain⟨h1,h2,h3,h4⟩:=h;have HF:=Hd fun w1 (hw:w.alloc (.cells (bL x A1 c1 A2 c2 A3 c3 A4 c4) 53)=w1)=>iB w x A1 c1 A2 c2 A3 c3 A4 c4 w1 hw ⟨h1,h2,h3,h4⟩;unfold bL
 go_enter Tryz.func27,Tryz.ntmps27
 go_upto_region 1 with(fail)
 generalize Bf:w.alloc _=w1;obtain⟨Ba,hg,⟨r1,r2,r3,-⟩,Ak⟩:=HF.o w1 Bf;obtain⟨-,q1,q2,q3,-,-⟩:=Sx (Ak w1 (Yg _ _));simp only [bL,List.getElem?_toArray,Yz,Zb] at q1 q2 q3;have Bx:=Hd Ba;obtain⟨Bq,Bj⟩:=r1.news;obtain⟨Bo,Bn⟩:=r2.news;obtain⟨Bp,Bi⟩:=r3.news;have Bg:=Hd r1.news;have Bb:=Hd r2.news;have Bd:=Hd r3.news;clear Bf Ak Ba h1 h2 h3 h4 r1 r2 r3 Bq Bj Bo Bn Bp Bi HF;generalize x.ins.length=n1 at *;generalize x.outs.length=n2 at *;generalize x.vars.length=n3 at *;generalize eL x.ins=f1 at *;generalize eL x.outs=f2 at *;generalize eL x.vars=f3 at *;have Ax:=World.ownsRow_lit (base:=w1.heap.size) (e:=58) (size:=6) w1 #[] 0 (by simp) (by decide) rfl;rw [hg] at Ax;have Bh:=Hd (show(w1.alloc (.cells #[] 58)).drew.ownsRow (w.heap.size+1) 58 6 (.slice (some ⟨w.heap.size+1,0,none⟩) 0 0) 0 [] from Ax);clear Ax;refine wp_region_held_drew (S:=fun W=>W.cell? ⟨w.heap.size,1,none⟩=some (.slice A1 n1 c1)/\W.cell? ⟨w.heap.size,2,none⟩=some (.slice A2 n2 c2)/\W.cell? ⟨w.heap.size,3,none⟩=some (.slice A3 n3 c3)) (by kernel_rfl) ?_ (fun hHeld=>?_)
 . exact⟨q1,q2,q3⟩
 refine Zv (i:=1) (oi:=?oi1) (v:=.pointer (some ⟨w.heap.size,1,none⟩)) ?h1x1 (by kernel_rfl) ?h3x1 (by kernel_rfl) ?h5x1 (Or.inl ⟨?h6x1,?h7x1⟩) hHeld ?h8x1
 case h1x1=>
  simp only [Ya,Yb,Yc];rfl
 case h3x1=>kernel_rfl
 case h5x1=>exact fun _ _ _ h=>h
 case h6x1=>rfl
 case h7x1=>
  intro W Ad
  (try dsimp only at Ad)
  go_split_ands
  first | (go_simp;done) | (go_simp;with_reducible rfl)
 (try simp only [Act.put,Yd,Ye,Yf])
 refine Zv (i:=2) (oi:=?oi2) (v:=.slice A1 n1 c1) ?h1x2 (by kernel_rfl) ?h3x2 (by kernel_rfl) ?h5x2 (Or.inl ⟨?h6x2,?h7x2⟩) hHeld ?h8x2
 case h1x2=>
  simp only [Ya,Yb,Yc];rfl
 case h3x2=>kernel_rfl
 case h5x2=>exact fun _ _ _ h=>h
 case h6x2=>rfl
 case h7x2=>
  intro W Ad
  (try dsimp only at Ad)
  go_split_ands
  first | (go_simp;done) | (go_simp;with_reducible rfl)
 (try simp only [Act.put,Yd,Ye,Yf])
 refine Zv (i:=4) (oi:=?oi3) (v:=.pointer (some ⟨w.heap.size,2,none⟩)) ?h1x3 (by kernel_rfl) ?h3x3 (by kernel_rfl) ?h5x3 (Or.inl ⟨?h6x3,?h7x3⟩) hHeld ?h8x3
 case h1x3=>
  simp only [Ya,Yb,Yc];rfl
 case h3x3=>kernel_rfl
 case h5x3=>exact fun _ _ _ h=>h
 case h6x3=>rfl
 case h7x3=>
  intro W Ad
  (try dsimp only at Ad)
  go_split_ands
  first | (go_simp;done) | (go_simp;with_reducible rfl)
 (try simp only [Act.put,Yd,Ye,Yf])
 refine Zv (i:=5) (oi:=?oi4) (v:=.slice A2 n2 c2) ?h1x4 (by kernel_rfl) ?h3x4 (by kernel_rfl) ?h5x4 (Or.inl ⟨?h6x4,?h7x4⟩) hHeld ?h8x4
 case h1x4=>
  simp only [Ya,Yb,Yc];rfl
 case h3x4=>kernel_rfl
 case h5x4=>exact fun _ _ _ h=>h
 case h6x4=>rfl
 case h7x4=>
  intro W Ad
  (try dsimp only at Ad)
  go_split_ands
  first | (go_simp;done) | (go_simp;with_reducible rfl)
 (try simp only [Act.put,Yd,Ye,Yf])
 refine Zv (i:=7) (oi:=?oi5) (v:=.pointer (some ⟨w.heap.size,3,none⟩)) ?h1x5 (by kernel_rfl) ?h3x5 (by kernel_rfl) ?h5x5 (Or.inl ⟨?h6x5,?h7x5⟩) hHeld ?h8x5
 case h1x5=>
  simp only [Ya,Yb,Yc];rfl
 case h3x5=>kernel_rfl
 case h5x5=>exact fun _ _ _ h=>h
 case h6x5=>rfl
 case h7x5=>
  intro W Ad
  (try dsimp only at Ad)
  go_split_ands
  first | (go_simp;done) | (go_simp;with_reducible rfl)
 (try simp only [Act.put,Yd,Ye,Yf])
 refine Zv (i:=8) (oi:=?oi6) (v:=.slice A3 n3 c3) ?h1x6 (by kernel_rfl) ?h3x6 (by kernel_rfl) ?h5x6 (Or.inl ⟨?h6x6,?h7x6⟩) hHeld ?h8x6
 case h1x6=>
  simp only [Ya,Yb,Yc];rfl
 case h3x6=>kernel_rfl
 case h5x6=>exact fun _ _ _ h=>h
 case h6x6=>rfl
 case h7x6=>
  intro W Ad
  (try dsimp only at Ad)
  go_split_ands
  first | (go_simp;done) | (go_simp;with_reducible rfl)
 (try simp only [Act.put,Yd,Ye,Yf])
 have Ae:Below w1.heap.size w1 (w1.alloc (.cells #[] 58)).drew:=((Yg w1.heap.size w1).alloc (Yh _) _).drew;have Ah:=Hd Ae;have a0:=(Ae.cell (p:=⟨w.heap.size,1,none⟩) (by show w.heap.size<_;omega)).trans q1;have b0:=(Ae.cell (p:=⟨w.heap.size,2,none⟩) (by show w.heap.size<_;omega)).trans q2;have e0:=(Ae.cell (p:=⟨w.heap.size,3,none⟩) (by show w.heap.size<_;omega)).trans q3;clear Ae;refine Xe (rs:=[0]) (by kernel_rfl) (by simp) ?_;refine Zj (by rfl) (fun K hK=>?_) ?_
 . go_simp
   refine hK.out _ _ ?_ (fun hHeld=>?_)
   . exact⟨a0,b0,e0⟩
   clear hK K
   (try simp only [Act.put,Yd,Ye,Yf])
   refine Xe (rs:=[3]) (by kernel_rfl) (by simp) ?_;refine Zj (by rfl) (fun K hK=>?_) ?_
   . refine oR (by rfl) _ _ _ (by rfl) (w.heap.size+1) 58 i0 z0 6 72 Tryz.underlying50 hi Az Av As Aw (by decide) (.slice (some ⟨w.heap.size+1,0,none⟩) 0 0) 0 [] (by rfl) Bh.o A1 n1 c1 f1 (by rfl) (by rw [Bw.o]) Bg.o.1 (fun ad e j u hu=>by have h:=Bg.o.2 ad e j u hu;exact(Ah.o.cell (Yi _ _ h)).trans h) Br.o (by unfold maxLen;omega) (by omega) (by have:=Ah.o.size;omega) ?_;intro B1 d1 v1 Ai Am Ar;have Be:=Hd Ai;have Ab:Below w1.heap.size w1 v1:=Ah.o.grown Am (by have:=Ah.o.size;omega) (fun j hj=>by rw [hg];exact(Bh.o.lt j hj).1);have Ag:=Hd Ab;have a1:=(Ab.cell (p:=⟨w.heap.size,1,none⟩) (by show w.heap.size<_;omega)).trans q1;have b1:=(Ab.cell (p:=⟨w.heap.size,2,none⟩) (by show w.heap.size<_;omega)).trans q2;have e1:=(Ab.cell (p:=⟨w.heap.size,3,none⟩) (by show w.heap.size<_;omega)).trans q3;clear Ai Am Ar Ab;refine hK.out _ _ ?_ (fun hHeld=>?_)
     . exact⟨a1,b1,e1⟩
     clear hK K
     (try simp only [Act.put,Yd,Ye,Yf])
     refine Xe (rs:=[6]) (by kernel_rfl) (by simp) ?_;refine Zj (by rfl) (fun K hK=>?_) ?_
     . refine oR (by rfl) _ _ _ (by rfl) (w.heap.size+1) 58 i0 z0 6 72 Tryz.underlying50 hi Az Av As Aw (by decide) (.slice B1 (0+n1) d1) (0+n1) ([]++f1) (by rfl) Be.o A2 n2 c2 f2 (by rfl) (by rw [Bk.o]) Bb.o.1 (fun ad e j u hu=>by have h:=Bb.o.2 ad e j u hu;exact(Ag.o.cell (Yi _ _ h)).trans h) Bl.o (by unfold maxLen;omega) (by omega) (by have:=Ag.o.size;omega) ?_;intro B2 d2 v2 Aj Ao Au;have Bc:=Hd Aj;have Aa:Below w1.heap.size w1 v2:=Ag.o.grown Ao (by have:=Ag.o.size;omega) (fun j hj=>by rw [hg];exact(Be.o.lt j hj).1);have Af:=Hd Aa;have a2:=(Aa.cell (p:=⟨w.heap.size,1,none⟩) (by show w.heap.size<_;omega)).trans q1;have b2:=(Aa.cell (p:=⟨w.heap.size,2,none⟩) (by show w.heap.size<_;omega)).trans q2;have e2:=(Aa.cell (p:=⟨w.heap.size,3,none⟩) (by show w.heap.size<_;omega)).trans q3;clear Aj Ao Au Aa;refine hK.out _ _ ?_ (fun hHeld=>?_)
       . exact⟨a2,b2,e2⟩
       clear hK K
       (try simp only [Act.put,Yd,Ye,Yf])
       refine Xe (rs:=[9]) (by kernel_rfl) (by simp) ?_;refine Zj (by rfl) (fun K hK=>?_) ?_
       . refine oR (by rfl) _ _ _ (by rfl) (w.heap.size+1) 58 i0 z0 6 72 Tryz.underlying50 hi Az Av As Aw (by decide) (.slice B2 (0+n1+n2) d2) (0+n1+n2) ([]++f1++f2) (by rfl) Bc.o A3 n3 c3 f3 (by rfl) (by rw [Bm.o]) Bd.o.1 (fun ad e j u hu=>by have h:=Bd.o.2 ad e j u hu;exact(Af.o.cell (Yi _ _ h)).trans h) Bu.o (by unfold maxLen;omega) (by omega) (by have:=Af.o.size;omega) ?_;intro B3 d3 v3 Al Ap Ay;have Bv:=Hd Al;have Ac:Below w1.heap.size w1 v3:=Af.o.grown Ap (by have:=Af.o.size;omega) (fun j hj=>by rw [hg];exact(Bc.o.lt j hj).1);have Aq:=Hd Ac;have a3:=(Ac.cell (p:=⟨w.heap.size,1,none⟩) (by show w.heap.size<_;omega)).trans q1;have b3:=(Ac.cell (p:=⟨w.heap.size,2,none⟩) (by show w.heap.size<_;omega)).trans q2;have e3:=(Ac.cell (p:=⟨w.heap.size,3,none⟩) (by show w.heap.size<_;omega)).trans q3;clear Al Ap Ay Ac;refine hK.out _ _ ?_ (fun hHeld=>?_)
         . exact⟨a3,b3,e3⟩
         clear hK K
         (try simp only [Act.put,Yd,Ye,Yf])
         refine Xe (rs:=[10]) (by kernel_rfl) (by simp) ?_;refine Zj (by rfl) (fun K hK=>?_) ?_
         . go_simp
           refine hK.out _ _ ?_ (fun hHeld=>?_)
           . exact⟨a3,b3,e3⟩
           clear hK K
           (try simp only [Act.put,Yd,Ye,Yf])
           refine wpAnyH_done (by kernel_rfl) ?_ _
           go_wp2_with fail
           go_ret
           have hw:=Bv.o;rw [List.nil_append,<- Bt.o,Nat.zero_add,<- An] at hw;obtain⟨A,c,e,hR⟩:=cH.of_own hw (by omega);refine⟨A,c,?_,hR,Bx.o.trans (Aq.o.mono (by omega))⟩;rw [<- e,An];rfl
         exact Zk
       exact Zk
     exact Zk
   exact Zk
 exact Zk
end
section
open Go.RowKit
def lN(d:Dc):Prop:=d.nm.size<=maxLen/\d.on.size<=maxLen/\d.ct.size<=maxLen
theorem kZ(w:World) (d:Dc) (w1:World) (h:w.alloc (.cells (bC d) 58)=w1):
 Below w.heap.size w w1/\w1.heap.size=w.heap.size+1/\∀ w',Below w1.heap.size w1 w'->∀ j,w'.cell? ⟨w.heap.size,j,none⟩=(bC d)[j]?:=by
 subst h;refine⟨(Yg _ _).alloc (Yh _) _,by simp,fun w' hb j=>?_⟩;rw [hb.cell (p:=⟨w.heap.size,j,none⟩) (by simp),Zo]
theorem eN{w w1 w2:World}(h:Below w.heap.size w w1) (hb:Below w1.heap.size w1 w2):Below w.heap.size w w2:=h.trans (hb.mono h.size)
theorem aPf(A:Option Addr) (n c:Nat) (d:Dc) (w:World) (hn:n<=9223372036854775807) (Aq:lN d):
 Calls Tryz.prog 107 #[.slice A n c,.agg (bC d)] w fun e w'=>e=.returned (.bool (dZ n bH d))/\Below w.heap.size w w':=by
 obtain⟨Ap,Ar,As⟩:=Aq;unfold maxLen at Ap Ar As;have HF:=Hd fun w1 h=>kZ w d w1 h;have HE:=Hd (show dZ n bH d=(aX d.nm.data.toList && bH n d.k d.e d.l && (((d.on.toList==[]) && (d.ct.toList==[])) || (aX d.on.data.toList && lJ d.ct))) by simp only [Zc];rfl);have Aj:=Hd fun w1=>iY d.nm w1 (by omega);have Ah:=Hd fun w1=>iY d.on w1 (by omega);have Am:=Hd fun w1=>aMp d.ct w1 (by omega);have Ai:=Hd fun w1=>aHs A n c d.k d.e d.l w1 hn;unfold aK at Ai
 have Ao:=Hd (show(d.on.toList==[])=true->aX d.on.data.toList=false by
  intro h;rw [Zc] at h;rw [eq_of_beq h];rfl)
 unfold bC;generalize dZ n bH d=Au at *
 go_enter Tryz.func107,Tryz.ntmps107
 go_upto_region 1 with(fail)
 generalize Al:w.alloc _=w1;obtain⟨Ak,hg,Aa⟩:=HF.o w1 Al;have An:=Hd Ak;have HC:=Hd Aa;have q0:=Aa w1 (Yg _ _) 0;simp only [bC,List.getElem?_toArray,Yz,Zb] at q0 HC;clear Al Aa Ak HF;generalize d.nm=x0 at *;generalize d.on=x4 at *;generalize d.ct=x5 at *;generalize d.k=tk at *;generalize d.e=te at *;generalize d.l=tl at *
 cases h0:aX x0.data.toList with
 | false=>
  rw [h0] at HE
  go_wp2_with fail
  refine(Aj.o w1).mono ?_;rw [h0];rintro e w2 ⟨rfl,hb⟩;have Af:=Hd hb;have Ag:=Hd (eN An.o hb);clear hb
  go_wp2_with fail
  go_ret
  exact⟨aF (by rw [HE.o];rfl),Ag.o⟩
 | true=>
  rw [h0] at HE
  go_wp2_with fail
  refine(Aj.o w1).mono ?_;rw [h0];rintro e w2 ⟨rfl,hb⟩;have Af:=Hd hb;have Ag:=Hd (eN An.o hb);clear hb;clear q0;obtain⟨-,q1,q2,q3,-,-⟩:=Sx (HC.o w2 Af.o);simp only [Ya,Yb,Yc] at q1 q2 q3
  cases h1:bH n tk te tl with
  | false=>
   rw [h1] at HE
   go_wp2_with fail
   refine(Ai.o w2).mono ?_;rw [h1];rintro e w3 ⟨rfl,hb⟩;have Ae:=Hd (eN Af.o hb);have Ad:=Hd (eN Ag.o hb);clear hb
   go_wp2_with fail
   go_ret
   exact⟨aF (by rw [HE.o];rfl),Ad.o⟩
  | true=>
   rw [h1] at HE
   go_wp2_with fail
   refine(Ai.o w2).mono ?_;rw [h1];rintro e w3 ⟨rfl,hb⟩;have Ae:=Hd (eN Af.o hb);have Ad:=Hd (eN Ag.o hb);clear hb;have q4:=HC.o w3 Ae.o 4;have q5:=HC.o w3 Ae.o 5;simp only [Ya,Yb,Yc] at q4 q5
   cases h3:(x4.toList==[]) with
   | true=>
    have h4:=Ao.o h3;rw [h3,h4] at HE
    cases h6:(x5.toList==[]) with
    | true=>
     rw [h6] at HE
     go_wp2_with fail
     go_ret
     exact⟨aF (by rw [HE.o];rfl),Ad.o⟩
    | false=>
     rw [h6] at HE
     go_wp2_with fail
     refine(Ah.o w3).mono ?_;rw [h4];rintro e w4 ⟨rfl,hb⟩;have Ab:=Hd (eN Ae.o hb);have Ac:=Hd (eN Ad.o hb);clear hb;clear q4 q5;have q4:=HC.o w4 Ab.o 4;have q5:=HC.o w4 Ab.o 5;simp only [Ya,Yb,Yc] at q4 q5
     go_wp2_with fail
     go_ret
     exact⟨aF (by rw [HE.o];rfl),Ac.o⟩
   | false=>
    rw [h3] at HE
    cases h4:aX x4.data.toList with
    | false=>
     rw [h4] at HE
     go_wp2_with fail
     refine(Ah.o w3).mono ?_;rw [h4];rintro e w4 ⟨rfl,hb⟩;have Ab:=Hd (eN Ae.o hb);have Ac:=Hd (eN Ad.o hb);clear hb;clear q4 q5;have q4:=HC.o w4 Ab.o 4;have q5:=HC.o w4 Ab.o 5;simp only [Ya,Yb,Yc] at q4 q5
     go_wp2_with fail
     go_ret
     exact⟨aF (by rw [HE.o];rfl),Ac.o⟩
    | true=>
     rw [h4] at HE
     go_wp2_with fail
     refine(Ah.o w3).mono ?_;rw [h4];rintro e w4 ⟨rfl,hb⟩;have Ab:=Hd (eN Ae.o hb);have Ac:=Hd (eN Ad.o hb);clear hb;clear q4 q5;have q4:=HC.o w4 Ab.o 4;have q5:=HC.o w4 Ab.o 5;simp only [Ya,Yb,Yc] at q4 q5
     cases h5:lJ x5 with
     | true=>
      rw [h5] at HE
      go_wp2_with fail
      refine(Am.o w4).mono ?_;rw [h5];rintro e w5 ⟨rfl,rfl⟩
      go_wp2_with fail
      go_ret
      exact⟨aF (by rw [HE.o];rfl),Ac.o⟩
     | false=>
      rw [h5] at HE
      go_wp2_with fail
      refine(Am.o w4).mono ?_;rw [h5];rintro e w5 ⟨rfl,rfl⟩
      go_wp2_with fail
      go_ret
      exact⟨aF (by rw [HE.o];rfl),Ac.o⟩
end
section
open Go.RowKit
def uW(es:List En) (k:Nat):Prop:=∀ j,j<k->(bT es j).length<=12/\(eK es j).size<=100/\∀ q,q<(bT es j).length->(eJ es j q).size<=100
def nC(es:List En):Prop:=es.length<=8/\uW es es.length
theorem nC.few{es:List En}(h:nC es):pO es:=⟨h.1,fun j hj=>(h.2 j hj).1⟩
theorem nC.ok{es:List En}(h:nC es):jW es:=fun j hj=>by
 have h1:=h.2 j hj;unfold maxLen;refine⟨by omega,fun s hs=>?_⟩;obtain⟨q,hq,rfl⟩:=Zi hs;have:=h1.2.2 q hq;unfold eJ at this;rw [Yk hq,Yt] at this;omega
theorem aG5{es:List En}{k:Nat}(H:uW es k) (h1:(bT es k).length<=12) (h2:(eK es k).size<=100) (h3:∀ q,q<(bT es k).length->(eJ es k q).size<=100):uW es (k+1):=fun j hj=>by
 rcases Nat.lt_or_ge j k with h | h
 . exact H j h
 . obtain rfl:j=k:=by omega
   exact⟨h1,h2,h3⟩
def wP(es:List En) (w:World) (e:Ending) (w':World):Prop:=∃ b,e=.returned (.bool b)/\(b=true->nC es)/\w=w'
theorem tW(es:List En) (w:World):wP es w (.returned (.bool false)) w:=⟨false,rfl,fun h=>(by cases h),rfl⟩
theorem aJm{es:List En}(h:nC es) (w:World):wP es w (.returned (.bool true)) w:=⟨true,rfl,fun _=>h,rfl⟩
theorem aHy(A:Option Addr) (Aa An:Nat) (es:List En) (w:World) (hE:bV w A Aa es):
 Calls Tryz.prog 15 #[.slice A Aa An] w (wP es w):=by
 have Al:=hE.len;have Az:=hE.max
 by_cases h8:8<Aa
 . go_enter Tryz.func15,Tryz.ntmps15
   go_wp2_with fail
   go_ret
   exact tW es w
 . have Ay:decide ((8:Int)<(Aa:Int))=false:=Zy (by omega)
   go_enter Tryz.func15,Tryz.ntmps15
   go_wp2_with fail
   go_loop [3] (fun i=>∃ k:Nat,k<=Aa/\i=.int .i64 k/\uW es k) (fun i=>Aa-(intOf i).toNat)
   case atStart=>exact⟨0,Yq _,rfl,fun j hj=>absurd hj (by omega)⟩
   case round=>
    obtain⟨k,hk,rfl,Ad⟩:=hrel;have HT:=Hd Ad;clear Ad
    by_cases Aj:k<Aa
    . obtain⟨b,As,rfl,hb,hc⟩:=hE.at_ Aj;obtain⟨Ap,A',n',c',Au,Ae⟩:=hc k Aj;have Ag:k<es.length:=by omega
      have Ax:=Ae.len;have Aw:=Ae.max;clear hc
      by_cases Av:12<n'
      . go_wp2_with fail
        go_ret
        exact tW es w
      . have HS:=Hd fun h2 h3=>aG5 HT.o (show(bT es k).length<=12 by omega) h2 h3;have Ao:decide ((12:Int)<(n':Int))=false:=Zy (by omega);generalize eK es k=x at Ap HS
        by_cases Aq:100<x.size
        . go_wp2_with fail
          go_ret
          exact tW es w
        . have HS:=Hd fun h3=>HS.o (by omega) h3;have Ak:decide ((100:Int)<(x.size:Int))=false:=Zy (by omega)
          go_wp2_with fail
          go_loop [4] (fun i=>∃ m:Nat,m<=n'/\i=.int .i64 m/\∀ q,q<m->(eJ es k q).size<=100) (fun i=>n' - (intOf i).toNat)
          case atStart=>exact⟨0,Yq _,rfl,fun j hj=>absurd hj (by omega)⟩
          case round=>
           obtain⟨m,hm,rfl,Ad⟩:=hrel;have Af:=Hd Ad;clear Ad
           by_cases Ab:m<n'
           . obtain⟨b2,Am,rfl,Ar,Ah⟩:=Ae.at_ Ab;have Ac:=Ah m Ab;clear Ah;rw [show(bT es k)[m]?.getD ByteArray.empty=eJ es k m from rfl] at Ac
             have HN:=Hd (show(eJ es k m).size<=100->∀ q,q<m+1->(eJ es k q).size<=100 from fun h q hq=>by
              rcases Nat.lt_or_ge q m with h1 | h1
              . exact Af.o q h1
              . obtain rfl:q=m:=by omega
                exact h)
             generalize eJ es k m=y at Ac HN
             by_cases hy:100<y.size
             . go_wp2_with fail
               go_ret
               exact tW es w
             . have HN:=Hd (HN.o (by omega))
               go_wp2_with fail
               go_round
               case rel=>exact⟨m+1,by omega,by go_num,HN.o⟩
               case measure=>simp [intOf];omega
           . have HS:=Hd (HS.o fun q hq=>Af.o q (by omega))
             go_wp2_with fail
             go_round
             case rel=>exact⟨k+1,by omega,by go_num,HS.o⟩
             case measure=>simp [intOf];omega
    . have Ag:k=es.length:=by omega
      have Ai:=HT.o;rw [Ag] at Ai;have HY:=Hd (show nC es from⟨by omega,Ai⟩)
      go_wp2_with fail
      go_ret
      exact aJm HY.o w
end
section
open Go.RowKit Go.Sort
theorem aFr(w:World) (T:TypeId) (a b c:Value):(w.alloc (.cells #[a,b,c] T)).cell? ⟨w.heap.size,0,none⟩=some a/\(w.alloc (.cells #[a,b,c] T)).cell? ⟨w.heap.size,1,none⟩=some b/\(w.alloc (.cells #[a,b,c] T)).cell? ⟨w.heap.size,2,none⟩=some c:=by
 refine⟨?_,?_,?_⟩ <;> simp [go_sem]
abbrev aS (k e l:Int):Obj:=.cells #[.int .i64 k,.int .i64 e,.int .i64 l] 38
theorem bO:(Tryz.prog.info? 38).map (·.size)=some 3:=by kernel_rfl
theorem uX{fn:Func}{p:Tmp}(h:fn.results=#[.cell p 38]) (tmps:Array Value) (w:World) (g:Nat) (k e l:Int)
 (hp:tmps.getD p undef=.pointer (some ⟨g,0,none⟩)) (hg:w.heap[g]?=some (aS k e l)):(results fn tmps).run Tryz.prog w=.ok (aK k e l) w:=
 results_cell_row h tmps w g _ _ _ _ hp hg Tryz.underlying38 rfl bO
theorem aL{fn:Func}{p u:Tmp}(h:fn.results=#[.cell p 38,.tmp u]) (tmps:Array Value) (w:World) (g:Nat) (k e l:Int)
 (hp:tmps.getD p undef=.pointer (some ⟨g,0,none⟩)) (hg:w.heap[g]?=some (aS k e l)):(results fn tmps).run Tryz.prog w=.ok (.tuple #[aK k e l,tmps.getD u undef]) w:=by
 rw [results_cell_tmp h,hp];have hl:=run_loadVar_row (P:=Tryz.prog) w g 38 38 _ _ _ hg Tryz.underlying38 rfl bO
 simp [asAddr,Result.andThen,hl]
 rfl
theorem lG(k:Int) (w:World):
 Calls Tryz.prog 164 #[.int .i64 k] w fun r w'=>r=.returned (aK k 0 0)/\w'=w.alloc (aS k 0 0):=by
 unfold aK aS
 go_enter Tryz.func164,Tryz.ntmps164
 go_wp2_with fail
 exact Zt (uX rfl _ _ w.heap.size k 0 0 rfl (Zw _ _)) rfl ⟨rfl,rfl⟩
theorem mA(k:Int) (w:World):
 Calls Tryz.prog 165 #[.int .i64 k] w fun r w'=>r=.returned (aK k 0 0)/\w'=w.alloc (aS k 0 0):=by
 unfold aK aS
 go_enter Tryz.func165,Tryz.ntmps165
 go_wp2_with fail
 exact Zt (uX rfl _ _ w.heap.size k 0 0 rfl (Zw _ _)) rfl ⟨rfl,rfl⟩
theorem rH(k e l:Int) (w:World):
 Calls Tryz.prog 163 #[aK k e l,.bool true] w fun r w'=>r=.returned (.tuple #[aK k e l,.bool true])/\w'=(w.alloc (aS k e l)).alloc (aS k e l):=by
 unfold aK aS
 go_enter Tryz.func163,Tryz.ntmps163
 go_wp2_with fail
 exact Zt (aL rfl _ _ (w.heap.size+1) k e l rfl (heap_alloc2_new _ _ _)) rfl ⟨rfl,rfl⟩
theorem mS(k e l:Int) (w:World):
 Calls Tryz.prog 163 #[aK k e l,.bool false] w fun r w'=>r=.returned (.tuple #[aK 0 0 0,.bool false])/\w'=(w.alloc (aS k e l)).alloc (aS 0 0 0):=by
 unfold aK aS
 go_enter Tryz.func163,Tryz.ntmps163
 go_wp2_with fail
 exact Zt (aL rfl _ _ (w.heap.size+1) 0 0 0 rfl (heap_alloc2_new _ _ _)) rfl ⟨rfl,rfl⟩
theorem dX{w:World}{i:Nat}{o:Obj}(B:Obj) (h:w.heap[i]?=some o):(w.alloc B).heap[i]?=some o:=by
 have hi:=(Yl.1 h).1
 show(w.heap.push B)[i]?=some o
 rw [Array.getElem?_push,if_neg (Nat.ne_of_lt hi)];exact h
theorem iW{w:World}{i:Nat}{o:Obj}(h:w.heap[i]?=some o):w.drew.heap[i]?=some o:=h
def kV(o:Option Int):Value:=match o with
 | some k=>aK k 0 0
 | none=>aK 0 0 0
def cX(op k e l:Int):Option Int:=
 if op=1/\k=1/\e=0/\l=0 then some 1 else if op=2/\k=2/\e=0/\l=0 then some 2 else none
end
section
open Go.RowKit Go.Sort
theorem aJn(w:World):
 Calls Tryz.prog 116 #[.int .i64 1,aK 1 0 0] w fun r w'=>r=.returned (.tuple #[aK 1 0 0,.bool true])/\Below w.heap.size w w':=by
 unfold aK
 go_enter Tryz.func116,Tryz.ntmps116
 go_wp2_with fail
 go_region_held3 (fun W=>W.cell? ⟨w.heap.size,0,none⟩=some (.int .i64 1)/\W.cell? ⟨w.heap.size,1,none⟩=some (.int .i64 0)/\W.cell? ⟨w.heap.size,2,none⟩=some (.int .i64 0)) (first | (refine⟨?_,?_,?_⟩ <;> simp [go_sem]) | exact trivial) (first | (go_at_call 164;refine(lG _ _).mono ?_;unfold aK aS;rintro r w1 ⟨rfl,rfl⟩) | (go_at_call 163;refine(rH _ _ _ _).mono ?_;unfold aK aS;rintro r w1 ⟨rfl,rfl⟩))
 go_wp2_with fail
 refine Zt (aL rfl _ _ (w.heap.size+1) 1 0 0 rfl ?_) rfl ⟨rfl,?_⟩
 . (repeat' (first | exact heap_alloc2_new _ _ _ | exact Zw _ _ | refine iW ?_ | refine dX _ ?_))
 . (repeat' (first | exact Yg _ _ | refine Below.drew ?_ | refine Below.alloc ?_ (by simp <;> omega) _))
theorem aJo(k e l:Int) (hk:(k==1)=false) (w:World):
 Calls Tryz.prog 116 #[.int .i64 1,aK k e l] w fun r w'=>r=.returned (.tuple #[aK 0 0 0,.bool false])/\Below w.heap.size w w':=by
 unfold aK
 go_enter Tryz.func116,Tryz.ntmps116
 go_wp2_with fail
 go_region_held3 (fun W=>W.cell? ⟨w.heap.size,0,none⟩=some (.int .i64 k)/\W.cell? ⟨w.heap.size,1,none⟩=some (.int .i64 e)/\W.cell? ⟨w.heap.size,2,none⟩=some (.int .i64 l)) (first | (refine⟨?_,?_,?_⟩ <;> simp [go_sem]) | exact trivial) (first | (go_at_call 164;refine(lG _ _).mono ?_;unfold aK aS;rintro r w1 ⟨rfl,rfl⟩) | (go_at_call 163;refine(mS _ _ _ _).mono ?_;unfold aK aS;rintro r w1 ⟨rfl,rfl⟩))
 go_wp2_with fail
 refine Zt (aL rfl _ _ (w.heap.size+1) 0 0 0 rfl ?_) rfl ⟨rfl,?_⟩
 . (repeat' (first | exact heap_alloc2_new _ _ _ | exact Zw _ _ | refine iW ?_ | refine dX _ ?_))
 . (repeat' (first | exact Yg _ _ | refine Below.drew ?_ | refine Below.alloc ?_ (by simp <;> omega) _))
theorem aJp(e l:Int) (hk:(e==0)=false) (w:World):
 Calls Tryz.prog 116 #[.int .i64 1,aK 1 e l] w fun r w'=>r=.returned (.tuple #[aK 0 0 0,.bool false])/\Below w.heap.size w w':=by
 unfold aK
 go_enter Tryz.func116,Tryz.ntmps116
 go_wp2_with fail
 go_region_held3 (fun W=>W.cell? ⟨w.heap.size,0,none⟩=some (.int .i64 1)/\W.cell? ⟨w.heap.size,1,none⟩=some (.int .i64 e)/\W.cell? ⟨w.heap.size,2,none⟩=some (.int .i64 l)) (first | (refine⟨?_,?_,?_⟩ <;> simp [go_sem]) | exact trivial) (first | (go_at_call 164;refine(lG _ _).mono ?_;unfold aK aS;rintro r w1 ⟨rfl,rfl⟩) | (go_at_call 163;refine(mS _ _ _ _).mono ?_;unfold aK aS;rintro r w1 ⟨rfl,rfl⟩))
 go_wp2_with fail
 refine Zt (aL rfl _ _ (w.heap.size+1) 0 0 0 rfl ?_) rfl ⟨rfl,?_⟩
 . (repeat' (first | exact heap_alloc2_new _ _ _ | exact Zw _ _ | refine iW ?_ | refine dX _ ?_))
 . (repeat' (first | exact Yg _ _ | refine Below.drew ?_ | refine Below.alloc ?_ (by simp <;> omega) _))
theorem aJq(l:Int) (hk:(l==0)=false) (w:World):
 Calls Tryz.prog 116 #[.int .i64 1,aK 1 0 l] w fun r w'=>r=.returned (.tuple #[aK 0 0 0,.bool false])/\Below w.heap.size w w':=by
 unfold aK
 go_enter Tryz.func116,Tryz.ntmps116
 go_wp2_with fail
 go_region_held3 (fun W=>W.cell? ⟨w.heap.size,0,none⟩=some (.int .i64 1)/\W.cell? ⟨w.heap.size,1,none⟩=some (.int .i64 0)/\W.cell? ⟨w.heap.size,2,none⟩=some (.int .i64 l)) (first | (refine⟨?_,?_,?_⟩ <;> simp [go_sem]) | exact trivial) (first | (go_at_call 164;refine(lG _ _).mono ?_;unfold aK aS;rintro r w1 ⟨rfl,rfl⟩) | (go_at_call 163;refine(mS _ _ _ _).mono ?_;unfold aK aS;rintro r w1 ⟨rfl,rfl⟩))
 go_wp2_with fail
 refine Zt (aL rfl _ _ (w.heap.size+1) 0 0 0 rfl ?_) rfl ⟨rfl,?_⟩
 . (repeat' (first | exact heap_alloc2_new _ _ _ | exact Zw _ _ | refine iW ?_ | refine dX _ ?_))
 . (repeat' (first | exact Yg _ _ | refine Below.drew ?_ | refine Below.alloc ?_ (by simp <;> omega) _))
theorem aJr(w:World):
 Calls Tryz.prog 116 #[.int .i64 2,aK 2 0 0] w fun r w'=>r=.returned (.tuple #[aK 2 0 0,.bool true])/\Below w.heap.size w w':=by
 unfold aK
 go_enter Tryz.func116,Tryz.ntmps116
 go_wp2_with fail
 go_region_held3 (fun W=>W.cell? ⟨w.heap.size,0,none⟩=some (.int .i64 2)/\W.cell? ⟨w.heap.size,1,none⟩=some (.int .i64 0)/\W.cell? ⟨w.heap.size,2,none⟩=some (.int .i64 0)) (first | (refine⟨?_,?_,?_⟩ <;> simp [go_sem]) | exact trivial) (first | (go_at_call 164;refine(lG _ _).mono ?_;unfold aK aS;rintro r w1 ⟨rfl,rfl⟩) | (go_at_call 163;refine(rH _ _ _ _).mono ?_;unfold aK aS;rintro r w1 ⟨rfl,rfl⟩))
 go_wp2_with fail
 refine Zt (aL rfl _ _ (w.heap.size+1) 2 0 0 rfl ?_) rfl ⟨rfl,?_⟩
 . (repeat' (first | exact heap_alloc2_new _ _ _ | exact Zw _ _ | refine iW ?_ | refine dX _ ?_))
 . (repeat' (first | exact Yg _ _ | refine Below.drew ?_ | refine Below.alloc ?_ (by simp <;> omega) _))
theorem aJs(k e l:Int) (hk:(k==2)=false) (w:World):
 Calls Tryz.prog 116 #[.int .i64 2,aK k e l] w fun r w'=>r=.returned (.tuple #[aK 0 0 0,.bool false])/\Below w.heap.size w w':=by
 unfold aK
 go_enter Tryz.func116,Tryz.ntmps116
 go_wp2_with fail
 go_region_held3 (fun W=>W.cell? ⟨w.heap.size,0,none⟩=some (.int .i64 k)/\W.cell? ⟨w.heap.size,1,none⟩=some (.int .i64 e)/\W.cell? ⟨w.heap.size,2,none⟩=some (.int .i64 l)) (first | (refine⟨?_,?_,?_⟩ <;> simp [go_sem]) | exact trivial) (first | (go_at_call 164;refine(lG _ _).mono ?_;unfold aK aS;rintro r w1 ⟨rfl,rfl⟩) | (go_at_call 163;refine(mS _ _ _ _).mono ?_;unfold aK aS;rintro r w1 ⟨rfl,rfl⟩))
 go_wp2_with fail
 refine Zt (aL rfl _ _ (w.heap.size+1) 0 0 0 rfl ?_) rfl ⟨rfl,?_⟩
 . (repeat' (first | exact heap_alloc2_new _ _ _ | exact Zw _ _ | refine iW ?_ | refine dX _ ?_))
 . (repeat' (first | exact Yg _ _ | refine Below.drew ?_ | refine Below.alloc ?_ (by simp <;> omega) _))
theorem aJt(e l:Int) (hk:(e==0)=false) (w:World):
 Calls Tryz.prog 116 #[.int .i64 2,aK 2 e l] w fun r w'=>r=.returned (.tuple #[aK 0 0 0,.bool false])/\Below w.heap.size w w':=by
 unfold aK
 go_enter Tryz.func116,Tryz.ntmps116
 go_wp2_with fail
 go_region_held3 (fun W=>W.cell? ⟨w.heap.size,0,none⟩=some (.int .i64 2)/\W.cell? ⟨w.heap.size,1,none⟩=some (.int .i64 e)/\W.cell? ⟨w.heap.size,2,none⟩=some (.int .i64 l)) (first | (refine⟨?_,?_,?_⟩ <;> simp [go_sem]) | exact trivial) (first | (go_at_call 164;refine(lG _ _).mono ?_;unfold aK aS;rintro r w1 ⟨rfl,rfl⟩) | (go_at_call 163;refine(mS _ _ _ _).mono ?_;unfold aK aS;rintro r w1 ⟨rfl,rfl⟩))
 go_wp2_with fail
 refine Zt (aL rfl _ _ (w.heap.size+1) 0 0 0 rfl ?_) rfl ⟨rfl,?_⟩
 . (repeat' (first | exact heap_alloc2_new _ _ _ | exact Zw _ _ | refine iW ?_ | refine dX _ ?_))
 . (repeat' (first | exact Yg _ _ | refine Below.drew ?_ | refine Below.alloc ?_ (by simp <;> omega) _))
theorem aJu(l:Int) (hk:(l==0)=false) (w:World):
 Calls Tryz.prog 116 #[.int .i64 2,aK 2 0 l] w fun r w'=>r=.returned (.tuple #[aK 0 0 0,.bool false])/\Below w.heap.size w w':=by
 unfold aK
 go_enter Tryz.func116,Tryz.ntmps116
 go_wp2_with fail
 go_region_held3 (fun W=>W.cell? ⟨w.heap.size,0,none⟩=some (.int .i64 2)/\W.cell? ⟨w.heap.size,1,none⟩=some (.int .i64 0)/\W.cell? ⟨w.heap.size,2,none⟩=some (.int .i64 l)) (first | (refine⟨?_,?_,?_⟩ <;> simp [go_sem]) | exact trivial) (first | (go_at_call 164;refine(lG _ _).mono ?_;unfold aK aS;rintro r w1 ⟨rfl,rfl⟩) | (go_at_call 163;refine(mS _ _ _ _).mono ?_;unfold aK aS;rintro r w1 ⟨rfl,rfl⟩))
 go_wp2_with fail
 refine Zt (aL rfl _ _ (w.heap.size+1) 0 0 0 rfl ?_) rfl ⟨rfl,?_⟩
 . (repeat' (first | exact heap_alloc2_new _ _ _ | exact Zw _ _ | refine iW ?_ | refine dX _ ?_))
 . (repeat' (first | exact Yg _ _ | refine Below.drew ?_ | refine Below.alloc ?_ (by simp <;> omega) _))
theorem aJv(op k e l:Int) (h1:(op==1)=false) (h2:(op==2)=false) (w:World):
 Calls Tryz.prog 116 #[.int .i64 op,aK k e l] w fun r w'=>r=.returned (.tuple #[aK 0 0 0,.bool false])/\Below w.heap.size w w':=by
 unfold aK
 go_enter Tryz.func116,Tryz.ntmps116
 go_wp2_with fail
 refine Zt (aL rfl _ _ (w.heap.size+1) 0 0 0 rfl ?_) rfl ⟨rfl,?_⟩
 . (repeat' (first | exact heap_alloc2_new _ _ _ | exact Zw _ _ | refine iW ?_ | refine dX _ ?_))
 . (repeat' (first | exact Yg _ _ | refine Below.drew ?_ | refine Below.alloc ?_ (by simp <;> omega) _))
theorem aRq(op k e l:Int) (w:World):
 Calls Tryz.prog 116 #[.int .i64 op,aK k e l] w fun r w'=>r=.returned (.tuple #[kV (cX op k e l),.bool (cX op k e l).isSome])/\Below w.heap.size w w':=by
 by_cases o1:op=1
 . subst o1
   by_cases hk:k=1
   . subst hk
     by_cases he:e=0
     . subst he
       by_cases hl:l=0
       . subst hl;exact aJn w
       . have e:cX 1 1 0 l=none:=by simp [cX,hl]
         rw [e];exact aJq l (by simpa using hl) w
     . have e:cX 1 1 e l=none:=by simp [cX,he]
       rw [e];exact aJp _ l (by simpa using he) w
   . have e:cX 1 k e l=none:=by simp [cX,hk]
     rw [e];exact aJo k _ l (by simpa using hk) w
 . by_cases o2:op=2
   . subst o2
     by_cases hk:k=2
     . subst hk
       by_cases he:e=0
       . subst he
         by_cases hl:l=0
         . subst hl;exact aJr w
         . have e:cX 2 2 0 l=none:=by simp [cX,hl]
           rw [e];exact aJu l (by simpa using hl) w
       . have e:cX 2 2 e l=none:=by simp [cX,he]
         rw [e];exact aJt _ l (by simpa using he) w
     . have e:cX 2 k e l=none:=by simp [cX,hk]
       rw [e];exact aJs k _ l (by simpa using hk) w
   . have e:cX op k e l=none:=by simp [cX,o1,o2]
     rw [e];exact aJv op k _ l (by simpa using o1) (by simpa using o2) w
end
section
open Go.RowKit Go.Sort
theorem zC(k e l:Int) (w:World):
 Calls Tryz.prog 122 #[aK k e l] w fun r w'=>r=.returned (aK k e 0)/\Below w.heap.size w w':=by
 unfold aK;have HB:=Hd (((Yg w.heap.size w).alloc (Yh _) (.cells #[.int .i64 k,.int .i64 e,.int .i64 0] 38)).alloc (by simp) (.cells #[.int .i64 k,.int .i64 e,.int .i64 0] 38))
 go_enter Tryz.func122,Tryz.ntmps122
 go_wp2_with fail
 refine Zt (v:=.agg #[.int .i64 k,.int .i64 e,.int .i64 0]) ?_ rfl ⟨rfl,HB.o⟩
 simp [results,Tryz.f122,go_sem]
end
section
set_option maxRecDepth 100000
open Go.RowKit Go.ChangeShapes Go.WideShapes Go.Deep
theorem aMq:Tryz.prog.cellsOf 79=2:=by kernel_rfl
theorem aMr:Tryz.prog.cellsOf 38=3:=by kernel_rfl
theorem aMs:Tryz.prog.cellsOf 3=1:=by kernel_rfl
theorem aMt:Tryz.prog.cellsOf 9=1:=by kernel_rfl
theorem aJw:Tryz.prog.cellsOf 32=1:=by kernel_rfl
section
variable {H:Type}{enc:TypeId × Value->H}{w:World}{base:Nat}{spare:Nat->Bool}{held:Bool}
theorem aJx{Ab:Nat}{v:Value}{x:DataW H × List MemPlace}(h:DataW.trod enc Tryz.prog w base spare held Ab 32 [v]=some x):∃ A n c ss,v=.slice A n c/\aN w A n ss:=by
 rcases Go.ChangeShapes.open_strings Tryz.underlying32 Tryz.underlying9 (by kernel_rfl) h with⟨Aa,_⟩|⟨x,l,c,ss,Aa,_,hl,hm,hss,_,hcell,hz⟩
 . simp at Aa
   subst Aa;exact⟨none,0,0,[],rfl,aN.nil_ _⟩
 . simp at Aa
   subst Aa;have Ac:l<=ss.length:=by rw [hss];split <;> omega
   exact⟨some x,l,c,ss.take l,rfl,aD5 Ac (by unfold maxLen at hm;omega) hcell⟩
theorem aPg{Aa:Nat}{cs:List Value}{x:DataW H × List MemPlace}(h:DataW.trod enc Tryz.prog w base spare held Aa 79 cs=some x) (hl:cs.length=2):
 ∃ e:En,∃ A n c,cs=[.string e.1,.slice A n c]/\aN w A n e.2:=by
 obtain⟨ys,m,_,_,_,hy,hf⟩:=DataW.trod_struct Tryz.underlying79 h
 match cs,hl with
 | [v0,v1],_=>
  match ys,hy with
  | [y0,y1],_=>
   have t0:=hf 0 _ rfl;have t1:=hf 1 _ rfl
   simp [aMt,aJw] at t0 t1
   obtain⟨s,e0,_,_⟩:=DataW.trod_string Tryz.underlying9 t0;obtain⟨A,n,c,ss,rfl,hr⟩:=aJx t1;injection e0 with e0;subst e0;exact⟨(s,ss),A,n,c,rfl,hr⟩
theorem aHz{Ad:Nat}{A:Option Addr}{n c:Nat}{x:DataW H × List MemPlace}(h:DataW.trod enc Tryz.prog w base spare held Ad 22 [.slice A n c]=some x):∃ es,bV w A n es:=by
 rcases open_slice Tryz.underlying22 h with⟨Aa,_⟩|⟨a,len,cap,m,nn,D,Pl,Aa,_,hl,hm,hmm,_,hi⟩
 . simp at Aa
   obtain⟨rfl,rfl,rfl⟩:=Aa;exact⟨[],bV.nil_ _⟩
 . simp at Aa
   obtain⟨rfl,rfl,rfl⟩:=Aa;have Al:n<=m:=by rw [hmm];split <;> omega
   have Af:∀ i,i<n->∃ e:En,w.cell? (a.add (i*2))=some (.string e.1)/\∃ A' n' c',w.cell? (a.add (i*2+1))=some (.slice A' n' c')/\aN w A' n' e.2:=by
    intro i Ak;obtain⟨Am,hc,ht⟩:=hi i (by omega);rw [aMq] at hc;obtain⟨_,Aj,Ai⟩:=World.cells?_some hc;obtain⟨e,A',n',c',e1,hp⟩:=aPg ht Aj;have h0:=Ai (i:=0) (by omega);have h1:=Ai (i:=1) (by omega);rw [e1] at h0 h1;rw [Go.Deep.add_add] at h0 h1;exact⟨e,by simpa using h0,A',n',c',by simpa using h1,hp⟩
   obtain⟨f,hf⟩:=choose_lt (α:=En) Af;have Ah:∀ i,i<n->((List.range n).map f)[i]?.getD (ByteArray.empty,[])=f i:=fun i hi=>by simp [List.getElem?_map,List.getElem?_range hi]
   refine⟨(List.range n).map f,by simp,by unfold maxLen at hm;omega,fun hn=>?_⟩;obtain⟨b,Ae,Ag⟩:=a;have h0:=(hf 0 hn).1;have Ab:Ag=none:=by simpa [Addr.add] using World.cell?_spot h0
   subst Ab;have Ac:∀ i,(⟨b,Ae,none⟩:Addr).add i=⟨b,Ae+i,none⟩:=fun i=>by unfold Addr.add;split <;> simp_all
   refine⟨b,Ae,rfl,Yi w _ ((Ac 0) ▸ h0),fun i hi=>?_⟩;obtain⟨hc,A',n',c',h2,h3⟩:=hf i hi;rw [Ac] at hc h2;unfold eK bT;rw [Ah i hi];exact⟨hc,A',n',c',h2,h3⟩
theorem aMu{Aa:Nat}{cs:List Value}{x:DataW H × List MemPlace}(h:DataW.trod enc Tryz.prog w base spare held Aa 38 cs=some x) (hl:cs.length=3):
 ∃ k e l:Int,cs=[.int .i64 k,.int .i64 e,.int .i64 l]:=by
 obtain⟨ys,m,_,_,_,hy,hf⟩:=DataW.trod_struct Tryz.underlying38 h
 match cs,hl with
 | [v0,v1,v2],_=>
  match ys,hy with
  | [y0,y1,y2],_=>
   have t0:=hf 0 _ rfl;have t1:=hf 1 _ rfl;have t2:=hf 2 _ rfl
   simp [aMs] at t0 t1 t2
   obtain⟨k,e0,_,_⟩:=DataW.trod_int Tryz.underlying3 t0;obtain⟨e,e1,_,_⟩:=DataW.trod_int Tryz.underlying3 t1;obtain⟨l,e2,_,_⟩:=DataW.trod_int Tryz.underlying3 t2;injection e0 with e0;injection e1 with e1;injection e2 with e2;subst e0 e1 e2;exact⟨k,e,l,rfl⟩
end
end
end Go.Proofs.YtegjgiofmpolnaaGreat
