/- Parts of the proof: TrA. Conditions: each theorem's own. -/
import Derived.Test.YtkbpdoomhfkngaaGreatR15
import Derived.Test.YtkbpdoomhfkngaaGreatR24
namespace Go.Proofs.YtkbpdoomhfkngaaGreat
set_option linter.unusedVariables false
set_option linter.unusedSimpArgs false
set_option maxRecDepth 100000
set_option maxHeartbeats 40000000
section
open Go.RowKit Go.Sort Go.BigFrame
theorem trSingle(k:Int) (w:World):
 Calls Tryz.prog 120 #[.int .i64 k] w fun r w'=>r=.returned (.agg (f3A k 0 0))∧Below w.heap.size w w':=by
 unfold f3A
 go_enter Tryz.func120,Tryz.ntmps120
 go_wp2_with fail
 exact bodyPost_ret (res_ty rfl _ _ w.heap.size k 0 0 rfl (heap_alloc_new _ _)) rfl ⟨rfl,(Below.refl _ _).alloc (Nat.le_refl _) _⟩
theorem trOnly(a b c:Int) (so:Bool) (w:World):
 Calls Tryz.prog 145 #[.agg (f3A a b c),.bool so] w (TyZ w (if so=true then some (a,b,c) else none)):=by
 cases so with
 | false=>
  unfold TyZ f3A
  go_enter Tryz.func145,Tryz.ntmps145
  go_wp2_with fail
  exact bodyPost_ret (res_ty2 rfl _ _ (w.heap.size+1) 0 0 0 rfl (heap_alloc2_new _ _ _)) rfl ⟨rfl,((Below.refl _ _).alloc (Nat.le_refl _) _).alloc (by simp) _⟩
 | true=>
  unfold TyZ f3A
  go_enter Tryz.func145,Tryz.ntmps145
  go_wp2_with fail
  exact bodyPost_ret (res_ty2 rfl _ _ (w.heap.size+1) a b c rfl (heap_alloc2_new _ _ _)) rfl ⟨rfl,((Below.refl _ _).alloc (Nat.le_refl _) _).alloc (by simp) _⟩
theorem RdY.lit(w:World) (a b c:Int) (T:TypeId):RdY (w.alloc (.cells #[.int .i64 a,.int .i64 b,.int .i64 c] T)) (some ⟨w.heap.size,0,none⟩) 1 [(a,b,c)]:=
 ⟨rfl,by omega,fun _=>⟨_,0,rfl,by simp,fun i hi=>by
  obtain rfl:i=0:=by omega
  intro j v hv;rw [World.cell?_alloc_new]
  show(#[Value.int .i64 a,.int .i64 b,.int .i64 c]:Array Value)[0+0*3+j]?=some v
  rw [show 0+0*3+j=j by omega]
  simpa [tyL3] using hv⟩⟩
theorem trAll(a b c:Int) (A:Option Addr) (n cp:Nat) (l:List T3) (w:World) (h:RdY w A n l):
 Calls Tryz.prog 119 #[.agg (f3A a b c),.slice A n cp] w fun e w'=>e=.returned (.bool (allB (a,b,c) l))∧Below w.heap.size w w':=by
 have hl:=h.len;have hm:=h.max;have HR:=Hd h;have HNO:=Hd fun i hi hn=>allB_no (t:=(a,b,c)) (l:=l) (i:=i) hi hn;have HYS:=Hd fun h=>allB_yes (t:=(a,b,c)) (l:=l) h;clear h;generalize allB (a,b,c) l=out at *;unfold f3A
 go_enter Tryz.func119,Tryz.ntmps119
 go_upto_region 1 with(fail)
 generalize hw1:w.alloc _=w1;obtain⟨hb1,hF1,hg1⟩:=ty_box hw1;have HB1:=Hd hb1;have HF1:=Hd hF1;clear hw1 hb1 hF1 hg1
 go_wp2_with fail
 go_loopw [9] (fun i wr=>∃ k:Nat,k≤n∧i=.int .i64 k∧(∀ j,j<k→atT l j=(a,b,c))∧Below w1.heap.size w1 wr) (fun i _=>n-(intOf i).toNat)
 case atStart=>exact⟨0,Nat.zero_le _,rfl,fun j hj=>absurd hj (by omega),Below.refl _ _⟩
 case round=>
  obtain⟨k,hk,rfl,hto,hbr⟩:=hrel;have HTO:=Hd hto;have HBR:=Hd hbr;have HF:=Hd (HF1.out.below hbr);have HBW:=Hd (HB1.out.trans (hbr.mono HB1.out.size));clear hto hbr
  by_cases hlt:k<n
  · obtain⟨sb,off,rfl,hsb,hc⟩:=(HR.out.below HBW.out).at_ hlt;obtain⟨c0,c1,c2⟩:=hc k hlt;have HN:=Hd (HNO.out k (by omega));have HT2:=Hd fun(e:atT l k=(a,b,c))=>to_next (P:=fun j=>atT l j=(a,b,c)) HTO.out e;clear hc;generalize atT l k=x at c0 c1 c2 HN HT2;obtain⟨x0,x1,x2⟩:=x
    dsimp only at c0 c1 c2
    go_upto_region 4 with(fail)
    generalize hw4:wr.alloc _=w4;obtain⟨hb4,hF4,hg4⟩:=ty_box hw4;have HB4:=Hd (HBR.out.trans (hb4.mono HBR.out.size));have f0:=(HF.out.below hb4).cell 0;have f1:=(HF.out.below hb4).cell 1;have f2:=(HF.out.below hb4).cell 2;obtain⟨e0,e1,e2,-,-,-⟩:=Sx hF4.cell;simp only [f3A,List.getElem?_toArray,List.getElem?_cons_zero,List.getElem?_cons_succ] at f0 f1 f2 e0 e1 e2;clear hw4 hb4 hF4 hg4 c0 c1 c2;rcases t3_cases x0 x1 x2 a b c with⟨h0,h1,h2,he⟩|⟨h1,he⟩|⟨h0,h1,he⟩|⟨h0,h1,h2,he⟩
    · have HT3:=Hd (HT2.out he);clear HT2 HN;subst h0 h1 h2
      go_wp2_with fail
      go_roundw
      case rel=>exact⟨k+1,by omega,by go_num,HT3.out,HB4.out⟩
      case measure=>simp [intOf];omega
    · have HO:=Hd (HN.out he);clear HN HT2 he
      go_wp2_with fail
      go_ret
      exact⟨ret_bool HO.out.symm,HB1.out.trans (HB4.out.mono HB1.out.size)⟩
    · have HO:=Hd (HN.out he);clear HN HT2 he;subst h0
      go_wp2_with fail
      go_ret
      exact⟨ret_bool HO.out.symm,HB1.out.trans (HB4.out.mono HB1.out.size)⟩
    · have HO:=Hd (HN.out he);clear HN HT2 he;subst h0 h1
      go_wp2_with fail
      go_ret
      exact⟨ret_bool HO.out.symm,HB1.out.trans (HB4.out.mono HB1.out.size)⟩
  · have HY:=Hd (HYS.out fun j hj=>HTO.out j (by omega))
    go_wp2_with fail
    go_ret
    exact⟨ret_bool HY.out.symm,HBW.out⟩
theorem slEqualY(A B:Option Addr) (n m c d:Nat) (l r:List T3) (w:World) (h:RdY w A n l) (h':RdY w B m r):
 Calls Tryz.prog 117 #[.slice A n c,.slice B m d] w fun e w'=>e=.returned (.bool (decide (l=r)))∧Below w.heap.size w w':=by
 have hl:=h.len;have hm:=h.max;have hl':=h'.len;have hm':=h'.max;have HR:=Hd h;have HR':=Hd h';have HLEN:=Hd (show n≠m→decide (l=r)=false from fun hne=>decide_eq_false fun e=>hne (by rw [← hl,← hl',e]));have HNO:=Hd (show ∀ i,i<n→¬ atT l i=atT r i→decide (l=r)=false from fun i hi hn=>decide_eq_false fun e=>hn (by rw [e]))
 have HYS:=Hd (show n=m→(∀ i,i<n→atT l i=atT r i)→decide (l=r)=true from fun hnm ha=>decide_eq_true (by
  apply List.ext_getElem (by omega)
  intro i h1 h2;have:=ha i (by omega);rwa [atT_get h1,atT_get h2] at this))
 clear h h';generalize decide (l=r)=out at *
 go_enter Tryz.func117,Tryz.ntmps117
 by_cases hnm:n=m
 · subst hnm;have hq:((n:Int) != (n:Int))=false:=by simp
   go_wp2_with fail
   go_loopw [5,13] (fun _ i wr=>∃ k:Nat,k≤n∧i=.int .i64 k∧(∀ j,j<k→atT l j=atT r j)∧∃ p,wr=w.drewN p) (fun _ i _=>n-(intOf i).toNat)
   case atStart=>exact⟨0,Nat.zero_le _,rfl,fun j hj=>absurd hj (by omega),0,rfl⟩
   case round=>
    obtain⟨k,hk,rfl,hto,p,rfl⟩:=hrel;have HTO:=Hd hto;clear hto
    by_cases hlt:k<n
    · obtain⟨b,off,rfl,hb,hc⟩:=HR.out.at_ hlt;obtain⟨c0,c1,c2⟩:=hc k hlt;obtain⟨b',off',rfl,hb',hc'⟩:=HR'.out.at_ hlt;obtain⟨d0,d1,d2⟩:=hc' k hlt;have HN:=Hd (HNO.out k hlt);have HT2:=Hd fun(e:atT l k=atT r k)=>to_next (P:=fun j=>atT l j=atT r j) HTO.out e;clear hc hc';generalize atT l k=x at c0 c1 c2 HN HT2;generalize atT r k=y at d0 d1 d2 HN HT2;obtain⟨x0,x1,x2⟩:=x;obtain⟨y0,y1,y2⟩:=y
      dsimp only at c0 c1 c2 d0 d1 d2
      rcases t3_cases x0 x1 x2 y0 y1 y2 with⟨rfl,rfl,rfl,he⟩|⟨h1,he⟩|⟨rfl,h1,he⟩|⟨rfl,rfl,h1,he⟩
      · have HT3:=Hd (HT2.out rfl);clear HT2 HN
        go_wp2_with fail
        go_quiet (fail)
        go_wp2_with fail
        go_roundw
        case rel=>exact⟨k+1,by omega,by go_num,fun j hj=>HT3.out j hj,_,rfl⟩
        case measure=>simp [intOf];omega
      all_goals
       have HO:=Hd (HN.out he);clear HN HT2 he
       go_wp2_with fail
       go_quiet (fail)
       go_wp2_with fail
       go_ret
       exact⟨ret_bool HO.out.symm,below_drewN (below_drewN (Below.refl _ _) _) _⟩
    · have HY:=Hd (HYS.out (by first | trivial | rfl) fun j hj=>HTO.out j (by omega))
      go_wp2_with fail
      go_ret
      exact⟨ret_bool HY.out.symm,below_drewN (Below.refl _ _) _⟩
 · have HO:=Hd (HLEN.out hnm);have hq:((n:Int) != (m:Int))=true:=by rw [bne_iff_ne];omega
   go_wp2_with fail
   go_ret
   exact⟨ret_bool HO.out.symm,Below.refl _ _⟩
def TysPost(w:World) (l:List T3) (e:Ending) (w':World):Prop:=∃ S c,e=.returned (.slice S l.length c)∧RdY w' S l.length l∧Below w.heap.size w w'
theorem trDeclared(A:Option Addr) (n cp:Nat) (l:List Dc) (w:World) (h:RdD w A n l) (hn:n≤1000):
 Calls Tryz.prog 118 #[.slice A n cp] w (TysPost w (l.map tyD)):=by
 have hln:=RdS.len h;have HR:=Hd h;have HDC:=Hd dc_facts
 have HTK:=Hd (show ∀ k,k<n→(l.take (k+1)).map tyD=(l.take k).map tyD++[tyD (l[k]?.getD default)] from fun k hk=>by
  rw [List.take_succ_eq_append_getElem (by omega),List.map_append,List.getElem?_eq_getElem (by omega)];rfl)
 have HZ:=Hd (show(l.take 0).map tyD=[] from rfl);have HEND:=Hd (show(l.take n).map tyD=l.map tyD by rw [List.take_of_length_le (by omega)]);have HLT:=Hd (show(l.map tyD).length=n by rw [List.length_map,hln]);obtain⟨i0,z0,hi0,hz1,hz0,hz2,hz3⟩:=info_three infoTy3;clear h hln
 go_enter Tryz.func118,Tryz.ntmps118
 go_wp2_with fail
 go_loopw [3,8] (fun v i wr=>∃ k:Nat,k≤n∧i=.int .i64 k∧wr.ownsRow w.heap.size 41 3 v k (flY ((l.take k).map tyD))∧Below w.heap.size w wr) (fun _ i _=>n-(intOf i).toNat)
 case atStart=>exact⟨0,Nat.zero_le _,rfl,by rw [HZ.out];exact World.ownsRow_nil _ _ _ _,Below.refl _ _⟩
 case round=>
  obtain⟨k,hk,rfl,hown,hbr⟩:=hrel;have HOWN:=Hd hown;have HBR:=Hd hbr;clear hown
  by_cases hlt:k<n
  · obtain⟨b,off,rfl,hb,d0,d1,d2,d3,d4,d5⟩:=dc_at (HR.out.below hbr) hlt;have HK:=Hd (HTK.out k hlt);clear hbr;generalize l[k]?.getD default=x at d0 d1 d2 d3 d4 d5 HK;have HD:=Hd fun w1 hw=>HDC.out wr x w1 hw;unfold dcA at HD
    go_upto_region 5 with(fail)
    generalize hw4:wr.alloc _=w4;obtain⟨hb4,hg4,hce⟩:=HD.out w4 hw4;have HB4:=Hd (HBR.out.trans (hb4.mono HBR.out.size));have HOW4:=Hd (own_belowU HOWN.out hb4);obtain⟨-,e1,e2,e3,-,-⟩:=Sx (hce w4 (Below.refl _ _));simp only [Ya,Yb,Yc] at e1 e2 e3;have hwz:=HB4.out.size;clear hw4 hb4 hg4 hce d0 d1 d2 d3 d4 d5 HD
    go_wp2_with (at_builtin;refine wpList_append_own_at _ rfl _ _ 93 rfl w.heap.size 41 i0 z0 3 24 Tryz.underlying93 hi0 hz1 hz0 hz2 hz3 (by decide) u3 k (flY ((l.take k).map tyD)) rfl (own_belowU HOW4.out ((Below.refl w4.heap.size w4).alloc (Nat.le_refl _) (.cells #[.int .i64 x.k,.int .i64 x.e,.int .i64 x.l] 41))) ⟨w4.heap.size,0,none⟩ 1 1 [.int .i64 x.k,.int .i64 x.e,.int .i64 x.l] rfl rfl (fun j u hu=>World.news_of_block (heap_alloc_new _ _) j u hu) (by simp [Value.oneCell']) (by unfold maxLen;omega) (by omega) (by simp;omega) ?_;intro v' w9 hown' hgrow hnil hloc;have HO9:=Hd hown';have HB9:=Hd (show Below w.heap.size w w9 from(HB4.out.alloc HB4.out.size _).grown hgrow (by simp;omega) (fun j hj=>(HOW4.out.lt j hj).1));clear hown' hgrow hnil hloc)
    go_roundw
    case rel=>exact⟨k+1,by omega,by go_num,by rw [HK.out,flY_app,flY_one];exact HO9.out,HB9.out⟩
    case measure=>simp [intOf];omega
  · obtain rfl:k=n:=by omega
    obtain⟨S,c,rfl,hry⟩:=RdY.of_own HOWN.out (by omega);have HRY:=Hd hry;clear hry hbr
    go_wp2_with fail
    go_ret
    exact⟨S,c,(by rw [HLT.out];rfl),by rw [HLT.out,← HEND.out];exact HRY.out,HBR.out⟩
end
end Go.Proofs.YtkbpdoomhfkngaaGreat
