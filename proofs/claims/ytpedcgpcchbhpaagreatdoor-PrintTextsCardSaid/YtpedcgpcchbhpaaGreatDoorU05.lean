/- Parts of the proof: ExS, ExN, EyB, EyC. Conditions: each theorem's own. -/
import Derived.Test.YtpedcgpcchbhpaaGreatDoorU03
import Derived.Test.YtpedcgpcchbhpaaGreatDoorU04
namespace Go.Proofs.YtpedcgpcchbhpaaGreatDoor
set_option linter.unusedVariables false
set_option linter.unusedSimpArgs false
set_option maxRecDepth 100000
set_option maxHeartbeats 40000000
section
open Go.RowKit Go.Sort
mutual
def sameX:Ex→Ex→Bool
 | .mk k n s op arms subs,y=>(k==y.k) && (n==y.n) && (s.toList==y.s.toList) && (op==y.op) && sameT arms y.arms && sameXs subs y.subs
def sameXs:List Ex→List Ex→Bool
 | [],[]=>true
 | x::l,y::m=>sameX x y && sameXs l m
 | _,_=>false
end
theorem sameX_eq(x y:Ex):sameX x y=((x.k==y.k) && (x.n==y.n) && (x.s.toList==y.s.toList) && (x.op==y.op) && sameT x.arms y.arms && sameXs x.subs y.subs):=by
 cases x;simp only [sameX,Ex.k,Ex.n,Ex.s,Ex.op,Ex.arms,Ex.subs]
theorem sameXs_len:∀ {l m:List Ex},l.length≠m.length→sameXs l m=false
 | [],[],h=>absurd rfl h
 | x::l,y::m,h=>by
  simp only [sameXs,sameXs_len (l:=l) (m:=m) (fun e=>h (by simp [e])),Bool.and_false]
 | [],_::_,_=>by simp only [sameXs]
 | _::_,[],_=>by simp only [sameXs]
theorem sameXs_at:∀ {l m:List Ex}{i:Nat},i<l.length→i<m.length→sameX (l[i]?.getD default) (m[i]?.getD default)=false→sameXs l m=false
 | [],_,i,h,_,_=>absurd h (by simp)
 | _::_,[],i,_,h,_=>absurd h (by simp)
 | x::l,y::m,0,_,_,h=>by
  simp only [List.getElem?_cons_zero,Option.getD_some] at h;simp only [sameXs,h,Bool.false_and]
 | x::l,y::m,i+1,h1,h2,h=>by
  simp only [List.getElem?_cons_succ] at h;simp only [sameXs,sameXs_at (by simpa using h1) (by simpa using h2) h,Bool.and_false]
theorem sameXs_yes:∀ {l m:List Ex},l.length=m.length→(∀ i,i<l.length→sameX (l[i]?.getD default) (m[i]?.getD default)=true)→sameXs l m=true
 | [],[],_,_=>by simp only [sameXs]
 | [],_::_,h,_=>by simp at h
 | _::_,[],h,_=>by simp at h
 | x::l,y::m,h,H=>by
  simp only [sameXs,Bool.and_eq_true];refine⟨by simpa using H 0 (by simp),sameXs_yes (by simpa using h) fun i hi=>?_⟩
  simpa using H (i+1) (by simpa using hi)
theorem box2_facts(w:World) (x y:Ex) (A A':Option Addr) (ca ca':Nat) (B B':Option Addr) (cb cb':Nat) (w1:World) (h:(w.alloc (.cells (exA x A ca B cb) 47)).alloc (.cells (exA y A' ca' B' cb') 47)=w1) (hr:rdX w x A B) (hr':rdX w y A' B'):
 Below w.heap.size w w1∧w.heap.size+1<w1.heap.size∧rdX w1 x A B∧rdX w1 y A' B'∧(∀ w',Below w1.heap.size w1 w'→∀ j,w'.cell? ⟨w.heap.size,j,none⟩=(exA x A ca B cb)[j]?)∧∀ w',Below w1.heap.size w1 w'→∀ j,w'.cell? ⟨w.heap.size+1,j,none⟩=(exA y A' ca' B' cb')[j]?:=by
 subst h;refine⟨((Below.refl _ _).alloc (Nat.le_refl _) _).alloc (by simp) _,by simp,(hr.alloc _).alloc _,(hr'.alloc _).alloc _,fun w' hb j=>?_,fun w' hb j=>?_⟩
 · rw [hb.cell (p:=⟨w.heap.size,j,none⟩) (by simp;omega),World.cell?_alloc_lt _ _ _ (by simp),World.cell?_alloc_new]
 · rw [hb.cell (p:=⟨w.heap.size+1,j,none⟩) (by simp)];have:=World.cell?_alloc_new (w.alloc (.cells (exA x A ca B cb) 47)) (exA y A' ca' B' cb') 47 j;rwa [World.size_alloc] at this
theorem refSame:∀ (x:Ex) (A:Option Addr) (ca:Nat) (B:Option Addr) (cb:Nat) (y:Ex) (A':Option Addr) (ca':Nat) (B':Option Addr) (cb':Nat) (w:World),rdX w x A B→rdX w y A' B' →
 Calls Tryz.prog 64 #[.agg (exA x A ca B cb),.agg (exA y A' ca' B' cb')] w fun e w'=>e=.returned (.bool (sameX x y))∧Below w.heap.size w w':=by
 refine size_ind fun x ih A ca B cb y A' ca' B' cb' w hr hr'=>?_;have HIH:=Hd ih;have hmx:=hr.subs.max;have hmx':=hr'.subs.max;have HF:=Hd fun w1 h=>box2_facts w x y A A' ca ca' B B' cb cb' w1 h hr hr';have HNM:=Hd fun w1 (h:Below w.heap.size w w1)=>refNames A A' x.arms.length y.arms.length ca ca' x.arms y.arms w1 (hr.below h).arms (hr'.below h).arms;have HS:=Hd (sameX_eq x y);have HXL:=Hd fun h=>sameXs_len (l:=x.subs) (m:=y.subs) h;have HXA:=Hd fun i h1 h2 h=>sameXs_at (l:=x.subs) (m:=y.subs) (i:=i) h1 h2 h;have HXY:=Hd fun h1 h2=>sameXs_yes (l:=x.subs) (m:=y.subs) h1 h2;clear ih hr hr';unfold exA at HF HIH ⊢;generalize hlen:x.subs.length=n1 at *;generalize hlen':y.subs.length=n2 at *;generalize sameX x y=res at *;generalize x.k=k1 at *;generalize y.k=k2 at *;generalize x.n=m1 at *;generalize y.n=m2 at *;generalize x.s=s1 at *;generalize y.s=s2 at *;generalize x.op=o1 at *;generalize y.op=o2 at *;generalize sameT x.arms y.arms=nb at *;generalize x.arms.length=a1 at *;generalize y.arms.length=a2 at *;generalize hk:(k1==k2)=bk at *;generalize hm:(m1==m2)=bm at *;generalize hs:(s1.toList==s2.toList)=bs at *;generalize ho:(o1==o2)=bo at *;have nk:(k1 != k2)=!bk:=by rw [bne,hk]
 have nm:(m1 != m2)=!bm:=by rw [bne,hm]
 have ns:(s1.toList != s2.toList)=!bs:=by rw [bne,hs]
 have no:(o1 != o2)=!bo:=by rw [bne,ho]
 clear hk hm ho
 cases bk with
 | false=>
  have HN:=Hd (show res=false by rw [HS.out];rfl)
  go_enter Tryz.func64,Tryz.ntmps64
  go_upto_region 1 with(fail)
  generalize hw1:(w.alloc _).alloc _=w1;obtain⟨hb1,hg,hr1,hr2,hcell,hcell2⟩:=HF.out w1 hw1;have HB1:=Hd hb1;have q0:=hcell w1 (Below.refl _ _) 0;have p0:=hcell2 w1 (Below.refl _ _) 0;clear hcell hcell2 hb1 hr1 hr2 hw1 HF
  go_wp2_with fail
  go_ret
  exact⟨ret_bool HN.out.symm,HB1.out⟩
 | true=>
  cases bm with
  | false=>
   have HN:=Hd (show res=false by rw [HS.out];simp)
   go_enter Tryz.func64,Tryz.ntmps64
   go_upto_region 1 with(fail)
   generalize hw1:(w.alloc _).alloc _=w1;obtain⟨hb1,hg,hr1,hr2,hcell,hcell2⟩:=HF.out w1 hw1;have HB1:=Hd hb1;have HC:=Hd hcell;have HC2:=Hd hcell2;have HR1:=Hd hr1;have HR2:=Hd hr2;have HN1:=Hd (HNM.out w1 hb1);have q0:=hcell w1 (Below.refl _ _) 0;have p0:=hcell2 w1 (Below.refl _ _) 0;have q1:=hcell w1 (Below.refl _ _) 1;have p1:=hcell2 w1 (Below.refl _ _) 1;have q2:=hcell w1 (Below.refl _ _) 2;have p2:=hcell2 w1 (Below.refl _ _) 2;have q3:=hcell w1 (Below.refl _ _) 3;have p3:=hcell2 w1 (Below.refl _ _) 3;have q4:=hcell w1 (Below.refl _ _) 4;have p4:=hcell2 w1 (Below.refl _ _) 4;have q5:=hcell w1 (Below.refl _ _) 5;have p5:=hcell2 w1 (Below.refl _ _) 5;clear hcell hcell2 hb1 hr1 hr2 hw1 HF
   go_wp2_with fail
   go_ret
   exact⟨ret_bool HN.out.symm,HB1.out⟩
  | true=>
   cases bs with
   | false=>
    have HN:=Hd (show res=false by rw [HS.out];simp)
    go_enter Tryz.func64,Tryz.ntmps64
    go_upto_region 1 with(fail)
    generalize hw1:(w.alloc _).alloc _=w1;obtain⟨hb1,hg,hr1,hr2,hcell,hcell2⟩:=HF.out w1 hw1;have HB1:=Hd hb1;have HC:=Hd hcell;have HC2:=Hd hcell2;have HR1:=Hd hr1;have HR2:=Hd hr2;have HN1:=Hd (HNM.out w1 hb1);have q0:=hcell w1 (Below.refl _ _) 0;have p0:=hcell2 w1 (Below.refl _ _) 0;have q1:=hcell w1 (Below.refl _ _) 1;have p1:=hcell2 w1 (Below.refl _ _) 1;have q2:=hcell w1 (Below.refl _ _) 2;have p2:=hcell2 w1 (Below.refl _ _) 2;have q3:=hcell w1 (Below.refl _ _) 3;have p3:=hcell2 w1 (Below.refl _ _) 3;have q4:=hcell w1 (Below.refl _ _) 4;have p4:=hcell2 w1 (Below.refl _ _) 4;have q5:=hcell w1 (Below.refl _ _) 5;have p5:=hcell2 w1 (Below.refl _ _) 5;clear hcell hcell2 hb1 hr1 hr2 hw1 HF
    go_wp2_with fail
    go_ret
    exact⟨ret_bool HN.out.symm,HB1.out⟩
   | true=>
    cases bo with
    | false=>
     have HN:=Hd (show res=false by rw [HS.out];simp)
     go_enter Tryz.func64,Tryz.ntmps64
     go_upto_region 1 with(fail)
     generalize hw1:(w.alloc _).alloc _=w1;obtain⟨hb1,hg,hr1,hr2,hcell,hcell2⟩:=HF.out w1 hw1;have HB1:=Hd hb1;have HC:=Hd hcell;have HC2:=Hd hcell2;have HR1:=Hd hr1;have HR2:=Hd hr2;have HN1:=Hd (HNM.out w1 hb1);have q0:=hcell w1 (Below.refl _ _) 0;have p0:=hcell2 w1 (Below.refl _ _) 0;have q1:=hcell w1 (Below.refl _ _) 1;have p1:=hcell2 w1 (Below.refl _ _) 1;have q2:=hcell w1 (Below.refl _ _) 2;have p2:=hcell2 w1 (Below.refl _ _) 2;have q3:=hcell w1 (Below.refl _ _) 3;have p3:=hcell2 w1 (Below.refl _ _) 3;have q4:=hcell w1 (Below.refl _ _) 4;have p4:=hcell2 w1 (Below.refl _ _) 4;have q5:=hcell w1 (Below.refl _ _) 5;have p5:=hcell2 w1 (Below.refl _ _) 5;clear hcell hcell2 hb1 hr1 hr2 hw1 HF
     go_wp2_with fail
     go_ret
     exact⟨ret_bool HN.out.symm,HB1.out⟩
    | true=>
     cases nb with
     | false=>
      have HN:=Hd (show res=false by rw [HS.out];simp)
      go_enter Tryz.func64,Tryz.ntmps64
      go_upto_region 1 with(fail)
      generalize hw1:(w.alloc _).alloc _=w1;obtain⟨hb1,hg,hr1,hr2,hcell,hcell2⟩:=HF.out w1 hw1;have HB1:=Hd hb1;have HC:=Hd hcell;have HC2:=Hd hcell2;have HR1:=Hd hr1;have HR2:=Hd hr2;have HN1:=Hd (HNM.out w1 hb1);have q0:=hcell w1 (Below.refl _ _) 0;have p0:=hcell2 w1 (Below.refl _ _) 0;have q1:=hcell w1 (Below.refl _ _) 1;have p1:=hcell2 w1 (Below.refl _ _) 1;have q2:=hcell w1 (Below.refl _ _) 2;have p2:=hcell2 w1 (Below.refl _ _) 2;have q3:=hcell w1 (Below.refl _ _) 3;have p3:=hcell2 w1 (Below.refl _ _) 3;have q4:=hcell w1 (Below.refl _ _) 4;have p4:=hcell2 w1 (Below.refl _ _) 4;have q5:=hcell w1 (Below.refl _ _) 5;have p5:=hcell2 w1 (Below.refl _ _) 5;clear hcell hcell2 hb1 hr1 hr2 hw1 HF
      go_wp2_with fail
      refine HN1.out.mono ?_;rintro r w2 ⟨rfl,hb2⟩;have HB2:=Hd (HB1.out.trans (hb2.mono HB1.out.size));clear hb2
      go_wp2_with fail
      go_ret
      exact⟨ret_bool HN.out.symm,HB2.out⟩
     | true=>
      by_cases hnn:n1=n2
      · subst hnn
        go_enter Tryz.func64,Tryz.ntmps64
        go_upto_region 1 with(fail)
        generalize hw1:(w.alloc _).alloc _=w1;obtain⟨hb1,hg,hr1,hr2,hcell,hcell2⟩:=HF.out w1 hw1;have HB1:=Hd hb1;have HC:=Hd hcell;have HC2:=Hd hcell2;have HR1:=Hd hr1;have HR2:=Hd hr2;have HN1:=Hd (HNM.out w1 hb1);have q0:=hcell w1 (Below.refl _ _) 0;have p0:=hcell2 w1 (Below.refl _ _) 0;have q1:=hcell w1 (Below.refl _ _) 1;have p1:=hcell2 w1 (Below.refl _ _) 1;have q2:=hcell w1 (Below.refl _ _) 2;have p2:=hcell2 w1 (Below.refl _ _) 2;have q3:=hcell w1 (Below.refl _ _) 3;have p3:=hcell2 w1 (Below.refl _ _) 3;have q4:=hcell w1 (Below.refl _ _) 4;have p4:=hcell2 w1 (Below.refl _ _) 4;have q5:=hcell w1 (Below.refl _ _) 5;have p5:=hcell2 w1 (Below.refl _ _) 5;clear hcell hcell2 hb1 hr1 hr2 hw1 HF
        go_wp2_with fail
        refine HN1.out.mono ?_;rintro r w2 ⟨rfl,hb2⟩;have HB2:=Hd (HB1.out.trans (hb2.mono HB1.out.size));have HW2:=Hd hb2;clear q0 q1 q2 q3 q4 q5 p0 p1 p2 p3 p4 p5;have q5:=HC.out w2 hb2 5;have p5:=HC2.out w2 hb2 5;clear hb2
        go_wp2_with fail
        go_loopw [5] (fun i wr=>∃ k:Nat,k≤n1∧i=.int .i64 k∧(∀ j,j<k→sameX (subX x j) (subX y j)=true)∧Below w1.heap.size w1 wr) (fun i _=>n1-(intOf i).toNat)
        case atStart=>exact⟨0,Nat.zero_le _,rfl,fun j hj=>absurd hj (by omega),HW2.out⟩
        case round=>
         obtain⟨k,hk,rfl,hall,hbw⟩:=hrel;have HA:=Hd hall;have HBW:=Hd hbw;have r5:=HC.out wr hbw 5;have s5:=HC2.out wr hbw 5;clear hall
         by_cases hlt:k<n1
         · obtain⟨b,off,rfl,hb,hat⟩:=(HR1.out.below hbw).sub (i:=k) (by omega);obtain⟨A1,ca1,B1,cb1,hrg,hrd⟩:=hat k (by omega);obtain⟨c0,c1,c2,c3,c4,c5⟩:=rangeAt_six hrg;obtain⟨b',off',rfl,hb',hat'⟩:=(HR2.out.below hbw).sub (i:=k) (by omega);obtain⟨A2,ca2,B2,cb2,hrg',hrd'⟩:=hat' k (by omega);obtain⟨d0,d1,d2,d3,d4,d5⟩:=rangeAt_six hrg';have HRD:=Hd hrd;have HRD':=Hd hrd';have HCL:=Hd fun d os=>HIH.out k (by omega) A1 ca1 B1 cb1 (subX y k) A2 ca2 B2 cb2 (grow (redrawn wr d) os) (HRD.out.below (below_regrown wr d os)) (HRD'.out.below (below_regrown wr d os));have HBQ:=Hd fun d os=>HBW.out.trans ((below_regrown wr d os).mono HBW.out.size);clear hat hat' hrg hrg' hrd hrd' hbw HN1
           cases hsm:sameX (subX x k) (subX y k) with
           | false=>
            have HN:=Hd (show res=false by rw [HS.out,HXA.out k (by omega) (by omega) hsm];simp);rw [hsm] at HCL
            go_wp2_with fail
            have cA:=fun d os=>Calls.regrown_of (HCL.out d os);have lr5:=fun d os=>cell_regrown r5 d os;have ls5:=fun d os=>cell_regrown s5 d os;have lc0:=fun d os=>cell_regrown c0 d os;have lc1:=fun d os=>cell_regrown c1 d os;have lc2:=fun d os=>cell_regrown c2 d os;have lc3:=fun d os=>cell_regrown c3 d os;have lc4:=fun d os=>cell_regrown c4 d os;have lc5:=fun d os=>cell_regrown c5 d os;have ld0:=fun d os=>cell_regrown d0 d os;have ld1:=fun d os=>cell_regrown d1 d os;have ld2:=fun d os=>cell_regrown d2 d os;have ld3:=fun d os=>cell_regrown d3 d os;have ld4:=fun d os=>cell_regrown d4 d os;have ld5:=fun d os=>cell_regrown d5 d os;refine wp_region_quiet_below (by kernel_rfl) (by kernel_rfl) ?_
            repeat (quiet_step (exact cA _ _))
            refine wpQuiet_nil ?_;intro _ hw';obtain⟨⟨dq,osq⟩,hw''⟩:=hw';subst hw'';have HBR:=Hd (HBQ.out dq osq);clear cA lr5 ls5 lc0 lc1 lc2 lc3 lc4 lc5 ld0 ld1 ld2 ld3 ld4 ld5;generalize grow (redrawn wr dq) osq=wq at *
            go_wp2_with fail
            go_ret
            exact⟨ret_bool HN.out.symm,HB1.out.trans (HBR.out.mono HB1.out.size)⟩
           | true=>
            have HN:=Hd (show ∀ j,j<k+1→sameX (subX x j) (subX y j)=true from fun j hj=>by
             rcases Nat.lt_or_ge j k with h | h
             · exact HA.out j h
             · obtain rfl:j=k:=by omega
               exact hsm)
            rw [hsm] at HCL
            go_wp2_with fail
            have cA:=fun d os=>Calls.regrown_of (HCL.out d os);have lr5:=fun d os=>cell_regrown r5 d os;have ls5:=fun d os=>cell_regrown s5 d os;have lc0:=fun d os=>cell_regrown c0 d os;have lc1:=fun d os=>cell_regrown c1 d os;have lc2:=fun d os=>cell_regrown c2 d os;have lc3:=fun d os=>cell_regrown c3 d os;have lc4:=fun d os=>cell_regrown c4 d os;have lc5:=fun d os=>cell_regrown c5 d os;have ld0:=fun d os=>cell_regrown d0 d os;have ld1:=fun d os=>cell_regrown d1 d os;have ld2:=fun d os=>cell_regrown d2 d os;have ld3:=fun d os=>cell_regrown d3 d os;have ld4:=fun d os=>cell_regrown d4 d os;have ld5:=fun d os=>cell_regrown d5 d os;refine wp_region_quiet_below (by kernel_rfl) (by kernel_rfl) ?_
            repeat (quiet_step (exact cA _ _))
            refine wpQuiet_nil ?_;intro _ hw';obtain⟨⟨dq,osq⟩,hw''⟩:=hw';subst hw'';have HBR:=Hd (HBQ.out dq osq);clear cA lr5 ls5 lc0 lc1 lc2 lc3 lc4 lc5 ld0 ld1 ld2 ld3 ld4 ld5;generalize grow (redrawn wr dq) osq=wq at *
            go_wp2_with fail
            go_roundw
            case rel=>exact⟨k+1,by omega,by go_num,HN.out,HBR.out⟩
            case measure=>simp [intOf];omega
         · have hkl:k=n1:=by omega
           have hyes:=HXY.out (by first | trivial | rfl) (fun i hi=>HA.out i (by rw [hkl];exact hi));have HN:=Hd (show res=true by rw [HS.out,hyes];rfl);clear hyes
           go_wp2_with fail
           go_ret
           exact⟨ret_bool HN.out.symm,HB1.out.trans (HBW.out.mono HB1.out.size)⟩
      · have nn:((n1:Int) != (n2:Int))=true:=by rw [bne_iff_ne];omega
        have HN:=Hd (show res=false by rw [HS.out,HXL.out (by omega)];simp)
        go_enter Tryz.func64,Tryz.ntmps64
        go_upto_region 1 with(fail)
        generalize hw1:(w.alloc _).alloc _=w1;obtain⟨hb1,hg,hr1,hr2,hcell,hcell2⟩:=HF.out w1 hw1;have HB1:=Hd hb1;have HC:=Hd hcell;have HC2:=Hd hcell2;have HR1:=Hd hr1;have HR2:=Hd hr2;have HN1:=Hd (HNM.out w1 hb1);have q0:=hcell w1 (Below.refl _ _) 0;have p0:=hcell2 w1 (Below.refl _ _) 0;have q1:=hcell w1 (Below.refl _ _) 1;have p1:=hcell2 w1 (Below.refl _ _) 1;have q2:=hcell w1 (Below.refl _ _) 2;have p2:=hcell2 w1 (Below.refl _ _) 2;have q3:=hcell w1 (Below.refl _ _) 3;have p3:=hcell2 w1 (Below.refl _ _) 3;have q4:=hcell w1 (Below.refl _ _) 4;have p4:=hcell2 w1 (Below.refl _ _) 4;have q5:=hcell w1 (Below.refl _ _) 5;have p5:=hcell2 w1 (Below.refl _ _) 5;clear hcell hcell2 hb1 hr1 hr2 hw1 HF
        go_wp2_with fail
        refine HN1.out.mono ?_;rintro r w2 ⟨rfl,hb2⟩;have HB2:=Hd (HB1.out.trans (hb2.mono HB1.out.size));clear q0 q1 q2 q3 q4 q5 p0 p1 p2 p3 p4 p5;have q5:=HC.out w2 hb2 5;have p5:=HC2.out w2 hb2 5;clear hb2
        go_wp2_with fail
        go_ret
        exact⟨ret_bool HN.out.symm,HB2.out⟩
end
section
open Go.RowKit Go.Sort
def armB(t:ByteArray):Bool:=highB t.data.toList || (t.toList==[116,114,117,101]) || (t.toList==[102,97,108,115,101])
def armsX(x:Ex):Bool:=x.arms.all armB && (if x.k==11 then x.arms.length==1 else if x.k==12 then decide (1≤x.arms.length) && decide (x.arms.length≤6) && onceS x.arms else x.arms.length==0)
def namedX(x:Ex):Bool:=if x.k==3 || x.k==11 || x.k==12 || x.k==13 then lowB x.s.data.toList else if x.k==4 then highB x.s.data.toList else if x.k==17 then pathB x.s.data.toList else x.s.toList==[]
theorem refArm(s:ByteArray) (w:World) (hs:s.size≤9223372036854775807):Calls Tryz.prog 150 #[.string s] w fun e w'=>e=.returned (.bool (armB s))∧w=w':=by
 have HS:=Hd (show armB s=(highB s.data.toList || (s.toList==[116,114,117,101]) || (s.toList==[102,97,108,115,101])) from rfl);have HH:=Hd (refHigh s w hs);generalize armB s=res at *;generalize highB s.data.toList=bh at *
 cases bh <;> cases ht:(s.toList==[116,114,117,101]) <;> cases hf:(s.toList==[102,97,108,115,101])
 all_goals (
  rw [ht,hf] at HS
  go_enter Tryz.func150,Tryz.ntmps150
  go_wp2_with fail
  refine HH.out.mono ?_;rintro r w2 ⟨rfl,rfl⟩
  go_wp2_with fail
  go_ret
  exact⟨ret_bool HS.out.symm,rfl⟩)
theorem refNamed(x:Ex) (A:Option Addr) (ca:Nat) (B:Option Addr) (cb:Nat) (w:World) (hr:rdX w x A B) (hs:x.s.size≤1000):
 Calls Tryz.prog 126 #[.agg (exA x A ca B cb)] w fun e w'=>e=.returned (.bool (namedX x))∧Below w.heap.size w w':=by
 have HF:=Hd fun w1 h=>box_facts w x A ca B cb w1 h hr;have HS:=Hd (show namedX x=if x.k==3 || x.k==11 || x.k==12 || x.k==13 then lowB x.s.data.toList else if x.k==4 then highB x.s.data.toList else if x.k==17 then pathB x.s.data.toList else x.s.toList==[] from rfl);clear hr;unfold exA at HF ⊢;generalize namedX x=res at *;generalize x.k=k at *;generalize x.s=s at *
 by_cases h3:k=3
 · subst h3;have HN:=Hd (show res=lowB s.data.toList by rw [HS.out];rfl);have HH:=Hd fun w=>refLow s w (by omega);generalize lowB s.data.toList=bh at *
   go_enter Tryz.func126,Tryz.ntmps126
   go_upto_region 1 with(fail)
   generalize hw1:w.alloc _=w1;obtain⟨hb1,hg,hr1,hcell⟩:=HF.out w1 hw1;have HB1:=Hd hb1;have q0:=hcell w1 (Below.refl _ _) 0;have q2:=hcell w1 (Below.refl _ _) 2;clear hcell hb1 hr1 hw1 HF
   go_wp2_with fail
   refine(HH.out _).mono ?_;rintro r w2 ⟨rfl,hb2⟩;have HB2:=Hd (HB1.out.trans (hb2.mono HB1.out.size));clear hb2
   go_wp2_with fail
   go_ret
   exact⟨ret_bool HN.out.symm,HB2.out⟩
 · have e3:(k==3)=false:=by simpa using h3
   by_cases h11:k=11
   · subst h11;have HN:=Hd (show res=lowB s.data.toList by rw [HS.out];rfl);have HH:=Hd fun w=>refLow s w (by omega);generalize lowB s.data.toList=bh at *
     go_enter Tryz.func126,Tryz.ntmps126
     go_upto_region 1 with(fail)
     generalize hw1:w.alloc _=w1;obtain⟨hb1,hg,hr1,hcell⟩:=HF.out w1 hw1;have HB1:=Hd hb1;have q0:=hcell w1 (Below.refl _ _) 0;have q2:=hcell w1 (Below.refl _ _) 2;clear hcell hb1 hr1 hw1 HF
     go_wp2_with fail
     refine(HH.out _).mono ?_;rintro r w2 ⟨rfl,hb2⟩;have HB2:=Hd (HB1.out.trans (hb2.mono HB1.out.size));clear hb2
     go_wp2_with fail
     go_ret
     exact⟨ret_bool HN.out.symm,HB2.out⟩
   · have e11:(k==11)=false:=by simpa using h11
     by_cases h12:k=12
     · subst h12;have HN:=Hd (show res=lowB s.data.toList by rw [HS.out];rfl);have HH:=Hd fun w=>refLow s w (by omega);generalize lowB s.data.toList=bh at *
       go_enter Tryz.func126,Tryz.ntmps126
       go_upto_region 1 with(fail)
       generalize hw1:w.alloc _=w1;obtain⟨hb1,hg,hr1,hcell⟩:=HF.out w1 hw1;have HB1:=Hd hb1;have q0:=hcell w1 (Below.refl _ _) 0;have q2:=hcell w1 (Below.refl _ _) 2;clear hcell hb1 hr1 hw1 HF
       go_wp2_with fail
       refine(HH.out _).mono ?_;rintro r w2 ⟨rfl,hb2⟩;have HB2:=Hd (HB1.out.trans (hb2.mono HB1.out.size));clear hb2
       go_wp2_with fail
       go_ret
       exact⟨ret_bool HN.out.symm,HB2.out⟩
     · have e12:(k==12)=false:=by simpa using h12
       by_cases h13:k=13
       · subst h13;have HN:=Hd (show res=lowB s.data.toList by rw [HS.out];rfl);have HH:=Hd fun w=>refLow s w (by omega);generalize lowB s.data.toList=bh at *
         go_enter Tryz.func126,Tryz.ntmps126
         go_upto_region 1 with(fail)
         generalize hw1:w.alloc _=w1;obtain⟨hb1,hg,hr1,hcell⟩:=HF.out w1 hw1;have HB1:=Hd hb1;have q0:=hcell w1 (Below.refl _ _) 0;have q2:=hcell w1 (Below.refl _ _) 2;clear hcell hb1 hr1 hw1 HF
         go_wp2_with fail
         refine(HH.out _).mono ?_;rintro r w2 ⟨rfl,hb2⟩;have HB2:=Hd (HB1.out.trans (hb2.mono HB1.out.size));clear hb2
         go_wp2_with fail
         go_ret
         exact⟨ret_bool HN.out.symm,HB2.out⟩
       · have e13:(k==13)=false:=by simpa using h13
         by_cases h4:k=4
         · subst h4;have HN:=Hd (show res=highB s.data.toList by rw [HS.out];rfl);have HH:=Hd fun w=>refHigh s w (by omega);generalize highB s.data.toList=bh at *
           go_enter Tryz.func126,Tryz.ntmps126
           go_upto_region 1 with(fail)
           generalize hw1:w.alloc _=w1;obtain⟨hb1,hg,hr1,hcell⟩:=HF.out w1 hw1;have HB1:=Hd hb1;have q0:=hcell w1 (Below.refl _ _) 0;have q2:=hcell w1 (Below.refl _ _) 2;clear hcell hb1 hr1 hw1 HF
           go_wp2_with fail
           refine(HH.out _).mono ?_;rintro r w2 ⟨rfl,rfl⟩
           go_wp2_with fail
           go_ret
           exact⟨ret_bool HN.out.symm,HB1.out⟩
         · have e4:(k==4)=false:=by simpa using h4
           by_cases h17:k=17
           · subst h17;have HN:=Hd (show res=pathB s.data.toList by rw [HS.out];rfl);have HH:=Hd fun w=>refPath s w hs;generalize pathB s.data.toList=bh at *
             go_enter Tryz.func126,Tryz.ntmps126
             go_upto_region 1 with(fail)
             generalize hw1:w.alloc _=w1;obtain⟨hb1,hg,hr1,hcell⟩:=HF.out w1 hw1;have HB1:=Hd hb1;have q0:=hcell w1 (Below.refl _ _) 0;have q2:=hcell w1 (Below.refl _ _) 2;clear hcell hb1 hr1 hw1 HF
             go_wp2_with fail
             refine(HH.out _).mono ?_;rintro r w2 ⟨rfl,hb2⟩;have HB2:=Hd (HB1.out.trans (hb2.mono HB1.out.size));clear hb2
             go_wp2_with fail
             go_ret
             exact⟨ret_bool HN.out.symm,HB2.out⟩
           · have e17:(k==17)=false:=by simpa using h17
             have HN:=Hd (show res=(s.toList==[]) by rw [HS.out];simp only [e3,e11,e12,e13,e4,e17];rfl)
             cases he:(s.toList==[]) <;> rw [he] at HN
             all_goals (
              go_enter Tryz.func126,Tryz.ntmps126
              go_upto_region 1 with(fail)
              generalize hw1:w.alloc _=w1;obtain⟨hb1,hg,hr1,hcell⟩:=HF.out w1 hw1;have HB1:=Hd hb1;have q0:=hcell w1 (Below.refl _ _) 0;have q2:=hcell w1 (Below.refl _ _) 2;clear hcell hb1 hr1 hw1 HF
              go_wp2_with fail
              go_ret
              exact⟨ret_bool HN.out.symm,HB1.out⟩)
theorem refArms(x:Ex) (A:Option Addr) (ca:Nat) (B:Option Addr) (cb:Nat) (w:World) (hr:rdX w x A B) (hz:∀ t∈x.arms,t.size≤9223372036854775807) (hm:x.arms.length≤100):
 Calls Tryz.prog 127 #[.agg (exA x A ca B cb)] w fun e w'=>e=.returned (.bool (armsX x))∧Below w.heap.size w w':=by
 have HF:=Hd fun w1 h=>box_facts w x A ca B cb w1 h hr;have HS:=Hd (show armsX x=(x.arms.all armB && (if x.k==11 then x.arms.length==1 else if x.k==12 then decide (1≤x.arms.length) && decide (x.arms.length≤6) && onceS x.arms else x.arms.length==0)) from rfl);have HAR:=Hd hr.arms;have HAL:=Hd fun i (hi:i<x.arms.length) (h:armB (x.arms[i]?.getD ByteArray.empty)=false)=>all_false (f:=armB) hi h;have HAS:=Hd fun k (hk:k<x.arms.length) h (hx:armB (x.arms[k]?.getD ByteArray.empty)=true)=>all_take_succ (f:=armB) hk h hx;have HAE:=Hd fun k h (hk:x.arms.length≤k)=>all_take_end (l:=x.arms) (f:=armB) (k:=k) h hk;have HZ:=Hd fun i (hi:i<x.arms.length)=>hz (x.arms[i]?.getD ByteArray.empty) (by rw [List.getElem?_eq_getElem hi];exact List.getElem_mem _);have HON:=Hd fun w1 (h:Below w.heap.size w w1)=>refOnce A x.arms.length ca x.arms w1 (hr.below h).arms hm;clear hr hz;unfold exA at HF ⊢;generalize armsX x=res at *;generalize x.k=k at *;generalize hlen:x.arms.length=n at *;have hln:=int_len n
 go_enter Tryz.func127,Tryz.ntmps127
 go_upto_region 1 with(fail)
 generalize hw1:w.alloc _=w1;obtain⟨hb1,hg,hr1,hcell⟩:=HF.out w1 hw1;have HB1:=Hd hb1;have q0:=hcell w1 (Below.refl _ _) 0;have q4:=hcell w1 (Below.refl _ _) 4;have HC:=Hd hcell;have HR1:=Hd (HAR.out.below hb1);have HO1:=Hd (HON.out w1 hb1);clear hcell hb1 hr1 hw1 HF
 go_wp2_with fail
 go_loopw [3] (fun i wr=>∃ j:Nat,j≤n∧i=.int .i64 j∧(x.arms.take j).all armB=true∧w1=wr) (fun i _=>n-(intOf i).toNat)
 case atStart=>exact⟨0,Nat.zero_le _,rfl,by simp,rfl⟩
 case round=>
  obtain⟨j,hj,rfl,hall,rfl⟩:=hrel;have HA:=Hd hall;clear hall
  by_cases hlt:j<n
  · obtain⟨b,off,rfl,hb,hat⟩:=HR1.out.at_ hlt;have c0:=hat j hlt;have HAL':=Hd (HAL.out j (by omega));have HAS':=Hd (HAS.out j (by omega) HA.out);have hzz:=HZ.out j (by omega);clear hat;generalize x.arms[j]?.getD ByteArray.empty=t at *;have HT:=Hd (refArm t w1 hzz);clear hzz
    cases ht:armB t with
    | false=>
     rw [ht] at HT;have HF':=Hd (HAL'.out ht);have HN:=Hd (show res=false by rw [HS.out,HF'.out];rfl)
     go_wp2_with fail
     refine HT.out.mono ?_;rintro r w2 ⟨rfl,rfl⟩
     go_wp2_with fail
     go_ret
     exact⟨ret_bool HN.out.symm,HB1.out⟩
    | true=>
     rw [ht] at HT;have HF':=Hd (HAS'.out ht)
     go_wp2_with fail
     refine HT.out.mono ?_;rintro r w2 ⟨rfl,rfl⟩
     go_wp2_with fail
     go_roundw
     case rel=>exact⟨j+1,by omega,by go_num,HF'.out,(by first | trivial | rfl)⟩
     case measure=>simp [intOf];omega
  · have HE:=HAE.out j HA.out (by omega);rw [HE] at HS;clear HE HAL HAS HAE HA
    by_cases h11:k=11
    · subst h11;have HN:=Hd (show res=(n==1) by rw [HS.out];rfl)
      cases hn1:(n==1) <;> rw [hn1] at HN hln
      all_goals (
       go_wp2_with fail
       go_ret
       exact⟨ret_bool HN.out.symm,HB1.out⟩)
    · have e11:(k==11)=false:=by simpa using h11
      by_cases h12:k=12
      · subst h12
        by_cases h1:1≤n
        · by_cases h6:n≤6
          · have HN:=Hd (show res=onceS x.arms by rw [HS.out];simp [h1,h6]);generalize onceS x.arms=on at *
            go_wp2_with fail
            refine HO1.out.mono ?_;rintro r w2 ⟨rfl,m,rfl⟩
            go_wp2_with fail
            go_ret
            exact⟨ret_bool HN.out.symm,below_drewN HB1.out _⟩
          · have HN:=Hd (show res=false by rw [HS.out];simp [h6])
            go_wp2_with fail
            go_ret
            exact⟨ret_bool HN.out.symm,HB1.out⟩
        · have HN:=Hd (show res=false by rw [HS.out];simp [h1])
          go_wp2_with fail
          go_ret
          exact⟨ret_bool HN.out.symm,HB1.out⟩
      · have e12:(k==12)=false:=by simpa using h12
        have HN:=Hd (show res=(n==0) by rw [HS.out];simp only [e11,e12];rfl);have hl0:((n:Int)==0)=(n==0):=by rw [Bool.eq_iff_iff];simp
        cases hn1:(n==0) <;> rw [hn1] at HN hl0
        all_goals (
         go_wp2_with fail
         go_ret
         exact⟨ret_bool HN.out.symm,HB1.out⟩)
def subsX(x:Ex):Int × Int:=
 if x.k==5 || x.k==10 || x.k==11 then(1,1) else if x.k==6 || x.k==8 || x.k==9 || x.k==15 then(2,2) else if x.k==7 || x.k==16 then(3,3)
 else if x.k==12 then(x.arms.length,x.arms.length) else if x.k==13 then(x.n,6+x.n) else if x.k==14 then(1,8) else(0,0)
theorem refSubs(x:Ex) (A:Option Addr) (ca:Nat) (B:Option Addr) (cb:Nat) (w:World) (hr:rdX w x A B) (hn:x.k=13→x.n=0∨x.n=1):
 Calls Tryz.prog 128 #[.agg (exA x A ca B cb)] w fun e w'=>e=.returned (.tuple #[.int .i64 (subsX x).1,.int .i64 (subsX x).2])∧Below w.heap.size w w':=by
 have HF:=Hd fun w1 h=>box_facts w x A ca B cb w1 h hr
 have HS:=Hd (show subsX x=if x.k==5 || x.k==10 || x.k==11 then(1,1) else if x.k==6 || x.k==8 || x.k==9 || x.k==15 then(2,2) else if x.k==7 || x.k==16 then(3,3)
  else if x.k==12 then((x.arms.length:Int),(x.arms.length:Int)) else if x.k==13 then(x.n,6+x.n) else if x.k==14 then(1,8) else(0,0) from rfl)
 have hmx:=hr.arms.max;clear hr;unfold exA at HF ⊢;generalize subsX x=res at *;generalize x.k=k at *;generalize x.n=n at *;generalize x.arms.length=m at *
 by_cases h5:k=5
 · subst h5;have HN:=Hd (show res=(1,1) by rw [HS.out];rfl)
   go_enter Tryz.func128,Tryz.ntmps128
   go_upto_region 1 with(fail)
   generalize hw1:w.alloc _=w1;obtain⟨hb1,hg,hr1,hcell⟩:=HF.out w1 hw1;have HB1:=Hd hb1;obtain⟨q0,q1,-,-,q4,-⟩:=Sx (hcell w1 (Below.refl _ _));clear hcell hb1 hr1 hw1 HF
   go_wp2_with fail
   exact bodyPost_ret (v:=.tuple #[.int .i64 (1),.int .i64 (1)]) (by simp [results,Tryz.results128,go_sem]) rfl ⟨by rw [HN.out],HB1.out⟩
 · have e5:(k==5)=false:=by simpa using h5
   by_cases h10:k=10
   · subst h10;have HN:=Hd (show res=(1,1) by rw [HS.out];rfl)
     go_enter Tryz.func128,Tryz.ntmps128
     go_upto_region 1 with(fail)
     generalize hw1:w.alloc _=w1;obtain⟨hb1,hg,hr1,hcell⟩:=HF.out w1 hw1;have HB1:=Hd hb1;obtain⟨q0,q1,-,-,q4,-⟩:=Sx (hcell w1 (Below.refl _ _));clear hcell hb1 hr1 hw1 HF
     go_wp2_with fail
     exact bodyPost_ret (v:=.tuple #[.int .i64 (1),.int .i64 (1)]) (by simp [results,Tryz.results128,go_sem]) rfl ⟨by rw [HN.out],HB1.out⟩
   · have e10:(k==10)=false:=by simpa using h10
     by_cases h11:k=11
     · subst h11;have HN:=Hd (show res=(1,1) by rw [HS.out];rfl)
       go_enter Tryz.func128,Tryz.ntmps128
       go_upto_region 1 with(fail)
       generalize hw1:w.alloc _=w1;obtain⟨hb1,hg,hr1,hcell⟩:=HF.out w1 hw1;have HB1:=Hd hb1;obtain⟨q0,q1,-,-,q4,-⟩:=Sx (hcell w1 (Below.refl _ _));clear hcell hb1 hr1 hw1 HF
       go_wp2_with fail
       exact bodyPost_ret (v:=.tuple #[.int .i64 (1),.int .i64 (1)]) (by simp [results,Tryz.results128,go_sem]) rfl ⟨by rw [HN.out],HB1.out⟩
     · have e11:(k==11)=false:=by simpa using h11
       by_cases h6:k=6
       · subst h6;have HN:=Hd (show res=(2,2) by rw [HS.out];rfl)
         go_enter Tryz.func128,Tryz.ntmps128
         go_upto_region 1 with(fail)
         generalize hw1:w.alloc _=w1;obtain⟨hb1,hg,hr1,hcell⟩:=HF.out w1 hw1;have HB1:=Hd hb1;obtain⟨q0,q1,-,-,q4,-⟩:=Sx (hcell w1 (Below.refl _ _));clear hcell hb1 hr1 hw1 HF
         go_wp2_with fail
         exact bodyPost_ret (v:=.tuple #[.int .i64 (2),.int .i64 (2)]) (by simp [results,Tryz.results128,go_sem]) rfl ⟨by rw [HN.out],HB1.out⟩
       · have e6:(k==6)=false:=by simpa using h6
         by_cases h8:k=8
         · subst h8;have HN:=Hd (show res=(2,2) by rw [HS.out];rfl)
           go_enter Tryz.func128,Tryz.ntmps128
           go_upto_region 1 with(fail)
           generalize hw1:w.alloc _=w1;obtain⟨hb1,hg,hr1,hcell⟩:=HF.out w1 hw1;have HB1:=Hd hb1;obtain⟨q0,q1,-,-,q4,-⟩:=Sx (hcell w1 (Below.refl _ _));clear hcell hb1 hr1 hw1 HF
           go_wp2_with fail
           exact bodyPost_ret (v:=.tuple #[.int .i64 (2),.int .i64 (2)]) (by simp [results,Tryz.results128,go_sem]) rfl ⟨by rw [HN.out],HB1.out⟩
         · have e8:(k==8)=false:=by simpa using h8
           by_cases h9:k=9
           · subst h9;have HN:=Hd (show res=(2,2) by rw [HS.out];rfl)
             go_enter Tryz.func128,Tryz.ntmps128
             go_upto_region 1 with(fail)
             generalize hw1:w.alloc _=w1;obtain⟨hb1,hg,hr1,hcell⟩:=HF.out w1 hw1;have HB1:=Hd hb1;obtain⟨q0,q1,-,-,q4,-⟩:=Sx (hcell w1 (Below.refl _ _));clear hcell hb1 hr1 hw1 HF
             go_wp2_with fail
             exact bodyPost_ret (v:=.tuple #[.int .i64 (2),.int .i64 (2)]) (by simp [results,Tryz.results128,go_sem]) rfl ⟨by rw [HN.out],HB1.out⟩
           · have e9:(k==9)=false:=by simpa using h9
             by_cases h15:k=15
             · subst h15;have HN:=Hd (show res=(2,2) by rw [HS.out];rfl)
               go_enter Tryz.func128,Tryz.ntmps128
               go_upto_region 1 with(fail)
               generalize hw1:w.alloc _=w1;obtain⟨hb1,hg,hr1,hcell⟩:=HF.out w1 hw1;have HB1:=Hd hb1;obtain⟨q0,q1,-,-,q4,-⟩:=Sx (hcell w1 (Below.refl _ _));clear hcell hb1 hr1 hw1 HF
               go_wp2_with fail
               exact bodyPost_ret (v:=.tuple #[.int .i64 (2),.int .i64 (2)]) (by simp [results,Tryz.results128,go_sem]) rfl ⟨by rw [HN.out],HB1.out⟩
             · have e15:(k==15)=false:=by simpa using h15
               by_cases h7:k=7
               · subst h7;have HN:=Hd (show res=(3,3) by rw [HS.out];rfl)
                 go_enter Tryz.func128,Tryz.ntmps128
                 go_upto_region 1 with(fail)
                 generalize hw1:w.alloc _=w1;obtain⟨hb1,hg,hr1,hcell⟩:=HF.out w1 hw1;have HB1:=Hd hb1;obtain⟨q0,q1,-,-,q4,-⟩:=Sx (hcell w1 (Below.refl _ _));clear hcell hb1 hr1 hw1 HF
                 go_wp2_with fail
                 exact bodyPost_ret (v:=.tuple #[.int .i64 (3),.int .i64 (3)]) (by simp [results,Tryz.results128,go_sem]) rfl ⟨by rw [HN.out],HB1.out⟩
               · have e7:(k==7)=false:=by simpa using h7
                 by_cases h16:k=16
                 · subst h16;have HN:=Hd (show res=(3,3) by rw [HS.out];rfl)
                   go_enter Tryz.func128,Tryz.ntmps128
                   go_upto_region 1 with(fail)
                   generalize hw1:w.alloc _=w1;obtain⟨hb1,hg,hr1,hcell⟩:=HF.out w1 hw1;have HB1:=Hd hb1;obtain⟨q0,q1,-,-,q4,-⟩:=Sx (hcell w1 (Below.refl _ _));clear hcell hb1 hr1 hw1 HF
                   go_wp2_with fail
                   exact bodyPost_ret (v:=.tuple #[.int .i64 (3),.int .i64 (3)]) (by simp [results,Tryz.results128,go_sem]) rfl ⟨by rw [HN.out],HB1.out⟩
                 · have e16:(k==16)=false:=by simpa using h16
                   by_cases h12:k=12
                   · subst h12;have HN:=Hd (show res=((m:Int),(m:Int)) by rw [HS.out];rfl)
                     go_enter Tryz.func128,Tryz.ntmps128
                     go_upto_region 1 with(fail)
                     generalize hw1:w.alloc _=w1;obtain⟨hb1,hg,hr1,hcell⟩:=HF.out w1 hw1;have HB1:=Hd hb1;obtain⟨q0,q1,-,-,q4,-⟩:=Sx (hcell w1 (Below.refl _ _));clear hcell hb1 hr1 hw1 HF
                     go_wp2_with fail
                     go_quiet (fail)
                     go_wp2_with fail
                     exact bodyPost_ret (v:=.tuple #[.int .i64 (m),.int .i64 (m)]) (by simp [results,Tryz.results128,go_sem]) rfl ⟨by rw [HN.out],below_drewN HB1.out _⟩
                   · have e12:(k==12)=false:=by simpa using h12
                     by_cases h13:k=13
                     · subst h13;have hn':=hn rfl;have h6:IntKind.i64.wrap (6+n)=6+n:=by rcases hn' with rfl | rfl <;> rfl
                       have HN:=Hd (show res=(n,6+n) by rw [HS.out];rfl);clear hn
                       go_enter Tryz.func128,Tryz.ntmps128
                       go_upto_region 1 with(fail)
                       generalize hw1:w.alloc _=w1;obtain⟨hb1,hg,hr1,hcell⟩:=HF.out w1 hw1;have HB1:=Hd hb1;obtain⟨q0,q1,-,-,q4,-⟩:=Sx (hcell w1 (Below.refl _ _));clear hcell hb1 hr1 hw1 HF
                       go_wp2_with fail
                       go_quiet (fail)
                       go_wp2_with fail
                       exact bodyPost_ret (v:=.tuple #[.int .i64 (n),.int .i64 (6+n)]) (by simp [results,Tryz.results128,go_sem]) rfl ⟨by rw [HN.out],below_drewN HB1.out _⟩
                     · have e13:(k==13)=false:=by simpa using h13
                       by_cases h14:k=14
                       · subst h14;have HN:=Hd (show res=(1,8) by rw [HS.out];rfl)
                         go_enter Tryz.func128,Tryz.ntmps128
                         go_upto_region 1 with(fail)
                         generalize hw1:w.alloc _=w1;obtain⟨hb1,hg,hr1,hcell⟩:=HF.out w1 hw1;have HB1:=Hd hb1;obtain⟨q0,q1,-,-,q4,-⟩:=Sx (hcell w1 (Below.refl _ _));clear hcell hb1 hr1 hw1 HF
                         go_wp2_with fail
                         exact bodyPost_ret (v:=.tuple #[.int .i64 (1),.int .i64 (8)]) (by simp [results,Tryz.results128,go_sem]) rfl ⟨by rw [HN.out],HB1.out⟩
                       · have e14:(k==14)=false:=by simpa using h14
                         have HN:=Hd (show res=(0,0) by rw [HS.out];simp only [e5,e10,e11,e6,e8,e9,e15,e7,e16,e12,e13,e14];rfl)
                         go_enter Tryz.func128,Tryz.ntmps128
                         go_upto_region 1 with(fail)
                         generalize hw1:w.alloc _=w1;obtain⟨hb1,hg,hr1,hcell⟩:=HF.out w1 hw1;have HB1:=Hd hb1;obtain⟨q0,q1,-,-,q4,-⟩:=Sx (hcell w1 (Below.refl _ _));clear hcell hb1 hr1 hw1 HF
                         go_wp2_with fail
                         exact bodyPost_ret (v:=.tuple #[.int .i64 (0),.int .i64 (0)]) (by simp [results,Tryz.results128,go_sem]) rfl ⟨by rw [HN.out],HB1.out⟩
end
section
open Go.RowKit Go.Sort
theorem slEqual(A B:Option Addr) (n m c d:Nat) (ss tt:List ByteArray) (w:World) (hs:RdT w A n ss) (ht:RdT w B m tt):
 Calls Tryz.prog 156 #[.slice A n c,.slice B m d] w fun r w'=>r=.returned (.bool (sameT ss tt))∧Below w.heap.size w w':=by
 have h1:=hs.len;have h2:=ht.len;have h3:=hs.max;have h4:=ht.max
 by_cases hnm:n=m
 · subst hnm
   go_enter Tryz.func156,Tryz.ntmps156
   go_wp2_with fail
   go_loopw [13] (fun i wr=>∃ k:Nat,k≤n∧i=.int .i64 k∧sameTo ss tt k∧∃ p,wr=w.drewN p) (fun i _=>n-(intOf i).toNat)
   case atStart=>exact⟨0,Nat.zero_le _,rfl,fun j hj=>absurd hj (by omega),0,rfl⟩
   case round=>
    obtain⟨k,hk,rfl,hto,p,rfl⟩:=hrel;have HT:=Hd hto;clear hto
    by_cases hlt:k<n
    · obtain⟨b,off,rfl,hb,hc⟩:=hs.at_ hlt;obtain⟨b',off',rfl,hb',hc'⟩:=ht.at_ hlt;have e1:=hc k hlt;have e2:=hc' k hlt;have HN:=Hd fun h=>sameTo_succ HT.out h;have HF:=Hd fun h=>sameT_at (a:=ss) (b:=tt) (k:=k) (by omega) (by omega) h;clear hc hc';generalize ss[k]?.getD ByteArray.empty=x at e1 HN HF;generalize tt[k]?.getD ByteArray.empty=y at e2 HN HF
      by_cases he:(x.toList==y.toList)=true
      · have HN:=Hd (HN.out he);have hne:(x.toList != y.toList)=false:=by simp only [bne,he];rfl
        go_wp2_with fail
        go_quiet (fail)
        go_wp2_with fail
        go_roundw
        case rel=>exact⟨k+1,by omega,by go_num,HN.out,_,rfl⟩
        case measure=>simp [intOf];omega
      · have he:(x.toList==y.toList)=false:=by simpa using he
        have HF:=Hd (HF.out he);have hne:(x.toList != y.toList)=true:=by simp only [bne,he];rfl
        go_wp2_with fail
        go_quiet (fail)
        go_wp2_with fail
        go_ret
        exact⟨ret_bool HF.out.symm,below_drewN (below_drewN (Below.refl _ _) _) _⟩
    · have HY:=Hd (sameT_yes (by omega) HT.out (by omega))
      go_wp2_with fail
      go_ret
      exact⟨ret_bool HY.out.symm,below_drewN (Below.refl _ _) _⟩
 · have hF:=Hd (sameT_len (a:=ss) (b:=tt) (by omega));have hne:((n:Int) != (m:Int))=true:=by rw [bne_iff_ne];omega
   go_enter Tryz.func156,Tryz.ntmps156
   go_wp2_with fail
   go_ret
   exact⟨ret_bool hF.out.symm,Below.refl _ _⟩
def fieldsB(x y:Ex):Bool:=(x.k==y.k) && (x.n==y.n) && (x.s.toList==y.s.toList) && (x.op==y.op) && sameT x.arms y.arms
theorem exFields(x:Ex) (A:Option Addr) (ca:Nat) (B:Option Addr) (cb:Nat) (y:Ex) (A':Option Addr) (ca':Nat) (B':Option Addr) (cb':Nat) (w:World) (hr:rdX w x A B) (hr':rdX w y A' B'):
 Calls Tryz.prog 142 #[.agg (exA x A ca B cb),.agg (exA y A' ca' B' cb')] w fun e w'=>e=.returned (.bool (fieldsB x y))∧Below w.heap.size w w':=by
 have HF:=Hd fun w1 h=>box2_facts w x y A A' ca ca' B B' cb cb' w1 h hr hr';have HNM:=Hd fun w1 (h:Below w.heap.size w w1)=>slEqual A A' x.arms.length y.arms.length ca ca' x.arms y.arms w1 (hr.below h).arms (hr'.below h).arms;have HS:=Hd (show fieldsB x y=((x.k==y.k) && (x.n==y.n) && (x.s.toList==y.s.toList) && (x.op==y.op) && sameT x.arms y.arms) from rfl);clear hr hr';unfold exA at HF ⊢;generalize fieldsB x y=res at *;generalize x.k=k1 at *;generalize y.k=k2 at *;generalize x.n=m1 at *;generalize y.n=m2 at *;generalize x.s=s1 at *;generalize y.s=s2 at *;generalize x.op=o1 at *;generalize y.op=o2 at *;generalize sameT x.arms y.arms=nb at *;generalize x.arms.length=a1 at *;generalize y.arms.length=a2 at *;generalize x.subs.length=n1 at *;generalize y.subs.length=n2 at *;generalize hk:(k1==k2)=bk at *;generalize hm:(m1==m2)=bm at *;generalize hs:(s1.toList==s2.toList)=bs at *;generalize ho:(o1==o2)=bo at *
 cases bk with
 | false=>
  have HN:=Hd (show res=false by rw [HS.out];simp)
  go_enter Tryz.func142,Tryz.ntmps142
  go_upto_region 1 with(fail)
  generalize hw1:(w.alloc _).alloc _=w1;obtain⟨hb1,hg,hr1,hr2,hcell,hcell2⟩:=HF.out w1 hw1;have HB1:=Hd hb1;have q0:=hcell w1 (Below.refl _ _) 0;have p0:=hcell2 w1 (Below.refl _ _) 0;have q1:=hcell w1 (Below.refl _ _) 1;have p1:=hcell2 w1 (Below.refl _ _) 1;have q2:=hcell w1 (Below.refl _ _) 2;have p2:=hcell2 w1 (Below.refl _ _) 2;have q3:=hcell w1 (Below.refl _ _) 3;have p3:=hcell2 w1 (Below.refl _ _) 3;have q4:=hcell w1 (Below.refl _ _) 4;have p4:=hcell2 w1 (Below.refl _ _) 4;have q5:=hcell w1 (Below.refl _ _) 5;have p5:=hcell2 w1 (Below.refl _ _) 5;clear hcell hcell2 hb1 hr1 hr2 hw1 HF
  go_wp2_with fail
  go_ret
  exact⟨ret_bool HN.out.symm,HB1.out⟩
 | true=>
  cases bm with
  | false=>
   have HN:=Hd (show res=false by rw [HS.out];simp)
   go_enter Tryz.func142,Tryz.ntmps142
   go_upto_region 1 with(fail)
   generalize hw1:(w.alloc _).alloc _=w1;obtain⟨hb1,hg,hr1,hr2,hcell,hcell2⟩:=HF.out w1 hw1;have HB1:=Hd hb1;have q0:=hcell w1 (Below.refl _ _) 0;have p0:=hcell2 w1 (Below.refl _ _) 0;have q1:=hcell w1 (Below.refl _ _) 1;have p1:=hcell2 w1 (Below.refl _ _) 1;have q2:=hcell w1 (Below.refl _ _) 2;have p2:=hcell2 w1 (Below.refl _ _) 2;have q3:=hcell w1 (Below.refl _ _) 3;have p3:=hcell2 w1 (Below.refl _ _) 3;have q4:=hcell w1 (Below.refl _ _) 4;have p4:=hcell2 w1 (Below.refl _ _) 4;have q5:=hcell w1 (Below.refl _ _) 5;have p5:=hcell2 w1 (Below.refl _ _) 5;clear hcell hcell2 hb1 hr1 hr2 hw1 HF
   go_wp2_with fail
   go_ret
   exact⟨ret_bool HN.out.symm,HB1.out⟩
  | true=>
   cases bs with
   | false=>
    have HN:=Hd (show res=false by rw [HS.out];simp)
    go_enter Tryz.func142,Tryz.ntmps142
    go_upto_region 1 with(fail)
    generalize hw1:(w.alloc _).alloc _=w1;obtain⟨hb1,hg,hr1,hr2,hcell,hcell2⟩:=HF.out w1 hw1;have HB1:=Hd hb1;have q0:=hcell w1 (Below.refl _ _) 0;have p0:=hcell2 w1 (Below.refl _ _) 0;have q1:=hcell w1 (Below.refl _ _) 1;have p1:=hcell2 w1 (Below.refl _ _) 1;have q2:=hcell w1 (Below.refl _ _) 2;have p2:=hcell2 w1 (Below.refl _ _) 2;have q3:=hcell w1 (Below.refl _ _) 3;have p3:=hcell2 w1 (Below.refl _ _) 3;have q4:=hcell w1 (Below.refl _ _) 4;have p4:=hcell2 w1 (Below.refl _ _) 4;have q5:=hcell w1 (Below.refl _ _) 5;have p5:=hcell2 w1 (Below.refl _ _) 5;clear hcell hcell2 hb1 hr1 hr2 hw1 HF
    go_wp2_with fail
    go_ret
    exact⟨ret_bool HN.out.symm,HB1.out⟩
   | true=>
    cases bo with
    | false=>
     have HN:=Hd (show res=false by rw [HS.out];simp)
     go_enter Tryz.func142,Tryz.ntmps142
     go_upto_region 1 with(fail)
     generalize hw1:(w.alloc _).alloc _=w1;obtain⟨hb1,hg,hr1,hr2,hcell,hcell2⟩:=HF.out w1 hw1;have HB1:=Hd hb1;have q0:=hcell w1 (Below.refl _ _) 0;have p0:=hcell2 w1 (Below.refl _ _) 0;have q1:=hcell w1 (Below.refl _ _) 1;have p1:=hcell2 w1 (Below.refl _ _) 1;have q2:=hcell w1 (Below.refl _ _) 2;have p2:=hcell2 w1 (Below.refl _ _) 2;have q3:=hcell w1 (Below.refl _ _) 3;have p3:=hcell2 w1 (Below.refl _ _) 3;have q4:=hcell w1 (Below.refl _ _) 4;have p4:=hcell2 w1 (Below.refl _ _) 4;have q5:=hcell w1 (Below.refl _ _) 5;have p5:=hcell2 w1 (Below.refl _ _) 5;clear hcell hcell2 hb1 hr1 hr2 hw1 HF
     go_wp2_with fail
     go_ret
     exact⟨ret_bool HN.out.symm,HB1.out⟩
    | true=>
     have HN:=Hd (show res=nb by rw [HS.out];simp)
     go_enter Tryz.func142,Tryz.ntmps142
     go_upto_region 1 with(fail)
     generalize hw1:(w.alloc _).alloc _=w1;obtain⟨hb1,hg,hr1,hr2,hcell,hcell2⟩:=HF.out w1 hw1;have HB1:=Hd hb1;have q0:=hcell w1 (Below.refl _ _) 0;have p0:=hcell2 w1 (Below.refl _ _) 0;have q1:=hcell w1 (Below.refl _ _) 1;have p1:=hcell2 w1 (Below.refl _ _) 1;have q2:=hcell w1 (Below.refl _ _) 2;have p2:=hcell2 w1 (Below.refl _ _) 2;have q3:=hcell w1 (Below.refl _ _) 3;have p3:=hcell2 w1 (Below.refl _ _) 3;have q4:=hcell w1 (Below.refl _ _) 4;have p4:=hcell2 w1 (Below.refl _ _) 4;have q5:=hcell w1 (Below.refl _ _) 5;have p5:=hcell2 w1 (Below.refl _ _) 5;have HN1:=Hd (HNM.out w1 hb1);clear hcell hcell2 hb1 hr1 hr2 hw1 HF
     go_wp2_with fail
     refine HN1.out.mono ?_;rintro r w2 ⟨rfl,hb2⟩;have HB2:=Hd (HB1.out.trans (hb2.mono HB1.out.size));clear hb2
     go_wp2_with fail
     go_ret
     exact⟨ret_bool HN.out.symm,HB2.out⟩
end
section
open Go.RowKit Go.Sort
end
end Go.Proofs.YtpedcgpcchbhpaaGreatDoor
