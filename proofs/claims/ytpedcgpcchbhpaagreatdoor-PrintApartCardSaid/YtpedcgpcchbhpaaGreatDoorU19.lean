/- Parts of the proof: PiF. Conditions: each theorem's own. -/
import Derived.Test.YtpedcgpcchbhpaaGreatDoorU10
namespace Go.Proofs.YtpedcgpcchbhpaaGreatDoor
set_option linter.unusedVariables false
set_option linter.unusedSimpArgs false
set_option maxRecDepth 100000
set_option maxHeartbeats 40000000
section
open Go.RowKit Go.Sort
def catTo(x:Nd) (k:Nat):List Dc:=match k with | 0=>[] | 1=>x.ins | 2=>x.ins++x.outs | _=>x.all
theorem catTo_succ(x:Nd){k:Nat}(h:k<3):catTo x (k+1)=catTo x k++listK x k:=by
 match k,h with
 | 0,_=>rfl
 | 1,_=>rfl
 | 2,_=>rfl
theorem catTo_le(x:Nd){k:Nat}(h:k≤3):(catTo x k).length≤x.all.length:=by
 match k,h with
 | 0,_=>exact Nat.zero_le _
 | 1,_=>simp [catTo,Nd.all]
 | 2,_=>simp [catTo,Nd.all]
 | 3,_=>exact Nat.le_refl _
theorem slConcatD(x:Nd) (A1:Option Addr) (c1:Nat) (A2:Option Addr) (c2:Nat) (A3:Option Addr) (c3:Nat) (A4:Option Addr) (b:Nat) (w:World) (h:rdN w x A1 A2 A3 A4)
 (hc:∀ j,w.cell? ⟨b,j,none⟩=(lists3 x A1 c1 A2 c2 A3 c3)[j]?) (hb:b<w.heap.size) (hn:x.all.length≤1000):
 Calls Tryz.prog 80 #[.slice (some ⟨b,0,none⟩) 3 3] w (DeclsPost w x.all.length x.all):=by
 obtain⟨i0,z0,hi,hz1,hz0,hz2,hz3⟩:=info_three infoDecl;have HLS:=Hd fun(w:World) (h:rdN w x A1 A2 A3 A4) (k:Nat) hk=>lists_at (c1:=c1) (c2:=c2) (c3:=c3) h (k:=k) hk;have HC:=Hd hc;have HR:=Hd h;have HB:=Hd hb;have HSU:=Hd fun(k:Nat) hk=>catTo_succ x (k:=k) hk;have HLE:=Hd fun(k:Nat) hk=>(show(catTo x k).length≤1000 from Nat.le_trans (catTo_le x (k:=k) hk) hn);have HEND:=Hd (show catTo x 3=x.all from rfl);have HNIL:=Hd (show catTo x 0=[] from rfl);have HGR:=Hd fun w1=>slGrowD x.all.length w1 (by omega);have HLK:=Hd fun(k:Nat) hk=>(show(catTo x k).length+(listK x k).length≤1000 by rw [← List.length_append,← catTo_succ x hk];exact Nat.le_trans (catTo_le x (k:=k+1) (by omega)) hn);clear h hc hb hn;generalize catTo x=cat at *;generalize x.all=all at *
 go_enter Tryz.func80,Tryz.ntmps80
 go_wp2_with fail
 go_loopw [3,11] (fun s i wr=>∃ k:Nat,k≤3∧i=.int .i64 k∧s=.int .i64 (cat k).length∧wr=w) (fun _ i _=>3-(intOf i).toNat)
 case atStart=>exact⟨0,by omega,rfl,by rw [HNIL.out];rfl,rfl⟩
 case round=>
  obtain⟨k,hk,rfl,rfl,rfl⟩:=hrel
  by_cases hlt:k<3
  · obtain⟨A,c,hAk,-⟩:=HLS.out wr HR.out k hlt;have e0:=HC.out k;rw [hAk] at e0;have hlk:=HLK.out k hlt;have HS:=Hd (show(cat (k+1)).length=(cat k).length+(listK x k).length by rw [HSU.out k hlt,List.length_append]);clear hAk;generalize hn1:(cat k).length=n1 at *;generalize hm1:(listK x k).length=m1 at *;have d0:decide (((n1:Int)+(m1:Int))<0)=false:=decide_eq_false (by omega);clear hn1 hm1
    go_wp2_with fail
    go_roundw
    case rel=>exact⟨k+1,by omega,by go_num,by rw [HS.out];go_num,(by first | trivial | rfl)⟩
    case measure=>simp [intOf];omega
  · obtain rfl:k=3:=by omega
    rw [HEND.out]
    go_wp2_with fail
    refine(HGR.out wr).mono ?_;rintro e w2 ⟨v,rfl,hown,hb2⟩;have HOW:=Hd hown;have HB2:=Hd hb2;clear hown hb2
    go_wp2_with fail
    generalize wr=w at *
    go_loopw [6,27] (fun v i wr=>∃ k:Nat,k≤3∧i=.int .i64 k∧wr.ownsRow w.heap.size 38 6 v (cat k).length (flD (cat k))∧Below w.heap.size w wr) (fun _ i _=>3-(intOf i).toNat)
    case atStart=>exact⟨0,by omega,rfl,by rw [HNIL.out];exact HOW.out,HB2.out⟩
    case round=>
     obtain⟨k,hk,rfl,hown,hnx⟩:=hrel;have HO:=Hd hown;have HNX:=Hd hnx;clear hown
     by_cases hlt:k<3
     · obtain⟨A,c,hAk,hrd⟩:=HLS.out wr (HR.out.below hnx) k hlt;have e0:=(hnx.cell (p:=⟨b,k,none⟩) HB.out).trans (HC.out k);rw [hAk] at e0;have HRD:=Hd hrd;have hlk:=HLK.out k hlt;have HS:=Hd (HSU.out k hlt);clear hAk hrd hnx
       go_wp2_with (at_builtin;refine wpList_append_dc rfl _ _ 29 rfl w.heap.size 38 i0 z0 72 Tryz.underlying29 hi hz1 hz0 hz2 hz3 _ (cat k).length (cat k) rfl HO.out A (listK x k).length c (listK x k) rfl HRD.out (by unfold maxLen;omega) (by omega) HNX.out.size ?_;intro v' w5 hown' hgrow;have hB5:=HNX.out.grown hgrow HNX.out.size (fun j hj=>(HO.out.lt j hj).1);have HO5:=Hd hown';have HB5:=Hd hB5;clear hown' hgrow hB5)
       go_roundw
       case rel=>exact⟨k+1,by omega,by go_num,by rw [HS.out,List.length_append];exact HO5.out,HB5.out⟩
       case measure=>simp [intOf];omega
     · obtain rfl:k=3:=by omega
       rw [HEND.out] at HO;have hO:=HO.out;obtain⟨A,c,rfl,hrd⟩:=RdD.of_own hO (by have:=HLE.out 3 (by omega);rw [HEND.out] at this;omega);have HRD:=Hd hrd;clear hO hrd
       go_wp2_with fail
       go_ret
       exact⟨A,c,rfl,HRD.out,HNX.out⟩
end
end Go.Proofs.YtpedcgpcchbhpaaGreatDoor
