/- Parts of the proof: PiB, PiC. Conditions: each theorem's own. -/
import Derived.Test.YtpedcgpcchbhpaaGreatDoorU15
import Derived.Test.YtpedcgpcchbhpaaGreatDoorU16
namespace Go.Proofs.YtpedcgpcchbhpaaGreatDoor
set_option linter.unusedVariables false
set_option linter.unusedSimpArgs false
set_option maxRecDepth 100000
set_option maxHeartbeats 40000000
section
open Go.RowKit Go.Sort
theorem low_empty{s:ByteArray}(h:noB s=true):lowB s.data.toList=false:=by
 have h:s.data.toList=[]:=by simpa [noB] using h
 rw [h];rfl
def timedB(d:Dc):Bool:=if noB d.on then noB d.ct else lowB d.on.data.toList && armT d.ct
theorem decl_timed(n:Nat) (d:Dc):declB n rightB d=(lowB d.nm.data.toList && rightB n d.k d.e d.l && timedB d):=by
 unfold declB timedB
 cases h:noB d.on with
 | true=>rw [low_empty h];simp
 | false=>simp
theorem pgArm(s:ByteArray) (w:World) (hs:s.size≤9223372036854775807):
 Calls Tryz.prog 104 #[.string s] w fun e w'=>e=.returned (.bool (armT s))∧Below w.heap.size w w':=by
 have HH:=Hd (idHigh s w hs);have HE:=Hd (show armT s=(highB s.data.toList || (s.toList==[116,114,117,101]) || (s.toList==[102,97,108,115,101])) by rw [Lib.toList_data];rfl);generalize armT s=out at *;generalize highB s.data.toList=b at *
 cases b with
 | true=>
  go_enter Tryz.func104,Tryz.ntmps104
  go_wp2_with fail
  refine HH.out.mono ?_;rintro e w2 ⟨rfl,hb2⟩;have HB2:=Hd hb2;clear hb2
  go_wp2_with fail
  go_ret
  exact⟨ret_bool (by rw [HE.out];rfl),HB2.out⟩
 | false=>
  cases h1:(s.toList==[116,114,117,101]) with
  | true=>
   rw [h1] at HE
   go_enter Tryz.func104,Tryz.ntmps104
   go_wp2_with fail
   refine HH.out.mono ?_;rintro e w2 ⟨rfl,hb2⟩;have HB2:=Hd hb2;clear hb2
   go_wp2_with fail
   go_ret
   exact⟨ret_bool (by rw [HE.out];rfl),HB2.out⟩
  | false=>
   rw [h1] at HE
   cases h2:(s.toList==[102,97,108,115,101]) with
   | true=>
    rw [h2] at HE
    go_enter Tryz.func104,Tryz.ntmps104
    go_wp2_with fail
    refine HH.out.mono ?_;rintro e w2 ⟨rfl,hb2⟩;have HB2:=Hd hb2;clear hb2
    go_wp2_with fail
    go_ret
    exact⟨ret_bool (by rw [HE.out];rfl),HB2.out⟩
   | false=>
    rw [h2] at HE
    go_enter Tryz.func104,Tryz.ntmps104
    go_wp2_with fail
    refine HH.out.mono ?_;rintro e w2 ⟨rfl,hb2⟩;have HB2:=Hd hb2;clear hb2
    go_wp2_with fail
    go_ret
    exact⟨ret_bool (by rw [HE.out];rfl),HB2.out⟩
theorem pgTimed(d:Dc) (w:World) (ho:OkD d):
 Calls Tryz.prog 72 #[.agg (dcA d)] w fun e w'=>e=.returned (.bool (timedB d))∧Below w.heap.size w w':=by
 have HF:=Hd fun w1 hw=>dc_facts w d w1 hw;have HL:=Hd fun w1=>idLow d.on w1 (by have:=ho.2.1;unfold maxLen at this;omega);have HA:=Hd fun w1=>pgArm d.ct w1 (by have:=ho.2.2;unfold maxLen at this;omega);have HE:=Hd (show timedB d=if(d.on.toList==[]) then(d.ct.toList==[]) else lowB d.on.data.toList && armT d.ct by rw [Lib.toList_data,Lib.toList_data];rfl);clear ho;unfold dcA at HF ⊢;generalize timedB d=out at *;generalize lowB d.on.data.toList=lb at *;generalize armT d.ct=ab at *
 go_enter Tryz.func72,Tryz.ntmps72
 go_upto_region 1 with(fail)
 generalize hw1:w.alloc _=w1;obtain⟨hb1,hg,hcell⟩:=HF.out w1 hw1;have HB1:=Hd hb1;have HC:=Hd hcell;have q2:=hcell w1 (Below.refl _ _) 4;have q3:=hcell w1 (Below.refl _ _) 5;simp only [Ya,Yb,Yc] at q2 q3;clear hw1 hcell hb1 HF
 cases h1:(d.on.toList==[]) with
 | true=>
  rw [h1,if_pos rfl] at HE;generalize hc:(d.ct.toList==[])=cb at *
  go_wp2_with fail
  go_ret
  exact⟨ret_bool HE.out.symm,HB1.out⟩
 | false=>
  rw [h1,if_neg (by simp)] at HE
  cases lb with
  | false=>
   go_wp2_with fail
   refine(HL.out w1).mono ?_;rintro e w2 ⟨rfl,hb2⟩;have HB2:=Hd (HB1.out.trans (hb2.mono HB1.out.size));clear hb2 q2 q3
   go_wp2_with fail
   go_ret
   exact⟨ret_bool HE.out.symm,HB2.out⟩
  | true=>
   go_wp2_with fail
   refine(HL.out w1).mono ?_;rintro e w2 ⟨rfl,hb2⟩;have HB2:=Hd (HB1.out.trans (hb2.mono HB1.out.size));have p3:=HC.out w2 hb2 5;simp only [Ya,Yb,Yc] at p3;clear hb2 q2 q3
   go_wp2_with fail
   refine(HA.out w2).mono ?_;rintro e w3 ⟨rfl,hb3⟩;have HB3:=Hd (HB2.out.trans (hb3.mono HB2.out.size));clear hb3 p3
   go_wp2_with fail
   go_ret
   exact⟨ret_bool HE.out.symm,HB3.out⟩
end
section
open Go.RowKit Go.Sort
theorem pgVar(d:Dc) (be:Nat) (E:Option Addr) (ne ec:Nat) (w:World) (ho:OkD d) (hn:ne≤9223372036854775807) (he:w.cell? ⟨be,0,none⟩=some (.slice E ne ec)):
 Calls Tryz.prog 70 #[.agg (dcA d),.pointer (some ⟨be,0,none⟩)] w fun e w'=>e=.returned (.bool (!declB ne rightB d))∧Below w.heap.size w w':=by
 have HF:=Hd fun w1 hw=>dc_facts w d w1 hw;have HL:=Hd fun w1=>idLow d.nm w1 (by have:=ho.1;unfold maxLen at this;omega);have HR:=Hd fun w1=>tyRight E ne ec d.k d.e d.l w1 hn;have HT:=Hd fun w1=>pgTimed d w1 ho;have HE:=Hd (decl_timed ne d);have HBE:=Hd (World.block_lt_of_cell? _ _ he);have HCE:=Hd he;clear ho he;unfold dcA at HF HT ⊢;unfold tyV at HR;generalize declB ne rightB d=out at *;generalize lowB d.nm.data.toList=lb at *;generalize rightB ne d.k d.e d.l=rb at *;generalize timedB d=tb at *
 go_enter Tryz.func70,Tryz.ntmps70
 go_upto_region 1 with(fail)
 generalize hw1:w.alloc _=w1;obtain⟨hb1,hg,hcell⟩:=HF.out w1 hw1;have HB1:=Hd hb1;have HC:=Hd hcell;have q0:=hcell w1 (Below.refl _ _) 0;simp only [Ya,Yb,Yc] at q0;clear hw1 hcell hb1 HF
 cases lb with
 | false=>
  go_wp2_with fail
  refine(HL.out w1).mono ?_;rintro e w2 ⟨rfl,hb2⟩;have HB2:=Hd (HB1.out.trans (hb2.mono HB1.out.size));clear hb2 q0
  go_wp2_with fail
  go_ret
  exact⟨ret_bool (by rw [HE.out];rfl),HB2.out⟩
 | true=>
  go_wp2_with fail
  refine(HL.out w1).mono ?_;rintro e w2 ⟨rfl,hb2⟩;have HB2:=Hd (HB1.out.trans (hb2.mono HB1.out.size));obtain⟨-,p1,p2,p3,-,-⟩:=Sx (HC.out w2 hb2);simp only [Ya,Yb,Yc] at p1 p2 p3;have pe:=(HB2.out.cell (p:=⟨be,0,none⟩) HBE.out).trans HCE.out;have HW2:=Hd hb2;clear hb2 q0
  cases rb with
  | false=>
   go_wp2_with fail
   refine(HR.out w2).mono ?_;rintro e w3 ⟨rfl,hb3⟩;have HB3:=Hd (HB2.out.trans (hb3.mono HB2.out.size));clear hb3 p1 p2 p3 pe
   go_wp2_with fail
   go_ret
   exact⟨ret_bool (by rw [HE.out];rfl),HB3.out⟩
  | true=>
   go_wp2_with fail
   refine(HR.out w2).mono ?_;rintro e w3 ⟨rfl,hb3⟩;have HB3:=Hd (HB2.out.trans (hb3.mono HB2.out.size));have hw3:=HW2.out.trans (hb3.mono HW2.out.size);obtain⟨s0,s1,s2,s3,s4,s5⟩:=Sx (HC.out w3 hw3);simp only [Ya,Yb,Yc] at s0 s1 s2 s3 s4 s5;clear hb3 p1 p2 p3 pe hw3
   go_wp2_with fail
   refine(HT.out w3).mono ?_;rintro e w4 ⟨rfl,hb4⟩;have HB4:=Hd (HB3.out.trans (hb4.mono HB3.out.size));clear hb4 s0 s1 s2 s3 s4 s5;generalize hnt:(!tb)=nt at *
   cases nt with
   | true=>
    go_wp2_with fail
    go_ret
    exact⟨ret_bool (by rw [HE.out];simpa using hnt.symm),HB4.out⟩
   | false=>
    go_wp2_with fail
    go_ret
    exact⟨ret_bool (by rw [HE.out];simpa using hnt.symm),HB4.out⟩
theorem pgPort(d:Dc) (bv be:Nat) (E:Option Addr) (ne ec:Nat) (w:World) (ho:OkD d) (hn:ne≤9223372036854775807) (he:w.cell? ⟨be,0,none⟩=some (.slice E ne ec))
 (hv:w.cell? ⟨bv,0,none⟩=some (.func (.func 70) #[] #[.pointer (some ⟨be,0,none⟩)])):
 Calls Tryz.prog 73 #[.agg (dcA d),.pointer (some ⟨bv,0,none⟩)] w fun e w'=>e=.returned (.bool (!(declB ne rightB d && noB d.on)))∧Below w.heap.size w w':=by
 have HF:=Hd fun w1 hw=>dc_facts w d w1 hw;have HV:=Hd fun w1 (hb:Below w.heap.size w w1)=>pgVar d be E ne ec w1 ho hn ((hb.cell (p:=⟨be,0,none⟩) (World.block_lt_of_cell? _ _ he)).trans he);have HE:=Hd (show noB d.on=(d.on.toList==[]) by rw [Lib.toList_data];rfl);have HBV:=Hd (World.block_lt_of_cell? _ _ hv);have HCV:=Hd hv;clear ho he hv;unfold dcA at HF HV ⊢;rw [HE.out];clear HE;generalize declB ne rightB d=db at *
 go_enter Tryz.func73,Tryz.ntmps73
 go_upto_region 1 with(fail)
 generalize hw1:w.alloc _=w1;obtain⟨hb1,hg,hcell⟩:=HF.out w1 hw1;have HB1:=Hd hb1;have HC:=Hd hcell;have HV1:=Hd (HV.out w1 hb1);have qv:=(hb1.cell (p:=⟨bv,0,none⟩) HBV.out).trans HCV.out;obtain⟨q0,q1,q2,q3,q4,q5⟩:=Sx (hcell w1 (Below.refl _ _));simp only [Ya,Yb,Yc] at q0 q1 q2 q3 q4 q5;clear hw1 hcell hb1 HF HV
 cases db with
 | false=>
  go_wp2_with fail
  refine HV1.out.mono ?_;rintro e w2 ⟨rfl,hb2⟩;have HB2:=Hd (HB1.out.trans (hb2.mono HB1.out.size));clear hb2 q0 q1 q2 q3 q4 q5 qv
  go_wp2_with fail
  go_ret
  exact⟨rfl,HB2.out⟩
 | true=>
  go_wp2_with fail
  refine HV1.out.mono ?_;rintro e w2 ⟨rfl,hb2⟩;have HB2:=Hd (HB1.out.trans (hb2.mono HB1.out.size));have p4:=HC.out w2 hb2 4;simp only [Ya,Yb,Yc] at p4;clear hb2 q0 q1 q2 q3 q4 q5 qv;have hne:(d.on.toList != [])=!(d.on.toList==[]):=rfl
  cases h1:(d.on.toList==[]) with
  | true=>
   rw [h1] at hne
   go_wp2_with fail
   go_ret
   exact⟨ret_bool (by rw [h1];rfl),HB2.out⟩
  | false=>
   rw [h1] at hne
   go_wp2_with fail
   go_ret
   exact⟨ret_bool (by rw [h1];rfl),HB2.out⟩
end
end Go.Proofs.YtpedcgpcchbhpaaGreatDoor
