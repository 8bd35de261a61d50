/- Parts of the proof: PiD, PiE. Conditions: each theorem's own. -/
import Derived.Laws.EntriesVeiled
import Derived.Test.YtpedcgpcchbhpaaGreatDoorU14
import Derived.Test.YtpedcgpcchbhpaaGreatDoorU17
namespace Go.Proofs.YtpedcgpcchbhpaaGreatDoor
set_option linter.unusedVariables false
set_option linter.unusedSimpArgs false
set_option maxRecDepth 100000
set_option maxHeartbeats 40000000
section
open Go.RowKit Go.Sort
theorem pgWrong1(s:ByteArray) (w:World) (hs:s.size≤9223372036854775807):
 Calls Tryz.prog 107 #[.string s] w fun e w'=>e=.returned (.bool (!lowB s.data.toList))∧Below w.heap.size w w':=by
 have HL:=Hd (idLow s w hs);generalize lowB s.data.toList=b at *
 go_enter Tryz.func107,Tryz.ntmps107
 go_wp2_with fail
 refine HL.out.mono ?_;rintro e w2 ⟨rfl,hb2⟩;have HB2:=Hd hb2;clear hb2
 go_wp2_with fail
 go_ret
 exact⟨rfl,HB2.out⟩
theorem pgWrongEq(q:Qn) (A:Option Addr) (c:Nat) (A':Option Addr) (ca:Nat) (B':Option Addr) (cb:Nat) (w:World) (hr:RdT w A q.ns.length q.ns) (hx:rdX w q.x A' B') (hok:OkQ q):
 Calls Tryz.prog 77 #[.agg (qnA q A c A' ca B' cb)] w fun e w'=>e=.returned (.bool (!eqB rightX q))∧Below w.heap.size w w':=by
 have HF:=Hd fun w1 h=>qn_facts w q A c A' ca B' cb w1 h hr hx;have hmx:=hr.max;have HRX:=Hd fun w1 (h:rdX w1 q.x A' B')=>exRight q.x A' ca B' cb w1 h hok.2.1 hok.2.2
 have HNM:=Hd fun w1 (h:RdT w1 A q.ns.length q.ns)=>slHasT 107 #[] (fun _ _=>rfl) (fun s=>!lowB s.data.toList) A q.ns.length c q.ns w1 h
  fun s hs W _=>pgWrong1 s W (by have:=hok.1 s hs;unfold maxLen at this;omega)
 have HE:=Hd (show(!eqB rightX q)=(decide (q.ns.length=0) || (q.ns.any fun s=>!lowB s.data.toList) || !rightX q.x || (!decide (q.ns.length≤1) && !(q.x.k==13))) by
  unfold eqB;rw [← List.not_all_eq_any_not];generalize (q.ns.all fun s=>lowB s.data.toList)=a;rcases Nat.lt_trichotomy q.ns.length 1 with h | h | h
  · have:q.ns.length=0:=by omega
    simp [this]
  · simp [h]
  · have h0:q.ns.length≠0:=by omega
    have h1:q.ns.length≠1:=by omega
    have h2:¬ q.ns.length≤1:=by omega
    have h3:0<q.ns.length:=by omega
    simp [h0,h1,h2,h3])
 clear hok hr hx;unfold exA at HRX;unfold qnA;generalize (!eqB rightX q)=out at *;generalize rightX q.x=rb at *;generalize (q.ns.any fun s=>!lowB s.data.toList)=nb at *
 go_enter Tryz.func77,Tryz.ntmps77
 go_upto_region 1 with(fail)
 generalize hw1:w.alloc _=w1;obtain⟨hb1,hg,hR1,hX1,hcell⟩:=HF.out w1 hw1;have HB1:=Hd hb1;have HC:=Hd hcell;have HX1:=Hd hX1;have HN1:=Hd (HNM.out w1 hR1);simp only [qnA] at HC;have q0:=HC.out w1 (Below.refl _ _) 0;simp only [Ya,Yb,Yc] at q0;clear hw1 hcell hb1 HF hR1 hX1 HNM;generalize q.ns.length=n at *;generalize q.x.k=xk at *;generalize q.x.n=xn at *;generalize q.x.s=xs at *;generalize q.x.op=xo at *;generalize q.x.arms.length=xa at *;generalize q.x.subs.length=xb at *
 by_cases h0:n=0
 · subst h0;have d0:(((0:Nat):Int)==0)=true:=rfl
   go_wp2_with fail
   go_ret
   exact⟨ret_bool (by rw [HE.out];rfl),HB1.out⟩
 · have d0:((n:Int)==0)=false:=by rw [beq_eq_false_iff_ne];omega
   rw [show decide (n=0)=false by simp [h0]] at HE;have HN0:=Hd h0;clear h0
   cases nb with
   | true=>
    go_wp2_with fail
    refine HN1.out.mono ?_;rintro e w2 ⟨rfl,hb2⟩;have HB2:=Hd (HB1.out.trans (hb2.mono HB1.out.size));clear hb2 q0
    go_wp2_with fail
    go_ret
    exact⟨ret_bool (by rw [HE.out];rfl),HB2.out⟩
   | false=>
    go_wp2_with fail
    refine HN1.out.mono ?_;rintro e w2 ⟨rfl,hb2⟩;have HB2:=Hd (HB1.out.trans (hb2.mono HB1.out.size));have HW2:=Hd hb2;have HR2:=Hd (HRX.out w2 (HX1.out.below hb2));obtain⟨-,p1,p2,p3,p4,p5⟩:=Sx (HC.out w2 hb2);have p6:=HC.out w2 hb2 6;simp only [Ya,Yb,Yc] at p1 p2 p3 p4 p5 p6;clear hb2 q0
    cases rb with
    | false=>
     go_wp2_with fail
     refine HR2.out.mono ?_;rintro e w3 ⟨rfl,hb3⟩;have HB3:=Hd (HB2.out.trans (hb3.mono HB2.out.size));clear hb3 p1 p2 p3 p4 p5 p6
     go_wp2_with fail
     go_ret
     exact⟨ret_bool (by rw [HE.out];rfl),HB3.out⟩
    | true=>
     go_wp2_with fail
     refine HR2.out.mono ?_;rintro e w3 ⟨rfl,hb3⟩;have HB3:=Hd (HB2.out.trans (hb3.mono HB2.out.size));have hw3:=HW2.out.trans (hb3.mono HW2.out.size);have s0:=HC.out w3 hw3 0;have s1:=HC.out w3 hw3 1;simp only [Ya,Yb,Yc] at s0 s1;clear hb3 p1 p2 p3 p4 p5 p6 hw3
     by_cases h1:n≤1
     · rw [show decide (n≤1)=true by simp [h1]] at HE;have d1:decide ((1:Int)<(n:Int))=false:=decide_eq_false (by omega);clear h1
       go_wp2_with fail
       go_ret
       exact⟨ret_bool (by rw [HE.out];rfl),HB3.out⟩
     · rw [show decide (n≤1)=false by simp [h1]] at HE;have d1:decide ((1:Int)<(n:Int))=true:=decide_eq_true (by omega);clear h1
       cases hk:(xk==13) with
       | true=>
        rw [hk] at HE;have hk2:(xk != 13)=false:=by rw [bne,hk];rfl
        go_wp2_with fail
        go_ret
        exact⟨ret_bool (by rw [HE.out];rfl),HB3.out⟩
       | false=>
        rw [hk] at HE;have hk2:(xk != 13)=true:=by rw [bne,hk];rfl
        go_wp2_with fail
        go_ret
        exact⟨ret_bool (by rw [HE.out];rfl),HB3.out⟩
theorem pgCrowded(x:Nd) (A1:Option Addr) (c1:Nat) (A2:Option Addr) (c2:Nat) (A3:Option Addr) (c3:Nat) (A4:Option Addr) (c4:Nat) (w:World) (h:rdN w x A1 A2 A3 A4):
 Calls Tryz.prog 42 #[.agg (ndA x A1 c1 A2 c2 A3 c3 A4 c4)] w fun e w'=>e=.returned (.bool (manyN x))∧Below w.heap.size w w':=by
 have HF:=Hd fun w1 hw=>nd_facts w x A1 c1 A2 c2 A3 c3 A4 c4 w1 hw h
 have HE:=Hd (show manyN x=(decide ((6:Int)<(x.ins.length:Int)) || decide ((6:Int)<(x.outs.length:Int)) || decide ((12:Int)<(x.vars.length:Int)) || decide ((18:Int)<(x.eqs.length:Int))) by
  unfold manyN
  congr 1
  · congr 1
    · congr 1
      · exact decide_eq_decide.2 (by omega)
      · exact decide_eq_decide.2 (by omega)
    · exact decide_eq_decide.2 (by omega)
  · exact decide_eq_decide.2 (by omega))
 clear h;unfold ndA at HF ⊢;generalize manyN x=out at *;generalize (x.ins.length:Nat)=n1 at *;generalize (x.outs.length:Nat)=n2 at *;generalize (x.vars.length:Nat)=n3 at *;generalize (x.eqs.length:Nat)=n4 at *
 go_enter Tryz.func42,Tryz.ntmps42
 go_upto_region 1 with(fail)
 generalize hw1:w.alloc _=w1;obtain⟨hb1,hg,hR1,hcell⟩:=HF.out w1 hw1;have HB1:=Hd hb1;obtain⟨-,q1,q2,q3,q4,-⟩:=Sx (hcell w1 (Below.refl _ _));simp only [Ya,Yb,Yc] at q1 q2 q3 q4;clear hw1 hcell hb1 HF hR1
 cases e1:decide ((6:Int)<(n1:Int)) with
 | true=>
  rw [e1] at HE
  go_wp2_with fail
  go_ret
  exact⟨ret_bool (by rw [HE.out];rfl),HB1.out⟩
 | false=>
  rw [e1] at HE
  cases e2:decide ((6:Int)<(n2:Int)) with
  | true=>
   rw [e2] at HE
   go_wp2_with fail
   go_ret
   exact⟨ret_bool (by rw [HE.out];rfl),HB1.out⟩
  | false=>
   rw [e2] at HE
   cases e3:decide ((12:Int)<(n3:Int)) with
   | true=>
    rw [e3] at HE
    go_wp2_with fail
    go_ret
    exact⟨ret_bool (by rw [HE.out];rfl),HB1.out⟩
   | false=>
    rw [e3] at HE
    cases e4:decide ((18:Int)<(n4:Int)) with
    | true=>
     rw [e4] at HE
     go_wp2_with fail
     go_ret
     exact⟨ret_bool (by rw [HE.out];rfl),HB1.out⟩
    | false=>
     rw [e4] at HE
     go_wp2_with fail
     go_ret
     exact⟨ret_bool (by rw [HE.out];rfl),HB1.out⟩
end
section
open Go.RowKit Go.Sort
theorem all_and_{α:Type}(a b:α→Bool):∀ l:List α,(l.all fun d=>a d && b d)=(l.all a && l.all b)
 | []=>rfl
 | x::l=>by
  simp only [List.all_cons,all_and_ a b l]
  cases a x <;> cases b x <;> cases l.all a <;> cases l.all b <;> rfl
theorem node_any(es:Nat) (n:Nd):(!nodeB es rightB rightX n)=(!lowB n.nm.data.toList || decide (n.outs.length=0) || (n.ins.any fun d=>!(declB es rightB d && noB d.on)) || (n.outs.any fun d=>!(declB es rightB d && noB d.on)) || (n.vars.any fun d=>!declB es rightB d) || (n.eqs.any fun q=>!eqB rightX q)):=by
 unfold nodeB portsB Nd.all;rw [← List.not_all_eq_any_not,← List.not_all_eq_any_not,← List.not_all_eq_any_not,← List.not_all_eq_any_not,all_and_,all_and_,List.all_append,List.all_append,List.all_append]
 have h:decide (0<n.outs.length)=!decide (n.outs.length=0):=by
  rcases Nat.eq_zero_or_pos n.outs.length with h | h
  · simp [h]
  · simp [h,Nat.pos_iff_ne_zero.1 h]
 rw [h];generalize n.ins.all (declB es rightB)=a1;generalize n.outs.all (declB es rightB)=a2;generalize n.vars.all (declB es rightB)=a3;generalize (n.ins.all fun d=>noB d.on)=a4;generalize (n.outs.all fun d=>noB d.on)=a5;generalize n.eqs.all (eqB rightX)=a6;generalize lowB n.nm.data.toList=a7;generalize decide (n.outs.length=0)=a8
 cases a1 <;> cases a2 <;> cases a3 <;> cases a4 <;> cases a5 <;> cases a6 <;> cases a7 <;> cases a8 <;> rfl
theorem three_boxes(w:World) (a b c:Value) (T U V:TypeId) (w3:World) (h:((w.alloc (.cells #[a] T)).alloc (.cells #[b] U)).alloc (.cells #[c] V)=w3):
 w3.cell? ⟨w.heap.size,0,none⟩=some a∧w3.cell? ⟨w.heap.size+1,0,none⟩=some b∧w3.cell? ⟨w.heap.size+1+1,0,none⟩=some c∧Below w.heap.size w w3:=by
 subst h;generalize h1:w.alloc (.cells #[a] T)=w1;have e1:w1.heap.size=w.heap.size+1:=by rw [← h1];simp
 have c1:w1.cell? ⟨w.heap.size,0,none⟩=some a:=by rw [← h1,World.cell?_alloc_new];rfl
 have b1:Below w.heap.size w w1:=by rw [← h1];exact(Below.refl _ _).alloc (Nat.le_refl _) _
 generalize h2:w1.alloc (.cells #[b] U)=w2;have e2:w2.heap.size=w1.heap.size+1:=by rw [← h2];simp
 have c2:w2.cell? ⟨w1.heap.size,0,none⟩=some b:=by rw [← h2,World.cell?_alloc_new];rfl
 have b2:Below w1.heap.size w1 w2:=by rw [← h2];exact(Below.refl _ _).alloc (Nat.le_refl _) _
 have b3:Below w2.heap.size w2 (w2.alloc (.cells #[c] V)):=(Below.refl _ _).alloc (Nat.le_refl _) _;refine⟨?_,?_,?_,?_⟩
 · rw [b3.cell (p:=⟨w.heap.size,0,none⟩) (by show w.heap.size<_;omega),b2.cell (p:=⟨w.heap.size,0,none⟩) (by show w.heap.size<_;omega),c1]
 · rw [b3.cell (p:=⟨w.heap.size+1,0,none⟩) (by show w.heap.size+1<_;omega),← e1,c2]
 · rw [← e1,← e2,World.cell?_alloc_new];rfl
 · exact b1.trans ((b2.trans (b3.mono b2.size)).mono b1.size)
def Boxes(w:World) (bp bv be:Nat) (E:Option Addr) (ne ec:Nat):Prop:=
 w.cell? ⟨be,0,none⟩=some (.slice E ne ec)∧w.cell? ⟨bv,0,none⟩=some (.func (.func 70) #[] #[.pointer (some ⟨be,0,none⟩)]) ∧
  w.cell? ⟨bp,0,none⟩=some (.func (.func 73) #[] #[.pointer (some ⟨bv,0,none⟩)])
theorem Boxes.below{w w':World}{bp bv be:Nat}{E:Option Addr}{ne ec:Nat}(h:Boxes w bp bv be E ne ec) (hb:Below w.heap.size w w'):Boxes w' bp bv be E ne ec:=
 ⟨(hb.cell (World.block_lt_of_cell? _ _ h.1)).trans h.1,(hb.cell (World.block_lt_of_cell? _ _ h.2.1)).trans h.2.1,(hb.cell (World.block_lt_of_cell? _ _ h.2.2)).trans h.2.2⟩
theorem predPort(l:List Dc) (bp bv be:Nat) (E:Option Addr) (ne ec:Nat) (w:World) (hl:∀ d∈l,OkD d) (hn:ne≤9223372036854775807) (hb:Boxes w bp bv be E ne ec):
 PredDc 73 #[.pointer (some ⟨bv,0,none⟩)] (fun d=>!(declB ne rightB d && noB d.on)) l w:=
 fun d hd W hW=>pgPort d bv be E ne ec W (hl d hd) hn (hb.below hW).1 (hb.below hW).2.1
theorem predVar(l:List Dc) (bp bv be:Nat) (E:Option Addr) (ne ec:Nat) (w:World) (hl:∀ d∈l,OkD d) (hn:ne≤9223372036854775807) (hb:Boxes w bp bv be E ne ec):
 PredDc 70 #[.pointer (some ⟨be,0,none⟩)] (fun d=>!declB ne rightB d) l w:=
 fun d hd W hW=>pgVar d be E ne ec W (hl d hd) hn (hb.below hW).1
theorem predEq(l:List Qn) (w:World) (hl:∀ q∈l,OkQ q):PredQn 77 #[] (fun q=>!eqB rightX q) l w:=
 fun q hq B c A ca D cb W _ hr=>pgWrongEq q B c A ca D cb W hr.1 hr.2 (hl q hq)
theorem pgNode(x:Nd) (A1:Option Addr) (c1:Nat) (A2:Option Addr) (c2:Nat) (A3:Option Addr) (c3:Nat) (A4:Option Addr) (c4:Nat) (bp bv be:Nat) (E:Option Addr) (ne ec:Nat) (w:World)
 (h:rdN w x A1 A2 A3 A4) (ho:OkN x) (hn:ne≤9223372036854775807) (hbx:Boxes w bp bv be E ne ec):
 Calls Tryz.prog 74 #[.agg (ndA x A1 c1 A2 c2 A3 c3 A4 c4),.pointer (some ⟨bp,0,none⟩),.pointer (some ⟨bv,0,none⟩)] w fun e w'=>e=.returned (.bool (!nodeB ne rightB rightX x))∧Below w.heap.size w w':=by
 have HF:=Hd fun w1 hw=>nd_facts w x A1 c1 A2 c2 A3 c3 A4 c4 w1 hw h;have HE:=Hd (node_any ne x);have HLO:=Hd fun w1=>idLow x.nm w1 (by have:=ho.1;unfold maxLen at this;omega);have HP:=Hd fun(l:List Dc) w1 (hl:∀ d∈l,OkD d) (hb:Boxes w1 bp bv be E ne ec)=>predPort l bp bv be E ne ec w1 hl hn hb;have HV:=Hd fun(l:List Dc) w1 (hl:∀ d∈l,OkD d) (hb:Boxes w1 bp bv be E ne ec)=>predVar l bp bv be E ne ec w1 hl hn hb;have HC1:=Hd fun w1 (a:RdD w1 A1 x.ins.length x.ins) b=>slHasDc 73 #[.pointer (some ⟨bv,0,none⟩)] (fun _ _=>rfl) _ A1 x.ins.length c1 x.ins w1 a (HP.out x.ins w1 (fun d hd=>ho.2.1 d (by simp [Nd.all,hd])) b);have HC2:=Hd fun w1 (a:RdD w1 A2 x.outs.length x.outs) b=>slHasDc 73 #[.pointer (some ⟨bv,0,none⟩)] (fun _ _=>rfl) _ A2 x.outs.length c2 x.outs w1 a (HP.out x.outs w1 (fun d hd=>ho.2.1 d (by simp [Nd.all,hd])) b);have HC3:=Hd fun w1 (a:RdD w1 A3 x.vars.length x.vars) b=>slHasDc 70 #[.pointer (some ⟨be,0,none⟩)] (fun _ _=>rfl) _ A3 x.vars.length c3 x.vars w1 a (HV.out x.vars w1 (fun d hd=>ho.2.1 d (by simp [Nd.all,hd])) b);have HC4:=Hd fun w1 (a:RdQ w1 A4 x.eqs.length x.eqs)=>slHasQn 77 #[] (fun _ _=>rfl) _ A4 x.eqs.length c4 x.eqs w1 a (predEq x.eqs w1 ho.2.2);have HBX:=Hd hbx;clear HP HV ho hbx h;unfold ndA;generalize (!nodeB ne rightB rightX x)=out at *;generalize (x.ins.any fun d=>!(declB ne rightB d && noB d.on))=s1 at *;generalize (x.outs.any fun d=>!(declB ne rightB d && noB d.on))=s2 at *;generalize (x.vars.any fun d=>!declB ne rightB d)=s3 at *;generalize (x.eqs.any fun q=>!eqB rightX q)=s4 at *;generalize lowB x.nm.data.toList=lb at *
 have HDO:=Hd (show decide (x.outs.length=0)=((x.outs.length:Int)==0) by
  rcases Nat.eq_zero_or_pos x.outs.length with h | h
  · simp [h]
  · rw [decide_eq_false (by omega)];symm;rw [beq_eq_false_iff_ne];omega)
 rw [HDO.out] at HE;clear HDO
 go_enter Tryz.func74,Tryz.ntmps74
 go_upto_region 1 with(fail)
 generalize hw1:w.alloc _=w1;obtain⟨hb1,hg,hR1,hcell⟩:=HF.out w1 hw1;have HB1:=Hd hb1;have HX:=Hd hcell;have HRX:=Hd hR1;have HBX1:=Hd (HBX.out.below hb1);simp only [ndA] at HX;clear hw1 hcell hb1 HF hR1 HBX;have p0:=HX.out w1 (Below.refl _ _) 0;simp only [Ya,Yb,Yc] at p0
 cases lb with
 | false=>
  go_wp2_with fail
  refine(HLO.out w1).mono ?_;rintro e w2 ⟨rfl,hb⟩;have HB2:=Hd (HB1.out.trans (hb.mono HB1.out.size));clear hb p0
  go_wp2_with fail
  go_ret
  exact⟨ret_bool (by rw [HE.out];rfl),HB2.out⟩
 | true=>
  go_wp2_with fail
  refine(HLO.out w1).mono ?_;rintro e w2 ⟨rfl,hb⟩;have HW2:=Hd hb;have HB2:=Hd (HB1.out.trans (hb.mono HB1.out.size));have p1:=HX.out w2 hb 1;have p2:=HX.out w2 hb 2;have pb:=(HBX1.out.below hb).2.2;simp only [Ya,Yb,Yc] at p1 p2;clear hb p0
  cases e0:((x.outs.length:Int)==0) with
  | true=>
   rw [e0] at HE
   go_wp2_with fail
   go_ret
   exact⟨ret_bool (by rw [HE.out];rfl),HB2.out⟩
  | false=>
   rw [e0] at HE
   cases s1 with
   | true=>
    go_wp2_with fail
    refine(HC1.out w2 (RdD.below HRX.out.1 HW2.out) (HBX1.out.below HW2.out)).mono ?_;rintro e w3 ⟨rfl,hb⟩;have HW3:=Hd (HW2.out.trans (hb.mono HW2.out.size));have HB3:=Hd (HB1.out.trans (HW3.out.mono HB1.out.size));clear hb p1 pb p2
    go_wp2_with fail
    go_ret
    exact⟨ret_bool (by rw [HE.out];rfl),HB3.out⟩
   | false=>
    go_wp2_with fail
    refine(HC1.out w2 (RdD.below HRX.out.1 HW2.out) (HBX1.out.below HW2.out)).mono ?_;rintro e w3 ⟨rfl,hb⟩;have HW3:=Hd (HW2.out.trans (hb.mono HW2.out.size));have HB3:=Hd (HB1.out.trans (HW3.out.mono HB1.out.size));clear hb p1 pb p2;have p2:=HX.out w3 HW3.out 2;simp only [Ya,Yb,Yc] at p2;have pb:=(HBX1.out.below HW3.out).2.2
    cases s2 with
    | true=>
     go_wp2_with fail
     refine(HC2.out w3 (RdD.below HRX.out.2.1 HW3.out) (HBX1.out.below HW3.out)).mono ?_;rintro e w4 ⟨rfl,hb⟩;have HW4:=Hd (HW3.out.trans (hb.mono HW3.out.size));have HB4:=Hd (HB1.out.trans (HW4.out.mono HB1.out.size));clear hb p2 pb
     go_wp2_with fail
     go_ret
     exact⟨ret_bool (by rw [HE.out];rfl),HB4.out⟩
    | false=>
     go_wp2_with fail
     refine(HC2.out w3 (RdD.below HRX.out.2.1 HW3.out) (HBX1.out.below HW3.out)).mono ?_;rintro e w4 ⟨rfl,hb⟩;have HW4:=Hd (HW3.out.trans (hb.mono HW3.out.size));have HB4:=Hd (HB1.out.trans (HW4.out.mono HB1.out.size));clear hb p2 pb;have p3:=HX.out w4 HW4.out 3;simp only [Ya,Yb,Yc] at p3;have pb:=(HBX1.out.below HW4.out).2.1
     cases s3 with
     | true=>
      go_wp2_with fail
      refine(HC3.out w4 (RdD.below HRX.out.2.2.1 HW4.out) (HBX1.out.below HW4.out)).mono ?_;rintro e w5 ⟨rfl,hb⟩;have HW5:=Hd (HW4.out.trans (hb.mono HW4.out.size));have HB5:=Hd (HB1.out.trans (HW5.out.mono HB1.out.size));clear hb p3 pb
      go_wp2_with fail
      go_ret
      exact⟨ret_bool (by rw [HE.out];rfl),HB5.out⟩
     | false=>
      go_wp2_with fail
      refine(HC3.out w4 (RdD.below HRX.out.2.2.1 HW4.out) (HBX1.out.below HW4.out)).mono ?_;rintro e w5 ⟨rfl,hb⟩;have HW5:=Hd (HW4.out.trans (hb.mono HW4.out.size));have HB5:=Hd (HB1.out.trans (HW5.out.mono HB1.out.size));clear hb p3 pb;have p4:=HX.out w5 HW5.out 4;simp only [Ya,Yb,Yc] at p4
      go_wp2_with fail
      refine(HC4.out w5 (RdQ.below HRX.out.2.2.2 HW5.out)).mono ?_;rintro e w6 ⟨rfl,hb⟩;have HW6:=Hd (HW5.out.trans (hb.mono HW5.out.size));have HB6:=Hd (HB1.out.trans (HW6.out.mono HB1.out.size));clear hb p4
      go_wp2_with fail
      go_ret
      exact⟨ret_bool (by rw [HE.out];rfl),HB6.out⟩
theorem pgMalformed(E:Option Addr) (ne ec:Nat) (w:World):
 Calls Tryz.prog 43 #[.slice E ne ec] w fun e w'=>∃ bp bv be,e=.returned (.func (.func 74) #[] #[.pointer (some ⟨bp,0,none⟩),.pointer (some ⟨bv,0,none⟩)])∧Boxes w' bp bv be E ne ec∧Below w.heap.size w w':=by
 have hmk:∀ fn first cap w,(Instr.makeFunc fn first cap).run Tryz.prog w=.ok (.func fn first cap) w:=fun _ _ _ _=>rfl
 go_enter Tryz.func43,Tryz.ntmps43
 go_wp2_with fail
 go_ret
 obtain⟨h1,h2,h3,h4⟩:=three_boxes w _ _ _ _ _ _ _ rfl;exact⟨w.heap.size+1+1,w.heap.size+1,w.heap.size,rfl,⟨h1,h2,h3⟩,h4⟩
end
end Go.Proofs.YtpedcgpcchbhpaaGreatDoor
