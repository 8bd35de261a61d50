/- Parts of the proof: PiD, PiE, PiF, PiG, PiH, PhF. Conditions: each theorem's own. -/
import Derived.Laws.EntriesVeiled
import Derived.Test.YtkbpdoomhfkngaaGreatR14
import Derived.Test.YtkbpdoomhfkngaaGreatR15
namespace Go.Proofs.YtkbpdoomhfkngaaGreat
set_option linter.unusedVariables false
set_option linter.unusedSimpArgs false
set_option maxRecDepth 100000
set_option maxHeartbeats 40000000
section
open Go.RowKit Go.Sort
theorem pgWrong1(s:ByteArray) (w:World) (hs:s.size≤9223372036854775807):
 Calls Tryz.prog 136 #[.string s] w fun e w'=>e=.returned (.bool (!lowB s.data.toList))∧Below w.heap.size w w':=by
 have HL:=Hd (idLow s w hs);generalize lowB s.data.toList=b at *
 go_enter Tryz.func136,Tryz.ntmps136
 go_wp2_with fail
 refine HL.out.mono ?_;rintro e w2 ⟨rfl,hb2⟩;have HB2:=Hd hb2;clear hb2
 go_wp2_with fail
 go_ret
 exact⟨rfl,HB2.out⟩
theorem pgWrongEq(q:Qn) (A:Option Addr) (c:Nat) (A':Option Addr) (ca:Nat) (B':Option Addr) (cb:Nat) (w:World) (hr:RdT w A q.ns.length q.ns) (hx:rdX w q.x A' B') (hok:OkQ q):
 Calls Tryz.prog 104 #[.agg (qnA q A c A' ca B' cb)] w fun e w'=>e=.returned (.bool (!eqB rightX q))∧Below w.heap.size w w':=by
 have HF:=Hd fun w1 h=>qn_facts w q A c A' ca B' cb w1 h hr hx;have hmx:=hr.max;have HRX:=Hd fun w1 (h:rdX w1 q.x A' B')=>exRight q.x A' ca B' cb w1 h hok.2.1 hok.2.2
 have HNM:=Hd fun w1 (h:RdT w1 A q.ns.length q.ns)=>slHasT 136 #[] (fun _ _=>rfl) (fun s=>!lowB s.data.toList) A q.ns.length c q.ns w1 h
  fun s hs W _=>pgWrong1 s W (by have:=hok.1 s hs;unfold maxLen at this;omega)
 have HE:=Hd (show(!eqB rightX q)=(decide (q.ns.length=0) || (q.ns.any fun s=>!lowB s.data.toList) || !rightX q.x || (!decide (q.ns.length≤1) && !(q.x.k==13))) by
  unfold eqB;rw [← List.not_all_eq_any_not];generalize (q.ns.all fun s=>lowB s.data.toList)=a;rcases Nat.lt_trichotomy q.ns.length 1 with h | h | h
  · have:q.ns.length=0:=by omega
    simp [this]
  · simp [h]
  · have h0:q.ns.length≠0:=by omega
    have h1:q.ns.length≠1:=by omega
    have h2:¬ q.ns.length≤1:=by omega
    have h3:0<q.ns.length:=by omega
    simp [h0,h1,h2,h3])
 clear hok hr hx;unfold exA at HRX;unfold qnA;generalize (!eqB rightX q)=out at *;generalize rightX q.x=rb at *;generalize (q.ns.any fun s=>!lowB s.data.toList)=nb at *
 go_enter Tryz.func104,Tryz.ntmps104
 go_upto_region 1 with(fail)
 generalize hw1:w.alloc _=w1;obtain⟨hb1,hg,hR1,hX1,hcell⟩:=HF.out w1 hw1;have HB1:=Hd hb1;have HC:=Hd hcell;have HX1:=Hd hX1;have HN1:=Hd (HNM.out w1 hR1);simp only [qnA] at HC;have q0:=HC.out w1 (Below.refl _ _) 0;simp only [Ya,Yb,Yc] at q0;clear hw1 hcell hb1 HF hR1 hX1 HNM;generalize q.ns.length=n at *;generalize q.x.k=xk at *;generalize q.x.n=xn at *;generalize q.x.s=xs at *;generalize q.x.op=xo at *;generalize q.x.arms.length=xa at *;generalize q.x.subs.length=xb at *
 by_cases h0:n=0
 · subst h0;have d0:(((0:Nat):Int)==0)=true:=rfl
   go_wp2_with fail
   go_ret
   exact⟨ret_bool (by rw [HE.out];rfl),HB1.out⟩
 · have d0:((n:Int)==0)=false:=by rw [beq_eq_false_iff_ne];omega
   rw [show decide (n=0)=false by simp [h0]] at HE;have HN0:=Hd h0;clear h0
   cases nb with
   | true=>
    go_wp2_with fail
    refine HN1.out.mono ?_;rintro e w2 ⟨rfl,hb2⟩;have HB2:=Hd (HB1.out.trans (hb2.mono HB1.out.size));clear hb2 q0
    go_wp2_with fail
    go_ret
    exact⟨ret_bool (by rw [HE.out];rfl),HB2.out⟩
   | false=>
    go_wp2_with fail
    refine HN1.out.mono ?_;rintro e w2 ⟨rfl,hb2⟩;have HB2:=Hd (HB1.out.trans (hb2.mono HB1.out.size));have HW2:=Hd hb2;have HR2:=Hd (HRX.out w2 (HX1.out.below hb2));obtain⟨-,p1,p2,p3,p4,p5⟩:=Sx (HC.out w2 hb2);have p6:=HC.out w2 hb2 6;simp only [Ya,Yb,Yc] at p1 p2 p3 p4 p5 p6;clear hb2 q0
    cases rb with
    | false=>
     go_wp2_with fail
     refine HR2.out.mono ?_;rintro e w3 ⟨rfl,hb3⟩;have HB3:=Hd (HB2.out.trans (hb3.mono HB2.out.size));clear hb3 p1 p2 p3 p4 p5 p6
     go_wp2_with fail
     go_ret
     exact⟨ret_bool (by rw [HE.out];rfl),HB3.out⟩
    | true=>
     go_wp2_with fail
     refine HR2.out.mono ?_;rintro e w3 ⟨rfl,hb3⟩;have HB3:=Hd (HB2.out.trans (hb3.mono HB2.out.size));have hw3:=HW2.out.trans (hb3.mono HW2.out.size);have s0:=HC.out w3 hw3 0;have s1:=HC.out w3 hw3 1;simp only [Ya,Yb,Yc] at s0 s1;clear hb3 p1 p2 p3 p4 p5 p6 hw3
     by_cases h1:n≤1
     · rw [show decide (n≤1)=true by simp [h1]] at HE;have d1:decide ((1:Int)<(n:Int))=false:=decide_eq_false (by omega);clear h1
       go_wp2_with fail
       go_ret
       exact⟨ret_bool (by rw [HE.out];rfl),HB3.out⟩
     · rw [show decide (n≤1)=false by simp [h1]] at HE;have d1:decide ((1:Int)<(n:Int))=true:=decide_eq_true (by omega);clear h1
       cases hk:(xk==13) with
       | true=>
        rw [hk] at HE;have hk2:(xk != 13)=false:=by rw [bne,hk];rfl
        go_wp2_with fail
        go_ret
        exact⟨ret_bool (by rw [HE.out];rfl),HB3.out⟩
       | false=>
        rw [hk] at HE;have hk2:(xk != 13)=true:=by rw [bne,hk];rfl
        go_wp2_with fail
        go_ret
        exact⟨ret_bool (by rw [HE.out];rfl),HB3.out⟩
theorem pgCrowded(x:Nd) (A1:Option Addr) (c1:Nat) (A2:Option Addr) (c2:Nat) (A3:Option Addr) (c3:Nat) (A4:Option Addr) (c4:Nat) (w:World) (h:rdN w x A1 A2 A3 A4):
 Calls Tryz.prog 67 #[.agg (ndA x A1 c1 A2 c2 A3 c3 A4 c4)] w fun e w'=>e=.returned (.bool (manyN x))∧Below w.heap.size w w':=by
 have HF:=Hd fun w1 hw=>nd_facts w x A1 c1 A2 c2 A3 c3 A4 c4 w1 hw h
 have HE:=Hd (show manyN x=(decide ((6:Int)<(x.ins.length:Int)) || decide ((6:Int)<(x.outs.length:Int)) || decide ((12:Int)<(x.vars.length:Int)) || decide ((18:Int)<(x.eqs.length:Int))) by
  unfold manyN
  congr 1
  · congr 1
    · congr 1
      · exact decide_eq_decide.2 (by omega)
      · exact decide_eq_decide.2 (by omega)
    · exact decide_eq_decide.2 (by omega)
  · exact decide_eq_decide.2 (by omega))
 clear h;unfold ndA at HF ⊢;generalize manyN x=out at *;generalize (x.ins.length:Nat)=n1 at *;generalize (x.outs.length:Nat)=n2 at *;generalize (x.vars.length:Nat)=n3 at *;generalize (x.eqs.length:Nat)=n4 at *
 go_enter Tryz.func67,Tryz.ntmps67
 go_upto_region 1 with(fail)
 generalize hw1:w.alloc _=w1;obtain⟨hb1,hg,hR1,hcell⟩:=HF.out w1 hw1;have HB1:=Hd hb1;obtain⟨-,q1,q2,q3,q4,-⟩:=Sx (hcell w1 (Below.refl _ _));simp only [Ya,Yb,Yc] at q1 q2 q3 q4;clear hw1 hcell hb1 HF hR1
 cases e1:decide ((6:Int)<(n1:Int)) with
 | true=>
  rw [e1] at HE
  go_wp2_with fail
  go_ret
  exact⟨ret_bool (by rw [HE.out];rfl),HB1.out⟩
 | false=>
  rw [e1] at HE
  cases e2:decide ((6:Int)<(n2:Int)) with
  | true=>
   rw [e2] at HE
   go_wp2_with fail
   go_ret
   exact⟨ret_bool (by rw [HE.out];rfl),HB1.out⟩
  | false=>
   rw [e2] at HE
   cases e3:decide ((12:Int)<(n3:Int)) with
   | true=>
    rw [e3] at HE
    go_wp2_with fail
    go_ret
    exact⟨ret_bool (by rw [HE.out];rfl),HB1.out⟩
   | false=>
    rw [e3] at HE
    cases e4:decide ((18:Int)<(n4:Int)) with
    | true=>
     rw [e4] at HE
     go_wp2_with fail
     go_ret
     exact⟨ret_bool (by rw [HE.out];rfl),HB1.out⟩
    | false=>
     rw [e4] at HE
     go_wp2_with fail
     go_ret
     exact⟨ret_bool (by rw [HE.out];rfl),HB1.out⟩
end
section
open Go.RowKit Go.Sort
theorem all_and_{α:Type}(a b:α→Bool):∀ l:List α,(l.all fun d=>a d && b d)=(l.all a && l.all b)
 | []=>rfl
 | x::l=>by
  simp only [List.all_cons,all_and_ a b l]
  cases a x <;> cases b x <;> cases l.all a <;> cases l.all b <;> rfl
theorem node_any(es:Nat) (n:Nd):(!nodeB es rightB rightX n)=(!lowB n.nm.data.toList || decide (n.outs.length=0) || (n.ins.any fun d=>!(declB es rightB d && noB d.on)) || (n.outs.any fun d=>!(declB es rightB d && noB d.on)) || (n.vars.any fun d=>!declB es rightB d) || (n.eqs.any fun q=>!eqB rightX q)):=by
 unfold nodeB portsB Nd.all;rw [← List.not_all_eq_any_not,← List.not_all_eq_any_not,← List.not_all_eq_any_not,← List.not_all_eq_any_not,all_and_,all_and_,List.all_append,List.all_append,List.all_append]
 have h:decide (0<n.outs.length)=!decide (n.outs.length=0):=by
  rcases Nat.eq_zero_or_pos n.outs.length with h | h
  · simp [h]
  · simp [h,Nat.pos_iff_ne_zero.1 h]
 rw [h];generalize n.ins.all (declB es rightB)=a1;generalize n.outs.all (declB es rightB)=a2;generalize n.vars.all (declB es rightB)=a3;generalize (n.ins.all fun d=>noB d.on)=a4;generalize (n.outs.all fun d=>noB d.on)=a5;generalize n.eqs.all (eqB rightX)=a6;generalize lowB n.nm.data.toList=a7;generalize decide (n.outs.length=0)=a8
 cases a1 <;> cases a2 <;> cases a3 <;> cases a4 <;> cases a5 <;> cases a6 <;> cases a7 <;> cases a8 <;> rfl
theorem three_boxes(w:World) (a b c:Value) (T U V:TypeId) (w3:World) (h:((w.alloc (.cells #[a] T)).alloc (.cells #[b] U)).alloc (.cells #[c] V)=w3):
 w3.cell? ⟨w.heap.size,0,none⟩=some a∧w3.cell? ⟨w.heap.size+1,0,none⟩=some b∧w3.cell? ⟨w.heap.size+1+1,0,none⟩=some c∧Below w.heap.size w w3:=by
 subst h;generalize h1:w.alloc (.cells #[a] T)=w1;have e1:w1.heap.size=w.heap.size+1:=by rw [← h1];simp
 have c1:w1.cell? ⟨w.heap.size,0,none⟩=some a:=by rw [← h1,World.cell?_alloc_new];rfl
 have b1:Below w.heap.size w w1:=by rw [← h1];exact(Below.refl _ _).alloc (Nat.le_refl _) _
 generalize h2:w1.alloc (.cells #[b] U)=w2;have e2:w2.heap.size=w1.heap.size+1:=by rw [← h2];simp
 have c2:w2.cell? ⟨w1.heap.size,0,none⟩=some b:=by rw [← h2,World.cell?_alloc_new];rfl
 have b2:Below w1.heap.size w1 w2:=by rw [← h2];exact(Below.refl _ _).alloc (Nat.le_refl _) _
 have b3:Below w2.heap.size w2 (w2.alloc (.cells #[c] V)):=(Below.refl _ _).alloc (Nat.le_refl _) _;refine⟨?_,?_,?_,?_⟩
 · rw [b3.cell (p:=⟨w.heap.size,0,none⟩) (by show w.heap.size<_;omega),b2.cell (p:=⟨w.heap.size,0,none⟩) (by show w.heap.size<_;omega),c1]
 · rw [b3.cell (p:=⟨w.heap.size+1,0,none⟩) (by show w.heap.size+1<_;omega),← e1,c2]
 · rw [← e1,← e2,World.cell?_alloc_new];rfl
 · exact b1.trans ((b2.trans (b3.mono b2.size)).mono b1.size)
def Boxes(w:World) (bp bv be:Nat) (E:Option Addr) (ne ec:Nat):Prop:=
 w.cell? ⟨be,0,none⟩=some (.slice E ne ec)∧w.cell? ⟨bv,0,none⟩=some (.func (.func 97) #[] #[.pointer (some ⟨be,0,none⟩)]) ∧
  w.cell? ⟨bp,0,none⟩=some (.func (.func 101) #[] #[.pointer (some ⟨bv,0,none⟩)])
theorem Boxes.below{w w':World}{bp bv be:Nat}{E:Option Addr}{ne ec:Nat}(h:Boxes w bp bv be E ne ec) (hb:Below w.heap.size w w'):Boxes w' bp bv be E ne ec:=
 ⟨(hb.cell (World.block_lt_of_cell? _ _ h.1)).trans h.1,(hb.cell (World.block_lt_of_cell? _ _ h.2.1)).trans h.2.1,(hb.cell (World.block_lt_of_cell? _ _ h.2.2)).trans h.2.2⟩
theorem predPort(l:List Dc) (bp bv be:Nat) (E:Option Addr) (ne ec:Nat) (w:World) (hl:∀ d∈l,OkD d) (hn:ne≤9223372036854775807) (hb:Boxes w bp bv be E ne ec):
 PredDc 101 #[.pointer (some ⟨bv,0,none⟩)] (fun d=>!(declB ne rightB d && noB d.on)) l w:=
 fun d hd W hW=>pgPort d bv be E ne ec W (hl d hd) hn (hb.below hW).1 (hb.below hW).2.1
theorem predVar(l:List Dc) (bp bv be:Nat) (E:Option Addr) (ne ec:Nat) (w:World) (hl:∀ d∈l,OkD d) (hn:ne≤9223372036854775807) (hb:Boxes w bp bv be E ne ec):
 PredDc 97 #[.pointer (some ⟨be,0,none⟩)] (fun d=>!declB ne rightB d) l w:=
 fun d hd W hW=>pgVar d be E ne ec W (hl d hd) hn (hb.below hW).1
theorem predEq(l:List Qn) (w:World) (hl:∀ q∈l,OkQ q):PredQn 104 #[] (fun q=>!eqB rightX q) l w:=
 fun q hq B c A ca D cb W _ hr=>pgWrongEq q B c A ca D cb W hr.1 hr.2 (hl q hq)
theorem pgNode(x:Nd) (A1:Option Addr) (c1:Nat) (A2:Option Addr) (c2:Nat) (A3:Option Addr) (c3:Nat) (A4:Option Addr) (c4:Nat) (bp bv be:Nat) (E:Option Addr) (ne ec:Nat) (w:World)
 (h:rdN w x A1 A2 A3 A4) (ho:OkN x) (hn:ne≤9223372036854775807) (hbx:Boxes w bp bv be E ne ec):
 Calls Tryz.prog 102 #[.agg (ndA x A1 c1 A2 c2 A3 c3 A4 c4),.pointer (some ⟨bp,0,none⟩),.pointer (some ⟨bv,0,none⟩)] w fun e w'=>e=.returned (.bool (!nodeB ne rightB rightX x))∧Below w.heap.size w w':=by
 have HF:=Hd fun w1 hw=>nd_facts w x A1 c1 A2 c2 A3 c3 A4 c4 w1 hw h;have HE:=Hd (node_any ne x);have HLO:=Hd fun w1=>idLow x.nm w1 (by have:=ho.1;unfold maxLen at this;omega);have HP:=Hd fun(l:List Dc) w1 (hl:∀ d∈l,OkD d) (hb:Boxes w1 bp bv be E ne ec)=>predPort l bp bv be E ne ec w1 hl hn hb;have HV:=Hd fun(l:List Dc) w1 (hl:∀ d∈l,OkD d) (hb:Boxes w1 bp bv be E ne ec)=>predVar l bp bv be E ne ec w1 hl hn hb;have HC1:=Hd fun w1 (a:RdD w1 A1 x.ins.length x.ins) b=>slHasDc 101 #[.pointer (some ⟨bv,0,none⟩)] (fun _ _=>rfl) _ A1 x.ins.length c1 x.ins w1 a (HP.out x.ins w1 (fun d hd=>ho.2.1 d (by simp [Nd.all,hd])) b);have HC2:=Hd fun w1 (a:RdD w1 A2 x.outs.length x.outs) b=>slHasDc 101 #[.pointer (some ⟨bv,0,none⟩)] (fun _ _=>rfl) _ A2 x.outs.length c2 x.outs w1 a (HP.out x.outs w1 (fun d hd=>ho.2.1 d (by simp [Nd.all,hd])) b);have HC3:=Hd fun w1 (a:RdD w1 A3 x.vars.length x.vars) b=>slHasDc 97 #[.pointer (some ⟨be,0,none⟩)] (fun _ _=>rfl) _ A3 x.vars.length c3 x.vars w1 a (HV.out x.vars w1 (fun d hd=>ho.2.1 d (by simp [Nd.all,hd])) b);have HC4:=Hd fun w1 (a:RdQ w1 A4 x.eqs.length x.eqs)=>slHasQn 104 #[] (fun _ _=>rfl) _ A4 x.eqs.length c4 x.eqs w1 a (predEq x.eqs w1 ho.2.2);have HBX:=Hd hbx;clear HP HV ho hbx h;unfold ndA;generalize (!nodeB ne rightB rightX x)=out at *;generalize (x.ins.any fun d=>!(declB ne rightB d && noB d.on))=s1 at *;generalize (x.outs.any fun d=>!(declB ne rightB d && noB d.on))=s2 at *;generalize (x.vars.any fun d=>!declB ne rightB d)=s3 at *;generalize (x.eqs.any fun q=>!eqB rightX q)=s4 at *;generalize lowB x.nm.data.toList=lb at *
 have HDO:=Hd (show decide (x.outs.length=0)=((x.outs.length:Int)==0) by
  rcases Nat.eq_zero_or_pos x.outs.length with h | h
  · simp [h]
  · rw [decide_eq_false (by omega)];symm;rw [beq_eq_false_iff_ne];omega)
 rw [HDO.out] at HE;clear HDO
 go_enter Tryz.func102,Tryz.ntmps102
 go_upto_region 1 with(fail)
 generalize hw1:w.alloc _=w1;obtain⟨hb1,hg,hR1,hcell⟩:=HF.out w1 hw1;have HB1:=Hd hb1;have HX:=Hd hcell;have HRX:=Hd hR1;have HBX1:=Hd (HBX.out.below hb1);simp only [ndA] at HX;clear hw1 hcell hb1 HF hR1 HBX;have p0:=HX.out w1 (Below.refl _ _) 0;simp only [Ya,Yb,Yc] at p0
 cases lb with
 | false=>
  go_wp2_with fail
  refine(HLO.out w1).mono ?_;rintro e w2 ⟨rfl,hb⟩;have HB2:=Hd (HB1.out.trans (hb.mono HB1.out.size));clear hb p0
  go_wp2_with fail
  go_ret
  exact⟨ret_bool (by rw [HE.out];rfl),HB2.out⟩
 | true=>
  go_wp2_with fail
  refine(HLO.out w1).mono ?_;rintro e w2 ⟨rfl,hb⟩;have HW2:=Hd hb;have HB2:=Hd (HB1.out.trans (hb.mono HB1.out.size));have p1:=HX.out w2 hb 1;have p2:=HX.out w2 hb 2;have pb:=(HBX1.out.below hb).2.2;simp only [Ya,Yb,Yc] at p1 p2;clear hb p0
  cases e0:((x.outs.length:Int)==0) with
  | true=>
   rw [e0] at HE
   go_wp2_with fail
   go_ret
   exact⟨ret_bool (by rw [HE.out];rfl),HB2.out⟩
  | false=>
   rw [e0] at HE
   cases s1 with
   | true=>
    go_wp2_with fail
    refine(HC1.out w2 (RdD.below HRX.out.1 HW2.out) (HBX1.out.below HW2.out)).mono ?_;rintro e w3 ⟨rfl,hb⟩;have HW3:=Hd (HW2.out.trans (hb.mono HW2.out.size));have HB3:=Hd (HB1.out.trans (HW3.out.mono HB1.out.size));clear hb p1 pb p2
    go_wp2_with fail
    go_ret
    exact⟨ret_bool (by rw [HE.out];rfl),HB3.out⟩
   | false=>
    go_wp2_with fail
    refine(HC1.out w2 (RdD.below HRX.out.1 HW2.out) (HBX1.out.below HW2.out)).mono ?_;rintro e w3 ⟨rfl,hb⟩;have HW3:=Hd (HW2.out.trans (hb.mono HW2.out.size));have HB3:=Hd (HB1.out.trans (HW3.out.mono HB1.out.size));clear hb p1 pb p2;have p2:=HX.out w3 HW3.out 2;simp only [Ya,Yb,Yc] at p2;have pb:=(HBX1.out.below HW3.out).2.2
    cases s2 with
    | true=>
     go_wp2_with fail
     refine(HC2.out w3 (RdD.below HRX.out.2.1 HW3.out) (HBX1.out.below HW3.out)).mono ?_;rintro e w4 ⟨rfl,hb⟩;have HW4:=Hd (HW3.out.trans (hb.mono HW3.out.size));have HB4:=Hd (HB1.out.trans (HW4.out.mono HB1.out.size));clear hb p2 pb
     go_wp2_with fail
     go_ret
     exact⟨ret_bool (by rw [HE.out];rfl),HB4.out⟩
    | false=>
     go_wp2_with fail
     refine(HC2.out w3 (RdD.below HRX.out.2.1 HW3.out) (HBX1.out.below HW3.out)).mono ?_;rintro e w4 ⟨rfl,hb⟩;have HW4:=Hd (HW3.out.trans (hb.mono HW3.out.size));have HB4:=Hd (HB1.out.trans (HW4.out.mono HB1.out.size));clear hb p2 pb;have p3:=HX.out w4 HW4.out 3;simp only [Ya,Yb,Yc] at p3;have pb:=(HBX1.out.below HW4.out).2.1
     cases s3 with
     | true=>
      go_wp2_with fail
      refine(HC3.out w4 (RdD.below HRX.out.2.2.1 HW4.out) (HBX1.out.below HW4.out)).mono ?_;rintro e w5 ⟨rfl,hb⟩;have HW5:=Hd (HW4.out.trans (hb.mono HW4.out.size));have HB5:=Hd (HB1.out.trans (HW5.out.mono HB1.out.size));clear hb p3 pb
      go_wp2_with fail
      go_ret
      exact⟨ret_bool (by rw [HE.out];rfl),HB5.out⟩
     | false=>
      go_wp2_with fail
      refine(HC3.out w4 (RdD.below HRX.out.2.2.1 HW4.out) (HBX1.out.below HW4.out)).mono ?_;rintro e w5 ⟨rfl,hb⟩;have HW5:=Hd (HW4.out.trans (hb.mono HW4.out.size));have HB5:=Hd (HB1.out.trans (HW5.out.mono HB1.out.size));clear hb p3 pb;have p4:=HX.out w5 HW5.out 4;simp only [Ya,Yb,Yc] at p4
      go_wp2_with fail
      refine(HC4.out w5 (RdQ.below HRX.out.2.2.2 HW5.out)).mono ?_;rintro e w6 ⟨rfl,hb⟩;have HW6:=Hd (HW5.out.trans (hb.mono HW5.out.size));have HB6:=Hd (HB1.out.trans (HW6.out.mono HB1.out.size));clear hb p4
      go_wp2_with fail
      go_ret
      exact⟨ret_bool (by rw [HE.out];rfl),HB6.out⟩
theorem pgMalformed(E:Option Addr) (ne ec:Nat) (w:World):
 Calls Tryz.prog 68 #[.slice E ne ec] w fun e w'=>∃ bp bv be,e=.returned (.func (.func 102) #[] #[.pointer (some ⟨bp,0,none⟩),.pointer (some ⟨bv,0,none⟩)])∧Boxes w' bp bv be E ne ec∧Below w.heap.size w w':=by
 have hmk:∀ fn first cap w,(Instr.makeFunc fn first cap).run Tryz.prog w=.ok (.func fn first cap) w:=fun _ _ _ _=>rfl
 go_enter Tryz.func68,Tryz.ntmps68
 go_wp2_with fail
 go_ret
 obtain⟨h1,h2,h3,h4⟩:=three_boxes w _ _ _ _ _ _ _ rfl;exact⟨w.heap.size+1+1,w.heap.size+1,w.heap.size,rfl,⟨h1,h2,h3⟩,h4⟩
end
section
open Go.RowKit Go.Sort
def catTo(x:Nd) (k:Nat):List Dc:=match k with | 0=>[] | 1=>x.ins | 2=>x.ins++x.outs | _=>x.all
theorem catTo_succ(x:Nd){k:Nat}(h:k<3):catTo x (k+1)=catTo x k++listK x k:=by
 match k,h with
 | 0,_=>rfl
 | 1,_=>rfl
 | 2,_=>rfl
theorem catTo_le(x:Nd){k:Nat}(h:k≤3):(catTo x k).length≤x.all.length:=by
 match k,h with
 | 0,_=>exact Nat.zero_le _
 | 1,_=>simp [catTo,Nd.all]
 | 2,_=>simp [catTo,Nd.all]
 | 3,_=>exact Nat.le_refl _
theorem slConcatD(x:Nd) (A1:Option Addr) (c1:Nat) (A2:Option Addr) (c2:Nat) (A3:Option Addr) (c3:Nat) (A4:Option Addr) (b:Nat) (w:World) (h:rdN w x A1 A2 A3 A4)
 (hc:∀ j,w.cell? ⟨b,j,none⟩=(lists3 x A1 c1 A2 c2 A3 c3)[j]?) (hb:b<w.heap.size) (hn:x.all.length≤1000):
 Calls Tryz.prog 72 #[.slice (some ⟨b,0,none⟩) 3 3] w (DeclsPost w x.all.length x.all):=by
 obtain⟨i0,z0,hi,hz1,hz0,hz2,hz3⟩:=info_three infoDecl;have HLS:=Hd fun(w:World) (h:rdN w x A1 A2 A3 A4) (k:Nat) hk=>lists_at (c1:=c1) (c2:=c2) (c3:=c3) h (k:=k) hk;have HC:=Hd hc;have HR:=Hd h;have HB:=Hd hb;have HSU:=Hd fun(k:Nat) hk=>catTo_succ x (k:=k) hk;have HLE:=Hd fun(k:Nat) hk=>(show(catTo x k).length≤1000 from Nat.le_trans (catTo_le x (k:=k) hk) hn);have HEND:=Hd (show catTo x 3=x.all from rfl);have HNIL:=Hd (show catTo x 0=[] from rfl);have HGR:=Hd fun w1=>slGrowD x.all.length w1 (by omega);have HLK:=Hd fun(k:Nat) hk=>(show(catTo x k).length+(listK x k).length≤1000 by rw [← List.length_append,← catTo_succ x hk];exact Nat.le_trans (catTo_le x (k:=k+1) (by omega)) hn);clear h hc hb hn;generalize catTo x=cat at *;generalize x.all=all at *
 go_enter Tryz.func72,Tryz.ntmps72
 go_wp2_with fail
 go_loopw [3,11] (fun s i wr=>∃ k:Nat,k≤3∧i=.int .i64 k∧s=.int .i64 (cat k).length∧wr=w) (fun _ i _=>3-(intOf i).toNat)
 case atStart=>exact⟨0,by omega,rfl,by rw [HNIL.out];rfl,rfl⟩
 case round=>
  obtain⟨k,hk,rfl,rfl,rfl⟩:=hrel
  by_cases hlt:k<3
  · obtain⟨A,c,hAk,-⟩:=HLS.out wr HR.out k hlt;have e0:=HC.out k;rw [hAk] at e0;have hlk:=HLK.out k hlt;have HS:=Hd (show(cat (k+1)).length=(cat k).length+(listK x k).length by rw [HSU.out k hlt,List.length_append]);clear hAk;generalize hn1:(cat k).length=n1 at *;generalize hm1:(listK x k).length=m1 at *;have d0:decide (((n1:Int)+(m1:Int))<0)=false:=decide_eq_false (by omega);clear hn1 hm1
    go_wp2_with fail
    go_roundw
    case rel=>exact⟨k+1,by omega,by go_num,by rw [HS.out];go_num,(by first | trivial | rfl)⟩
    case measure=>simp [intOf];omega
  · obtain rfl:k=3:=by omega
    rw [HEND.out]
    go_wp2_with fail
    refine(HGR.out wr).mono ?_;rintro e w2 ⟨v,rfl,hown,hb2⟩;have HOW:=Hd hown;have HB2:=Hd hb2;clear hown hb2
    go_wp2_with fail
    generalize wr=w at *
    go_loopw [6,27] (fun v i wr=>∃ k:Nat,k≤3∧i=.int .i64 k∧wr.ownsRow w.heap.size 43 6 v (cat k).length (flD (cat k))∧Below w.heap.size w wr) (fun _ i _=>3-(intOf i).toNat)
    case atStart=>exact⟨0,by omega,rfl,by rw [HNIL.out];exact HOW.out,HB2.out⟩
    case round=>
     obtain⟨k,hk,rfl,hown,hnx⟩:=hrel;have HO:=Hd hown;have HNX:=Hd hnx;clear hown
     by_cases hlt:k<3
     · obtain⟨A,c,hAk,hrd⟩:=HLS.out wr (HR.out.below hnx) k hlt;have e0:=(hnx.cell (p:=⟨b,k,none⟩) HB.out).trans (HC.out k);rw [hAk] at e0;have HRD:=Hd hrd;have hlk:=HLK.out k hlt;have HS:=Hd (HSU.out k hlt);clear hAk hrd hnx
       go_wp2_with (at_builtin;refine wpList_append_dc rfl _ _ 32 rfl w.heap.size 43 i0 z0 72 Tryz.underlying32 hi hz1 hz0 hz2 hz3 _ (cat k).length (cat k) rfl HO.out A (listK x k).length c (listK x k) rfl HRD.out (by unfold maxLen;omega) (by omega) HNX.out.size ?_;intro v' w5 hown' hgrow;have hB5:=HNX.out.grown hgrow HNX.out.size (fun j hj=>(HO.out.lt j hj).1);have HO5:=Hd hown';have HB5:=Hd hB5;clear hown' hgrow hB5)
       go_roundw
       case rel=>exact⟨k+1,by omega,by go_num,by rw [HS.out,List.length_append];exact HO5.out,HB5.out⟩
       case measure=>simp [intOf];omega
     · obtain rfl:k=3:=by omega
       rw [HEND.out] at HO;have hO:=HO.out;obtain⟨A,c,rfl,hrd⟩:=RdD.of_own hO (by have:=HLE.out 3 (by omega);rw [HEND.out] at this;omega);have HRD:=Hd hrd;clear hO hrd
       go_wp2_with fail
       go_ret
       exact⟨A,c,rfl,HRD.out,HNX.out⟩
end
section
open Go.RowKit Go.Sort
theorem pgNodeName(x:Nd) (A1:Option Addr) (c1:Nat) (A2:Option Addr) (c2:Nat) (A3:Option Addr) (c3:Nat) (A4:Option Addr) (c4:Nat) (w:World) (h:rdN w x A1 A2 A3 A4):
 Calls Tryz.prog 70 #[.agg (ndA x A1 c1 A2 c2 A3 c3 A4 c4)] w fun e w'=>e=.returned (.string x.nm)∧Below w.heap.size w w':=by
 have HF:=Hd fun w1 hw=>nd_facts w x A1 c1 A2 c2 A3 c3 A4 c4 w1 hw h;clear h;unfold ndA at HF ⊢
 go_enter Tryz.func70,Tryz.ntmps70
 go_upto_region 1 with(fail)
 generalize hw1:w.alloc _=w1;obtain⟨hb1,hg,hR1,hcell⟩:=HF.out w1 hw1;have HB1:=Hd hb1;have q0:=hcell w1 (Below.refl _ _) 0;simp only [Ya,Yb,Yc] at q0;clear hw1 hcell hb1 HF hR1
 go_wp2_with fail
 go_ret
 exact⟨rfl,HB1.out⟩
theorem pgDeclName(d:Dc) (w:World):
 Calls Tryz.prog 107 #[.agg (dcA d)] w fun e w'=>e=.returned (.string d.nm)∧Below w.heap.size w w':=by
 have HF:=Hd fun w1 hw=>dc_facts w d w1 hw;unfold dcA at HF ⊢
 go_enter Tryz.func107,Tryz.ntmps107
 go_upto_region 1 with(fail)
 generalize hw1:w.alloc _=w1;obtain⟨hb1,hg,hcell⟩:=HF.out w1 hw1;have HB1:=Hd hb1;have q0:=hcell w1 (Below.refl _ _) 0;simp only [Ya,Yb,Yc] at q0;clear hw1 hcell hb1 HF
 go_wp2_with fail
 go_ret
 exact⟨rfl,HB1.out⟩
theorem pgOnceD(A:Option Addr) (n c:Nat) (l:List Dc) (w:World) (h:RdD w A n l) (hn:n≤100) (hz:∀ s∈namesD l,s.size≤maxLen):
 Calls Tryz.prog 106 #[.slice A n c,.func (.func 107) #[] #[]] w fun e w'=>e=.returned (.bool (onceS (namesD l)))∧Below w.heap.size w w':=by
 have HR:=Hd h;have hln:=RdS.len h;obtain⟨i0,hi,ji0,ji1,ji2⟩:=info_parts infoString;have HSU:=Hd fun(k:Nat) hk=>names_succ (l:=l) (k:=k) hk;have HON:=Hd fun B cc w1 (a:RdT w1 B n (namesD l))=>idOnce B n cc (namesD l) w1 a hz hn;have HTK:=Hd (show(namesD l).take n=namesD l from List.take_of_length_le (by rw [names_len,hln];exact Nat.le_refl _));have HBX:=Hd (fun w d w1 h=>dc_facts w d w1 h);have HNM:=Hd pgDeclName;have HLN:=Hd hln;clear h hz hln;unfold dcA at HBX HNM;generalize namesD l=ss at *;generalize onceS ss=out at *
 go_enter Tryz.func106,Tryz.ntmps106
 go_wp2_with fail
 go_loopw [5,10] (fun v i wr=>∃ k:Nat,k≤n∧i=.int .i64 k∧wr.ownsRow w.heap.size 9 1 v k ((ss.take k).map Value.string)∧Below w.heap.size w wr) (fun _ i _=>n-(intOf i).toNat)
 case atStart=>exact⟨0,Nat.zero_le _,rfl,⟨rfl,.inl ⟨rfl,rfl⟩⟩,Below.refl _ _⟩
 case round=>
  obtain⟨k,hk,rfl,hown,hnx⟩:=hrel;have HNX:=Hd hnx;have HOW:=Hd hown;clear hown
  by_cases hlt:k<n
  · obtain⟨b,off,rfl,hb,d0,d1,d2,d3,d4,d5⟩:=dc_at (HR.out.below hnx) hlt;have HSK:=Hd (HSU.out k (by rw [HLN.out];exact hlt))
    skip
    clear hnx;generalize l[k]?.getD default=p at *;have HF3:=Hd fun w3 h=>HBX.out wr p  w3 h
    go_upto_region 5 with(fail)
    generalize hw3:wr.alloc _=w3;obtain⟨hb3,hg3,hcell3⟩:=HF3.out w3 hw3;have HB3:=Hd (HNX.out.trans (hb3.mono HNX.out.size));have HOW3:=Hd (own_below HOW.out hb3);obtain⟨e0,e1,e2,e3,e4,e5⟩:=Sx (hcell3 w3 (Below.refl _ _));simp only [Ya,Yb,Yc] at e0 e1 e2 e3 e4 e5;have HCL:=Hd (HNM.out p  w3);clear hcell3 hb3 hw3 HF3 d0 d1 d2 d3 d4 d5
    go_wp2_with fail
    refine HCL.out.mono ?_;rintro e w4 ⟨rfl,hb4⟩;have HB4:=Hd (HB3.out.trans (hb4.mono HB3.out.size));have HOW4:=Hd (own_below HOW3.out hb4);clear hb4 e0 e1 e2 e3 e4 e5
    go_wp2_with (at_builtin;refine wpList_append_own_at _ rfl _ _ 49 rfl w.heap.size 9 i0 (.string ByteArray.empty) 1 16 Tryz.underlying49 hi ji0 ji1 ji2 rfl (by decide) _ _ _ rfl (HOW4.out.alloc _) ⟨w4.heap.size,0,none⟩ 1 1 [.string p.nm] rfl rfl (cell_one_new _ _ _) (string_cells [p.nm]) (by unfold maxLen;omega) (by omega) (by have:=HB4.out.size;simp;omega) ?_;intro v' w5 hown' hgrow hnil hloc;have hB5:=(HB4.out.alloc HB4.out.size (.cells #[.string p.nm] 9)).grown hgrow (by have:=HB4.out.size;simp;omega) (fun j hj=>(HOW4.out.lt j hj).1);have HO5:=Hd hown';have HB5:=Hd hB5;clear hgrow hown' hnil hloc hB5)
    go_roundw
    case rel=>
     refine⟨k+1,by omega,by go_num,?_,HB5.out⟩;rw [HSK.out,List.map_append];exact HO5.out
    case measure=>simp [intOf];omega
  · obtain rfl:k=n:=by omega
    have hO:=HOW.out;rw [HTK.out] at hO;obtain⟨B,cc,rfl,hrt,-⟩:=RdT.of_own hO (by omega);have HO:=Hd (HON.out B cc wr hrt);clear hO hrt
    go_wp2_with fail
    refine HO.out.mono ?_;rintro e w6 ⟨rfl,hb6⟩;have HB6:=Hd (HNX.out.trans (hb6.mono HNX.out.size));clear hb6
    go_wp2_with fail
    go_ret
    exact⟨rfl,HB6.out⟩
theorem pgOnceN(A:Option Addr) (n c:Nat) (l:List Nd) (w:World) (h:RdNs w A n l) (hn:n≤100) (hz:∀ s∈l.map Nd.nm,s.size≤maxLen):
 Calls Tryz.prog 69 #[.slice A n c,.func (.func 70) #[] #[]] w fun e w'=>e=.returned (.bool (onceS (l.map Nd.nm)))∧Below w.heap.size w w':=by
 have HR:=Hd h;have hln:=RdS.len h;obtain⟨i0,hi,ji0,ji1,ji2⟩:=info_parts infoString;have HSU:=Hd fun(k:Nat) hk=>nms_succ (l:=l) (k:=k) hk;have HON:=Hd fun B cc w1 (a:RdT w1 B n (l.map Nd.nm))=>idOnce B n cc (l.map Nd.nm) w1 a hz hn;have HTK:=Hd (show(l.map Nd.nm).take n=l.map Nd.nm from List.take_of_length_le (by rw [List.length_map,hln];exact Nat.le_refl _));have HBX:=Hd nd_facts;have HNM:=Hd pgNodeName;have HLN:=Hd hln;clear h hz hln;unfold ndA at HBX HNM;generalize l.map Nd.nm=ss at *;generalize onceS ss=out at *
 go_enter Tryz.func69,Tryz.ntmps69
 go_wp2_with fail
 go_loopw [5,10] (fun v i wr=>∃ k:Nat,k≤n∧i=.int .i64 k∧wr.ownsRow w.heap.size 9 1 v k ((ss.take k).map Value.string)∧Below w.heap.size w wr) (fun _ i _=>n-(intOf i).toNat)
 case atStart=>exact⟨0,Nat.zero_le _,rfl,⟨rfl,.inl ⟨rfl,rfl⟩⟩,Below.refl _ _⟩
 case round=>
  obtain⟨k,hk,rfl,hown,hnx⟩:=hrel;have HNX:=Hd hnx;have HOW:=Hd hown;clear hown
  by_cases hlt:k<n
  · obtain⟨b,off,A1,c1,A2,c2,A3,c3,A4,c4,rfl,hb,hrd,d0,d1,d2,d3,d4⟩:=nd_at (HR.out.below hnx) hlt;have HSK:=Hd (HSU.out k (by rw [HLN.out];exact hlt));have HRDx:=Hd hrd;clear hnx hrd;generalize l[k]?.getD default=p at *;have HF3:=Hd fun w3 h=>HBX.out wr p A1 c1 A2 c2 A3 c3 A4 c4 w3 h HRDx.out
    go_upto_region 5 with(fail)
    generalize hw3:wr.alloc _=w3;obtain⟨hb3,hg3,hr3,hcell3⟩:=HF3.out w3 hw3;have HB3:=Hd (HNX.out.trans (hb3.mono HNX.out.size));have HOW3:=Hd (own_below HOW.out hb3);obtain⟨e0,e1,e2,e3,e4,-⟩:=Sx (hcell3 w3 (Below.refl _ _));simp only [Ya,Yb,Yc] at e0 e1 e2 e3 e4;have HCL:=Hd (HNM.out p A1 c1 A2 c2 A3 c3 A4 c4 w3 hr3);clear hcell3 hb3 hw3 HF3 d0 d1 d2 d3 d4 hr3
    go_wp2_with fail
    refine HCL.out.mono ?_;rintro e w4 ⟨rfl,hb4⟩;have HB4:=Hd (HB3.out.trans (hb4.mono HB3.out.size));have HOW4:=Hd (own_below HOW3.out hb4);clear hb4 e0 e1 e2 e3 e4
    go_wp2_with (at_builtin;refine wpList_append_own_at _ rfl _ _ 49 rfl w.heap.size 9 i0 (.string ByteArray.empty) 1 16 Tryz.underlying49 hi ji0 ji1 ji2 rfl (by decide) _ _ _ rfl (HOW4.out.alloc _) ⟨w4.heap.size,0,none⟩ 1 1 [.string p.nm] rfl rfl (cell_one_new _ _ _) (string_cells [p.nm]) (by unfold maxLen;omega) (by omega) (by have:=HB4.out.size;simp;omega) ?_;intro v' w5 hown' hgrow hnil hloc;have hB5:=(HB4.out.alloc HB4.out.size (.cells #[.string p.nm] 9)).grown hgrow (by have:=HB4.out.size;simp;omega) (fun j hj=>(HOW4.out.lt j hj).1);have HO5:=Hd hown';have HB5:=Hd hB5;clear hgrow hown' hnil hloc hB5)
    go_roundw
    case rel=>
     refine⟨k+1,by omega,by go_num,?_,HB5.out⟩;rw [HSK.out,List.map_append];exact HO5.out
    case measure=>simp [intOf];omega
  · obtain rfl:k=n:=by omega
    have hO:=HOW.out;rw [HTK.out] at hO;obtain⟨B,cc,rfl,hrt,-⟩:=RdT.of_own hO (by omega);have HO:=Hd (HON.out B cc wr hrt);clear hO hrt
    go_wp2_with fail
    refine HO.out.mono ?_;rintro e w6 ⟨rfl,hb6⟩;have HB6:=Hd (HNX.out.trans (hb6.mono HNX.out.size));clear hb6
    go_wp2_with fail
    go_ret
    exact⟨rfl,HB6.out⟩
theorem pgDoubled(x:Nd) (A1:Option Addr) (c1:Nat) (A2:Option Addr) (c2:Nat) (A3:Option Addr) (c3:Nat) (A4:Option Addr) (c4:Nat) (w:World) (h:rdN w x A1 A2 A3 A4) (hn:x.all.length≤100) (hz:∀ d∈x.all,d.nm.size≤maxLen):
 Calls Tryz.prog 71 #[.agg (ndA x A1 c1 A2 c2 A3 c3 A4 c4)] w fun e w'=>e=.returned (.bool (!onceS (namesD x.all)))∧Below w.heap.size w w':=by
 have HF:=Hd fun w1 hw=>nd_facts w x A1 c1 A2 c2 A3 c3 A4 c4 w1 hw h;have HCC:=Hd fun b w1 (a:rdN w1 x A1 A2 A3 A4) hc hb=>slConcatD x A1 c1 A2 c2 A3 c3 A4 b w1 a hc hb (by omega)
 have HON:=Hd fun A c w1 (a:RdD w1 A x.all.length x.all)=>pgOnceD A x.all.length c x.all w1 a hn (fun s hs=>by
  obtain⟨d,hd,rfl⟩:=List.mem_map.1 hs;exact hz d hd)
 clear h hn hz;unfold ndA at HF ⊢;unfold lists3 at HCC;generalize x.all=all at *;generalize onceS (namesD all)=out at *
 go_enter Tryz.func71,Tryz.ntmps71
 go_upto_region 1 with(fail)
 generalize hw1:w.alloc _=w1;obtain⟨hb1,hg,hR1,hcell⟩:=HF.out w1 hw1;have HB1:=Hd hb1;obtain⟨-,q1,q2,q3,-,-⟩:=Sx (hcell w1 (Below.refl _ _));simp only [Ya,Yb,Yc] at q1 q2 q3;have hb2:=(Below.refl w1.heap.size w1).alloc (Nat.le_refl _) (.cells #[.slice A1 x.ins.length c1,.slice A2 x.outs.length c2,.slice A3 x.vars.length c3] 32);have HB2:=Hd (HB1.out.trans (hb2.mono HB1.out.size));have HC2:=Hd (HCC.out w1.heap.size _ (hR1.below hb2) (fun j=>by rw [World.cell?_alloc_new]) (by simp));rw [hg] at HC2;clear hw1 hcell hb1 hb2 HF hR1
 go_wp2_with fail
 refine HC2.out.mono ?_;rintro e w3 ⟨A,c,rfl,hrd,hb3⟩;have HB3:=Hd (HB2.out.trans (hb3.mono HB2.out.size));have HO:=Hd (HON.out A c w3 hrd);clear hrd hb3
 go_wp2_with fail
 refine HO.out.mono ?_;rintro e w4 ⟨rfl,hb4⟩;have HB4:=Hd (HB3.out.trans (hb4.mono HB3.out.size));clear hb4
 go_wp2_with fail
 go_ret
 exact⟨rfl,HB4.out⟩
end
section
open Go.RowKit Go.Sort
theorem pgSome(g:Nat) (lb:Array Value) (eg:∀ args w,(callFunc g args).run Tryz.prog w=.ok (.enter g args) w) (f:Nd→Bool) (b:Nat) (N:Option Addr) (nc:Nat) (ns:List Nd) (w:World)
 (hc:w.cell? ⟨b,1,none⟩=some (.slice N ns.length nc)) (hr:RdNs w N ns.length ns) (hp:PredNd g lb f ns w):
 Calls Tryz.prog 64 #[.func (.func g) #[] lb,.pointer (some ⟨b,0,none⟩)] w fun e w'=>e=.returned (.bool (ns.any f))∧Below w.heap.size w w':=by
 have HC:=Hd (slHasNd g lb eg f N ns.length nc ns w hr hp);clear hr hp;generalize ns.any f=out at *
 go_enter Tryz.func64,Tryz.ntmps64
 go_wp2_with fail
 refine HC.out.mono ?_;rintro e w2 ⟨rfl,hb2⟩;have HB2:=Hd hb2;clear hb2
 go_wp2_with fail
 go_ret
 exact⟨rfl,HB2.out⟩
theorem tiny_mem{p:Pg}(ht:TinyP p){x:Nd}(hx:x∈p.ns):TinyN x:=by
 obtain⟨j,hj,rfl⟩:=List.getElem_of_mem hx;have:=ht.2.2 j hj;rwa [List.getElem?_eq_getElem hj] at this
theorem checkN_eq(p:Pg):checkN p=if enumsN p.es=0 then(if p.ns.length=0 then 5 else if 6<p.ns.length then 4 else if p.ns.any manyN then 4 else if(p.ns.any fun x=>!nodeB p.es.length rightB rightX x) then 1 else if !onceS (p.ns.map Nd.nm) then 6 else if(p.ns.any fun x=>!onceS (namesD x.all)) then 6 else 0) else enumsN p.es:=by
 unfold checkN rightN onceN;rw [← List.not_all_eq_any_not,← List.not_all_eq_any_not];generalize p.ns.all (nodeB p.es.length rightB rightX)=a;generalize (p.ns.all fun n=>onceS (namesD n.all))=b;generalize onceS (p.ns.map Nd.nm)=c
 cases a <;> cases b <;> cases c <;> rfl
theorem pgCheck(p:Pg) (E:Option Addr) (ec:Nat) (N:Option Addr) (nc:Nat) (w:World) (h:rdP w p E N) (ht:TinyP p):
 Calls Tryz.prog 42 #[.agg (pgA p E ec N nc)] w fun e w'=>e=.returned (.int .i64 (checkN p))∧Below w.heap.size w w':=by
 have HF:=Hd fun w1 hw=>pg_facts w p E ec N nc w1 hw h;have hmk:∀ fn first cap w,(Instr.makeFunc fn first cap).run Tryz.prog w=.ok (.func fn first cap) w:=fun _ _ _ _=>rfl
 have HEC:=Hd fun w1 a=>tyEnums E p.es.length ec p.es w1 a ht.1.ok ht.1.few;have hmx:=RdS.max h.2;have hes:=ht.1.1;have hns:=ht.2.1;have HE:=Hd (checkN_eq p);have HM:=Hd fun w1=>pgMalformed E p.es.length ec w1;have HP1:=Hd fun w1=>(show PredNd 67 #[] manyN p.ns w1 from fun x hx A1 c1 A2 c2 A3 c3 A4 c4 W _ hr=>pgCrowded x A1 c1 A2 c2 A3 c3 A4 c4 W hr)
 have HP2:=Hd fun bp bv be w1 (hb:Boxes w1 bp bv be E p.es.length ec)=>(show PredNd 102 #[.pointer (some ⟨bp,0,none⟩),.pointer (some ⟨bv,0,none⟩)] (fun x=>!nodeB p.es.length rightB rightX x) p.ns w1 from
  fun x hx A1 c1 A2 c2 A3 c3 A4 c4 W hW hr=>pgNode x A1 c1 A2 c2 A3 c3 A4 c4 bp bv be E p.es.length ec W hr (tiny_mem ht hx).ok (by omega) (hb.below hW))
 have HP3:=Hd fun w1=>(show PredNd 71 #[] (fun x=>!onceS (namesD x.all)) p.ns w1 from
  fun x hx A1 c1 A2 c2 A3 c3 A4 c4 W _ hr=>pgDoubled x A1 c1 A2 c2 A3 c3 A4 c4 W hr (by have:=(tiny_mem ht hx).len;omega) (fun d hd=>((tiny_mem ht hx).ok.2.1 d hd).1))
 have HON:=Hd fun w1 (a:RdNs w1 N p.ns.length p.ns)=>pgOnceN N p.ns.length nc p.ns w1 a (by omega) (fun s hs=>by
  obtain⟨x,hx,rfl⟩:=List.mem_map.1 hs;exact(tiny_mem ht hx).ok.1)
 have HS1:=Hd fun b w1 hc a=>pgSome 67 #[] (fun _ _=>rfl) manyN b N nc p.ns w1 hc a (HP1.out w1);have HS2:=Hd fun b bp bv be w1 hc a (hb:Boxes w1 bp bv be E p.es.length ec)=>pgSome 102 #[.pointer (some ⟨bp,0,none⟩),.pointer (some ⟨bv,0,none⟩)] (fun _ _=>rfl) (fun x=>!nodeB p.es.length rightB rightX x) b N nc p.ns w1 hc a (HP2.out bp bv be w1 hb);have HS3:=Hd fun b w1 hc a=>pgSome 71 #[] (fun _ _=>rfl) (fun x=>!onceS (namesD x.all)) b N nc p.ns w1 hc a (HP3.out w1);clear HP1 HP2 HP3 ht;unfold pgA;generalize checkN p=out at *;generalize p.ns.any manyN=b1 at *;generalize (p.ns.any fun x=>!nodeB p.es.length rightB rightX x)=b2 at *;generalize (p.ns.any fun x=>!onceS (namesD x.all))=b3 at *;generalize onceS (p.ns.map Nd.nm)=o1 at *
 go_enter Tryz.func42,Tryz.ntmps42
 go_upto_region 1 with(fail)
 generalize hw1:w.alloc _=w1;obtain⟨hb1,hg,hR1,hcell⟩:=HF.out w1 hw1;have HB1:=Hd hb1;have HC:=Hd hcell;have HE1:=Hd (HEC.out w1 hR1.1);have HNS:=Hd (show RdNs w1 N p.ns.length p.ns from hR1.2);simp only [pgA] at HC;have q0:=HC.out w1 (Below.refl _ _) 0;simp only [Ya,Yb,Yc] at q0;clear hw1 hcell hb1 HF h hR1 HEC;generalize enumsN p.es=en at *;generalize p.es.length=ne at *;have HW1:=Hd (Below.refl w1.heap.size w1);generalize hnn:p.ns.length=n at *;clear hnn
 go_wp2_with fail
 refine HE1.out.mono ?_;rintro e w2 ⟨rfl,hb2⟩;have HW2:=Hd hb2;have HB2:=Hd (HB1.out.trans (hb2.mono HB1.out.size));have p0:=HC.out w2 hb2 0;have p1:=HC.out w2 hb2 1;simp only [Ya,Yb,Yc] at p0 p1;clear hb2 q0
 by_cases he0:en=0
 · subst he0;rw [if_pos rfl] at HE;rcases Nat.eq_zero_or_pos n with hn0 | hn0
   · subst hn0;rw [if_pos rfl] at HE
     go_wp2_with fail
     go_ret
     exact⟨ret_int HE.out.symm,HB2.out⟩
   · rw [if_neg (by omega)] at HE;have dn0:((n:Int)==0)=false:=by rw [beq_eq_false_iff_ne];omega
     by_cases hn6:6<n
     · rw [if_pos hn6] at HE;have d6:decide ((6:Int)<(n:Int))=true:=decide_eq_true (by omega)
       go_wp2_with fail
       go_ret
       exact⟨ret_int HE.out.symm,HB2.out⟩
     · rw [if_neg hn6] at HE;have d6:decide ((6:Int)<(n:Int))=false:=decide_eq_false (by omega);have HC1:=Hd (HS1.out w.heap.size w2 p1 (RdNs.below HNS.out HW2.out));clear hn6 hn0
       cases b1 with
       | true=>
        rw [if_pos rfl] at HE
        go_wp2_with fail
        refine HC1.out.mono ?_;rintro e w3 ⟨rfl,hb3⟩;have HB3:=Hd (HB2.out.trans (hb3.mono HB2.out.size));clear hb3 p0 p1
        go_wp2_with fail
        go_ret
        exact⟨ret_int HE.out.symm,HB3.out⟩
       | false=>
        rw [if_neg (by simp)] at HE
        go_wp2_with fail
        refine HC1.out.mono ?_;rintro e w3 ⟨rfl,hb3⟩;have HW3:=Hd (HW2.out.trans (hb3.mono HW2.out.size));have HB3:=Hd (HB2.out.trans (hb3.mono HB2.out.size));clear hb3 p0 p1;have p0:=HC.out w3 HW3.out 0;simp only [Ya,Yb,Yc] at p0
        go_wp2_with fail
        refine(HM.out w3).mono ?_;rintro e w4 ⟨bp,bv,be,rfl,hbx,hb4⟩;have HW4:=Hd (HW3.out.trans (hb4.mono HW3.out.size));have HB4:=Hd (HB3.out.trans (hb4.mono HB3.out.size));clear hb4 p0;have p1:=HC.out w4 HW4.out 1;simp only [Ya,Yb,Yc] at p1;have HC2:=Hd (HS2.out w.heap.size bp bv be w4 p1 (RdNs.below HNS.out HW4.out) hbx);clear hbx p1
        cases b2 with
        | true=>
         rw [if_pos rfl] at HE
         go_wp2_with fail
         refine HC2.out.mono ?_;rintro e w5 ⟨rfl,hb5⟩;have HB5:=Hd (HB4.out.trans (hb5.mono HB4.out.size));clear hb5
         go_wp2_with fail
         go_ret
         exact⟨ret_int HE.out.symm,HB5.out⟩
        | false=>
         rw [if_neg (by simp)] at HE
         go_wp2_with fail
         refine HC2.out.mono ?_;rintro e w5 ⟨rfl,hb5⟩;have HW5:=Hd (HW4.out.trans (hb5.mono HW4.out.size));have HB5:=Hd (HB4.out.trans (hb5.mono HB4.out.size));clear hb5;have p1:=HC.out w5 HW5.out 1;simp only [Ya,Yb,Yc] at p1;have HO5:=Hd (HON.out w5 (RdNs.below HNS.out HW5.out))
         cases o1 with
         | false=>
          rw [if_pos (show(!false)=true from rfl)] at HE
          go_wp2_with fail
          refine HO5.out.mono ?_;rintro e w6 ⟨rfl,hb6⟩;have HB6:=Hd (HB5.out.trans (hb6.mono HB5.out.size));clear hb6 p1
          go_wp2_with fail
          go_ret
          exact⟨ret_int HE.out.symm,HB6.out⟩
         | true=>
          rw [if_neg (by simp)] at HE
          go_wp2_with fail
          refine HO5.out.mono ?_;rintro e w6 ⟨rfl,hb6⟩;have HW6:=Hd (HW5.out.trans (hb6.mono HW5.out.size));have HB6:=Hd (HB5.out.trans (hb6.mono HB5.out.size));clear hb6 p1;have p1:=HC.out w6 HW6.out 1;simp only [Ya,Yb,Yc] at p1;have HC3:=Hd (HS3.out w.heap.size w6 p1 (RdNs.below HNS.out HW6.out));clear p1
          cases b3 with
          | true=>
           rw [if_pos rfl] at HE
           go_wp2_with fail
           refine HC3.out.mono ?_;rintro e w7 ⟨rfl,hb7⟩;have HB7:=Hd (HB6.out.trans (hb7.mono HB6.out.size));clear hb7
           go_wp2_with fail
           go_ret
           exact⟨ret_int HE.out.symm,HB7.out⟩
          | false=>
           rw [if_neg (by simp)] at HE
           go_wp2_with fail
           refine HC3.out.mono ?_;rintro e w7 ⟨rfl,hb7⟩;have HB7:=Hd (HB6.out.trans (hb7.mono HB6.out.size));clear hb7
           go_wp2_with fail
           go_ret
           exact⟨ret_int HE.out.symm,HB7.out⟩
 · rw [if_neg he0] at HE;have dne:(en != 0)=true:=by rw [bne_iff_ne];exact he0
   clear he0
   go_wp2_with fail
   go_ret
   exact⟨ret_int HE.out.symm,HB2.out⟩
end
section
open Go.RowKit Go.Sort
theorem pgFind1(x:Nd) (A1:Option Addr) (c1:Nat) (A2:Option Addr) (c2:Nat) (A3:Option Addr) (c3:Nat) (A4:Option Addr) (c4:Nat) (b:Nat) (s:ByteArray) (w:World) (h:rdN w x A1 A2 A3 A4) (hs:w.cell? ⟨b,0,none⟩=some (.string s)):
 Calls Tryz.prog 150 #[.agg (ndA x A1 c1 A2 c2 A3 c3 A4 c4),.pointer (some ⟨b,0,none⟩)] w fun e w'=>e=.returned (.bool (x.nm.toList==s.toList))∧Below w.heap.size w w':=by
 have HF:=Hd fun w1 hw=>nd_facts w x A1 c1 A2 c2 A3 c3 A4 c4 w1 hw h;have HS:=Hd hs;clear hs h;unfold ndA;generalize hq:(x.nm.toList==s.toList)=out
 go_enter Tryz.func150,Tryz.ntmps150
 go_upto_region 1 with(fail)
 generalize hw1:w.alloc _=w1;obtain⟨hb1,hg,hR1,hcell⟩:=HF.out w1 hw1;have HB1:=Hd hb1;have q0:=hcell w1 (Below.refl _ _) 0;simp only [ndA,List.getElem?_toArray,List.getElem?_cons_zero,List.getElem?_cons_succ] at q0;have q5:=(hb1.cell (p:=⟨b,0,none⟩) (World.block_lt_of_cell? _ _ HS.out)).trans HS.out;clear hw1 hcell hb1 HF hR1
 go_wp2_with fail
 go_ret
 exact⟨rfl,HB1.out⟩
theorem pgFind(p:Pg) (E:Option Addr) (ec:Nat) (N:Option Addr) (nc:Nat) (s:ByteArray) (w:World) (h:rdP w p E N):
 Calls Tryz.prog 116 #[.agg (pgA p E ec N nc),.string s] w fun e w'=>e=.returned (.int .i64 (findN p s))∧Below w.heap.size w w':=by
 have HF:=Hd fun w1 hw=>pg_facts w p E ec N nc w1 hw h;have hmk:∀ fn first cap w,(Instr.makeFunc fn first cap).run Tryz.prog w=.ok (.func fn first cap) w:=fun _ _ _ _=>rfl
 unfold pgA;generalize hout:findN p s=out
 go_enter Tryz.func116,Tryz.ntmps116
 go_upto_region 1 with(fail)
 generalize hw1:w.alloc _=w1;obtain⟨hb1,hg,hR1,hcell⟩:=HF.out w1 hw1;have HB1:=Hd hb1;have HCE:=Hd hcell;have HR1:=Hd hR1
 have HN2:=Hd fun w2 (hw:w1.alloc (.cells #[.string s] 9)=w2)=>(show w2.cell? ⟨w1.heap.size,0,none⟩=some (.string s)∧Below w1.heap.size w1 w2 by
  subst hw;exact⟨by rw [World.cell?_alloc_new];rfl,(Below.refl _ _).alloc (Nat.le_refl _) _⟩)
 clear hw1 hcell hb1 HF h hR1;generalize hw2:w1.alloc _=w2;obtain⟨hs2,hb2⟩:=HN2.out w2 hw2;have q1:=HCE.out w2 hb2 1;simp only [pgA,List.getElem?_toArray,List.getElem?_cons_zero,List.getElem?_cons_succ] at q1;have HB2:=Hd (HB1.out.trans (hb2.mono HB1.out.size))
 have HC:=Hd (slIndexNd 150 #[.pointer (some ⟨w1.heap.size,0,none⟩)] (fun _ _=>rfl) (fun n=>n.nm.toList==s.toList) N p.ns.length nc p.ns w2 (HR1.out.below hb2).2
  fun x _ A1 c1 A2 c2 A3 c3 A4 c4 W hW hr=>pgFind1 x A1 c1 A2 c2 A3 c3 A4 c4 w1.heap.size s W hr ((hW.cell (World.block_lt_of_cell? _ _ hs2)).trans hs2))
 have HO:=Hd (show findI (fun n:Nd=>n.nm.toList==s.toList) p.ns 0=out by rw [← hout];unfold findN;congr 1;funext n;rw [Lib.toList_data,Lib.toList_data]);rw [HO.out] at HC;clear hw2 hs2 hb2 HN2 HO hout;rw [hg] at HC
 go_wp2_with fail
 refine HC.out.mono ?_;rintro e w3 ⟨rfl,hb3⟩;have HB3:=Hd (HB2.out.trans (hb3.mono HB2.out.size));clear hb3
 go_wp2_with fail
 go_ret
 exact⟨rfl,HB3.out⟩
end
end Go.Proofs.YtkbpdoomhfkngaaGreat
