/- Parts of the proof: PiD, PiE, PgZ. Conditions: each theorem's own. -/
import Derived.Laws.EntriesVeiled
import Derived.Test.YtpehkppcdlboeaaO12
import Derived.Test.YtpehkppcdlboeaaO13
namespace Go.Proofs.Ytpehkppcdlboeaa
set_option linter.unusedVariables false
set_option linter.unusedSimpArgs false
set_option maxRecDepth 100000
set_option maxHeartbeats 40000000
section
open Go.RowKit Go.Sort
theorem pgWrong1(s:ByteArray) (w:World) (hs:s.size≤9223372036854775807):
 Calls Try.prog 69 #[.string s] w fun e w'=>e=.returned (.bool (!lowB s.data.toList))∧Below w.heap.size w w':=by
 have HL:=Hd (idLow s w hs);generalize lowB s.data.toList=b at *
 go_enter Try.func69,Try.ntmps69
 go_wp2_with fail
 refine HL.out.mono ?_;rintro e w2 ⟨rfl,hb2⟩;have HB2:=Hd hb2;clear hb2
 go_wp2_with fail
 go_ret
 exact⟨rfl,HB2.out⟩
theorem pgWrongEq(q:Qn) (A:Option Addr) (c:Nat) (A':Option Addr) (ca:Nat) (B':Option Addr) (cb:Nat) (w:World) (hr:RdT w A q.ns.length q.ns) (hx:rdX w q.x A' B') (hok:OkQ q):
 Calls Try.prog 52 #[.agg (qnA q A c A' ca B' cb)] w fun e w'=>e=.returned (.bool (!eqB rightX q))∧Below w.heap.size w w':=by
 have HF:=Hd fun w1 h=>qn_facts w q A c A' ca B' cb w1 h hr hx;have hmx:=hr.max;have HRX:=Hd fun w1 (h:rdX w1 q.x A' B')=>exRight q.x A' ca B' cb w1 h hok.2.1 hok.2.2
 have HNM:=Hd fun w1 (h:RdT w1 A q.ns.length q.ns)=>slHasT 69 #[] (fun _ _=>rfl) (fun s=>!lowB s.data.toList) A q.ns.length c q.ns w1 h
  fun s hs W _=>pgWrong1 s W (by have:=hok.1 s hs;unfold maxLen at this;omega)
 have HE:=Hd (show(!eqB rightX q)=(decide (q.ns.length=0) || (q.ns.any fun s=>!lowB s.data.toList) || !rightX q.x || (!decide (q.ns.length≤1) && !(q.x.k==13))) by
  unfold eqB;rw [← List.not_all_eq_any_not];generalize (q.ns.all fun s=>lowB s.data.toList)=a;rcases Nat.lt_trichotomy q.ns.length 1 with h | h | h
  · have:q.ns.length=0:=by omega
    simp [this]
  · simp [h]
  · have h0:q.ns.length≠0:=by omega
    have h1:q.ns.length≠1:=by omega
    have h2:¬ q.ns.length≤1:=by omega
    have h3:0<q.ns.length:=by omega
    simp [h0,h1,h2,h3])
 clear hok hr hx;unfold exA at HRX;unfold qnA;generalize (!eqB rightX q)=out at *;generalize rightX q.x=rb at *;generalize (q.ns.any fun s=>!lowB s.data.toList)=nb at *
 go_enter Try.func52,Try.ntmps52
 go_upto_region 1 with(fail)
 generalize hw1:w.alloc _=w1;obtain⟨hb1,hg,hR1,hX1,hcell⟩:=HF.out w1 hw1;have HB1:=Hd hb1;have HC:=Hd hcell;have HX1:=Hd hX1;have HN1:=Hd (HNM.out w1 hR1);simp only [qnA] at HC;have q0:=HC.out w1 (Below.refl _ _) 0;simp only [Ya,Yb,Yc] at q0;clear hw1 hcell hb1 HF hR1 hX1 HNM;generalize q.ns.length=n at *;generalize q.x.k=xk at *;generalize q.x.n=xn at *;generalize q.x.s=xs at *;generalize q.x.op=xo at *;generalize q.x.arms.length=xa at *;generalize q.x.subs.length=xb at *
 by_cases h0:n=0
 · subst h0;have d0:(((0:Nat):Int)==0)=true:=rfl
   go_wp2_with fail
   go_ret
   exact⟨ret_bool (by rw [HE.out];rfl),HB1.out⟩
 · have d0:((n:Int)==0)=false:=by rw [beq_eq_false_iff_ne];omega
   rw [show decide (n=0)=false by simp [h0]] at HE;have HN0:=Hd h0;clear h0
   cases nb with
   | true=>
    go_wp2_with fail
    refine HN1.out.mono ?_;rintro e w2 ⟨rfl,hb2⟩;have HB2:=Hd (HB1.out.trans (hb2.mono HB1.out.size));clear hb2 q0
    go_wp2_with fail
    go_ret
    exact⟨ret_bool (by rw [HE.out];rfl),HB2.out⟩
   | false=>
    go_wp2_with fail
    refine HN1.out.mono ?_;rintro e w2 ⟨rfl,hb2⟩;have HB2:=Hd (HB1.out.trans (hb2.mono HB1.out.size));have HW2:=Hd hb2;have HR2:=Hd (HRX.out w2 (HX1.out.below hb2));obtain⟨-,p1,p2,p3,p4,p5⟩:=Sx (HC.out w2 hb2);have p6:=HC.out w2 hb2 6;simp only [Ya,Yb,Yc] at p1 p2 p3 p4 p5 p6;clear hb2 q0
    cases rb with
    | false=>
     go_wp2_with fail
     refine HR2.out.mono ?_;rintro e w3 ⟨rfl,hb3⟩;have HB3:=Hd (HB2.out.trans (hb3.mono HB2.out.size));clear hb3 p1 p2 p3 p4 p5 p6
     go_wp2_with fail
     go_ret
     exact⟨ret_bool (by rw [HE.out];rfl),HB3.out⟩
    | true=>
     go_wp2_with fail
     refine HR2.out.mono ?_;rintro e w3 ⟨rfl,hb3⟩;have HB3:=Hd (HB2.out.trans (hb3.mono HB2.out.size));have hw3:=HW2.out.trans (hb3.mono HW2.out.size);have s0:=HC.out w3 hw3 0;have s1:=HC.out w3 hw3 1;simp only [Ya,Yb,Yc] at s0 s1;clear hb3 p1 p2 p3 p4 p5 p6 hw3
     by_cases h1:n≤1
     · rw [show decide (n≤1)=true by simp [h1]] at HE;have d1:decide ((1:Int)<(n:Int))=false:=decide_eq_false (by omega);clear h1
       go_wp2_with fail
       go_ret
       exact⟨ret_bool (by rw [HE.out];rfl),HB3.out⟩
     · rw [show decide (n≤1)=false by simp [h1]] at HE;have d1:decide ((1:Int)<(n:Int))=true:=decide_eq_true (by omega);clear h1
       cases hk:(xk==13) with
       | true=>
        rw [hk] at HE;have hk2:(xk != 13)=false:=by rw [bne,hk];rfl
        go_wp2_with fail
        go_ret
        exact⟨ret_bool (by rw [HE.out];rfl),HB3.out⟩
       | false=>
        rw [hk] at HE;have hk2:(xk != 13)=true:=by rw [bne,hk];rfl
        go_wp2_with fail
        go_ret
        exact⟨ret_bool (by rw [HE.out];rfl),HB3.out⟩
theorem pgCrowded(x:Nd) (A1:Option Addr) (c1:Nat) (A2:Option Addr) (c2:Nat) (A3:Option Addr) (c3:Nat) (A4:Option Addr) (c4:Nat) (w:World) (h:rdN w x A1 A2 A3 A4):
 Calls Try.prog 30 #[.agg (ndA x A1 c1 A2 c2 A3 c3 A4 c4)] w fun e w'=>e=.returned (.bool (manyN x))∧Below w.heap.size w w':=by
 have HF:=Hd fun w1 hw=>nd_facts w x A1 c1 A2 c2 A3 c3 A4 c4 w1 hw h
 have HE:=Hd (show manyN x=(decide ((6:Int)<(x.ins.length:Int)) || decide ((6:Int)<(x.outs.length:Int)) || decide ((12:Int)<(x.vars.length:Int)) || decide ((18:Int)<(x.eqs.length:Int))) by
  unfold manyN
  congr 1
  · congr 1
    · congr 1
      · exact decide_eq_decide.2 (by omega)
      · exact decide_eq_decide.2 (by omega)
    · exact decide_eq_decide.2 (by omega)
  · exact decide_eq_decide.2 (by omega))
 clear h;unfold ndA at HF ⊢;generalize manyN x=out at *;generalize (x.ins.length:Nat)=n1 at *;generalize (x.outs.length:Nat)=n2 at *;generalize (x.vars.length:Nat)=n3 at *;generalize (x.eqs.length:Nat)=n4 at *
 go_enter Try.func30,Try.ntmps30
 go_upto_region 1 with(fail)
 generalize hw1:w.alloc _=w1;obtain⟨hb1,hg,hR1,hcell⟩:=HF.out w1 hw1;have HB1:=Hd hb1;obtain⟨-,q1,q2,q3,q4,-⟩:=Sx (hcell w1 (Below.refl _ _));simp only [Ya,Yb,Yc] at q1 q2 q3 q4;clear hw1 hcell hb1 HF hR1
 cases e1:decide ((6:Int)<(n1:Int)) with
 | true=>
  rw [e1] at HE
  go_wp2_with fail
  go_ret
  exact⟨ret_bool (by rw [HE.out];rfl),HB1.out⟩
 | false=>
  rw [e1] at HE
  cases e2:decide ((6:Int)<(n2:Int)) with
  | true=>
   rw [e2] at HE
   go_wp2_with fail
   go_ret
   exact⟨ret_bool (by rw [HE.out];rfl),HB1.out⟩
  | false=>
   rw [e2] at HE
   cases e3:decide ((12:Int)<(n3:Int)) with
   | true=>
    rw [e3] at HE
    go_wp2_with fail
    go_ret
    exact⟨ret_bool (by rw [HE.out];rfl),HB1.out⟩
   | false=>
    rw [e3] at HE
    cases e4:decide ((18:Int)<(n4:Int)) with
    | true=>
     rw [e4] at HE
     go_wp2_with fail
     go_ret
     exact⟨ret_bool (by rw [HE.out];rfl),HB1.out⟩
    | false=>
     rw [e4] at HE
     go_wp2_with fail
     go_ret
     exact⟨ret_bool (by rw [HE.out];rfl),HB1.out⟩
end
section
open Go.RowKit Go.Sort
theorem all_and_{α:Type}(a b:α→Bool):∀ l:List α,(l.all fun d=>a d && b d)=(l.all a && l.all b)
 | []=>rfl
 | x::l=>by
  simp only [List.all_cons,all_and_ a b l]
  cases a x <;> cases b x <;> cases l.all a <;> cases l.all b <;> rfl
theorem node_any(es:Nat) (n:Nd):(!nodeB es rightB rightX n)=(!lowB n.nm.data.toList || decide (n.outs.length=0) || (n.ins.any fun d=>!(declB es rightB d && noB d.on)) || (n.outs.any fun d=>!(declB es rightB d && noB d.on)) || (n.vars.any fun d=>!declB es rightB d) || (n.eqs.any fun q=>!eqB rightX q)):=by
 unfold nodeB portsB Nd.all;rw [← List.not_all_eq_any_not,← List.not_all_eq_any_not,← List.not_all_eq_any_not,← List.not_all_eq_any_not,all_and_,all_and_,List.all_append,List.all_append,List.all_append]
 have h:decide (0<n.outs.length)=!decide (n.outs.length=0):=by
  rcases Nat.eq_zero_or_pos n.outs.length with h | h
  · simp [h]
  · simp [h,Nat.pos_iff_ne_zero.1 h]
 rw [h];generalize n.ins.all (declB es rightB)=a1;generalize n.outs.all (declB es rightB)=a2;generalize n.vars.all (declB es rightB)=a3;generalize (n.ins.all fun d=>noB d.on)=a4;generalize (n.outs.all fun d=>noB d.on)=a5;generalize n.eqs.all (eqB rightX)=a6;generalize lowB n.nm.data.toList=a7;generalize decide (n.outs.length=0)=a8
 cases a1 <;> cases a2 <;> cases a3 <;> cases a4 <;> cases a5 <;> cases a6 <;> cases a7 <;> cases a8 <;> rfl
theorem three_boxes(w:World) (a b c:Value) (T U V:TypeId) (w3:World) (h:((w.alloc (.cells #[a] T)).alloc (.cells #[b] U)).alloc (.cells #[c] V)=w3):
 w3.cell? ⟨w.heap.size,0,none⟩=some a∧w3.cell? ⟨w.heap.size+1,0,none⟩=some b∧w3.cell? ⟨w.heap.size+1+1,0,none⟩=some c∧Below w.heap.size w w3:=by
 subst h;generalize h1:w.alloc (.cells #[a] T)=w1;have e1:w1.heap.size=w.heap.size+1:=by rw [← h1];simp
 have c1:w1.cell? ⟨w.heap.size,0,none⟩=some a:=by rw [← h1,World.cell?_alloc_new];rfl
 have b1:Below w.heap.size w w1:=by rw [← h1];exact(Below.refl _ _).alloc (Nat.le_refl _) _
 generalize h2:w1.alloc (.cells #[b] U)=w2;have e2:w2.heap.size=w1.heap.size+1:=by rw [← h2];simp
 have c2:w2.cell? ⟨w1.heap.size,0,none⟩=some b:=by rw [← h2,World.cell?_alloc_new];rfl
 have b2:Below w1.heap.size w1 w2:=by rw [← h2];exact(Below.refl _ _).alloc (Nat.le_refl _) _
 have b3:Below w2.heap.size w2 (w2.alloc (.cells #[c] V)):=(Below.refl _ _).alloc (Nat.le_refl _) _;refine⟨?_,?_,?_,?_⟩
 · rw [b3.cell (p:=⟨w.heap.size,0,none⟩) (by show w.heap.size<_;omega),b2.cell (p:=⟨w.heap.size,0,none⟩) (by show w.heap.size<_;omega),c1]
 · rw [b3.cell (p:=⟨w.heap.size+1,0,none⟩) (by show w.heap.size+1<_;omega),← e1,c2]
 · rw [← e1,← e2,World.cell?_alloc_new];rfl
 · exact b1.trans ((b2.trans (b3.mono b2.size)).mono b1.size)
def Boxes(w:World) (bp bv be:Nat) (E:Option Addr) (ne ec:Nat):Prop:=
 w.cell? ⟨be,0,none⟩=some (.slice E ne ec)∧w.cell? ⟨bv,0,none⟩=some (.func (.func 45) #[] #[.pointer (some ⟨be,0,none⟩)]) ∧
  w.cell? ⟨bp,0,none⟩=some (.func (.func 49) #[] #[.pointer (some ⟨bv,0,none⟩)])
theorem Boxes.below{w w':World}{bp bv be:Nat}{E:Option Addr}{ne ec:Nat}(h:Boxes w bp bv be E ne ec) (hb:Below w.heap.size w w'):Boxes w' bp bv be E ne ec:=
 ⟨(hb.cell (World.block_lt_of_cell? _ _ h.1)).trans h.1,(hb.cell (World.block_lt_of_cell? _ _ h.2.1)).trans h.2.1,(hb.cell (World.block_lt_of_cell? _ _ h.2.2)).trans h.2.2⟩
theorem predPort(l:List Dc) (bp bv be:Nat) (E:Option Addr) (ne ec:Nat) (w:World) (hl:∀ d∈l,OkD d) (hn:ne≤9223372036854775807) (hb:Boxes w bp bv be E ne ec):
 PredDc 49 #[.pointer (some ⟨bv,0,none⟩)] (fun d=>!(declB ne rightB d && noB d.on)) l w:=
 fun d hd W hW=>pgPort d bv be E ne ec W (hl d hd) hn (hb.below hW).1 (hb.below hW).2.1
theorem predVar(l:List Dc) (bp bv be:Nat) (E:Option Addr) (ne ec:Nat) (w:World) (hl:∀ d∈l,OkD d) (hn:ne≤9223372036854775807) (hb:Boxes w bp bv be E ne ec):
 PredDc 45 #[.pointer (some ⟨be,0,none⟩)] (fun d=>!declB ne rightB d) l w:=
 fun d hd W hW=>pgVar d be E ne ec W (hl d hd) hn (hb.below hW).1
theorem predEq(l:List Qn) (w:World) (hl:∀ q∈l,OkQ q):PredQn 52 #[] (fun q=>!eqB rightX q) l w:=
 fun q hq B c A ca D cb W _ hr=>pgWrongEq q B c A ca D cb W hr.1 hr.2 (hl q hq)
theorem pgNode(x:Nd) (A1:Option Addr) (c1:Nat) (A2:Option Addr) (c2:Nat) (A3:Option Addr) (c3:Nat) (A4:Option Addr) (c4:Nat) (bp bv be:Nat) (E:Option Addr) (ne ec:Nat) (w:World)
 (h:rdN w x A1 A2 A3 A4) (ho:OkN x) (hn:ne≤9223372036854775807) (hbx:Boxes w bp bv be E ne ec):
 Calls Try.prog 50 #[.agg (ndA x A1 c1 A2 c2 A3 c3 A4 c4),.pointer (some ⟨bp,0,none⟩),.pointer (some ⟨bv,0,none⟩)] w fun e w'=>e=.returned (.bool (!nodeB ne rightB rightX x))∧Below w.heap.size w w':=by
 have HF:=Hd fun w1 hw=>nd_facts w x A1 c1 A2 c2 A3 c3 A4 c4 w1 hw h;have HE:=Hd (node_any ne x);have HLO:=Hd fun w1=>idLow x.nm w1 (by have:=ho.1;unfold maxLen at this;omega);have HP:=Hd fun(l:List Dc) w1 (hl:∀ d∈l,OkD d) (hb:Boxes w1 bp bv be E ne ec)=>predPort l bp bv be E ne ec w1 hl hn hb;have HV:=Hd fun(l:List Dc) w1 (hl:∀ d∈l,OkD d) (hb:Boxes w1 bp bv be E ne ec)=>predVar l bp bv be E ne ec w1 hl hn hb;have HC1:=Hd fun w1 (a:RdD w1 A1 x.ins.length x.ins) b=>slHasDc 49 #[.pointer (some ⟨bv,0,none⟩)] (fun _ _=>rfl) _ A1 x.ins.length c1 x.ins w1 a (HP.out x.ins w1 (fun d hd=>ho.2.1 d (by simp [Nd.all,hd])) b);have HC2:=Hd fun w1 (a:RdD w1 A2 x.outs.length x.outs) b=>slHasDc 49 #[.pointer (some ⟨bv,0,none⟩)] (fun _ _=>rfl) _ A2 x.outs.length c2 x.outs w1 a (HP.out x.outs w1 (fun d hd=>ho.2.1 d (by simp [Nd.all,hd])) b);have HC3:=Hd fun w1 (a:RdD w1 A3 x.vars.length x.vars) b=>slHasDc 45 #[.pointer (some ⟨be,0,none⟩)] (fun _ _=>rfl) _ A3 x.vars.length c3 x.vars w1 a (HV.out x.vars w1 (fun d hd=>ho.2.1 d (by simp [Nd.all,hd])) b);have HC4:=Hd fun w1 (a:RdQ w1 A4 x.eqs.length x.eqs)=>slHasQn 52 #[] (fun _ _=>rfl) _ A4 x.eqs.length c4 x.eqs w1 a (predEq x.eqs w1 ho.2.2);have HBX:=Hd hbx;clear HP HV ho hbx h;unfold ndA;generalize (!nodeB ne rightB rightX x)=out at *;generalize (x.ins.any fun d=>!(declB ne rightB d && noB d.on))=s1 at *;generalize (x.outs.any fun d=>!(declB ne rightB d && noB d.on))=s2 at *;generalize (x.vars.any fun d=>!declB ne rightB d)=s3 at *;generalize (x.eqs.any fun q=>!eqB rightX q)=s4 at *;generalize lowB x.nm.data.toList=lb at *
 have HDO:=Hd (show decide (x.outs.length=0)=((x.outs.length:Int)==0) by
  rcases Nat.eq_zero_or_pos x.outs.length with h | h
  · simp [h]
  · rw [decide_eq_false (by omega)];symm;rw [beq_eq_false_iff_ne];omega)
 rw [HDO.out] at HE;clear HDO
 go_enter Try.func50,Try.ntmps50
 go_upto_region 1 with(fail)
 generalize hw1:w.alloc _=w1;obtain⟨hb1,hg,hR1,hcell⟩:=HF.out w1 hw1;have HB1:=Hd hb1;have HX:=Hd hcell;have HRX:=Hd hR1;have HBX1:=Hd (HBX.out.below hb1);simp only [ndA] at HX;clear hw1 hcell hb1 HF hR1 HBX;have p0:=HX.out w1 (Below.refl _ _) 0;simp only [Ya,Yb,Yc] at p0
 cases lb with
 | false=>
  go_wp2_with fail
  refine(HLO.out w1).mono ?_;rintro e w2 ⟨rfl,hb⟩;have HB2:=Hd (HB1.out.trans (hb.mono HB1.out.size));clear hb p0
  go_wp2_with fail
  go_ret
  exact⟨ret_bool (by rw [HE.out];rfl),HB2.out⟩
 | true=>
  go_wp2_with fail
  refine(HLO.out w1).mono ?_;rintro e w2 ⟨rfl,hb⟩;have HW2:=Hd hb;have HB2:=Hd (HB1.out.trans (hb.mono HB1.out.size));have p1:=HX.out w2 hb 1;have p2:=HX.out w2 hb 2;have pb:=(HBX1.out.below hb).2.2;simp only [Ya,Yb,Yc] at p1 p2;clear hb p0
  cases e0:((x.outs.length:Int)==0) with
  | true=>
   rw [e0] at HE
   go_wp2_with fail
   go_ret
   exact⟨ret_bool (by rw [HE.out];rfl),HB2.out⟩
  | false=>
   rw [e0] at HE
   cases s1 with
   | true=>
    go_wp2_with fail
    refine(HC1.out w2 (RdD.below HRX.out.1 HW2.out) (HBX1.out.below HW2.out)).mono ?_;rintro e w3 ⟨rfl,hb⟩;have HW3:=Hd (HW2.out.trans (hb.mono HW2.out.size));have HB3:=Hd (HB1.out.trans (HW3.out.mono HB1.out.size));clear hb p1 pb p2
    go_wp2_with fail
    go_ret
    exact⟨ret_bool (by rw [HE.out];rfl),HB3.out⟩
   | false=>
    go_wp2_with fail
    refine(HC1.out w2 (RdD.below HRX.out.1 HW2.out) (HBX1.out.below HW2.out)).mono ?_;rintro e w3 ⟨rfl,hb⟩;have HW3:=Hd (HW2.out.trans (hb.mono HW2.out.size));have HB3:=Hd (HB1.out.trans (HW3.out.mono HB1.out.size));clear hb p1 pb p2;have p2:=HX.out w3 HW3.out 2;simp only [Ya,Yb,Yc] at p2;have pb:=(HBX1.out.below HW3.out).2.2
    cases s2 with
    | true=>
     go_wp2_with fail
     refine(HC2.out w3 (RdD.below HRX.out.2.1 HW3.out) (HBX1.out.below HW3.out)).mono ?_;rintro e w4 ⟨rfl,hb⟩;have HW4:=Hd (HW3.out.trans (hb.mono HW3.out.size));have HB4:=Hd (HB1.out.trans (HW4.out.mono HB1.out.size));clear hb p2 pb
     go_wp2_with fail
     go_ret
     exact⟨ret_bool (by rw [HE.out];rfl),HB4.out⟩
    | false=>
     go_wp2_with fail
     refine(HC2.out w3 (RdD.below HRX.out.2.1 HW3.out) (HBX1.out.below HW3.out)).mono ?_;rintro e w4 ⟨rfl,hb⟩;have HW4:=Hd (HW3.out.trans (hb.mono HW3.out.size));have HB4:=Hd (HB1.out.trans (HW4.out.mono HB1.out.size));clear hb p2 pb;have p3:=HX.out w4 HW4.out 3;simp only [Ya,Yb,Yc] at p3;have pb:=(HBX1.out.below HW4.out).2.1
     cases s3 with
     | true=>
      go_wp2_with fail
      refine(HC3.out w4 (RdD.below HRX.out.2.2.1 HW4.out) (HBX1.out.below HW4.out)).mono ?_;rintro e w5 ⟨rfl,hb⟩;have HW5:=Hd (HW4.out.trans (hb.mono HW4.out.size));have HB5:=Hd (HB1.out.trans (HW5.out.mono HB1.out.size));clear hb p3 pb
      go_wp2_with fail
      go_ret
      exact⟨ret_bool (by rw [HE.out];rfl),HB5.out⟩
     | false=>
      go_wp2_with fail
      refine(HC3.out w4 (RdD.below HRX.out.2.2.1 HW4.out) (HBX1.out.below HW4.out)).mono ?_;rintro e w5 ⟨rfl,hb⟩;have HW5:=Hd (HW4.out.trans (hb.mono HW4.out.size));have HB5:=Hd (HB1.out.trans (HW5.out.mono HB1.out.size));clear hb p3 pb;have p4:=HX.out w5 HW5.out 4;simp only [Ya,Yb,Yc] at p4
      go_wp2_with fail
      refine(HC4.out w5 (RdQ.below HRX.out.2.2.2 HW5.out)).mono ?_;rintro e w6 ⟨rfl,hb⟩;have HW6:=Hd (HW5.out.trans (hb.mono HW5.out.size));have HB6:=Hd (HB1.out.trans (HW6.out.mono HB1.out.size));clear hb p4
      go_wp2_with fail
      go_ret
      exact⟨ret_bool (by rw [HE.out];rfl),HB6.out⟩
theorem pgMalformed(E:Option Addr) (ne ec:Nat) (w:World):
 Calls Try.prog 31 #[.slice E ne ec] w fun e w'=>∃ bp bv be,e=.returned (.func (.func 50) #[] #[.pointer (some ⟨bp,0,none⟩),.pointer (some ⟨bv,0,none⟩)])∧Boxes w' bp bv be E ne ec∧Below w.heap.size w w':=by
 have hmk:∀ fn first cap w,(Instr.makeFunc fn first cap).run Try.prog w=.ok (.func fn first cap) w:=fun _ _ _ _=>rfl
 go_enter Try.func31,Try.ntmps31
 go_wp2_with fail
 go_ret
 obtain⟨h1,h2,h3,h4⟩:=three_boxes w _ _ _ _ _ _ _ rfl;exact⟨w.heap.size+1+1,w.heap.size+1,w.heap.size,rfl,⟨h1,h2,h3⟩,h4⟩
end
section
set_option maxRecDepth 100000
open Go.RowKit Go.ChangeShapes Go.WideShapes Go.Deep
theorem cells_ds:Try.prog.cellsOf 38=1:=by kernel_rfl
theorem cells_qs:Try.prog.cellsOf 39=1:=by kernel_rfl
theorem cells_ns:Try.prog.cellsOf 30=1:=by kernel_rfl
theorem cells_es:Try.prog.cellsOf 22=1:=by kernel_rfl
theorem cells_pg:Try.prog.cellsOf 32=2:=by kernel_rfl
theorem cells_exZ:Try.prog.cellsOf 50=6:=by kernel_rfl
section
variable {H:Type}{enc:TypeId × Value→H}{w:World}{base:Nat}{spare:Nat→Bool}{held:Bool}
theorem rdS_open{α:Type} [Inhabited α] {k:Nat}{T ST:TypeId}{At:World→Nat→Nat→α→Prop}(hu:Try.prog.underlying ST=some (.slice T)) (hck:Try.prog.cellsOf T=k) (hk:0<k)
 (h1:∀ {w:World}{b o:Nat}{x:α},At w b o x→∃ v,w.cell? ⟨b,o,none⟩=some v)
 (hone:∀ {fuel:Nat}{cs:List Value}{x:DataW H × List MemPlace},DataW.trod enc Try.prog w base spare held fuel T cs=some x→cs.length=k→∃ e:α,∀ b o,(∀ j v,cs[j]?=some v→w.cell? ⟨b,o+j,none⟩=some v)→At w b o e)
 {fuel:Nat}{A:Option Addr}{n c:Nat}{x:DataW H × List MemPlace}(h:DataW.trod enc Try.prog w base spare held fuel ST [.slice A n c]=some x):∃ l,RdS k At w A n l:=by
 rcases open_slice hu h with⟨hcs,_⟩|⟨a,len,cap,m,nn,D,Pl,hcs,_,hl,hm,hmm,_,hi⟩
 · simp at hcs
   obtain⟨rfl,rfl,rfl⟩:=hcs;exact⟨[],RdS.nil_ _ _ _⟩
 · simp at hcs
   obtain⟨rfl,rfl,rfl⟩:=hcs;have hnm:n≤m:=by rw [hmm];split <;> omega
   have hsp:0<n→a.spot=none:=fun hn=>by
    obtain⟨cs',hc,ht⟩:=hi 0 (by omega);rw [hck] at hc;obtain⟨_,hcl,hat⟩:=World.cells?_some hc;have h0:=hat (i:=0) hk;rw [List.getElem?_eq_getElem (by omega)] at h0
    simpa [Addr.add] using World.cell?_spot h0
   have hf:∀ i,i<n→∃ e:α,∀ b off,a=⟨b,off,none⟩→At w b (off+i*k) e:=by
    intro i him;obtain⟨cs',hc,ht⟩:=hi i (by omega);rw [hck] at hc;obtain⟨_,hcl,hat⟩:=World.cells?_some hc;obtain⟨e,he⟩:=hone ht hcl;refine⟨e,fun b off ea=>he b (off+i*k) fun j v hv=>?_⟩
    have hj:j<k:=by
     rcases Nat.lt_or_ge j k with h | h
     · exact h
     · rw [List.getElem?_eq_none (by omega)] at hv;cases hv
    have h2:=hat (i:=j) hj;rw [hv] at h2;have hadd:∀ i,(⟨b,off,none⟩:Addr).add i=⟨b,off+i,none⟩:=fun i=>by unfold Addr.add;split <;> simp_all
    rw [Go.Deep.add_add,ea,hadd,← Nat.add_assoc] at h2;exact h2
   obtain⟨f,hf⟩:=choose_lt (α:=α) hf;have hget:∀ i,i<n→((List.range n).map f)[i]?.getD default=f i:=fun i hi=>by simp [List.getElem?_map,List.getElem?_range hi]
   refine⟨(List.range n).map f,by simp,by unfold maxLen at hm;omega,fun hn=>?_⟩;obtain⟨b,off,spot⟩:=a;have hspot:=hsp hn;simp only at hspot;subst hspot;have h0:=hf 0 hn b off rfl;obtain⟨v0,hv0⟩:=h1 h0;exact⟨b,off,rfl,World.block_lt_of_cell? _ _ hv0,fun i hi=>by rw [hget i hi];exact hf i hi b off rfl⟩
theorem dc_open{fuel:Nat}{cs:List Value}{x:DataW H × List MemPlace}(h:DataW.trod enc Try.prog w base spare held fuel 45 cs=some x) (hl:cs.length=6):∃ d:Dc,cs=dcL d:=by
 obtain⟨ys,m,_,_,_,hy,hf⟩:=DataW.trod_struct Try.underlying45 h
 match cs,hl with
 | [v0,v1,v2,v3,v4,v5],_=>
  match ys,hy with
  | [y0,y1,y2,y3],_=>
   have t0:=hf 0 _ rfl;have t1:=hf 1 _ rfl;have t2:=hf 2 _ rfl;have t3:=hf 3 _ rfl
   simp [cells_s,cells_ty] at t0 t1 t2 t3
   obtain⟨s0,e0,_,_⟩:=DataW.trod_string Try.underlying9 t0;obtain⟨tk,te,tl,e1⟩:=ty_cells t1 rfl;obtain⟨s2,e2,_,_⟩:=DataW.trod_string Try.underlying9 t2;obtain⟨s3,e3,_,_⟩:=DataW.trod_string Try.underlying9 t3;injection e0 with e0;injection e1 with e1 e1';injection e1' with e1' e1'';injection e1'' with e1'';injection e2 with e2;injection e3 with e3;subst e0 e1 e1' e1'' e2 e3;exact⟨⟨s0,tk,te,tl,s2,s3⟩,rfl⟩
theorem decls_open{fuel:Nat}{v:Value}{x:DataW H × List MemPlace}(h:DataW.trod enc Try.prog w base spare held fuel 38 [v]=some x):∃ A n c l,v=.slice A n c∧RdD w A n l:=by
 obtain⟨A,n,c,rfl⟩:∃ A n c,v=.slice A n c:=by
  rcases open_slice Try.underlying38 h with⟨hcs,_⟩|⟨a,len,cap,m,nn,D,Pl,hcs,_⟩
  · simp at hcs;exact⟨_,_,_,hcs⟩
  · simp at hcs;exact⟨_,_,_,hcs⟩
 obtain⟨l,hl⟩:=rdS_open (α:=Dc) (k:=6) (At:=DcAt) Try.underlying38 cells_dc (by decide) (fun h=>⟨_,h 0 _ rfl⟩) (fun ht hl=>by
  obtain⟨d,rfl⟩:=dc_open ht hl;exact⟨d,fun b o hc j v hv=>hc j v hv⟩) h
 exact⟨A,n,c,l,rfl,hl⟩
theorem qn_open{fuel:Nat}{cs:List Value}{x:DataW H × List MemPlace}(h:DataW.trod enc Try.prog w base spare held fuel 52 cs=some x) (hl:cs.length=7):
 ∃ (q:Qn) (A:Option Addr) (c:Nat) (A':Option Addr) (ca:Nat) (B':Option Addr) (cb:Nat),cs=.slice A q.ns.length c::exL q.x A' ca B' cb∧RdT w A q.ns.length q.ns∧rdX w q.x A' B':=by
 obtain⟨ys,m,_,_,_,hy,hf⟩:=DataW.trod_struct Try.underlying52 h
 match cs,hl with
 | [v0,v1,v2,v3,v4,v5,v6],_=>
  match ys,hy with
  | [y0,y1],_=>
   have t0:=hf 0 _ rfl;have t1:=hf 1 _ rfl
   simp [cells_ss,cells_exZ] at t0 t1
   obtain⟨A,n,c,ss,rfl,hr,_⟩:=strs_openZ t0;obtain⟨X,A',ca,B',cb,e1,hx,_⟩:=ex_cells _ t1 rfl;have hn:=hr.len;subst hn;exact⟨⟨ss,X⟩,A,c,A',ca,B',cb,by rw [e1],hr,hx⟩
theorem eqs_open{fuel:Nat}{v:Value}{x:DataW H × List MemPlace}(h:DataW.trod enc Try.prog w base spare held fuel 39 [v]=some x):∃ A n c l,v=.slice A n c∧RdQ w A n l:=by
 obtain⟨A,n,c,rfl⟩:∃ A n c,v=.slice A n c:=by
  rcases open_slice Try.underlying39 h with⟨hcs,_⟩|⟨a,len,cap,m,nn,D,Pl,hcs,_⟩
  · simp at hcs;exact⟨_,_,_,hcs⟩
  · simp at hcs;exact⟨_,_,_,hcs⟩
 obtain⟨l,hl⟩:=rdS_open (α:=Qn) (k:=7) (At:=QnAt) Try.underlying39 cells_qn (by decide) (fun h=>by obtain⟨A,c,A',ca,B',cb,h1,_⟩:=h;exact⟨_,h1⟩) (fun ht hl=>by
  obtain⟨q,A,c,A',ca,B',cb,rfl,h1,h2⟩:=qn_open ht hl;refine⟨q,fun b o hc=>⟨A,c,A',ca,B',cb,hc 0 _ rfl,h1,fun j v hv=>?_,h2⟩⟩;have:=hc (j+1) v hv;rwa [show o+(j+1)=o+1+j by omega] at this) h
 exact⟨A,n,c,l,rfl,hl⟩
theorem nd_open{fuel:Nat}{cs:List Value}{x:DataW H × List MemPlace}(h:DataW.trod enc Try.prog w base spare held fuel 41 cs=some x) (hl:cs.length=5):
 ∃ (n:Nd) (A1:Option Addr) (c1:Nat) (A2:Option Addr) (c2:Nat) (A3:Option Addr) (c3:Nat) (A4:Option Addr) (c4:Nat),cs=ndL n A1 c1 A2 c2 A3 c3 A4 c4∧rdN w n A1 A2 A3 A4:=by
 obtain⟨ys,m,_,_,_,hy,hf⟩:=DataW.trod_struct Try.underlying41 h
 match cs,hl with
 | [v0,v1,v2,v3,v4],_=>
  match ys,hy with
  | [y0,y1,y2,y3,y4],_=>
   have t0:=hf 0 _ rfl;have t1:=hf 1 _ rfl;have t2:=hf 2 _ rfl;have t3:=hf 3 _ rfl;have t4:=hf 4 _ rfl
   simp [cells_s,cells_ds,cells_qs] at t0 t1 t2 t3 t4
   obtain⟨s0,e0,_,_⟩:=DataW.trod_string Try.underlying9 t0;injection e0 with e0;subst e0;obtain⟨A1,n1,c1,l1,rfl,r1⟩:=decls_open t1;obtain⟨A2,n2,c2,l2,rfl,r2⟩:=decls_open t2;obtain⟨A3,n3,c3,l3,rfl,r3⟩:=decls_open t3;obtain⟨A4,n4,c4,l4,rfl,r4⟩:=eqs_open t4;have h1:=RdS.len r1;have h2:=RdS.len r2;have h3:=RdS.len r3;have h4:=RdS.len r4;subst h1 h2 h3 h4;exact⟨⟨s0,l1,l2,l3,l4⟩,A1,c1,A2,c2,A3,c3,A4,c4,rfl,r1,r2,r3,r4⟩
theorem nodes_open{fuel:Nat}{v:Value}{x:DataW H × List MemPlace}(h:DataW.trod enc Try.prog w base spare held fuel 30 [v]=some x):∃ A n c l,v=.slice A n c∧RdNs w A n l:=by
 obtain⟨A,n,c,rfl⟩:∃ A n c,v=.slice A n c:=by
  rcases open_slice Try.underlying30 h with⟨hcs,_⟩|⟨a,len,cap,m,nn,D,Pl,hcs,_⟩
  · simp at hcs;exact⟨_,_,_,hcs⟩
  · simp at hcs;exact⟨_,_,_,hcs⟩
 obtain⟨l,hl⟩:=rdS_open (α:=Nd) (k:=5) (At:=NdAt) Try.underlying30 cells_nd (by decide) (fun h=>by obtain⟨A1,c1,A2,c2,A3,c3,A4,c4,h1,_⟩:=h;exact⟨_,h1 0 _ rfl⟩) (fun ht hl=>by
  obtain⟨x,A1,c1,A2,c2,A3,c3,A4,c4,rfl,h1⟩:=nd_open ht hl;exact⟨x,fun b o hc=>⟨A1,c1,A2,c2,A3,c3,A4,c4,fun j v hv=>hc j v hv,h1⟩⟩) h
 exact⟨A,n,c,l,rfl,hl⟩
theorem pg_open{v:Value}{d:DataW H}{ps:List MemPlace}{r:Reach}{b0:Nat}(hv:Value.okWide Try.prog w r b0 32 v) (h:DataW.Trod enc Try.prog w base spare held 32 v d ps):
 ∃ (p:Pg) (E:Option Addr) (ec:Nat) (N:Option Addr) (nc:Nat),v=.agg (pgA p E ec N nc)∧rdP w p E N:=by
 obtain⟨cs,rfl,hs⟩:=okWide_struct Try.underlying32 hv;obtain⟨fuel,hf⟩:=h;rw [cells_pg] at hs;have hl:(Value.agg cs).cells.toList.length=2:=by simpa [Value.cells] using hs
 obtain⟨ys,m,_,_,_,hy,hff⟩:=DataW.trod_struct Try.underlying32 hf
 obtain⟨v0,v1,hcs⟩:∃ v0 v1,(Value.agg cs).cells.toList=[v0,v1]:=by
  match (Value.agg cs).cells.toList,hl with
  | [v0,v1],_=>exact⟨v0,v1,rfl⟩
 rw [hcs] at hff
 match ys,hy with
 | [y0,y1],_=>
  have t0:=hff 0 _ rfl;have t1:=hff 1 _ rfl
  simp [cells_es,cells_ns] at t0 t1
  obtain⟨N,nn,nc,ns,rfl,hN⟩:=nodes_open t1
  obtain⟨E,en,ec,rfl⟩:∃ A n c,v0=.slice A n c:=by
   rcases open_slice Try.underlying22 t0 with⟨h2,_⟩|⟨a,len,cap,m,nn,D,Pl,h2,_⟩
   · simp at h2;exact⟨_,_,_,h2⟩
   · simp at h2;exact⟨_,_,_,h2⟩
  obtain⟨es,hE⟩:=enums_open t0;have h1:=hE.len;have h2:=RdS.len hN;subst h1 h2;refine⟨⟨es,ns⟩,E,ec,N,nc,?_,hE,hN⟩
  congr 1
  apply Array.toList_inj.1
  simpa [Value.cells,pgA] using hcs
end
end
end Go.Proofs.Ytpehkppcdlboeaa
