/- Parts of the proof: PiD, PiE, ScI, PhF. Conditions: each theorem's own. -/
import Derived.Laws.EntriesVeiled
import Derived.Test.YtegjgiofmpolnaaGreatC24
import Derived.Test.YtegjgiofmpolnaaGreatC27
namespace Go.Proofs.YtegjgiofmpolnaaGreat
set_option linter.unusedVariables false
set_option linter.unusedSimpArgs false
set_option maxRecDepth 100000
set_option maxHeartbeats 40000000
section
open Go.RowKit Go.Sort
theorem aNs(s:ByteArray) (w:World) (hs:s.size<=9223372036854775807):
 Calls Tryz.prog 171 #[.string s] w fun e w'=>e=.returned (.bool (!aX s.data.toList))/\Below w.heap.size w w':=by
 have HL:=Hd (iG s w hs);generalize aX s.data.toList=b at *
 go_enter Tryz.func171,Tryz.ntmps171
 go_wp2_with fail
 refine HL.o.mono ?_;rintro e w2 ⟨rfl,Aa⟩;have Ab:=Hd Aa;clear Aa
 go_wp2_with fail
 go_ret
 exact⟨rfl,Ab.o⟩
theorem aK1(q:Qn) (A:Option Addr) (c:Nat) (A':Option Addr) (ca:Nat) (B':Option Addr) (cb:Nat) (w:World) (hr:aN w A q.ns.length q.ns) (hx:aJ w q.x A' B') (Ag:sT q):
 Calls Tryz.prog 143 #[.agg (eM q A c A' ca B' cb)] w fun e w'=>e=.returned (.bool (!gK bB q))/\Below w.heap.size w w':=by
 have HF:=Hd fun w1 h=>xD w q A c A' ca B' cb w1 h hr hx;have Aw:=hr.max;have Ap:=Hd fun w1 (h:aJ w1 q.x A' B')=>rY q.x A' ca B' cb w1 h Ag.2.1 Ag.2.2
 have Al:=Hd fun w1 (h:aN w1 A q.ns.length q.ns)=>aR4 171 #[] (fun _ _=>rfl) (fun s=>!aX s.data.toList) A q.ns.length c q.ns w1 h
  fun s hs W _=>aNs s W (by have:=Ag.1 s hs;unfold maxLen at this;omega)
 have HE:=Hd (show(!gK bB q)=(decide (q.ns.length=0) || (q.ns.any fun s=>!aX s.data.toList) || !bB q.x || (!decide (q.ns.length<=1) && !(q.x.k==13))) by
  unfold gK;rw [<- List.not_all_eq_any_not];generalize (q.ns.all fun s=>aX s.data.toList)=a;rcases Nat.lt_trichotomy q.ns.length 1 with h | h | h
  . have:q.ns.length=0:=by omega
    simp [this]
  . simp [h]
  . have h0:q.ns.length≠0:=by omega
    have h1:q.ns.length≠1:=by omega
    have h2:¬ q.ns.length<=1:=by omega
    have h3:0<q.ns.length:=by omega
    simp [h0,h1,h2,h3])
 clear Ag hr hx;unfold aE at Ap;unfold eM;generalize (!gK bB q)=Av at *;generalize bB q.x=rb at *;generalize (q.ns.any fun s=>!aX s.data.toList)=nb at *
 go_enter Tryz.func143,Tryz.ntmps143
 go_upto_region 1 with(fail)
 generalize Ao:w.alloc _=w1;obtain⟨An,hg,Ai,Aj,Ab⟩:=HF.o w1 Ao;have Af:=Hd An;have HC:=Hd Ab;have As:=Hd Aj;have Aq:=Hd (Al.o w1 Ai);simp only [eM] at HC;have q0:=HC.o w1 (Yg _ _) 0;simp only [Ya,Yb,Yc] at q0;clear Ao Ab An HF Ai Aj Al;generalize q.ns.length=n at *;generalize q.x.k=xk at *;generalize q.x.n=xn at *;generalize q.x.s=xs at *;generalize q.x.op=xo at *;generalize q.x.arms.length=xa at *;generalize q.x.subs.length=xb at *
 by_cases h0:n=0
 . subst h0;have d0:(((0:Nat):Int)==0)=true:=rfl
   go_wp2_with fail
   go_ret
   exact⟨aF (by rw [HE.o];rfl),Af.o⟩
 . have d0:((n:Int)==0)=false:=by rw [Xa];omega
   rw [show decide (n=0)=false by simp [h0]] at HE;have Au:=Hd h0;clear h0
   cases nb with
   | true=>
    go_wp2_with fail
    refine Aq.o.mono ?_;rintro e w2 ⟨rfl,Aa⟩;have Ad:=Hd (Af.o.trans (Aa.mono Af.o.size));clear Aa q0
    go_wp2_with fail
    go_ret
    exact⟨aF (by rw [HE.o];rfl),Ad.o⟩
   | false=>
    go_wp2_with fail
    refine Aq.o.mono ?_;rintro e w2 ⟨rfl,Aa⟩;have Ad:=Hd (Af.o.trans (Aa.mono Af.o.size));have Am:=Hd Aa;have Ak:=Hd (Ap.o w2 (As.o.below Aa));obtain⟨-,p1,p2,p3,p4,p5⟩:=Sx (HC.o w2 Aa);have p6:=HC.o w2 Aa 6;simp only [Ya,Yb,Yc] at p1 p2 p3 p4 p5 p6;clear Aa q0
    cases rb with
    | false=>
     go_wp2_with fail
     refine Ak.o.mono ?_;rintro e w3 ⟨rfl,Ac⟩;have Ae:=Hd (Ad.o.trans (Ac.mono Ad.o.size));clear Ac p1 p2 p3 p4 p5 p6
     go_wp2_with fail
     go_ret
     exact⟨aF (by rw [HE.o];rfl),Ae.o⟩
    | true=>
     go_wp2_with fail
     refine Ak.o.mono ?_;rintro e w3 ⟨rfl,Ac⟩;have Ae:=Hd (Ad.o.trans (Ac.mono Ad.o.size));have Ah:=Am.o.trans (Ac.mono Am.o.size);have s0:=HC.o w3 Ah 0;have s1:=HC.o w3 Ah 1;simp only [Ya,Yb,Yc] at s0 s1;clear Ac p1 p2 p3 p4 p5 p6 Ah
     by_cases h1:n<=1
     . rw [show decide (n<=1)=true by simp [h1]] at HE;have d1:decide ((1:Int)<(n:Int))=false:=Zy (by omega);clear h1
       go_wp2_with fail
       go_ret
       exact⟨aF (by rw [HE.o];rfl),Ae.o⟩
     . rw [show decide (n<=1)=false by simp [h1]] at HE;have d1:decide ((1:Int)<(n:Int))=true:=Zx (by omega);clear h1
       cases hk:(xk==13) with
       | true=>
        rw [hk] at HE;have Ar:(xk != 13)=false:=by rw [bne,hk];rfl
        go_wp2_with fail
        go_ret
        exact⟨aF (by rw [HE.o];rfl),Ae.o⟩
       | false=>
        rw [hk] at HE;have Ar:(xk != 13)=true:=by rw [bne,hk];rfl
        go_wp2_with fail
        go_ret
        exact⟨aF (by rw [HE.o];rfl),Ae.o⟩
theorem aK2(x:Nd) (A1:Option Addr) (c1:Nat) (A2:Option Addr) (c2:Nat) (A3:Option Addr) (c3:Nat) (A4:Option Addr) (c4:Nat) (w:World) (h:cJ w x A1 A2 A3 A4):
 Calls Tryz.prog 92 #[.agg (bL x A1 c1 A2 c2 A3 c3 A4 c4)] w fun e w'=>e=.returned (.bool (iH x))/\Below w.heap.size w w':=by
 have HF:=Hd fun w1 hw=>iB w x A1 c1 A2 c2 A3 c3 A4 c4 w1 hw h
 have HE:=Hd (show iH x=(decide ((6:Int)<(x.ins.length:Int)) || decide ((6:Int)<(x.outs.length:Int)) || decide ((12:Int)<(x.vars.length:Int)) || decide ((18:Int)<(x.eqs.length:Int))) by
  unfold iH
  congr 1
  . congr 1
    . congr 1
      . exact decide_eq_decide.2 (by omega)
      . exact decide_eq_decide.2 (by omega)
    . exact decide_eq_decide.2 (by omega)
  . exact decide_eq_decide.2 (by omega))
 clear h;unfold bL at HF ⊢;generalize iH x=Af at *;generalize (x.ins.length:Nat)=n1 at *;generalize (x.outs.length:Nat)=n2 at *;generalize (x.vars.length:Nat)=n3 at *;generalize (x.eqs.length:Nat)=n4 at *
 go_enter Tryz.func92,Tryz.ntmps92
 go_upto_region 1 with(fail)
 generalize Ad:w.alloc _=w1;obtain⟨Ac,hg,Ae,Aa⟩:=HF.o w1 Ad;have Ab:=Hd Ac;obtain⟨-,q1,q2,q3,q4,-⟩:=Sx (Aa w1 (Yg _ _));simp only [Ya,Yb,Yc] at q1 q2 q3 q4;clear Ad Aa Ac HF Ae
 cases e1:decide ((6:Int)<(n1:Int)) with
 | true=>
  rw [e1] at HE
  go_wp2_with fail
  go_ret
  exact⟨aF (by rw [HE.o];rfl),Ab.o⟩
 | false=>
  rw [e1] at HE
  cases e2:decide ((6:Int)<(n2:Int)) with
  | true=>
   rw [e2] at HE
   go_wp2_with fail
   go_ret
   exact⟨aF (by rw [HE.o];rfl),Ab.o⟩
  | false=>
   rw [e2] at HE
   cases e3:decide ((12:Int)<(n3:Int)) with
   | true=>
    rw [e3] at HE
    go_wp2_with fail
    go_ret
    exact⟨aF (by rw [HE.o];rfl),Ab.o⟩
   | false=>
    rw [e3] at HE
    cases e4:decide ((18:Int)<(n4:Int)) with
    | true=>
     rw [e4] at HE
     go_wp2_with fail
     go_ret
     exact⟨aF (by rw [HE.o];rfl),Ab.o⟩
    | false=>
     rw [e4] at HE
     go_wp2_with fail
     go_ret
     exact⟨aF (by rw [HE.o];rfl),Ab.o⟩
end
section
open Go.RowKit Go.Sort
theorem xL{α:Type}(a b:α->Bool):∀ l:List α,(l.all fun d=>a d && b d)=(l.all a && l.all b)
 | []=>rfl
 | x::l=>by
  simp only [List.all_cons,xL a b l]
  cases a x <;> cases b x <;> cases l.all a <;> cases l.all b <;> rfl
theorem aNt(es:Nat) (n:Nd):(!gH es bH bB n)=(!aX n.nm.data.toList || decide (n.outs.length=0) || (n.ins.any fun d=>!(dZ es bH d && gB d.on)) || (n.outs.any fun d=>!(dZ es bH d && gB d.on)) || (n.vars.any fun d=>!dZ es bH d) || (n.eqs.any fun q=>!gK bB q)):=by
 unfold gH jS Nd.all;rw [<- List.not_all_eq_any_not,<- List.not_all_eq_any_not,<- List.not_all_eq_any_not,<- List.not_all_eq_any_not,xL,xL,List.all_append,List.all_append,List.all_append]
 have h:decide (0<n.outs.length)=!decide (n.outs.length=0):=by
  rcases Nat.eq_zero_or_pos n.outs.length with h | h
  . simp [h]
  . simp [h,Nat.pos_iff_ne_zero.1 h]
 rw [h];generalize n.ins.all (dZ es bH)=a1;generalize n.outs.all (dZ es bH)=a2;generalize n.vars.all (dZ es bH)=a3;generalize (n.ins.all fun d=>gB d.on)=a4;generalize (n.outs.all fun d=>gB d.on)=a5;generalize n.eqs.all (gK bB)=a6;generalize aX n.nm.data.toList=a7;generalize decide (n.outs.length=0)=a8
 cases a1 <;> cases a2 <;> cases a3 <;> cases a4 <;> cases a5 <;> cases a6 <;> cases a7 <;> cases a8 <;> rfl
theorem aHc(w:World) (a b c:Value) (T U V:TypeId) (w3:World) (h:((w.alloc (.cells #[a] T)).alloc (.cells #[b] U)).alloc (.cells #[c] V)=w3):
 w3.cell? ⟨w.heap.size,0,none⟩=some a/\w3.cell? ⟨w.heap.size+1,0,none⟩=some b/\w3.cell? ⟨w.heap.size+1+1,0,none⟩=some c/\Below w.heap.size w w3:=by
 subst h;generalize h1:w.alloc (.cells #[a] T)=w1;have e1:w1.heap.size=w.heap.size+1:=by rw [<- h1];simp
 have c1:w1.cell? ⟨w.heap.size,0,none⟩=some a:=by rw [<- h1,Zo];rfl
 have b1:Below w.heap.size w w1:=by rw [<- h1];exact(Yg _ _).alloc (Yh _) _
 generalize h2:w1.alloc (.cells #[b] U)=w2;have e2:w2.heap.size=w1.heap.size+1:=by rw [<- h2];simp
 have c2:w2.cell? ⟨w1.heap.size,0,none⟩=some b:=by rw [<- h2,Zo];rfl
 have b2:Below w1.heap.size w1 w2:=by rw [<- h2];exact(Yg _ _).alloc (Yh _) _
 have b3:Below w2.heap.size w2 (w2.alloc (.cells #[c] V)):=(Yg _ _).alloc (Yh _) _;refine⟨?_,?_,?_,?_⟩
 . rw [b3.cell (p:=⟨w.heap.size,0,none⟩) (by show w.heap.size<_;omega),b2.cell (p:=⟨w.heap.size,0,none⟩) (by show w.heap.size<_;omega),c1]
 . rw [b3.cell (p:=⟨w.heap.size+1,0,none⟩) (by show w.heap.size+1<_;omega),<- e1,c2]
 . rw [<- e1,<- e2,Zo];rfl
 . exact b1.trans ((b2.trans (b3.mono b2.size)).mono b1.size)
def lH(w:World) (bp bv be:Nat) (E:Option Addr) (ne ec:Nat):Prop:=
 w.cell? ⟨be,0,none⟩=some (.slice E ne ec)/\w.cell? ⟨bv,0,none⟩=some (.func (.func 136) #[] #[.pointer (some ⟨be,0,none⟩)]) /\
  w.cell? ⟨bp,0,none⟩=some (.func (.func 140) #[] #[.pointer (some ⟨bv,0,none⟩)])
theorem lH.below{w w':World}{bp bv be:Nat}{E:Option Addr}{ne ec:Nat}(h:lH w bp bv be E ne ec) (hb:Below w.heap.size w w'):lH w' bp bv be E ne ec:=
 ⟨(hb.cell (Yi _ _ h.1)).trans h.1,(hb.cell (Yi _ _ h.2.1)).trans h.2.1,(hb.cell (Yi _ _ h.2.2)).trans h.2.2⟩
theorem aNu(l:List Dc) (bp bv be:Nat) (E:Option Addr) (ne ec:Nat) (w:World) (hl:∀ d∈l,lN d) (hn:ne<=9223372036854775807) (hb:lH w bp bv be E ne ec):
 sE 140 #[.pointer (some ⟨bv,0,none⟩)] (fun d=>!(dZ ne bH d && gB d.on)) l w:=
 fun d hd W hW=>aR5 d bv be E ne ec W (hl d hd) hn (hb.below hW).1 (hb.below hW).2.1
theorem aQk(l:List Dc) (bp bv be:Nat) (E:Option Addr) (ne ec:Nat) (w:World) (hl:∀ d∈l,lN d) (hn:ne<=9223372036854775807) (hb:lH w bp bv be E ne ec):
 sE 136 #[.pointer (some ⟨be,0,none⟩)] (fun d=>!dZ ne bH d) l w:=
 fun d hd W hW=>aFx d be E ne ec W (hl d hd) hn (hb.below hW).1
theorem aSh(l:List Qn) (w:World) (hl:∀ q∈l,sT q):uZ 143 #[] (fun q=>!gK bB q) l w:=
 fun q hq B c A ca D cb W _ hr=>aK1 q B c A ca D cb W hr.1 hr.2 (hl q hq)
theorem aSi(x:Nd) (A1:Option Addr) (c1:Nat) (A2:Option Addr) (c2:Nat) (A3:Option Addr) (c3:Nat) (A4:Option Addr) (c4:Nat) (bp bv be:Nat) (E:Option Addr) (ne ec:Nat) (w:World)
 (h:cJ w x A1 A2 A3 A4) (ho:zN x) (hn:ne<=9223372036854775807) (Aq:lH w bp bv be E ne ec):
 Calls Tryz.prog 141 #[.agg (bL x A1 c1 A2 c2 A3 c3 A4 c4),.pointer (some ⟨bp,0,none⟩),.pointer (some ⟨bv,0,none⟩)] w fun e w'=>e=.returned (.bool (!gH ne bH bB x))/\Below w.heap.size w w':=by
 have HF:=Hd fun w1 hw=>iB w x A1 c1 A2 c2 A3 c3 A4 c4 w1 hw h;have HE:=Hd (aNt ne x);have Aw:=Hd fun w1=>iG x.nm w1 (by have:=ho.1;unfold maxLen at this;omega);have HP:=Hd fun(l:List Dc) w1 (hl:∀ d∈l,lN d) (hb:lH w1 bp bv be E ne ec)=>aNu l bp bv be E ne ec w1 hl hn hb;have HV:=Hd fun(l:List Dc) w1 (hl:∀ d∈l,lN d) (hb:lH w1 bp bv be E ne ec)=>aQk l bp bv be E ne ec w1 hl hn hb;have An:=Hd fun w1 (a:cH w1 A1 x.ins.length x.ins) b=>yE 140 #[.pointer (some ⟨bv,0,none⟩)] (fun _ _=>rfl) _ A1 x.ins.length c1 x.ins w1 a (HP.o x.ins w1 (fun d hd=>ho.2.1 d (by simp [Nd.all,hd])) b);have Ar:=Hd fun w1 (a:cH w1 A2 x.outs.length x.outs) b=>yE 140 #[.pointer (some ⟨bv,0,none⟩)] (fun _ _=>rfl) _ A2 x.outs.length c2 x.outs w1 a (HP.o x.outs w1 (fun d hd=>ho.2.1 d (by simp [Nd.all,hd])) b);have Ap:=Hd fun w1 (a:cH w1 A3 x.vars.length x.vars) b=>yE 136 #[.pointer (some ⟨be,0,none⟩)] (fun _ _=>rfl) _ A3 x.vars.length c3 x.vars w1 a (HV.o x.vars w1 (fun d hd=>ho.2.1 d (by simp [Nd.all,hd])) b);have Ax:=Hd fun w1 (a:gR w1 A4 x.eqs.length x.eqs)=>aP2 143 #[] (fun _ _=>rfl) _ A4 x.eqs.length c4 x.eqs w1 a (aSh x.eqs w1 ho.2.2);have Ao:=Hd Aq;clear HP HV ho Aq h;unfold bL;generalize (!gH ne bH bB x)=Ba at *;generalize (x.ins.any fun d=>!(dZ ne bH d && gB d.on))=s1 at *;generalize (x.outs.any fun d=>!(dZ ne bH d && gB d.on))=s2 at *;generalize (x.vars.any fun d=>!dZ ne bH d)=s3 at *;generalize (x.eqs.any fun q=>!gK bB q)=s4 at *;generalize aX x.nm.data.toList=lb at *
 have Au:=Hd (show decide (x.outs.length=0)=((x.outs.length:Int)==0) by
  rcases Nat.eq_zero_or_pos x.outs.length with h | h
  . simp [h]
  . rw [Zy (by omega)];symm;rw [Xa];omega)
 rw [Au.o] at HE;clear Au
 go_enter Tryz.func141,Tryz.ntmps141
 go_upto_region 1 with(fail)
 generalize As:w.alloc _=w1;obtain⟨Ai,hg,Av,Af⟩:=HF.o w1 As;have Ab:=Hd Ai;have HX:=Hd Af;have Ag:=Hd Av;have Aa:=Hd (Ao.o.below Ai);simp only [bL] at HX;clear As Af Ai HF Av Ao;have p0:=HX.o w1 (Yg _ _) 0;simp only [Ya,Yb,Yc] at p0
 cases lb with
 | false=>
  go_wp2_with fail
  refine(Aw.o w1).mono ?_;rintro e w2 ⟨rfl,hb⟩;have Aj:=Hd (Ab.o.trans (hb.mono Ab.o.size));clear hb p0
  go_wp2_with fail
  go_ret
  exact⟨aF (by rw [HE.o];rfl),Aj.o⟩
 | true=>
  go_wp2_with fail
  refine(Aw.o w1).mono ?_;rintro e w2 ⟨rfl,hb⟩;have Ae:=Hd hb;have Aj:=Hd (Ab.o.trans (hb.mono Ab.o.size));have p1:=HX.o w2 hb 1;have p2:=HX.o w2 hb 2;have pb:=(Aa.o.below hb).2.2;simp only [Ya,Yb,Yc] at p1 p2;clear hb p0
  cases e0:((x.outs.length:Int)==0) with
  | true=>
   rw [e0] at HE
   go_wp2_with fail
   go_ret
   exact⟨aF (by rw [HE.o];rfl),Aj.o⟩
  | false=>
   rw [e0] at HE
   cases s1 with
   | true=>
    go_wp2_with fail
    refine(An.o w2 (cH.below Ag.o.1 Ae.o) (Aa.o.below Ae.o)).mono ?_;rintro e w3 ⟨rfl,hb⟩;have Ad:=Hd (Ae.o.trans (hb.mono Ae.o.size));have Am:=Hd (Ab.o.trans (Ad.o.mono Ab.o.size));clear hb p1 pb p2
    go_wp2_with fail
    go_ret
    exact⟨aF (by rw [HE.o];rfl),Am.o⟩
   | false=>
    go_wp2_with fail
    refine(An.o w2 (cH.below Ag.o.1 Ae.o) (Aa.o.below Ae.o)).mono ?_;rintro e w3 ⟨rfl,hb⟩;have Ad:=Hd (Ae.o.trans (hb.mono Ae.o.size));have Am:=Hd (Ab.o.trans (Ad.o.mono Ab.o.size));clear hb p1 pb p2;have p2:=HX.o w3 Ad.o 2;simp only [Ya,Yb,Yc] at p2;have pb:=(Aa.o.below Ad.o).2.2
    cases s2 with
    | true=>
     go_wp2_with fail
     refine(Ar.o w3 (cH.below Ag.o.2.1 Ad.o) (Aa.o.below Ad.o)).mono ?_;rintro e w4 ⟨rfl,hb⟩;have Ac:=Hd (Ad.o.trans (hb.mono Ad.o.size));have Al:=Hd (Ab.o.trans (Ac.o.mono Ab.o.size));clear hb p2 pb
     go_wp2_with fail
     go_ret
     exact⟨aF (by rw [HE.o];rfl),Al.o⟩
    | false=>
     go_wp2_with fail
     refine(Ar.o w3 (cH.below Ag.o.2.1 Ad.o) (Aa.o.below Ad.o)).mono ?_;rintro e w4 ⟨rfl,hb⟩;have Ac:=Hd (Ad.o.trans (hb.mono Ad.o.size));have Al:=Hd (Ab.o.trans (Ac.o.mono Ab.o.size));clear hb p2 pb;have p3:=HX.o w4 Ac.o 3;simp only [Ya,Yb,Yc] at p3;have pb:=(Aa.o.below Ac.o).2.1
     cases s3 with
     | true=>
      go_wp2_with fail
      refine(Ap.o w4 (cH.below Ag.o.2.2.1 Ac.o) (Aa.o.below Ac.o)).mono ?_;rintro e w5 ⟨rfl,hb⟩;have Ah:=Hd (Ac.o.trans (hb.mono Ac.o.size));have Ak:=Hd (Ab.o.trans (Ah.o.mono Ab.o.size));clear hb p3 pb
      go_wp2_with fail
      go_ret
      exact⟨aF (by rw [HE.o];rfl),Ak.o⟩
     | false=>
      go_wp2_with fail
      refine(Ap.o w4 (cH.below Ag.o.2.2.1 Ac.o) (Aa.o.below Ac.o)).mono ?_;rintro e w5 ⟨rfl,hb⟩;have Ah:=Hd (Ac.o.trans (hb.mono Ac.o.size));have Ak:=Hd (Ab.o.trans (Ah.o.mono Ab.o.size));clear hb p3 pb;have p4:=HX.o w5 Ah.o 4;simp only [Ya,Yb,Yc] at p4
      go_wp2_with fail
      refine(Ax.o w5 (gR.below Ag.o.2.2.2 Ah.o)).mono ?_;rintro e w6 ⟨rfl,hb⟩;have Ay:=Hd (Ah.o.trans (hb.mono Ah.o.size));have Az:=Hd (Ab.o.trans (Ay.o.mono Ab.o.size));clear hb p4
      go_wp2_with fail
      go_ret
      exact⟨aF (by rw [HE.o];rfl),Az.o⟩
theorem aHd(E:Option Addr) (ne ec:Nat) (w:World):
 Calls Tryz.prog 93 #[.slice E ne ec] w fun e w'=>∃ bp bv be,e=.returned (.func (.func 141) #[] #[.pointer (some ⟨bp,0,none⟩),.pointer (some ⟨bv,0,none⟩)])/\lH w' bp bv be E ne ec/\Below w.heap.size w w':=by
 have Ab:∀ fn first Aa w,(Instr.makeFunc fn first Aa).run Tryz.prog w=.ok (.func fn first Aa) w:=fun _ _ _ _=>rfl
 go_enter Tryz.func93,Tryz.ntmps93
 go_wp2_with fail
 go_ret
 obtain⟨h1,h2,h3,h4⟩:=aHc w _ _ _ _ _ _ _ rfl;exact⟨w.heap.size+1+1,w.heap.size+1,w.heap.size,rfl,⟨h1,h2,h3⟩,h4⟩
end
section
open Go.RowKit Go.Sort
def yF(g:Nat) (x0:Value) (f:Dc->Bool) (l:List Dc) (w:World):Prop:=
 ∀ x,x∈l->∀ (W:World),Below w.heap.size w W ->
  Calls Tryz.prog g #[x0,.agg (bC x)] W fun e w'=>e=.returned (.bool (f x))/\Below W.heap.size W w'
theorem aIt(g:Nat) (x0:Value) (eg:∀ args w,(callFunc g args).run Tryz.prog w=.ok (.enter g args) w) (f:Dc->Bool) (A:Option Addr) (n c:Nat) (l:List Dc) (w:World) (h:cH w A n l) (hf:yF g x0 f l w):
 Calls Tryz.prog 57 #[.slice A n c,.func (.func g) #[x0] #[]] w fun e w'=>e=.returned (.int .i64 (bE f l 0))/\Below w.heap.size w w':=by
 have HR:=Hd h;have HP:=Hd hf;have Ah:=aQ.len h;have Ao:=aQ.max h;have Ag:=Hd (fun(k:Nat) hk hn hy=>show bE f l 0=(k:Int) by have:=nR (l:=l) (f:=f) (k:=k) (i:=0) hk hn hy;rwa [Nat.zero_add] at this);have Ak:=Hd (fun hn=>show bE f l 0=-1 from nP (l:=l) (f:=f) (i:=0) hn);generalize bE f l 0=An at *;have Ae:=Hd Ah;clear h hf Ah;unfold yF at HP
 go_enter Tryz.func57,Tryz.ntmps57
 go_wp2_with fail
 go_loopw [5,8] (fun _ i wr=>∃ k:Nat,k<=n/\i=.int .i64 k/\(∀ j,j<k->f (l[j]?.getD default)=false)/\Below w.heap.size w wr) (fun _ i _=>n-(intOf i).toNat)
 case atStart=>exact⟨0,Yq _,rfl,fun j hj=>absurd hj (by omega),Yg _ _⟩
 case round=>
  obtain⟨k,hk,rfl,Ai,Ad⟩:=hrel;have HT:=Hd Ai;have Ab:=Hd Ad;clear Ai
  by_cases Af:k<n
  . obtain⟨b,Am,rfl,hb,d0,d1,d2,d3,d4,d5⟩:=qX (HR.o.below Ad) Af;have Aa:=Hd (HP.o _ (kY (by rw [Ae.o];exact Af))  wr Ad);have HH:=Hd (Ag.o k (by rw [Ae.o];exact Af) HT.o);have HS:=Hd fun(hf:f (l[k]?.getD default)=false)=>dK (P:=fun j=>f (l[j]?.getD default)=false) HT.o hf;clear Ad;unfold bC at Aa;generalize l[k]?.getD default=x at d0 d1 d2 d3 d4 d5 Aa HH HS
    cases hq:f x with
    | true=>
     have HO:=Hd (HH.o hq);rw [hq] at Aa
     go_wp2_with (go_at_fn g;refine Aa.o.mono ?_;rintro e w3 ⟨rfl,Ac⟩)
     go_ret
     exact⟨cF HO.o.symm,Ab.o.trans (Ac.mono Ab.o.size)⟩
    | false=>
     have HO:=Hd (HS.o hq);rw [hq] at Aa
     go_wp2_with (go_at_fn g;refine Aa.o.mono ?_;rintro e w3 ⟨rfl,Ac⟩;have Aj:=Hd (Ab.o.trans (Ac.mono Ab.o.size));clear Ac)
     go_roundw
     case rel=>exact⟨k+1,by omega,by go_num,HO.o,Aj.o⟩
     case measure=>simp [intOf];omega
  . have Al:k=n:=by omega
    have HN:=Hd (Ak.o fun j hj=>HT.o j (by rw [Ae.o] at hj;omega))
    go_wp2_with fail
    go_ret
    exact⟨cF HN.o.symm,Ab.o⟩
theorem tZ(g:Nat) (x0:Value) (eg:∀ args w,(callFunc g args).run Tryz.prog w=.ok (.enter g args) w) (f:Dc->Bool) (A:Option Addr) (n c:Nat) (l:List Dc) (w:World) (h:cH w A n l) (hf:yF g x0 f l w):
 Calls Tryz.prog 23 #[.slice A n c,.func (.func g) #[x0] #[]] w fun e w'=>e=.returned (.bool (l.any f))/\Below w.heap.size w w':=by
 have HI:=Hd (aIt g x0 eg f A n c l w h hf);have HA:=Hd (qA f l);clear h hf
 go_enter Tryz.func23,Tryz.ntmps23
 go_wp2_with fail
 refine HI.o.mono ?_;rintro e w2 ⟨rfl,Aa⟩;have Ab:=Hd Aa;clear Aa
 cases ha:l.any f with
 | true=>
  rw [ha] at HA;have d0:decide ((0:Int)<=bE f l 0)=true:=HA.o
  go_wp2_with fail
  go_ret
  exact⟨aF ha.symm,Ab.o⟩
 | false=>
  rw [ha] at HA;have d0:decide ((0:Int)<=bE f l 0)=false:=HA.o
  go_wp2_with fail
  go_ret
  exact⟨aF ha.symm,Ab.o⟩
def yY(g:Nat) (x0:Value) (f:ByteArray->Bool) (l:List ByteArray) (w:World):Prop:=
 ∀ x,x∈l->∀ (W:World),Below w.heap.size w W ->
  Calls Tryz.prog g #[x0,.string x] W fun e w'=>e=.returned (.bool (f x))/\Below W.heap.size W w'
theorem aK3(g:Nat) (x0:Value) (eg:∀ args w,(callFunc g args).run Tryz.prog w=.ok (.enter g args) w) (f:ByteArray->Bool) (A:Option Addr) (n c:Nat) (l:List ByteArray) (w:World) (h:aN w A n l) (hf:yY g x0 f l w):
 Calls Tryz.prog 180 #[.slice A n c,.func (.func g) #[x0] #[]] w fun e w'=>e=.returned (.int .i64 (bE f l 0))/\Below w.heap.size w w':=by
 have HR:=Hd h;have HP:=Hd hf;have Ah:=aN.len h;have Ao:=aN.max h;have Ag:=Hd (fun(k:Nat) hk hn hy=>show bE f l 0=(k:Int) by have:=wF (l:=l) (f:=f) (k:=k) (i:=0) hk hn hy;rwa [Nat.zero_add] at this);have Ak:=Hd (fun hn=>show bE f l 0=-1 from vQ (l:=l) (f:=f) (i:=0) hn);generalize bE f l 0=An at *;have Af:=Hd Ah;clear h hf Ah;unfold yY at HP
 go_enter Tryz.func180,Tryz.ntmps180
 go_wp2_with fail
 go_loopw [5,8] (fun _ i wr=>∃ k:Nat,k<=n/\i=.int .i64 k/\(∀ j,j<k->f (l[j]?.getD ByteArray.empty)=false)/\Below w.heap.size w wr) (fun _ i _=>n-(intOf i).toNat)
 case atStart=>exact⟨0,Yq _,rfl,fun j hj=>absurd hj (by omega),Yg _ _⟩
 case round=>
  obtain⟨k,hk,rfl,Ai,Ae⟩:=hrel;have HT:=Hd Ai;have Ab:=Hd Ae;clear Ai
  by_cases Ac:k<n
  . obtain⟨b,Am,rfl,hb,hc⟩:=(HR.o.below Ae).at_ Ac;have d0:=hc k Ac;have Aa:=Hd (HP.o _ (xE (by rw [Af.o];exact Ac))  wr Ae);have HH:=Hd (Ag.o k (by rw [Af.o];exact Ac) HT.o);have HS:=Hd fun(hf:f (l[k]?.getD ByteArray.empty)=false)=>dK (P:=fun j=>f (l[j]?.getD ByteArray.empty)=false) HT.o hf;clear Ae hc
    skip
    generalize l[k]?.getD ByteArray.empty=x at d0 Aa HH HS
    cases hq:f x with
    | true=>
     have HO:=Hd (HH.o hq);rw [hq] at Aa
     go_wp2_with (go_at_fn g;refine Aa.o.mono ?_;rintro e w3 ⟨rfl,Ad⟩)
     go_ret
     exact⟨cF HO.o.symm,Ab.o.trans (Ad.mono Ab.o.size)⟩
    | false=>
     have HO:=Hd (HS.o hq);rw [hq] at Aa
     go_wp2_with (go_at_fn g;refine Aa.o.mono ?_;rintro e w3 ⟨rfl,Ad⟩;have Aj:=Hd (Ab.o.trans (Ad.mono Ab.o.size));clear Ad)
     go_roundw
     case rel=>exact⟨k+1,by omega,by go_num,HO.o,Aj.o⟩
     case measure=>simp [intOf];omega
  . have Al:k=n:=by omega
    have HN:=Hd (Ak.o fun j hj=>HT.o j (by rw [Af.o] at hj;omega))
    go_wp2_with fail
    go_ret
    exact⟨cF HN.o.symm,Ab.o⟩
theorem aQl(g:Nat) (x0:Value) (eg:∀ args w,(callFunc g args).run Tryz.prog w=.ok (.enter g args) w) (f:ByteArray->Bool) (A:Option Addr) (n c:Nat) (l:List ByteArray) (w:World) (h:aN w A n l) (hf:yY g x0 f l w):
 Calls Tryz.prog 172 #[.slice A n c,.func (.func g) #[x0] #[]] w fun e w'=>e=.returned (.bool (l.any f))/\Below w.heap.size w w':=by
 have HI:=Hd (aK3 g x0 eg f A n c l w h hf);have HA:=Hd (qA f l);clear h hf
 go_enter Tryz.func172,Tryz.ntmps172
 go_wp2_with fail
 refine HI.o.mono ?_;rintro e w2 ⟨rfl,Aa⟩;have Ab:=Hd Aa;clear Aa
 cases ha:l.any f with
 | true=>
  rw [ha] at HA;have d0:decide ((0:Int)<=bE f l 0)=true:=HA.o
  go_wp2_with fail
  go_ret
  exact⟨aF ha.symm,Ab.o⟩
 | false=>
  rw [ha] at HA;have d0:decide ((0:Int)<=bE f l 0)=false:=HA.o
  go_wp2_with fail
  go_ret
  exact⟨aF ha.symm,Ab.o⟩
end
section
open Go.RowKit Go.Sort
theorem aQm(x:Nd) (A1:Option Addr) (c1:Nat) (A2:Option Addr) (c2:Nat) (A3:Option Addr) (c3:Nat) (A4:Option Addr) (c4:Nat) (b:Nat) (s:ByteArray) (w:World) (h:cJ w x A1 A2 A3 A4) (hs:w.cell? ⟨b,0,none⟩=some (.string s)):
 Calls Tryz.prog 173 #[.agg (bL x A1 c1 A2 c2 A3 c3 A4 c4),.pointer (some ⟨b,0,none⟩)] w fun e w'=>e=.returned (.bool (x.nm.toList==s.toList))/\Below w.heap.size w w':=by
 have HF:=Hd fun w1 hw=>iB w x A1 c1 A2 c2 A3 c3 A4 c4 w1 hw h;have HS:=Hd hs;clear hs h;unfold bL;generalize hq:(x.nm.toList==s.toList)=Af
 go_enter Tryz.func173,Tryz.ntmps173
 go_upto_region 1 with(fail)
 generalize Ac:w.alloc _=w1;obtain⟨Ab,hg,Ad,Aa⟩:=HF.o w1 Ac;have Ae:=Hd Ab;have q0:=Aa w1 (Yg _ _) 0;simp only [bL,List.getElem?_toArray,Yz,Zb] at q0;have q5:=(Ab.cell (p:=⟨b,0,none⟩) (Yi _ _ HS.o)).trans HS.o;clear Ac Aa Ab HF Ad
 go_wp2_with fail
 go_ret
 exact⟨rfl,Ae.o⟩
theorem aFi(p:Pg) (E:Option Addr) (ec:Nat) (N:Option Addr) (nc:Nat) (s:ByteArray) (w:World) (h:cW w p E N):
 Calls Tryz.prog 153 #[.agg (aP p E ec N nc),.string s] w fun e w'=>e=.returned (.int .i64 (cQ p s))/\Below w.heap.size w w':=by
 have HF:=Hd fun w1 hw=>kH w p E ec N nc w1 hw h;have Ar:∀ fn first Ak w,(Instr.makeFunc fn first Ak).run Tryz.prog w=.ok (.func fn first Ak) w:=fun _ _ _ _=>rfl
 unfold aP;generalize Ab:cQ p s=Aq
 go_enter Tryz.func153,Tryz.ntmps153
 go_upto_region 1 with(fail)
 generalize Ai:w.alloc _=w1;obtain⟨Ah,hg,Ae,Aa⟩:=HF.o w1 Ai;have Am:=Hd Ah;have An:=Hd Aa;have Ao:=Hd Ae
 have Af:=Hd fun w2 (hw:w1.alloc (.cells #[.string s] 9)=w2)=>(show w2.cell? ⟨w1.heap.size,0,none⟩=some (.string s)/\Below w1.heap.size w1 w2 by
  subst hw;exact⟨by rw [Zo];rfl,(Yg _ _).alloc (Yh _) _⟩)
 clear Ai Aa Ah HF h Ae;generalize Ag:w1.alloc _=w2;obtain⟨Ad,Ac⟩:=Af.o w2 Ag;have q1:=An.o w2 Ac 1;simp only [aP,List.getElem?_toArray,Yz,Zb] at q1;have Al:=Hd (Am.o.trans (Ac.mono Am.o.size))
 have HC:=Hd (aCo 173 #[.pointer (some ⟨w1.heap.size,0,none⟩)] (fun _ _=>rfl) (fun n=>n.nm.toList==s.toList) N p.ns.length nc p.ns w2 (Ao.o.below Ac).2
  fun x _ A1 c1 A2 c2 A3 c3 A4 c4 W hW hr=>aQm x A1 c1 A2 c2 A3 c3 A4 c4 w1.heap.size s W hr ((hW.cell (Yi _ _ Ad)).trans Ad))
 have HO:=Hd (show bE (fun n:Nd=>n.nm.toList==s.toList) p.ns 0=Aq by rw [<- Ab];unfold cQ;congr 1;funext n;rw [Zc,Zc]);rw [HO.o] at HC;clear Ag Ad Ac Af HO Ab;rw [hg] at HC
 go_wp2_with fail
 refine HC.o.mono ?_;rintro e w3 ⟨rfl,Aj⟩;have Ap:=Hd (Al.o.trans (Aj.mono Al.o.size));clear Aj
 go_wp2_with fail
 go_ret
 exact⟨rfl,Ap.o⟩
end
end Go.Proofs.YtegjgiofmpolnaaGreat
