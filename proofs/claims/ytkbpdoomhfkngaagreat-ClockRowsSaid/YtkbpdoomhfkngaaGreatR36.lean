/- Parts of the proof: TrT, TrU. Conditions: each theorem's own. -/
import Derived.Test.YtkbpdoomhfkngaaGreatR33
import Derived.Test.YtkbpdoomhfkngaaGreatR34
import Derived.Test.YtkbpdoomhfkngaaGreatR35
namespace Go.Proofs.YtkbpdoomhfkngaaGreat
set_option linter.unusedVariables false
set_option linter.unusedSimpArgs false
set_option maxRecDepth 100000
set_option maxHeartbeats 40000000
section
open Go.RowKit Go.Sort Go.BigFrame
theorem trPlain(p:Pg) (x:Nd) (r:Rm) (y:Ex) (A:Option Addr) (ca:Nat) (B:Option Addr) (cb:Nat) (S:Option Addr) (m sc:Nat) (ts:List T3) (w:World) (h:rdRm w p x r) (hS:RdY w S m ts) (hk:y.k=5∨y.k=6∨y.k=7∨y.k=14∨y.k=15∨y.k=16) (hm:plainN y.k≤m):
 Calls Tryz.prog 115 #[.agg (rvA p x r),.agg (exA y A ca B cb),.slice S m sc] w (TyZ w (plainT y ts)):=by
 rcases hk with hk | hk | hk | hk | hk | hk
 · exact trOver5 p x r y A ca B cb S m sc ts w h hS hk (by rw [hk] at hm;simp [plainN] at hm;omega) _ (by unfold plainT;rw [hk];rfl)
 · exact trOver6 p x r y A ca B cb S m sc ts w h hS hk (by rw [hk] at hm;simp [plainN] at hm;omega) _ (by unfold plainT;rw [hk];rfl)
 · have hm3:3≤m:=by rw [hk] at hm;simp [plainN] at hm;omega
   have e:plainT y ts=(if(truthT (atT ts 0) && decide (atT ts 1=atT ts 2))=true then some (atT ts 1) else none):=by unfold plainT;rw [hk];rfl
   cases ht:truthT (atT ts 0) with
   | false=>exact trOver7f p x r y A ca B cb S m sc ts w h hS hk hm3 ht _ (by rw [e,ht];rfl)
   | true=>
    refine trOver7t p x r y A ca B cb S m sc ts w h hS hk hm3 ht _ ?_;rw [e,ht,Bool.true_and]
    by_cases he:atT ts 1=atT ts 2
    · rw [if_pos he,if_pos (decide_eq_true he)]
    · rw [if_neg he,if_neg (by simpa using he)]
 · exact trOver14 p x r y A ca B cb S m sc ts w h hS hk (by rw [hk] at hm;simp [plainN] at hm;omega) _ (by unfold plainT;rw [hk];rfl)
 · exact trOver15 p x r y A ca B cb S m sc ts w h hS hk (by rw [hk] at hm;simp [plainN] at hm;omega) _ (by unfold plainT;rw [hk];rfl)
 · have hm3:3≤m:=by rw [hk] at hm;simp [plainN] at hm;omega
   have e:plainT y ts=(if(decide (0<(atT ts 0).2.2) && (wholeT (atT ts 1) && decide (atT ts 2=oneT (atT ts 0))))=true then some (atT ts 0) else none):=by unfold plainT;rw [hk];rfl
   rw [← Bool.and_assoc] at e;rw [show(decide (0<(atT ts 0).2.2) && wholeT (atT ts 1))=placedT ts from rfl] at e
   cases ht:placedT ts with
   | false=>exact trOver16f p x r y A ca B cb S m sc ts w h hS hk hm3 _ (by rw [e,ht];rfl) ht
   | true=>
    refine trOver16t p x r y A ca B cb S m sc ts w h hS hk hm3 ht _ ?_;rw [e,ht,Bool.true_and]
    by_cases he:atT ts 2=oneT (atT ts 0)
    · rw [if_pos he,if_pos (decide_eq_true he)]
    · rw [if_neg he,if_neg (by simpa using he)]
theorem part_arm11{x:Ex}(h:partX x=true) (hk:x.k=11):∃ a,x.arms=[a]:=by
 have h2:=part_armsB h;unfold armsX at h2;rw [hk] at h2;simp only [Bool.and_eq_true] at h2;exact List.length_eq_one_iff.1 (by simpa using h2.2)
theorem part_arm12{x:Ex}(h:partX x=true) (hk:x.k=12):0<x.arms.length:=by
 have h2:=part_armsB h;unfold armsX at h2;rw [hk] at h2
 simp at h2
 have:=h2.2;omega
theorem trFlow(p:Pg) (i:Nat) (r:Rm) (y:Ex) (A:Option Addr) (ca:Nat) (B:Option Addr) (cb:Nat) (S:Option Addr) (m sc:Nat) (ts:List T3) (w:World) (h:rdRm w p (ndAt p i) r) (hr:rdX w y A B) (hS:RdY w S m ts) (hl:SlY S m sc) (hk1:9≤y.k) (hk2:y.k≤13) (hm:flowN y.k≤m) (hp:partX y=true) (hnm:y.k=13→y.n≤m) (he:enumsN p.es=0) (hrt:∀ s d,declO (ndAt p i) s=some d→rightB p.es.length d.k d.e d.l=true) (hfew:∀ j,j<p.ns.length→(ndAt p j).ins.length≤1000∧(ndAt p j).outs.length≤1000):
 Calls Tryz.prog 115 #[.agg (rvA p (ndAt p i) r),.agg (exA y A ca B cb),.slice S m sc] w (TyZ w (flowT p i y ts)):=by
 rcases(show y.k=9∨y.k=10∨y.k=11∨y.k=12∨y.k=13 by omega) with hk | hk | hk | hk | hk
 · exact trOver9 p (ndAt p i) r y A ca B cb S m sc ts w h hS hk (by rw [hk] at hm;simp [flowN] at hm;omega) _ (by unfold flowT;rw [hk];rfl)
 · exact trOver10 p (ndAt p i) r y A ca B cb S m sc ts w h hS hk (by rw [hk] at hm;simp [flowN] at hm;omega) _ (by unfold flowT;rw [hk];rfl)
 · refine trOver11 p (ndAt p i) r y A ca B cb S m sc ts w h hS hr hk (by rw [hk] at hm;simp [flowN] at hm;omega) _ ?_;obtain⟨a,ha⟩:=part_arm11 hp hk;have e:flowT p i y ts=match declO (ndAt p i) y.s with | none=>none | some d=>match armR p.es (y.arms[0]?.getD ByteArray.empty) with | none=>none | some r=>if((r.1,r.2.1,0):T3)=tyD d then some (atT ts 0) else none:=by unfold flowT;rw [hk];rfl
   rw [e,ha];unfold takesB;rw [List.all_cons,List.all_nil,Bool.and_true];unfold takeB hasB;simp only [List.getElem?_cons_zero,Option.getD_some]
   cases declO (ndAt p i) y.s with
   | none=>cases armR p.es a <;> rfl
   | some d=>
    cases armR p.es a with
    | none=>rfl
    | some q=>
     simp only
     by_cases hq:((q.1,q.2.1,0):T3)=tyD d
     · rw [if_pos hq,if_pos (decide_eq_true hq.symm)]
     · rw [if_neg hq,if_neg (by simpa using fun e=>hq e.symm)]
 · refine trOver12 p (ndAt p i) r y A ca B cb S m sc ts w h hS hr hk (by rw [hk] at hm;simp [flowN] at hm;omega) (part_arm12 hp hk) (hrt y.s) _ ?_;have e:flowT p i y ts=match declO (ndAt p i) y.s with | none=>none | some d=>if(allT ts && armsT p.es (tyD d) y.arms)=true then some (atT ts 0) else none:=by unfold flowT;rw [hk];rfl
   rw [e,merges_eq he (part_arm12 hp hk) (hrt y.s)]
   cases declO (ndAt p i) y.s with
   | none=>simp
   | some d=>rfl
 · exact trOver13 p (ndAt p i) r y A ca B cb S m sc ts w h hS hk hl (part_n13 hp hk) (hnm hk) hfew _ (by unfold flowT;rw [hk];rfl)
theorem subs_le{x:Ex}(hn:x.k=13→x.n=0∨x.n=1):(subsX x).2≤8+(x.arms.length:Int):=by
 unfold subsX
 repeat' split
 all_goals first | (dsimp only;omega) | (rename_i h;have:=hn (by simpa using h);dsimp only;omega)
theorem trOfX(p:Pg) (i:Nat) (r:Rm) (he:enumsN p.es=0) (hrt:∀ s d,declO (ndAt p i) s=some d→rightB p.es.length d.k d.e d.l=true) (hfew:∀ j,j<p.ns.length→(ndAt p j).ins.length≤1000∧(ndAt p j).outs.length≤1000):
 ∀ (y:Ex) (A:Option Addr) (ca:Nat) (B:Option Addr) (cb:Nat) (w:World),rdRm w p (ndAt p i) r→rdX w y A B→GoodX y →
  Calls Tryz.prog 76 #[.agg (rvA p (ndAt p i) r),.agg (exA y A ca B cb)] w (TyZ w (typX p i y)):=by
 refine size_ind fun y ih A ca B cb w h hr hg=>?_;obtain⟨hsh,hpt⟩:=hg.self;obtain⟨hk1,hk2⟩:=part_kind hpt
 have hlen:y.subs.length≤8+y.arms.length:=by
  have h2:=subs_le (part_n13 hg.self.2);unfold partX at hpt;simp only [Bool.and_eq_true,decide_eq_true_eq] at hpt;have h3:=hpt.1.2;omega
 have hl1000:y.subs.length≤1000:=by have:=hsh.2.2;omega
 have hseq:=trEach p (ndAt p i) r B y.subs.length cb y.subs
 have HEA:∀ w1,Below w.heap.size w w1→Calls Tryz.prog 77 #[.agg (rvA p (ndAt p i) r),.slice B y.subs.length cb] w1 (EachAns w1 (seqO (y.subs.map (typX p i)))):=fun w1 hb=>
  hseq w1 (h.below hb) (hr.below hb).subs hl1000 (y.subs.map (typX p i)) (by simp) _ rfl (fun k hk A' ca' B' cb' w2 hb2 hrd=>by
   rw [typ_get hk];exact ih k hk A' ca' B' cb' w2 (h.below (hb.trans (hb2.mono hb.size))) hrd (hg.sub hk))
 have hlent:∀ ts,seqO (y.subs.map (typX p i))=some ts→ts.length=y.subs.length:=fun ts hts=>by
  have:=seqO_len hts;rwa [List.length_map] at this
 by_cases h1:y.k=1
 · exact trOfC1 p (ndAt p i) r y A ca B cb w h hr h1 hg.1 (fun q hq=>(hg.2 q hq).1) _ (by rw [typX_eq,ofT_const (.inl h1)])
 by_cases h2:y.k=2
 · exact trOfC2 p (ndAt p i) r y A ca B cb w h hr h2 hg.1 (fun q hq=>(hg.2 q hq).1) _ (by rw [typX_eq,ofT_const (.inr (.inl h2))])
 by_cases h4:y.k=4
 · exact trOfC4 p (ndAt p i) r y A ca B cb w h hr h4 hg.1 (fun q hq=>(hg.2 q hq).1) _ (by rw [typX_eq,ofT_const (.inr (.inr h4))])
 by_cases h3:y.k=3
 · exact trOfV p (ndAt p i) r y A ca B cb w h h3 _ (by rw [typX_eq,ofT_var h3])
 by_cases h8:y.k=8
 · have hl2:y.subs.length=2:=by
    have ha:=part_subs hpt
    have hb:(y.subs.length:Int)≤(subsX y).2:=by
     have hq:=hpt;unfold partX at hq;simp only [Bool.and_eq_true,decide_eq_true_eq] at hq;exact hq.1.2
    rw [subs_8 h8] at ha hb
    simp at ha hb
    omega
   refine trOfS p (ndAt p i) r y A ca B cb w h ⟨h1,h2,h3,h4⟩ _ (fun ts=>fbyP (constT p.es (subX y 0)) ts) HEA (fun ts hts S n c w1 hb hry hsl=>?_) _ ?_
   · have hn:=hlent ts hts;have hlr:=hry.len;exact trOver8 p (ndAt p i) r y A ca B cb S n c ts w1 (h.below hb) hry (hr.below hb) h8 (by omega) (by omega) (hg.sub (by omega)).1 (fun q hq=>((hg.sub (by omega)).2 q hq).1) _ rfl
   · rw [fby_eq h8 hl2]
     cases seqO (y.subs.map (typX p i)) <;> rfl
 by_cases h17:y.k=17
 · refine trOfS p (ndAt p i) r y A ca B cb w h ⟨h1,h2,h3,h4⟩ _ (fun ts=>none) HEA (fun ts hts S n c w1 hb hry hsl=>?_) _ ?_
   · exact trOver17 p (ndAt p i) r y A ca B cb S n c ts w1 (h.below hb) hry h17 _ rfl
   · rw [typX_eq,← ofT_old h17]
     cases seqO (y.subs.map (typX p i)) <;> rfl
 by_cases hfl:9≤y.k∧y.k≤13
 · refine trOfS p (ndAt p i) r y A ca B cb w h ⟨h1,h2,h3,h4⟩ _ (fun ts=>flowT p i y ts) HEA (fun ts hts S n c w1 hb hry hsl=>?_) _ ?_
   · have hn:=hlent ts hts;have hlr:=hry.len;refine trFlow p i r y A ca B cb S n c ts w1 (h.below hb) (hr.below hb) hry hsl hfl.1 hfl.2 (by have:=(part_flow hpt hfl.1 hfl.2).1;omega) hpt (fun hk=>?_) he hrt hfew;have ha:=part_subs hpt;unfold subsX at ha
     simp [hk] at ha
     omega
   · rw [typX_eq]
     cases hs:seqO (y.subs.map (typX p i)) with
     | none=>rw [ofT_none (.inr hfl) hs];rfl
     | some ts=>rw [ofT_flow hfl.1 hfl.2 hs];rfl
 · have hpk:y.k=5∨y.k=6∨y.k=7∨y.k=14∨y.k=15∨y.k=16:=by omega
   refine trOfS p (ndAt p i) r y A ca B cb w h ⟨h1,h2,h3,h4⟩ _ (fun ts=>plainT y ts) HEA (fun ts hts S n c w1 hb hry hsl=>?_) _ ?_
   · have hn:=hlent ts hts;have hlr:=hry.len;exact trPlain p (ndAt p i) r y A ca B cb S n c ts w1 (h.below hb) hry hpk (by have:=part_plain hpt hpk;omega)
   · rw [typX_eq]
     cases hs:seqO (y.subs.map (typX p i)) with
     | none=>rw [ofT_none (.inl hpk) hs];rfl
     | some ts=>rw [ofT_plain hpk hs];rfl
end
section
open Go.RowKit Go.Sort Go.BigFrame
def PredQnF(g:Nat) (x0:Value) (f:Qn→Bool) (l:List Qn) (w:World):Prop:=
 ∀ x,x∈l→∀ (B:Option Addr) (c:Nat) (A:Option Addr) (ca:Nat) (D:Option Addr) (cb:Nat) (W:World),Below w.heap.size w W→RdT W B x.ns.length x.ns∧rdX W x.x A D →
  Calls Tryz.prog g #[x0,.agg (qnA x B c A ca D cb)] W fun e w'=>e=.returned (.bool (f x))∧Below W.heap.size W w'
theorem slIndexQnF(g:Nat) (x0:Value) (eg:∀ args w,(callFunc g args).run Tryz.prog w=.ok (.enter g args) w) (f:Qn→Bool) (A:Option Addr) (n c:Nat) (l:List Qn) (w:World) (h:RdQ w A n l) (hf:PredQnF g x0 f l w):
 Calls Tryz.prog 18 #[.slice A n c,.func (.func g) #[x0] #[]] w fun e w'=>e=.returned (.int .i64 (findI f l 0))∧Below w.heap.size w w':=by
 have HR:=Hd h;have HP:=Hd hf;have hln:=RdS.len h;have hmx:=RdS.max h;have HHIT:=Hd (fun(k:Nat) hk hn hy=>show findI f l 0=(k:Int) by have:=findI_hit (l:=l) (f:=f) (k:=k) (i:=0) hk hn hy;rwa [Nat.zero_add] at this);have HNO:=Hd (fun hn=>show findI f l 0=-1 from findI_none (l:=l) (f:=f) (i:=0) hn);generalize findI f l 0=out at *;have HLN:=Hd hln;clear h hf hln;unfold PredQnF at HP
 go_enter Tryz.func18,Tryz.ntmps18
 go_wp2_with fail
 go_loopw [5,8] (fun _ i wr=>∃ k:Nat,k≤n∧i=.int .i64 k∧(∀ j,j<k→f (l[j]?.getD default)=false)∧Below w.heap.size w wr) (fun _ i _=>n-(intOf i).toNat)
 case atStart=>exact⟨0,Nat.zero_le _,rfl,fun j hj=>absurd hj (by omega),Below.refl _ _⟩
 case round=>
  obtain⟨k,hk,rfl,hto,hnx⟩:=hrel;have HT:=Hd hto;have HNX:=Hd hnx;clear hto
  by_cases hlt:k<n
  · obtain⟨b,off,B,cB,A1,ca,D,cb,rfl,hb,hrd,d0,d1,d2,d3,d4,d5,d6⟩:=qn_at (HR.out.below hnx) hlt;have HCL:=Hd (HP.out _ (getD_memA (by rw [HLN.out];exact hlt)) B cB A1 ca D cb wr hnx hrd);have HH:=Hd (HHIT.out k (by rw [HLN.out];exact hlt) HT.out);have HS:=Hd fun(hf:f (l[k]?.getD default)=false)=>to_next (P:=fun j=>f (l[j]?.getD default)=false) HT.out hf;clear hnx  hrd;unfold qnA at HCL;generalize l[k]?.getD default=x at d0 d1 d2 d3 d4 d5 d6 HCL HH HS
    cases hq:f x with
    | true=>
     have HO:=Hd (HH.out hq);rw [hq] at HCL
     go_wp2_with (go_at_fn g;refine HCL.out.mono ?_;rintro e w3 ⟨rfl,hb3⟩)
     go_ret
     exact⟨ret_int HO.out.symm,HNX.out.trans (hb3.mono HNX.out.size)⟩
    | false=>
     have HO:=Hd (HS.out hq);rw [hq] at HCL
     go_wp2_with (go_at_fn g;refine HCL.out.mono ?_;rintro e w3 ⟨rfl,hb3⟩;have HB3:=Hd (HNX.out.trans (hb3.mono HNX.out.size));clear hb3)
     go_roundw
     case rel=>exact⟨k+1,by omega,by go_num,HO.out,HB3.out⟩
     case measure=>simp [intOf];omega
  · have hkn:k=n:=by omega
    have HN:=Hd (HNO.out fun j hj=>HT.out j (by rw [HLN.out] at hj;omega))
    go_wp2_with fail
    go_ret
    exact⟨ret_int HN.out.symm,HNX.out⟩
def PredTY(g:Nat) (x0:Value) (f:ByteArray→T3→Bool) (w:World):Prop:=
 ∀ (s:ByteArray) (a b c:Int) (W:World),Below w.heap.size w W→Calls Tryz.prog g #[x0,.string s,.agg (f3A a b c)] W fun e w'=>e=.returned (.bool (f s (a,b,c)))∧Below W.heap.size W w'
def eqfB(f:ByteArray→T3→Bool) (ss:List ByteArray) (ts:List T3):Bool:=decide (ss.length=ts.length) && (List.range ss.length).all fun k=>f (ss[k]?.getD ByteArray.empty) (atT ts k)
theorem slEqFuncTY(g:Nat) (x0:Value) (eg:∀ args w,(callFunc g args).run Tryz.prog w=.ok (.enter g args) w) (f:ByteArray→T3→Bool) (A B:Option Addr) (n m c d:Nat) (ss:List ByteArray) (ts:List T3) (w:World) (h:RdT w A n ss) (h':RdY w B m ts) (hf:PredTY g x0 f w):
 Calls Tryz.prog 48 #[.slice A n c,.slice B m d,.func (.func g) #[x0] #[]] w fun e w'=>e=.returned (.bool (eqfB f ss ts))∧Below w.heap.size w w':=by
 have hl:=h.len;have hmx:=h.max;have hl':=h'.len;have hmx':=h'.max;have HR:=Hd h;have HR':=Hd h';have HP:=Hd hf;have HLEN:=Hd (show n≠m→eqfB f ss ts=false from fun hne=>by unfold eqfB;rw [decide_eq_false (by omega),Bool.false_and])
 have HNO:=Hd (show ∀ i,i<n→f (ss[i]?.getD ByteArray.empty) (atT ts i)=false→eqfB f ss ts=false from fun i hi hn=>by
  unfold eqfB;rw [range_no (k:=i) (by omega) hn,Bool.and_false])
 have HYS:=Hd (show n=m→(∀ i,i<n→f (ss[i]?.getD ByteArray.empty) (atT ts i)=true)→eqfB f ss ts=true from fun hnm ha=>by
  unfold eqfB;rw [decide_eq_true (by omega),Bool.true_and];exact range_yes fun k hk=>ha k (by omega))
 clear h h' hf;unfold PredTY at HP;generalize eqfB f ss ts=out at *
 go_enter Tryz.func48,Tryz.ntmps48
 by_cases hnm:n=m
 · subst hnm;have hq:((n:Int) != (n:Int))=false:=by simp
   go_wp2_with fail
   go_loopw [17] (fun i wr=>∃ k:Nat,k≤n∧i=.int .i64 k∧(∀ j,j<k→f (ss[j]?.getD ByteArray.empty) (atT ts j)=true)∧Below w.heap.size w wr) (fun i _=>n-(intOf i).toNat)
   case atStart=>exact⟨0,Nat.zero_le _,rfl,fun j hj=>absurd hj (by omega),Below.refl _ _⟩
   case round=>
    obtain⟨k,hk,rfl,hto,hbr⟩:=hrel;have HTO:=Hd hto;have HBR:=Hd hbr;clear hto
    by_cases hlt:k<n
    · obtain⟨b,off,rfl,hb,hc⟩:=(HR.out.below hbr).at_ hlt;have e0:=hc k hlt;obtain⟨b',off',rfl,hb',hc'⟩:=(HR'.out.below hbr).at_ hlt;obtain⟨d0,d1,d2⟩:=hc' k hlt;have HN:=Hd (HNO.out k hlt);have HT2:=Hd fun e=>to_next (P:=fun j=>f (ss[j]?.getD ByteArray.empty) (atT ts j)=true) HTO.out e;clear hc hc' hbr;generalize ss[k]?.getD ByteArray.empty=s at *;generalize atT ts k=y at *;obtain⟨y0,y1,y2⟩:=y
      dsimp only at d0 d1 d2
      go_upto_region 7 with(fail)
      generalize hw4:wr.alloc _=w4;obtain⟨hb4,hF4,hg4⟩:=ty_box hw4;have HB4:=Hd (below_next2 HBR.out hb4);obtain⟨f0,f1,f2,-,-,-⟩:=Sx hF4.cell;simp only [f3A,List.getElem?_toArray,List.getElem?_cons_zero,List.getElem?_cons_succ] at f0 f1 f2;have HCL:=Hd (HP.out s y0 y1 y2 w4 HB4.out);unfold f3A at HCL;clear hw4 hb4 hF4 hg4 e0 d0 d1 d2
      cases hq2:f s (y0,y1,y2) with
      | true=>
       have HO:=Hd (HT2.out hq2);rw [hq2] at HCL
       go_wp2_with (go_at_fn g;refine HCL.out.mono ?_;rintro e w5 ⟨rfl,hb5⟩;have HB5:=Hd (below_next2 HB4.out hb5);clear hb5)
       go_roundw
       case rel=>exact⟨k+1,by omega,by go_num,HO.out,HB5.out⟩
       case measure=>simp [intOf];omega
      | false=>
       have HO:=Hd (HN.out hq2);rw [hq2] at HCL
       go_wp2_with (go_at_fn g;refine HCL.out.mono ?_;rintro e w5 ⟨rfl,hb5⟩;have HB5:=Hd (below_next2 HB4.out hb5);clear hb5)
       go_ret
       exact⟨ret_bool HO.out.symm,HB5.out⟩
    · have HY:=Hd (HYS.out (by first | trivial | rfl) fun j hj=>HTO.out j (by omega))
      go_wp2_with fail
      go_ret
      exact⟨ret_bool HY.out.symm,HBR.out⟩
 · have HO:=Hd (HLEN.out hnm);have hq:((n:Int) != (m:Int))=true:=by rw [bne_iff_ne];omega
   go_wp2_with fail
   go_ret
   exact⟨ret_bool HO.out.symm,Below.refl _ _⟩
theorem trToldOne(p:Pg) (i:Nat) (r:Rm) (y:Ex) (A:Option Addr) (ca:Nat) (B:Option Addr) (cb:Nat) (w:World) (hk:y.k≠13) (o:Option T3)
 (HOF:∀ w1,Below w.heap.size w w1→Calls Tryz.prog 76 #[.agg (rvA p (ndAt p i) r),.agg (exA y A ca B cb)] w1 (TyZ w1 o)):
 Calls Tryz.prog 47 #[.agg (rvA p (ndAt p i) r),.agg (exA y A ca B cb)] w (SubsAns w (o.map fun t=>[t])):=by
 have HF:=Hd fun w0 hw=>any_box2 (w:=w) (w1:=w0) (cs:=rvA p (ndAt p i) r) (ds:=exA y A ca B cb) (T:=69) (U:=52) hw;have HO:=Hd HOF;clear HOF;unfold TyZ f3A at HO;unfold rvA exA at *;have hkb:(y.k != 13)=true:=bne_iff_ne.2 hk;generalize y.k=k at *;have HS:=Hd (show ∀ t,o=some t→t=((o.getD (0,0,0)).1,(o.getD (0,0,0)).2.1,(o.getD (0,0,0)).2.2) from fun t h=>by subst h;rfl);have HSM:=Hd (show(o.map fun t=>[t]).isSome=o.isSome from Option.isSome_map);generalize (o.getD (0,0,0)).1=x0 at *;generalize (o.getD (0,0,0)).2.1=x1 at *;generalize (o.getD (0,0,0)).2.2=x2 at *;generalize hos:o.isSome=os at *;clear hk hos
 go_enter Tryz.func47,Tryz.ntmps47
 go_upto_region 1 with(fail)
 generalize hw0:(w.alloc _).alloc _=w0;obtain⟨hb0,hsz,hce,hce2⟩:=HF.out w0 hw0;have HB0:=Hd hb0;obtain⟨q0,q1,q2,q3,q4,q5⟩:=Sx (hce w0 (Below.refl _ _));have q6:=hce w0 (Below.refl _ _) 6;obtain⟨r0,r1,r2,r3,r4,r5⟩:=Sx (hce2 w0 (Below.refl _ _));simp only [Ya,Yb,Yc] at q0 q1 q2 q3 q4 q5 q6 r0 r1 r2 r3 r4 r5;clear hw0 hb0 hsz hce hce2 HF
 go_wp2_with fail
 refine(HO.out w0 HB0.out).mono ?_;rintro e w1 ⟨rfl,hb1⟩;have HB1:=Hd (below_next2 HB0.out hb1);clear hb1 HO q0 q1 q2 q3 q4 q5 q6 r0 r1 r2 r3 r4 r5
 go_upto_region 3 with(fail)
 generalize hw2:w1.alloc _=w2;obtain⟨hb2,hF2,hg2⟩:=ty_box hw2;have HB2:=Hd (below_next2 HB1.out hb2);obtain⟨f0,f1,f2,-,-,-⟩:=Sx hF2.cell;simp only [f3A,List.getElem?_toArray,List.getElem?_cons_zero,List.getElem?_cons_succ] at f0 f1 f2;clear hw2 hb2 hF2 hg2
 go_wp2_with fail
 try go_ret2
 exact⟨some ⟨w2.heap.size,0,none⟩,1,1,[(x0,x1,x2)],by rw [HSM.out];rfl,fun rr h=>by
  obtain⟨t,ht,rfl⟩:=Option.map_eq_some_iff.1 h;have:=HS.out t ht;subst this;exact⟨rfl,RdY.lit w2 x0 x1 x2 41⟩,HB2.out.alloc HB2.out.size _⟩
theorem trToldCall(p:Pg) (i:Nat) (r:Rm) (y:Ex) (A:Option Addr) (ca:Nat) (B:Option Addr) (cb:Nat) (w:World) (hk:y.k=13) (oo:Option (List T3)) (oc:List T3→Option (List T3))
 (HEA:∀ w1,Below w.heap.size w w1→Calls Tryz.prog 77 #[.agg (rvA p (ndAt p i) r),.slice B y.subs.length cb] w1 (EachAns w1 oo))
 (HCA:∀ ts,oo=some ts→∀ S n c w1,Below w.heap.size w w1→RdY w1 S n ts→SlY S n c→Calls Tryz.prog 78 #[.agg (rvA p (ndAt p i) r),.agg (exA y A ca B cb),.slice S n c] w1 (SubsAns w1 (oc ts))):
 Calls Tryz.prog 47 #[.agg (rvA p (ndAt p i) r),.agg (exA y A ca B cb)] w (SubsAns w (oo.bind oc)):=by
 have HF:=Hd fun w0 hw=>any_box2 (w:=w) (w1:=w0) (cs:=rvA p (ndAt p i) r) (ds:=exA y A ca B cb) (T:=69) (U:=52) hw;have HE:=Hd HEA;have HC:=Hd HCA;clear HEA HCA;unfold EachAns at HE;unfold SubsAns at HC;unfold rvA exA at *;rw [hk] at *
 go_enter Tryz.func47,Tryz.ntmps47
 go_upto_region 1 with(fail)
 generalize hw0:(w.alloc _).alloc _=w0;obtain⟨hb0,hsz,hce,hce2⟩:=HF.out w0 hw0;have HB0:=Hd hb0;have HP:=Hd hce;have HX:=Hd hce2;obtain⟨q0,q1,q2,q3,q4,q5⟩:=Sx (hce w0 (Below.refl _ _));have q6:=hce w0 (Below.refl _ _) 6;obtain⟨r0,r1,r2,r3,r4,r5⟩:=Sx (hce2 w0 (Below.refl _ _));simp only [Ya,Yb,Yc] at q0 q1 q2 q3 q4 q5 q6 r0 r1 r2 r3 r4 r5;clear hw0 hb0 hsz hce hce2 HF
 go_wp2_with fail
 refine(HE.out w0 HB0.out).mono ?_;rintro e w1 ⟨S,n,c,us,rfl,hus,hb1⟩;have HB1:=Hd (below_next2 HB0.out hb1);have HU:=Hd hus;obtain⟨q0,q1,q2,q3,q4,q5⟩:=Sx (HP.out w1 hb1);have q6:=HP.out w1 hb1 6;obtain⟨r0,r1,r2,r3,r4,r5⟩:=Sx (HX.out w1 hb1);simp only [Ya,Yb,Yc] at q0 q1 q2 q3 q4 q5 q6 r0 r1 r2 r3 r4 r5;clear hb1 hus HE HP HX
 cases oo with
 | none=>
  go_wp2_with fail
  try go_ret2
  exact⟨none,0,0,[],rfl,fun rr h=>(by cases h),HB1.out⟩
 | some ts=>
  obtain⟨h1,h2,h3⟩:=HU.out ts rfl;subst h1;have HC1:=Hd (HC.out ts rfl S n c w1 HB1.out h2 h3);clear h2 h3 HU HC
  go_wp2_with fail
  refine HC1.out.mono ?_;rintro e w2 ⟨S2,n2,c2,us2,rfl,hus2,hb2⟩;have HB2:=Hd (below_next2 HB1.out hb2);have HU2:=Hd hus2;clear hb2 hus2 HC1
  go_wp2_with fail
  try go_ret2
  exact⟨S2,n2,c2,us2,rfl,HU2.out,HB2.out⟩
def wrongB(p:Pg) (i:Nat) (q:Qn):Bool:=match wantT p i q.x with | none=>true | some u=>!eqfB (hasB (ndAt p i)) q.ns u
theorem trWrong(p:Pg) (i:Nat) (r:Rm) (q:Qn) (BN:Option Addr) (cN:Nat) (A:Option Addr) (ca:Nat) (B:Option Addr) (cb:Nat) (w:World) (h:rdRm w p (ndAt p i) r) (hn:RdT w BN q.ns.length q.ns) (hx:rdX w q.x A B)
 (HTO:∀ w1,Below w.heap.size w w1→rdX w1 q.x A B→Calls Tryz.prog 47 #[.agg (rvA p (ndAt p i) r),.agg (exA q.x A ca B cb)] w1 (SubsAns w1 (wantT p i q.x))):
 Calls Tryz.prog 29 #[.agg (rvA p (ndAt p i) r),.agg (qnA q BN cN A ca B cb)] w fun e w'=>e=.returned (.bool (wrongB p i q))∧Below w.heap.size w w':=by
 have HF:=Hd fun w0 hw=>any_box2 (w:=w) (w1:=w0) (cs:=rvA p (ndAt p i) r) (ds:=qnA q BN cN A ca B cb) (T:=69) (U:=54) hw;have HT:=Hd fun w1 (hb:Below w.heap.size w w1)=>HTO w1 hb (hx.below hb)
 have HQ:=Hd fun(S:Option Addr) (m d:Nat) (ts:List T3) w1 (hb:Below w.heap.size w w1) (hr:RdY w1 S m ts)=>slEqFuncTY 49 (.agg (rvA p (ndAt p i) r)) (fun _ _=>rfl) (hasB (ndAt p i)) BN S q.ns.length m cN d q.ns ts w1 (hn.below hb) hr
  fun s a b c W hW=>trHas p (ndAt p i) r s a b c W (h.below (hb.trans (hW.mono hb.size)))
 have HWB:=Hd (show wrongB p i q=match wantT p i q.x with | none=>true | some u=>!eqfB (hasB (ndAt p i)) q.ns u from rfl);have hmk:∀ fn first cap w,(Instr.makeFunc fn first cap).run Tryz.prog w=.ok (.func fn first cap) w:=fun _ _ _ _=>rfl
 clear HTO h hn hx;generalize wrongB p i q=out at *;generalize wantT p i q.x=o at *;unfold SubsAns at HT;unfold rvA qnA exA at *
 go_enter Tryz.func29,Tryz.ntmps29
 go_upto_region 1 with(fail)
 generalize hw0:(w.alloc _).alloc _=w0;obtain⟨hb0,hsz,hce,hce2⟩:=HF.out w0 hw0;have HB0:=Hd hb0;have HP:=Hd hce;have HX:=Hd hce2;obtain⟨q0,q1,q2,q3,q4,q5⟩:=Sx (hce w0 (Below.refl _ _));have q6:=hce w0 (Below.refl _ _) 6;obtain⟨r0,r1,r2,r3,r4,r5⟩:=Sx (hce2 w0 (Below.refl _ _));have r6:=hce2 w0 (Below.refl _ _) 6;simp only [Ya,Yb,Yc] at q0 q1 q2 q3 q4 q5 q6 r0 r1 r2 r3 r4 r5 r6;clear hw0 hb0 hsz hce hce2 HF
 go_wp2_with fail
 refine(HT.out w0 HB0.out).mono ?_;rintro e w1 ⟨S,n,c,us,rfl,hus,hb1⟩;have HB1:=Hd (below_next2 HB0.out hb1);have HU:=Hd hus;obtain⟨q0,q1,q2,q3,q4,q5⟩:=Sx (HP.out w1 hb1);have q6:=HP.out w1 hb1 6;have r0:=HX.out w1 hb1 0;simp only [Ya,Yb,Yc] at q0 q1 q2 q3 q4 q5 q6 r0;clear hb1 hus HT HP HX r1 r2 r3 r4 r5 r6
 cases o with
 | none=>
  have HO:=Hd (show out=true from HWB.out)
  go_wp2_with fail
  go_ret
  exact⟨ret_bool HO.out.symm,HB1.out⟩
 | some u=>
  obtain⟨h1,h2⟩:=HU.out u rfl;subst h1;have HO:=Hd (show out=!eqfB (hasB (ndAt p i)) q.ns u from HWB.out);have HQ1:=Hd (HQ.out S n c u w1 HB1.out h2);clear h2 HU HQ HWB;generalize eqfB (hasB (ndAt p i)) q.ns u=eb at *
  go_wp2_with fail
  refine HQ1.out.mono ?_;rintro e w2 ⟨rfl,hb2⟩;have HB2:=Hd (below_next2 HB1.out hb2);clear hb2 HQ1
  go_wp2_with fail
  go_ret
  exact⟨ret_boolS HO.out.symm,HB2.out⟩
end
end Go.Proofs.YtkbpdoomhfkngaaGreat
