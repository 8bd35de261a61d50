/- Parts of the proof: TrT, TrU. Conditions: each theorem's own. -/
import Derived.Test.YtegjgiofmpolnaaGreatO40
import Derived.Test.YtegjgiofmpolnaaGreatO41
import Derived.Test.YtegjgiofmpolnaaGreatO42
namespace Go.Proofs.YtegjgiofmpolnaaGreat
set_option linter.unusedVariables false
set_option linter.unusedSimpArgs false
set_option maxRecDepth 100000
set_option maxHeartbeats 40000000
section
open Go.RowKit Go.Sort Go.BigFrame
theorem trPlain(p:Pg) (x:Nd) (r:Rm) (y:Ex) (A:Option Addr) (ca:Nat) (B:Option Addr) (cb:Nat) (S:Option Addr) (m sc:Nat) (ts:List T3) (w:World) (h:rdRm w p x r) (hS:RdY w S m ts) (hk:y.k=5∨y.k=6∨y.k=7∨y.k=14∨y.k=15∨y.k=16) (hm:plainN y.k≤m):
 Calls Tryz.prog 80 #[.agg (rvA p x r),.agg (exA y A ca B cb),.slice S m sc] w (TyZ w (plainT y ts)):=by
 rcases hk with hk | hk | hk | hk | hk | hk
 · exact trOver5 p x r y A ca B cb S m sc ts w h hS hk (by rw [hk] at hm;simp [plainN] at hm;omega) _ (by unfold plainT;rw [hk];rfl)
 · exact trOver6 p x r y A ca B cb S m sc ts w h hS hk (by rw [hk] at hm;simp [plainN] at hm;omega) _ (by unfold plainT;rw [hk];rfl)
 · have hm3:3≤m:=by rw [hk] at hm;simp [plainN] at hm;omega
   have e:plainT y ts=(if(truthT (atT ts 0) && decide (atT ts 1=atT ts 2))=true then some (atT ts 1) else none):=by unfold plainT;rw [hk];rfl
   cases ht:truthT (atT ts 0) with
   | false=>exact trOver7f p x r y A ca B cb S m sc ts w h hS hk hm3 ht _ (by rw [e,ht];rfl)
   | true=>
    refine trOver7t p x r y A ca B cb S m sc ts w h hS hk hm3 ht _ ?_;rw [e,ht,Bool.true_and]
    by_cases he:atT ts 1=atT ts 2
    · rw [if_pos he,if_pos (decide_eq_true he)]
    · rw [if_neg he,if_neg (by simpa using he)]
 · exact trOver14 p x r y A ca B cb S m sc ts w h hS hk (by rw [hk] at hm;simp [plainN] at hm;omega) _ (by unfold plainT;rw [hk];rfl)
 · exact trOver15 p x r y A ca B cb S m sc ts w h hS hk (by rw [hk] at hm;simp [plainN] at hm;omega) _ (by unfold plainT;rw [hk];rfl)
 · have hm3:3≤m:=by rw [hk] at hm;simp [plainN] at hm;omega
   have e:plainT y ts=(if(decide (0<(atT ts 0).2.2) && (wholeT (atT ts 1) && decide (atT ts 2=oneT (atT ts 0))))=true then some (atT ts 0) else none):=by unfold plainT;rw [hk];rfl
   rw [← Bool.and_assoc] at e;rw [show(decide (0<(atT ts 0).2.2) && wholeT (atT ts 1))=placedT ts from rfl] at e
   cases ht:placedT ts with
   | false=>exact trOver16f p x r y A ca B cb S m sc ts w h hS hk hm3 _ (by rw [e,ht];rfl) ht
   | true=>
    refine trOver16t p x r y A ca B cb S m sc ts w h hS hk hm3 ht _ ?_;rw [e,ht,Bool.true_and]
    by_cases he:atT ts 2=oneT (atT ts 0)
    · rw [if_pos he,if_pos (decide_eq_true he)]
    · rw [if_neg he,if_neg (by simpa using he)]
theorem part_arm11{x:Ex}(h:partX x=true) (hk:x.k=11):∃ a,x.arms=[a]:=by
 have h2:=part_armsB h;unfold armsX at h2;rw [hk] at h2;simp only [Bool.and_eq_true] at h2;exact List.length_eq_one_iff.1 (by simpa using h2.2)
theorem part_arm12{x:Ex}(h:partX x=true) (hk:x.k=12):0<x.arms.length:=by
 have h2:=part_armsB h;unfold armsX at h2;rw [hk] at h2
 simp at h2
 have:=h2.2;omega
theorem trFlow(p:Pg) (i:Nat) (r:Rm) (y:Ex) (A:Option Addr) (ca:Nat) (B:Option Addr) (cb:Nat) (S:Option Addr) (m sc:Nat) (ts:List T3) (w:World) (h:rdRm w p (ndAt p i) r) (hr:rdX w y A B) (hS:RdY w S m ts) (hl:SlY S m sc) (hk1:9≤y.k) (hk2:y.k≤13) (hm:flowN y.k≤m) (hp:partX y=true) (hnm:y.k=13→y.n≤m) (he:enumsN p.es=0) (hrt:∀ s d,declO (ndAt p i) s=some d→rightB p.es.length d.k d.e d.l=true) (hfew:∀ j,j<p.ns.length→(ndAt p j).ins.length≤1000∧(ndAt p j).outs.length≤1000):
 Calls Tryz.prog 80 #[.agg (rvA p (ndAt p i) r),.agg (exA y A ca B cb),.slice S m sc] w (TyZ w (flowT p i y ts)):=by
 rcases(show y.k=9∨y.k=10∨y.k=11∨y.k=12∨y.k=13 by omega) with hk | hk | hk | hk | hk
 · exact trOver9 p (ndAt p i) r y A ca B cb S m sc ts w h hS hk (by rw [hk] at hm;simp [flowN] at hm;omega) _ (by unfold flowT;rw [hk];rfl)
 · exact trOver10 p (ndAt p i) r y A ca B cb S m sc ts w h hS hk (by rw [hk] at hm;simp [flowN] at hm;omega) _ (by unfold flowT;rw [hk];rfl)
 · refine trOver11 p (ndAt p i) r y A ca B cb S m sc ts w h hS hr hk (by rw [hk] at hm;simp [flowN] at hm;omega) _ ?_;obtain⟨a,ha⟩:=part_arm11 hp hk;have e:flowT p i y ts=match declO (ndAt p i) y.s with | none=>none | some d=>match armR p.es (y.arms[0]?.getD ByteArray.empty) with | none=>none | some r=>if((r.1,r.2.1,0):T3)=tyD d then some (atT ts 0) else none:=by unfold flowT;rw [hk];rfl
   rw [e,ha];unfold takesB;rw [List.all_cons,List.all_nil,Bool.and_true];unfold takeB hasB;simp only [List.getElem?_cons_zero,Option.getD_some]
   cases declO (ndAt p i) y.s with
   | none=>cases armR p.es a <;> rfl
   | some d=>
    cases armR p.es a with
    | none=>rfl
    | some q=>
     simp only
     by_cases hq:((q.1,q.2.1,0):T3)=tyD d
     · rw [if_pos hq,if_pos (decide_eq_true hq.symm)]
     · rw [if_neg hq,if_neg (by simpa using fun e=>hq e.symm)]
 · refine trOver12 p (ndAt p i) r y A ca B cb S m sc ts w h hS hr hk (by rw [hk] at hm;simp [flowN] at hm;omega) (part_arm12 hp hk) (hrt y.s) _ ?_;have e:flowT p i y ts=match declO (ndAt p i) y.s with | none=>none | some d=>if(allT ts && armsT p.es (tyD d) y.arms)=true then some (atT ts 0) else none:=by unfold flowT;rw [hk];rfl
   rw [e,merges_eq he (part_arm12 hp hk) (hrt y.s)]
   cases declO (ndAt p i) y.s with
   | none=>simp
   | some d=>rfl
 · exact trOver13 p (ndAt p i) r y A ca B cb S m sc ts w h hS hk hl (part_n13 hp hk) (hnm hk) hfew _ (by unfold flowT;rw [hk];rfl)
theorem subs_le{x:Ex}(hn:x.k=13→x.n=0∨x.n=1):(subsX x).2≤8+(x.arms.length:Int):=by
 unfold subsX
 repeat' split
 all_goals first | (dsimp only;omega) | (rename_i h;have:=hn (by simpa using h);dsimp only;omega)
theorem trOfX(p:Pg) (i:Nat) (r:Rm) (he:enumsN p.es=0) (hrt:∀ s d,declO (ndAt p i) s=some d→rightB p.es.length d.k d.e d.l=true) (hfew:∀ j,j<p.ns.length→(ndAt p j).ins.length≤1000∧(ndAt p j).outs.length≤1000):
 ∀ (y:Ex) (A:Option Addr) (ca:Nat) (B:Option Addr) (cb:Nat) (w:World),rdRm w p (ndAt p i) r→rdX w y A B→GoodX y →
  Calls Tryz.prog 41 #[.agg (rvA p (ndAt p i) r),.agg (exA y A ca B cb)] w (TyZ w (typX p i y)):=by
 refine size_ind fun y ih A ca B cb w h hr hg=>?_;obtain⟨hsh,hpt⟩:=hg.self;obtain⟨hk1,hk2⟩:=part_kind hpt
 have hlen:y.subs.length≤8+y.arms.length:=by
  have h2:=subs_le (part_n13 hg.self.2);unfold partX at hpt;simp only [Bool.and_eq_true,decide_eq_true_eq] at hpt;have h3:=hpt.1.2;omega
 have hl1000:y.subs.length≤1000:=by have:=hsh.2.2;omega
 have hseq:=trEach p (ndAt p i) r B y.subs.length cb y.subs
 have HEA:∀ w1,Below w.heap.size w w1→Calls Tryz.prog 79 #[.agg (rvA p (ndAt p i) r),.slice B y.subs.length cb] w1 (EachAns w1 (seqO (y.subs.map (typX p i)))):=fun w1 hb=>
  hseq w1 (h.below hb) (hr.below hb).subs hl1000 (y.subs.map (typX p i)) (by simp) _ rfl (fun k hk A' ca' B' cb' w2 hb2 hrd=>by
   rw [typ_get hk];exact ih k hk A' ca' B' cb' w2 (h.below (hb.trans (hb2.mono hb.size))) hrd (hg.sub hk))
 have hlent:∀ ts,seqO (y.subs.map (typX p i))=some ts→ts.length=y.subs.length:=fun ts hts=>by
  have:=seqO_len hts;rwa [List.length_map] at this
 by_cases h1:y.k=1
 · exact trOfC1 p (ndAt p i) r y A ca B cb w h hr h1 hg.1 (fun q hq=>(hg.2 q hq).1) _ (by rw [typX_eq,ofT_const (.inl h1)])
 by_cases h2:y.k=2
 · exact trOfC2 p (ndAt p i) r y A ca B cb w h hr h2 hg.1 (fun q hq=>(hg.2 q hq).1) _ (by rw [typX_eq,ofT_const (.inr (.inl h2))])
 by_cases h4:y.k=4
 · exact trOfC4 p (ndAt p i) r y A ca B cb w h hr h4 hg.1 (fun q hq=>(hg.2 q hq).1) _ (by rw [typX_eq,ofT_const (.inr (.inr h4))])
 by_cases h3:y.k=3
 · exact trOfV p (ndAt p i) r y A ca B cb w h h3 _ (by rw [typX_eq,ofT_var h3])
 by_cases h8:y.k=8
 · have hl2:y.subs.length=2:=by
    have ha:=part_subs hpt
    have hb:(y.subs.length:Int)≤(subsX y).2:=by
     have hq:=hpt;unfold partX at hq;simp only [Bool.and_eq_true,decide_eq_true_eq] at hq;exact hq.1.2
    rw [subs_8 h8] at ha hb
    simp at ha hb
    omega
   refine trOfS p (ndAt p i) r y A ca B cb w h ⟨h1,h2,h3,h4⟩ _ (fun ts=>fbyP (constT p.es (subX y 0)) ts) HEA (fun ts hts S n c w1 hb hry hsl=>?_) _ ?_
   · have hn:=hlent ts hts;have hlr:=hry.len;exact trOver8 p (ndAt p i) r y A ca B cb S n c ts w1 (h.below hb) hry (hr.below hb) h8 (by omega) (by omega) (hg.sub (by omega)).1 (fun q hq=>((hg.sub (by omega)).2 q hq).1) _ rfl
   · rw [fby_eq h8 hl2]
     cases seqO (y.subs.map (typX p i)) <;> rfl
 by_cases h17:y.k=17
 · refine trOfS p (ndAt p i) r y A ca B cb w h ⟨h1,h2,h3,h4⟩ _ (fun ts=>none) HEA (fun ts hts S n c w1 hb hry hsl=>?_) _ ?_
   · exact trOver17 p (ndAt p i) r y A ca B cb S n c ts w1 (h.below hb) hry h17 _ rfl
   · rw [typX_eq,← ofT_old h17]
     cases seqO (y.subs.map (typX p i)) <;> rfl
 by_cases hfl:9≤y.k∧y.k≤13
 · refine trOfS p (ndAt p i) r y A ca B cb w h ⟨h1,h2,h3,h4⟩ _ (fun ts=>flowT p i y ts) HEA (fun ts hts S n c w1 hb hry hsl=>?_) _ ?_
   · have hn:=hlent ts hts;have hlr:=hry.len;refine trFlow p i r y A ca B cb S n c ts w1 (h.below hb) (hr.below hb) hry hsl hfl.1 hfl.2 (by have:=(part_flow hpt hfl.1 hfl.2).1;omega) hpt (fun hk=>?_) he hrt hfew;have ha:=part_subs hpt;unfold subsX at ha
     simp [hk] at ha
     omega
   · rw [typX_eq]
     cases hs:seqO (y.subs.map (typX p i)) with
     | none=>rw [ofT_none (.inr hfl) hs];rfl
     | some ts=>rw [ofT_flow hfl.1 hfl.2 hs];rfl
 · have hpk:y.k=5∨y.k=6∨y.k=7∨y.k=14∨y.k=15∨y.k=16:=by omega
   refine trOfS p (ndAt p i) r y A ca B cb w h ⟨h1,h2,h3,h4⟩ _ (fun ts=>plainT y ts) HEA (fun ts hts S n c w1 hb hry hsl=>?_) _ ?_
   · have hn:=hlent ts hts;have hlr:=hry.len;exact trPlain p (ndAt p i) r y A ca B cb S n c ts w1 (h.below hb) hry hpk (by have:=part_plain hpt hpk;omega)
   · rw [typX_eq]
     cases hs:seqO (y.subs.map (typX p i)) with
     | none=>rw [ofT_none (.inl hpk) hs];rfl
     | some ts=>rw [ofT_plain hpk hs];rfl
end
section
open Go.RowKit Go.Sort Go.BigFrame
end
end Go.Proofs.YtegjgiofmpolnaaGreat
