/- Parts of the proof: SpD. Conditions: each theorem's own. -/
import Derived.Test.YtpedcgpcchbhpaaGreatDoorU31
import Derived.Test.YtpedcgpcchbhpaaGreatDoorU33
namespace Go.Proofs.YtpedcgpcchbhpaaGreatDoor
set_option linter.unusedVariables false
set_option linter.unusedSimpArgs false
set_option maxRecDepth 100000
set_option maxHeartbeats 40000000
section
open Go.RowKit Go.Sort
def TxP(y:Ex):Prop:=∀ (A:Option Addr) (ca:Nat) (B:Option Addr) (cb:Nat) (w:World),rdX w y A B→Tab w →
 Calls Tryz.prog 86 #[.agg (exA y A ca B cb)] w fun e w'=>e=.returned (.string (ofB (textL y)))∧Below w.heap.size w w'
theorem own_nil(w:World) (base:Nat) (e:TypeId):w.ownsRow base e 1 (.slice none 0 0) 0 ([]:List Value):=⟨rfl,.inl ⟨rfl,rfl⟩⟩
theorem shTexts(l:List Ex) (A:Option Addr) (n c:Nat) (w:World) (hl:RdX w A n l) (ht:Tab w) (hn:n≤1000) (IH:∀ i,i<n→TxP (l[i]?.getD default)):
 Calls Tryz.prog 115 #[.slice A n c] w fun e w'=>∃ A' c',e=.returned (.slice A' n c')∧RdT w' A' n (txS l)∧n≤c'∧Below w.heap.size w w':=by
 obtain⟨i0,hi,hz0,hz1,hz2⟩:=info_parts infoString;have hlen:=hl.len;have HRX:=Hd hl;have HTB:=Hd ht;have HIH:=Hd IH;have HBX:=Hd fun(x:Ex) (A:Option Addr) (ca:Nat) (B:Option Addr) (cb:Nat) (w w1:World) (h:_) (hr:rdX w x A B)=>box_facts w x A ca B cb w1 h hr;have HTS:=Hd fun k (hk:k<n)=>(show(txS l).take (k+1)=(txS l).take k++[ofB (textL (l[k]?.getD default))] from txS_snoc (by omega));have HTE:=Hd (show(txS l).take n=txS l from List.take_of_length_le (by rw [txS_len];omega));have HO0:=Hd (own_nil w w.heap.size 9);clear hl ht IH hlen;unfold exA at HBX
 go_enter Tryz.func115,Tryz.ntmps115
 go_wp2_with fail
 go_loopw [3,8] (fun v i wr=>∃ k:Nat,k≤n∧i=.int .i64 k∧wr.ownsRow w.heap.size 9 1 v k (((txS l).take k).map Value.string)∧Below w.heap.size w wr) (fun _ i _=>n-(intOf i).toNat)
 case atStart=>exact⟨0,Nat.zero_le _,rfl,HO0.out,Below.refl _ _⟩
 case round=>
  obtain⟨k,hk,rfl,hrow,hbw⟩:=hrel;have HRW:=Hd hrow;have HBW:=Hd hbw;have hbs:=hbw.size
  by_cases hlt:k<n
  · obtain⟨b,off,rfl,hb,hat⟩:=(HRX.out.below hbw).at_ hlt;obtain⟨A',ca',B',cb',hrg,hrd⟩:=hat k hlt;obtain⟨c0,c1,c2,c3,c4,c5⟩:=rangeAt_six hrg;have HF3:=Hd fun w3 h=>HBX.out (l[k]?.getD default) A' ca' B' cb' wr w3 h hrd;have HTW:=Hd (HTB.out.below hbw);have HCX:=Hd (HIH.out k hlt);have HTK:=Hd (HTS.out k hlt);clear hat hrg hrow hbw HIH HTS HBX;generalize l[k]?.getD default=y at *
    go_upto_region 5 with(fail)
    generalize hw3:wr.alloc _=w3;obtain⟨hb3,hg3,hr3,hcell3⟩:=HF3.out w3 hw3;obtain⟨d0,d1,d2,d3,d4,d5⟩:=Sx (hcell3 w3 (Below.refl _ _));have HCL:=Hd (HCX.out A' ca' B' cb' w3 hr3 (HTW.out.below hb3));unfold exA at HCL;have HB3:=Hd (HBW.out.trans (hb3.mono HBW.out.size));have HRW3:=Hd (own_belowX HRW.out hb3);clear hcell3 hb3 hr3 hw3 HF3 HCX;generalize ofB (textL y)=sy at *
    go_wp2_with fail
    refine HCL.out.mono ?_;rintro r w4 ⟨rfl,hb4⟩;have hrow4:=own_belowX HRW3.out hb4;have HB4:=Hd (HB3.out.trans (hb4.mono HB3.out.size));have hbs4:=HB4.out.size;clear hb4 d0 d1 d2 d3 d4 d5
    go_wp2_with (at_builtin;go_must (refine wpList_append_own_at _ rfl _ _ 44 rfl w.heap.size 9 i0 (.string ByteArray.empty) 1 16 Tryz.underlying44 hi hz0 hz1 hz2 rfl (by decide) _ _ _ rfl (hrow4.alloc _) ⟨w4.heap.size,0,none⟩ 1 1 [.string sy] rfl rfl (cell_one_new _ _ _) (string_cells [sy]) (by unfold maxLen;omega) (by omega) (by simp;omega) ?_;intro v' w5 hown' hgrow hnil hloc))
    have HB5:=Hd ((HB4.out.alloc hbs4 (.cells #[.string sy] 9)).grown hgrow (by simp;omega) (fun j hj=>(hrow4.lt j hj).1));have HOW:=Hd hown';clear hgrow hnil hown' hloc
    go_roundw
    case rel=>
     refine⟨k+1,by omega,by go_num,?_,HB5.out⟩;rw [HTK.out,List.map_append];exact HOW.out
    case measure=>simp [intOf];omega
  · have hkn:k=n:=by omega
    subst hkn;rw [HTE.out] at HRW;obtain⟨A1,c1,rfl,hR1,hcc⟩:=texts_ownS HRW.out (by omega);have HR1:=Hd hR1;clear hR1 hrow hbw
    go_wp2_with fail
    go_ret
    exact⟨A1,c1,rfl,HR1.out,hcc,HBW.out⟩
structure ShH (x:Ex) (A:Option Addr) (ca:Nat) (B:Option Addr) (cb:Nat) (w:World):Prop where
 rd:rdX w x A B
 part:PartF x
 num:NumP x
 tab:Tab w
 len:x.subs.length≤1000
 each:∀ y∈x.subs,(textL y).length≤1300000
 all:lensT (x.subs.map textL)≤1300000
 texts:∀ w1,Below w.heap.size w w1→Calls Tryz.prog 115 #[.slice B x.subs.length cb] w1 fun e w'=>∃ A' c',e=.returned (.slice A' x.subs.length c')∧RdT w' A' x.subs.length (txS x.subs)∧x.subs.length≤c'∧Below w1.heap.size w1 w'
theorem phraseLit(ss:List ByteArray) (n:Nat) (tx:ByteArray) (hE:winS ⟨#[40]⟩ ⟨#[32]⟩ ⟨#[41]⟩ ss=tx) (cs:Array Value) (hn:ss.length=n) (hcs:cs=(ss.map Value.string).toArray) (hm:n≤1000) (hj:(jnT ss ⟨#[32]⟩).length≤100000000) (w:World):
 Calls Tryz.prog 120 #[.slice (some ⟨w.heap.size,0,none⟩) n n] (w.alloc (.cells cs 9)) fun e w'=>e=.returned (.string tx)∧Below w.heap.size w w' :=
 (shPhrase _ n n ss _ (litT w _ ss n cs hn hm hcs) (Nat.le_refl _) (by omega) hj).mono fun e w' ⟨he,hb⟩=>⟨by rw [he,hE],((Below.refl w.heap.size w).alloc (Nat.le_refl _) _).trans (hb.mono (by simp))⟩
theorem listLit(a b:ByteArray) (ss:List ByteArray) (n:Nat) (tx:ByteArray) (hE:winS a ⟨#[44,32]⟩ b ss=tx) (cs:Array Value) (hn:ss.length=n) (hcs:cs=(ss.map Value.string).toArray) (hm:n≤1000) (ha:a.size≤10000000) (hb:b.size≤10000000) (hj:(jnT ss ⟨#[44,32]⟩).length≤100000000) (w:World):
 Calls Tryz.prog 54 #[.string a,.string b,.slice (some ⟨w.heap.size,0,none⟩) n n] (w.alloc (.cells cs 9)) fun e w'=>e=.returned (.string tx)∧Below w.heap.size w w' :=
 (shList a b _ n n ss _ (litT w _ ss n cs hn hm hcs) (Nat.le_refl _) (by omega) ha hb hj).mono fun e w' ⟨he,hb⟩=>⟨by rw [he,hE],((Below.refl w.heap.size w).alloc (Nat.le_refl _) _).trans (hb.mono (by simp))⟩
theorem fb_true:(⟨(Lib.formatBool true).toArray⟩:ByteArray)=ofB trueL:=by decide
theorem fb_false:(⟨(Lib.formatBool false).toArray⟩:ByteArray)=ofB falseL:=by decide
theorem dL_txS(l:List Ex):dL (txS l)=l.map textL:=by simp [dL,txS,ofB_data]
end
end Go.Proofs.YtpedcgpcchbhpaaGreatDoor
