/- Parts of the proof: ShA, ShB, SpA. Conditions: each theorem's own. -/
import Derived.Test.YtpedcgpcchbhpaaGreatDoorU12
import Derived.Test.YtpedcgpcchbhpaaGreatDoorU16
import Derived.Test.YtpedcgpcchbhpaaGreatDoorU21
import Derived.Test.YtpedcgpcchbhpaaGreatDoorU24
namespace Go.Proofs.YtpedcgpcchbhpaaGreatDoor
set_option linter.unusedVariables false
set_option linter.unusedSimpArgs false
set_option maxRecDepth 100000
set_option maxHeartbeats 40000000
section
open Go.RowKit Go.Sort
theorem refOn(name arm:ByteArray) (w:World) (h1:name.size≤1000000) (h2:arm.size≤1000000):
 Calls Tryz.prog 28 #[.string name,.string arm] w fun e w'=>e=.returned (.string (ofB (onL name.data.toList arm.data.toList)))∧Below w.heap.size w w':=by
 have z1:(9223372036854775807<4+name.size)=False:=by rw [eq_iff_iff,iff_false];omega
 have z2:(9223372036854775807<arm.size+1)=False:=by rw [eq_iff_iff,iff_false];omega
 have z3:(9223372036854775807<arm.size+1+name.size)=False:=by rw [eq_iff_iff,iff_false];omega
 have z4:(9223372036854775807<arm.size+1+name.size+1)=False:=by rw [eq_iff_iff,iff_false];omega
 have ht:=Lib.toList_data arm
 cases e1:(arm.toList==[116,114,117,101]) with
 | true=>
  have HE:=Hd (show name=ofB (onL name.data.toList arm.data.toList) by
   rw [ht] at e1;unfold onL;rw [if_pos (by simpa [trueL] using e1),ofB_self])
  clear ht
  go_enter Tryz.func28,Tryz.ntmps28
  go_wp2_with fail
  go_ret
  exact⟨ret_strV HE.out,Below.refl _ _⟩
 | false=>
  cases e2:(arm.toList==[102,97,108,115,101]) with
  | true=>
   have HE:=Hd (show(⟨#[110,111,116,32]⟩:ByteArray)++name=ofB (onL name.data.toList arm.data.toList) by
    rw [ht] at e1 e2;unfold onL;rw [if_neg (by simpa [trueL] using e1),if_pos (by simpa [falseL] using e2)];exact ba_ext (by rw [ofB_data];simp [notL]))
   clear ht
   go_enter Tryz.func28,Tryz.ntmps28
   go_wp2_with fail
   go_ret
   exact⟨ret_strV HE.out,Below.refl _ _⟩
  | false=>
   have HE:=Hd (show arm++(⟨#[40]⟩:ByteArray)++name++⟨#[41]⟩=ofB (onL name.data.toList arm.data.toList) by
    rw [ht] at e1 e2;unfold onL;rw [if_neg (by simpa [trueL] using e1),if_neg (by simpa [falseL] using e2)];exact ba_ext (by rw [ofB_data];simp))
   clear ht
   go_enter Tryz.func28,Tryz.ntmps28
   go_wp2_with fail
   go_ret
   exact⟨ret_strV HE.out,Below.refl _ _⟩
theorem refLeaf(x:Ex) (A:Option Addr) (ca:Nat) (B:Option Addr) (cb:Nat) (w:World) (hr:rdX w x A B) (hn:NumP x):
 Calls Tryz.prog 95 #[.agg (exA x A ca B cb)] w fun e w'=>e=.returned (.string (ofB (leafT x.k x.n x.s.data.toList)))∧Below w.heap.size w w':=by
 obtain⟨hs,hn0,hn1⟩:=hn;have HF:=Hd fun w1 h=>box_facts w x A ca B cb w1 h hr;have HL:=Hd (show leafT x.k x.n x.s.data.toList=if x.k=1 then Lib.itoa x.n else if x.k=2 then(if x.n=1 then trueL else falseL) else if x.k=17 then 39::(x.s.data.toList++[39]) else x.s.data.toList from rfl);clear hr;unfold exA at HF ⊢;generalize leafT x.k x.n x.s.data.toList=lt at *;generalize x.k=k at *;generalize x.s=s at *;generalize x.n=n at *;have z1:(9223372036854775807<1+s.size)=False:=by rw [eq_iff_iff,iff_false];omega
 have z2:(9223372036854775807<s.size+1)=False:=by rw [eq_iff_iff,iff_false];omega
 have z3:(9223372036854775807<1+s.size+1)=False:=by rw [eq_iff_iff,iff_false];omega
 by_cases h1:k=1
 · subst h1;have HE:=Hd (show(⟨(Lib.itoa n).toArray⟩:ByteArray)=ofB lt by rw [HL.out];rfl);have HD:=Hd fun w=>refDigits n hn0 hn1 w
   go_enter Tryz.func95,Tryz.ntmps95
   go_upto_region 1 with(fail)
   generalize hw1:w.alloc _=w1;obtain⟨hb1,hg,hr1,hcell⟩:=HF.out w1 hw1;have HB1:=Hd hb1;have q0:=hcell w1 (Below.refl _ _) 0;have q1:=hcell w1 (Below.refl _ _) 1;clear hcell hb1 hr1 hw1 HF
   go_wp2_with fail
   refine(HD.out _).mono ?_;rintro r w2 ⟨rfl,hb2⟩;have HB2:=Hd (HB1.out.trans (hb2.mono HB1.out.size));clear hb2
   go_wp2_with fail
   go_ret
   exact⟨ret_strV HE.out,HB2.out⟩
 by_cases h2:k=2
 · subst h2
   by_cases hn:n=1
   · subst hn;have HE:=Hd (show(⟨#[116,114,117,101]⟩:ByteArray)=ofB lt by rw [HL.out];rfl)
     go_enter Tryz.func95,Tryz.ntmps95
     go_upto_region 1 with(fail)
     generalize hw1:w.alloc _=w1;obtain⟨hb1,hg,hr1,hcell⟩:=HF.out w1 hw1;have HB1:=Hd hb1;have q0:=hcell w1 (Below.refl _ _) 0;have q1:=hcell w1 (Below.refl _ _) 1;clear hcell hb1 hr1 hw1 HF
     go_wp2_with fail
     go_ret
     exact⟨ret_strV HE.out,HB1.out⟩
   · have hne:(n==1)=false:=by simpa using hn
     have HE:=Hd (show(⟨#[102,97,108,115,101]⟩:ByteArray)=ofB lt by rw [HL.out,if_neg (by decide),if_pos rfl,if_neg hn];rfl)
     go_enter Tryz.func95,Tryz.ntmps95
     go_upto_region 1 with(fail)
     generalize hw1:w.alloc _=w1;obtain⟨hb1,hg,hr1,hcell⟩:=HF.out w1 hw1;have HB1:=Hd hb1;have q0:=hcell w1 (Below.refl _ _) 0;have q1:=hcell w1 (Below.refl _ _) 1;clear hcell hb1 hr1 hw1 HF
     go_wp2_with fail
     go_ret
     exact⟨ret_strV HE.out,HB1.out⟩
 by_cases h17:k=17
 · subst h17
   have HE:=Hd (show(⟨#[39]⟩:ByteArray)++s++⟨#[39]⟩=ofB lt by
    rw [HL.out,if_neg (by decide),if_neg (by decide),if_pos rfl];exact ba_ext (by rw [ofB_data];simp))
   go_enter Tryz.func95,Tryz.ntmps95
   go_upto_region 1 with(fail)
   generalize hw1:w.alloc _=w1;obtain⟨hb1,hg,hr1,hcell⟩:=HF.out w1 hw1;have HB1:=Hd hb1;have q0:=hcell w1 (Below.refl _ _) 0;have q2:=hcell w1 (Below.refl _ _) 2;clear hcell hb1 hr1 hw1 HF
   go_wp2_with fail
   go_ret
   exact⟨ret_strV HE.out,HB1.out⟩
 have e1:(k==1)=false:=by simpa using h1
 have e2:(k==2)=false:=by simpa using h2
 have e17:(k==17)=false:=by simpa using h17
 have HE:=Hd (show s=ofB lt by rw [HL.out,if_neg h1,if_neg h2,if_neg h17,ofB_self])
 go_enter Tryz.func95,Tryz.ntmps95
 go_upto_region 1 with(fail)
 generalize hw1:w.alloc _=w1;obtain⟨hb1,hg,hr1,hcell⟩:=HF.out w1 hw1;have HB1:=Hd hb1;have q0:=hcell w1 (Below.refl _ _) 0;have q2:=hcell w1 (Below.refl _ _) 2;clear hcell hb1 hr1 hw1 HF
 go_wp2_with fail
 go_ret
 exact⟨ret_strV HE.out,HB1.out⟩
theorem ofB_sizeS(l:List UInt8):(ofB l).size=l.length:=by
 show l.toArray.size=l.length
 simp
theorem joinC_snoc:∀ (l:List (List UInt8)) (x:List UInt8),l≠[]→joinC (l++[x])=joinC l++44::32::x
 | [],_,h=>absurd rfl h
 | [a],x,_=>rfl
 | a::b::l,x,_=>by
  have:=joinC_snoc (b::l) x (by simp);simp only [List.cons_append] at this ⊢;simp only [joinC,this,List.append_assoc,List.cons_append]
theorem take_snocL{l:List Ex}{k:Nat}(h:k<l.length):(l.map textL).take (k+1)=(l.map textL).take k++[textL (l[k]?.getD default)]:=by
 rw [List.take_succ_eq_append_getElem (by simpa using h)]
 simp [List.getElem?_eq_getElem h]
theorem join_take_len(l:List Ex) (k:Nat) (h:∀ y∈l,(textL y).length≤1300*sizeX y):(joinC ((l.map textL).take k)).length≤1302*sizesX l:=by
 have h1:=joinC_len ((l.map textL).take k);have h2:=lensT_take (l.map textL) k;have h3:=lens_subs l h;have h4:=sizes_len l;have h5:((l.map textL).take k).length≤l.length:=by simp;omega
 omega
theorem refList(l:List Ex) (A:Option Addr) (n c:Nat) (w:World) (hl:RdX w A n l) (hs:sizesX l≤1000000)
 (hb:∀ y∈l,(textL y).length≤1300*sizeX y)
 (IH:∀ i,i<n→∀ w1,Below w.heap.size w w1→∃ b off,A=some ⟨b,off,none⟩∧b<w.heap.size∧∃ A' ca B' cb,w1.rangeAt b (off+i*6) (exL (l[i]?.getD default) A' ca B' cb) ∧
  Calls Tryz.prog 57 #[.agg (exA (l[i]?.getD default) A' ca B' cb)] w1 fun e w'=>e=.returned (.string (ofB (textL (l[i]?.getD default))))∧Below w1.heap.size w1 w'):
 Calls Tryz.prog 94 #[.slice A n c] w fun e w'=>e=.returned (.string (ofB (joinC (l.map textL))))∧Below w.heap.size w w':=by
 have hlen:=hl.len;have hmx:=hl.max;have HIH:=Hd IH;have HTS:=Hd fun k (hk:k<l.length)=>take_snocL hk;have HJL:=Hd fun k=>join_take_len l k hb
 have HTL:=Hd fun k (hk:k<l.length)=>(show(textL (l[k]?.getD default)).length≤1300000000 by
  rw [List.getElem?_eq_getElem hk,Option.getD_some];have h1:=hb _ (List.getElem_mem hk);have h2:=sizes_mem (List.getElem_mem hk);omega)
 clear IH hb hl
 go_enter Tryz.func94,Tryz.ntmps94
 go_wp2_with fail
 go_loopw [3,4] (fun s i wr=>∃ k:Nat,k≤n∧i=.int .i64 k∧s=.string (ofB (joinC ((l.map textL).take k)))∧Below w.heap.size w wr) (fun _ i _=>n-(intOf i).toNat)
 case atStart=>exact⟨0,Nat.zero_le _,rfl,rfl,Below.refl _ _⟩
 case round=>
  obtain⟨k,hk,rfl,rfl,hbw⟩:=hrel;have HBW:=Hd hbw;have hjl:=HJL.out k
  by_cases hlt:k<n
  · obtain⟨b,off,rfl,hbl,A',ca',B',cb',hrg,hcl⟩:=HIH.out k hlt wr hbw;obtain⟨c0,c1,c2,c3,c4,c5⟩:=rangeAt_six hrg;have HCL:=Hd hcl;have hts:=HTS.out k (by omega);have htl:=HTL.out k (by omega);have HSN:=Hd fun h=>joinC_snoc ((l.map textL).take k) (textL (l[k]?.getD default)) h
    have HK0:=Hd (show(l.map textL).take k=[]→k=0 from fun h=>by
     have:=congrArg List.length h;rw [List.length_take,List.length_map,List.length_nil] at this;omega)
    have HZ:=Hd (show(l.map textL).take 0=[] from rfl);have HTK:=Hd hts;clear hts hbw hrg hcl HIH;unfold exA at HCL;generalize l[k]?.getD default=y at *;generalize htk:(l.map textL).take k=tk at *;have hsz:(ofB (joinC tk)).size=(joinC tk).length:=ofB_sizeS _;have hsy:(ofB (textL y)).size=(textL y).length:=ofB_sizeS _
    by_cases h0:k=0
    · subst h0;simp only [Nat.zero_mul,Nat.add_zero] at c0 c1 c2 c3 c4 c5
      have HE:=Hd (show ofB (joinC tk)++ofB (textL y)=ofB (joinC ((l.map textL).take (0+1))) by
       rw [HTK.out,← htk];exact ba_ext (by simp [ofB,joinC]))
      generalize ofB (joinC tk)=sa at *;generalize ofB (textL y)=sb at *;have z1:(9223372036854775807<sa.size+sb.size)=False:=by rw [eq_iff_iff,iff_false];omega
      go_wp2_with fail
      refine HCL.out.mono ?_;rintro r w2 ⟨rfl,hb2⟩;have HB2:=Hd (HBW.out.trans (hb2.mono HBW.out.size));clear hb2
      go_wp2_with fail
      go_roundw
      case rel=>exact⟨1,by omega,by go_num,by rw [← HE.out],HB2.out⟩
      case measure=>simp [intOf];omega
    · have hd:decide ((0:Int)<(k:Int))=true:=decide_eq_true (by omega)
      have HE:=Hd (show ofB (joinC tk)++(⟨#[44,32]⟩:ByteArray)++ofB (textL y)=ofB (joinC ((l.map textL).take (k+1))) by
       rw [HTK.out,HSN.out (fun h=>h0 (HK0.out h))];exact ba_ext (by simp [ofB]))
      generalize ofB (joinC tk)=sa at *;generalize ofB (textL y)=sb at *;have z1:(9223372036854775807<sa.size+2)=False:=by rw [eq_iff_iff,iff_false];omega
      have z2:(9223372036854775807<sa.size+2+sb.size)=False:=by rw [eq_iff_iff,iff_false];omega
      go_wp2_with fail
      refine HCL.out.mono ?_;rintro r w2 ⟨rfl,hb2⟩;have HB2:=Hd (HBW.out.trans (hb2.mono HBW.out.size));clear hb2
      go_wp2_with fail
      go_roundw
      case rel=>exact⟨k+1,by omega,by go_num,by rw [← HE.out],HB2.out⟩
      case measure=>simp [intOf];omega
  · have hkl:k=n:=by omega
    have HE:=Hd (show(l.map textL).take k=l.map textL from List.take_of_length_le (by simp;omega))
    go_wp2_with fail
    go_ret
    exact⟨ret_strV (by rw [HE.out]),HBW.out⟩
end
section
open Go.RowKit Go.Sort
def TxC(y:Ex):Prop:=∀ (A:Option Addr) (ca:Nat) (B:Option Addr) (cb:Nat) (w:World),rdX w y A B→(y.k=13→y.subs.length≤cb)→capX w y B →
 Calls Tryz.prog 57 #[.agg (exA y A ca B cb)] w fun e w'=>e=.returned (.string (ofB (textL y)))∧Below w.heap.size w w'
theorem take_getD{l:List Ex}{m i:Nat}(h:i<m):(l.take m)[i]?.getD default=l[i]?.getD default:=by
 rw [List.getElem?_take_of_lt h]
theorem RdX.take{w:World}{A:Option Addr}{n m:Nat}{l:List Ex}(h:RdX w A n l) (hm:m≤n):RdX w A m (l.take m):=by
 have hl:=h.1;have hx:=h.2.1;refine⟨by simp;omega,by omega,fun hp=>?_⟩;obtain⟨b,off,e,hb,hr⟩:=h.2.2 (by omega);refine⟨b,off,e,hb,rdXs_of _ fun i hi=>?_⟩;simp only [List.length_take] at hi;rw [take_getD (by omega)];exact rdXs_at l hr i (by omega)
theorem list_sub(x:Ex) (A:Option Addr) (B:Option Addr) (cb m c:Nat) (w0 w:World) (hr:rdX w0 x A B) (hc:capX w0 x B) (hb:Below w0.heap.size w0 w) (hm:m≤x.subs.length) (hs:sizesX x.subs≤1000)
 (hl:∀ y∈x.subs,(textL y).length≤1300*sizeX y) (ih:∀ i,i<x.subs.length→TxC (subX x i)):
 Calls Tryz.prog 94 #[.slice B m c] w fun e w'=>e=.returned (.string (ofB (joinC ((x.subs.map textL).take m))))∧Below w.heap.size w w':=by
 have hst:=sizes_take x.subs m
 have h:=refList (x.subs.take m) B m c w ((hr.below hb).subs.take hm) (by omega) (fun y hy=>hl y (List.mem_of_mem_take hy)) (fun i hi w1 hw1=>by
  obtain⟨b,off,e,hbl,hat⟩:=hr.subC hc (i:=i) (by omega);have hb1:Below w0.heap.size w0 w1:=hb.trans (hw1.mono hb.size);obtain⟨A',ca',B',cb',hrg,hrd,hcl,hcx⟩:=hat i (by omega);have hbs:=hb.size;refine⟨b,off,e,by omega,A',ca',B',cb',?_,?_⟩
  · rw [take_getD hi];exact rangeAt_keep hrg hbl fun p hp=>hb1.cell hp
  · rw [take_getD hi];exact ih i (by omega) A' ca' B' cb' w1 (hrd.below hb1) hcl (hcx.below hrd hb1))
 rw [List.map_take] at h;exact h
theorem refCall0(x:Ex) (A:Option Addr) (ca:Nat) (B:Option Addr) (cb:Nat) (w:World) (hr:rdX w x A B) (hcb:x.subs.length≤cb) (hc:capX w x B) (hn:x.n=0) (hsz:x.s.size≤1000) (hs:sizesX x.subs≤1000)
 (hl:∀ y∈x.subs,(textL y).length≤1300*sizeX y) (ih:∀ i,i<x.subs.length→TxC (subX x i)):
 Calls Tryz.prog 93 #[.agg (exA x A ca B cb)] w fun e w'=>e=.returned (.string (ofB (callT 0 x.s.data.toList (x.subs.map textL))))∧Below w.heap.size w w':=by
 have HF:=Hd fun w1 h=>box_facts w x A ca B cb w1 h hr;have HLS:=Hd fun c w1 (h:Below w.heap.size w w1)=>list_sub x A B cb x.subs.length c w w1 hr hc h (Nat.le_refl _) hs hl ih;have hmx:=hr.subs.max;have hjl:=join_take_len x.subs x.subs.length hl;have htk:(x.subs.map textL).take x.subs.length=x.subs.map textL:=List.take_of_length_le (by simp);rw [htk] at HLS hjl;have HE:=Hd (show x.s++(⟨#[40]⟩:ByteArray)++ofB (joinC (x.subs.map textL))++⟨#[41]⟩=ofB (callT 0 x.s.data.toList (x.subs.map textL)) from ba_ext (by simp [ofB,callT]));have hos:(ofB (joinC (x.subs.map textL))).size≤1302000:=by rw [ofB_sizeS];omega
 clear hr hc hl ih htk hjl;unfold exA at HF ⊢;rw [hn] at HF ⊢;generalize ofB (joinC (x.subs.map textL))=jt at *;generalize callT 0 x.s.data.toList (x.subs.map textL)=ct at *;generalize x.subs.length=len at *;generalize x.s=s at *;have z1:(9223372036854775807<s.size+1)=False:=by rw [eq_iff_iff,iff_false];omega
 have z2:(9223372036854775807<s.size+1+jt.size)=False:=by rw [eq_iff_iff,iff_false];omega
 have z3:(9223372036854775807<s.size+1+jt.size+1)=False:=by rw [eq_iff_iff,iff_false];omega
 go_enter Tryz.func93,Tryz.ntmps93
 go_upto_region 1 with(fail)
 generalize hw1:w.alloc _=w1;obtain⟨hb1,hg,hr1,hcell⟩:=HF.out w1 hw1;have HB1:=Hd hb1;have HC:=Hd hcell;obtain⟨-,q1,q2,-,-,q5⟩:=Sx (hcell w1 (Below.refl _ _));clear hcell hb1 hr1 hw1 HF
 go_wp2_with fail
 have HBQ:=Hd fun d os=>HB1.out.trans ((below_regrown w1 d os).mono HB1.out.size);have cA:=fun d os=>Calls.regrown_of (HLS.out cb (grow (redrawn w1 d) os) (HBQ.out d os));have l1:=fun d os=>cell_regrown q1 d os;have l2:=fun d os=>cell_regrown q2 d os;have l5:=fun d os=>cell_regrown q5 d os;refine wp_region_quiet_below (by kernel_rfl) (by kernel_rfl) ?_
 repeat (quiet_step (exact cA _ _))
 refine wpQuiet_nil ?_;intro _ hw';obtain⟨⟨dq,osq⟩,hw''⟩:=hw';subst hw'';have HB2:=Hd (HBQ.out dq osq);have q1':=l1 dq osq;clear cA l1 l2 l5 q1 q2 q5;generalize grow (redrawn w1 dq) osq=w2 at *
 go_wp2_with fail
 go_ret
 exact⟨ret_strV HE.out,HB2.out⟩
theorem refCall1(x:Ex) (l:List Ex) (y:Ex) (A:Option Addr) (ca:Nat) (B:Option Addr) (cb:Nat) (w:World) (hr:rdX w x A B) (hcb:x.subs.length≤cb) (hc:capX w x B) (hn:x.n=1) (hly:x.subs=l++[y]) (hsz:x.s.size≤1000) (hs:sizesX x.subs≤1000)
 (hl:∀ y∈x.subs,(textL y).length≤1300*sizeX y) (ih:∀ i,i<x.subs.length→TxC (subX x i)):
 Calls Tryz.prog 93 #[.agg (exA x A ca B cb)] w fun e w'=>e=.returned (.string (ofB (callT 1 x.s.data.toList (x.subs.map textL))))∧Below w.heap.size w w':=by
 have HF:=Hd fun w1 h=>box_facts w x A ca B cb w1 h hr;have hlen:x.subs.length=l.length+1:=by rw [hly];simp
 have HLS:=Hd fun c w1 (h:Below w.heap.size w w1)=>list_sub x A B cb l.length c w w1 hr hc h (by omega) hs hl ih;have hsub:subX x l.length=y:=by simp [subX,hly]
 have HY:=Hd fun w1 (h:Below w.heap.size w w1)=>(show ∃ b off,B=some ⟨b,off,none⟩∧∃ A' ca' B' cb',w1.rangeAt b (off+l.length*6) (exL y A' ca' B' cb') ∧
  Calls Tryz.prog 57 #[.agg (exA y A' ca' B' cb')] w1 fun e w'=>e=.returned (.string (ofB (textL y)))∧Below w1.heap.size w1 w' from by
  obtain⟨b,off,e,hbl,hat⟩:=hr.subC hc (i:=l.length) (by omega);obtain⟨A',ca',B',cb',hrg,hrd,hcl,hcx⟩:=hat l.length (by omega);have ht:=ih l.length (by omega);rw [hsub] at hrg hrd hcl hcx ht;exact⟨b,off,e,A',ca',B',cb',rangeAt_keep hrg hbl fun p hp=>h.cell hp,ht A' ca' B' cb' w1 (hrd.below h) hcl (hcx.below hrd h)⟩)
 have hmx:=hr.subs.max;have hjl:=join_take_len x.subs l.length hl
 have hyl:(textL y).length≤1300000:=by
  have h1:=hl y (by rw [hly];simp);have h2:=sizes_mem (l:=x.subs) (x:=y) (by rw [hly];simp);omega
 have htk:(x.subs.map textL).take l.length=l.map textL:=by rw [hly];simp [List.take_append]
 rw [htk] at HLS hjl
 have HE:=Hd (show(⟨#[40]⟩:ByteArray)++(x.s++(⟨#[40]⟩:ByteArray)++ofB (joinC (l.map textL))++⟨#[41]⟩)++(⟨#[32,101,118,101,114,121,32]⟩:ByteArray)++ofB (textL y)++⟨#[41]⟩=ofB (callT 1 x.s.data.toList (x.subs.map textL)) from ba_ext (by
  rw [hly]
  simp [ofB,callT,everyL,gT,List.take_append]))
 have hos:(ofB (joinC (l.map textL))).size≤1302000:=by rw [ofB_sizeS];omega
 have hoy:(ofB (textL y)).size≤1300000:=by rw [ofB_sizeS];exact hyl
 clear hr hc hl ih htk hjl hyl hsub;unfold exA at HF HY ⊢;rw [hn] at HF ⊢;rw [hlen] at HF hmx hcb ⊢;generalize callT 1 x.s.data.toList (x.subs.map textL)=ct at *;clear hly;generalize ofB (joinC (l.map textL))=jt at *;generalize ofB (textL y)=yt at *;generalize l.length=len at *;generalize x.s=s at *;clear hlen;have z1:(9223372036854775807<s.size+1)=False:=by rw [eq_iff_iff,iff_false];omega
 have z2:(9223372036854775807<s.size+1+jt.size)=False:=by rw [eq_iff_iff,iff_false];omega
 have z3:(9223372036854775807<s.size+1+jt.size+1)=False:=by rw [eq_iff_iff,iff_false];omega
 have z4:(9223372036854775807<1+(s.size+1+jt.size+1))=False:=by rw [eq_iff_iff,iff_false];omega
 have z5:(9223372036854775807<1+(s.size+1+jt.size+1)+7)=False:=by rw [eq_iff_iff,iff_false];omega
 have z6:(9223372036854775807<1+(s.size+1+jt.size+1)+7+yt.size)=False:=by rw [eq_iff_iff,iff_false];omega
 have z7:(9223372036854775807<1+(s.size+1+jt.size+1)+7+yt.size+1)=False:=by rw [eq_iff_iff,iff_false];omega
 have hsub1:((len+1:Nat):Int)-1=(len:Int):=by omega
 have hcb1:len≤cb:=by omega
 go_enter Tryz.func93,Tryz.ntmps93
 go_upto_region 1 with(fail)
 generalize hw1:w.alloc _=w1;obtain⟨hb1,hg,hr1,hcell⟩:=HF.out w1 hw1;have HB1:=Hd hb1;have HC:=Hd hcell;obtain⟨-,q1,q2,-,-,q5⟩:=Sx (hcell w1 (Below.refl _ _));clear hcell hb1 hr1 hw1 HF
 go_wp2_with fail
 have HBQ:=Hd fun d os=>HB1.out.trans ((below_regrown w1 d os).mono HB1.out.size);have cA:=fun d os=>Calls.regrown_of (HLS.out cb (grow (redrawn w1 d) os) (HBQ.out d os));have l1:=fun d os=>cell_regrown q1 d os;have l2:=fun d os=>cell_regrown q2 d os;have l5:=fun d os=>cell_regrown q5 d os;refine wp_region_quiet_below (by kernel_rfl) (by kernel_rfl) ?_
 repeat (quiet_step (exact cA _ _))
 refine wpQuiet_nil ?_;intro _ hw';obtain⟨⟨dq,osq⟩,hw''⟩:=hw';subst hw'';have HB2:=Hd (HBQ.out dq osq);have q1':=l1 dq osq;have q5':=l5 dq osq;clear cA l1 l2 l5 q1 q2 q5 HBQ;generalize grow (redrawn w1 dq) osq=w2 at *;obtain⟨b,off,rfl,A',ca',B',cb',hrg,hcl⟩:=HY.out w2 HB2.out;obtain⟨c0,c1,c2,c3,c4,c5⟩:=rangeAt_six hrg;have HCL:=Hd hcl;clear hrg hcl HY HLS
 go_wp2_with fail
 refine HCL.out.mono ?_;rintro r w3 ⟨rfl,hb3⟩;have HB3:=Hd (HB2.out.trans (hb3.mono HB2.out.size));clear hb3
 go_wp2_with fail
 go_ret
 exact⟨ret_strV HE.out,HB3.out⟩
end
section
open Go.RowKit Go.Sort
theorem ofB_sizeP(l:List UInt8):(ofB l).size=l.length:=by
 show l.toArray.size=l.length
 simp
def jnT(ss:List ByteArray) (b:ByteArray):List UInt8:=Lib.join (ss.map (·.data.toList)) b.data.toList
def winS(o b s:ByteArray) (ss:List ByteArray):ByteArray:=o++ofB (jnT ss b)++s
theorem jn_join:∀ l:List (List UInt8),Lib.join l [44,32]=joinC l
 | []=>rfl
 | [x]=>by simp [joinC,Lib.join_one]
 | x::y::l=>by
  have h:=jn_join (y::l);rw [Lib.join_cons] at h ⊢;simp only [joinC,← h,Lib.joinTail,List.map_cons,List.flatten_cons]
  simp
theorem jn_cons(x:ByteArray) (l:List ByteArray) (b:ByteArray):jnT (x::l) b=x.data.toList++Lib.joinTail b.data.toList (l.map (·.data.toList)):=by
 unfold jnT;rw [List.map_cons,Lib.join_cons]
theorem shWithin(o b s:ByteArray) (A:Option Addr) (n c:Nat) (ss:List ByteArray) (w:World) (hR:RdT w A n ss) (hnc:n≤c) (hn:n≤1000000) (ho:o.size≤10000000) (hs:s.size≤10000000) (hj:(jnT ss b).length≤100000000):
 Calls Tryz.prog 88 #[.string o,.string b,.string s,.slice A n c] w fun e w'=>e=.returned (.string (winS o b s ss))∧Below w.heap.size w w':=by
 have HJ:=Hd (libJoin A n c ss b w hR hnc (by omega) (by unfold jnT at hj;omega));have HE:=Hd (show o++ofB (jnT ss b)++s=winS o b s ss from rfl);have hz:(ofB (jnT ss b)).size≤100000000:=by rw [ofB_sizeP];exact hj
 change Hid (Calls Tryz.prog 48 #[.slice A n c,.string b] w fun e w'=>e=.returned (.string (ofB (jnT ss b)))∧Below w.heap.size w w') at HJ
 clear hR hj;generalize winS o b s ss=wt at *;generalize ofB (jnT ss b)=j at *;have z1:(9223372036854775807<o.size+j.size)=False:=by rw [eq_iff_iff,iff_false];omega
 have z2:(9223372036854775807<o.size+j.size+s.size)=False:=by rw [eq_iff_iff,iff_false];omega
 go_enter Tryz.func88,Tryz.ntmps88
 go_wp2_with fail
 refine HJ.out.mono ?_;rintro r w2 ⟨rfl,hb⟩;have HB2:=Hd hb;clear hb
 go_wp2_with fail
 go_ret
 exact⟨ret_strV HE.out,HB2.out⟩
theorem shPhrase(A:Option Addr) (n c:Nat) (ss:List ByteArray) (w:World) (hR:RdT w A n ss) (hnc:n≤c) (hn:n≤1000000) (hj:(jnT ss ⟨#[32]⟩).length≤100000000):
 Calls Tryz.prog 120 #[.slice A n c] w fun e w'=>e=.returned (.string (winS ⟨#[40]⟩ ⟨#[32]⟩ ⟨#[41]⟩ ss))∧Below w.heap.size w w':=by
 have HJ:=Hd (shWithin ⟨#[40]⟩ ⟨#[32]⟩ ⟨#[41]⟩ A n c ss w hR hnc hn (by decide) (by decide) hj);clear hR hj;generalize winS ⟨#[40]⟩ ⟨#[32]⟩ ⟨#[41]⟩ ss=wt at *
 go_enter Tryz.func120,Tryz.ntmps120
 go_wp2_with fail
 refine HJ.out.mono ?_;rintro r w2 ⟨rfl,hb⟩;have HB2:=Hd hb;clear hb
 go_wp2_with fail
 go_ret
 exact⟨rfl,HB2.out⟩
theorem shList(o s:ByteArray) (A:Option Addr) (n c:Nat) (ss:List ByteArray) (w:World) (hR:RdT w A n ss) (hnc:n≤c) (hn:n≤1000000) (ho:o.size≤10000000) (hs:s.size≤10000000) (hj:(jnT ss ⟨#[44,32]⟩).length≤100000000):
 Calls Tryz.prog 54 #[.string o,.string s,.slice A n c] w fun e w'=>e=.returned (.string (winS o ⟨#[44,32]⟩ s ss))∧Below w.heap.size w w':=by
 have HJ:=Hd (shWithin o ⟨#[44,32]⟩ s A n c ss w hR hnc hn ho hs hj);clear hR hj;generalize winS o ⟨#[44,32]⟩ s ss=wt at *
 go_enter Tryz.func54,Tryz.ntmps54
 go_wp2_with fail
 refine HJ.out.mono ?_;rintro r w2 ⟨rfl,hb⟩;have HB2:=Hd hb;clear hb
 go_wp2_with fail
 go_ret
 exact⟨rfl,HB2.out⟩
theorem litT(w:World) (T:TypeId) (ss:List ByteArray) (n:Nat) (cs:Array Value) (hn:ss.length=n) (hm:n≤1000) (hcs:cs=(ss.map Value.string).toArray):
 RdT (w.alloc (.cells cs T)) (some ⟨w.heap.size,0,none⟩) n ss:=RdT.lit w T ss n hn (by omega) cs hcs
theorem shOn(name arm:ByteArray) (w:World) (h1:name.size≤1000000) (h2:arm.size≤1000000):
 Calls Tryz.prog 26 #[.string name,.string arm] w fun e w'=>e=.returned (.string (ofB (onL name.data.toList arm.data.toList)))∧Below w.heap.size w w':=by
 have z1:(9223372036854775807<4+name.size)=False:=by rw [eq_iff_iff,iff_false];omega
 have z2:(9223372036854775807<arm.size+1)=False:=by rw [eq_iff_iff,iff_false];omega
 have ht:=Lib.toList_data arm
 cases e1:(arm.toList==[116,114,117,101]) with
 | true=>
  have HE:=Hd (show name=ofB (onL name.data.toList arm.data.toList) by
   rw [ht] at e1;unfold onL;rw [if_pos (by simpa [trueL] using e1),ofB_self])
  clear ht
  go_enter Tryz.func26,Tryz.ntmps26
  go_wp2_with fail
  go_ret
  exact⟨ret_strV HE.out,Below.refl _ _⟩
 | false=>
  cases e2:(arm.toList==[102,97,108,115,101]) with
  | true=>
   have HE:=Hd (show(⟨#[110,111,116,32]⟩:ByteArray)++name=ofB (onL name.data.toList arm.data.toList) by
    rw [ht] at e1 e2;unfold onL;rw [if_neg (by simpa [trueL] using e1),if_pos (by simpa [falseL] using e2)];exact ba_ext (by rw [ofB_data];simp [notL]))
   clear ht
   go_enter Tryz.func26,Tryz.ntmps26
   go_wp2_with fail
   go_ret
   exact⟨ret_strV HE.out,Below.refl _ _⟩
  | false=>
   have HE:=Hd (show winS (arm++(⟨#[40]⟩:ByteArray)) ⟨#[44,32]⟩ ⟨#[41]⟩ [name]=ofB (onL name.data.toList arm.data.toList) by
    rw [ht] at e1 e2;unfold onL;rw [if_neg (by simpa [trueL] using e1),if_neg (by simpa [falseL] using e2)];exact ba_ext (by rw [ofB_data];simp [winS,jnT,Lib.join_one,ofB_data]))
   have HL:=Hd (shList (arm++(⟨#[40]⟩:ByteArray)) ⟨#[41]⟩ (some ⟨w.heap.size,0,none⟩) 1 1 [name] (w.alloc (.cells #[.string name] 9)) (litT w _ [name] 1 _ rfl (by decide) rfl) (Nat.le_refl _) (by decide) (by simp only [ByteArray.size_append];show arm.size+1≤_;omega) (by decide) (by simp [jnT,Lib.join_one];omega));have HA:=Hd ((Below.refl w.heap.size w).alloc (Nat.le_refl _) (.cells #[.string name] 9));clear ht;rw [HE.out] at HL;clear HE;generalize ofB (onL name.data.toList arm.data.toList)=wt at *
   go_enter Tryz.func26,Tryz.ntmps26
   go_wp2_with fail
   refine HL.out.mono ?_;rintro r w2 ⟨rfl,hb⟩;have HB2:=Hd (HA.out.trans (hb.mono HA.out.size));clear hb
   go_wp2_with fail
   go_ret
   exact⟨rfl,HB2.out⟩
def unL(op:Int) (t:List UInt8):List UInt8:=if op=1 then 40::45::(t++[41]) else 40::(notL++32::(t++[41]))
theorem shUnary(op:Int) (t:ByteArray) (w:World) (h:op=1∨op=2) (h1:t.size≤10000000):
 Calls Tryz.prog 119 #[.int .i64 op,.string t] w fun e w'=>e=.returned (.string (ofB (unL op t.data.toList)))∧Below w.heap.size w w':=by
 have hts:t.data.toList.length=t.size:=by simp
 rcases h with rfl | rfl
 · have HS:=Hd (arSign 1 w);rw [show signS 1=⟨#[45]⟩ from rfl] at HS
   have HE:=Hd (show winS ⟨#[40]⟩ ⟨#[]⟩ ⟨#[41]⟩ [⟨#[45]⟩,t]=ofB (unL 1 t.data.toList) from ba_ext (by
    rw [ofB_data]
    simp [winS,jn_cons,Lib.joinTail,ofB_data,unL]))
   have HL:=Hd (shWithin ⟨#[40]⟩ ⟨#[]⟩ ⟨#[41]⟩ (some ⟨w.heap.size,0,none⟩) 2 2 [⟨#[45]⟩,t] (w.alloc (.cells #[.string ⟨#[45]⟩,.string t] 9)) (litT w _ [⟨#[45]⟩,t] 2 _ rfl (by decide) rfl) (Nat.le_refl _) (by decide) (by decide) (by decide) (by simp [jn_cons,Lib.joinTail];omega));have HA:=Hd ((Below.refl w.heap.size w).alloc (Nat.le_refl _) (.cells #[.string ⟨#[45]⟩,.string t] 9));rw [HE.out] at HL;clear HE hts;generalize ofB (unL 1 t.data.toList)=wt at *
   go_enter Tryz.func119,Tryz.ntmps119
   go_wp2_with fail
   refine HS.out.mono ?_;rintro r w1 ⟨rfl,rfl⟩
   go_wp2_with fail
   refine HL.out.mono ?_;rintro r w2 ⟨rfl,hb⟩;have HB2:=Hd (HA.out.trans (hb.mono HA.out.size));clear hb
   go_wp2_with fail
   go_ret
   exact⟨rfl,HB2.out⟩
 · have HS:=Hd (arSign 2 w);rw [show signS 2=⟨#[110,111,116]⟩ from rfl] at HS
   have HE:=Hd (show winS ⟨#[40]⟩ ⟨#[32]⟩ ⟨#[41]⟩ [⟨#[110,111,116]⟩,t]=ofB (unL 2 t.data.toList) from ba_ext (by
    rw [ofB_data]
    simp [winS,jn_cons,Lib.joinTail,ofB_data,unL,notL]))
   have HL:=Hd (shPhrase (some ⟨w.heap.size,0,none⟩) 2 2 [⟨#[110,111,116]⟩,t] (w.alloc (.cells #[.string ⟨#[110,111,116]⟩,.string t] 9)) (litT w _ [⟨#[110,111,116]⟩,t] 2 _ rfl (by decide) rfl) (Nat.le_refl _) (by decide) (by simp [jn_cons,Lib.joinTail];omega));have HA:=Hd ((Below.refl w.heap.size w).alloc (Nat.le_refl _) (.cells #[.string ⟨#[110,111,116]⟩,.string t] 9));rw [HE.out] at HL;clear HE hts;generalize ofB (unL 2 t.data.toList)=wt at *
   go_enter Tryz.func119,Tryz.ntmps119
   go_wp2_with fail
   refine HS.out.mono ?_;rintro r w1 ⟨rfl,rfl⟩
   go_wp2_with fail
   refine HL.out.mono ?_;rintro r w2 ⟨rfl,hb⟩;have HB2:=Hd (HA.out.trans (hb.mono HA.out.size));clear hb
   go_wp2_with fail
   go_ret
   exact⟨rfl,HB2.out⟩
end
end Go.Proofs.YtpedcgpcchbhpaaGreatDoor
