/- Parts of the proof: PcH, PcI. Conditions: each theorem's own. -/
import Derived.Test.YtokiaaapgkdpmaaGreatDoorV11
import Derived.Test.YtokiaaapgkdpmaaGreatDoorV39
import Derived.Test.YtokiaaapgkdpmaaGreatDoorV42
namespace Go.Proofs.YtokiaaapgkdpmaaGreatDoor
set_option linter.unusedVariables false
set_option linter.unusedSimpArgs false
set_option maxRecDepth 100000
set_option maxHeartbeats 40000000
section
open Go.RowKit Go.Sort
def liveL:List UInt8:=[97,32,43,32,49,32,42,32,98]
def liveT:List Tk:=[⟨1,[97],0,0⟩,⟨5,[43],0,2⟩,⟨3,[49],1,4⟩,⟨5,[42],0,6⟩,⟨1,[98],0,8⟩]
def liveX:Ex:=.mk 6 0 ByteArray.empty 3 [] [.mk 3 0 (ofB [97]) 0 [] [],.mk 6 0 ByteArray.empty 5 [] [.mk 1 1 ByteArray.empty 0 [] [],.mk 3 0 (ofB [98]) 0 [] []]]
theorem live_lex:lexL 0 liveL=(liveT,none):=by
 have e9:lexL 9 []=([],none):=lex_nil 9;have e8:lexL 8 [98]=(⟨1,[98],0,8⟩::(lexL 9 []).1,(lexL 9 []).2):=lex_tok (t:=⟨1,[98],0,0⟩) (z:=1) (by kernel_rfl) (by kernel_rfl);rw [e9] at e8;have e7:lexL 7 [32,98]=lexL 8 [98]:=lex_blank (by decide);rw [e8] at e7;have e6:lexL 6 [42,32,98]=(⟨5,[42],0,6⟩::(lexL 7 [32,98]).1,(lexL 7 [32,98]).2):=lex_tok (t:=⟨5,[42],0,0⟩) (z:=1) (by kernel_rfl) (by kernel_rfl);rw [e7] at e6;have e5:lexL 5 [32,42,32,98]=lexL 6 [42,32,98]:=lex_blank (by decide);rw [e6] at e5;have e4:lexL 4 [49,32,42,32,98]=(⟨3,[49],1,4⟩::(lexL 5 [32,42,32,98]).1,(lexL 5 [32,42,32,98]).2):=lex_tok (t:=⟨3,[49],1,0⟩) (z:=1) (by kernel_rfl) (by kernel_rfl);rw [e5] at e4;have e3:lexL 3 [32,49,32,42,32,98]=lexL 4 [49,32,42,32,98]:=lex_blank (by decide);rw [e4] at e3;have e2:lexL 2 [43,32,49,32,42,32,98]=(⟨5,[43],0,2⟩::(lexL 3 [32,49,32,42,32,98]).1,(lexL 3 [32,49,32,42,32,98]).2):=lex_tok (t:=⟨5,[43],0,0⟩) (z:=1) (by kernel_rfl) (by kernel_rfl);rw [e3] at e2;have e1:lexL 1 [32,43,32,49,32,42,32,98]=lexL 2 [43,32,49,32,42,32,98]:=lex_blank (by decide);rw [e2] at e1;have e0:lexL 0 [97,32,43,32,49,32,42,32,98]=(⟨1,[97],0,0⟩::(lexL 1 [32,43,32,49,32,42,32,98]).1,(lexL 1 [32,43,32,49,32,42,32,98]).2):=lex_tok (t:=⟨1,[97],0,0⟩) (z:=1) (by kernel_rfl) (by kernel_rfl);rw [e1] at e0;exact e0
theorem live_read:(psN 10000).ar (liveT++[⟨6,[],0,9⟩])=.ok liveX [⟨6,[],0,9⟩]:=by kernel_rfl
theorem live_text:textL liveX=[40,97,32,43,32,40,49,32,42,32,98,41,41]:=by kernel_rfl
theorem live_right:rightX liveX=true:=by kernel_rfl
theorem live_size:sizeX liveX=5:=by kernel_rfl
theorem psN_ar(n:Nat):(psN (n+1)).ar=arrowP (psN n):=rfl
theorem right_small{x:Ex}(h:rightX x=true):¬ (60<sizeX x∨12<depthX x):=by
 simp only [rightX,Bool.and_eq_true,Bool.not_eq_true',decide_eq_false_iff_not] at h;omega
theorem exprO_of{N:Nat}{s:ByteArray}{ts:List Tk}{x:Ex}(hs:¬ 6000<s.size) (hl:lexL 0 s.data.toList=(ts,none)) (hp:(psN N).ar (ts++[⟨6,[],0,s.size⟩])=.ok x [⟨6,[],0,s.size⟩]) (hx:rightX x=true):exprO N s=(x,(s.size:Int),0):=by
 have ht:toksL s=ts++[⟨6,[],0,s.size⟩]:=by simp [toksL,hl]
 have hb:beginsB (toksL s) 0=true:=end_begins (toks_good s).2.2;have hpo:=partO_ok (N:=N) (at_:=0) hb (by rw [ht];exact hp) (right_small hx) hx
 have hk:tokAt (toksL s) (((toksL s).length - [(⟨6,[],0,s.size⟩:Tk)].length:Nat):Int)=⟨6,[],0,s.size⟩:=by
  rw [ht]
  simp [tokAt]
 unfold exprO;rw [if_neg hs,hl];simp only [hpo];rw [if_pos trivial,hk,if_pos rfl]
theorem ofB_list(l:List UInt8):(ofB l).data.toList=l:=by simp [ofB]
theorem textS_of{x:Ex}(h:rightX x=true):textS x=ofB (textL x):=by rw [textS,if_pos h]
theorem back_read{x:Ex}(hr:rightX x=true) (hn:∀ p∈partsX x,NumP p) (hs:¬ 6000<(textS x).size):
 ∃ ts,lexL 0 (textS x).data.toList=(ts,none)∧(psN 10000).ar (ts++[⟨6,[],0,(textS x).size⟩])=.ok x [⟨6,[],0,(textS x).size⟩]:=by
 obtain⟨ts,e,hne,k⟩:=text_back (right_ok hr) hn;have e2:lexL 0 (textS x).data.toList=(ts,none):=by rw [textS_of hr,ofB_list];exact e
 have ht:toksL (textS x)=ts++[⟨6,[],0,(textS x).size⟩]:=by simp [toksL,e2]
 have hl:=(toks_good (textS x)).2.1;rw [ht] at hl;simp only [List.length_append,List.length_cons,List.length_nil] at hl;refine⟨ts,e2,?_⟩;rw [psN_ar 9999];exact k 9999 _ (by omega)
theorem back_exprO{x:Ex}(hr:rightX x=true) (hn:∀ p∈partsX x,NumP p) (hs:¬ 6000<(textS x).size):exprO 10000 (textS x)=(x,((textS x).size:Int),0):=by
 obtain⟨ts,e,k⟩:=back_read hr hn hs;exact exprO_of hs e k hr
theorem back_short{x:Ex}(hr:rightX x=true) (hn:∀ p∈partsX x,NumP p) (hs:¬ 6000<(textS x).size) (hsh:∀ p∈partsX x,ShortP p):
 (textS x).size≤6000→∀ y r1,(psN 10000).ar (toksL (textS x))=.ok y r1→sizeX y≤60→∀ p∈partsX y,ShortP p:=fun _ y r1 hy _=>by
 obtain⟨ts,e,k⟩:=back_read hr hn hs;have ht:toksL (textS x)=ts++[⟨6,[],0,(textS x).size⟩]:=by simp [toksL,e]
 rw [ht,k] at hy;injection hy with hy;subst hy;exact hsh
mutual
theorem capX_plain{w:World}:∀ (x:Ex) (B:Option Addr),(∀ p∈partsX x,p.k≠13)→capX w x B
 | .mk k n s op arms subs,B,h=>by
  simp only [capX];exact fun b off _=>capXs_plain subs b off fun p hp=>h p (by simp only [partsX,List.mem_cons];exact .inr hp)
theorem capXs_plain{w:World}:∀ (l:List Ex) (b off:Nat),(∀ p∈partssX l,p.k≠13)→capXs w l b off
 | [],_,_,_=>by simp only [capXs]
 | x::l,b,off,h=>by
  simp only [capXs];have hx:∀ p∈partsX x,p.k≠13:=fun p hp=>h p (by simp only [partssX,List.mem_append];exact .inl hp);exact⟨fun A ca B cb _=>⟨fun hk=>absurd hk (hx x (by rw [partsX_eq];exact List.mem_cons_self)),capX_plain x B hx⟩,capXs_plain l b (off+6) fun p hp=>h p (by simp only [partssX,List.mem_append];exact .inr hp)⟩
end
def liveS:ByteArray:=⟨#[97,32,43,32,49,32,42,32,98]⟩
theorem live_exprO:exprO 10000 liveS=(liveX,9,0):=exprO_of (s:=liveS) (by decide) live_lex live_read live_right
theorem live_textS:textS liveX=⟨#[40,97,32,43,32,40,49,32,42,32,98,41,41]⟩:=by
 rw [textS_of live_right,live_text];rfl
theorem live_parts:partsX liveX=[liveX,.mk 3 0 (ofB [97]) 0 [] [],.mk 6 0 ByteArray.empty 5 [] [.mk 1 1 ByteArray.empty 0 [] [],.mk 3 0 (ofB [98]) 0 [] []],.mk 1 1 ByteArray.empty 0 [] [],.mk 3 0 (ofB [98]) 0 [] []]:=by kernel_rfl
theorem live_all{Q:Ex→Prop}(h0:Q liveX) (h1:Q (.mk 3 0 (ofB [97]) 0 [] [])) (h2:Q (.mk 6 0 ByteArray.empty 5 [] [.mk 1 1 ByteArray.empty 0 [] [],.mk 3 0 (ofB [98]) 0 [] []])) (h3:Q (.mk 1 1 ByteArray.empty 0 [] [])) (h4:Q (.mk 3 0 (ofB [98]) 0 [] [])):∀ p∈partsX liveX,Q p:=by
 rw [live_parts];intro p hp;simp only [List.mem_cons,List.not_mem_nil,or_false] at hp;rcases hp with rfl | rfl | rfl | rfl | rfl <;> assumption
theorem live_short:∀ p∈partsX liveX,ShortP p:=
 live_all ⟨by decide,fun t h=>(by cases h),by decide⟩ ⟨by decide,fun t h=>(by cases h),by decide⟩ ⟨by decide,fun t h=>(by cases h),by decide⟩ ⟨by decide,fun t h=>(by cases h),by decide⟩ ⟨by decide,fun t h=>(by cases h),by decide⟩
theorem live_num:∀ p∈partsX liveX,NumP p:=
 live_all ⟨by decide,by decide,by decide⟩ ⟨by decide,by decide,by decide⟩ ⟨by decide,by decide,by decide⟩ ⟨by decide,by decide,by decide⟩ ⟨by decide,by decide,by decide⟩
theorem live_call:∀ p∈partsX liveX,p.k≠13:=live_all (by decide) (by decide) (by decide) (by decide) (by decide)
theorem lawNum(x:Int) (w:World):Calls Tryz.prog 10 #[.int .i64 x] w fun e w'=>e=.returned (.int .i64 x)∧w=w':=by
 go_enter Tryz.func10,Tryz.ntmps10
 go_wp2
 go_ret
 exact⟨rfl,rfl⟩
theorem live_any(w:World) (hv:Vars w):Calls Tryz.prog 6 #[] w fun e w'=>e=.returned (.bool true)∧Below w.heap.size w w':=by
 have HE:=Hd (paExpr 10000 liveS (by decide) hv (by decide) (fun _=>short_text (by decide) (by decide)));rw [live_exprO] at HE;clear hv;have HTX:=Hd fun A1 ca B1 cb w1 (h:rdX w1 liveX A1 B1)=>refExpr liveX A1 ca B1 cb w1 h (fun h=>absurd h (by decide)) (capX_plain liveX B1 live_call) (by rw [live_size];decide) live_short live_num;simp only [live_textS] at HTX
 go_enter Tryz.func6,Tryz.ntmps6
 go_wp2_with fail
 refine HE.out.mono ?_;rintro e w2 ⟨hb2,A1,ca,B1,cb,rfl,hrd⟩;have HB2:=Hd hb2;have HRD2:=Hd hrd;clear hb2 hrd;simp only;generalize liveX=x at *;unfold exA at HTX ⊢
 go_upto_region 2 with(fail)
 have hal:=(Below.refl w2.heap.size w2).alloc (Nat.le_refl _) (.cells (exA x A1 ca B1 cb) 26);have HE3:=Hd (show RowX (w2.alloc (.cells (exA x A1 ca B1 cb) 26)) w2.heap.size x A1 ca B1 cb from heap_alloc_new _ _);have HB3:=Hd (HB2.out.trans (hal.mono HB2.out.size));have HRD3:=Hd (HRD2.out.below hal);unfold exA at HE3 HB3 HRD3;clear hal;generalize w2.alloc _=w3 at *;generalize w2.heap.size=eb at *;obtain⟨e0,e1,e2,e3,e4,e5⟩:=HE3.out.cells;have HCX:=Hd (HTX.out A1 ca B1 cb w3 HRD3.out);clear HTX
 go_wp2_with fail
 refine(lawNum _ _).mono ?_;rintro r w4 ⟨rfl,rfl⟩
 go_wp2_with fail
 refine HCX.out.mono ?_;rintro r w4 ⟨rfl,hb4⟩;have HB4:=Hd (HB3.out.trans (hb4.mono HB3.out.size));clear hb4 e0 e1 e2 e3 e4 e5
 go_wp2_with fail
 go_ret
 exact⟨rfl,HB4.out⟩
end
section
open Go.RowKit Go.Sort
theorem tiny_size{x:Ex}(h:tinyX x=true):sizeX x≤1000000:=by
 simp only [tinyX,Bool.and_eq_true,decide_eq_true_eq] at h;omega
theorem tiny_short{x:Ex}(h:tinyX x=true):∀ p∈partsX x,ShortP p:=by
 simp only [tinyX,Bool.and_eq_true,List.all_eq_true] at h;exact fun p hp=>ShortP.of_few (h.2 p hp)
theorem num_of{x:Ex}(hok:OkX x) (hsh:∀ p∈partsX x,ShortP p):∀ p∈partsX x,NumP p:=fun p hp=>by
 have h:=(hok p hp).2.2.2.1
 simp [Lit.wf,IntKind.min,IntKind.max,IntKind.signed,IntKind.bits] at h
 exact⟨(hsh p hp).1,by omega,by omega⟩
theorem sameX_refl:∀ x:Ex,sameX x x=true:=by
 refine size_ind fun x ih=>?_;rw [sameX_eq,sameT_refl,sameXs_yes rfl fun i hi=>ih i hi]
 simp
theorem back_far(x:Ex) (A:Option Addr) (ca:Nat) (B:Option Addr) (cb:Nat) (w:World) (hr:rdX w x A B) (hok:OkX x) (hcb:x.subs.length≤cb) (hc:capX w x B) (hv:Vars w) (ht:tinyX x=false):
 Calls Tryz.prog 5 #[.agg (exA x A ca B cb)] w fun e w'=>e=.returned (.bool true)∧Below w.heap.size w w':=by
 have HV:=Hd hv;have HF:=Hd fun w1 h=>box_facts w x A ca B cb w1 h hr;have HTX:=Hd fun w1 (h:Below w.heap.size w w1)=>refSmall x A ca B cb w1 (hr.below h);clear hr hc hok hv hcb;rw [ht] at HTX;clear ht;unfold exA at HF HTX ⊢
 go_enter Tryz.func5,Tryz.ntmps5
 go_upto_region 1 with(fail)
 generalize hw1:w.alloc _=w1;obtain⟨hb1,hg,hr1,hcell⟩:=HF.out w1 hw1;have HB1:=Hd hb1;have HC:=Hd hcell;have HW1:=Hd (Below.refl w1.heap.size w1);clear hb1 hr1 hcell hw1 HF hg;obtain⟨q0,q1,q2,q3,q4,q5⟩:=Sx (HC.out w1 HW1.out)
 go_wp2_with fail
 refine(HTX.out w1 HB1.out).mono ?_;rintro r w2 ⟨rfl,hb⟩;have HB2:=Hd (HB1.out.trans (hb.mono HB1.out.size));have HW2:=Hd (HW1.out.trans (hb.mono HW1.out.size));clear hb q0 q1 q2 q3 q4 q5;obtain⟨q0,q1,q2,q3,q4,q5⟩:=Sx (HC.out w2 HW2.out)
 go_wp2_with fail
 refine(live_any w2 (HV.out.below HB2.out)).mono ?_;rintro r wl ⟨rfl,hbl⟩;have HBL:=Hd (HB2.out.trans (hbl.mono HB2.out.size));clear hbl
 go_wp2_with fail
 go_ret
 exact⟨rfl,HBL.out⟩
theorem back_wrong(x:Ex) (A:Option Addr) (ca:Nat) (B:Option Addr) (cb:Nat) (w:World) (hr:rdX w x A B) (hok:OkX x) (hcb:x.subs.length≤cb) (hc:capX w x B) (hv:Vars w) (ht:tinyX x=true) (hrt:rightX x=false):
 Calls Tryz.prog 5 #[.agg (exA x A ca B cb)] w fun e w'=>e=.returned (.bool true)∧Below w.heap.size w w':=by
 have HV:=Hd hv;have HF:=Hd fun w1 h=>box_facts w x A ca B cb w1 h hr;have HTX:=Hd fun w1 (h:Below w.heap.size w w1)=>refSmall x A ca B cb w1 (hr.below h);have HRT:=Hd fun w1 (h:Below w.heap.size w w1)=>refRight x A ca B cb w1 (hr.below h) (tiny_size ht) (tiny_short ht);clear hr hc hok hv hcb;rw [ht] at HTX;rw [hrt] at HRT;clear ht hrt;unfold exA at HF HTX HRT ⊢
 go_enter Tryz.func5,Tryz.ntmps5
 go_upto_region 1 with(fail)
 generalize hw1:w.alloc _=w1;obtain⟨hb1,hg,hr1,hcell⟩:=HF.out w1 hw1;have HB1:=Hd hb1;have HC:=Hd hcell;have HW1:=Hd (Below.refl w1.heap.size w1);clear hb1 hr1 hcell hw1 HF hg;obtain⟨q0,q1,q2,q3,q4,q5⟩:=Sx (HC.out w1 HW1.out)
 go_wp2_with fail
 refine(HTX.out w1 HB1.out).mono ?_;rintro r w2 ⟨rfl,hb⟩;have HB2:=Hd (HB1.out.trans (hb.mono HB1.out.size));have HW2:=Hd (HW1.out.trans (hb.mono HW1.out.size));clear hb q0 q1 q2 q3 q4 q5;obtain⟨q0,q1,q2,q3,q4,q5⟩:=Sx (HC.out w2 HW2.out)
 go_wp2_with fail
 refine(HRT.out w2 HB2.out).mono ?_;rintro r w3 ⟨rfl,hb⟩;have HB3:=Hd (HB2.out.trans (hb.mono HB2.out.size));have HW3:=Hd (HW2.out.trans (hb.mono HW2.out.size));clear hb q0 q1 q2 q3 q4 q5;obtain⟨q0,q1,q2,q3,q4,q5⟩:=Sx (HC.out w3 HW3.out)
 go_wp2_with fail
 refine(live_any w3 (HV.out.below HB3.out)).mono ?_;rintro r wl ⟨rfl,hbl⟩;have HBL:=Hd (HB3.out.trans (hbl.mono HB3.out.size));clear hbl
 go_wp2_with fail
 go_ret
 exact⟨rfl,HBL.out⟩
theorem back_long(x:Ex) (A:Option Addr) (ca:Nat) (B:Option Addr) (cb:Nat) (w:World) (hr:rdX w x A B) (hok:OkX x) (hcb:x.subs.length≤cb) (hc:capX w x B) (hv:Vars w) (ht:tinyX x=true) (hrt:rightX x=true) (hs:6000<(textS x).size):
 Calls Tryz.prog 5 #[.agg (exA x A ca B cb)] w fun e w'=>e=.returned (.bool true)∧Below w.heap.size w w':=by
 have HV:=Hd hv;have HF:=Hd fun w1 h=>box_facts w x A ca B cb w1 h hr;have HTX:=Hd fun w1 (h:Below w.heap.size w w1)=>refSmall x A ca B cb w1 (hr.below h);have HRT:=Hd fun w1 (h:Below w.heap.size w w1)=>refRight x A ca B cb w1 (hr.below h) (tiny_size ht) (tiny_short ht);have HEX:=Hd fun w1 (h:Below w.heap.size w w1)=>refExpr x A ca B cb w1 (hr.below h) (fun _=>hcb) (hc.below hr h) (tiny_size ht) (tiny_short ht) (num_of hok (tiny_short ht));clear hr hc hok hv hcb;rw [ht] at HTX;rw [hrt] at HRT;clear ht hrt;unfold exA at HF HTX HRT HEX ⊢;generalize textS x=ts at *;have d1:decide ((6000:Int)<(ts.size:Int))=true:=decide_eq_true (by omega);have d2:decide (6000<ts.size)=true:=decide_eq_true hs;have HD:=Hd hs;clear hs
 go_enter Tryz.func5,Tryz.ntmps5
 go_upto_region 1 with(fail)
 generalize hw1:w.alloc _=w1;obtain⟨hb1,hg,hr1,hcell⟩:=HF.out w1 hw1;have HB1:=Hd hb1;have HC:=Hd hcell;have HW1:=Hd (Below.refl w1.heap.size w1);clear hb1 hr1 hcell hw1 HF hg;obtain⟨q0,q1,q2,q3,q4,q5⟩:=Sx (HC.out w1 HW1.out)
 go_wp2_with fail
 refine(HTX.out w1 HB1.out).mono ?_;rintro r w2 ⟨rfl,hb⟩;have HB2:=Hd (HB1.out.trans (hb.mono HB1.out.size));have HW2:=Hd (HW1.out.trans (hb.mono HW1.out.size));clear hb q0 q1 q2 q3 q4 q5;obtain⟨q0,q1,q2,q3,q4,q5⟩:=Sx (HC.out w2 HW2.out)
 go_wp2_with fail
 refine(HRT.out w2 HB2.out).mono ?_;rintro r w3 ⟨rfl,hb⟩;have HB3:=Hd (HB2.out.trans (hb.mono HB2.out.size));have HW3:=Hd (HW2.out.trans (hb.mono HW2.out.size));clear hb q0 q1 q2 q3 q4 q5;obtain⟨q0,q1,q2,q3,q4,q5⟩:=Sx (HC.out w3 HW3.out)
 go_wp2_with fail
 refine(HEX.out w3 HB3.out).mono ?_;rintro r w4 ⟨rfl,hb⟩;have HB4:=Hd (HB3.out.trans (hb.mono HB3.out.size));have HW4:=Hd (HW3.out.trans (hb.mono HW3.out.size));clear hb q0 q1 q2 q3 q4 q5;obtain⟨q0,q1,q2,q3,q4,q5⟩:=Sx (HC.out w4 HW4.out)
 go_wp2_with fail
 refine(live_any w4 (HV.out.below HB4.out)).mono ?_;rintro r wl ⟨rfl,hbl⟩;have HBL:=Hd (HB4.out.trans (hbl.mono HB4.out.size));clear hbl
 go_wp2_with fail
 go_ret
 exact⟨rfl,HBL.out⟩
theorem back_read_(x:Ex) (A:Option Addr) (ca:Nat) (B:Option Addr) (cb:Nat) (w:World) (hr:rdX w x A B) (hok:OkX x) (hcb:x.subs.length≤cb) (hc:capX w x B) (hv:Vars w) (ht:tinyX x=true) (hrt:rightX x=true) (hs:¬ 6000<(textS x).size):
 Calls Tryz.prog 5 #[.agg (exA x A ca B cb)] w fun e w'=>e=.returned (.bool true)∧Below w.heap.size w w':=by
 have HV:=Hd hv;have HF:=Hd fun w1 h=>box_facts w x A ca B cb w1 h hr;have HTX:=Hd fun w1 (h:Below w.heap.size w w1)=>refSmall x A ca B cb w1 (hr.below h);have HRT:=Hd fun w1 (h:Below w.heap.size w w1)=>refRight x A ca B cb w1 (hr.below h) (tiny_size ht) (tiny_short ht);have HEX:=Hd fun w1 (h:Below w.heap.size w w1)=>refExpr x A ca B cb w1 (hr.below h) (fun _=>hcb) (hc.below hr h) (tiny_size ht) (tiny_short ht) (num_of hok (tiny_short ht));have HPE:=Hd fun w1 (h:Below w.heap.size w w1)=>paExpr 10000 (textS x) (by omega) (hv.below h) (by decide) (back_short hrt (num_of hok (tiny_short ht)) hs (tiny_short ht));rw [back_exprO hrt (num_of hok (tiny_short ht)) hs] at HPE;have HSM:=Hd fun A1 ca1 B1 cb1 w1 (h:rdX w1 x A1 B1) (h2:Below w.heap.size w w1)=>refSame x A1 ca1 B1 cb1 x A ca B cb w1 h (hr.below h2);have hsf:=sameX_refl x;rw [hsf] at HSM;clear hr hc hok hv hcb hsf;rw [ht] at HTX;rw [hrt] at HRT;clear ht hrt;unfold exA at HF HTX HRT HEX HSM ⊢;generalize textS x=ts at *;have d1:decide ((6000:Int)<(ts.size:Int))=false:=decide_eq_false (by omega);have d2:decide (6000<ts.size)=false:=decide_eq_false hs;have HD:=Hd hs;clear hs
 go_enter Tryz.func5,Tryz.ntmps5
 go_upto_region 1 with(fail)
 generalize hw1:w.alloc _=w1;obtain⟨hb1,hg,hr1,hcell⟩:=HF.out w1 hw1;have HB1:=Hd hb1;have HC:=Hd hcell;have HW1:=Hd (Below.refl w1.heap.size w1);clear hb1 hr1 hcell hw1 HF hg;obtain⟨q0,q1,q2,q3,q4,q5⟩:=Sx (HC.out w1 HW1.out)
 go_wp2_with fail
 refine(HTX.out w1 HB1.out).mono ?_;rintro r w2 ⟨rfl,hb⟩;have HB2:=Hd (HB1.out.trans (hb.mono HB1.out.size));have HW2:=Hd (HW1.out.trans (hb.mono HW1.out.size));clear hb q0 q1 q2 q3 q4 q5;obtain⟨q0,q1,q2,q3,q4,q5⟩:=Sx (HC.out w2 HW2.out)
 go_wp2_with fail
 refine(HRT.out w2 HB2.out).mono ?_;rintro r w3 ⟨rfl,hb⟩;have HB3:=Hd (HB2.out.trans (hb.mono HB2.out.size));have HW3:=Hd (HW2.out.trans (hb.mono HW2.out.size));clear hb q0 q1 q2 q3 q4 q5;obtain⟨q0,q1,q2,q3,q4,q5⟩:=Sx (HC.out w3 HW3.out)
 go_wp2_with fail
 refine(HEX.out w3 HB3.out).mono ?_;rintro r w4 ⟨rfl,hb⟩;have HB4:=Hd (HB3.out.trans (hb.mono HB3.out.size));have HW4:=Hd (HW3.out.trans (hb.mono HW3.out.size));clear hb q0 q1 q2 q3 q4 q5;obtain⟨q0,q1,q2,q3,q4,q5⟩:=Sx (HC.out w4 HW4.out)
 go_wp2_with fail
 refine(HPE.out w4 HB4.out).mono ?_;rintro e w5 ⟨hb,A1,ca1,B1,cb1,rfl,hrd⟩;have HRD5:=Hd hrd;clear hrd;have HB5:=Hd (HB4.out.trans (hb.mono HB4.out.size));have HW5:=Hd (HW4.out.trans (hb.mono HW4.out.size));clear hb q0 q1 q2 q3 q4 q5;obtain⟨q0,q1,q2,q3,q4,q5⟩:=Sx (HC.out w5 HW5.out);simp only;unfold exA
 go_upto_region 7 with(fail)
 have hal:=(Below.refl w5.heap.size w5).alloc (Nat.le_refl _) (.cells (exA x A1 ca1 B1 cb1) 26);have HE6:=Hd (show RowX (w5.alloc (.cells (exA x A1 ca1 B1 cb1) 26)) w5.heap.size x A1 ca1 B1 cb1 from heap_alloc_new _ _);have HB6:=Hd (HB5.out.trans (hal.mono HB5.out.size));have HW6:=Hd (HW5.out.trans (hal.mono HW5.out.size));have HRD6:=Hd (HRD5.out.below hal);unfold exA at HE6 HB6 HW6 HRD6;clear hal q0 q1 q2 q3 q4 q5;generalize w5.alloc _=w6 at *;generalize w5.heap.size=eb at *;obtain⟨e0,e1,e2,e3,e4,e5⟩:=HE6.out.cells;obtain⟨q0,q1,q2,q3,q4,q5⟩:=Sx (HC.out w6 HW6.out);have HSS:=Hd (HSM.out A1 ca1 B1 cb1 w6 HRD6.out HB6.out)
 go_wp2_with fail
 refine(lawNum _ _).mono ?_;rintro r w7 ⟨rfl,rfl⟩
 go_wp2_with fail
 refine HSS.out.mono ?_;rintro r w7 ⟨rfl,hb⟩;have HB7:=Hd (HB6.out.trans (hb.mono HB6.out.size));clear hb q0 q1 q2 q3 q4 q5 e0 e1 e2 e3 e4 e5
 go_wp2_with fail
 refine(live_any w7 (HV.out.below HB7.out)).mono ?_;rintro r wl ⟨rfl,hbl⟩;have HBL:=Hd (HB7.out.trans (hbl.mono HB7.out.size));clear hbl
 go_wp2_with fail
 go_ret
 exact⟨rfl,HBL.out⟩
theorem walkBack(x:Ex) (A:Option Addr) (ca:Nat) (B:Option Addr) (cb:Nat) (w:World) (hr:rdX w x A B) (hok:OkX x) (hcb:x.subs.length≤cb) (hc:capX w x B) (hv:Vars w):
 Calls Tryz.prog 5 #[.agg (exA x A ca B cb)] w fun e w'=>e=.returned (.bool true)∧Below w.heap.size w w':=by
 cases ht:tinyX x with
 | false=>exact back_far x A ca B cb w hr hok hcb hc hv ht
 | true=>
  cases hrt:rightX x with
  | false=>exact back_wrong x A ca B cb w hr hok hcb hc hv ht hrt
  | true=>
   by_cases hs:6000<(textS x).size
   · exact back_long x A ca B cb w hr hok hcb hc hv ht hrt hs
   · exact back_read_ x A ca B cb w hr hok hcb hc hv ht hrt hs
end
end Go.Proofs.YtokiaaapgkdpmaaGreatDoor
