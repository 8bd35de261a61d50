/- Parts: PcK. Conditions: each theorem's own. -/
import Derived.Test.YtokiaaapgkdpmaaGreatDoorU41
namespace Go.Proofs.YtokiaaapgkdpmaaGreatDoor
set_option linter.unusedVariables false
set_option linter.unusedSimpArgs false
set_option maxRecDepth 100000
set_option maxHeartbeats 40000000
section
open Go.RowKit Go.Sort
def liveL:List UInt8:=[97,32,43,32,49,32,42,32,98]
def liveT:List Tk:=[⟨1,[97],0,0⟩,⟨5,[43],0,2⟩,⟨3,[49],1,4⟩,⟨5,[42],0,6⟩,⟨1,[98],0,8⟩]
def liveX:Ex:=.mk 6 0 ByteArray.empty 3 [] [.mk 3 0 (ofB [97]) 0 [] [],.mk 6 0 ByteArray.empty 5 [] [.mk 1 1 ByteArray.empty 0 [] [],.mk 3 0 (ofB [98]) 0 [] []]]
theorem live_lex:lexL 0 liveL=(liveT,none):=by
 have e9:lexL 9 []=([],none):=lex_nil 9;have e8:lexL 8 [98]=(⟨1,[98],0,8⟩::(lexL 9 []).1,(lexL 9 []).2):=lex_tok (t:=⟨1,[98],0,0⟩) (z:=1) (by kernel_rfl) (by kernel_rfl);rw[e9] at e8;have e7:lexL 7 [32,98]=lexL 8 [98]:=lex_blank (by decide);rw[e8] at e7;have e6:lexL 6 [42,32,98]=(⟨5,[42],0,6⟩::(lexL 7 [32,98]).1,(lexL 7 [32,98]).2):=lex_tok (t:=⟨5,[42],0,0⟩) (z:=1) (by kernel_rfl) (by kernel_rfl);rw[e7] at e6;have e5:lexL 5 [32,42,32,98]=lexL 6 [42,32,98]:=lex_blank (by decide);rw[e6] at e5;have e4:lexL 4 [49,32,42,32,98]=(⟨3,[49],1,4⟩::(lexL 5 [32,42,32,98]).1,(lexL 5 [32,42,32,98]).2):=lex_tok (t:=⟨3,[49],1,0⟩) (z:=1) (by kernel_rfl) (by kernel_rfl);rw[e5] at e4;have e3:lexL 3 [32,49,32,42,32,98]=lexL 4 [49,32,42,32,98]:=lex_blank (by decide);rw[e4] at e3;have e2:lexL 2 [43,32,49,32,42,32,98]=(⟨5,[43],0,2⟩::(lexL 3 [32,49,32,42,32,98]).1,(lexL 3 [32,49,32,42,32,98]).2):=lex_tok (t:=⟨5,[43],0,0⟩) (z:=1) (by kernel_rfl) (by kernel_rfl);rw[e3] at e2;have e1:lexL 1 [32,43,32,49,32,42,32,98]=lexL 2 [43,32,49,32,42,32,98]:=lex_blank (by decide);rw[e2] at e1;have e0:lexL 0 [97,32,43,32,49,32,42,32,98]=(⟨1,[97],0,0⟩::(lexL 1 [32,43,32,49,32,42,32,98]).1,(lexL 1 [32,43,32,49,32,42,32,98]).2):=lex_tok (t:=⟨1,[97],0,0⟩) (z:=1) (by kernel_rfl) (by kernel_rfl);rw[e1] at e0;exact e0
theorem live_read:(psN 10000).ar (liveT++[⟨6,[],0,9⟩])=.ok liveX [⟨6,[],0,9⟩]:=by kernel_rfl
theorem live_text:textL liveX=[40,97,32,43,32,40,49,32,42,32,98,41,41]:=by kernel_rfl
theorem live_right:rightX liveX=true:=by kernel_rfl
theorem right_small{x:Ex}(h:rightX x=true):¬ (60<sizeX x∨12<depthX x):=by
 simp only[rightX,Bool.and_eq_true,Bool.not_eq_true',decide_eq_false_iff_not] at h;omega
theorem exprO_of{N:Nat}{s:ByteArray}{ts:List Tk}{x:Ex}(hs:¬ 6000<s.size)(hl:lexL 0 s.data.toList=(ts,none))(hp:(psN N).ar (ts++[⟨6,[],0,s.size⟩])=.ok x [⟨6,[],0,s.size⟩])(hx:rightX x=true):exprO N s=(x,(s.size:Int),0):=by
 have ht:toksL s=ts++[⟨6,[],0,s.size⟩]:=by simp[toksL,hl]
 have hb:beginsB (toksL s) 0=true:=end_begins (toks_good s).2.2;have hpo:=partO_ok (N:=N) (at_:=0) hb (by rw[ht];exact hp) (right_small hx) hx
 have hk:tokAt (toksL s) (((toksL s).length - [(⟨6,[],0,s.size⟩:Tk)].length:Nat):Int)=⟨6,[],0,s.size⟩:=by
  rw[ht]
  simp[tokAt]
 unfold exprO;rw[if_neg hs,hl];simp only[hpo];rw[if_pos trivial,hk,if_pos rfl]
def liveS:ByteArray:=⟨#[97,32,43,32,49,32,42,32,98]⟩
theorem live_exprO:exprO 10000 liveS=(liveX,9,0):=exprO_of (s:=liveS) (by decide) live_lex live_read live_right
theorem live_textS:ofB (textL liveX)=⟨#[40,97,32,43,32,40,49,32,42,32,98,41,41]⟩:=by
 rw[live_text];rfl
theorem live_parts:partsX liveX=[liveX,.mk 3 0 (ofB [97]) 0 [] [],.mk 6 0 ByteArray.empty 5 [] [.mk 1 1 ByteArray.empty 0 [] [],.mk 3 0 (ofB [98]) 0 [] []],.mk 1 1 ByteArray.empty 0 [] [],.mk 3 0 (ofB [98]) 0 [] []]:=by kernel_rfl
theorem live_all{Q:Ex→Prop}(h0:Q liveX)(h1:Q (.mk 3 0 (ofB [97]) 0 [] []))(h2:Q (.mk 6 0 ByteArray.empty 5 [] [.mk 1 1 ByteArray.empty 0 [] [],.mk 3 0 (ofB [98]) 0 [] []]))(h3:Q (.mk 1 1 ByteArray.empty 0 [] []))(h4:Q (.mk 3 0 (ofB [98]) 0 [] [])):∀ p∈partsX liveX,Q p:=by
 rw[live_parts];intro p hp;simp only[List.mem_cons,List.not_mem_nil,or_false] at hp;rcases hp with rfl | rfl | rfl | rfl | rfl <;> assumption
theorem live_short:∀ p∈partsX liveX,ShortP p:=
 live_all ⟨by decide,fun t h=>(by cases h),by decide⟩ ⟨by decide,fun t h=>(by cases h),by decide⟩ ⟨by decide,fun t h=>(by cases h),by decide⟩ ⟨by decide,fun t h=>(by cases h),by decide⟩ ⟨by decide,fun t h=>(by cases h),by decide⟩
theorem live_num:∀ p∈partsX liveX,NumP p:=
 live_all ⟨by decide,by decide,by decide⟩ ⟨by decide,by decide,by decide⟩ ⟨by decide,by decide,by decide⟩ ⟨by decide,by decide,by decide⟩ ⟨by decide,by decide,by decide⟩
theorem live_kinds:∀ p∈partsX liveX,p.k=1∨p.k=3∨p.k=6:=live_all (by decide) (by decide) (by decide) (by decide) (by decide)
theorem lawNum(x:Int)(w:World):Calls Tryz.prog 10 #[.int .i64 x] w fun e w'=>e=.returned (.int .i64 x)∧w=w':=by
 go_enter Tryz.func10,Tryz.ntmps10
 go_wp2
 go_ret
 exact⟨rfl,rfl⟩
theorem live_any(w:World)(hv:Vars w):Calls Tryz.prog 6 #[] w fun e w'=>e=.returned (.bool true)∧Below w.heap.size w w':=by
 have HE:=Hd (paExpr 10000 liveS (by decide) hv (by decide) (fun _=>short_text (by decide) (by decide)));rw[live_exprO] at HE;clear hv;have HTX:=Hd fun A1 ca B1 cb w1 (h:rdX w1 liveX A1 B1)=>refExprV liveX A1 ca B1 cb w1 h live_right live_kinds live_short live_num;simp only[live_textS] at HTX
 go_enter Tryz.func6,Tryz.ntmps6
 go_wp2_with fail
 refine HE.out.mono ?_;rintro e w2 ⟨hb2,A1,ca,B1,cb,rfl,hrd⟩;have HB2:=Hd hb2;have HRD2:=Hd hrd;clear hb2 hrd;simp only;generalize liveX=x at *;unfold exA at HTX ⊢
 go_upto_region 2 with(fail)
 have hal:=(Below.refl w2.heap.size w2).alloc (Nat.le_refl _) (.cells (exA x A1 ca B1 cb) 26);have HE3:=Hd (show RowX (w2.alloc (.cells (exA x A1 ca B1 cb) 26)) w2.heap.size x A1 ca B1 cb from heap_alloc_new _ _);have HB3:=Hd (HB2.out.trans (hal.mono HB2.out.size));have HRD3:=Hd (HRD2.out.below hal);unfold exA at HE3 HB3 HRD3;clear hal;generalize w2.alloc _=w3 at *;generalize w2.heap.size=eb at *;obtain⟨e0,e1,e2,e3,e4,e5⟩:=HE3.out.cells;have HCX:=Hd (HTX.out A1 ca B1 cb w3 HRD3.out);clear HTX
 go_wp2_with fail
 refine(lawNum _ _).mono ?_;rintro r w4 ⟨rfl,rfl⟩
 go_wp2_with fail
 refine HCX.out.mono ?_;rintro r w4 ⟨rfl,hb4⟩;have HB4:=Hd (HB3.out.trans (hb4.mono HB3.out.size));clear hb4 e0 e1 e2 e3 e4 e5
 go_wp2_with fail
 go_ret
 exact⟨rfl,HB4.out⟩
theorem sameX_refl:∀ x:Ex,sameX x x=true:=by
 refine size_ind fun x ih=>?_;rw[sameX_eq,sameT_refl,sameXs_yes rfl fun i hi=>ih i hi]
 simp
end
end Go.Proofs.YtokiaaapgkdpmaaGreatDoor
