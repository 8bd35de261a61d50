/- Parts of the proof: PkB, ShC, ShD. Conditions: each theorem's own. -/
import Derived.Test.YtpedcgpcchbhpaaGreatDoorU25
import Derived.Test.YtpedcgpcchbhpaaGreatDoorU26
namespace Go.Proofs.YtpedcgpcchbhpaaGreatDoor
set_option linter.unusedVariables false
set_option linter.unusedSimpArgs false
set_option maxRecDepth 100000
set_option maxHeartbeats 40000000
section
open Go.RowKit Go.Sort
theorem joinW_snoc(s:UInt8):∀ (l:List (List UInt8)) (x:List UInt8),l≠[]→joinW s (l++[x])=joinW s l++s::32::x
 | [],_,h=>absurd rfl h
 | [a],x,_=>rfl
 | a::b::l,x,_=>by
  have:=joinW_snoc s (b::l) x (by simp);simp only [List.cons_append,joinW] at this ⊢;rw [this]
  simp
theorem joinW_len{s:UInt8}{m:Nat}:∀ {l:List (List UInt8)},(∀ a∈l,a.length≤m)→(joinW s l).length≤(m+2)*l.length
 | [],_=>Nat.zero_le _
 | [a],h=>by
  have:=h a (by simp);simp only [joinW,List.length_cons,List.length_nil];omega
 | a::b::l,h=>by
  have h1:=h a (by simp);have h2:=joinW_len (s:=s) (l:=b::l) (fun x hx=>h x (by simp [hx]));simp only [joinW,List.length_append,List.length_cons] at h2 ⊢;rw [Nat.mul_add (m+2) (l.length+1) 1];omega
theorem map_take_snoc{α:Type} [Inhabited α] {f:α→List UInt8}{l:List α}{k:Nat}(h:k<l.length):(l.map f).take (k+1)=(l.map f).take k++[f (l[k]?.getD default)]:=by
 rw [List.take_add_one,List.getElem?_map,List.getElem?_eq_getElem h]
 simp
theorem join_take{α:Type}{s:UInt8}{m:Nat}{f:α→List UInt8}{l:List α}(k:Nat) (h:∀ x∈l,(f x).length≤m):(joinW s ((l.map f).take k)).length≤(m+2)*l.length:=by
 have h1:=joinW_len (s:=s) (m:=m) (l:=(l.map f).take k) (fun a ha=>by
  obtain⟨x,hx,rfl⟩:=List.mem_map.1 (List.mem_of_mem_take ha);exact h x hx)
 have h2:((l.map f).take k).length≤l.length:=by rw [List.length_take,List.length_map];omega
 exact Nat.le_trans h1 (Nat.mul_le_mul_left _ h2)
theorem take_nil_zero{α:Type}{f:α→List UInt8}{l:List α}{k:Nat}(hk:k<l.length) (h:(l.map f).take k=[]):k=0:=by
 have:=congrArg List.length h;rw [List.length_take,List.length_map,List.length_nil] at this;omega
def strL(s:ByteArray):List UInt8:=s.data.toList
theorem str_take{l:List ByteArray}{k:Nat}(h:k<l.length):(l.map strL).take (k+1)=(l.map strL).take k++[strL (l[k]?.getD ByteArray.empty)]:=by
 rw [List.take_add_one,List.getElem?_map,List.getElem?_eq_getElem h]
 simp
theorem refStrs(A:Option Addr) (n c:Nat) (ss:List ByteArray) (w:World) (h:RdT w A n ss) (hn:n≤1000) (hs:∀ s∈ss,s.size≤1000):
 Calls Tryz.prog 24 #[.slice A n c] w fun e w'=>e=.returned (.string (ofB (joinW 44 (ss.map strL))))∧w'=w:=by
 have hln:=h.len;have HR:=Hd h;have HJL:=Hd fun k=>(show(joinW 44 ((ss.map strL).take k)).length≤1002000 from Nat.le_trans (join_take (m:=1000) k fun s hss=>hs s hss) (by omega))
 have HSZ:=Hd fun(k:Nat) (hk:k<n)=>(show(ss[k]?.getD ByteArray.empty).size≤1000 by
  rw [List.getElem?_eq_getElem (by omega),Option.getD_some];exact hs _ (List.getElem_mem _))
 have HTS:=Hd fun(k:Nat) (hk:k<ss.length)=>str_take hk;have HK0:=Hd fun(k:Nat) (hk:k<ss.length) h=>take_nil_zero (f:=strL) (l:=ss) (k:=k) hk h;have HLN:=Hd hln;clear h hs hln
 go_enter Tryz.func24,Tryz.ntmps24
 go_wp2_with fail
 go_loopw [3,4] (fun s i wr=>∃ k:Nat,k≤n∧i=.int .i64 k∧s=.string (ofB (joinW 44 ((ss.map strL).take k)))∧wr=w) (fun _ i _=>n-(intOf i).toNat)
 case atStart=>exact⟨0,Nat.zero_le _,rfl,rfl,rfl⟩
 case round=>
  obtain⟨k,hk,rfl,rfl,rfl⟩:=hrel;have hjl:=HJL.out k
  by_cases hlt:k<n
  · obtain⟨b,off,rfl,hb,hc⟩:=HR.out.at_ hlt;have d0:=hc k hlt;have hsz:=HSZ.out k hlt;have HTK:=Hd (HTS.out k (by rw [HLN.out];exact hlt));have HKK:=Hd (HK0.out k (by rw [HLN.out];exact hlt));have HZ:=Hd (show(ss.map strL).take 0=[] from rfl);clear hc;generalize ss[k]?.getD ByteArray.empty=y at *;generalize htk:(ss.map strL).take k=tk at *;have hsj:(ofB (joinW 44 tk)).size=(joinW 44 tk).length:=ofB_sizeS _
    by_cases h0:k=0
    · subst h0;simp only [Nat.add_zero] at d0
      have HE:=Hd (show ofB (joinW 44 tk)++y=ofB (joinW 44 ((ss.map strL).take (0+1))) by
       rw [HTK.out,← htk];exact ba_ext (by simp [ofB,joinW,strL]))
      generalize ofB (joinW 44 tk)=sa at *;have z1:(9223372036854775807<sa.size+y.size)=False:=by rw [eq_iff_iff,iff_false];omega
      go_wp2_with fail
      go_roundw
      case rel=>exact⟨1,by omega,by go_num,by rw [← HE.out],(by first | trivial | rfl)⟩
      case measure=>simp [intOf];omega
    · have hd:decide ((0:Int)<(k:Int))=true:=decide_eq_true (by omega)
      have HE:=Hd (show ofB (joinW 44 tk)++(⟨#[44,32]⟩:ByteArray)++y=ofB (joinW 44 ((ss.map strL).take (k+1))) by
       rw [HTK.out,joinW_snoc 44 tk _ (fun h=>h0 (HKK.out h))];exact ba_ext (by simp [ofB,strL]))
      generalize ofB (joinW 44 tk)=sa at *;have z1:(9223372036854775807<sa.size+2)=False:=by rw [eq_iff_iff,iff_false];omega
      have z2:(9223372036854775807<sa.size+2+y.size)=False:=by rw [eq_iff_iff,iff_false];omega
      go_wp2_with fail
      go_roundw
      case rel=>exact⟨k+1,by omega,by go_num,by rw [← HE.out],(by first | trivial | rfl)⟩
      case measure=>simp [intOf];omega
  · have hkl:k=n:=by omega
    have HE:=Hd (show(ss.map strL).take k=ss.map strL from List.take_of_length_le (by rw [List.length_map,HLN.out];omega))
    go_wp2_with fail
    go_ret
    exact⟨ret_strV (by rw [HE.out]),rfl⟩
end
section
open Go.RowKit Go.Sort
def txS(l:List Ex):List ByteArray:=l.map fun y=>ofB (textL y)
theorem txS_len(l:List Ex):(txS l).length=l.length:=by simp [txS]
theorem txS_snoc{l:List Ex}{k:Nat}(h:k<l.length):(txS l).take (k+1)=(txS l).take k++[ofB (textL (l[k]?.getD default))]:=by
 unfold txS;rw [List.take_succ_eq_append_getElem (by simpa using h)]
 simp [List.getElem?_eq_getElem h]
theorem txS_at{l:List Ex}{k:Nat}(h:k<l.length):(txS l)[k]?.getD ByteArray.empty=ofB (textL (l[k]?.getD default)):=by
 simp [txS,List.getElem?_eq_getElem h]
theorem sign_data(op:Int) (h1:3≤op) (h2:op≤16):(signS op).data.toList=signL op:=by
 obtain rfl | rfl | rfl | rfl | rfl | rfl | rfl | rfl | rfl | rfl | rfl | rfl | rfl | rfl:op=3∨op=4∨op=5∨op=6∨op=7∨op=8∨op=9∨op=10∨op=11∨op=12∨op=13∨op=14∨op=15∨op=16:=by omega
 all_goals rfl
theorem sign_size(op:Int) (h1:3≤op) (h2:op≤16):(signS op).size≤3:=by
 obtain rfl | rfl | rfl | rfl | rfl | rfl | rfl | rfl | rfl | rfl | rfl | rfl | rfl | rfl:op=3∨op=4∨op=5∨op=6∨op=7∨op=8∨op=9∨op=10∨op=11∨op=12∨op=13∨op=14∨op=15∨op=16:=by omega
 all_goals decide
theorem armsT_snoc:∀ (am ts:List (List UInt8)) (a t:List UInt8),am.length=ts.length→armsT (am++[a]) (ts++[t])=armsT am ts++32::40::(a++32::45::62::32::(t++[41]))
 | [],[],a,t,_=>by simp [armsT]
 | [],_::_,_,_,h=>by simp at h
 | _::_,[],_,_,h=>by simp at h
 | b::am,u::ts,a,t,h=>by
  have:=armsT_snoc am ts a t (by simpa using h)
  simp [armsT,this]
def mgL(x:Ex) (j:Nat):List UInt8:=40::(mergeL++32::(x.s.data.toList++armsT ((x.arms.map fun a=>a.data.toList).take j) ((x.subs.map textL).take j)))
theorem mg_snoc{x:Ex}{j:Nat}(ha:j<x.arms.length) (hs:j<x.subs.length):
 mgL x (j+1)=mgL x j++32::40::((x.arms[j]?.getD ByteArray.empty).data.toList++32::45::62::32::(textL (subX x j)++[41])):=by
 have h1:(x.arms.map fun a=>a.data.toList).take (j+1)=(x.arms.map fun a=>a.data.toList).take j++[(x.arms[j]?.getD ByteArray.empty).data.toList]:=by
  rw [List.take_succ_eq_append_getElem (by simpa using ha)]
  simp [List.getElem?_eq_getElem ha]
 have h2:(x.subs.map textL).take (j+1)=(x.subs.map textL).take j++[textL (subX x j)]:=take_snocL hs;unfold mgL;rw [h1,h2,armsT_snoc _ _ _ _ (by simp;omega)]
 simp
theorem mg_len{x:Ex}{j:Nat}(ha:∀ a∈x.arms,a.data.toList.length≤12) (hs:x.s.size≤1000) (hl:lensT (x.subs.map textL)≤1300000) (hj:j≤6):(mgL x j).length≤1302000:=by
 have h1:=armsT_len ((x.arms.map fun a=>a.data.toList).take j) ((x.subs.map textL).take j) (fun a h=>by
  obtain⟨m,hm,rfl⟩:=List.mem_map.1 (List.mem_of_mem_take h);exact ha m hm)
 have h2:=lensT_take (x.subs.map textL) j;have h3:((x.subs.map textL).take j).length≤j:=by simp;omega
 have h4:x.s.data.toList.length=x.s.size:=by simp
 simp only [mgL,List.length_cons,List.length_append,mergeL,List.length_nil];omega
theorem refText:∀ x:Ex,okX x→(∀ p∈partsX x,NumP p)→sizeX x≤1000→TxC x:=by
 refine size_ind fun x ih hx hp hs A ca B cb w hr hcb hc=>?_;obtain⟨i0,hi,hz0,hz1,hz2⟩:=info_parts infoString;have hf:=hx.part;have hsx:=sizeX_eq x;have hnum:=hp x (by rw [partsX_eq];exact List.mem_cons_self);have hmem:∀ i,i<x.subs.length→subX x i∈x.subs:=fun i hi=>subX_mem hi;have hpsub:∀ y∈x.subs,∀ p∈partsX y,NumP p:=fun y hy p hp'=>hp p (by rw [partsX_eq];exact List.mem_cons_of_mem _ (parts_of_mem hy hp'));have hlen:∀ y∈x.subs,(textL y).length≤1300*sizeX y:=fun y hy=>text_len y (hx.sub hy) (hpsub y hy);have hlen2:∀ y∈x.subs,(textL y).length≤1300000:=fun y hy=>by have h1:=hlen y hy;have h2:=sizes_mem hy;omega
 have hih:∀ i,i<x.subs.length→TxC (subX x i):=fun i hi=>ih i hi (hx.sub (hmem i hi)) (hpsub _ (hmem i hi)) (by have:=sizes_mem (hmem i hi);omega);have HLS:=Hd hlen2;have HCALL:=Hd fun w1 (h:Below w.heap.size w w1) (hk13:x.k=13) (hk:x.n=0)=>refCall0 x A ca B cb w1 (hr.below h) (hcb hk13) (hc.below hr h) hk hnum.1 (by omega) hlen hih;have HCALL1:=Hd fun w1 (h:Below w.heap.size w w1) l y (hk13:x.k=13) (hk:x.n=1) (hly:x.subs=l++[y])=>refCall1 x l y A ca B cb w1 (hr.below h) (hcb hk13) (hc.below hr h) hk hly hnum.1 (by omega) hlen hih;have HLIST:=Hd fun c w1 (h:Below w.heap.size w w1)=>list_sub x A B cb x.subs.length c w w1 hr hc h (Nat.le_refl _) (by omega) hlen hih;have HLEAF:=Hd fun w1 (h:Below w.heap.size w w1)=>refLeaf x A ca B cb w1 (hr.below h) hnum
 have HIH:=Hd fun k (hk:k<x.subs.length) w1 (h:Below w.heap.size w w1)=>(show ∃ b off,B=some ⟨b,off,none⟩∧∃ A' ca' B' cb',w1.rangeAt b (off+k*6) (exL (subX x k) A' ca' B' cb') ∧
  Calls Tryz.prog 57 #[.agg (exA (subX x k) A' ca' B' cb')] w1 fun e w'=>e=.returned (.string (ofB (textL (subX x k))))∧Below w1.heap.size w1 w' from by
  obtain⟨b,off,e,hbl,hat⟩:=hr.subC hc (i:=k) hk;obtain⟨A',ca',B',cb',hrg,hrd,hcl,hcx⟩:=hat k hk;exact⟨b,off,e,A',ca',B',cb',rangeAt_keep hrg hbl fun p hp=>h.cell hp,hih k hk A' ca' B' cb' w1 (hrd.below h) hcl (hcx.below hrd h)⟩)
 have HF:=Hd fun w1 h=>box_facts w x A ca B cb w1 h hr;have HTS:=Hd fun k (hk:k<x.subs.length)=>(show(txS x.subs).take (k+1)=(txS x.subs).take k++[ofB (textL (subX x k))] from txS_snoc hk);have HTL:=Hd fun k (hk:k<x.subs.length)=>hlen2 _ (hmem k hk);have HTX:=Hd (textL_eq x);have hjl0:=join_take_len x.subs x.subs.length hlen;rw [List.take_of_length_le (by simp)] at hjl0;have HJL:=Hd (show(joinC (x.subs.map textL)).length≤1302000 by omega);have HAR:=Hd fun w1 (h:Below w.heap.size w w1)=>(hr.below h).arms;have HLT:=Hd (show lensT (x.subs.map textL)≤1300000 by have:=lens_subs x.subs hlen;omega);clear hjl0;have hmx:=hr.subs.max;have hsl:=sizes_len x.subs;clear ih hp hr hc hmem hpsub hlen hlen2 hih hcb;unfold exA at HF HIH HCALL HCALL1 HLEAF ⊢;generalize textL x=tx at *;generalize hln:x.subs.length=n at *;have HLEN:=Hd hln;clear hln
 go_enter Tryz.func57,Tryz.ntmps57
 go_upto_region 1 with(fail)
 generalize hw1:w.alloc _=w1;obtain⟨hb1,hg,hr1,hcell⟩:=HF.out w1 hw1;have HB1:=Hd hb1;have HC:=Hd fun w2 (h:Below w1.heap.size w1 w2)=>hcell w2 h;clear hcell hb1 hr1 hw1 HF;have HL0:=Hd (World.ownsRow_lit (base:=w1.heap.size) (e:=9) (size:=1) w1 #[] 0 (Nat.le_refl _) (by decide) rfl);have HA0:=Hd ((Below.refl w1.heap.size w1).alloc (Nat.le_refl _) (.cells #[] 9))
 go_wp2_with fail
 go_loopw [3,4] (fun v i wr=>∃ k:Nat,k≤n∧i=.int .i64 k∧wr.ownsRow w1.heap.size 9 1 v k (((txS x.subs).take k).map Value.string)∧Below w1.heap.size w1 wr) (fun _ i _=>n-(intOf i).toNat)
 case atStart=>exact⟨0,Nat.zero_le _,rfl,HL0.out,HA0.out⟩
 case round=>
  obtain⟨k,hk,rfl,hrow,hbw⟩:=hrel;have HRW:=Hd hrow;have HBW:=Hd hbw;have hbs:=hbw.size
  by_cases hlt:k<n
  · have q5:=HC.out wr hbw 5;obtain⟨b,off,rfl,A',ca',B',cb',hrg,hcl⟩:=HIH.out k hlt wr (HB1.out.trans (hbw.mono HB1.out.size));obtain⟨d0,d1,d2,d3,d4,d5⟩:=rangeAt_six hrg;have HCL:=Hd hcl;have HTK:=Hd (HTS.out k hlt);have htl:=HTL.out k hlt;clear hrg hcl hrow hbw HIH;generalize subX x k=y at *;have hsy:(ofB (textL y)).size≤1300000:=by rw [ofB_sizeS];exact htl
    generalize ofB (textL y)=sy at *
    go_wp2_with fail
    refine HCL.out.mono ?_;rintro r w3 ⟨rfl,hb3⟩;have hrow3:=own_belowX HRW.out hb3;have HB3:=Hd (HBW.out.trans (hb3.mono HBW.out.size));have hbs3:=HB3.out.size;clear hb3
    go_wp2_with (at_builtin;go_must (refine wpList_append_own_at _ rfl _ _ 44 rfl w1.heap.size 9 i0 (.string ByteArray.empty) 1 16 Tryz.underlying44 hi hz0 hz1 hz2 rfl (by decide) _ _ _ rfl (hrow3.alloc _) ⟨w3.heap.size,0,none⟩ 1 1 [.string sy] rfl rfl (cell_one_new _ _ _) (string_cells [sy]) (by unfold maxLen;omega) (by omega) (by simp;omega) ?_;intro v' w4 hown' hgrow hnil hloc))
    have HB4:=Hd ((HB3.out.alloc hbs3 (.cells #[.string sy] 9)).grown hgrow (by simp;omega) (fun j hj=>(hrow3.lt j hj).1));have HOW:=Hd hown';clear hgrow hnil hown' hloc
    go_roundw
    case rel=>
     refine⟨k+1,by omega,by go_num,?_,HB4.out⟩;rw [HTK.out,List.map_append];exact HOW.out
    case measure=>simp [intOf];omega
  · have hkl:k=n:=by omega
    subst hkl;have HTK:=(show(txS x.subs).take x.subs.length=txS x.subs from List.take_of_length_le (by rw [txS_len];exact Nat.le_refl _));rw [HLEN.out] at HTK;rw [HTK] at HRW;obtain⟨A1,c1,rfl,hR1,_⟩:=RdT.of_own HRW.out (by omega);have HR1:=Hd hR1;obtain⟨q0,q1,q2,q3,q4,q5⟩:=Sx (HC.out wr HBW.out);clear HTK hR1 hrow hbw HIH HTS HTL
    by_cases h5:x.k=5
    · have hkd:=h5;rw [h5] at q0;obtain⟨a,hab⟩:=len1 (subs_len hf (m:=1) (by simp [subsX,hkd]));have hk1:k=1:=by rw [← HLEN.out,hab];rfl
      subst hk1;obtain⟨b1,off1,rfl,hb1l,hat1⟩:=HR1.out.at_ (i:=0) (by omega);have t0:=hat1 0 (by omega);rw [txS_at (by rw [HLEN.out];omega),hab] at t0;simp only [List.getElem?_cons_succ,List.getElem?_cons_zero,Option.getD_some] at t0;have hz0:(ofB (textL a)).size≤1300000:=by rw [ofB_sizeS];exact HLS.out a (by rw [hab];simp)
      rcases hf.op5 hkd with ho | ho
      · have HE:=Hd (show(⟨#[40,45]⟩:ByteArray)++ofB (textL a)++(⟨#[41]⟩:ByteArray)=ofB tx by
         rw [HTX.out,hkd,ho,hab];exact ba_ext (by simp [ofB,textK,gT,notL]))
        rw [ho] at q3;clear hat1 HR1 HLS;generalize ofB (textL a)=sa at *;have z1:(9223372036854775807<2+sa.size)=False:=by rw [eq_iff_iff,iff_false];omega
        have z2:(9223372036854775807<2+sa.size+1)=False:=by rw [eq_iff_iff,iff_false];omega
        simp only [Nat.add_zero] at t0
        go_wp2_with fail
        go_ret
        exact⟨ret_strV HE.out,HB1.out.trans (HBW.out.mono HB1.out.size)⟩
      · have HE:=Hd (show(⟨#[40,110,111,116,32]⟩:ByteArray)++ofB (textL a)++(⟨#[41]⟩:ByteArray)=ofB tx by
         rw [HTX.out,hkd,ho,hab];exact ba_ext (by simp [ofB,textK,gT,notL]))
        rw [ho] at q3;clear hat1 HR1 HLS;generalize ofB (textL a)=sa at *;have z1:(9223372036854775807<5+sa.size)=False:=by rw [eq_iff_iff,iff_false];omega
        have z2:(9223372036854775807<5+sa.size+1)=False:=by rw [eq_iff_iff,iff_false];omega
        simp only [Nat.add_zero] at t0
        go_wp2_with fail
        go_ret
        exact⟨ret_strV HE.out,HB1.out.trans (HBW.out.mono HB1.out.size)⟩
    by_cases h6:x.k=6
    · have hkd:=h6;rw [h6] at q0;obtain⟨a,b,hab⟩:=len2 (subs_len hf (m:=2) (by simp [subsX,hkd]));have hk2:k=2:=by rw [← HLEN.out,hab];rfl
      subst hk2;obtain⟨b1,off1,rfl,hb1l,hat1⟩:=HR1.out.at_ (i:=0) (by omega);have t0:=hat1 0 (by omega);rw [txS_at (by rw [HLEN.out];omega),hab] at t0;simp only [List.getElem?_cons_succ,List.getElem?_cons_zero,Option.getD_some] at t0;have t1:=hat1 1 (by omega);rw [txS_at (by rw [HLEN.out];omega),hab] at t1;simp only [List.getElem?_cons_succ,List.getElem?_cons_zero,Option.getD_some] at t1;have hz0:(ofB (textL a)).size≤1300000:=by rw [ofB_sizeS];exact HLS.out a (by rw [hab];simp)
      have hz1:(ofB (textL b)).size≤1300000:=by rw [ofB_sizeS];exact HLS.out b (by rw [hab];simp)
      obtain⟨ho1,ho2⟩:=hf.op6 hkd;have hsg:=sign_data x.op ho1 ho2;have hsz:=sign_size x.op ho1 ho2;have HSG:=Hd fun w=>refSign x.op w
      have HE:=Hd (show(⟨#[40]⟩:ByteArray)++ofB (textL a)++(⟨#[32]⟩:ByteArray)++signS x.op++(⟨#[32]⟩:ByteArray)++ofB (textL b)++(⟨#[41]⟩:ByteArray)=ofB tx by
       rw [HTX.out,hkd,hab];exact ba_ext (by simp [ofB,textK,gT,hsg]))
      clear hat1 HR1 HLS hsg;generalize ofB (textL a)=sa at *;generalize ofB (textL b)=sb at *;generalize signS x.op=sg at *;generalize x.op=op at *;have z1:(9223372036854775807<1+sa.size)=False:=by rw [eq_iff_iff,iff_false];omega
      have z2:(9223372036854775807<1+sa.size+1)=False:=by rw [eq_iff_iff,iff_false];omega
      have z3:(9223372036854775807<1+sa.size+1+sg.size)=False:=by rw [eq_iff_iff,iff_false];omega
      have z4:(9223372036854775807<1+sa.size+1+sg.size+1)=False:=by rw [eq_iff_iff,iff_false];omega
      have z5:(9223372036854775807<1+sa.size+1+sg.size+1+sb.size)=False:=by rw [eq_iff_iff,iff_false];omega
      have z6:(9223372036854775807<1+sa.size+1+sg.size+1+sb.size+1)=False:=by rw [eq_iff_iff,iff_false];omega
      simp only [Nat.add_zero] at t0;have lt0:=fun d os=>cell_regrown t0 d os;have lt1:=fun d os=>cell_regrown t1 d os;have lq3:=fun d os=>cell_regrown q3 d os;have cA:=fun d os=>Calls.regrown_of (HSG.out (grow (redrawn wr d) os))
      go_wp2_with fail
      refine wp_region_quiet_below (by kernel_rfl) (by kernel_rfl) ?_
      repeat (quiet_step (exact cA _ _))
      refine wpQuiet_nil ?_;intro _ hw';obtain⟨⟨dq,osq⟩,hw''⟩:=hw';subst hw'';have HBR:=Hd (HBW.out.trans ((below_regrown wr dq osq).mono HBW.out.size));clear cA lt0 lt1 lq3;generalize grow (redrawn wr dq) osq=wq at *
      go_wp2_with fail
      go_ret
      exact⟨ret_strV HE.out,HB1.out.trans (HBR.out.mono HB1.out.size)⟩
    by_cases h7:x.k=7
    · have hkd:=h7;rw [h7] at q0;obtain⟨a,b,c,hab⟩:=len3 (subs_len hf (m:=3) (by simp [subsX,hkd]));have hk3:k=3:=by rw [← HLEN.out,hab];rfl
      subst hk3;obtain⟨b1,off1,rfl,hb1l,hat1⟩:=HR1.out.at_ (i:=0) (by omega);have t0:=hat1 0 (by omega);rw [txS_at (by rw [HLEN.out];omega),hab] at t0;simp only [List.getElem?_cons_succ,List.getElem?_cons_zero,Option.getD_some] at t0;have t1:=hat1 1 (by omega);rw [txS_at (by rw [HLEN.out];omega),hab] at t1;simp only [List.getElem?_cons_succ,List.getElem?_cons_zero,Option.getD_some] at t1;have t2:=hat1 2 (by omega);rw [txS_at (by rw [HLEN.out];omega),hab] at t2;simp only [List.getElem?_cons_succ,List.getElem?_cons_zero,Option.getD_some] at t2;have hz0:(ofB (textL a)).size≤1300000:=by rw [ofB_sizeS];exact HLS.out a (by rw [hab];simp)
      have hz1:(ofB (textL b)).size≤1300000:=by rw [ofB_sizeS];exact HLS.out b (by rw [hab];simp)
      have hz2:(ofB (textL c)).size≤1300000:=by rw [ofB_sizeS];exact HLS.out c (by rw [hab];simp)
      have HE:=Hd (show(⟨#[40,105,102,32]⟩:ByteArray)++ofB (textL a)++(⟨#[32,116,104,101,110,32]⟩:ByteArray)++ofB (textL b)++(⟨#[32,101,108,115,101,32]⟩:ByteArray)++ofB (textL c)++(⟨#[41]⟩:ByteArray)=ofB tx by
       rw [HTX.out,hkd,hab];exact ba_ext (by simp [ofB,textK,gT,notL,ifL,thenL,elseL,preL,fbyL,arrL,withL]))
      clear hat1 HR1 HLS;generalize ofB (textL a)=sa at *;generalize ofB (textL b)=sb at *;generalize ofB (textL c)=sc at *;have z1:(9223372036854775807<4+sa.size)=False:=by rw [eq_iff_iff,iff_false];omega
      have z2:(9223372036854775807<4+sa.size+6)=False:=by rw [eq_iff_iff,iff_false];omega
      have z3:(9223372036854775807<4+sa.size+6+sb.size)=False:=by rw [eq_iff_iff,iff_false];omega
      have z4:(9223372036854775807<4+sa.size+6+sb.size+6)=False:=by rw [eq_iff_iff,iff_false];omega
      have z5:(9223372036854775807<4+sa.size+6+sb.size+6+sc.size)=False:=by rw [eq_iff_iff,iff_false];omega
      have z6:(9223372036854775807<4+sa.size+6+sb.size+6+sc.size+1)=False:=by rw [eq_iff_iff,iff_false];omega
      simp only [Nat.add_zero] at t0;have lt0:=fun d os=>cell_regrown t0 d os;have lt1:=fun d os=>cell_regrown t1 d os;have lt2:=fun d os=>cell_regrown t2 d os
      go_wp2_with fail
      refine wp_region_quiet_below (by kernel_rfl) (by kernel_rfl) ?_
      repeat (quiet_step (fail))
      refine wpQuiet_nil ?_;intro _ hw';obtain⟨⟨dq,osq⟩,hw''⟩:=hw';subst hw'';have HBR:=Hd (HBW.out.trans ((below_regrown wr dq osq).mono HBW.out.size));generalize grow (redrawn wr dq) osq=wq at *
      go_wp2_with fail
      go_ret
      exact⟨ret_strV HE.out,HB1.out.trans (HBR.out.mono HB1.out.size)⟩
    by_cases h8:x.k=8
    · have hkd:=h8;rw [h8] at q0;obtain⟨a,b,hab⟩:=len2 (subs_len hf (m:=2) (by simp [subsX,hkd]));have hk2:k=2:=by rw [← HLEN.out,hab];rfl
      subst hk2;obtain⟨b1,off1,rfl,hb1l,hat1⟩:=HR1.out.at_ (i:=0) (by omega);have t0:=hat1 0 (by omega);rw [txS_at (by rw [HLEN.out];omega),hab] at t0;simp only [List.getElem?_cons_succ,List.getElem?_cons_zero,Option.getD_some] at t0;have t1:=hat1 1 (by omega);rw [txS_at (by rw [HLEN.out];omega),hab] at t1;simp only [List.getElem?_cons_succ,List.getElem?_cons_zero,Option.getD_some] at t1;have hz0:(ofB (textL a)).size≤1300000:=by rw [ofB_sizeS];exact HLS.out a (by rw [hab];simp)
      have hz1:(ofB (textL b)).size≤1300000:=by rw [ofB_sizeS];exact HLS.out b (by rw [hab];simp)
      have HE:=Hd (show(⟨#[40]⟩:ByteArray)++ofB (textL a)++(⟨#[32,102,98,121,32]⟩:ByteArray)++ofB (textL b)++(⟨#[41]⟩:ByteArray)=ofB tx by
       rw [HTX.out,hkd,hab];exact ba_ext (by simp [ofB,textK,gT,notL,ifL,thenL,elseL,preL,fbyL,arrL,withL]))
      clear hat1 HR1 HLS;generalize ofB (textL a)=sa at *;generalize ofB (textL b)=sb at *;have z1:(9223372036854775807<1+sa.size)=False:=by rw [eq_iff_iff,iff_false];omega
      have z2:(9223372036854775807<1+sa.size+5)=False:=by rw [eq_iff_iff,iff_false];omega
      have z3:(9223372036854775807<1+sa.size+5+sb.size)=False:=by rw [eq_iff_iff,iff_false];omega
      have z4:(9223372036854775807<1+sa.size+5+sb.size+1)=False:=by rw [eq_iff_iff,iff_false];omega
      simp only [Nat.add_zero] at t0;have lt0:=fun d os=>cell_regrown t0 d os;have lt1:=fun d os=>cell_regrown t1 d os
      go_wp2_with fail
      refine wp_region_quiet_below (by kernel_rfl) (by kernel_rfl) ?_
      repeat (quiet_step (fail))
      refine wpQuiet_nil ?_;intro _ hw';obtain⟨⟨dq,osq⟩,hw''⟩:=hw';subst hw'';have HBR:=Hd (HBW.out.trans ((below_regrown wr dq osq).mono HBW.out.size));generalize grow (redrawn wr dq) osq=wq at *
      go_wp2_with fail
      go_ret
      exact⟨ret_strV HE.out,HB1.out.trans (HBR.out.mono HB1.out.size)⟩
    by_cases h9:x.k=9
    · have hkd:=h9;rw [h9] at q0;obtain⟨a,b,hab⟩:=len2 (subs_len hf (m:=2) (by simp [subsX,hkd]));have hk2:k=2:=by rw [← HLEN.out,hab];rfl
      subst hk2;obtain⟨b1,off1,rfl,hb1l,hat1⟩:=HR1.out.at_ (i:=0) (by omega);have t0:=hat1 0 (by omega);rw [txS_at (by rw [HLEN.out];omega),hab] at t0;simp only [List.getElem?_cons_succ,List.getElem?_cons_zero,Option.getD_some] at t0;have t1:=hat1 1 (by omega);rw [txS_at (by rw [HLEN.out];omega),hab] at t1;simp only [List.getElem?_cons_succ,List.getElem?_cons_zero,Option.getD_some] at t1;have hz0:(ofB (textL a)).size≤1300000:=by rw [ofB_sizeS];exact HLS.out a (by rw [hab];simp)
      have hz1:(ofB (textL b)).size≤1300000:=by rw [ofB_sizeS];exact HLS.out b (by rw [hab];simp)
      have HE:=Hd (show(⟨#[40]⟩:ByteArray)++ofB (textL a)++(⟨#[32,45,62,32]⟩:ByteArray)++ofB (textL b)++(⟨#[41]⟩:ByteArray)=ofB tx by
       rw [HTX.out,hkd,hab];exact ba_ext (by simp [ofB,textK,gT,notL,ifL,thenL,elseL,preL,fbyL,arrL,withL]))
      clear hat1 HR1 HLS;generalize ofB (textL a)=sa at *;generalize ofB (textL b)=sb at *;have z1:(9223372036854775807<1+sa.size)=False:=by rw [eq_iff_iff,iff_false];omega
      have z2:(9223372036854775807<1+sa.size+4)=False:=by rw [eq_iff_iff,iff_false];omega
      have z3:(9223372036854775807<1+sa.size+4+sb.size)=False:=by rw [eq_iff_iff,iff_false];omega
      have z4:(9223372036854775807<1+sa.size+4+sb.size+1)=False:=by rw [eq_iff_iff,iff_false];omega
      simp only [Nat.add_zero] at t0;have lt0:=fun d os=>cell_regrown t0 d os;have lt1:=fun d os=>cell_regrown t1 d os
      go_wp2_with fail
      refine wp_region_quiet_below (by kernel_rfl) (by kernel_rfl) ?_
      repeat (quiet_step (fail))
      refine wpQuiet_nil ?_;intro _ hw';obtain⟨⟨dq,osq⟩,hw''⟩:=hw';subst hw'';have HBR:=Hd (HBW.out.trans ((below_regrown wr dq osq).mono HBW.out.size));generalize grow (redrawn wr dq) osq=wq at *
      go_wp2_with fail
      go_ret
      exact⟨ret_strV HE.out,HB1.out.trans (HBR.out.mono HB1.out.size)⟩
    by_cases h10:x.k=10
    · have hkd:=h10;rw [h10] at q0;obtain⟨a,hab⟩:=len1 (subs_len hf (m:=1) (by simp [subsX,hkd]));have hk1:k=1:=by rw [← HLEN.out,hab];rfl
      subst hk1;obtain⟨b1,off1,rfl,hb1l,hat1⟩:=HR1.out.at_ (i:=0) (by omega);have t0:=hat1 0 (by omega);rw [txS_at (by rw [HLEN.out];omega),hab] at t0;simp only [List.getElem?_cons_succ,List.getElem?_cons_zero,Option.getD_some] at t0;have hz0:(ofB (textL a)).size≤1300000:=by rw [ofB_sizeS];exact HLS.out a (by rw [hab];simp)
      have HE:=Hd (show(⟨#[40,112,114,101,32]⟩:ByteArray)++ofB (textL a)++(⟨#[41]⟩:ByteArray)=ofB tx by
       rw [HTX.out,hkd,hab];exact ba_ext (by simp [ofB,textK,gT,notL,ifL,thenL,elseL,preL,fbyL,arrL,withL]))
      clear hat1 HR1 HLS;generalize ofB (textL a)=sa at *;have z1:(9223372036854775807<5+sa.size)=False:=by rw [eq_iff_iff,iff_false];omega
      have z2:(9223372036854775807<5+sa.size+1)=False:=by rw [eq_iff_iff,iff_false];omega
      simp only [Nat.add_zero] at t0
      go_wp2_with fail
      go_ret
      exact⟨ret_strV HE.out,HB1.out.trans (HBW.out.mono HB1.out.size)⟩
    by_cases h11:x.k=11
    · have hkd:=h11;rw [h11] at q0;obtain⟨a,hab⟩:=len1 (subs_len hf (m:=1) (by simp [subsX,hkd]));have hk1:k=1:=by rw [← HLEN.out,hab];rfl
      subst hk1;obtain⟨b1,off1,rfl,hb1l,hat1⟩:=HR1.out.at_ (i:=0) (by omega);have t0:=hat1 0 (by omega);rw [txS_at (by rw [HLEN.out];omega),hab] at t0;simp only [List.getElem?_cons_succ,List.getElem?_cons_zero,Option.getD_some] at t0;have hz0:(ofB (textL a)).size≤1300000:=by rw [ofB_sizeS];exact HLS.out a (by rw [hab];simp)
      obtain⟨m,hm⟩:∃ m,x.arms=[m]:=by
       have h:=hf.a11 hkd
       match hl:x.arms,h with
       | [m],_=>exact⟨m,rfl⟩
      have hma:=arm_len (hf.arms m (by rw [hm];simp));have hms:m.size≤12:=by simpa using hma
      have har:=HAR.out wr (HB1.out.trans (HBW.out.mono HB1.out.size));rw [hm] at har q4;simp only [List.length_cons,List.length_nil,Nat.zero_add] at har q4;obtain⟨b2,off2,hA2,hb2l,hat2⟩:=har.at_ (i:=0) (by omega);subst hA2;have m0:=hat2 0 (by omega);simp only [List.getElem?_cons_zero,Option.getD_some,Nat.add_zero] at m0;have hns:x.s.size≤1000:=hnum.1
      have hso:(ofB (onL x.s.data.toList m.data.toList)).size≤1018:=by
       rw [ofB_sizeS];have h1:=on_len (s:=x.s.data.toList) (m:=m.data.toList);have h2:x.s.data.toList.length=x.s.size:=by simp
       omega
      have HON:=Hd fun w=>refOn x.s m w (by omega) (by omega)
      have HE:=Hd (show(⟨#[40]⟩:ByteArray)++ofB (textL a)++(⟨#[32,119,104,101,110,32]⟩:ByteArray)++ofB (onL x.s.data.toList m.data.toList)++(⟨#[41]⟩:ByteArray)=ofB tx by
       rw [HTX.out,hkd,hab,hm];exact ba_ext (by simp [ofB,textK,gT,whenL]))
      clear hat1 HR1 HLS hat2 har HAR hma;generalize ofB (onL x.s.data.toList m.data.toList)=so at *;generalize ofB (textL a)=sa at *;generalize x.s=nm at *;have z1:(9223372036854775807<1+sa.size)=False:=by rw [eq_iff_iff,iff_false];omega
      have z2:(9223372036854775807<1+sa.size+6)=False:=by rw [eq_iff_iff,iff_false];omega
      have z3:(9223372036854775807<1+sa.size+6+so.size)=False:=by rw [eq_iff_iff,iff_false];omega
      have z4:(9223372036854775807<1+sa.size+6+so.size+1)=False:=by rw [eq_iff_iff,iff_false];omega
      simp only [Nat.add_zero] at t0;have lt0:=fun d os=>cell_regrown t0 d os;have lq2:=fun d os=>cell_regrown q2 d os;have lq4:=fun d os=>cell_regrown q4 d os;have lm0:=fun d os=>cell_regrown m0 d os;have cA:=fun d os=>Calls.regrown_of (HON.out (grow (redrawn wr d) os))
      go_wp2_with fail
      refine wp_region_quiet_below (by kernel_rfl) (by kernel_rfl) ?_
      repeat (quiet_step (exact cA _ _))
      refine wpQuiet_nil ?_;intro _ hw';obtain⟨⟨dq,osq⟩,hw''⟩:=hw';subst hw'';have HBR:=Hd (HBW.out.trans ((below_regrown wr dq osq).mono HBW.out.size));clear cA lt0 lq2 lq4 lm0;generalize grow (redrawn wr dq) osq=wq at *
      go_wp2_with fail
      go_ret
      exact⟨ret_strV HE.out,HB1.out.trans (HBR.out.mono HB1.out.size)⟩
    by_cases h12:x.k=12
    · have hkd:=h12;rw [h12] at q0
      have hla:x.arms.length=k:=by
       have h1:=hf.hi;have h2:=hf.lo;rw [show subsX x=((x.arms.length:Int),(x.arms.length:Int)) by simp [subsX,hkd],HLEN.out] at h1 h2;simp only at h1 h2;omega
      have hk6:k≤6:=by have:=hf.a12 hkd;omega
      have hns:x.s.size≤1000:=hnum.1;have HAL:=Hd fun a (ha:a∈x.arms)=>arm_len (hf.arms a ha);have HML:=Hd fun j (hj:j≤6)=>mg_len (x:=x) (j:=j) HAL.out hns HLT.out hj;have HMS:=Hd fun j (hj:j<k)=>mg_snoc (x:=x) (j:=j) (by omega) (by rw [HLEN.out];exact hj);have HM0:=Hd (show(⟨#[40,109,101,114,103,101,32]⟩:ByteArray)++x.s=ofB (mgL x 0) from ba_ext (by simp [ofB,mgL,mergeL,armsT]))
      have HME:=Hd (show ofB (mgL x k)++(⟨#[41]⟩:ByteArray)=ofB tx by
       rw [HTX.out,hkd]
       exact ba_ext (by
        unfold mgL;rw [List.take_of_length_le (by simp;omega),List.take_of_length_le (by simp [HLEN.out])]
        simp [ofB,textK]))
      have har:=HAR.out wr (HB1.out.trans (HBW.out.mono HB1.out.size));rw [hla] at har q4;have HAW:=Hd har;have HBX:=Hd (HB1.out.trans (HBW.out.mono HB1.out.size));have HTA:=Hd fun j (hj:j<k)=>(show(txS x.subs)[j]?.getD ByteArray.empty=ofB (textL (subX x j)) from txS_at (by rw [HLEN.out];exact hj));have HTZ:=Hd fun j (hj:j<k)=>(show(ofB (textL (subX x j))).size≤1300000 by rw [ofB_sizeS];exact HLS.out _ (subX_mem (by rw [HLEN.out];exact hj)))
      have HAZ:=Hd fun j (hj:j<k)=>(show(x.arms[j]?.getD ByteArray.empty).size≤12 by
       rw [List.getElem?_eq_getElem (by omega),Option.getD_some];have:=HAL.out _ (List.getElem_mem (by omega:j<x.arms.length))
       simpa using this)
      clear har HLS HAL HLT;have zn:(9223372036854775807<7+x.s.size)=False:=by rw [eq_iff_iff,iff_false];omega
      have HLA:=Hd hla;clear hla hkd h12;generalize wr=wo at *
      go_wp2_with fail
      go_loopw [5,6] (fun s i wq=>∃ j:Nat,j≤k∧i=.int .i64 j∧s=.string (ofB (mgL x j))∧Below wo.heap.size wo wq) (fun _ i _=>k-(intOf i).toNat)
      case atStart=>exact⟨0,Nat.zero_le _,rfl,by rw [← HM0.out],Below.refl _ _⟩
      case round=>
       obtain⟨j,hj,rfl,rfl,hbq⟩:=hrel;have HBQ:=Hd hbq;have hml:=HML.out j (by omega);have hms:(ofB (mgL x j)).size≤1302000:=by rw [ofB_sizeS];exact hml
       clear hml
       by_cases hjk:j<k
       · have q4:=HC.out wr (HBW.out.trans (hbq.mono HBW.out.size)) 4;rw [HLA.out] at q4;obtain⟨b1,off1,rfl,hb1l,hat1⟩:=(HR1.out.below hbq).at_ hjk;obtain⟨b2,off2,rfl,hb2l,hat2⟩:=(HAW.out.below hbq).at_ hjk;have t0:=hat1 j hjk;have m0:=hat2 j hjk;rw [HTA.out j hjk] at t0;have htz:=HTZ.out j hjk;have haz:=HAZ.out j hjk
         have HE:=Hd (show ofB (mgL x j)++(⟨#[32,40]⟩:ByteArray)++(x.arms[j]?.getD ByteArray.empty)++(⟨#[32,45,62,32]⟩:ByteArray)++ofB (textL (subX x j))++⟨#[41]⟩=ofB (mgL x (j+1)) by
          rw [HMS.out j hjk];exact ba_ext (by simp [ofB]))
         clear hat1 hat2 hbq HTA HTZ HAZ HMS HML q0 q1 q2 q3 q5;generalize ofB (mgL x j)=sv at *;generalize x.arms[j]?.getD ByteArray.empty=sm at *;generalize ofB (textL (subX x j))=st at *;have z1:(9223372036854775807<sv.size+2)=False:=by rw [eq_iff_iff,iff_false];omega
         have z2:(9223372036854775807<sv.size+2+sm.size)=False:=by rw [eq_iff_iff,iff_false];omega
         have z3:(9223372036854775807<sv.size+2+sm.size+4)=False:=by rw [eq_iff_iff,iff_false];omega
         have z4:(9223372036854775807<sv.size+2+sm.size+4+st.size)=False:=by rw [eq_iff_iff,iff_false];omega
         have z5:(9223372036854775807<sv.size+2+sm.size+4+st.size+1)=False:=by rw [eq_iff_iff,iff_false];omega
         have lt0:=fun d os=>cell_regrown t0 d os;have lm0:=fun d os=>cell_regrown m0 d os;have lq4:=fun d os=>cell_regrown q4 d os
         go_wp2_with fail
         refine wp_region_quiet_below (by kernel_rfl) (by kernel_rfl) ?_
         repeat (quiet_step (fail))
         refine wpQuiet_nil ?_;intro _ hw';obtain⟨⟨dq,osq⟩,hw''⟩:=hw';subst hw'';have HBR:=Hd (HBQ.out.trans ((below_regrown wr dq osq).mono HBQ.out.size));clear lt0 lm0 lq4;generalize grow (redrawn wr dq) osq=w5 at *
         go_wp2_with fail
         go_roundw
         case rel=>exact⟨j+1,by omega,by go_num,by rw [← HE.out],HBR.out⟩
         case measure=>simp [intOf];omega
       · have hjl:j=k:=by omega
         subst hjl;have HE:=Hd HME.out;generalize ofB (mgL x j)=sv at *;have z1:(9223372036854775807<sv.size+1)=False:=by rw [eq_iff_iff,iff_false];omega
         go_wp2_with fail
         go_ret
         exact⟨ret_strV HE.out,HBX.out.trans (HBQ.out.mono HBX.out.size)⟩
    by_cases h13:x.k=13
    · have hkd:=h13;rw [h13] at q0;have HBX:=Hd (HB1.out.trans (HBW.out.mono HB1.out.size));rcases hf.n2 (.inr hkd) with h0 | h0
      · have HE:=Hd (show ofB (callT 0 x.s.data.toList (x.subs.map textL))=ofB tx by rw [HTX.out,hkd,h0];simp [textK]);have HCL:=Hd (HCALL.out wr HBX.out hkd h0);rw [hkd,h0] at HCL;rw [h0] at q1
        go_wp2_with fail
        refine HCL.out.mono ?_;rintro r w3 ⟨rfl,hb3⟩;have HB3:=Hd (HBX.out.trans (hb3.mono HBX.out.size));clear hb3
        go_wp2_with fail
        go_ret
        exact⟨ret_strV HE.out,HB3.out⟩
      · obtain⟨l,y,hly⟩:∃ l y,x.subs=l++[y]:=by
         rcases List.eq_nil_or_concat x.subs with he | ⟨l,y,he⟩
         · have h:=hf.lo;rw [show subsX x=(x.n,6+x.n) by simp [subsX,hkd],h0,he] at h
           simp at h
         · exact⟨l,y,by rw [he,List.concat_eq_append]⟩
        have HE:=Hd (show ofB (callT 1 x.s.data.toList (x.subs.map textL))=ofB tx by rw [HTX.out,hkd,h0];simp [textK]);have HCL:=Hd (HCALL1.out wr HBX.out l y hkd h0 hly);rw [hkd,h0] at HCL;rw [h0] at q1;clear hly
        go_wp2_with fail
        refine HCL.out.mono ?_;rintro r w3 ⟨rfl,hb3⟩;have HB3:=Hd (HBX.out.trans (hb3.mono HBX.out.size));clear hb3
        go_wp2_with fail
        go_ret
        exact⟨ret_strV HE.out,HB3.out⟩
    by_cases h14:x.k=14
    · have hkd:=h14;rw [h14] at q0;have HBX:=Hd (HB1.out.trans (HBW.out.mono HB1.out.size));have htk:(x.subs.map textL).take k=x.subs.map textL:=List.take_of_length_le (by simp [HLEN.out]);have HCL:=Hd (HLIST.out cb wr HBX.out);rw [htk] at HCL
      have HE:=Hd (show(⟨#[91]⟩:ByteArray)++ofB (joinC (x.subs.map textL))++⟨#[93]⟩=ofB tx by
       rw [HTX.out,hkd];exact ba_ext (by simp [ofB,textK]))
      have hjz:(ofB (joinC (x.subs.map textL))).size≤1302000:=by
       rw [ofB_sizeS];exact HJL.out
      clear htk;generalize ofB (joinC (x.subs.map textL))=jt at *;have z1:(9223372036854775807<1+jt.size)=False:=by rw [eq_iff_iff,iff_false];omega
      have z2:(9223372036854775807<1+jt.size+1)=False:=by rw [eq_iff_iff,iff_false];omega
      go_wp2_with fail
      refine HCL.out.mono ?_;rintro r w3 ⟨rfl,hb3⟩;have HB3:=Hd (HBX.out.trans (hb3.mono HBX.out.size));clear hb3
      go_wp2_with fail
      go_ret
      exact⟨ret_strV HE.out,HB3.out⟩
    by_cases h15:x.k=15
    · have hkd:=h15;rw [h15] at q0;obtain⟨a,b,hab⟩:=len2 (subs_len hf (m:=2) (by simp [subsX,hkd]));have hk2:k=2:=by rw [← HLEN.out,hab];rfl
      subst hk2;obtain⟨b1,off1,rfl,hb1l,hat1⟩:=HR1.out.at_ (i:=0) (by omega);have t0:=hat1 0 (by omega);rw [txS_at (by rw [HLEN.out];omega),hab] at t0;simp only [List.getElem?_cons_succ,List.getElem?_cons_zero,Option.getD_some] at t0;have t1:=hat1 1 (by omega);rw [txS_at (by rw [HLEN.out];omega),hab] at t1;simp only [List.getElem?_cons_succ,List.getElem?_cons_zero,Option.getD_some] at t1;have hz0:(ofB (textL a)).size≤1300000:=by rw [ofB_sizeS];exact HLS.out a (by rw [hab];simp)
      have hz1:(ofB (textL b)).size≤1300000:=by rw [ofB_sizeS];exact HLS.out b (by rw [hab];simp)
      have HE:=Hd (show ofB (textL a)++(⟨#[91]⟩:ByteArray)++ofB (textL b)++(⟨#[93]⟩:ByteArray)=ofB tx by
       rw [HTX.out,hkd,hab];exact ba_ext (by simp [ofB,textK,gT,notL,ifL,thenL,elseL,preL,fbyL,arrL,withL]))
      clear hat1 HR1 HLS;generalize ofB (textL a)=sa at *;generalize ofB (textL b)=sb at *;have z1:(9223372036854775807<sa.size+1)=False:=by rw [eq_iff_iff,iff_false];omega
      have z2:(9223372036854775807<sa.size+1+sb.size)=False:=by rw [eq_iff_iff,iff_false];omega
      have z3:(9223372036854775807<sa.size+1+sb.size+1)=False:=by rw [eq_iff_iff,iff_false];omega
      simp only [Nat.add_zero] at t0;have lt0:=fun d os=>cell_regrown t0 d os;have lt1:=fun d os=>cell_regrown t1 d os
      go_wp2_with fail
      refine wp_region_quiet_below (by kernel_rfl) (by kernel_rfl) ?_
      repeat (quiet_step (fail))
      refine wpQuiet_nil ?_;intro _ hw';obtain⟨⟨dq,osq⟩,hw''⟩:=hw';subst hw'';have HBR:=Hd (HBW.out.trans ((below_regrown wr dq osq).mono HBW.out.size));generalize grow (redrawn wr dq) osq=wq at *
      go_wp2_with fail
      go_ret
      exact⟨ret_strV HE.out,HB1.out.trans (HBR.out.mono HB1.out.size)⟩
    by_cases h16:x.k=16
    · have hkd:=h16;rw [h16] at q0;obtain⟨a,b,c,hab⟩:=len3 (subs_len hf (m:=3) (by simp [subsX,hkd]));have hk3:k=3:=by rw [← HLEN.out,hab];rfl
      subst hk3;obtain⟨b1,off1,rfl,hb1l,hat1⟩:=HR1.out.at_ (i:=0) (by omega);have t0:=hat1 0 (by omega);rw [txS_at (by rw [HLEN.out];omega),hab] at t0;simp only [List.getElem?_cons_succ,List.getElem?_cons_zero,Option.getD_some] at t0;have t1:=hat1 1 (by omega);rw [txS_at (by rw [HLEN.out];omega),hab] at t1;simp only [List.getElem?_cons_succ,List.getElem?_cons_zero,Option.getD_some] at t1;have t2:=hat1 2 (by omega);rw [txS_at (by rw [HLEN.out];omega),hab] at t2;simp only [List.getElem?_cons_succ,List.getElem?_cons_zero,Option.getD_some] at t2;have hz0:(ofB (textL a)).size≤1300000:=by rw [ofB_sizeS];exact HLS.out a (by rw [hab];simp)
      have hz1:(ofB (textL b)).size≤1300000:=by rw [ofB_sizeS];exact HLS.out b (by rw [hab];simp)
      have hz2:(ofB (textL c)).size≤1300000:=by rw [ofB_sizeS];exact HLS.out c (by rw [hab];simp)
      have HE:=Hd (show(⟨#[40]⟩:ByteArray)++ofB (textL a)++(⟨#[32,119,105,116,104,32,91]⟩:ByteArray)++ofB (textL b)++(⟨#[93,32,61,32]⟩:ByteArray)++ofB (textL c)++(⟨#[41]⟩:ByteArray)=ofB tx by
       rw [HTX.out,hkd,hab];exact ba_ext (by simp [ofB,textK,gT,notL,ifL,thenL,elseL,preL,fbyL,arrL,withL]))
      clear hat1 HR1 HLS;generalize ofB (textL a)=sa at *;generalize ofB (textL b)=sb at *;generalize ofB (textL c)=sc at *;have z1:(9223372036854775807<1+sa.size)=False:=by rw [eq_iff_iff,iff_false];omega
      have z2:(9223372036854775807<1+sa.size+7)=False:=by rw [eq_iff_iff,iff_false];omega
      have z3:(9223372036854775807<1+sa.size+7+sb.size)=False:=by rw [eq_iff_iff,iff_false];omega
      have z4:(9223372036854775807<1+sa.size+7+sb.size+4)=False:=by rw [eq_iff_iff,iff_false];omega
      have z5:(9223372036854775807<1+sa.size+7+sb.size+4+sc.size)=False:=by rw [eq_iff_iff,iff_false];omega
      have z6:(9223372036854775807<1+sa.size+7+sb.size+4+sc.size+1)=False:=by rw [eq_iff_iff,iff_false];omega
      simp only [Nat.add_zero] at t0;have lt0:=fun d os=>cell_regrown t0 d os;have lt1:=fun d os=>cell_regrown t1 d os;have lt2:=fun d os=>cell_regrown t2 d os
      go_wp2_with fail
      refine wp_region_quiet_below (by kernel_rfl) (by kernel_rfl) ?_
      repeat (quiet_step (fail))
      refine wpQuiet_nil ?_;intro _ hw';obtain⟨⟨dq,osq⟩,hw''⟩:=hw';subst hw'';have HBR:=Hd (HBW.out.trans ((below_regrown wr dq osq).mono HBW.out.size));generalize grow (redrawn wr dq) osq=wq at *
      go_wp2_with fail
      go_ret
      exact⟨ret_strV HE.out,HB1.out.trans (HBR.out.mono HB1.out.size)⟩
    have HBX:=Hd (HB1.out.trans (HBW.out.mono HB1.out.size));have HE:=Hd (show ofB (leafT x.k x.n x.s.data.toList)=ofB tx by rw [HTX.out];simp [textK,h5,h6,h7,h8,h9,h10,h11,h12,h13,h14,h15,h16]);have HCL:=Hd (HLEAF.out wr HBX.out);have e5:(x.k==5)=false:=by simpa using h5
    have e6:(x.k==6)=false:=by simpa using h6
    have e7:(x.k==7)=false:=by simpa using h7
    have e8:(x.k==8)=false:=by simpa using h8
    have e9:(x.k==9)=false:=by simpa using h9
    have e10:(x.k==10)=false:=by simpa using h10
    have e11:(x.k==11)=false:=by simpa using h11
    have e12:(x.k==12)=false:=by simpa using h12
    have e13:(x.k==13)=false:=by simpa using h13
    have e14:(x.k==14)=false:=by simpa using h14
    have e15:(x.k==15)=false:=by simpa using h15
    have e16:(x.k==16)=false:=by simpa using h16
    go_wp2_with fail
    refine HCL.out.mono ?_;rintro r w3 ⟨rfl,hb3⟩;have HB3:=Hd (HBX.out.trans (hb3.mono HBX.out.size));clear hb3
    go_wp2_with fail
    go_ret
    exact⟨ret_strV HE.out,HB3.out⟩
end
section
open Go.RowKit Go.Sort
def textS(x:Ex):ByteArray:=if rightX x=true then ofB (textL x) else⟨#[]⟩
theorem right_size{x:Ex}(h:rightX x=true):sizeX x≤60:=by
 simp only [rightX,Bool.and_eq_true,Bool.not_eq_true',decide_eq_false_iff_not] at h;omega
theorem refExpr(x:Ex) (A:Option Addr) (ca:Nat) (B:Option Addr) (cb:Nat) (w:World) (hr:rdX w x A B) (hcb:x.k=13→x.subs.length≤cb) (hc:capX w x B) (hs:sizeX x≤1000000) (hsh:∀ p∈partsX x,ShortP p) (hn:∀ p∈partsX x,NumP p):
 Calls Tryz.prog 30 #[.agg (exA x A ca B cb)] w fun e w'=>e=.returned (.string (textS x))∧Below w.heap.size w w':=by
 have HF:=Hd fun w1 h=>box_facts w x A ca B cb w1 h hr;have HRT:=Hd fun w1 (h:Below w.heap.size w w1)=>refRight x A ca B cb w1 (hr.below h) hs hsh;have HTX:=Hd fun(hx:rightX x=true) w1 (h:Below w.heap.size w w1)=>refText x (right_ok hx) hn (by have:=right_size hx;omega) A ca B cb w1 (hr.below h) hcb (hc.below hr h);have HS:=Hd (show textS x=if rightX x=true then ofB (textL x) else⟨#[]⟩ from rfl);clear hr hc hsh hn;unfold exA at HF HRT HTX ⊢;generalize textS x=ts at *;generalize rightX x=rx at *
 cases rx with
 | false=>
  have HE:=Hd (show(⟨#[]⟩:ByteArray)=ts by rw [HS.out];rfl)
  go_enter Tryz.func30,Tryz.ntmps30
  go_upto_region 1 with(fail)
  generalize hw1:w.alloc _=w1;obtain⟨hb1,hg,hr1,hcell⟩:=HF.out w1 hw1;have HB1:=Hd hb1;have HC:=Hd hcell;obtain⟨q0,q1,q2,q3,q4,q5⟩:=Sx (hcell w1 (Below.refl _ _));clear hcell hb1 hr1 hw1 HF
  go_wp2_with fail
  refine(HRT.out w1 HB1.out).mono ?_;rintro r w2 ⟨rfl,hb⟩;have HB2:=Hd (HB1.out.trans (hb.mono HB1.out.size));clear hb
  go_wp2_with fail
  go_ret
  exact⟨ret_strV HE.out,HB2.out⟩
 | true=>
  have HE:=Hd (show ofB (textL x)=ts by rw [HS.out];rfl)
  go_enter Tryz.func30,Tryz.ntmps30
  go_upto_region 1 with(fail)
  generalize hw1:w.alloc _=w1;obtain⟨hb1,hg,hr1,hcell⟩:=HF.out w1 hw1;have HB1:=Hd hb1;have HC:=Hd hcell;obtain⟨q0,q1,q2,q3,q4,q5⟩:=Sx (hcell w1 (Below.refl _ _));clear hcell hb1 hr1 hw1 HF
  go_wp2_with fail
  refine(HRT.out w1 HB1.out).mono ?_;rintro r w2 ⟨rfl,hb⟩;have HB2:=Hd (HB1.out.trans (hb.mono HB1.out.size));have HW2:=Hd hb;clear hb q0 q1 q2 q3 q4 q5;obtain⟨q0,q1,q2,q3,q4,q5⟩:=Sx (HC.out w2 HW2.out)
  go_wp2_with fail
  refine(HTX.out (by first | trivial | rfl) w2 HB2.out).mono ?_;rintro r w3 ⟨rfl,hb⟩;have HB3:=Hd (HB2.out.trans (hb.mono HB2.out.size));clear hb
  go_wp2_with fail
  go_ret
  exact⟨ret_strV HE.out,HB3.out⟩
end
end Go.Proofs.YtpedcgpcchbhpaaGreatDoor
