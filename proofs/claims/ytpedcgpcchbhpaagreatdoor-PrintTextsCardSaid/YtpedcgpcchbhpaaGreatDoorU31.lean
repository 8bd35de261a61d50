/- Parts of the proof: PkC, PkD, SpB, SpC. Conditions: each theorem's own. -/
import Derived.Test.YtpedcgpcchbhpaaGreatDoorU27
import Derived.Test.YtpedcgpcchbhpaaGreatDoorU30
namespace Go.Proofs.YtpedcgpcchbhpaaGreatDoor
set_option linter.unusedVariables false
set_option linter.unusedSimpArgs false
set_option maxRecDepth 100000
set_option maxHeartbeats 40000000
section
open Go.RowKit Go.Sort Go.BigFrame
theorem text_size{es:List En}(h:EsShort es) (k e l:Int):(textE es k e l).size≤103:=by
 cases hr:rightB es.length k e l with
 | false=>rw [text_no hr];decide
 | true=>
  have hb:=base_size h hr
  by_cases hl:l=0
  · subst hl;rw [text_zero hr];omega
  · rw [text_lenT hr hl];have:=dig_size l;simp only [ByteArray.size_append]
    show _+1+_+1≤103
    omega
def ShortD(d:Dc):Prop:=d.nm.size≤1000∧d.on.size≤1000∧d.ct.size≤1000
theorem onL_len(a b:List UInt8) (ha:a.length≤1000) (hb:b.length≤1000):(onL a b).length≤2010:=by
 unfold onL
 split
 · omega
 · split
   · simp [notL];omega
   · simp;omega
theorem tyL_len{es:List En}(h:EsShort es) (d:Dc):(tyL es d).length≤103:=text_size h d.k d.e d.l
theorem declT_len{es:List En}(h:EsShort es){d:Dc}(hd:ShortD d):(declT (tyL es) d).length≤4000:=by
 have h1:=tyL_len h d;have h2:=onL_len d.on.data.toList d.ct.data.toList hd.2.1 hd.2.2;have h3:d.nm.data.toList.length≤1000:=hd.1;have h4:=hd.1;unfold declT;simp only [List.length_append,List.length_cons]
 split
 · simp;omega
 · simp only [List.length_append];have:wkwL.length=6:=rfl;omega
theorem refDeclT(es:List En) (E:Option Addr) (ec:Nat) (x:Dc) (w:World) (hE:RdE w E es.length es) (hsm:EsShort es) (hd:ShortD x):
 Calls Tryz.prog 12 #[.slice E es.length ec,.agg (dcA x)] w fun e w'=>e=.returned (.string (ofB (declT (tyL es) x)))∧Below w.heap.size w w':=by
 have HF:=Hd fun w1 hw=>dc_facts w x w1 hw;have HTX:=Hd fun w1 (h:RdE w1 E es.length es)=>refTyText E es.length ec es x.k x.e x.l w1 h hsm;have HON:=Hd fun w1=>refOn x.on x.ct w1 (by have:=hd.2.1;omega) (by have:=hd.2.2;omega);have hts:=text_size hsm x.k x.e x.l;have hns:=hd.1;have hos:(ofB (onL x.on.data.toList x.ct.data.toList)).size≤2010:=by rw [ofB_sizeS];exact onL_len _ _ hd.2.1 hd.2.2
 have HE0:=Hd fun(h:(x.on.toList==[])=true)=>(show x.nm++(⟨#[58,32]⟩:ByteArray)++textE es x.k x.e x.l=ofB (declT (tyL es) x) by
  rw [Lib.toList_data] at h;unfold declT;rw [show noB x.on=true from h,if_pos rfl];exact ba_ext (by simp [ofB,tyL]))
 have HE1:=Hd fun(h:(x.on.toList==[])=false)=>(show x.nm++(⟨#[58,32]⟩:ByteArray)++textE es x.k x.e x.l++(⟨#[32,119,104,101,110,32]⟩:ByteArray)++ofB (onL x.on.data.toList x.ct.data.toList)=ofB (declT (tyL es) x) by
  rw [Lib.toList_data] at h;unfold declT;rw [show noB x.on=false from h,if_neg (by simp)];exact ba_ext (by simp [ofB,tyL,wkwL]))
 have HRE:=Hd hE;clear hd hsm hE;unfold dcA at HF ⊢;unfold tyV at HTX;generalize ofB (declT (tyL es) x)=out at *;generalize textE es x.k x.e x.l=tt at *;generalize ofB (onL x.on.data.toList x.ct.data.toList)=ot at *;have z1:(9223372036854775807<x.nm.size+2)=False:=by rw [eq_iff_iff,iff_false];omega
 have z2:(9223372036854775807<x.nm.size+2+tt.size)=False:=by rw [eq_iff_iff,iff_false];omega
 have z3:(9223372036854775807<x.nm.size+2+tt.size+6)=False:=by rw [eq_iff_iff,iff_false];omega
 have z4:(9223372036854775807<x.nm.size+2+tt.size+6+ot.size)=False:=by rw [eq_iff_iff,iff_false];omega
 go_enter Tryz.func12,Tryz.ntmps12
 go_upto_region 1 with(fail)
 generalize hw1:w.alloc _=w1;obtain⟨hb1,hg,hcell⟩:=HF.out w1 hw1;have HB1:=Hd hb1;have HC:=Hd hcell;have HR1:=Hd (HRE.out.below hb1);obtain⟨p0,p1,p2,p3,-,-⟩:=Sx (hcell w1 (Below.refl _ _));simp only [Ya,Yb,Yc] at p0 p1 p2 p3;clear hw1 hcell hb1 HF HRE;have HBR:=Hd fun d os=>below_regrown w1 d os;have l0:=fun d os=>cell_regrown p0 d os;have l1:=fun d os=>cell_regrown p1 d os;have l2:=fun d os=>cell_regrown p2 d os;have l3:=fun d os=>cell_regrown p3 d os;have cA:=fun d os=>Calls.regrown_of (HTX.out (grow (redrawn w1 d) os) (HR1.out.below (below_regrown w1 d os)));refine wp_region_quiet_below (by kernel_rfl) (by kernel_rfl) ?_
 repeat (go_big_quiet_step (exact cA _ _))
 refine wpQuiet_nil ?_;intro _ hw';obtain⟨⟨dq,osq⟩,hw''⟩:=hw';have hbr:=HBR.out dq osq;rw [← hw''] at hbr;clear cA l0 l1 l2 l3 p0 p1 p2 p3 hw''
 rename_i w2
 have HB2:=Hd (HB1.out.trans (hbr.mono HB1.out.size));have s4:=HC.out w2 hbr 4;have s5:=HC.out w2 hbr 5;simp only [Ya,Yb,Yc] at s4 s5;clear hbr;have hne:(x.on.toList != [])=!(x.on.toList==[]):=rfl
 cases h1:(x.on.toList==[]) with
 | true=>
  rw [h1] at hne;have HO:=Hd (HE0.out h1)
  go_wp2_with fail
  go_ret
  exact⟨ret_strV HO.out,HB2.out⟩
 | false=>
  rw [h1] at hne;have HO:=Hd (HE1.out h1)
  go_wp2_with fail
  refine(HON.out w2).mono ?_;rintro e w3 ⟨rfl,hb3⟩;have HB3:=Hd (HB2.out.trans (hb3.mono HB2.out.size));clear hb3 s4 s5
  go_wp2_with fail
  go_ret
  exact⟨ret_strV HO.out,HB3.out⟩
end
section
open Go.RowKit Go.Sort Go.BigFrame
theorem declsT_len{es:List En}(h:EsShort es){l:List Dc}(hl:∀ d∈l,ShortD d):(declsT (tyL es) l).length≤4002*l.length:=by
 have:=joinW_len (s:=59) (m:=4000) (l:=l.map (declT (tyL es))) (fun a ha=>by
  obtain⟨d,hd,rfl⟩:=List.mem_map.1 ha;exact declT_len h (hl d hd))
 simpa [declsT] using this
theorem refDeclsT(es:List En) (E:Option Addr) (ec:Nat) (A:Option Addr) (n c:Nat) (l:List Dc) (w:World) (hE:RdE w E es.length es) (hsm:EsShort es) (h:RdD w A n l) (hn:n≤1000) (hs:∀ d∈l,ShortD d):
 Calls Tryz.prog 29 #[.slice E es.length ec,.slice A n c] w fun e w'=>e=.returned (.string (ofB (declsT (tyL es) l)))∧Below w.heap.size w w':=by
 have hln:=RdS.len h;have hmx:=RdS.max h;have HR:=Hd h;have HRE:=Hd hE;have HJL:=Hd fun k=>(show(joinW 59 ((l.map (declT (tyL es))).take k)).length≤4002000 from Nat.le_trans (join_take (m:=4000) k fun d hd=>declT_len hsm (hs d hd)) (by omega))
 have HDL:=Hd fun(k:Nat) (hk:k<l.length)=>(show ShortD (l[k]?.getD default) by
  rw [List.getElem?_eq_getElem hk,Option.getD_some];exact hs _ (List.getElem_mem _))
 have HTL:=Hd fun(d:Dc) (hd:ShortD d)=>declT_len hsm hd;have HCL:=Hd fun(d:Dc) (hd:ShortD d) w1 (a:RdE w1 E es.length es)=>refDeclT es E ec d w1 a hsm hd;have HTS:=Hd fun(k:Nat) (hk:k<l.length)=>map_take_snoc (f:=declT (tyL es)) hk;have HK0:=Hd fun(k:Nat) (hk:k<l.length) h=>take_nil_zero (f:=declT (tyL es)) (l:=l) (k:=k) hk h;have HLN:=Hd hln;unfold dcA at HCL;unfold declsT;clear h hs hln hE hsm
 go_enter Tryz.func29,Tryz.ntmps29
 go_wp2_with fail
 go_loopw [5,6] (fun s i wr=>∃ k:Nat,k≤n∧i=.int .i64 k∧s=.string (ofB (joinW 59 ((l.map (declT (tyL es))).take k)))∧Below w.heap.size w wr) (fun _ i _=>n-(intOf i).toNat)
 case atStart=>exact⟨0,Nat.zero_le _,rfl,rfl,Below.refl _ _⟩
 case round=>
  obtain⟨k,hk,rfl,rfl,hbw⟩:=hrel;have HBW:=Hd hbw;have hjl:=HJL.out k
  by_cases hlt:k<n
  · obtain⟨b,off,rfl,hb,hc⟩:=RdS.at_ (HR.out.below hbw) (by omega);obtain⟨d0,d1,d2,d3,d4,d5⟩:=(hc k hlt).six;have hsd:=HDL.out k (by rw [HLN.out];exact hlt);have htl:=HTL.out _ hsd;have HCK:=Hd (HCL.out _ hsd wr (HRE.out.below hbw));have HTK:=Hd (HTS.out k (by rw [HLN.out];exact hlt));have HKK:=Hd (HK0.out k (by rw [HLN.out];exact hlt));have HZ:=Hd (show(l.map (declT (tyL es))).take 0=[] from rfl);clear hc hbw hsd;generalize l[k]?.getD default=y at *;generalize htk:(l.map (declT (tyL es))).take k=tk at *;have hsj:(ofB (joinW 59 tk)).size=(joinW 59 tk).length:=ofB_sizeS _;have hsy:(ofB (declT (tyL es) y)).size=(declT (tyL es) y).length:=ofB_sizeS _
    by_cases h0:k=0
    · subst h0;simp only [Nat.zero_mul,Nat.add_zero] at d0 d1 d2 d3 d4 d5
      have HE:=Hd (show ofB (joinW 59 tk)++ofB (declT (tyL es) y)=ofB (joinW 59 ((l.map (declT (tyL es))).take (0+1))) by
       rw [HTK.out,← htk];exact ba_ext (by simp [ofB,joinW]))
      generalize ofB (joinW 59 tk)=sa at *;generalize ofB (declT (tyL es) y)=sb at *;have z1:(9223372036854775807<sa.size+sb.size)=False:=by rw [eq_iff_iff,iff_false];omega
      go_wp2_with fail
      refine HCK.out.mono ?_;rintro r w2 ⟨rfl,hb2⟩;have HB2:=Hd (HBW.out.trans (hb2.mono HBW.out.size));clear hb2
      go_wp2_with fail
      go_roundw
      case rel=>exact⟨1,by omega,by go_num,by rw [← HE.out],HB2.out⟩
      case measure=>simp [intOf];omega
    · have hd:decide ((0:Int)<(k:Int))=true:=decide_eq_true (by omega)
      have HE:=Hd (show ofB (joinW 59 tk)++(⟨#[59,32]⟩:ByteArray)++ofB (declT (tyL es) y)=ofB (joinW 59 ((l.map (declT (tyL es))).take (k+1))) by
       rw [HTK.out,joinW_snoc 59 tk _ (fun h=>h0 (HKK.out h))];exact ba_ext (by simp [ofB]))
      generalize ofB (joinW 59 tk)=sa at *;generalize ofB (declT (tyL es) y)=sb at *;have z1:(9223372036854775807<sa.size+2)=False:=by rw [eq_iff_iff,iff_false];omega
      have z2:(9223372036854775807<sa.size+2+sb.size)=False:=by rw [eq_iff_iff,iff_false];omega
      go_wp2_with fail
      refine HCK.out.mono ?_;rintro r w2 ⟨rfl,hb2⟩;have HB2:=Hd (HBW.out.trans (hb2.mono HBW.out.size));clear hb2
      go_wp2_with fail
      go_roundw
      case rel=>exact⟨k+1,by omega,by go_num,by rw [← HE.out],HB2.out⟩
      case measure=>simp [intOf];omega
  · have hkl:k=n:=by omega
    have HE:=Hd (show(l.map (declT (tyL es))).take k=l.map (declT (tyL es)) from List.take_of_length_le (by rw [List.length_map,HLN.out];omega))
    go_wp2_with fail
    go_ret
    exact⟨ret_strV (by rw [HE.out]),HBW.out⟩
end
section
open Go.RowKit Go.Sort
def dL(l:List ByteArray):List (List UInt8):=l.map (·.data.toList)
theorem dL_len(l:List ByteArray):(dL l).length=l.length:=by simp [dL]
theorem jt_snoc(sep:List UInt8) (r:List (List UInt8)) (y:List UInt8):Lib.joinTail sep (r++[y])=Lib.joinTail sep r++(sep++y):=by
 simp [Lib.joinTail]
def pcS(arms ts:List ByteArray) (i:Nat):ByteArray:=winS ⟨#[40]⟩ ⟨#[32]⟩ ⟨#[41]⟩ [arms[i]?.getD ByteArray.empty,⟨#[45,62]⟩,ts[i]?.getD ByteArray.empty]
def mgS(name:ByteArray) (arms ts:List ByteArray) (j:Nat):List ByteArray:=⟨#[109,101,114,103,101]⟩::name::(List.range j).map (pcS arms ts)
theorem mgS_succ(name:ByteArray) (arms ts:List ByteArray) (j:Nat):mgS name arms ts (j+1)=mgS name arms ts j++[pcS arms ts j]:=by simp [mgS,List.range_succ]
theorem mgS_len(name:ByteArray) (arms ts:List ByteArray) (j:Nat):(mgS name arms ts j).length=j+2:=by simp [mgS]
theorem pc_data(a t:ByteArray):(winS ⟨#[40]⟩ ⟨#[32]⟩ ⟨#[41]⟩ [a,⟨#[45,62]⟩,t]).data.toList=40::(a.data.toList++32::45::62::32::(t.data.toList++[41])):=by
 simp [winS,jn_cons,Lib.joinTail,ofB_data]
theorem dL_at{l:List ByteArray}{j:Nat}(h:j<l.length):(dL l).take (j+1)=(dL l).take j++[(l[j]?.getD ByteArray.empty).data.toList]:=by
 unfold dL;rw [List.take_succ_eq_append_getElem (by simpa using h)]
 simp [List.getElem?_eq_getElem h]
theorem mg_tail(arms ts:List ByteArray):∀ j,j≤arms.length→j≤ts.length→Lib.joinTail [32] (dL ((List.range j).map (pcS arms ts)))=armsT ((dL arms).take j) ((dL ts).take j)
 | 0,_,_=>by simp [Lib.joinTail,dL,armsT]
 | j+1,h1,h2=>by
  have ih:=mg_tail arms ts j (by omega) (by omega);have e:dL ((List.range (j+1)).map (pcS arms ts))=dL ((List.range j).map (pcS arms ts))++[(pcS arms ts j).data.toList]:=by simp [dL,List.range_succ]
  rw [e,jt_snoc,ih,dL_at (by omega),dL_at (by omega),armsT_snoc _ _ _ _ (by simp [dL_len];omega),pcS,pc_data]
  simp
theorem mg_jn(name:ByteArray) (arms ts:List ByteArray) (h:arms.length=ts.length):jnT (mgS name arms ts arms.length) ⟨#[32]⟩=mergeL++32::(name.data.toList++armsT (dL arms) (dL ts)):=by
 have h1:=mg_tail arms ts arms.length (Nat.le_refl _) (by omega);rw [List.take_of_length_le (by rw [dL_len];exact Nat.le_refl _),List.take_of_length_le (by rw [dL_len];omega)] at h1;rw [mgS,jn_cons,List.map_cons];simp only [dL] at h1;simp only [dL,Lib.joinTail,List.map_cons,List.flatten_cons] at h1 ⊢;rw [h1]
 simp [mergeL]
theorem mg_text(name:ByteArray) (arms ts:List ByteArray) (h:arms.length=ts.length):winS ⟨#[40]⟩ ⟨#[32]⟩ ⟨#[41]⟩ (mgS name arms ts arms.length)=ofB (40::(mergeL++32::(name.data.toList++(armsT (dL arms) (dL ts)++[41])))):=
 ba_ext (by rw [ofB_data];simp [winS,mg_jn name arms ts h,ofB_data])
theorem own_two{w:World}(a b:ByteArray):(w.alloc (.cells #[.string a,.string b] 9)).ownsRow w.heap.size 9 1 (.slice (some ⟨w.heap.size,0,none⟩) 2 2) 2 ([a,b].map Value.string):=
 World.ownsRow_lit (base:=w.heap.size) (e:=9) (size:=1) w #[.string a,.string b] 2 (Nat.le_refl _) (by decide) rfl
theorem texts_ownS{w:World}{base:Nat}{e:TypeId}{v:Value}{n:Nat}{ss:List ByteArray}(h:w.ownsRow base e 1 v n (ss.map Value.string)) (hm:n≤9223372036854775807):∃ A c,v=.slice A n c∧RdT w A n ss∧n≤c:=by
 obtain⟨A,c,hv,hR,_⟩:=RdT.of_own h hm;refine⟨A,c,hv,hR,?_⟩;subst hv;rcases h.2 with⟨h1,h2⟩|⟨g,cap,cur,h1,_,_,h2,_⟩
 · injection h1 with _ h3 h4;omega
 · injection h1 with _ h3 h4;omega
theorem shMerge(name:ByteArray) (A:Option Addr) (k ca:Nat) (arms:List ByteArray) (B:Option Addr) (cb:Nat) (ts:List ByteArray) (w:World) (hA:RdT w A k arms) (hB:RdT w B k ts) (hk:k≤1000)
 (hs:name.size≤1000) (ha:∀ a∈arms,a.size≤12) (ht:∀ t∈ts,t.size≤2000000) (hl:lensT (dL ts)≤10000000):
 Calls Tryz.prog 122 #[.string name,.slice A k ca,.slice B k cb] w fun e w'=>e=.returned (.string (ofB (40::(mergeL++32::(name.data.toList++(armsT (dL arms) (dL ts)++[41]))))))∧Below w.heap.size w w':=by
 obtain⟨i0,hi,hz0,hz1,hz2⟩:=info_parts infoString;have hla:=hA.len;have hlb:=hB.len;have HTX:=Hd (mg_text name arms ts (by omega));rw [hla] at HTX
 have HJN:=Hd (show(jnT (mgS name arms ts k) ⟨#[32]⟩).length≤100000000 by
  rw [← hla,mg_jn name arms ts (by omega)]
  have h1:=armsT_len (dL arms) (dL ts) (fun a h=>by
   obtain⟨m,hm,rfl⟩:=List.mem_map.1 h
   simpa using ha m hm)
  have h2:name.data.toList.length=name.size:=by simp
  rw [dL_len] at h1;simp only [List.length_append,List.length_cons,mergeL,List.length_nil];omega)
 have HPC:=Hd fun i (hi:i<k) (w1:World)=>(shPhrase (some ⟨w1.heap.size,0,none⟩) 3 3 [arms[i]?.getD ByteArray.empty,⟨#[45,62]⟩,ts[i]?.getD ByteArray.empty] (w1.alloc (.cells #[.string (arms[i]?.getD ByteArray.empty),.string ⟨#[45,62]⟩,.string (ts[i]?.getD ByteArray.empty)] 9)) (litT w1 _ _ 3 _ rfl (by decide) rfl) (Nat.le_refl _) (by decide) (by
  have h1:=ha (arms[i]?.getD ByteArray.empty) (by rw [List.getElem?_eq_getElem (by omega)];exact List.getElem_mem _);have h2:=ht (ts[i]?.getD ByteArray.empty) (by rw [List.getElem?_eq_getElem (by omega)];exact List.getElem_mem _);have h3:(arms[i]?.getD ByteArray.empty).data.toList.length=(arms[i]?.getD ByteArray.empty).size:=by simp
  have h4:(ts[i]?.getD ByteArray.empty).data.toList.length=(ts[i]?.getD ByteArray.empty).size:=by simp
  simp [jn_cons,Lib.joinTail]
  omega))
 have HMS:=Hd fun j=>mgS_succ name arms ts j;have HML:=Hd fun j=>mgS_len name arms ts j;have HPD:=Hd fun j=>(show winS ⟨#[40]⟩ ⟨#[32]⟩ ⟨#[41]⟩ [arms[j]?.getD ByteArray.empty,⟨#[45,62]⟩,ts[j]?.getD ByteArray.empty]=pcS arms ts j from rfl);have HAW:=Hd hA;have HBW:=Hd hB;have HO0:=Hd (own_two (w:=w) ⟨#[109,101,114,103,101]⟩ name);have HM0:=Hd (show [(⟨#[109,101,114,103,101]⟩:ByteArray),name]=mgS name arms ts 0 from rfl);have HB0:=Hd ((Below.refl w.heap.size w).alloc (Nat.le_refl _) (.cells #[.string ⟨#[109,101,114,103,101]⟩,.string name] 9));clear hA hB ha ht hl hs hla hlb;generalize ofB (40::(mergeL++32::(name.data.toList++(armsT (dL arms) (dL ts)++[41]))))=tx at *
 go_enter Tryz.func122,Tryz.ntmps122
 go_wp2_with fail
 go_loopw [7,14] (fun v i wr=>∃ j:Nat,j≤k∧i=.int .i64 j∧wr.ownsRow w.heap.size 9 1 v (j+2) ((mgS name arms ts j).map Value.string)∧Below w.heap.size w wr) (fun _ i _=>k-(intOf i).toNat)
 case atStart=>exact⟨0,Nat.zero_le _,rfl,HO0.out,HB0.out⟩
 case round=>
  obtain⟨j,hj,rfl,hrow,hbw⟩:=hrel;have HRW:=Hd hrow;have HBR:=Hd hbw;have hbs:=hbw.size
  by_cases hlt:j<k
  · obtain⟨b1,off1,rfl,hb1l,hat1⟩:=(HAW.out.below hbw).at_ hlt;obtain⟨b2,off2,rfl,hb2l,hat2⟩:=(HBW.out.below hbw).at_ hlt;have m0:=hat1 j hlt;have t0:=hat2 j hlt;have HP:=Hd (HPC.out j hlt wr);have hpd:=HPD.out j;rw [hpd] at HP;have HMJ:=Hd (HMS.out j);clear hat1 hat2 hpd hrow hbw HPC HPD HMS;generalize pcS arms ts j=pj at *;generalize arms[j]?.getD ByteArray.empty=am at *;generalize ts[j]?.getD ByteArray.empty=tm at *;have HA1:=Hd ((Below.refl wr.heap.size wr).alloc (Nat.le_refl _) (.cells #[.string am,.string ⟨#[45,62]⟩,.string tm] 9))
    go_wp2_with fail
    refine HP.out.mono ?_;rintro r w3 ⟨rfl,hb3⟩;have hb4:=HA1.out.trans (hb3.mono HA1.out.size);have hrow3:=own_belowX HRW.out hb4;have HB3:=Hd (HBR.out.trans (hb4.mono hbs));have hbs3:=HB3.out.size;clear hb3 hb4
    go_wp2_with (at_builtin;go_must (refine wpList_append_own_at _ rfl _ _ 44 rfl w.heap.size 9 i0 (.string ByteArray.empty) 1 16 Tryz.underlying44 hi hz0 hz1 hz2 rfl (by decide) _ _ _ rfl (hrow3.alloc _) ⟨w3.heap.size,0,none⟩ 1 1 [.string pj] rfl rfl (cell_one_new _ _ _) (string_cells [pj]) (by unfold maxLen;omega) (by omega) (by simp;omega) ?_;intro v' w4 hown' hgrow hnil hloc))
    have HB4:=Hd ((HB3.out.alloc hbs3 (.cells #[.string pj] 9)).grown hgrow (by simp;omega) (fun i hi=>(hrow3.lt i hi).1));have HOW:=Hd hown';clear hgrow hnil hown' hloc
    go_roundw
    case rel=>
     refine⟨j+1,by omega,by go_num,?_,HB4.out⟩;rw [HMJ.out,List.map_append];exact HOW.out
    case measure=>simp [intOf];omega
  · have hjk:j=k:=by omega
    subst hjk;obtain⟨A1,c1,rfl,hR1,hcc⟩:=texts_ownS HRW.out (by omega);have HP:=Hd (shPhrase A1 (j+2) c1 (mgS name arms ts j) wr hR1 hcc (by omega) HJN.out);rw [HTX.out] at HP;clear hR1 hcc hrow hbw
    go_wp2_with fail
    refine HP.out.mono ?_;rintro r w3 ⟨rfl,hb3⟩;have HB3:=Hd (HBR.out.trans (hb3.mono hbs));clear hb3
    go_wp2_with fail
    go_ret
    exact⟨rfl,HB3.out⟩
end
section
open Go.RowKit Go.Sort
theorem dl_get{l:List ByteArray}{j:Nat}(h:j<l.length):gT (dL l) j=(l[j]?.getD ByteArray.empty).data.toList:=by
 simp [gT,dL,List.getElem?_eq_getElem h]
theorem jn_len(ss:List ByteArray):(jnT ss ⟨#[44,32]⟩).length≤lensT (dL ss)+2*ss.length:=by
 have h:=joinC_len (dL ss);rw [← jn_join,dL_len] at h;exact h
theorem RdT.takeT{w:World}{A:Option Addr}{n m:Nat}{ss:List ByteArray}(h:RdT w A n ss) (hm:m≤n):RdT w A m (ss.take m):=by
 have hl:=h.1;have hx:=h.2.1;refine⟨by simp;omega,by omega,fun hp=>?_⟩;obtain⟨b,off,e,hb,hc⟩:=h.2.2 (by omega);refine⟨b,off,e,hb,fun i hi=>?_⟩;rw [List.getElem?_take_of_lt hi];exact hc i (by omega)
theorem call0_text(name:ByteArray) (ts:List ByteArray):winS (name++(⟨#[40]⟩:ByteArray)) ⟨#[44,32]⟩ ⟨#[41]⟩ ts=ofB (callT 0 name.data.toList (dL ts)):=
 ba_ext (by
  have h:(jnT ts ⟨#[44,32]⟩)=joinC (dL ts):=jn_join _;rw [ofB_data]
  simp [winS,h,ofB_data,callT])
theorem shCall0(name:ByteArray) (A:Option Addr) (n c:Nat) (ts:List ByteArray) (w:World) (hA:RdT w A n ts) (hn:n≤1000) (hnc:n≤c) (hs:name.size≤1000) (hl:lensT (dL ts)≤10000000):
 Calls Tryz.prog 123 #[.string name,.bool false,.slice A n c] w fun e w'=>e=.returned (.string (ofB (callT 0 name.data.toList (dL ts))))∧Below w.heap.size w w':=by
 have hlen:=hA.len;have hj:=jn_len ts;have HL:=Hd (shList (name++(⟨#[40]⟩:ByteArray)) ⟨#[41]⟩ A n c ts w hA hnc (by omega) (by simp only [ByteArray.size_append];show name.size+1≤_;omega) (by decide) (by omega));rw [call0_text] at HL;clear hA hl hj hlen;have z1:(9223372036854775807<name.size+1)=False:=by rw [eq_iff_iff,iff_false];omega
 generalize ofB (callT 0 name.data.toList (dL ts))=tx at *
 go_enter Tryz.func123,Tryz.ntmps123
 go_wp2_with fail
 refine HL.out.mono ?_;rintro r w2 ⟨rfl,hb⟩;have HB2:=Hd hb;clear hb
 go_wp2_with fail
 go_ret
 exact⟨rfl,HB2.out⟩
theorem call1_text(name:ByteArray) (ts:List ByteArray) (m:Nat) (h:ts.length=m+1):
 winS ⟨#[40]⟩ ⟨#[32]⟩ ⟨#[41]⟩ [ofB (callT 0 name.data.toList (dL (ts.take m))),⟨#[101,118,101,114,121]⟩,ts[m]?.getD ByteArray.empty]=ofB (callT 1 name.data.toList (dL ts)):=
 ba_ext (by
  have h1:=dl_get (l:=ts) (j:=m) (by omega);have h2:dL (ts.take m)=(dL ts).take m:=by simp [dL]
  rw [ofB_data]
  simp [winS,jn_cons,Lib.joinTail,ofB_data,callT,h2,dL_len,h,h1,everyL])
theorem shCall1(name:ByteArray) (A:Option Addr) (m c:Nat) (ts:List ByteArray) (w:World) (hA:RdT w A (m+1) ts) (hn:m+1≤1000) (hnc:m+1≤c) (hs:name.size≤1000) (hl:lensT (dL ts)≤10000000):
 Calls Tryz.prog 123 #[.string name,.bool true,.slice A (m+1) c] w fun e w'=>e=.returned (.string (ofB (callT 1 name.data.toList (dL ts))))∧Below w.heap.size w w':=by
 have hlen:=hA.len;have hlt:=lensT_take (dL ts) m;have hla:=lensT_at (dL ts) m;have htk:dL (ts.take m)=(dL ts).take m:=by simp [dL]
 have HC0:=Hd fun w1 (h:Below w.heap.size w w1)=>shCall0 name A m c (ts.take m) w1 ((hA.below h).takeT (by omega)) (by omega) (by omega) hs (by rw [htk];omega)
 have HPH:=Hd fun(w1:World)=>shPhrase (some ⟨w1.heap.size,0,none⟩) 3 3 [ofB (callT 0 name.data.toList (dL (ts.take m))),⟨#[101,118,101,114,121]⟩,ts[m]?.getD ByteArray.empty] (w1.alloc (.cells #[.string (ofB (callT 0 name.data.toList (dL (ts.take m)))),.string ⟨#[101,118,101,114,121]⟩,.string (ts[m]?.getD ByteArray.empty)] 9)) (litT w1 _ _ 3 _ rfl (by decide) rfl) (Nat.le_refl _) (by decide) (by
  have h1:=dl_get (l:=ts) (j:=m) (by omega);rw [h1] at hla;have h2:=joinC_len ((dL ts).take m);have h3:name.data.toList.length=name.size:=by simp
  have h4:((dL ts).take m).length≤m:=by simp;omega
  have h5:((dL (ts.take m))).length≤m:=by rw [htk];exact h4
  rw [← htk] at h2 hla hlt;simp only [jn_cons,Lib.joinTail,List.map_cons,List.map_nil,List.flatten_cons,List.flatten_nil,List.length_append,List.length_cons,List.length_nil,ofB_data,callT];simp only [show ¬ ((0:Int)=1) by decide,if_false,List.length_append,List.length_cons,List.length_nil];omega)
 rw [call1_text name ts m hlen] at HPH;obtain⟨b,off,rfl,hbl,hat⟩:=hA.at_ (i:=m) (by omega);have q0:=hat m (by omega);have HBL:=Hd hbl;clear hA hl hat hlt hla htk hlen;generalize ofB (callT 1 name.data.toList (dL ts))=tx at *;generalize ofB (callT 0 name.data.toList (dL (ts.take m)))=ta at *;generalize ts[m]?.getD ByteArray.empty=tb at *;have hmi:(0:Int)≤(m:Int):=by omega
 have hml:(m:Int)<((m+1:Nat):Int):=by omega
 have hml2:(m:Int)<(m:Int)+1:=by omega
 have hmc:m≤c:=by omega
 have hmc2:(m:Int)≤(c:Int):=by omega
 go_enter Tryz.func123,Tryz.ntmps123
 go_upto_region 4 with(fail)
 go_region_held3 (fun W=>W.cell? ⟨b,off+m,none⟩=some (.string tb)) (first | exact q0 | exact a0 | exact(World.cell?_alloc_lt _ _ _ hla).trans a0 | exact d0)
  ((first
    | (go_at_call 123;refine(HC0.out _ (below_drewN (Below.refl _ _) 1)).mono ?_;rintro r Wa ⟨rfl,hba⟩;have HBa:=Hd ((below_drewN (Below.refl w.heap.size w) 1).trans (hba.mono (below_drewN (Below.refl w.heap.size w) 1).size));have a0:=(HBa.out.cell HBL.out).trans q0;have hla:b<Wa.heap.size:=Nat.lt_of_lt_of_le HBL.out HBa.out.size;clear hba)
    | (go_at_call 120;refine(HPH.out _).mono ?_;rintro r Wd ⟨rfl,hbd⟩;have HBd:=Hd (HBa.out.trans ((((Below.refl Wa.heap.size Wa).alloc (Nat.le_refl _) _).trans (hbd.mono (by simp))).mono HBa.out.size));have d0:=(HBd.out.cell HBL.out).trans q0;clear hbd)))
 go_wp2_with fail
 go_ret
 exact⟨rfl,HBd.out⟩
end
end Go.Proofs.YtpedcgpcchbhpaaGreatDoor
