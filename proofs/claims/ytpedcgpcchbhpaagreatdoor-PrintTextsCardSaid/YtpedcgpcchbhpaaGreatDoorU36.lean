/- Parts of the proof: SpF, PnA. Conditions: each theorem's own. -/
import Derived.Test.YtpedcgpcchbhpaaGreatDoorU14
import Derived.Test.YtpedcgpcchbhpaaGreatDoorU35
namespace Go.Proofs.YtpedcgpcchbhpaaGreatDoor
set_option linter.unusedVariables false
set_option linter.unusedSimpArgs false
set_option maxRecDepth 100000
set_option maxHeartbeats 40000000
section
open Go.RowKit Go.Sort
theorem shExpr(x:Ex) (A:Option Addr) (ca:Nat) (B:Option Addr) (cb:Nat) (w:World) (hr:rdX w x A B) (hs:sizeX x≤1000000) (hsh:∀ p∈partsX x,ShortP p) (hn:∀ p∈partsX x,NumP p) (ht:Tab w):
 Calls Tryz.prog 50 #[.agg (exA x A ca B cb)] w fun e w'=>e=.returned (.string (textS x))∧Below w.heap.size w w':=by
 have HF:=Hd fun w1 h=>box_facts w x A ca B cb w1 h hr;have HRT:=Hd fun w1 (h:Below w.heap.size w w1)=>exRight x A ca B cb w1 (hr.below h) hs hsh;have HTX:=Hd fun(hx:rightX x=true) w1 (h:Below w.heap.size w w1)=>shText x (right_ok hx) hn (by have:=right_size hx;omega) A ca B cb w1 (hr.below h) (ht.below h);have HS:=Hd (show textS x=if rightX x=true then ofB (textL x) else⟨#[]⟩ from rfl);clear hr hsh hn ht;unfold exA at HF HRT HTX ⊢;generalize textS x=ts at *;generalize rightX x=rx at *
 cases rx with
 | false=>
  have HE:=Hd (show(⟨#[]⟩:ByteArray)=ts by rw [HS.out];rfl)
  go_enter Tryz.func50,Tryz.ntmps50
  go_upto_region 1 with(fail)
  generalize hw1:w.alloc _=w1;obtain⟨hb1,hg,hr1,hcell⟩:=HF.out w1 hw1;have HB1:=Hd hb1;have HC:=Hd hcell;obtain⟨q0,q1,q2,q3,q4,q5⟩:=Sx (hcell w1 (Below.refl _ _));clear hcell hb1 hr1 hw1 HF
  go_wp2_with fail
  refine(HRT.out w1 HB1.out).mono ?_;rintro r w2 ⟨rfl,hb⟩;have HB2:=Hd (HB1.out.trans (hb.mono HB1.out.size));clear hb
  go_wp2_with fail
  go_ret
  exact⟨ret_strV HE.out,HB2.out⟩
 | true=>
  have HE:=Hd (show ofB (textL x)=ts by rw [HS.out];rfl)
  go_enter Tryz.func50,Tryz.ntmps50
  go_upto_region 1 with(fail)
  generalize hw1:w.alloc _=w1;obtain⟨hb1,hg,hr1,hcell⟩:=HF.out w1 hw1;have HB1:=Hd hb1;have HC:=Hd hcell;obtain⟨q0,q1,q2,q3,q4,q5⟩:=Sx (hcell w1 (Below.refl _ _));clear hcell hb1 hr1 hw1 HF
  go_wp2_with fail
  refine(HRT.out w1 HB1.out).mono ?_;rintro r w2 ⟨rfl,hb⟩;have HB2:=Hd (HB1.out.trans (hb.mono HB1.out.size));have HW2:=Hd hb;clear hb q0 q1 q2 q3 q4 q5;obtain⟨q0,q1,q2,q3,q4,q5⟩:=Sx (HC.out w2 HW2.out)
  go_wp2_with fail
  refine(HTX.out (by first | trivial | rfl) w2 HB2.out).mono ?_;rintro r w3 ⟨rfl,hb⟩;have HB3:=Hd (HB2.out.trans (hb.mono HB2.out.size));clear hb
  go_wp2_with fail
  go_ret
  exact⟨ret_strV HE.out,HB3.out⟩
end
section
open Go.RowKit Go.Sort Go.BigFrame
theorem pnDecl(es:List En) (E:Option Addr) (ec:Nat) (x:Dc) (w:World) (hE:RdE w E es.length es) (hsm:EsShort es) (hd:ShortD x) (hT:Tab w):
 Calls Tryz.prog 11 #[.slice E es.length ec,.agg (dcA x)] w fun e w'=>e=.returned (.string (ofB (declT (tyL es) x)))∧Below w.heap.size w w':=by
 have HF:=Hd fun w1 hw=>dc_facts w x w1 hw;have HTX:=Hd fun w1 (h:RdE w1 E es.length es)=>tyText E es.length ec es x.k x.e x.l w1 h hsm;have HON:=Hd fun w1=>shOn x.on x.ct w1 (by have:=hd.2.1;omega) (by have:=hd.2.2;omega);have hts:=text_size hsm x.k x.e x.l;have hns:=hd.1;have hos:(ofB (onL x.on.data.toList x.ct.data.toList)).size≤2010:=by rw [ofB_sizeS];exact onL_len _ _ hd.2.1 hd.2.2
 have HE0:=Hd fun(h:(x.on.toList==[])=true)=>(show x.nm++(⟨#[58,32]⟩:ByteArray)++textE es x.k x.e x.l=ofB (declT (tyL es) x) by
  rw [Lib.toList_data] at h;unfold declT;rw [show noB x.on=true from h,if_pos rfl];exact ba_ext (by simp [ofB,tyL]))
 have HE1:=Hd fun(h:(x.on.toList==[])=false)=>(show x.nm++(⟨#[58,32]⟩:ByteArray)++textE es x.k x.e x.l++(⟨#[32,119,104,101,110,32]⟩:ByteArray)++ofB (onL x.on.data.toList x.ct.data.toList)=ofB (declT (tyL es) x) by
  rw [Lib.toList_data] at h;unfold declT;rw [show noB x.on=false from h,if_neg (by simp)];exact ba_ext (by simp [ofB,tyL,wkwL]))
 have HRE:=Hd hE;clear hd hsm hE;unfold dcA at HF ⊢;unfold tyV at HTX;generalize ofB (declT (tyL es) x)=out at *;generalize textE es x.k x.e x.l=tt at *;generalize ofB (onL x.on.data.toList x.ct.data.toList)=ot at *;have z1:(9223372036854775807<x.nm.size+2)=False:=by rw [eq_iff_iff,iff_false];omega
 have z2:(9223372036854775807<x.nm.size+2+tt.size)=False:=by rw [eq_iff_iff,iff_false];omega
 have z3:(9223372036854775807<x.nm.size+2+tt.size+6)=False:=by rw [eq_iff_iff,iff_false];omega
 have z4:(9223372036854775807<x.nm.size+2+tt.size+6+ot.size)=False:=by rw [eq_iff_iff,iff_false];omega
 go_enter Tryz.func11,Tryz.ntmps11
 go_upto_region 1 with(fail)
 generalize hw1:w.alloc _=w1;obtain⟨hb1,hg,hcell⟩:=HF.out w1 hw1;have HB1:=Hd hb1;have HC:=Hd hcell;have HR1:=Hd (HRE.out.below hb1);obtain⟨p0,p1,p2,p3,-,-⟩:=Sx (hcell w1 (Below.refl _ _));simp only [Ya,Yb,Yc] at p0 p1 p2 p3;clear hw1 hcell hb1 HF HRE;have HBR:=Hd fun d os=>below_regrown w1 d os;have l0:=fun d os=>cell_regrown p0 d os;have l1:=fun d os=>cell_regrown p1 d os;have l2:=fun d os=>cell_regrown p2 d os;have l3:=fun d os=>cell_regrown p3 d os;have cA:=fun d os=>Calls.regrown_of (HTX.out (grow (redrawn w1 d) os) (HR1.out.below (below_regrown w1 d os)));refine wp_region_quiet_below (by kernel_rfl) (by kernel_rfl) ?_
 repeat (go_big_quiet_step (exact cA _ _))
 refine wpQuiet_nil ?_;intro _ hw';obtain⟨⟨dq,osq⟩,hw''⟩:=hw';have hbr:=HBR.out dq osq;rw [← hw''] at hbr;clear cA l0 l1 l2 l3 p0 p1 p2 p3 hw''
 rename_i w2
 have HB2:=Hd (HB1.out.trans (hbr.mono HB1.out.size));have s4:=HC.out w2 hbr 4;have s5:=HC.out w2 hbr 5;simp only [Ya,Yb,Yc] at s4 s5;clear hbr;have hne:(x.on.toList != [])=!(x.on.toList==[]):=rfl
 cases h1:(x.on.toList==[]) with
 | true=>
  rw [h1] at hne;have HO:=Hd (HE0.out h1)
  go_wp2_with fail
  go_ret
  exact⟨ret_strV HO.out,HB2.out⟩
 | false=>
  rw [h1] at hne;have HO:=Hd (HE1.out h1)
  go_wp2_with fail
  refine(HON.out w2).mono ?_;rintro e w3 ⟨rfl,hb3⟩;have HB3:=Hd (HB2.out.trans (hb3.mono HB2.out.size));clear hb3 s4 s5
  go_wp2_with fail
  go_ret
  exact⟨ret_strV HO.out,HB3.out⟩
theorem join_W(s:UInt8):∀ xs:List (List UInt8),Lib.join xs [s,32]=joinW s xs
 | []=>rfl
 | [x]=>Lib.join_one _ _
 | x::y::l=>by
  have ih:=join_W s (y::l);rw [Lib.join_cons] at ih ⊢;simp only [joinW,Lib.joinTail,List.map_cons,List.flatten_cons] at ih ⊢;rw [← ih]
  simp
def declsS(es:List En) (l:List Dc):List ByteArray:=l.map fun d=>ofB (declT (tyL es) d)
theorem declsS_len(es:List En) (l:List Dc):(declsS es l).length=l.length:=by simp [declsS]
theorem declsS_snoc(es:List En){l:List Dc}{k:Nat}(h:k<l.length):(declsS es l).take (k+1)=(declsS es l).take k++[ofB (declT (tyL es) (l[k]?.getD default))]:=by
 unfold declsS;rw [List.take_add_one,List.getElem?_map,List.getElem?_eq_getElem h]
 simp
theorem declsS_join(es:List En) (l:List Dc):Lib.join ((declsS es l).map (·.data.toList)) [59,32]=declsT (tyL es) l:=by
 rw [join_W];unfold declsS declsT;rw [List.map_map];exact congrArg _ (List.map_congr_left fun d _=>by simp [ofB])
theorem pnDecls(es:List En) (E:Option Addr) (ec:Nat) (A:Option Addr) (n c:Nat) (l:List Dc) (w:World) (hE:RdE w E es.length es) (hsm:EsShort es) (h:RdD w A n l) (hn:n≤1000) (hs:∀ d∈l,ShortD d) (hT:Tab w):
 Calls Tryz.prog 49 #[.slice E es.length ec,.slice A n c] w fun e w'=>e=.returned (.string (ofB (declsT (tyL es) l)))∧Below w.heap.size w w':=by
 obtain⟨i0,hi,hz0,hz1,hz2⟩:=info_parts infoString;have hln:=RdS.len h;have hmx:=RdS.max h;have HR:=Hd h;have HRE:=Hd hE;have HTB:=Hd hT;have HDF:=Hd fun(d:Dc) w0 w1 h=>dc_facts w0 d w1 h
 have HCL:=Hd fun(k:Nat) (hk:k<n) w1 (a:RdE w1 E es.length es) (t:Tab w1)=>pnDecl es E ec (l[k]?.getD default) w1 a hsm (by
  rw [List.getElem?_eq_getElem (by omega),Option.getD_some];exact hs _ (List.getElem_mem _)) t
 have HTS:=Hd fun k (hk:k<n)=>declsS_snoc es (l:=l) (k:=k) (by omega);have HTE:=Hd (show(declsS es l).take n=declsS es l from List.take_of_length_le (by rw [declsS_len];omega));have HO0:=Hd (own_nil w w.heap.size 9)
 have HJ:=Hd fun A1 c1 w1 (r:RdT w1 A1 n (declsS es l)) (hc:n≤c1)=>libJoin A1 n c1 (declsS es l) ⟨#[59,32]⟩ w1 r hc (by omega) (by
  have h1:=declsT_len hsm hs;have h2:=declsS_join es l
  show(Lib.join _ [59,32]).length≤_
  rw [h2];omega)
 have hjn:=declsS_join es l
 have hJE:(⟨(Lib.join ((declsS es l).map (·.data.toList)) (⟨#[59,32]⟩:ByteArray).data.toList).toArray⟩:ByteArray)=ofB (declsT (tyL es) l):=by
  show(⟨(Lib.join ((declsS es l).map (·.data.toList)) [59,32]).toArray⟩:ByteArray)=_
  rw [hjn];rfl
 rw [hJE] at HJ;clear hE hsm h hs hT hjn hJE hln;unfold dcA at HDF HCL;generalize ofB (declsT (tyL es) l)=out at *;generalize hds:declsS es l=ds at *;clear hds
 go_enter Tryz.func49,Tryz.ntmps49
 go_wp2_with fail
 go_loopw [5,10] (fun v i wr=>∃ k:Nat,k≤n∧i=.int .i64 k∧wr.ownsRow w.heap.size 9 1 v k ((ds.take k).map Value.string)∧Below w.heap.size w wr) (fun _ i _=>n-(intOf i).toNat)
 case atStart=>exact⟨0,Nat.zero_le _,rfl,HO0.out,Below.refl _ _⟩
 case round=>
  obtain⟨k,hk,rfl,hrow,hbw⟩:=hrel;have HRW:=Hd hrow;have HBW:=Hd hbw;have hbs:=hbw.size
  by_cases hlt:k<n
  · obtain⟨b,off,rfl,hb,hc⟩:=RdS.at_ (HR.out.below hbw) (by omega);obtain⟨c0,c1,c2,c3,c4,c5⟩:=(hc k hlt).six;have HCX:=Hd (HCL.out k hlt);have HTK:=Hd (HTS.out k hlt);have HF3:=Hd fun w3 h=>HDF.out (l[k]?.getD default) wr w3 h;clear hc hrow hbw HCL HTS HDF;generalize l[k]?.getD default=y at *
    go_upto_region 5 with(fail)
    generalize hw3:wr.alloc _=w3;obtain⟨hb3,hg3,hcell3⟩:=HF3.out w3 hw3;obtain⟨d0,d1,d2,d3,d4,d5⟩:=Sx (hcell3 w3 (Below.refl _ _));simp only [Ya,Yb,Yc] at d0 d1 d2 d3 d4 d5;have HB3:=Hd (HBW.out.trans (hb3.mono HBW.out.size));have HCD:=Hd (HCX.out w3 (HRE.out.below HB3.out) (HTB.out.below HB3.out));have HRW3:=Hd (own_belowX HRW.out hb3);clear hcell3 hb3 hw3 HF3 HCX;generalize ofB (declT (tyL es) y)=sy at *
    go_wp2_with fail
    refine HCD.out.mono ?_;rintro r w4 ⟨rfl,hb4⟩;have hrow4:=own_belowX HRW3.out hb4;have HB4:=Hd (HB3.out.trans (hb4.mono HB3.out.size));have hbs4:=HB4.out.size;clear hb4 d0 d1 d2 d3 d4 d5
    go_wp2_with (at_builtin;go_must (refine wpList_append_own_at _ rfl _ _ 44 rfl w.heap.size 9 i0 (.string ByteArray.empty) 1 16 Tryz.underlying44 hi hz0 hz1 hz2 rfl (by decide) _ _ _ rfl (hrow4.alloc _) ⟨w4.heap.size,0,none⟩ 1 1 [.string sy] rfl rfl (cell_one_new _ _ _) (string_cells [sy]) (by unfold maxLen;omega) (by omega) (by simp;omega) ?_;intro v' w5 hown' hgrow hnil hloc))
    have HB5:=Hd ((HB4.out.alloc hbs4 (.cells #[.string sy] 9)).grown hgrow (by simp;omega) (fun j hj=>(hrow4.lt j hj).1));have HOW:=Hd hown';clear hgrow hnil hown' hloc
    go_roundw
    case rel=>
     refine⟨k+1,by omega,by go_num,?_,HB5.out⟩;rw [HTK.out,List.map_append];exact HOW.out
    case measure=>simp [intOf];omega
  · have hkn:k=n:=by omega
    subst hkn;rw [HTE.out] at HRW;obtain⟨A1,c1,rfl,hR1,hcc⟩:=texts_ownS HRW.out (by omega);have HC:=Hd (HJ.out A1 c1 wr hR1 hcc);clear hR1 hrow hbw
    go_wp2_with fail
    refine HC.out.mono ?_;rintro r w3 ⟨rfl,hb3⟩;have HB3:=Hd (HBW.out.trans (hb3.mono HBW.out.size));clear hb3
    go_wp2_with fail
    go_ret
    exact⟨rfl,HB3.out⟩
end
end Go.Proofs.YtpedcgpcchbhpaaGreatDoor
