/- Parts of the proof: PiG, PiH, ScN, ScK, ScL, ScR. Conditions: each theorem's own. -/
import Derived.Test.YtpehkppcdlboeaaO06
import Derived.Test.YtpehkppcdlboeaaO14
namespace Go.Proofs.Ytpehkppcdlboeaa
set_option linter.unusedVariables false
set_option linter.unusedSimpArgs false
set_option maxRecDepth 100000
set_option maxHeartbeats 40000000
section
open Go.RowKit Go.Sort
theorem pgNodeName(x:Nd) (A1:Option Addr) (c1:Nat) (A2:Option Addr) (c2:Nat) (A3:Option Addr) (c3:Nat) (A4:Option Addr) (c4:Nat) (w:World) (h:rdN w x A1 A2 A3 A4):
 Calls Try.prog 33 #[.agg (ndA x A1 c1 A2 c2 A3 c3 A4 c4)] w fun e w'=>e=.returned (.string x.nm)∧Below w.heap.size w w':=by
 have HF:=Hd fun w1 hw=>nd_facts w x A1 c1 A2 c2 A3 c3 A4 c4 w1 hw h;clear h;unfold ndA at HF ⊢
 go_enter Try.func33,Try.ntmps33
 go_upto_region 1 with(fail)
 generalize hw1:w.alloc _=w1;obtain⟨hb1,hg,hR1,hcell⟩:=HF.out w1 hw1;have HB1:=Hd hb1;have q0:=hcell w1 (Below.refl _ _) 0;simp only [Ya,Yb,Yc] at q0;clear hw1 hcell hb1 HF hR1
 go_wp2_with fail
 go_ret
 exact⟨rfl,HB1.out⟩
theorem pgDeclName(d:Dc) (w:World):
 Calls Try.prog 55 #[.agg (dcA d)] w fun e w'=>e=.returned (.string d.nm)∧Below w.heap.size w w':=by
 have HF:=Hd fun w1 hw=>dc_facts w d w1 hw;unfold dcA at HF ⊢
 go_enter Try.func55,Try.ntmps55
 go_upto_region 1 with(fail)
 generalize hw1:w.alloc _=w1;obtain⟨hb1,hg,hcell⟩:=HF.out w1 hw1;have HB1:=Hd hb1;have q0:=hcell w1 (Below.refl _ _) 0;simp only [Ya,Yb,Yc] at q0;clear hw1 hcell hb1 HF
 go_wp2_with fail
 go_ret
 exact⟨rfl,HB1.out⟩
theorem pgOnceD(A:Option Addr) (n c:Nat) (l:List Dc) (w:World) (h:RdD w A n l) (hn:n≤100) (hz:∀ s∈namesD l,s.size≤maxLen):
 Calls Try.prog 54 #[.slice A n c,.func (.func 55) #[] #[]] w fun e w'=>e=.returned (.bool (onceS (namesD l)))∧Below w.heap.size w w':=by
 have HR:=Hd h;have hln:=RdS.len h;obtain⟨i0,hi,ji0,ji1,ji2⟩:=info_parts infoString;have HSU:=Hd fun(k:Nat) hk=>names_succ (l:=l) (k:=k) hk;have HON:=Hd fun B cc w1 (a:RdT w1 B n (namesD l))=>idOnce B n cc (namesD l) w1 a hz hn;have HTK:=Hd (show(namesD l).take n=namesD l from List.take_of_length_le (by rw [names_len,hln];exact Nat.le_refl _));have HBX:=Hd (fun w d w1 h=>dc_facts w d w1 h);have HNM:=Hd pgDeclName;have HLN:=Hd hln;clear h hz hln;unfold dcA at HBX HNM;generalize namesD l=ss at *;generalize onceS ss=out at *
 go_enter Try.func54,Try.ntmps54
 go_wp2_with fail
 go_loopw [5,10] (fun v i wr=>∃ k:Nat,k≤n∧i=.int .i64 k∧wr.ownsRow w.heap.size 9 1 v k ((ss.take k).map Value.string)∧Below w.heap.size w wr) (fun _ i _=>n-(intOf i).toNat)
 case atStart=>exact⟨0,Nat.zero_le _,rfl,⟨rfl,.inl ⟨rfl,rfl⟩⟩,Below.refl _ _⟩
 case round=>
  obtain⟨k,hk,rfl,hown,hnx⟩:=hrel;have HNX:=Hd hnx;have HOW:=Hd hown;clear hown
  by_cases hlt:k<n
  · obtain⟨b,off,rfl,hb,d0,d1,d2,d3,d4,d5⟩:=dc_at (HR.out.below hnx) hlt;have HSK:=Hd (HSU.out k (by rw [HLN.out];exact hlt))
    skip
    clear hnx;generalize l[k]?.getD default=p at *;have HF3:=Hd fun w3 h=>HBX.out wr p  w3 h
    go_upto_region 5 with(fail)
    generalize hw3:wr.alloc _=w3;obtain⟨hb3,hg3,hcell3⟩:=HF3.out w3 hw3;have HB3:=Hd (HNX.out.trans (hb3.mono HNX.out.size));have HOW3:=Hd (own_below HOW.out hb3);obtain⟨e0,e1,e2,e3,e4,e5⟩:=Sx (hcell3 w3 (Below.refl _ _));simp only [Ya,Yb,Yc] at e0 e1 e2 e3 e4 e5;have HCL:=Hd (HNM.out p  w3);clear hcell3 hb3 hw3 HF3 d0 d1 d2 d3 d4 d5
    go_wp2_with fail
    refine HCL.out.mono ?_;rintro e w4 ⟨rfl,hb4⟩;have HB4:=Hd (HB3.out.trans (hb4.mono HB3.out.size));have HOW4:=Hd (own_below HOW3.out hb4);clear hb4 e0 e1 e2 e3 e4 e5
    go_wp2_with (at_builtin;refine wpList_append_own_at _ rfl _ _ 48 rfl w.heap.size 9 i0 (.string ByteArray.empty) 1 16 Try.underlying48 hi ji0 ji1 ji2 rfl (by decide) _ _ _ rfl (HOW4.out.alloc _) ⟨w4.heap.size,0,none⟩ 1 1 [.string p.nm] rfl rfl (cell_one_new _ _ _) (string_cells [p.nm]) (by unfold maxLen;omega) (by omega) (by have:=HB4.out.size;simp;omega) ?_;intro v' w5 hown' hgrow hnil hloc;have hB5:=(HB4.out.alloc HB4.out.size (.cells #[.string p.nm] 9)).grown hgrow (by have:=HB4.out.size;simp;omega) (fun j hj=>(HOW4.out.lt j hj).1);have HO5:=Hd hown';have HB5:=Hd hB5;clear hgrow hown' hnil hloc hB5)
    go_roundw
    case rel=>
     refine⟨k+1,by omega,by go_num,?_,HB5.out⟩;rw [HSK.out,List.map_append];exact HO5.out
    case measure=>simp [intOf];omega
  · obtain rfl:k=n:=by omega
    have hO:=HOW.out;rw [HTK.out] at hO;obtain⟨B,cc,rfl,hrt,-⟩:=RdT.of_own hO (by omega);have HO:=Hd (HON.out B cc wr hrt);clear hO hrt
    go_wp2_with fail
    refine HO.out.mono ?_;rintro e w6 ⟨rfl,hb6⟩;have HB6:=Hd (HNX.out.trans (hb6.mono HNX.out.size));clear hb6
    go_wp2_with fail
    go_ret
    exact⟨rfl,HB6.out⟩
theorem pgOnceN(A:Option Addr) (n c:Nat) (l:List Nd) (w:World) (h:RdNs w A n l) (hn:n≤100) (hz:∀ s∈l.map Nd.nm,s.size≤maxLen):
 Calls Try.prog 32 #[.slice A n c,.func (.func 33) #[] #[]] w fun e w'=>e=.returned (.bool (onceS (l.map Nd.nm)))∧Below w.heap.size w w':=by
 have HR:=Hd h;have hln:=RdS.len h;obtain⟨i0,hi,ji0,ji1,ji2⟩:=info_parts infoString;have HSU:=Hd fun(k:Nat) hk=>nms_succ (l:=l) (k:=k) hk;have HON:=Hd fun B cc w1 (a:RdT w1 B n (l.map Nd.nm))=>idOnce B n cc (l.map Nd.nm) w1 a hz hn;have HTK:=Hd (show(l.map Nd.nm).take n=l.map Nd.nm from List.take_of_length_le (by rw [List.length_map,hln];exact Nat.le_refl _));have HBX:=Hd nd_facts;have HNM:=Hd pgNodeName;have HLN:=Hd hln;clear h hz hln;unfold ndA at HBX HNM;generalize l.map Nd.nm=ss at *;generalize onceS ss=out at *
 go_enter Try.func32,Try.ntmps32
 go_wp2_with fail
 go_loopw [5,10] (fun v i wr=>∃ k:Nat,k≤n∧i=.int .i64 k∧wr.ownsRow w.heap.size 9 1 v k ((ss.take k).map Value.string)∧Below w.heap.size w wr) (fun _ i _=>n-(intOf i).toNat)
 case atStart=>exact⟨0,Nat.zero_le _,rfl,⟨rfl,.inl ⟨rfl,rfl⟩⟩,Below.refl _ _⟩
 case round=>
  obtain⟨k,hk,rfl,hown,hnx⟩:=hrel;have HNX:=Hd hnx;have HOW:=Hd hown;clear hown
  by_cases hlt:k<n
  · obtain⟨b,off,A1,c1,A2,c2,A3,c3,A4,c4,rfl,hb,hrd,d0,d1,d2,d3,d4⟩:=nd_at (HR.out.below hnx) hlt;have HSK:=Hd (HSU.out k (by rw [HLN.out];exact hlt));have HRDx:=Hd hrd;clear hnx hrd;generalize l[k]?.getD default=p at *;have HF3:=Hd fun w3 h=>HBX.out wr p A1 c1 A2 c2 A3 c3 A4 c4 w3 h HRDx.out
    go_upto_region 5 with(fail)
    generalize hw3:wr.alloc _=w3;obtain⟨hb3,hg3,hr3,hcell3⟩:=HF3.out w3 hw3;have HB3:=Hd (HNX.out.trans (hb3.mono HNX.out.size));have HOW3:=Hd (own_below HOW.out hb3);obtain⟨e0,e1,e2,e3,e4,-⟩:=Sx (hcell3 w3 (Below.refl _ _));simp only [Ya,Yb,Yc] at e0 e1 e2 e3 e4;have HCL:=Hd (HNM.out p A1 c1 A2 c2 A3 c3 A4 c4 w3 hr3);clear hcell3 hb3 hw3 HF3 d0 d1 d2 d3 d4 hr3
    go_wp2_with fail
    refine HCL.out.mono ?_;rintro e w4 ⟨rfl,hb4⟩;have HB4:=Hd (HB3.out.trans (hb4.mono HB3.out.size));have HOW4:=Hd (own_below HOW3.out hb4);clear hb4 e0 e1 e2 e3 e4
    go_wp2_with (at_builtin;refine wpList_append_own_at _ rfl _ _ 48 rfl w.heap.size 9 i0 (.string ByteArray.empty) 1 16 Try.underlying48 hi ji0 ji1 ji2 rfl (by decide) _ _ _ rfl (HOW4.out.alloc _) ⟨w4.heap.size,0,none⟩ 1 1 [.string p.nm] rfl rfl (cell_one_new _ _ _) (string_cells [p.nm]) (by unfold maxLen;omega) (by omega) (by have:=HB4.out.size;simp;omega) ?_;intro v' w5 hown' hgrow hnil hloc;have hB5:=(HB4.out.alloc HB4.out.size (.cells #[.string p.nm] 9)).grown hgrow (by have:=HB4.out.size;simp;omega) (fun j hj=>(HOW4.out.lt j hj).1);have HO5:=Hd hown';have HB5:=Hd hB5;clear hgrow hown' hnil hloc hB5)
    go_roundw
    case rel=>
     refine⟨k+1,by omega,by go_num,?_,HB5.out⟩;rw [HSK.out,List.map_append];exact HO5.out
    case measure=>simp [intOf];omega
  · obtain rfl:k=n:=by omega
    have hO:=HOW.out;rw [HTK.out] at hO;obtain⟨B,cc,rfl,hrt,-⟩:=RdT.of_own hO (by omega);have HO:=Hd (HON.out B cc wr hrt);clear hO hrt
    go_wp2_with fail
    refine HO.out.mono ?_;rintro e w6 ⟨rfl,hb6⟩;have HB6:=Hd (HNX.out.trans (hb6.mono HNX.out.size));clear hb6
    go_wp2_with fail
    go_ret
    exact⟨rfl,HB6.out⟩
theorem pgDoubled(x:Nd) (A1:Option Addr) (c1:Nat) (A2:Option Addr) (c2:Nat) (A3:Option Addr) (c3:Nat) (A4:Option Addr) (c4:Nat) (w:World) (h:rdN w x A1 A2 A3 A4) (hn:x.all.length≤100) (hz:∀ d∈x.all,d.nm.size≤maxLen):
 Calls Try.prog 34 #[.agg (ndA x A1 c1 A2 c2 A3 c3 A4 c4)] w fun e w'=>e=.returned (.bool (!onceS (namesD x.all)))∧Below w.heap.size w w':=by
 have HF:=Hd fun w1 hw=>nd_facts w x A1 c1 A2 c2 A3 c3 A4 c4 w1 hw h;have HCC:=Hd fun b w1 (a:rdN w1 x A1 A2 A3 A4) hc hb=>slConcatD x A1 c1 A2 c2 A3 c3 A4 b w1 a hc hb (by omega)
 have HON:=Hd fun A c w1 (a:RdD w1 A x.all.length x.all)=>pgOnceD A x.all.length c x.all w1 a hn (fun s hs=>by
  obtain⟨d,hd,rfl⟩:=List.mem_map.1 hs;exact hz d hd)
 clear h hn hz;unfold ndA at HF ⊢;unfold lists3 at HCC;generalize x.all=all at *;generalize onceS (namesD all)=out at *
 go_enter Try.func34,Try.ntmps34
 go_upto_region 1 with(fail)
 generalize hw1:w.alloc _=w1;obtain⟨hb1,hg,hR1,hcell⟩:=HF.out w1 hw1;have HB1:=Hd hb1;obtain⟨-,q1,q2,q3,-,-⟩:=Sx (hcell w1 (Below.refl _ _));simp only [Ya,Yb,Yc] at q1 q2 q3;have hb2:=(Below.refl w1.heap.size w1).alloc (Nat.le_refl _) (.cells #[.slice A1 x.ins.length c1,.slice A2 x.outs.length c2,.slice A3 x.vars.length c3] 38);have HB2:=Hd (HB1.out.trans (hb2.mono HB1.out.size));have HC2:=Hd (HCC.out w1.heap.size _ (hR1.below hb2) (fun j=>by rw [World.cell?_alloc_new]) (by simp));rw [hg] at HC2;clear hw1 hcell hb1 hb2 HF hR1
 go_wp2_with fail
 refine HC2.out.mono ?_;rintro e w3 ⟨A,c,rfl,hrd,hb3⟩;have HB3:=Hd (HB2.out.trans (hb3.mono HB2.out.size));have HO:=Hd (HON.out A c w3 hrd);clear hrd hb3
 go_wp2_with fail
 refine HO.out.mono ?_;rintro e w4 ⟨rfl,hb4⟩;have HB4:=Hd (HB3.out.trans (hb4.mono HB3.out.size));clear hb4
 go_wp2_with fail
 go_ret
 exact⟨rfl,HB4.out⟩
end
section
open Go.RowKit Go.Sort
theorem pgSome(g:Nat) (lb:Array Value) (eg:∀ args w,(callFunc g args).run Try.prog w=.ok (.enter g args) w) (f:Nd→Bool) (b:Nat) (N:Option Addr) (nc:Nat) (ns:List Nd) (w:World)
 (hc:w.cell? ⟨b,1,none⟩=some (.slice N ns.length nc)) (hr:RdNs w N ns.length ns) (hp:PredNd g lb f ns w):
 Calls Try.prog 27 #[.func (.func g) #[] lb,.pointer (some ⟨b,0,none⟩)] w fun e w'=>e=.returned (.bool (ns.any f))∧Below w.heap.size w w':=by
 have HC:=Hd (slHasNd g lb eg f N ns.length nc ns w hr hp);clear hr hp;generalize ns.any f=out at *
 go_enter Try.func27,Try.ntmps27
 go_wp2_with fail
 refine HC.out.mono ?_;rintro e w2 ⟨rfl,hb2⟩;have HB2:=Hd hb2;clear hb2
 go_wp2_with fail
 go_ret
 exact⟨rfl,HB2.out⟩
theorem tiny_mem{p:Pg}(ht:TinyP p){x:Nd}(hx:x∈p.ns):TinyN x:=by
 obtain⟨j,hj,rfl⟩:=List.getElem_of_mem hx;have:=ht.2.2 j hj;rwa [List.getElem?_eq_getElem hj] at this
theorem checkN_eq(p:Pg):checkN p=if enumsN p.es=0 then(if p.ns.length=0 then 5 else if 6<p.ns.length then 4 else if p.ns.any manyN then 4 else if(p.ns.any fun x=>!nodeB p.es.length rightB rightX x) then 1 else if !onceS (p.ns.map Nd.nm) then 6 else if(p.ns.any fun x=>!onceS (namesD x.all)) then 6 else 0) else enumsN p.es:=by
 unfold checkN rightN onceN;rw [← List.not_all_eq_any_not,← List.not_all_eq_any_not];generalize p.ns.all (nodeB p.es.length rightB rightX)=a;generalize (p.ns.all fun n=>onceS (namesD n.all))=b;generalize onceS (p.ns.map Nd.nm)=c
 cases a <;> cases b <;> cases c <;> rfl
theorem pgCheck(p:Pg) (E:Option Addr) (ec:Nat) (N:Option Addr) (nc:Nat) (w:World) (h:rdP w p E N) (ht:TinyP p):
 Calls Try.prog 20 #[.agg (pgA p E ec N nc)] w fun e w'=>e=.returned (.int .i64 (checkN p))∧Below w.heap.size w w':=by
 have HF:=Hd fun w1 hw=>pg_facts w p E ec N nc w1 hw h;have hmk:∀ fn first cap w,(Instr.makeFunc fn first cap).run Try.prog w=.ok (.func fn first cap) w:=fun _ _ _ _=>rfl
 have HEC:=Hd fun w1 a=>tyEnums E p.es.length ec p.es w1 a ht.1.ok ht.1.few;have hmx:=RdS.max h.2;have hes:=ht.1.1;have hns:=ht.2.1;have HE:=Hd (checkN_eq p);have HM:=Hd fun w1=>pgMalformed E p.es.length ec w1;have HP1:=Hd fun w1=>(show PredNd 30 #[] manyN p.ns w1 from fun x hx A1 c1 A2 c2 A3 c3 A4 c4 W _ hr=>pgCrowded x A1 c1 A2 c2 A3 c3 A4 c4 W hr)
 have HP2:=Hd fun bp bv be w1 (hb:Boxes w1 bp bv be E p.es.length ec)=>(show PredNd 50 #[.pointer (some ⟨bp,0,none⟩),.pointer (some ⟨bv,0,none⟩)] (fun x=>!nodeB p.es.length rightB rightX x) p.ns w1 from
  fun x hx A1 c1 A2 c2 A3 c3 A4 c4 W hW hr=>pgNode x A1 c1 A2 c2 A3 c3 A4 c4 bp bv be E p.es.length ec W hr (tiny_mem ht hx).ok (by omega) (hb.below hW))
 have HP3:=Hd fun w1=>(show PredNd 34 #[] (fun x=>!onceS (namesD x.all)) p.ns w1 from
  fun x hx A1 c1 A2 c2 A3 c3 A4 c4 W _ hr=>pgDoubled x A1 c1 A2 c2 A3 c3 A4 c4 W hr (by have:=(tiny_mem ht hx).len;omega) (fun d hd=>((tiny_mem ht hx).ok.2.1 d hd).1))
 have HON:=Hd fun w1 (a:RdNs w1 N p.ns.length p.ns)=>pgOnceN N p.ns.length nc p.ns w1 a (by omega) (fun s hs=>by
  obtain⟨x,hx,rfl⟩:=List.mem_map.1 hs;exact(tiny_mem ht hx).ok.1)
 have HS1:=Hd fun b w1 hc a=>pgSome 30 #[] (fun _ _=>rfl) manyN b N nc p.ns w1 hc a (HP1.out w1);have HS2:=Hd fun b bp bv be w1 hc a (hb:Boxes w1 bp bv be E p.es.length ec)=>pgSome 50 #[.pointer (some ⟨bp,0,none⟩),.pointer (some ⟨bv,0,none⟩)] (fun _ _=>rfl) (fun x=>!nodeB p.es.length rightB rightX x) b N nc p.ns w1 hc a (HP2.out bp bv be w1 hb);have HS3:=Hd fun b w1 hc a=>pgSome 34 #[] (fun _ _=>rfl) (fun x=>!onceS (namesD x.all)) b N nc p.ns w1 hc a (HP3.out w1);clear HP1 HP2 HP3 ht;unfold pgA;generalize checkN p=out at *;generalize p.ns.any manyN=b1 at *;generalize (p.ns.any fun x=>!nodeB p.es.length rightB rightX x)=b2 at *;generalize (p.ns.any fun x=>!onceS (namesD x.all))=b3 at *;generalize onceS (p.ns.map Nd.nm)=o1 at *
 go_enter Try.func20,Try.ntmps20
 go_upto_region 1 with(fail)
 generalize hw1:w.alloc _=w1;obtain⟨hb1,hg,hR1,hcell⟩:=HF.out w1 hw1;have HB1:=Hd hb1;have HC:=Hd hcell;have HE1:=Hd (HEC.out w1 hR1.1);have HNS:=Hd (show RdNs w1 N p.ns.length p.ns from hR1.2);simp only [pgA] at HC;have q0:=HC.out w1 (Below.refl _ _) 0;simp only [Ya,Yb,Yc] at q0;clear hw1 hcell hb1 HF h hR1 HEC;generalize enumsN p.es=en at *;generalize p.es.length=ne at *;have HW1:=Hd (Below.refl w1.heap.size w1);generalize hnn:p.ns.length=n at *;clear hnn
 go_wp2_with fail
 refine HE1.out.mono ?_;rintro e w2 ⟨rfl,hb2⟩;have HW2:=Hd hb2;have HB2:=Hd (HB1.out.trans (hb2.mono HB1.out.size));have p0:=HC.out w2 hb2 0;have p1:=HC.out w2 hb2 1;simp only [Ya,Yb,Yc] at p0 p1;clear hb2 q0
 by_cases he0:en=0
 · subst he0;rw [if_pos rfl] at HE;rcases Nat.eq_zero_or_pos n with hn0 | hn0
   · subst hn0;rw [if_pos rfl] at HE
     go_wp2_with fail
     go_ret
     exact⟨ret_int HE.out.symm,HB2.out⟩
   · rw [if_neg (by omega)] at HE;have dn0:((n:Int)==0)=false:=by rw [beq_eq_false_iff_ne];omega
     by_cases hn6:6<n
     · rw [if_pos hn6] at HE;have d6:decide ((6:Int)<(n:Int))=true:=decide_eq_true (by omega)
       go_wp2_with fail
       go_ret
       exact⟨ret_int HE.out.symm,HB2.out⟩
     · rw [if_neg hn6] at HE;have d6:decide ((6:Int)<(n:Int))=false:=decide_eq_false (by omega);have HC1:=Hd (HS1.out w.heap.size w2 p1 (RdNs.below HNS.out HW2.out));clear hn6 hn0
       cases b1 with
       | true=>
        rw [if_pos rfl] at HE
        go_wp2_with fail
        refine HC1.out.mono ?_;rintro e w3 ⟨rfl,hb3⟩;have HB3:=Hd (HB2.out.trans (hb3.mono HB2.out.size));clear hb3 p0 p1
        go_wp2_with fail
        go_ret
        exact⟨ret_int HE.out.symm,HB3.out⟩
       | false=>
        rw [if_neg (by simp)] at HE
        go_wp2_with fail
        refine HC1.out.mono ?_;rintro e w3 ⟨rfl,hb3⟩;have HW3:=Hd (HW2.out.trans (hb3.mono HW2.out.size));have HB3:=Hd (HB2.out.trans (hb3.mono HB2.out.size));clear hb3 p0 p1;have p0:=HC.out w3 HW3.out 0;simp only [Ya,Yb,Yc] at p0
        go_wp2_with fail
        refine(HM.out w3).mono ?_;rintro e w4 ⟨bp,bv,be,rfl,hbx,hb4⟩;have HW4:=Hd (HW3.out.trans (hb4.mono HW3.out.size));have HB4:=Hd (HB3.out.trans (hb4.mono HB3.out.size));clear hb4 p0;have p1:=HC.out w4 HW4.out 1;simp only [Ya,Yb,Yc] at p1;have HC2:=Hd (HS2.out w.heap.size bp bv be w4 p1 (RdNs.below HNS.out HW4.out) hbx);clear hbx p1
        cases b2 with
        | true=>
         rw [if_pos rfl] at HE
         go_wp2_with fail
         refine HC2.out.mono ?_;rintro e w5 ⟨rfl,hb5⟩;have HB5:=Hd (HB4.out.trans (hb5.mono HB4.out.size));clear hb5
         go_wp2_with fail
         go_ret
         exact⟨ret_int HE.out.symm,HB5.out⟩
        | false=>
         rw [if_neg (by simp)] at HE
         go_wp2_with fail
         refine HC2.out.mono ?_;rintro e w5 ⟨rfl,hb5⟩;have HW5:=Hd (HW4.out.trans (hb5.mono HW4.out.size));have HB5:=Hd (HB4.out.trans (hb5.mono HB4.out.size));clear hb5;have p1:=HC.out w5 HW5.out 1;simp only [Ya,Yb,Yc] at p1;have HO5:=Hd (HON.out w5 (RdNs.below HNS.out HW5.out))
         cases o1 with
         | false=>
          rw [if_pos (show(!false)=true from rfl)] at HE
          go_wp2_with fail
          refine HO5.out.mono ?_;rintro e w6 ⟨rfl,hb6⟩;have HB6:=Hd (HB5.out.trans (hb6.mono HB5.out.size));clear hb6 p1
          go_wp2_with fail
          go_ret
          exact⟨ret_int HE.out.symm,HB6.out⟩
         | true=>
          rw [if_neg (by simp)] at HE
          go_wp2_with fail
          refine HO5.out.mono ?_;rintro e w6 ⟨rfl,hb6⟩;have HW6:=Hd (HW5.out.trans (hb6.mono HW5.out.size));have HB6:=Hd (HB5.out.trans (hb6.mono HB5.out.size));clear hb6 p1;have p1:=HC.out w6 HW6.out 1;simp only [Ya,Yb,Yc] at p1;have HC3:=Hd (HS3.out w.heap.size w6 p1 (RdNs.below HNS.out HW6.out));clear p1
          cases b3 with
          | true=>
           rw [if_pos rfl] at HE
           go_wp2_with fail
           refine HC3.out.mono ?_;rintro e w7 ⟨rfl,hb7⟩;have HB7:=Hd (HB6.out.trans (hb7.mono HB6.out.size));clear hb7
           go_wp2_with fail
           go_ret
           exact⟨ret_int HE.out.symm,HB7.out⟩
          | false=>
           rw [if_neg (by simp)] at HE
           go_wp2_with fail
           refine HC3.out.mono ?_;rintro e w7 ⟨rfl,hb7⟩;have HB7:=Hd (HB6.out.trans (hb7.mono HB6.out.size));clear hb7
           go_wp2_with fail
           go_ret
           exact⟨ret_int HE.out.symm,HB7.out⟩
 · rw [if_neg he0] at HE;have dne:(en != 0)=true:=by rw [bne_iff_ne];exact he0
   clear he0
   go_wp2_with fail
   go_ret
   exact⟨ret_int HE.out.symm,HB2.out⟩
end
section
def leadsB(vs nds:List ByteArray) (es:List En) (e:Ex):Bool:=
 if e.k==3 then vs.any (nmB e.s)
 else if e.k==11 || e.k==12 then vs.any (nmB e.s) && !(e.arms.any fun a=>!armV es a)
 else if e.k==4 then armV es e.s
 else if e.k==13 then nds.any (nmB e.s)
 else !(e.k==17)
def defineB(vs ds:List ByteArray) (s:ByteArray):Int:=if vs.any (nmB s)=false then 5 else if ds.any (nmB s)=true then 6 else 0
def dsTo(n:Nd) (j:Nat):List ByteArray:=namesD n.ins++(n.eqs.take j).flatMap Qn.ns
def offB(vs:List ByteArray) (es:List En) (d:Dc):Bool:=!(d.on.toList==[]) && (!vs.any (nmB d.on) || !armV es d.ct)
theorem isV_any(n:Nd) (s:ByteArray):isV n s=(namesD n.all).any (nmB s):=by
 unfold isV declO namesD;rw [List.any_map,Bool.eq_iff_iff,List.find?_isSome,List.any_eq_true];rfl
theorem input_any(n:Nd) (s:ByteArray):inputS n s=(namesD n.ins).any (nmB s):=by
 unfold inputS namesD;rw [List.any_map];rfl
theorem cnt_any(s:ByteArray) (l:List ByteArray):decide (0<cntS s l)=l.any (nmB s):=by
 cases h:l.any (nmB s) with
 | false=>rw [cntS_zero h];rfl
 | true=>
  obtain⟨x,hx,hn⟩:=List.any_eq_true.1 h;refine decide_eq_true ?_;unfold cntS;exact List.length_pos_of_mem (List.mem_filter.2 ⟨hx,hn⟩)
theorem findI_ge{α:Type}(f:α→Bool):∀ (l:List α) (o:Nat),findI f l o=-1∨(o:Int)≤findI f l o
 | [],o=>.inl rfl
 | a::l,o=>by
  rw [findI]
  cases f a with
  | true=>exact .inr (by simp)
  | false=>
   rcases findI_ge f l (o+1) with h | h
   · exact .inl (by simpa using h)
   · exact .inr (by simp only [Bool.false_eq_true,if_false];omega)
theorem findI_take{α:Type}(f:α→Bool):∀ (l:List α) (i o:Nat),(decide (0≤findI f l o) && decide (findI f l o<((o+i:Nat):Int)))=(l.take i).any f
 | [],i,o=>by simp [findI]
 | a::l,0,o=>by
  rcases findI_ge f (a::l) o with h | h
  · rw [h];simp
  · rw [show decide (findI f (a::l) o<((o+0:Nat):Int))=false from decide_eq_false (by omega)]
    simp
 | a::l,i+1,o=>by
  rw [findI,List.take_succ_cons,List.any_cons]
  cases h:f a with
  | true=>
   simp only [if_true,Bool.true_or,Bool.and_eq_true,decide_eq_true_eq];omega
  | false=>
   simp only [Bool.false_eq_true,if_false,Bool.false_or];rw [← findI_take f l i (o+1),show o+1+i=o+(i+1) by omega]
theorem findN_any(p:Pg) (i:Nat) (s:ByteArray):(decide (0≤findN p s) && decide (findN p s<(i:Int)))=((p.ns.take i).map Nd.nm).any (nmB s):=by
 unfold findN;have:=findI_take (fun n:Nd=>n.nm.data.toList==s.data.toList) p.ns i 0;rw [Nat.zero_add] at this;rw [this,List.any_map];rfl
theorem part_arms{e:Ex}(h:partX e=true) (h1:(e.k==11)=false) (h2:(e.k==12)=false):e.arms=[]:=by
 unfold partX at h;simp only [Bool.and_eq_true] at h;have ha:armsX e=true:=h.1.1.1.2;unfold armsX at ha;simp only [h1,h2,Bool.and_eq_true,Bool.false_eq_true,if_false] at ha;exact List.length_eq_zero_iff.1 (by simpa using ha.2)
theorem leads_eq{p:Pg}{i:Nat}{e:Ex}(h:partX e=true):leadsB (namesD (ndAt p i).all) ((p.ns.take i).map Nd.nm) p.es e=partS p i e:=by
 have hA:=part_arms h;unfold leadsB partS;rw [← isV_any,findN_any];rw [show(!(e.arms.any fun a=>!armV p.es a))=e.arms.all (armV p.es) by rw [← List.not_all_eq_any_not,Bool.not_not]]
 by_cases h3:e.k=3
 · rw [hA (by rw [h3];rfl) (by rw [h3];rfl),h3]
   cases isV (ndAt p i) e.s <;> rfl
 · by_cases h11:e.k=11
   · rw [h11]
     cases isV (ndAt p i) e.s <;> cases e.arms.all (armV p.es) <;> rfl
   · by_cases h12:e.k=12
     · rw [h12]
       cases isV (ndAt p i) e.s <;> cases e.arms.all (armV p.es) <;> rfl
     · have b3:(e.k==3)=false:=beq_eq_false_iff_ne.2 h3;have b11:(e.k==11)=false:=beq_eq_false_iff_ne.2 h11;have b12:(e.k==12)=false:=beq_eq_false_iff_ne.2 h12;rw [hA b11 b12];simp only [b3,b11,b12,Bool.false_or,Bool.false_and,Bool.false_eq_true,if_false,List.all_nil,Bool.true_eq_false]
theorem nameS_eq(n:Nd) (j:Nat) (ns:List ByteArray) (k:Nat):nameS n j ns k=defineB (namesD n.all) (dsTo n j++ns.take k) (ns[k]?.getD ByteArray.empty):=by
 unfold nameS defineB dsTo defN;rw [isV_any,input_any,cnt_any];generalize ns[k]?.getD ByteArray.empty=s;rw [List.any_append,List.any_append]
 cases (namesD n.all).any (nmB s) <;> cases (namesD n.ins).any (nmB s) <;> cases ((n.eqs.take j).flatMap Qn.ns).any (nmB s) <;> cases (ns.take k).any (nmB s) <;> rfl
theorem off_eq(p:Pg) (n:Nd) (d:Dc):offB (namesD n.all) p.es d=!onS p n d:=by
 unfold offB onS;rw [isV_any]
 cases (d.on.toList==[]) <;> cases (namesD n.all).any (nmB d.on) <;> cases armV p.es d.ct <;> rfl
theorem dsTo_succ{n:Nd}{j:Nat}(h:j<n.eqs.length):dsTo n (j+1)=dsTo n j++(n.eqs[j]?.getD default).ns:=by
 unfold dsTo;rw [List.take_add_one,List.getElem?_eq_getElem h,List.flatMap_append,List.append_assoc]
 simp
theorem dsTo_zero(n:Nd):dsTo n 0=namesD n.ins:=by simp [dsTo]
def NodeR(p:Pg) (i:Nat) (a e:Int):Prop:=nodeS p i=if e=0 then((0,0,0):Fl) else((i:Int),a,e)
theorem nodeR_off{p:Pg}{i:Nat}(h:(ndAt p i).vars.any (offB (namesD (ndAt p i).all) p.es)=true):NodeR p i (-1) 5:=by
 unfold NodeR nodeS;rw [if_pos,if_neg (by decide)];obtain⟨d,hd,ho⟩:=List.any_eq_true.1 h;rw [off_eq,Bool.not_eq_true'] at ho;rw [List.all_eq_false];exact⟨d,by unfold Nd.all;exact List.mem_append_right _ hd,by rw [ho];decide⟩
theorem ports_on{p:Pg}{n:Nd}(hp:portsB n=true) (h:n.vars.any (offB (namesD n.all) p.es)=false):n.all.all (onS p n)=true:=by
 rw [List.all_eq_true];intro d hd;unfold Nd.all at hd;rcases List.mem_append.1 hd with hd | hd
 · have:=List.all_eq_true.1 hp d hd;unfold noB at this;unfold onS;rw [Lib.toList_data,this];rfl
 · have:=List.any_eq_false.1 h d hd;rw [off_eq] at this
   simpa using this
theorem nodeR_eq{p:Pg}{i k:Nat}(hp:portsB (ndAt p i)=true) (h:(ndAt p i).vars.any (offB (namesD (ndAt p i).all) p.es)=false) (hk:k<(ndAt p i).eqs.length) (hn:∀ j,j<k→eqS p i j=0) (he:eqS p i k≠0):NodeR p i k (eqS p i k):=by
 unfold NodeR nodeS;rw [if_neg (by rw [ports_on hp h];decide),if_neg he];have h1:firstF ((0,0,0):Fl) (eqF p i) (ndAt p i).eqs.length=eqF p i k:=firstF_hit hk (fun j hj=>by unfold eqF;rw [if_pos (hn j hj)]) (by unfold eqF;rw [if_neg he];intro e;injection e with _ e;injection e with _ e;exact he e);have h2:eqF p i k=((i:Int),(k:Int),eqS p i k):=by unfold eqF;rw [if_neg he]
 rw [h1,h2,if_neg (by intro e;injection e with _ e;injection e with _ e;exact he e)]
theorem once_apart{n:Nd}(h:onceS (namesD n.all)=true){d:Dc}(hd:d∈n.outs++n.vars):(namesD n.ins).any (nmB d.nm)=false:=by
 unfold onceS onceB at h;have h:=of_decide_eq_true h;rw [List.any_eq_false];intro s hs hn;have e:n.all=n.ins++(n.outs++n.vars):=by unfold Nd.all;rw [List.append_assoc]
 rw [e] at h;unfold namesD at h hs;rw [List.map_append,List.map_append,List.nodup_append] at h;exact h.2.2 _ (List.mem_map.2 ⟨s,hs,rfl⟩) _ (List.mem_map.2 ⟨d.nm,List.mem_map.2 ⟨d,hd,rfl⟩,rfl⟩) (nmB_eq.1 hn)
theorem undef_eq{n:Nd}(h:onceS (namesD n.all)=true):(n.outs.any (fun d=>!(dsTo n n.eqs.length).any (nmB d.nm)) || n.vars.any (fun d=>!(dsTo n n.eqs.length).any (nmB d.nm)))=!((n.all.drop n.ins.length).all fun d=>decide (0<defN n d.nm n.eqs.length)):=by
 have e:n.all.drop n.ins.length=n.outs++n.vars:=by unfold Nd.all;rw [List.append_assoc,List.drop_left]
 rw [e,← List.any_append,List.not_all_eq_any_not];rw [Bool.eq_iff_iff,List.any_eq_true,List.any_eq_true]
 have key:∀ d∈n.outs++n.vars,(dsTo n n.eqs.length).any (nmB d.nm)=decide (0<defN n d.nm n.eqs.length):=fun d hd=>by
  unfold dsTo defN;rw [List.any_append,once_apart h hd,cnt_any,Bool.false_or]
 exact⟨fun⟨d,hd,hn⟩=>⟨d,hd,by rw [← key d hd];exact hn⟩,fun⟨d,hd,hn⟩=>⟨d,hd,by rw [key d hd];exact hn⟩⟩
theorem nodeR_end{p:Pg}{i:Nat}(hp:portsB (ndAt p i)=true) (ho:onceS (namesD (ndAt p i).all)=true) (h:(ndAt p i).vars.any (offB (namesD (ndAt p i).all) p.es)=false) (hn:∀ j,j<(ndAt p i).eqs.length→eqS p i j=0)
 {b:Bool}(hb:((ndAt p i).outs.any (fun d=>!(dsTo (ndAt p i) (ndAt p i).eqs.length).any (nmB d.nm)) || (ndAt p i).vars.any (fun d=>!(dsTo (ndAt p i) (ndAt p i).eqs.length).any (nmB d.nm)))=b):NodeR p i (-1) (if b=true then 5 else 0):=by
 rw [undef_eq ho] at hb;unfold NodeR nodeS;rw [if_neg (by rw [ports_on hp h];decide),if_pos (firstF_no fun j hj=>by unfold eqF;rw [if_pos (hn j hj)])]
 cases b with
 | true=>
  rw [Bool.not_eq_true'] at hb;rw [if_neg (by rw [hb];decide)];rfl
 | false=>
  rw [Bool.not_eq_false'] at hb;rw [if_pos hb];rfl
end
section
open Go.RowKit Go.Sort Go.Maps Go.WideMaps
def setS(l:List ByteArray):DataW Unit:=setOf (.agg []) (l.map fun s=>Lit.string s.data.toList)
theorem setS_nil:setS []=.map []:=by simp [setS,setOf]
theorem setS_snoc(l:List ByteArray) (s:ByteArray):setS (l++[s])=(setS l).put (.string s.data.toList) (.agg []):=by
 unfold setS;rw [List.map_append];exact setOf_snoc _ _ _
theorem has_setS(l:List ByteArray) (s:ByteArray):Maps.has (setS l) (.string s.data.toList)=l.any (nmB s):=by
 unfold setS;rw [has_setOf _ _ _ (fun y hy=>by obtain⟨_,_,rfl⟩:=List.mem_map.1 hy;trivial),any_string,Bool.eq_iff_iff,decide_eq_true_eq,List.any_eq_true,List.mem_map];exact⟨fun⟨a,h,e⟩=>⟨a,h,nmB_eq.2 e⟩,fun⟨a,h,e⟩=>⟨a,h,nmB_eq.1 e⟩⟩
def SetAt(W:World) (b m:Nat) (l:List ByteArray):Prop:=W.ownsMap Try.prog 9 unitElem b m (setS l)
section
variable {W W':World}{b d m:Nat}{l:List ByteArray}
theorem SetAt.lt(h:SetAt W b m l):b<W.heap.size:=World.ownsMap.lt h
theorem SetAt.kept(h:SetAt W b m l){row:Option Nat}(hg:W.grownBy W' row) (hne:some b≠row):SetAt W' b m l:=World.ownsMap.kept h hg hne
theorem SetAt.below(h:SetAt W b m l) (hb:Below W.heap.size W W'):SetAt W' b m l:=h.kept (grownBy_of_below' hb) (by simp)
theorem SetAt.mono(h:SetAt W b m l){m':Nat}(hm:m≤m'):SetAt W b m' l:=World.ownsMap.mono h hm
theorem SetAt.new(W:World):SetAt (W.alloc (.map #[] 0)) W.heap.size 0 []:=by unfold SetAt;rw [setS_nil];exact World.ownsMap_made _ _ _ _
theorem SetAt.no_cell(h:SetAt W b m l){p:Addr}(hp:p.block=b):W.cell? p=none:=by
 obtain⟨es,clock,hb,-⟩:=h;unfold World.cell?;rw [hp,hb]
def Gd(d:Nat) (W W':World):Prop:=W.grownBy W' (some d)∧∀ p:Addr,p.block<W.heap.size→W'.cell? p=W.cell? p
theorem Gd.refl(W:World):Gd d W W:=⟨World.grownBy.refl _ _,fun _ _=>rfl⟩
theorem Gd.of_below(h:Below W.heap.size W W'):Gd d W W':=⟨(grownBy_of_below' h).but _,fun _ hp=>h.cell hp⟩
theorem Gd.trans{A B C:World}(h:Gd d A B) (k:Gd d B C):Gd d A C:=⟨World.grownBy.trans h.1 k.1,fun p hp=>(k.2 p (Nat.lt_of_lt_of_le hp (World.grownBy.size h.1))).trans (h.2 p hp)⟩
theorem Gd.size(h:Gd d W W'):W.heap.size≤W'.heap.size:=World.grownBy.size h.1
theorem Gd.below{w:World}{n:Nat}(hw:Below n w W) (h:Gd d W W') (hn:n≤W.heap.size) (hd:n≤d):Below n w W':=hw.grown h.1 hn (fun j e=>by cases e;exact hd)
theorem Gd.block(h:Gd d W W'){i:Nat}(hi:i<W.heap.size) (hne:i≠d):W'.heap[i]?=W.heap[i]?:=World.grownBy.block h.1 i hi (fun e=>hne (by injection e))
theorem Gd.blk(h:Gd d W W'){i:Nat}{cs:Array Value}{T:TypeId}(e:W.heap[i]?=some (Obj.cells cs T)) (hne:i≠d):W'.heap[i]?=some (Obj.cells cs T):=(h.block (Array.getElem?_eq_some_iff.1 e).1 hne).trans e
theorem Gd.cell(h:Gd d W W'){i j:Nat}(hi:i<W.heap.size):W'.cell? ⟨i,j,none⟩=W.cell? ⟨i,j,none⟩:=h.2 ⟨i,j,none⟩ hi
theorem Gd.new{w:World}{n:Nat}(h:Gd d w W) (hb:Below n W W') (hn:w.heap.size≤n):Gd d w W' :=
 ⟨⟨hb.os.trans h.1.os,hb.tape.trans h.1.tape,hb.output.trans h.1.output,Nat.le_trans h.size hb.size,fun i hi hne=>(hb.block i (Nat.lt_of_lt_of_le hi hn)).trans (h.1.block i hi hne)⟩,
  fun p hp=>(hb.cell (Nat.lt_of_lt_of_le hp hn)).trans (h.2 p hp)⟩
theorem SetAt.gd(h:SetAt W b m l) (hg:Gd d W W') (hne:b≠d):SetAt W' b m l:=h.kept hg.1 (fun e=>hne (by injection e))
theorem Gd.rdD{A:Option Addr}{n:Nat}{l:List Dc}(h:Gd d W W') (r:RdD W A n l):RdD W' A n l:=r.keep h.size h.2
end
theorem blk_cell{W:World}{i:Nat}{cs:Array Value}{T:TypeId}(e:W.heap[i]?=some (Obj.cells cs T)) (j:Nat):W.cell? ⟨i,j,none⟩=cs[j]?:=by simp [World.cell?,e]
theorem scAdd(b m:Nat) (l:List ByteArray) (s:ByteArray) (w:World) (h:SetAt w b m l) (hm:m<1000000) (hs:s.size≤maxLen):
 Calls Try.prog 23 #[.map (some b),.string s] w fun e w'=>e=.returned (.tuple #[])∧SetAt w' b (m+1) (l++[s])∧Gd b w w':=by
 have hkey:keyOf Try.prog 9 (.string s)=some (.string s.data.toList):=keyOf_string_mk Try.underlying9 hs;have hmm:m<maxLen:=by unfold maxLen;omega
 have HS:=Hd (setS_snoc l s);have h0:=h
 have HG:=Hd (fun w' (h:w.grownBy w' (some b)) (hs':SetAt w' b (m+1) (l++[s]))=>(show Gd b w w' from⟨h,fun p hp=>by
  by_cases e:p.block=b
  · rw [h0.no_cell e,hs'.no_cell e]
  · exact World.cell?_of_block (h.block p.block hp (fun e'=>e (by injection e')))⟩))
 have hown:w.ownsMap Try.prog 9 unitElem b m (setS l):=h;unfold SetAt;rw [HS.out];have HSS:=Hd HS.out;clear h HS h0
 go_enter Try.func23,Try.ntmps23
 go_wp2_with (at_mapUpdate;refine wpList_mapUpdate_own _ rfl _ _ _ 63 rfl 9 87 keyLaw Try.underlying63 (unitElem (H:=Unit)) b m _ rfl hown hmm _ _ _ rfl rfl hkey _ [] unitElem_mk ?_;intro w1 hown1 hgrow1)
 have HW:=Hd hown1;have HG2:=Hd (HG.out _ hgrow1 (by unfold SetAt;rw [HSS.out];exact hown1));clear hown1 hgrow1
 go_wp2_with fail
 go_end0
 exact⟨rfl,HW.out,HG2.out⟩
theorem scHas(b m:Nat) (l:List ByteArray) (s:ByteArray) (w:World) (h:SetAt w b m l) (hs:s.size≤maxLen):
 Calls Try.prog 58 #[.map (some b),.string s] w fun e w'=>e=.returned (.bool (l.any (nmB s)))∧Below w.heap.size w w':=by
 have hkey:keyOf Try.prog 9 (.string s)=some (.string s.data.toList):=keyOf_string_mk Try.underlying9 hs;have hhas:=has_setS l s;have hown:w.ownsMap Try.prog 9 unitElem b m (setS l):=h;clear h;generalize l.any (nmB s)=out at *
 go_enter Try.func58,Try.ntmps58
 go_wp2_with (at_lookup;refine wpList_lookup_own_unit _ rfl _ _ 63 rfl 9 87 keyLaw Try.underlying63 (zeroUnit _) b m _ rfl hown _ _ rfl hkey ?_)
 go_ret
 refine⟨rfl,?_⟩;exact(Below.refl _ _).alloc (Nat.le_refl _) _
end
section
open Go.RowKit Go.Sort Go.BigFrame
theorem scArm(A:Option Addr) (n c:Nat) (es:List En) (s:ByteArray) (w:World) (hE:RdE w A n es):
 Calls Try.prog 7 #[.slice A n c,.string s] w fun e w'=>e=.returned (armW (armR es s))∧Below w.heap.size w w':=by
 have HC:=Hd fun w1 (hb:Below w.heap.size w w1)=>tyCtor A n c es s w1 (hE.below hb);have HA:=Hd (show armR es s=if(s.toList==[116,114,117,101])=true then some (2,0,1) else if(s.toList==[102,97,108,115,101])=true then some (2,0,0) else(findE es s).map fun p=>(3,(p.1:Int),(p.2.1:Int)) from rfl);generalize armR es s=ar at *;clear hE
 cases h1:(s.toList==[116,114,117,101]) with
 | true=>
  have HE:=Hd (show ar=some (2,0,1) by rw [HA.out,if_pos h1]);rw [HE.out]
  go_enter Try.func7,Try.ntmps7
  go_upto_region 1 with(fail)
  generalize hw0:w.alloc _=w0;obtain⟨hb0,hR,hg0⟩:=f3_box hw0;have HB0:=Hd hb0;have HR:=Hd hR;clear hb0 hR hw0
  go_wp2_with (refine wpList_store_row rfl _ _ _ rfl (w.heap.size) _ rfl rfl _ _ HR.out ty3_info rfl (by simp [Value.oneCell']) ?_)
  exact bodyPost_ret (res_ty3 (p:=4) (u:=5) (v:=6) rfl _ _ w.heap.size 2 0 0 rfl (HR.out.set 2 0 0)) rfl ⟨rfl,below_set3 HB0.out⟩
 | false=>
  cases h2:(s.toList==[102,97,108,115,101]) with
  | true=>
   have HE:=Hd (show ar=some (2,0,0) by rw [HA.out,if_neg (by rw [h1];simp),if_pos h2]);rw [HE.out]
   go_enter Try.func7,Try.ntmps7
   go_upto_region 1 with(fail)
   generalize hw0:w.alloc _=w0;obtain⟨hb0,hR,hg0⟩:=f3_box hw0;have HB0:=Hd hb0;have HR:=Hd hR;clear hb0 hR hw0
   go_wp2_with (refine wpList_store_row rfl _ _ _ rfl (w.heap.size) _ rfl rfl _ _ HR.out ty3_info rfl (by simp [Value.oneCell']) ?_)
   exact bodyPost_ret (res_ty3 (p:=4) (u:=5) (v:=6) rfl _ _ w.heap.size 2 0 0 rfl (HR.out.set 2 0 0)) rfl ⟨rfl,below_set3 HB0.out⟩
  | false=>
   have HE:=Hd (show ar=(findE es s).map fun p=>(3,(p.1:Int),(p.2.1:Int)) by rw [HA.out,if_neg (by rw [h1];simp),if_neg (by rw [h2];simp)]);unfold ctorV at HC;rw [HE.out];clear HA HE
   cases hf:findE es s with
   | none=>
    rw [hf] at HC;simp only [Option.map_none,Option.getD_none,Option.isSome_none] at HC
    go_enter Try.func7,Try.ntmps7
    go_upto_region 1 with(fail)
    generalize hw0:w.alloc _=w0;obtain⟨hb0,hR,hg0⟩:=f3_box hw0;have HB0:=Hd hb0;have HR:=Hd hR;clear hb0 hR hw0
    go_wp2_with fail
    refine(HC.out _ HB0.out).mono ?_;rintro e w1 ⟨rfl,hb1⟩;have HR1:=Hd (HR.out.below hb1);have HB1:=Hd (HB0.out.trans (hb1.mono HB0.out.size));clear hb1
    go_wp2_with (refine wpList_store_row rfl _ _ _ rfl (w.heap.size) _ rfl rfl _ _ HR1.out ty3_info rfl (by simp [Value.oneCell']) ?_)
    exact bodyPost_ret (res_ty3 (p:=4) (u:=5) (v:=6) rfl _ _ w.heap.size 0 0 0 rfl (HR1.out.set 0 0 0)) rfl ⟨rfl,below_set3 HB1.out⟩
   | some q=>
    rw [hf] at HC;simp only [Option.map_some,Option.getD_some,Option.isSome_some] at HC;rw [show(some q).map (fun p:Pl=>((3:Int),(p.1:Int),(p.2.1:Int)))=some (3,(q.1:Int),(q.2.1:Int)) from rfl];generalize q.1=qa at *;generalize q.2.1=qb at *
    go_enter Try.func7,Try.ntmps7
    go_upto_region 1 with(fail)
    generalize hw0:w.alloc _=w0;obtain⟨hb0,hR,hg0⟩:=f3_box hw0;have HB0:=Hd hb0;have HR:=Hd hR;clear hb0 hR hw0
    go_wp2_with fail
    refine(HC.out _ HB0.out).mono ?_;rintro e w1 ⟨rfl,hb1⟩;have HR1:=Hd (HR.out.below hb1);have HB1:=Hd (HB0.out.trans (hb1.mono HB0.out.size));clear hb1
    go_wp2_with (refine wpList_store_row rfl _ _ _ rfl (w.heap.size) _ rfl rfl _ _ HR1.out ty3_info rfl (by simp [Value.oneCell']) ?_)
    exact bodyPost_ret (res_ty3 (p:=4) (u:=5) (v:=6) rfl _ _ w.heap.size 3 qa 0 rfl (HR1.out.set 3 qa 0)) rfl ⟨rfl,below_set3 HB1.out⟩
def rmA(E:Option Addr) (n c bn bv bd:Nat):Array Value:=#[.slice E n c,.map (some bn),.map (some bv),.map (some bd)]
theorem rm_facts(w:World) (E:Option Addr) (n c bn bv bd:Nat) (w1:World) (h:w.alloc (.cells (rmA E n c bn bv bd) 66)=w1):
 Below w.heap.size w w1∧w1.heap.size=w.heap.size+1∧∀ w',Below w1.heap.size w1 w'→∀ j,w'.cell? ⟨w.heap.size,j,none⟩=(rmA E n c bn bv bd)[j]?:=by
 subst h;refine⟨(Below.refl _ _).alloc (Nat.le_refl _) _,by simp,fun w' hb j=>?_⟩;rw [hb.cell (p:=⟨w.heap.size,j,none⟩) (by simp),World.cell?_alloc_new]
theorem scNoArm(E:Option Addr) (n c bn bv bd:Nat) (es:List En) (s:ByteArray) (w:World) (hE:RdE w E n es):
 Calls Try.prog 59 #[.agg (rmA E n c bn bv bd),.string s] w fun e w'=>e=.returned (.bool (!armV es s))∧Below w.heap.size w w':=by
 have HF:=Hd fun w1 hw=>rm_facts w E n c bn bv bd w1 hw;have HC:=Hd fun w1 (a:Below w.heap.size w w1)=>scArm E n c es s w1 (hE.below a);have HV:=Hd (show(armR es s).isSome=armV es s from rfl);clear hE;unfold armW f3A at HC;generalize (armR es s).isSome=ok at *;generalize ((armR es s).map (·.1)).getD 0=r1 at *;generalize ((armR es s).map (·.2.1)).getD 0=r2 at *;generalize ((armR es s).map (·.2.2)).getD 0=r3 at *;unfold rmA at HF ⊢
 go_enter Try.func59,Try.ntmps59
 go_upto_region 1 with(fail)
 generalize hw1:w.alloc _=w1;obtain⟨hb1,hg,hcell⟩:=HF.out w1 hw1;have HB1:=Hd hb1;have q0:=hcell w1 (Below.refl _ _) 0;simp only [Ya,Yb,Yc] at q0;have HD:=Hd (HC.out w1 hb1);clear hw1 hcell hb1 HF HC hg
 go_wp2_with fail
 refine HD.out.mono ?_;rintro e w2 ⟨rfl,hb2⟩;have HB2:=Hd (HB1.out.trans (hb2.mono HB1.out.size));clear hb2 q0 HD
 go_wp2_with fail
 go_ret
 exact⟨ret_boolS (congrArg not HV.out),below_box HB2.out rfl⟩
theorem scUndefined(E:Option Addr) (n c bn bv bd m:Nat) (ds:List ByteArray) (d:Dc) (w:World) (hd:SetAt w bd m ds) (hs:d.nm.size≤maxLen):
 Calls Try.prog 39 #[.agg (rmA E n c bn bv bd),.agg (dcA d)] w fun e w'=>e=.returned (.bool (!ds.any (nmB d.nm)))∧Below w.heap.size w w':=by
 have HF:=Hd fun w1 hw=>rm_facts w E n c bn bv bd w1 hw;have HF2:=Hd fun w w1 hw=>dc_facts w d w1 hw;have HC:=Hd fun w1 (a:Below w.heap.size w w1)=>scHas bd m ds d.nm w1 (hd.below a) hs;clear hd hs;generalize ds.any (nmB d.nm)=out at *;unfold rmA at HF ⊢;unfold dcA at HF2 ⊢
 go_enter Try.func39,Try.ntmps39
 go_upto_region 1 with(fail)
 generalize hw1:w.alloc _=w1;obtain⟨hb1,hg,hcell⟩:=HF.out w1 hw1;generalize hw2:w1.alloc _=w2;obtain⟨hb2,hg2,hcell2⟩:=HF2.out w1 w2 hw2;rw [hg] at hcell2;have HB2:=Hd (hb1.trans (hb2.mono hb1.size));have q3:=hcell w2 hb2 3;have d0:=hcell2 w2 (Below.refl _ _) 0;simp only [Ya,Yb,Yc] at q3 d0;have HD:=Hd (HC.out w2 HB2.out);clear hw1 hw2 hcell hcell2 hb1 hb2 HF HF2 HC
 go_wp2_with fail
 refine HD.out.mono ?_;rintro e w3 ⟨rfl,hb3⟩;have HB3:=Hd (HB2.out.trans (hb3.mono HB2.out.size));clear hb3 q3 d0 HD
 go_wp2_with fail
 go_ret
 exact⟨rfl,HB3.out⟩
end
section
open Go.RowKit Go.Sort Go.BigFrame
theorem scUntimed(E:Option Addr) (n c bn bv bd m:Nat) (es:List En) (vs:List ByteArray) (d:Dc) (w:World) (hE:RdE w E n es) (hd:SetAt w bv m vs) (hs:d.on.size≤maxLen):
 Calls Try.prog 37 #[.agg (rmA E n c bn bv bd),.agg (dcA d)] w fun e w'=>e=.returned (.bool (offB vs es d))∧Below w.heap.size w w':=by
 have HF:=Hd fun w1 hw=>rm_facts w E n c bn bv bd w1 hw;have HF2:=Hd fun w w1 hw=>dc_facts w d w1 hw;have HC:=Hd fun w1 (a:Below w.heap.size w w1)=>scHas bv m vs d.on w1 (hd.below a) hs;have HA:=Hd fun w1 (a:Below w.heap.size w w1)=>scNoArm E n c bn bv bd es d.ct w1 (hE.below a);have HO:=Hd (show offB vs es d=(!(d.on.toList==[]) && (!vs.any (nmB d.on) || !armV es d.ct)) from rfl);clear hd hs hE;generalize offB vs es d=out at *;generalize vs.any (nmB d.on)=bh at *;generalize armV es d.ct=ba at *;unfold rmA at HF HA ⊢;unfold dcA at HF2 ⊢;generalize d.on=on at *;generalize d.ct=ct at *
 cases h1:(on.toList==[]) with
 | true=>
  have h2:on.toList.isEmpty=true:=by rw [← h1];cases on.toList <;> rfl
  have HR:=Hd (show out=false by rw [HO.out,h1];rfl)
  go_enter Try.func37,Try.ntmps37
  go_upto_region 1 with(fail)
  generalize hw1:w.alloc _=w1;obtain⟨hb1,hg,hcell⟩:=HF.out w1 hw1;generalize hw2:w1.alloc _=w2;obtain⟨hb2,hg2,hcell2⟩:=HF2.out w1 w2 hw2;rw [hg] at hcell2;have HB2:=Hd (hb1.trans (hb2.mono hb1.size));have q2:=hcell w2 hb2 2;have d4:=hcell2 w2 (Below.refl _ _) 4;simp only [Ya,Yb,Yc] at q2 d4;clear hw1 hw2 hcell hcell2 hb1 hb2 HF HF2 HC HA
  go_wp2_with fail
  go_ret
  exact⟨ret_boolS HR.out.symm,HB2.out⟩
 | false=>
  have h2:on.toList.isEmpty=false:=by rw [← h1];cases on.toList <;> rfl
  cases bh with
  | false=>
   have HR:=Hd (show out=true by rw [HO.out,h1];rfl)
   go_enter Try.func37,Try.ntmps37
   go_upto_region 1 with(fail)
   generalize hw1:w.alloc _=w1;obtain⟨hb1,hg,hcell⟩:=HF.out w1 hw1;generalize hw2:w1.alloc _=w2;obtain⟨hb2,hg2,hcell2⟩:=HF2.out w1 w2 hw2;rw [hg] at hcell2;have HB2:=Hd (hb1.trans (hb2.mono hb1.size));have q2:=hcell w2 hb2 2;have d4:=hcell2 w2 (Below.refl _ _) 4;simp only [Ya,Yb,Yc] at q2 d4;have HD:=Hd (HC.out w2 HB2.out);clear hw1 hw2 hcell hcell2 hb1 hb2 HF HF2 HC HA
   go_wp2_with fail
   refine HD.out.mono ?_;rintro e w3 ⟨rfl,hb3⟩;have HB3:=Hd (HB2.out.trans (hb3.mono HB2.out.size));clear hb3 HD
   go_wp2_with fail
   go_ret
   exact⟨ret_boolS HR.out.symm,HB3.out⟩
  | true=>
   have HR:=Hd (show out=!ba by rw [HO.out,h1];cases ba <;> rfl)
   go_enter Try.func37,Try.ntmps37
   go_upto_region 1 with(fail)
   generalize hw1:w.alloc _=w1;obtain⟨hb1,hg,hcell⟩:=HF.out w1 hw1;generalize hw2:w1.alloc _=w2;obtain⟨hb2,hg2,hcell2⟩:=HF2.out w1 w2 hw2;rw [hg] at hcell2;have HB2:=Hd (hb1.trans (hb2.mono hb1.size));obtain⟨q0,q1,q2,q3,-,-⟩:=Sx (hcell w2 hb2);have d4:=hcell2 w2 (Below.refl _ _) 4;have d5:=hcell2 w2 (Below.refl _ _) 5;simp only [Ya,Yb,Yc] at q0 q1 q2 q3 d4 d5;have HQ0:=Hd fun W (b:Below w2.heap.size w2 W) j=>hcell W (hb2.trans (b.mono hb2.size)) j;have HQ1:=Hd fun W (b:Below w2.heap.size w2 W) j=>hcell2 W b j;have HD:=Hd (HC.out w2 HB2.out);clear hw1 hw2 hcell hcell2 hb1 hb2 HF HF2 HC
   go_wp2_with fail
   refine HD.out.mono ?_;rintro e w3 ⟨rfl,hb3⟩;have HB3:=Hd (HB2.out.trans (hb3.mono HB2.out.size));obtain⟨r0,r1,r2,r3,-,-⟩:=Sx (HQ0.out w3 hb3);have e3:=HQ1.out w3 hb3 5;simp only [Ya,Yb,Yc] at r0 r1 r2 r3 e3;have HE:=Hd (HA.out w3 HB3.out);clear hb3 HD q0 q1 q2 q3 d4 d5 HA
   go_wp2_with fail
   refine HE.out.mono ?_;rintro e w4 ⟨rfl,hb4⟩;have HB4:=Hd (HB3.out.trans (hb4.mono HB3.out.size));clear hb4 HE
   go_wp2_with fail
   go_ret
   exact⟨ret_boolS HR.out.symm,HB4.out⟩
theorem scDefine(E:Option Addr) (n c bn bv bd m md:Nat) (vs ds:List ByteArray) (s:ByteArray) (w:World) (hv:SetAt w bv m vs) (hd:SetAt w bd md ds) (hne:bv≠bd) (hm:md<1000000) (hs:s.size≤maxLen):
 Calls Try.prog 60 #[.agg (rmA E n c bn bv bd),.string s] w fun e w'=>e=.returned (.int .i64 (defineB vs ds s))∧Gd bd w w'∧(defineB vs ds s=0→SetAt w' bd (md+1) (ds++[s])):=by
 have HF:=Hd fun w1 hw=>rm_facts w E n c bn bv bd w1 hw;have HC:=Hd fun w1 (a:Below w.heap.size w w1)=>scHas bv m vs s w1 (hv.below a) hs;have HD:=Hd fun w1 (a:Below w.heap.size w w1)=>scHas bd md ds s w1 (hd.below a) hs;have HA:=Hd fun w1 (a:Below w.heap.size w w1)=>scAdd bd md ds s w1 (hd.below a) hm hs;have HO:=Hd (show defineB vs ds s=if vs.any (nmB s)=false then 5 else if ds.any (nmB s)=true then 6 else 0 from rfl);have hlt:=hd.lt;clear hd hs hv;generalize defineB vs ds s=out at *;generalize vs.any (nmB s)=b1 at *;generalize ds.any (nmB s)=b2 at *;unfold rmA at HF ⊢
 go_enter Try.func60,Try.ntmps60
 go_upto_region 1 with(fail)
 generalize hw1:w.alloc _=w1;obtain⟨hb1,hg,hcell⟩:=HF.out w1 hw1;have HB1:=Hd hb1;have HQ:=Hd hcell;have q2:=hcell w1 (Below.refl _ _) 2;simp only [Ya,Yb,Yc] at q2;have HC1:=Hd (HC.out w1 hb1);clear hw1 hcell hb1 HF HC
 cases b1 with
 | false=>
  have HR:=Hd (show out=5 by rw [HO.out,if_pos rfl])
  go_wp2_with fail
  refine HC1.out.mono ?_;rintro e w2 ⟨rfl,hb2⟩;have HB2:=Hd (HB1.out.trans (hb2.mono HB1.out.size));clear hb2 HC1 q2
  go_wp2_with fail
  go_ret
  exact⟨by rw [HR.out];rfl,Gd.of_below HB2.out,fun h=>by rw [HR.out] at h;cases h⟩
 | true=>
  go_wp2_with fail
  refine HC1.out.mono ?_;rintro e w2 ⟨rfl,hb2⟩;have HB2:=Hd (HB1.out.trans (hb2.mono HB1.out.size));have q3:=HQ.out w2 hb2 3;have HQ2:=Hd fun W (b:Below w2.heap.size w2 W) j=>HQ.out W (hb2.trans (b.mono hb2.size)) j;simp only [Ya,Yb,Yc] at q3;have HD2:=Hd (HD.out w2 HB2.out);clear hb2 HC1 q2 HD HQ
  cases b2 with
  | true=>
   have HR:=Hd (show out=6 by rw [HO.out,if_neg (by decide),if_pos rfl])
   go_wp2_with fail
   refine HD2.out.mono ?_;rintro e w3 ⟨rfl,hb3⟩;have HB3:=Hd (HB2.out.trans (hb3.mono HB2.out.size));clear hb3 HD2 q3
   go_wp2_with fail
   go_ret
   exact⟨by rw [HR.out];rfl,Gd.of_below HB3.out,fun h=>by rw [HR.out] at h;cases h⟩
  | false=>
   have HR:=Hd (show out=0 by rw [HO.out,if_neg (by decide),if_neg (by decide)])
   go_wp2_with fail
   refine HD2.out.mono ?_;rintro e w3 ⟨rfl,hb3⟩;have HB3:=Hd (HB2.out.trans (hb3.mono HB2.out.size));have r3:=HQ2.out w3 hb3 3;simp only [Ya,Yb,Yc] at r3;have HA3:=Hd (HA.out w3 HB3.out);clear hb3 HD2 q3 HQ2 HA
   go_wp2_with fail
   refine HA3.out.mono ?_;rintro e w4 ⟨rfl,hs4,hg4⟩;have HS4:=Hd hs4;have HG4:=Hd ((Gd.of_below HB3.out).trans hg4);clear hs4 hg4 HA3 r3
   go_wp2_with fail
   go_ret
   exact⟨by rw [HR.out];rfl,HG4.out,fun _=>HS4.out⟩
end
end Go.Proofs.Ytpehkppcdlboeaa
