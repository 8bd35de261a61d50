/- Parts of the proof: ClC, ClD, PhC, ScL, ClI. Conditions: each theorem's own. -/
import Derived.Deep.AppendLies
import Derived.Test.YtkbpdoomhfkngaaF09
import Derived.Test.YtkbpdoomhfkngaaF10
namespace Go.Proofs.Ytkbpdoomhfkngaa
set_option linter.unusedVariables false
set_option linter.unusedSimpArgs false
set_option maxRecDepth 100000
set_option maxHeartbeats 40000000
section
open Go.RowKit Go.Sort Go.BigFrame
theorem rowOf_no{p:Pg}{i:Int}{s:ByteArray}(h:i<0∨(p.ns.length:Int)≤i):rowOf p i s=none:=if_pos h
theorem rowOf_in{p:Pg}{i:Nat}{s:ByteArray}(h:i<p.ns.length):rowOf p i s=rowC p.es (ndAt p i) s:=by
 unfold rowOf;rw [if_neg (by omega)];rfl
theorem refRowNo(p:Pg) (E:Option Addr) (ec:Nat) (N:Option Addr) (nc:Nat) (i:Int) (s:ByteArray) (w:World) (h:rdP w p E N) (hi:i<0∨(p.ns.length:Int)≤i):
 Calls Try.prog 10 #[.agg (pgA p E ec N nc),.int .i64 i,.string s] w (RowPost w none):=by
 have HF:=Hd fun w1 hw=>pg_facts w p E ec N nc w1 hw h;clear h;unfold pgA at HF ⊢;generalize p.ns.length=pn at *
 go_enter Try.func10,Try.ntmps10
 go_upto_region 1 with(fail)
 generalize hw0:w.alloc _=w0;obtain⟨hb0,hsz,-,hp⟩:=HF.out w0 hw0;have HB0:=Hd hb0;have p1:=hp w0 (Below.refl _ _) 1;simp only [Ya,Yb,Yc] at p1;clear hw0 hb0 hsz hp HF
 by_cases h0:i<0
 · have hd:decide (i<0)=true:=decide_eq_true h0
   go_wp2_with fail
   refine bodyPost_ret (results_tmp2 rfl _ _ _) rfl ?_;exact⟨HB0.out,rfl⟩
 · have hd:decide (i<0)=false:=decide_eq_false h0;have hle:(pn:Int)≤i:=by omega
   have hd2:decide ((pn:Int)≤i)=true:=decide_eq_true hle
   go_wp2_with fail
   refine bodyPost_ret (results_tmp2 rfl _ _ _) rfl ?_;exact⟨HB0.out,rfl⟩
theorem refRowIn(p:Pg) (E:Option Addr) (ec:Nat) (N:Option Addr) (nc:Nat) (i:Nat) (s:ByteArray) (w:World) (h:rdP w p E N) (hi:i<p.ns.length) (hn:(ndAt p i).all.length≤1000):
 Calls Try.prog 10 #[.agg (pgA p E ec N nc),.int .i64 i,.string s] w (RowPost w (rowC p.es (ndAt p i) s)):=by
 have HF:=Hd fun w1 hw=>pg_facts w p E ec N nc w1 hw h;have HAR:=Hd fun t w1 (hb:Below w.heap.size w w1)=>refArm15 E p.es.length ec p.es t w1 (h.below hb).1;obtain⟨nb,no,A1,c1,A2,c2,A3,c3,A4,c4,hN,hnb,hrd,d0,d1,d2,d3,d4⟩:=nd_atC h.2 hi;have hnd:p.ns[i]?.getD default=ndAt p i:=rfl;rw [hnd] at hrd d0 d1 d2 d3 d4;have HCL:=Hd fun w1 (hb:Below w.heap.size w w1)=>refClock (ndAt p i) A1 c1 A2 c2 A3 c3 A4 c4 s w1 (hrd.below hb) hn;have HNB:=Hd hnb;have hmx:=RdS.max h.2;have HROW:=Hd (show rowC p.es (ndAt p i) s=(clockO (ndAt p i) s).bind (condsR p.es) from rfl);obtain⟨i0,z0,hi0,hz1,hz0,hz2,hz3⟩:=info_three infoCond;clear h hn hnd hrd;subst hN;unfold pgA at HF ⊢;unfold armW f3A at HAR;unfold ndA at HCL;unfold ClockPost at HCL;have H12:=Hd (show ∀ l,clockO (ndAt p i) s=some l→l.length≤1000 from fun l hl=>clock_len hl);generalize rowC p.es (ndAt p i) s=out at *;generalize clockO (ndAt p i) s=oc at *;generalize hes:p.es=es at *;generalize es.length=pe at *;generalize p.ns.length=pn at *;generalize ndAt p i=nd at *
 go_enter Try.func10,Try.ntmps10
 go_upto_region 1 with(fail)
 generalize hw0:w.alloc _=w0;obtain⟨hb0,hsz,-,hp⟩:=HF.out w0 hw0;have HB0:=Hd hb0;have HP:=Hd hp;have p0:=hp w0 (Below.refl _ _) 0;have p1:=hp w0 (Below.refl _ _) 1;simp only [Ya,Yb,Yc] at p0 p1;have d0:=(hb0.cell (p:=⟨nb,no+i*5,none⟩) hnb).trans d0;have d1:=(hb0.cell (p:=⟨nb,no+i*5+1,none⟩) hnb).trans d1;have d2:=(hb0.cell (p:=⟨nb,no+i*5+2,none⟩) hnb).trans d2;have d3:=(hb0.cell (p:=⟨nb,no+i*5+3,none⟩) hnb).trans d3;have d4:=(hb0.cell (p:=⟨nb,no+i*5+4,none⟩) hnb).trans d4;have HC0:=Hd (HCL.out w0 hb0);clear hw0 hb0 hsz hp HF HCL;have hd:decide ((i:Int)<0)=false:=decide_eq_false (by omega);have hd2:decide ((pn:Int)≤(i:Int))=false:=decide_eq_false (by omega)
 go_wp2_with fail
 refine HC0.out.mono ?_;rintro e w1 ⟨hb1,hpost⟩;have HB1:=Hd (below_nextC HB0.out hb1);have HP1:=Hd fun W (b:Below w1.heap.size w1 W) j=>HP.out W (below_nextC hb1 b) j;clear HC0 p0 p1 d0 d1 d2 d3 d4 hb1 HP
 cases hoc:oc with
 | none=>
  rw [hoc] at hpost;subst hpost;have HO:=Hd (show out=none by rw [HROW.out,hoc];rfl)
  go_wp2_with fail
  refine bodyPost_ret (results_tmp2 rfl _ _ _) rfl ?_;rw [HO.out];exact⟨HB1.out,rfl⟩
 | some l=>
  rw [hoc] at hpost;obtain⟨L,lc,rfl,hrl⟩:=hpost;have HRL:=Hd hrl;have HOO:=Hd (show out=condsR es l by rw [HROW.out,hoc];rfl);have HLN:=Hd (H12.out l hoc);have hlx:=RdS.max hrl;clear hrl hoc;generalize hm:l.length=m at *;have HML:=Hd hm;clear hm;have hOW:=World.ownsRow_lit (base:=w1.heap.size) (e:=60) (size:=2) w1 #[] 0 (Nat.le_refl _) (by decide) rfl;have HOW:=Hd hOW;have HBN:=Hd ((Below.refl w1.heap.size w1).alloc (Nat.le_refl _) (.cells #[] 60));clear hOW
  go_upto_region 7 with(fail)
  generalize w1.alloc _=wN at *
  go_wp2_with fail
  go_loopw [10,11] (fun v i wr=>∃ (k:Nat) (cs:List Cd),k≤m∧i=.int .i64 k∧condsR es (l.take k)=some cs∧wr.ownsRow w1.heap.size 60 2 v k (flC cs)∧Below w1.heap.size w1 wr) (fun _ i _=>m-(intOf i).toNat)
  case atStart=>exact⟨0,[],Nat.zero_le _,rfl,rfl,HOW.out,HBN.out⟩
  case round=>
   obtain⟨k,cs,hk,rfl,hseq,hown,hbr⟩:=hrel;have HSQ:=Hd hseq;have HOWN:=Hd hown;have HBR:=Hd hbr;have HBW:=Hd (below_nextC HB1.out hbr);have p0:=HP1.out wr hbr 0;simp only [Ya,Yb,Yc] at p0;clear hseq hown HOW HBN
   by_cases hlt:k<m
   · obtain⟨b,off,rfl,hb,e0,e1,e2,e3,e4,e5⟩:=dc_atC (HRL.out.below hbr) hlt;have HNK:=Hd fun hc=>condsR_no (es:=es) (l:=l) (k:=k) (by rw [HML.out];exact hlt) hc;have HSK:=Hd fun c hc=>condsR_take (es:=es) (l:=l) (k:=k) (c:=c) (by rw [HML.out];exact hlt) HSQ.out hc;have HCR:=Hd (show condR es (l[k]?.getD default)=(armR es (l[k]?.getD default).ct).map fun r=>⟨(l[k]?.getD default).on,r.2.2⟩ from rfl);clear hbr e0 e1 e2 e3;generalize hdd:l[k]?.getD default=d at *;clear hdd;have HAK:=Hd fun w1 (hb:Below w.heap.size w w1)=>HAR.out d.ct w1 hb;generalize ho:armR es d.ct=o at *;generalize d.on=don at *;generalize d.ct=dct at *;generalize hoa:(o.map (·.1)).getD 0=oa at *;generalize hob:(o.map (·.2.1)).getD 0=ob at *;generalize hov:(o.map (·.2.2)).getD 0=ov at *;generalize hos:o.isSome=os at *;have HCV:=Hd (show o.map (fun r=>(⟨don,r.2.2⟩:Cd))=if os=true then some ⟨don,ov⟩ else none by subst hos hov;cases o <;> rfl);clear ho hoa hob hov hos
     go_upto_region 10 with(fail)
     refine wp_region_mid (l:=[_,_,_,_,_,_,_,_,_,_,_,_,_,_,_,_]) 12 13 _ _ (d:=12) (tx:=52) (T:=56) (zc:=f3A 0 0 0) (by kernel_rfl) rfl rfl (by kernel_rfl) rfl (by simp) (fun a W=>by rfl) rfl (by kernel_rfl) ?_
     repeat
      first
      | refine fix_skipG rfl ?_
      | (apply fix_stepG rfl rfl (by simp)
         case h1=>
          intro wb hb;have hbb:=cls_below hb;have l0:=fun d os=>cell_regrown ((hbb.cell (World.block_lt_of_cell? _ _ p0)).trans p0) d os;have m4:=fun d os=>cell_regrown ((hbb.cell (World.block_lt_of_cell? _ _ e4)).trans e4) d os;have m5:=fun d os=>cell_regrown ((hbb.cell (World.block_lt_of_cell? _ _ e5)).trans e5) d os;have h3:=below_nextC HBW.out hbb;have cA:=fun d os=>Calls.regrown_of (HAK.out (grow (redrawn wb d) os) (h3.trans ((below_regrown wb d os).mono h3.size)));clear h3 hbb
          go_big_quiet_step (with_reducible exact cA _ _)
          refine wpQuiet_nil ?_;simp only [List.getElem?_toArray,List.getElem?_cons_succ,List.getElem?_cons_zero];exact rfl
         simp only [Act.put,Yd,Ye,Yf])
     refine⟨f3A oa ob 0,rfl,rfl,by simp [f3A,Value.oneCell'],fun W g hW hg hz=>?_⟩;have HBX:=Hd (cls_below hW);have HG:=Hd hg;have e4:=((cls_below hW).cell (World.block_lt_of_cell? _ _ e4)).trans e4;clear hW hg hz p0 e5
     show Exit.then _ _ .normal _ W
     simp only [Act.put,Yd,Ye,Yf];have HOWX:=Hd (own_belowC HOWN.out (HBX.out));have HBRX:=Hd (below_nextC HBR.out HBX.out)
     cases os with
     | false=>
      have HO:=Hd (show out=none by rw [HOO.out];exact HNK.out (by rw [HCR.out,HCV.out];rfl))
      go_wp2_with fail
      refine bodyPost_ret (results_tmp2 rfl _ _ _) rfl ?_;rw [HO.out];exact⟨below_nextC HBW.out HBX.out,rfl⟩
     | true=>
      have HSY:=Hd (HSK.out ⟨don,ov⟩ (by rw [HCR.out,HCV.out];rfl));have HLIT:=Hd (cd_lit W ⟨don,ov⟩);have HAL:=Hd ((Below.refl W.heap.size W).alloc (Nat.le_refl _) (.cells (cdA ⟨don,ov⟩) 60));have HOW5:=Hd (own_belowC HOWX.out HAL.out);have HB5:=Hd (below_nextC HBRX.out HAL.out);unfold cdA at HLIT HAL HOW5 HB5;have hkm:k≤1000:=by have:=HLN.out;omega
      go_wp2_with (at_builtin;refine wpList_append_cd rfl _ _ 30 rfl w1.heap.size 60 i0 z0 24 Try.underlying30 hi0 hz1 hz0 hz2 hz3 _ k cs rfl HOW5.out _ 1 1 [⟨don,ov⟩] rfl HLIT.out (by unfold maxLen;omega) (by omega) HB5.out.size ?_;intro v' w9 hown' hgrow;have HO9:=Hd hown';have HB9:=Hd (HB5.out.grown hgrow HB5.out.size (fun j hj=>(HOW5.out.lt j hj).1));clear hown' hgrow)
      go_roundw
      case rel=>exact⟨k+1,cs++[⟨don,ov⟩],by omega,by go_num,HSY.out,HO9.out,HB9.out⟩
      case measure=>simp [intOf];omega
   · obtain rfl:k=m:=by omega
     have HO:=Hd (show out=some cs by rw [HOO.out,← HSQ.out,List.take_of_length_le (by rw [HML.out];exact Nat.le_refl _)]);have hcl:=condsR_len HSQ.out;rw [List.length_take,HML.out,Nat.min_self] at hcl;obtain⟨S,c,rfl,hry⟩:=RdC.of_own HOWN.out (by omega);have HRY:=Hd hry;have HCLN:=Hd hcl;clear hry hcl
     go_wp2_with fail
     refine bodyPost_ret (results_tmp2 rfl _ _ _) rfl ?_;rw [HO.out];exact⟨HBW.out,S,c,by rw [HCLN.out];rfl,by rw [HCLN.out];exact HRY.out⟩
theorem refRow17(p:Pg) (E:Option Addr) (ec:Nat) (N:Option Addr) (nc:Nat) (i:Int) (s:ByteArray) (w:World) (h:rdP w p E N) (hn:∀ j,j<p.ns.length→(ndAt p j).all.length≤1000):
 Calls Try.prog 10 #[.agg (pgA p E ec N nc),.int .i64 i,.string s] w (RowPost w (rowOf p i s)):=by
 by_cases hi:i<0∨(p.ns.length:Int)≤i
 · rw [rowOf_no hi];exact refRowNo p E ec N nc i s w h hi
 · obtain⟨n,rfl⟩:∃ n:Nat,i=n:=⟨i.toNat,by omega⟩;rw [rowOf_in (by omega)];exact refRowIn p E ec N nc n s w h (by omega) (hn n (by omega))
end
section
open Go.RowKit Go.Sort Go.BigFrame
def CondsPost(w:World) (l:List Cd) (e:Ending) (w':World):Prop:=∃ A c,e=.returned (.slice A l.length c)∧RdC w' A l.length l∧l.length≤c∧Below w.heap.size w w'
theorem RdC.of_ownC{w:World}{base n:Nat}{e:TypeId}{v:Value}{l:List Cd}(h:w.ownsRow base e 2 v n (flC l)) (hm:n≤9223372036854775807):∃ A c,v=.slice A n c∧RdC w A n l∧n≤c:=by
 obtain⟨A,c,e1,h1⟩:=RdC.of_own h hm;refine⟨A,c,e1,h1,?_⟩;rcases h.2 with⟨h2,h3⟩|⟨g,cap,cur,hv,hg,hh,hnc,hr⟩
 · omega
 · rw [e1] at hv;injection hv with _ _ hc;omega
theorem refWhenC(A:Option Addr) (n c:Nat) (l:List Cd) (s:ByteArray) (v:Int) (w:World) (h:RdC w A n l) (hn:n≤4000000):
 Calls Try.prog 48 #[.slice A n c,.string s,.int .i64 v] w (CondsPost w (l++[⟨s,v⟩])):=by
 have hln:=RdS.len h;obtain⟨i0,z0,hi0,hz1,hz0,hz2,hz3⟩:=info_three infoCond;have HOW:=Hd (show(w.alloc (.cells #[] 60)).ownsRow w.heap.size 60 2 (.slice (some ⟨w.heap.size,0,none⟩) 0 0) 0 (flC []) from World.ownsRow_lit (base:=w.heap.size) (e:=60) (size:=2) w #[] 0 (Nat.le_refl _) (by decide) rfl);have HB0:=Hd ((Below.refl w.heap.size w).alloc (Nat.le_refl _) (.cells #[] 60));have HR0:=Hd (h.below HB0.out);have HLEN:=Hd (show(l++[(⟨s,v⟩:Cd)]).length=n+1 by rw [List.length_append,hln];rfl);clear h hln
 go_enter Try.func48,Try.ntmps48
 go_wp2_with (at_builtin;(first
  | (refine wpList_append_cd rfl _ _ 30 rfl w.heap.size 60 i0 z0 24 Try.underlying30 hi0 hz1 hz0 hz2 hz3 _ 0 [] rfl HOW.out A n c l rfl HR0.out (by unfold maxLen;omega) (by omega) HB0.out.size ?_;intro v1 w1 hown1 hgr1;have HO1:=Hd hown1;have HB1:=Hd (HB0.out.grown hgr1 HB0.out.size (fun j hj=>(HOW.out.lt j hj).1));clear hown1 hgr1;have HLIT:=Hd (cd_lit w1 ⟨s,v⟩);have HAL:=Hd ((Below.refl w1.heap.size w1).alloc (Nat.le_refl _) (.cells (cdA ⟨s,v⟩) 60));have HO2:=Hd (own_belowC HO1.out HAL.out);have HB2:=Hd (below_nextC HB1.out HAL.out);unfold cdA at HLIT HAL HO2 HB2)
  | (refine wpList_append_cd rfl _ _ 30 rfl w.heap.size 60 i0 z0 24 Try.underlying30 hi0 hz1 hz0 hz2 hz3 _ (0+n) ([]++l) rfl HO2.out _ 1 1 [⟨s,v⟩] rfl HLIT.out (by unfold maxLen;omega) (by omega) HB2.out.size ?_;intro v3 w3 hown3 hgr3;have HO3:=Hd hown3;have HB3:=Hd (HB2.out.grown hgr3 HB2.out.size (fun j hj=>(HO2.out.lt j hj).1));clear hown3 hgr3)))
 go_ret
 obtain⟨S,c',e1,h1,h2⟩:=RdC.of_ownC (l:=l++[⟨s,v⟩]) (n:=n+1) (by have:=HO3.out;rwa [List.nil_append,Nat.zero_add] at this) (by omega);refine⟨S,c',?_,?_,?_,HB3.out⟩
 · rw [e1,HLEN.out];rfl
 · rw [HLEN.out];exact h1
 · rw [HLEN.out];exact h2
end
section
open Go.RowKit Go.Sort
def lenV:Value→Nat
 | .slice _ n _=>n
 | _=>0
theorem own_below{w w':World}{base:Nat}{e:TypeId}{size n:Nat}{v:Value}{xs:List Value}(h:w.ownsRow base e size v n xs) (hb:Below w.heap.size w w'):w'.ownsRow base e size v n xs:=by
 refine⟨h.1,?_⟩;rcases h.2 with h2 | ⟨g,cap,cur,hv,hg,hh,hr⟩
 · exact .inl h2
 · exact .inr ⟨g,cap,cur,hv,hg,(hb.block g (Array.getElem?_eq_some_iff.1 hh).1).trans hh,hr⟩
theorem dc_lit(w:World) (d:Dc):RdD (w.alloc (.cells (dcA d) 58)) (some ⟨w.heap.size,0,none⟩) 1 [d]:=by
 refine⟨rfl,by omega,fun _=>⟨w.heap.size,0,rfl,by simp,fun i hi=>?_⟩⟩;obtain rfl:i=0:=by omega
 intro j v hv;rw [show 0+0*6+j=j by omega,World.cell?_alloc_new];have:(dcL d)[j]?=some v:=by simpa using hv
 rw [← this]
 show(dcL d).toArray[j]?=_
 simp
theorem pgClock(x:Nd) (A1:Option Addr) (c1:Nat) (A2:Option Addr) (c2:Nat) (A3:Option Addr) (c3:Nat) (A4:Option Addr) (c4:Nat) (s:ByteArray) (w:World) (h:rdN w x A1 A2 A3 A4):
 Calls Try.prog 41 #[.agg (ndA x A1 c1 A2 c2 A3 c3 A4 c4),.string s] w (ClockPost w (clockO x s)):=by
 have HF:=Hd fun w1 hw=>nd_facts w x A1 c1 A2 c2 A3 c3 A4 c4 w1 hw h;have HDC:=Hd fun t w1 (hw:rdN w1 x A1 A2 A3 A4)=>pgDecl x A1 c1 A2 c2 A3 c3 A4 c4 t w1 hw;obtain⟨i0,z0,hi,hz1,hz0,hz2,hz3⟩:=info_three infoDecl;have HOUT:=Hd (show clockR x 13 s []=clockO x s from rfl);unfold ndA at HDC ⊢;generalize clockO x s=out at *
 go_enter Try.func41,Try.ntmps41
 go_upto_region 1 with(fail)
 generalize hw1:w.alloc _=w1;obtain⟨hb1,hg,hR1,hcell⟩:=HF.out w1 hw1;have HB1:=Hd hb1;have HC:=Hd hcell;have HR1:=Hd hR1;have HOWN:=Hd (show w1.ownsRow w1.heap.size 58 6 (.slice none 0 0) 0 (flD []) from⟨rfl,.inl ⟨rfl,rfl⟩⟩);simp only [ndA] at HC;clear hw1 hcell hb1 HF h hR1
 go_wp2_with fail
 go_loopw [1,6] (fun nm v wr=>∃ (k:Nat) (t:ByteArray) (row:List Dc),k≤12∧nm=.string t∧row.length=k∧wr.ownsRow w1.heap.size 58 6 v k (flD row)∧clockR x (13-k) t row.reverse=out∧Below w1.heap.size w1 wr) (fun _ v _=>13-lenV v)
 case atStart=>exact⟨0,s,[],by omega,rfl,rfl,HOWN.out,HOUT.out,Below.refl _ _⟩
 case round=>
  obtain⟨k,t,row,hk,rfl,hrl,hown,hcl,hnx⟩:=hrel;obtain⟨A0,c0,rfl,-⟩:=RdD.of_own hown (by omega);have HNX:=Hd hnx;have HCL:=Hd hcl;have HRL:=Hd hrl;have HOW:=Hd hown;have hz:=hnx.size;rw [hg] at hz;obtain⟨q0,q1,q2,q3,q4,-⟩:=Sx (HC.out wr hnx);simp only [Ya,Yb,Yc] at q0 q1 q2 q3 q4;have HD:=Hd (HDC.out t wr (HR1.out.below hnx));rw [show 13-k=(12-k)+1 by omega,clockR_succ] at HCL;clear hcl hnx hrl hown
  cases hd:declO x t with
  | none=>
   rw [hd] at HD HCL;have HO:=Hd (show none=out from HCL.out)
   go_wp2_with fail
   refine HD.out.mono ?_;rintro e w2 ⟨rfl,hb2⟩;have HN3:=Hd (show RowD (w2.alloc (.cells (dcA default) 58)) w2.heap.size default from heap_alloc_new _ _);have HB2:=Hd (HNX.out.trans (hb2.mono HNX.out.size));have HB3:=Hd (below_setRow ((HB2.out).alloc HB2.out.size (.cells (dcA default) 58)) (g:=w2.heap.size) HB2.out.size (dcA default));unfold declV dcA;unfold dcA at HN3 HB3;simp only [Option.getD_none,Option.isSome_none];clear q0 q1 q2 q3 q4
   go_upto_region 3 with(refine wpList_store_row rfl _ _ _ rfl w2.heap.size _ rfl rfl _ _ HN3.out dcinfo rfl (by simp [Value.oneCell']) ?_)
   go_wp2_with fail
   refine bodyPost_ret (results_tmp2 rfl _ _ _) rfl ?_;refine⟨HB1.out.trans (HB3.out.mono (by omega)),?_⟩;rw [← HO.out];rfl
  | some d=>
   rw [hd] at HD HCL;have HCL:=Hd (show(if noB d.on then some row.reverse else clockR x (12-k) d.on (d::row.reverse))=out from HCL.out)
   go_wp2_with fail
   refine HD.out.mono ?_;rintro e w2 ⟨rfl,hb2⟩;have HN3:=Hd (show RowD (w2.alloc (.cells (dcA default) 58)) w2.heap.size default from heap_alloc_new _ _);have HB2:=Hd (HNX.out.trans (hb2.mono HNX.out.size));have hB3:=below_setRow ((HB2.out).alloc HB2.out.size (.cells (dcA default) 58)) (g:=w2.heap.size) HB2.out.size (dcA d);have hN4:=HN3.out.set d;have hW4:=below_setRow ((Below.refl w2.heap.size w2).alloc (Nat.le_refl _) (.cells (dcA default) 58)) (g:=w2.heap.size) (Nat.le_refl _) (dcA d);have HZ2:=Hd hb2.size;have hWo:=hb2.trans (hW4.mono hb2.size);have HRS:=Hd fun w4 (hw:(w2.alloc (.cells (dcA default) 58)).setRow w2.heap.size (dcA d)=w4)=>(show RowD w4 w2.heap.size d∧Below w1.heap.size w1 w4∧Below wr.heap.size wr w4 by subst hw;exact⟨hN4,hB3,hWo⟩);unfold declV dcA;unfold dcA at HN3;simp only [Option.getD_some,Option.isSome_some];clear q0 q1 q2 q3 q4 hB3 hN4 hW4 hWo hb2
   go_upto_region 3 with(refine wpList_store_row rfl _ _ _ rfl w2.heap.size _ rfl rfl _ _ HN3.out dcinfo rfl (by simp [Value.oneCell']) ?_)
   generalize hw4:World.setRow _ _ _=w4;obtain⟨hN4,hB4,hWR4⟩:=HRS.out w4 hw4;have HN4:=Hd hN4;have HB4:=Hd hB4;have HOW4:=Hd (own_below HOW.out hWR4);have HGB:=Hd (show wr.heap.size≤w2.heap.size∧w2.heap.size<w4.heap.size from⟨HZ2.out,(Array.getElem?_eq_some_iff.1 hN4).1⟩);generalize w2.heap.size=gb at *;obtain⟨r0,r1,r2,r3,r4,r5⟩:=Sx hN4.cells;simp only [dcA,List.getElem?_toArray,List.getElem?_cons_zero,List.getElem?_cons_succ] at r0 r1 r2 r3 r4 r5;clear hw4 HRS hN4 hB4 hWR4 HN3
   cases h1:(d.on.toList==[]) with
   | true=>
    have HO:=Hd (show some row.reverse=out by have h:=HCL.out;rwa [show noB d.on=true by rw [Lib.toList_data] at h1;exact h1,if_pos rfl] at h);have HRV:=Hd (slRevD w1.heap.size k _ row w4 HOW4.out (by omega))
    go_wp2_with fail
    refine HRV.out.mono ?_;rintro e w5 ⟨rfl,hb5,A,c,he,hrd⟩;injection he with hA _ hc;subst hA;subst hc;have HRD:=Hd hrd;have HB5:=Hd (HB4.out.trans hb5);clear hrd hb5
    go_wp2_with fail
    refine bodyPost_ret (results_tmp2 rfl _ _ _) rfl ?_;refine⟨HB1.out.trans (HB5.out.mono (by omega)),?_⟩;rw [← HO.out];exact⟨A0,c0,by rw [List.length_reverse,HRL.out];rfl,by rw [List.length_reverse,HRL.out];exact HRD.out⟩
   | false=>
    have HO:=Hd (show clockR x (12-k) d.on (d::row.reverse)=out by have h:=HCL.out;rwa [show noB d.on=false by rw [Lib.toList_data] at h1;exact h1,if_neg (by simp)] at h)
    by_cases h12:k=12
    · have HO:=Hd (show none=out by have h:=HO.out;rwa [show 12-k=0 by omega] at h);have k12:((k:Int)==12)=true:=by rw [beq_iff_eq];omega
      clear h12
      go_wp2_with fail
      refine bodyPost_ret (results_tmp2 rfl _ _ _) rfl ?_;refine⟨HB1.out.trans (HB4.out.mono (by omega)),?_⟩;rw [← HO.out];rfl
    · have HK:=Hd (show k<12 by omega);have k12:((k:Int)==12)=false:=by rw [beq_eq_false_iff_ne];omega
      have HO:=Hd (show clockR x (13-(k+1)) d.on (row++[d]).reverse=out by have h:=HO.out;rwa [List.reverse_append,show 13-(k+1)=12-k by omega]);have HLIT:=Hd (dc_lit w4 d);have HAL:=Hd ((Below.refl w4.heap.size w4).alloc (Nat.le_refl _) (.cells (dcA d) 58));have HOW5:=Hd (own_below HOW4.out HAL.out);have HB5:=Hd (HB4.out.trans (HAL.out.mono HB4.out.size));have H4:=Hd ((HAL.out.cell (p:=⟨gb,4,none⟩) HGB.out.2).trans r4);have HLT5:=Hd (show gb<(w4.alloc (.cells (dcA d) 58)).heap.size by rw [World.size_alloc];exact Nat.lt_succ_of_lt HGB.out.2)
      have HNE:=Hd (show(some gb:Option Nat)≠(Value.slice A0 k c0).ownBlock from fun e=>by
       have h1:=(HOW.out.lt gb e.symm).2;have h2:=HGB.out.1;omega)
      unfold dcA at HLIT HAL HOW5 HB5 H4 HLT5;clear h12
      go_wp2_with (at_builtin;refine wpList_append_dc rfl _ _ 45 rfl w1.heap.size 58 i0 z0 72 Try.underlying45 hi hz1 hz0 hz2 hz3 _ k row rfl HOW5.out _ 1 1 [d] rfl HLIT.out (by unfold maxLen;omega) (by omega) HB5.out.size ?_;intro v' w5 hown' hgrow;have hB6:=HB5.out.grown hgrow HB5.out.size (fun j hj=>(HOW5.out.lt j hj).1);have HO6:=Hd hown';have HB6:=Hd hB6;have s4:=(World.cell?_of_block (a:=⟨gb,4,none⟩) (hgrow.block gb (HLT5.out) (HNE.out))).trans H4.out;clear hown' hgrow hB6)
      have hO6:=HO6.out;obtain⟨A9,c9,e9,-⟩:=RdD.of_own hO6 (by omega);subst e9;have HO6:=Hd hO6;clear hO6
      go_wp2_with fail
      go_roundw
      case rel=>exact⟨k+1,d.on,row++[d],(by have:=HK.out;omega),rfl,by rw [List.length_append,HRL.out];rfl,HO6.out,HO.out,HB6.out⟩
      case measure=>have:=HK.out;simp only [lenV];omega
end
section
open Go.RowKit Go.Sort Go.BigFrame
theorem scArm(A:Option Addr) (n c:Nat) (es:List En) (s:ByteArray) (w:World) (hE:RdE w A n es):
 Calls Try.prog 58 #[.slice A n c,.string s] w fun e w'=>e=.returned (armW (armR es s))∧Below w.heap.size w w':=by
 have HC:=Hd fun w1 (hb:Below w.heap.size w w1)=>tyCtor A n c es s w1 (hE.below hb);have HA:=Hd (show armR es s=if(s.toList==[116,114,117,101])=true then some (2,0,1) else if(s.toList==[102,97,108,115,101])=true then some (2,0,0) else(findE es s).map fun p=>(3,(p.1:Int),(p.2.1:Int)) from rfl);generalize armR es s=ar at *;clear hE
 cases h1:(s.toList==[116,114,117,101]) with
 | true=>
  have HE:=Hd (show ar=some (2,0,1) by rw [HA.out,if_pos h1]);rw [HE.out]
  go_enter Try.func58,Try.ntmps58
  go_upto_region 1 with(fail)
  generalize hw0:w.alloc _=w0;obtain⟨hb0,hR,hg0⟩:=f3_box hw0;have HB0:=Hd hb0;have HR:=Hd hR;clear hb0 hR hw0
  go_wp2_with (refine wpList_store_row rfl _ _ _ rfl (w.heap.size) _ rfl rfl _ _ HR.out ty3_info rfl (by simp [Value.oneCell']) ?_)
  exact bodyPost_ret (res_ty3 (p:=4) (u:=5) (v:=6) rfl _ _ w.heap.size 2 0 0 rfl (HR.out.set 2 0 0)) rfl ⟨rfl,below_set3 HB0.out⟩
 | false=>
  cases h2:(s.toList==[102,97,108,115,101]) with
  | true=>
   have HE:=Hd (show ar=some (2,0,0) by rw [HA.out,if_neg (by rw [h1];simp),if_pos h2]);rw [HE.out]
   go_enter Try.func58,Try.ntmps58
   go_upto_region 1 with(fail)
   generalize hw0:w.alloc _=w0;obtain⟨hb0,hR,hg0⟩:=f3_box hw0;have HB0:=Hd hb0;have HR:=Hd hR;clear hb0 hR hw0
   go_wp2_with (refine wpList_store_row rfl _ _ _ rfl (w.heap.size) _ rfl rfl _ _ HR.out ty3_info rfl (by simp [Value.oneCell']) ?_)
   exact bodyPost_ret (res_ty3 (p:=4) (u:=5) (v:=6) rfl _ _ w.heap.size 2 0 0 rfl (HR.out.set 2 0 0)) rfl ⟨rfl,below_set3 HB0.out⟩
  | false=>
   have HE:=Hd (show ar=(findE es s).map fun p=>(3,(p.1:Int),(p.2.1:Int)) by rw [HA.out,if_neg (by rw [h1];simp),if_neg (by rw [h2];simp)]);unfold ctorV at HC;rw [HE.out];clear HA HE
   cases hf:findE es s with
   | none=>
    rw [hf] at HC;simp only [Option.map_none,Option.getD_none,Option.isSome_none] at HC
    go_enter Try.func58,Try.ntmps58
    go_upto_region 1 with(fail)
    generalize hw0:w.alloc _=w0;obtain⟨hb0,hR,hg0⟩:=f3_box hw0;have HB0:=Hd hb0;have HR:=Hd hR;clear hb0 hR hw0
    go_wp2_with fail
    refine(HC.out _ HB0.out).mono ?_;rintro e w1 ⟨rfl,hb1⟩;have HR1:=Hd (HR.out.below hb1);have HB1:=Hd (HB0.out.trans (hb1.mono HB0.out.size));clear hb1
    go_wp2_with (refine wpList_store_row rfl _ _ _ rfl (w.heap.size) _ rfl rfl _ _ HR1.out ty3_info rfl (by simp [Value.oneCell']) ?_)
    exact bodyPost_ret (res_ty3 (p:=4) (u:=5) (v:=6) rfl _ _ w.heap.size 0 0 0 rfl (HR1.out.set 0 0 0)) rfl ⟨rfl,below_set3 HB1.out⟩
   | some q=>
    rw [hf] at HC;simp only [Option.map_some,Option.getD_some,Option.isSome_some] at HC;rw [show(some q).map (fun p:Pl=>((3:Int),(p.1:Int),(p.2.1:Int)))=some (3,(q.1:Int),(q.2.1:Int)) from rfl];generalize q.1=qa at *;generalize q.2.1=qb at *
    go_enter Try.func58,Try.ntmps58
    go_upto_region 1 with(fail)
    generalize hw0:w.alloc _=w0;obtain⟨hb0,hR,hg0⟩:=f3_box hw0;have HB0:=Hd hb0;have HR:=Hd hR;clear hb0 hR hw0
    go_wp2_with fail
    refine(HC.out _ HB0.out).mono ?_;rintro e w1 ⟨rfl,hb1⟩;have HR1:=Hd (HR.out.below hb1);have HB1:=Hd (HB0.out.trans (hb1.mono HB0.out.size));clear hb1
    go_wp2_with (refine wpList_store_row rfl _ _ _ rfl (w.heap.size) _ rfl rfl _ _ HR1.out ty3_info rfl (by simp [Value.oneCell']) ?_)
    exact bodyPost_ret (res_ty3 (p:=4) (u:=5) (v:=6) rfl _ _ w.heap.size 3 qa 0 rfl (HR1.out.set 3 qa 0)) rfl ⟨rfl,below_set3 HB1.out⟩
end
section
open Go.RowKit Go.Sort Go.BigFrame
structure Km where
 E:Option Addr
 ec:Nat
 A1:Option Addr
 c1:Nat
 A2:Option Addr
 c2:Nat
 A3:Option Addr
 c3:Nat
 A4:Option Addr
 c4:Nat
def kmA(es:List En) (x:Nd) (r:Km):Array Value:=#[.slice r.E es.length r.ec,.string x.nm,.slice r.A1 x.ins.length r.c1,.slice r.A2 x.outs.length r.c2,.slice r.A3 x.vars.length r.c3,.slice r.A4 x.eqs.length r.c4]
def rdKm(w:World) (es:List En) (x:Nd) (r:Km):Prop:=RdE w r.E es.length es∧rdN w x r.A1 r.A2 r.A3 r.A4
theorem rdKm.below{w w':World}{es:List En}{x:Nd}{r:Km}(h:rdKm w es x r) (hb:Below w.heap.size w w'):rdKm w' es x r:=⟨h.1.below hb,h.2.below hb⟩
def RowC2(w:World) (g:Nat) (d:Cd):Prop:=w.heap[g]?=some (Obj.cells (cdA d) 60)
theorem cdinfo:(Try.prog.info? 60).map (·.size)=some 2:=by kernel_rfl
theorem res_cd2{fn:Func}{p u:Tmp}(h:fn.results=#[.cell p 60,.tmp u]) (tmps:Array Value) (w:World) (g:Nat){d:Cd}
 (hp:tmps.getD p undef=.pointer (some ⟨g,0,none⟩)) (hg:RowC2 w g d):(results fn tmps).run Try.prog w=.ok (.tuple #[.agg (cdA d),tmps.getD u undef]) w:=by
 rw [results_cell_tmp h,hp];have hl:=run_loadVar_row (P:=Try.prog) w g 60 60 _ _ _ hg Try.underlying60 rfl cdinfo
 simp [asAddr,Result.andThen,hl]
theorem RowC2.below{w w':World}{g:Nat}{d:Cd}(h:RowC2 w g d) (hb:Below w.heap.size w w'):RowC2 w' g d:=(hb.block g (Array.getElem?_eq_some_iff.1 h).1).trans h
theorem RowC2.set{w:World}{g:Nat}{d:Cd}(h:RowC2 w g d) (d':Cd):RowC2 (w.setRow g (cdA d')) g d':=setRow_heap _ _ _ _ _ _ h
theorem RowC2.cells{w:World}{g:Nat}{d:Cd}(h:RowC2 w g d) (j:Nat):w.cell? ⟨g,j,none⟩=(cdA d)[j]?:=by
 unfold World.cell?;rw [show w.heap[(⟨g,j,none⟩:Addr).block]?=_ from h];rfl
def condV(es:List En) (s t:ByteArray):Value:=.tuple #[.agg (cdA ⟨s,((armR es t).map (·.2.2)).getD 0⟩),.bool (armR es t).isSome]
theorem clCond(es:List En) (x:Nd) (r:Km) (s t:ByteArray) (w:World) (h:RdE w r.E es.length es):
 Calls Try.prog 42 #[.agg (kmA es x r),.string s,.string t] w fun e w'=>e=.returned (condV es s t)∧Below w.heap.size w w':=by
 have HF:=Hd fun w0 hw=>cl_box2 (w:=w) (w1:=w0) (cs:=kmA es x r) (ds:=cdA ⟨⟨#[]⟩,0⟩) (T:=62) (U:=60) hw
 have HN:=Hd fun w0 (hw:(w.alloc (.cells (kmA es x r) 62)).alloc (.cells (cdA ⟨⟨#[]⟩,0⟩) 60)=w0)=>(show RowC2 w0 (w.heap.size+1) ⟨⟨#[]⟩,0⟩ by
  subst hw;have:=heap_alloc_new (w.alloc (.cells (kmA es x r) 62)) (.cells (cdA ⟨⟨#[]⟩,0⟩) 60);unfold RowC2;rwa [World.size_alloc] at this)
 have HAR:=Hd fun w1 (hb:Below w.heap.size w w1)=>scArm r.E es.length r.ec es t w1 (h.below hb);clear h;unfold condV;unfold armW f3A at HAR;generalize ((armR es t).map (·.1)).getD 0=oa at *;generalize ((armR es t).map (·.2.1)).getD 0=ob at *;generalize ((armR es t).map (·.2.2)).getD 0=ov at *;generalize (armR es t).isSome=os at *;unfold kmA at *;unfold cdA at HF HN ⊢;generalize es.length=pe at *
 go_enter Try.func42,Try.ntmps42
 go_upto_region 1 with(fail)
 generalize hw0:(w.alloc _).alloc _=w0;obtain⟨hb0,hsz,hp,-⟩:=HF.out w0 hw0;have HN0:=Hd (HN.out w0 hw0);have HB0:=Hd hb0;have p0:=hp w0 (Below.refl _ _) 0;simp only [Ya,Yb,Yc] at p0;have HA0:=Hd (HAR.out w0 hb0);clear hw0 hb0 hsz hp HF HN HAR
 go_wp2_with fail
 refine HA0.out.mono ?_;rintro e w1 ⟨rfl,hb1⟩;have HB1:=Hd (below_nextC HB0.out hb1);have HN1:=Hd (HN0.out.below hb1);clear hb1 p0 HA0 HN0
 go_upto_region 2 with(fail)
 generalize hw2:w1.alloc _=w2;obtain⟨hb2,hg2,hk2⟩:=cl_box hw2;have HB2:=Hd (below_nextC HB1.out hb2);have HN2:=Hd (HN1.out.below hb2);clear hw2 hb2 hg2 hk2 HN1;have HSET:=Hd (HN2.out.set ⟨s,ov⟩);have HBS:=Hd (below_setRow HB2.out (g:=w.heap.size+1) (by omega) (cdA ⟨s,ov⟩));unfold cdA at HSET HBS
 go_wp2_with (refine wpList_store_row rfl _ _ _ rfl (w.heap.size+1) _ rfl rfl _ _ HN2.out cdinfo rfl (by simp [Value.oneCell']) ?_)
 exact bodyPost_ret (res_cd2 (d:=⟨s,ov⟩) (p:=6) (u:=7) rfl _ _ (w.heap.size+1) rfl HSET.out) rfl ⟨rfl,HBS.out⟩
def RowPostP(w:World) (o:Option (List Cd)) (e:Ending) (w':World):Prop:=
 Below w.heap.size w w'∧match o with
  | none=>e=.returned (.tuple #[.slice none 0 0,.bool false])
  | some l=>∃ A c,e=.returned (.tuple #[.slice A l.length c,.bool true])∧RdC w' A l.length l∧l.length≤c
theorem clRow(es:List En) (x:Nd) (r:Km) (s:ByteArray) (w:World) (h:rdKm w es x r):
 Calls Try.prog 24 #[.agg (kmA es x r),.string s] w (RowPostP w (rowC es x s)):=by
 have HF:=Hd fun w0 hw=>cl_box (w:=w) (w1:=w0) (cs:=kmA es x r) (T:=62) hw;have HCL:=Hd fun w1 (hb:Below w.heap.size w w1)=>pgClock x r.A1 r.c1 r.A2 r.c2 r.A3 r.c3 r.A4 r.c4 s w1 (h.2.below hb);have HCO:=Hd fun a t w1 (hb:Below w.heap.size w w1)=>clCond es x r a t w1 (h.1.below hb);have HROW:=Hd (show rowC es x s=(clockO x s).bind (condsR es) from rfl);have H12:=Hd (show ∀ l,clockO x s=some l→l.length≤1000 from fun l hl=>clock_len hl);obtain⟨i0,z0,hi0,hz1,hz0,hz2,hz3⟩:=info_three infoCond;clear h;unfold condV cdA at HCO;unfold ClockPost ndA at HCL;generalize rowC es x s=out at *;generalize clockO x s=oc at *;unfold kmA at *;generalize es.length=pe at *
 go_enter Try.func24,Try.ntmps24
 go_upto_region 1 with(fail)
 generalize hw0:w.alloc _=w0;obtain⟨hb0,hsz,hp⟩:=HF.out w0 hw0;have HB0:=Hd hb0;have HP:=Hd hp;obtain⟨-,p1,p2,p3,p4,p5⟩:=Sx (hp w0 (Below.refl _ _));simp only [Ya,Yb,Yc] at p1 p2 p3 p4 p5;have HC0:=Hd (HCL.out w0 hb0);clear hw0 hb0 hsz hp HF HCL
 go_wp2_with fail
 refine HC0.out.mono ?_;rintro e w1 ⟨hb1,hpost⟩;have HB1:=Hd (below_nextC HB0.out hb1);have HP1:=Hd fun W (b:Below w1.heap.size w1 W) j=>HP.out W (below_nextC hb1 b) j;clear HC0 p1 p2 p3 p4 p5 hb1 HP
 cases hoc:oc with
 | none=>
  rw [hoc] at hpost;subst hpost;have HO:=Hd (show out=none by rw [HROW.out,hoc];rfl)
  go_wp2_with fail
  refine bodyPost_ret (results_tmp2 rfl _ _ _) rfl ?_;rw [HO.out];exact⟨HB1.out,rfl⟩
 | some l=>
  rw [hoc] at hpost;obtain⟨L,lc,rfl,hrl⟩:=hpost;have HRL:=Hd hrl;have HOO:=Hd (show out=condsR es l by rw [HROW.out,hoc];rfl);have HLN:=Hd (H12.out l hoc);have hlx:=RdS.max hrl;clear hrl hoc;generalize hm:l.length=m at *;have HML:=Hd hm;clear hm;have HOW:=Hd (show w1.ownsRow w1.heap.size 60 2 (.slice none 0 0) 0 (flC []) from World.ownsRow_nil _ _ _ _)
  go_wp2_with fail
  go_loopw [8,24] (fun v i wr=>∃ (k:Nat) (cs:List Cd),k≤m∧i=.int .i64 k∧condsR es (l.take k)=some cs∧wr.ownsRow w1.heap.size 60 2 v k (flC cs)∧Below w1.heap.size w1 wr) (fun _ i _=>m-(intOf i).toNat)
  case atStart=>exact⟨0,[],Nat.zero_le _,rfl,rfl,HOW.out,Below.refl _ _⟩
  case round=>
   obtain⟨k,cs,hk,rfl,hseq,hown,hbr⟩:=hrel;have HSQ:=Hd hseq;have HOWN:=Hd hown;have HBR:=Hd hbr;have HBW:=Hd (below_nextC HB1.out hbr);clear hseq hown HOW
   by_cases hlt:k<m
   · obtain⟨b,off,rfl,hb,e0,e1,e2,e3,e4,e5⟩:=dc_atC (HRL.out.below hbr) hlt;have HNK:=Hd fun hc=>condsR_no (es:=es) (l:=l) (k:=k) (by rw [HML.out];exact hlt) hc;have HSK:=Hd fun c hc=>condsR_take (es:=es) (l:=l) (k:=k) (c:=c) (by rw [HML.out];exact hlt) HSQ.out hc;have HCR:=Hd (show condR es (l[k]?.getD default)=(armR es (l[k]?.getD default).ct).map fun r=>⟨(l[k]?.getD default).on,r.2.2⟩ from rfl);generalize hdd:l[k]?.getD default=d at *;clear hdd;have HCK:=Hd fun w1 (hb:Below w.heap.size w w1)=>HCO.out d.on d.ct w1 hb;obtain⟨dnm,dk,de,dl,don,dct⟩:=d
     dsimp only at e0 e1 e2 e3 e4 e5
     have HCK:=Hd fun w1 (hb:Below w.heap.size w w1)=>HCO.out don dct w1 hb;have HCR:=Hd (show condR es ⟨dnm,dk,de,dl,don,dct⟩=(armR es dct).map fun r=>⟨don,r.2.2⟩ from HCR.out);generalize ho:armR es dct=o at *;generalize hov:(o.map (·.2.2)).getD 0=ov at *;generalize hos:o.isSome=os at *;have HCV:=Hd (show o.map (fun r=>(⟨don,r.2.2⟩:Cd))=if os=true then some ⟨don,ov⟩ else none by subst hos hov;cases o <;> rfl);clear ho hov hos
     go_upto_region 8 with(fail)
     generalize hw4:wr.alloc _=w4;obtain⟨hb4,hg4,hk4⟩:=cl_box hw4;have HB4:=Hd (below_nextC HBW.out hb4);have HL4:=Hd (below_nextC HBR.out hb4);have HOW4:=Hd (own_belowC HOWN.out hb4);have e2:=hk4 w4 (Below.refl _ _) 2;have f4:=hk4 w4 (Below.refl _ _) 4;have f5:=hk4 w4 (Below.refl _ _) 5;obtain⟨p0,p1,p2,p3,p4,p5⟩:=Sx (HP1.out w4 HL4.out);simp only [Ya,Yb,Yc] at f4 f5 p0 p1 p2 p3 p4 p5;have HC4:=Hd (HCK.out w4 HB4.out);clear hw4 hb4 hg4 hk4 e0 e1 e2 e3 e4 e5 hbr
     go_wp2_with fail
     refine HC4.out.mono ?_;rintro e w5 ⟨rfl,hb5⟩;have HL5:=Hd (below_nextC HL4.out hb5);have HOW5:=Hd (own_belowC HOW4.out hb5);clear hb5 HC4 f4 f5 p0 p1 p2 p3 p4 p5
     go_upto_region 9 with(fail)
     generalize hw6:w5.alloc _=w6;obtain⟨hb6,hg6,hk6⟩:=cl_box hw6;have HL6:=Hd (below_nextC HL5.out hb6);have HOW6:=Hd (own_belowC HOW5.out hb6);have g0:=hk6 w6 (Below.refl _ _) 0;have g1:=hk6 w6 (Below.refl _ _) 1;simp only [Ya,Yb,Yc] at g0 g1;clear hw6 hb6 hg6 hk6
     cases os with
     | false=>
      have HO:=Hd (show out=none by rw [HOO.out];exact HNK.out (by rw [HCR.out,HCV.out];rfl))
      go_wp2_with fail
      refine bodyPost_ret (results_tmp2 rfl _ _ _) rfl ?_;rw [HO.out];exact⟨below_nextC HB1.out HL6.out,rfl⟩
     | true=>
      have HSY:=Hd (HSK.out ⟨don,ov⟩ (by rw [HCR.out,HCV.out];rfl));have HLIT:=Hd (cd_lit w6 ⟨don,ov⟩);have HAL:=Hd ((Below.refl w6.heap.size w6).alloc (Nat.le_refl _) (.cells (cdA ⟨don,ov⟩) 60));have HOW7:=Hd (own_belowC HOW6.out HAL.out);have HB7:=Hd (below_nextC HL6.out HAL.out);unfold cdA at HLIT HAL HOW7 HB7;have hkm:k≤1000:=by have:=HLN.out;omega
      go_wp2_with (at_builtin;refine wpList_append_cd rfl _ _ 30 rfl w1.heap.size 60 i0 z0 24 Try.underlying30 hi0 hz1 hz0 hz2 hz3 _ k cs rfl HOW7.out _ 1 1 [⟨don,ov⟩] rfl HLIT.out (by unfold maxLen;omega) (by omega) HB7.out.size ?_;intro v' w9 hown' hgrow;have HO9:=Hd hown';have HB9:=Hd (HB7.out.grown hgrow HB7.out.size (fun j hj=>(HOW7.out.lt j hj).1));clear hown' hgrow)
      go_roundw
      case rel=>exact⟨k+1,cs++[⟨don,ov⟩],by omega,by go_num,HSY.out,HO9.out,HB9.out⟩
      case measure=>simp [intOf];omega
   · obtain rfl:k=m:=by omega
     have HO:=Hd (show out=some cs by rw [HOO.out,← HSQ.out,List.take_of_length_le (by rw [HML.out];exact Nat.le_refl _)]);have hcl:=condsR_len HSQ.out;rw [List.length_take,HML.out,Nat.min_self] at hcl;obtain⟨S,c,rfl,hry,hcc⟩:=RdC.of_ownC HOWN.out (by omega);have HRY:=Hd hry;have HCC:=Hd hcc;have HCLN:=Hd hcl;clear hry hcl hcc
     go_wp2_with fail
     refine bodyPost_ret (results_tmp2 rfl _ _ _) rfl ?_;rw [HO.out];exact⟨HBW.out,S,c,by rw [HCLN.out];rfl,by rw [HCLN.out];exact HRY.out,by rw [HCLN.out];exact HCC.out⟩
theorem clHas(es:List En) (x:Nd) (r:Km) (s:ByteArray) (On:Option Addr) (n oc:Nat) (on:List Cd) (w:World) (h:rdKm w es x r) (ho:RdC w On n on):
 Calls Try.prog 45 #[.agg (kmA es x r),.string s,.slice On n oc] w fun e w'=>e=.returned (.bool (hasC es x s on))∧Below w.heap.size w w':=by
 have HF:=Hd fun w0 hw=>cl_box (w:=w) (w1:=w0) (cs:=kmA es x r) (T:=62) hw;have HRW:=Hd fun w1 (hb:Below w.heap.size w w1)=>clRow es x r s w1 (h.below hb);have HON:=Hd ho;have HC:=Hd (show hasC es x s on=(match rowC es x s with | none=>false | some r=>sameC r on) from rfl);have hox:=RdS.max ho;clear h ho;unfold RowPostP at HRW;generalize hasC es x s on=out at *;generalize rowC es x s=orow at *;unfold kmA at *;generalize es.length=pe at *
 go_enter Try.func45,Try.ntmps45
 go_upto_region 1 with(fail)
 generalize hw0:w.alloc _=w0;obtain⟨hb0,hsz,hp⟩:=HF.out w0 hw0;have HB0:=Hd hb0;obtain⟨p0,p1,p2,p3,p4,p5⟩:=Sx (hp w0 (Below.refl _ _));simp only [Ya,Yb,Yc] at p0 p1 p2 p3 p4 p5;have HR0:=Hd (HRW.out w0 hb0);clear hw0 hb0 hsz hp HF HRW
 go_wp2_with fail
 refine HR0.out.mono ?_;rintro e w1 ⟨hb1,hpost⟩;have HB1:=Hd (below_nextC HB0.out hb1);clear HR0 p0 p1 p2 p3 p4 p5 hb1
 cases hor:orow with
 | none=>
  rw [hor] at hpost HC;subst hpost;have HO:=Hd (show out=false from HC.out)
  go_wp2_with fail
  go_ret
  exact⟨ret_boolC HO.out.symm,HB1.out⟩
 | some row=>
  rw [hor] at hpost HC;obtain⟨R,rc,rfl,hrr,-⟩:=hpost;have HSM:=Hd (slEqualC R row.length rc row On n oc on w1 hrr (HON.out.below HB1.out));have HO:=Hd (show out=sameC row on from HC.out);clear HC hrr hor;generalize sameC row on=sm at *;generalize row.length=m at *
  go_wp2_with fail
  refine HSM.out.mono ?_;rintro e w2 ⟨rfl,hb2⟩;have HB2:=Hd (below_nextC HB1.out hb2);clear hb2 HSM
  go_wp2_with fail
  go_ret
  exact⟨ret_boolC HO.out.symm,HB2.out⟩
end
end Go.Proofs.Ytkbpdoomhfkngaa
