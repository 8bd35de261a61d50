/- Parts of the proof: ClE. Conditions: each theorem's own. -/
import Derived.Deep.RegionHeld
import Derived.Test.YtkbpdoomhfkngaaF11
namespace Go.Proofs.Ytkbpdoomhfkngaa
set_option linter.unusedVariables false
set_option linter.unusedSimpArgs false
set_option maxRecDepth 100000
set_option maxHeartbeats 40000000
section
open Go.RowKit Go.Sort Go.BigFrame
theorem row_len{es:List En}{n:Nd}{s:ByteArray}{row:List Cd}(h:rowC es n s=some row):row.length≤1000:=by
 unfold rowC at h;obtain⟨l,hl,hc⟩:=Option.bind_eq_some_iff.1 h;rw [condsR_len hc];exact clock_len hl
theorem whenC_eq(es:List En) (n:Nd) (x:Ex) (fs:List Ft) (on:List Cd):whenC es n x fs on=match rowC es n x.s with
 | none=>false
 | some row=>match armR es (x.arms[0]?.getD ByteArray.empty) with
  | none=>false
  | some r=>decide (x.arms.length=1) && decide (x.subs.length=1) && (sameC on (row++[⟨x.s,r.2.2⟩]) && fitAt fs 0 row):=rfl
theorem RdT.cellC{w:World}{A:Option Addr}{n k:Nat}{l:List ByteArray}(h:RdT w A n l) (hk:k<n):∃ b off,A=some ⟨b,off,none⟩∧b<w.heap.size∧w.cell? ⟨b,off+k,none⟩=some (.string (l[k]?.getD ByteArray.empty)):=by
 obtain⟨b,off,e,hb,hc⟩:=h.at_ hk;exact⟨b,off,e,hb,hc k hk⟩
theorem refWhen17(p:Pg) (E:Option Addr) (ec:Nat) (N:Option Addr) (nc:Nat) (i:Nat) (x:Ex) (A:Option Addr) (ca:Nat) (B:Option Addr) (cb:Nat) (On:Option Addr) (n oc:Nat) (on:List Cd) (w:World) (h:rdP w p E N) (hx:rdX w x A B) (ho:RdC w On n on)
 (hi:i<p.ns.length) (hn:(ndAt p i).all.length≤1000) (fs:List Ft)
 (hsub:0<x.subs.length→∀ A' ca' B' cb' R m cr row w1,Below w.heap.size w w1→rdX w1 (subX x 0) A' B'→RdC w1 R m row→m≤1000 →
  Calls Try.prog 13 #[.agg (pgA p E ec N nc),.int .i64 i,.agg (exA (subX x 0) A' ca' B' cb'),.slice R m cr] w1 fun e w'=>e=.returned (.bool (fitAt fs 0 row))∧Below w1.heap.size w1 w'):
 Calls Try.prog 28 #[.agg (pgA p E ec N nc),.int .i64 i,.agg (exA x A ca B cb),.slice On n oc] w fun e w'=>e=.returned (.bool (whenC p.es (ndAt p i) x fs on))∧Below w.heap.size w w':=by
 have HF:=Hd fun w0 hw=>cl_box2 (w:=w) (w1:=w0) (cs:=pgA p E ec N nc) (ds:=exA x A ca B cb) (T:=25) (U:=29) hw;have HRW:=Hd fun w1 (hb:Below w.heap.size w w1)=>refRowIn p E ec N nc i x.s w1 (h.below hb) hi hn;have HAR:=Hd fun t w1 (hb:Below w.heap.size w w1)=>refArm15 E p.es.length ec p.es t w1 (h.below hb).1;have HON:=Hd ho;have HAT:=Hd hx.arms;have HSB:=Hd fun k (hkk:k<x.subs.length)=>hx.sub hkk;have HSUB:=Hd hsub;have HAL:=Hd fun(h:x.arms.length=1)=>RdT.cellC (k:=0) hx.arms (by omega);have HC:=Hd (whenC_eq p.es (ndAt p i) x fs on);have HRL:=Hd (show ∀ row,rowC p.es (ndAt p i) x.s=some row→row.length≤1000 from fun row h=>row_len h);have hmx:=RdS.max h.2;have hox:=RdS.max ho;clear h hx ho hsub hn;unfold RowPost at HRW;unfold armW f3A at HAR;generalize whenC p.es (ndAt p i) x fs on=out at *;generalize rowC p.es (ndAt p i) x.s=orow at *;unfold pgA exA at *;generalize p.ns.length=pn at *;generalize hes:p.es=es at *;generalize es.length=pe at *;generalize hsl:x.subs.length=sl at *;generalize hal:x.arms.length=al at *
 go_enter Try.func28,Try.ntmps28
 go_upto_region 1 with(fail)
 generalize hw0:(w.alloc _).alloc _=w0;obtain⟨hb0,hsz,hp,hq⟩:=HF.out w0 hw0;have HB0:=Hd hb0;have HP:=Hd hp;have HX:=Hd hq;have p0:=hp w0 (Below.refl _ _) 0;have p1:=hp w0 (Below.refl _ _) 1;have q2:=hq w0 (Below.refl _ _) 2;simp only [Ya,Yb,Yc] at p0 p1 q2;have HR0:=Hd (HRW.out w0 hb0);clear hw0 hb0 hsz hp hq HF HRW
 go_wp2_with fail
 refine HR0.out.mono ?_;rintro e w1 ⟨hb1,hpost⟩;have HB1:=Hd (below_nextC HB0.out hb1);have HP1:=Hd fun W (b:Below w1.heap.size w1 W) j=>HP.out W (below_nextC hb1 b) j;have HX1:=Hd fun W (b:Below w1.heap.size w1 W) j=>HX.out W (below_nextC hb1 b) j;clear HR0 p0 p1 q2 hb1 HP HX
 cases hor:orow with
 | none=>
  rw [hor] at hpost HC;subst hpost;have HO:=Hd (show out=false from HC.out)
  go_wp2_with fail
  go_ret
  exact⟨ret_boolC HO.out.symm,HB1.out⟩
 | some row=>
  rw [hor] at hpost HC;obtain⟨R,rc,rfl,hrr⟩:=hpost;have HRR:=Hd hrr;have HRN:=Hd (HRL.out row hor);have hrm:=RdS.max hrr;clear hrr hor;generalize hm:row.length=m at *;have HML:=Hd hm;clear hm;have q4:=HX1.out w1 (Below.refl _ _) 4;have q5:=HX1.out w1 (Below.refl _ _) 5;simp only [Ya,Yb,Yc] at q4 q5
  by_cases ha1:al=1
  · by_cases hs1:sl=1
    · have na:((al:Int) != 1)=false:=by rw [ha1];rfl
      have ns:((sl:Int) != 1)=false:=by rw [hs1];rfl
      obtain⟨tb,tof,rfl,htb,t0⟩:=HAL.out ha1;have t0:=(HB1.out.cell (p:=⟨tb,tof,none⟩) htb).trans (by simpa using t0)
      have HCC:=Hd (show out=match armR es (x.arms[0]?.getD ByteArray.empty) with | none=>false | some r=>sameC on (row++[⟨x.s,r.2.2⟩]) && fitAt fs 0 row by
       rw [HC.out,decide_eq_true ha1,decide_eq_true hs1]
       cases armR es (x.arms[0]?.getD ByteArray.empty) <;> rfl)
      have HAK:=Hd fun w1 (hb:Below w.heap.size w w1)=>HAR.out (x.arms[0]?.getD ByteArray.empty) w1 hb;generalize x.arms[0]?.getD ByteArray.empty=dct at *;generalize ho:armR es dct=o at *;generalize hoa:(o.map (·.1)).getD 0=oa at *;generalize hob:(o.map (·.2.1)).getD 0=ob at *;generalize hov:(o.map (·.2.2)).getD 0=ov at *;generalize hos:o.isSome=os at *;have HCV:=Hd (show out=(os && (sameC on (row++[⟨x.s,ov⟩]) && fitAt fs 0 row)) by rw [HCC.out];subst hos hov;cases o <;> rfl);clear ho hoa hob hov hos HC HCC;have h0a:(0:Int)<(al:Int):=by omega
      have p0:=HP1.out w1 (Below.refl _ _) 0;simp only [Ya,Yb,Yc] at p0
      go_upto_region 4 with(fail)
      refine wp_region_mid (l:=[_,_,_,_,_,_,_,_,_,_,_,_,_,_,_]) 11 12 _ _ (d:=11) (tx:=44) (T:=56) (zc:=f3A 0 0 0) (by kernel_rfl) rfl rfl (by kernel_rfl) rfl (by simp) (fun a W=>by rfl) rfl (by kernel_rfl) ?_
      repeat
       first
       | refine fix_skipG rfl ?_
       | (apply fix_stepG rfl rfl (by simp)
          case h1=>
           intro wb hb;have hbb:=cls_below hb;have l0:=fun d os=>cell_regrown ((hbb.cell (World.block_lt_of_cell? _ _ p0)).trans p0) d os;have m4:=fun d os=>cell_regrown ((hbb.cell (World.block_lt_of_cell? _ _ q4)).trans q4) d os;have m5:=fun d os=>cell_regrown ((hbb.cell (World.block_lt_of_cell? _ _ t0)).trans t0) d os;have h3:=below_nextC HB1.out hbb;have cA:=fun d os=>Calls.regrown_of (HAK.out (grow (redrawn wb d) os) (h3.trans ((below_regrown wb d os).mono h3.size)));clear h3 hbb
           go_big_quiet_step (with_reducible exact cA _ _)
           refine wpQuiet_nil ?_;simp only [List.getElem?_toArray,List.getElem?_cons_succ,List.getElem?_cons_zero];exact rfl
          simp only [Act.put,Yd,Ye,Yf])
      refine⟨f3A oa ob 0,rfl,rfl,by simp [f3A,Value.oneCell'],fun W g hW hg hz=>?_⟩;have hbX:=cls_below hW;have HBX:=Hd (below_nextC HB1.out hbX);have HG:=Hd hg;have HRX:=Hd (HRR.out.below hbX);have HPX:=Hd fun W' (b:Below W.heap.size W W') j=>HP1.out W' (below_nextC hbX b) j;have HXX:=Hd fun W' (b:Below W.heap.size W W') j=>HX1.out W' (below_nextC hbX b) j;clear hW hg hz p0 q4 q5 t0 hbX
      show Exit.then _ _ .normal _ W
      simp only [Act.put,Yd,Ye,Yf]
      cases os with
      | false=>
       have HO:=Hd (show out=false from HCV.out)
       go_upto_region 5 with(fail)
       go_quiet (fail)
       go_wp2_with fail
       go_ret
       exact⟨ret_boolC HO.out.symm,below_drewN HBX.out _⟩
      | true=>
       obtain⟨sb,so,rfl,hsb,hsc⟩:=HSB.out 0 (by omega);obtain⟨A',ca',B',cb',hrg,hrd⟩:=hsc 0 (by omega);obtain⟨s0,s1,s2,s3,s4,s5⟩:=rangeAt_six (rangeAt_keep hrg hsb fun p hp=>HBX.out.cell hp);have HSX:=Hd hrd;have HWH:=Hd fun W' (hb:Below W.heap.size W W')=>refWhenC R m rc row x.s ov W' (HRX.out.below hb) (by have:=HRN.out;omega);have HFT:=Hd fun W' (hb:Below W.heap.size W W')=>HSUB.out (by omega) A' ca' B' cb' R m rc row W' (below_nextC HBX.out hb) (hrd.below (below_nextC HBX.out hb)) (HRX.out.below hb) HRN.out;have HLN:=Hd (show(row++[(⟨x.s,ov⟩:Cd)]).length=m+1 by rw [List.length_append,HML.out];rfl);have HSM:=Hd fun S c W' (hr:RdC W' S (m+1) (row++[⟨x.s,ov⟩])) (hb:Below W.heap.size W W')=>refSame17 On n oc on S (m+1) c (row++[⟨x.s,ov⟩]) W' (HON.out.below (below_nextC HBX.out hb)) hr;unfold CondsPost at HWH;rw [HLN.out] at HWH;have h0s:(0:Int)<(sl:Int):=by omega
       have p0:=HPX.out W (Below.refl _ _) 0;have p1:=HPX.out W (Below.refl _ _) 1;have q2:=HXX.out W (Below.refl _ _) 2;have q5:=HXX.out W (Below.refl _ _) 5;simp only [Ya,Yb,Yc] at p0 p1 q2 q5;simp only [Nat.zero_mul,Nat.add_zero] at s0 s1 s2 s3 s4 s5;clear hsc hrg hrd;generalize sameC on (row++[⟨x.s,ov⟩])=sm at *;generalize fitAt fs 0 row=ft at *;generalize row++[(⟨x.s,ov⟩:Cd)]=row2 at *;generalize x.s=xs at *;generalize hsx:subX x 0=y at *;clear hsx
       cases sm with
       | false=>
        have HO:=Hd (show out=false from HCV.out)
        go_upto_region 5 with(fail)
        refine wp_region_held_drew (S:=fun Wz=>Below W.heap.size W Wz) (by kernel_rfl) ?_ (fun hHeld=>?_)
        · exact(Below.refl W.heap.size W).drew
        refine wpAnyH_take (i:=0) (oi:=?oi1) (v:=?v1) ?h1x1 (by kernel_rfl) ?h3x1 (by kernel_rfl) ?h5x1 (Or.inl ⟨?h6x1,?h7x1⟩) hHeld ?h8x1
        case h1x1=>
         simp only [Ya,Yb,Yc];rfl
        case h3x1=>kernel_rfl
        case h5x1=>exact fun _ _ _ h=>h
        case h6x1=>rfl
        case h7x1=>
         intro Wz hSW;have p0:=(hSW.cell (World.block_lt_of_cell? _ _ p0)).trans p0;have p1:=(hSW.cell (World.block_lt_of_cell? _ _ p1)).trans p1;have q2:=(hSW.cell (World.block_lt_of_cell? _ _ q2)).trans q2;have q5:=(hSW.cell (World.block_lt_of_cell? _ _ q5)).trans q5;have s0:=(hSW.cell (World.block_lt_of_cell? _ _ s0)).trans s0;have s1:=(hSW.cell (World.block_lt_of_cell? _ _ s1)).trans s1;have s2:=(hSW.cell (World.block_lt_of_cell? _ _ s2)).trans s2;have s3:=(hSW.cell (World.block_lt_of_cell? _ _ s3)).trans s3;have s4:=(hSW.cell (World.block_lt_of_cell? _ _ s4)).trans s4;have s5:=(hSW.cell (World.block_lt_of_cell? _ _ s5)).trans s5
         first | (go_simp;done) | (go_simp;with_reducible rfl)
        (try simp only [Act.put,Yd,Ye,Yf])
        refine wpAnyH_take (i:=1) (oi:=?oi2) (v:=?v2) ?h1x2 (by kernel_rfl) ?h3x2 (by kernel_rfl) ?h5x2 (Or.inl ⟨?h6x2,?h7x2⟩) hHeld ?h8x2
        case h1x2=>
         simp only [Ya,Yb,Yc];rfl
        case h3x2=>kernel_rfl
        case h5x2=>exact fun _ _ _ h=>h
        case h6x2=>rfl
        case h7x2=>
         intro Wz hSW;have p0:=(hSW.cell (World.block_lt_of_cell? _ _ p0)).trans p0;have p1:=(hSW.cell (World.block_lt_of_cell? _ _ p1)).trans p1;have q2:=(hSW.cell (World.block_lt_of_cell? _ _ q2)).trans q2;have q5:=(hSW.cell (World.block_lt_of_cell? _ _ q5)).trans q5;have s0:=(hSW.cell (World.block_lt_of_cell? _ _ s0)).trans s0;have s1:=(hSW.cell (World.block_lt_of_cell? _ _ s1)).trans s1;have s2:=(hSW.cell (World.block_lt_of_cell? _ _ s2)).trans s2;have s3:=(hSW.cell (World.block_lt_of_cell? _ _ s3)).trans s3;have s4:=(hSW.cell (World.block_lt_of_cell? _ _ s4)).trans s4;have s5:=(hSW.cell (World.block_lt_of_cell? _ _ s5)).trans s5
         first | (go_simp;done) | (go_simp;with_reducible rfl)
        (try simp only [Act.put,Yd,Ye,Yf])
        refine wpAnyH_take (i:=2) (oi:=?oi3) (v:=?v3) ?h1x3 (by kernel_rfl) ?h3x3 (by kernel_rfl) ?h5x3 (Or.inl ⟨?h6x3,?h7x3⟩) hHeld ?h8x3
        case h1x3=>
         simp only [Ya,Yb,Yc];rfl
        case h3x3=>kernel_rfl
        case h5x3=>exact fun _ _ _ h=>h
        case h6x3=>rfl
        case h7x3=>
         intro Wz hSW;have p0:=(hSW.cell (World.block_lt_of_cell? _ _ p0)).trans p0;have p1:=(hSW.cell (World.block_lt_of_cell? _ _ p1)).trans p1;have q2:=(hSW.cell (World.block_lt_of_cell? _ _ q2)).trans q2;have q5:=(hSW.cell (World.block_lt_of_cell? _ _ q5)).trans q5;have s0:=(hSW.cell (World.block_lt_of_cell? _ _ s0)).trans s0;have s1:=(hSW.cell (World.block_lt_of_cell? _ _ s1)).trans s1;have s2:=(hSW.cell (World.block_lt_of_cell? _ _ s2)).trans s2;have s3:=(hSW.cell (World.block_lt_of_cell? _ _ s3)).trans s3;have s4:=(hSW.cell (World.block_lt_of_cell? _ _ s4)).trans s4;have s5:=(hSW.cell (World.block_lt_of_cell? _ _ s5)).trans s5
         first | (go_simp;done) | (go_simp;with_reducible rfl)
        (try simp only [Act.put,Yd,Ye,Yf])
        refine wpAnyH_take (i:=3) (oi:=?oi4) (v:=?v4) ?h1x4 (by kernel_rfl) ?h3x4 (by kernel_rfl) ?h5x4 (Or.inl ⟨?h6x4,?h7x4⟩) hHeld ?h8x4
        case h1x4=>
         simp only [Ya,Yb,Yc];rfl
        case h3x4=>kernel_rfl
        case h5x4=>exact fun _ _ _ h=>h
        case h6x4=>rfl
        case h7x4=>
         intro Wz hSW;have p0:=(hSW.cell (World.block_lt_of_cell? _ _ p0)).trans p0;have p1:=(hSW.cell (World.block_lt_of_cell? _ _ p1)).trans p1;have q2:=(hSW.cell (World.block_lt_of_cell? _ _ q2)).trans q2;have q5:=(hSW.cell (World.block_lt_of_cell? _ _ q5)).trans q5;have s0:=(hSW.cell (World.block_lt_of_cell? _ _ s0)).trans s0;have s1:=(hSW.cell (World.block_lt_of_cell? _ _ s1)).trans s1;have s2:=(hSW.cell (World.block_lt_of_cell? _ _ s2)).trans s2;have s3:=(hSW.cell (World.block_lt_of_cell? _ _ s3)).trans s3;have s4:=(hSW.cell (World.block_lt_of_cell? _ _ s4)).trans s4;have s5:=(hSW.cell (World.block_lt_of_cell? _ _ s5)).trans s5
         first | (go_simp;done) | (go_simp;with_reducible rfl)
        (try simp only [Act.put,Yd,Ye,Yf])
        refine wpAnyH_take (i:=4) (oi:=?oi5) (v:=?v5) ?h1x5 (by kernel_rfl) ?h3x5 (by kernel_rfl) ?h5x5 (Or.inl ⟨?h6x5,?h7x5⟩) hHeld ?h8x5
        case h1x5=>
         simp only [Ya,Yb,Yc];rfl
        case h3x5=>kernel_rfl
        case h5x5=>exact fun _ _ _ h=>h
        case h6x5=>rfl
        case h7x5=>
         intro Wz hSW;have p0:=(hSW.cell (World.block_lt_of_cell? _ _ p0)).trans p0;have p1:=(hSW.cell (World.block_lt_of_cell? _ _ p1)).trans p1;have q2:=(hSW.cell (World.block_lt_of_cell? _ _ q2)).trans q2;have q5:=(hSW.cell (World.block_lt_of_cell? _ _ q5)).trans q5;have s0:=(hSW.cell (World.block_lt_of_cell? _ _ s0)).trans s0;have s1:=(hSW.cell (World.block_lt_of_cell? _ _ s1)).trans s1;have s2:=(hSW.cell (World.block_lt_of_cell? _ _ s2)).trans s2;have s3:=(hSW.cell (World.block_lt_of_cell? _ _ s3)).trans s3;have s4:=(hSW.cell (World.block_lt_of_cell? _ _ s4)).trans s4;have s5:=(hSW.cell (World.block_lt_of_cell? _ _ s5)).trans s5
         first | (go_simp;done) | (go_simp;with_reducible rfl)
        (try simp only [Act.put,Yd,Ye,Yf])
        refine wpAnyH_take (i:=5) (oi:=?oi6) (v:=?v6) ?h1x6 (by kernel_rfl) ?h3x6 (by kernel_rfl) ?h5x6 (Or.inl ⟨?h6x6,?h7x6⟩) hHeld ?h8x6
        case h1x6=>
         simp only [Ya,Yb,Yc];rfl
        case h3x6=>kernel_rfl
        case h5x6=>exact fun _ _ _ h=>h
        case h6x6=>rfl
        case h7x6=>
         intro Wz hSW;have p0:=(hSW.cell (World.block_lt_of_cell? _ _ p0)).trans p0;have p1:=(hSW.cell (World.block_lt_of_cell? _ _ p1)).trans p1;have q2:=(hSW.cell (World.block_lt_of_cell? _ _ q2)).trans q2;have q5:=(hSW.cell (World.block_lt_of_cell? _ _ q5)).trans q5;have s0:=(hSW.cell (World.block_lt_of_cell? _ _ s0)).trans s0;have s1:=(hSW.cell (World.block_lt_of_cell? _ _ s1)).trans s1;have s2:=(hSW.cell (World.block_lt_of_cell? _ _ s2)).trans s2;have s3:=(hSW.cell (World.block_lt_of_cell? _ _ s3)).trans s3;have s4:=(hSW.cell (World.block_lt_of_cell? _ _ s4)).trans s4;have s5:=(hSW.cell (World.block_lt_of_cell? _ _ s5)).trans s5
         first | (go_simp;done) | (go_simp;with_reducible rfl)
        (try simp only [Act.put,Yd,Ye,Yf])
        refine wpAnyH_take (i:=6) (oi:=?oi7) (v:=?v7) ?h1x7 (by kernel_rfl) ?h3x7 (by kernel_rfl) ?h5x7 (Or.inl ⟨?h6x7,?h7x7⟩) hHeld ?h8x7
        case h1x7=>
         simp only [Ya,Yb,Yc];rfl
        case h3x7=>kernel_rfl
        case h5x7=>exact fun _ _ _ h=>h
        case h6x7=>rfl
        case h7x7=>
         intro Wz hSW;have p0:=(hSW.cell (World.block_lt_of_cell? _ _ p0)).trans p0;have p1:=(hSW.cell (World.block_lt_of_cell? _ _ p1)).trans p1;have q2:=(hSW.cell (World.block_lt_of_cell? _ _ q2)).trans q2;have q5:=(hSW.cell (World.block_lt_of_cell? _ _ q5)).trans q5;have s0:=(hSW.cell (World.block_lt_of_cell? _ _ s0)).trans s0;have s1:=(hSW.cell (World.block_lt_of_cell? _ _ s1)).trans s1;have s2:=(hSW.cell (World.block_lt_of_cell? _ _ s2)).trans s2;have s3:=(hSW.cell (World.block_lt_of_cell? _ _ s3)).trans s3;have s4:=(hSW.cell (World.block_lt_of_cell? _ _ s4)).trans s4;have s5:=(hSW.cell (World.block_lt_of_cell? _ _ s5)).trans s5
         first | (go_simp;done) | (go_simp;with_reducible rfl)
        (try simp only [Act.put,Yd,Ye,Yf])
        refine wpAnyH_ready (rs:=[7]) (by kernel_rfl) (by simp) ?_;refine AllReadyH.cons (by rfl) (fun K hK=>?_) AllReadyH.nil
        go_simp
        (go_at_call 48;(with_reducible refine(HWH.out _ ?hx).mono ?_);(case hx=>exact hHeld);rintro e Wg ⟨S9,c9,rfl,hr9,hc9,hq⟩;have HBg:=Hd (hHeld.trans (hq.mono hHeld.size));have HRg:=Hd hr9;clear hr9 hc9;clear hq)
        go_wp2_with fail
        refine hK.out _ _ ?_ (fun hHeld=>?_)
        · exact HBg.out
        clear hK K
        (try simp only [Act.put,Yd,Ye,Yf])
        refine wpAnyH_ready (rs:=[8]) (by kernel_rfl) (by simp) ?_;refine AllReadyH.cons (by rfl) (fun K hK=>?_) AllReadyH.nil
        go_simp
        (go_at_call 11;(with_reducible refine(HSM.out S9 c9 _ HRg.out ?hx).mono ?_);(case hx=>exact hHeld);rintro e Wm ⟨rfl,hq⟩;have HBm:=Hd (hHeld.trans (hq.mono hHeld.size));clear hq)
        go_wp2_with fail
        refine hK.out _ _ ?_ (fun hHeld=>?_)
        · exact HBm.out
        clear hK K
        (try simp only [Act.put,Yd,Ye,Yf])
        refine wpAnyH_take (i:=9) (oi:=?oi8) (v:=?v8) ?h1x8 (by kernel_rfl) ?h3x8 (by kernel_rfl) ?h5x8 (Or.inl ⟨?h6x8,?h7x8⟩) hHeld ?h8x8
        case h1x8=>
         simp only [Ya,Yb,Yc];rfl
        case h3x8=>kernel_rfl
        case h5x8=>exact fun _ _ _ h=>h
        case h6x8=>rfl
        case h7x8=>
         intro Wz hSW;have p0:=(hSW.cell (World.block_lt_of_cell? _ _ p0)).trans p0;have p1:=(hSW.cell (World.block_lt_of_cell? _ _ p1)).trans p1;have q2:=(hSW.cell (World.block_lt_of_cell? _ _ q2)).trans q2;have q5:=(hSW.cell (World.block_lt_of_cell? _ _ q5)).trans q5;have s0:=(hSW.cell (World.block_lt_of_cell? _ _ s0)).trans s0;have s1:=(hSW.cell (World.block_lt_of_cell? _ _ s1)).trans s1;have s2:=(hSW.cell (World.block_lt_of_cell? _ _ s2)).trans s2;have s3:=(hSW.cell (World.block_lt_of_cell? _ _ s3)).trans s3;have s4:=(hSW.cell (World.block_lt_of_cell? _ _ s4)).trans s4;have s5:=(hSW.cell (World.block_lt_of_cell? _ _ s5)).trans s5
         first | (go_simp;done) | (go_simp;with_reducible rfl)
        (try simp only [Act.put,Yd,Ye,Yf])
        refine wpAnyH_take (i:=10) (oi:=?oi9) (v:=?v9) ?h1x9 (by kernel_rfl) ?h3x9 (by kernel_rfl) ?h5x9 (Or.inl ⟨?h6x9,?h7x9⟩) hHeld ?h8x9
        case h1x9=>
         simp only [Ya,Yb,Yc];rfl
        case h3x9=>kernel_rfl
        case h5x9=>exact fun _ _ _ h=>h
        case h6x9=>rfl
        case h7x9=>
         intro Wz hSW;have p0:=(hSW.cell (World.block_lt_of_cell? _ _ p0)).trans p0;have p1:=(hSW.cell (World.block_lt_of_cell? _ _ p1)).trans p1;have q2:=(hSW.cell (World.block_lt_of_cell? _ _ q2)).trans q2;have q5:=(hSW.cell (World.block_lt_of_cell? _ _ q5)).trans q5;have s0:=(hSW.cell (World.block_lt_of_cell? _ _ s0)).trans s0;have s1:=(hSW.cell (World.block_lt_of_cell? _ _ s1)).trans s1;have s2:=(hSW.cell (World.block_lt_of_cell? _ _ s2)).trans s2;have s3:=(hSW.cell (World.block_lt_of_cell? _ _ s3)).trans s3;have s4:=(hSW.cell (World.block_lt_of_cell? _ _ s4)).trans s4;have s5:=(hSW.cell (World.block_lt_of_cell? _ _ s5)).trans s5
         first | (go_simp;done) | (go_simp;with_reducible rfl)
        (try simp only [Act.put,Yd,Ye,Yf])
        refine wpAnyH_take (i:=11) (oi:=?oi10) (v:=undef) ?h1x10 (by kernel_rfl) ?h3x10 (by kernel_rfl) ?h5x10 (Or.inr ⟨?h6x10,rfl⟩) hHeld ?h8x10
        case h1x10=>
         simp only [Ya,Yb,Yc];rfl
        case h3x10=>kernel_rfl
        case h5x10=>exact fun _ _ _ h=>h
        case h6x10=>rfl
        (try simp only [Act.put,Yd,Ye,Yf])
        refine wpAnyH_take (i:=12) (oi:=?oi11) (v:=undef) ?h1x11 (by kernel_rfl) ?h3x11 (by kernel_rfl) ?h5x11 (Or.inr ⟨?h6x11,rfl⟩) hHeld ?h8x11
        case h1x11=>
         simp only [Ya,Yb,Yc];rfl
        case h3x11=>kernel_rfl
        case h5x11=>exact fun _ _ _ h=>h
        case h6x11=>rfl
        (try simp only [Act.put,Yd,Ye,Yf])
        refine wpAnyH_take (i:=13) (oi:=?oi12) (v:=undef) ?h1x12 (by kernel_rfl) ?h3x12 (by kernel_rfl) ?h5x12 (Or.inr ⟨?h6x12,rfl⟩) hHeld ?h8x12
        case h1x12=>
         simp only [Ya,Yb,Yc];rfl
        case h3x12=>kernel_rfl
        case h5x12=>exact fun _ _ _ h=>h
        case h6x12=>rfl
        (try simp only [Act.put,Yd,Ye,Yf])
        refine wpAnyH_take (i:=14) (oi:=?oi13) (v:=undef) ?h1x13 (by kernel_rfl) ?h3x13 (by kernel_rfl) ?h5x13 (Or.inr ⟨?h6x13,rfl⟩) hHeld ?h8x13
        case h1x13=>
         simp only [Ya,Yb,Yc];rfl
        case h3x13=>kernel_rfl
        case h5x13=>exact fun _ _ _ h=>h
        case h6x13=>rfl
        (try simp only [Act.put,Yd,Ye,Yf])
        refine wpAnyH_take (i:=15) (oi:=?oi14) (v:=undef) ?h1x14 (by kernel_rfl) ?h3x14 (by kernel_rfl) ?h5x14 (Or.inr ⟨?h6x14,rfl⟩) hHeld ?h8x14
        case h1x14=>
         simp only [Ya,Yb,Yc];rfl
        case h3x14=>kernel_rfl
        case h5x14=>exact fun _ _ _ h=>h
        case h6x14=>rfl
        (try simp only [Act.put,Yd,Ye,Yf])
        refine wpAnyH_take (i:=16) (oi:=?oi15) (v:=undef) ?h1x15 (by kernel_rfl) ?h3x15 (by kernel_rfl) ?h5x15 (Or.inr ⟨?h6x15,rfl⟩) hHeld ?h8x15
        case h1x15=>
         simp only [Ya,Yb,Yc];rfl
        case h3x15=>kernel_rfl
        case h5x15=>exact fun _ _ _ h=>h
        case h6x15=>rfl
        (try simp only [Act.put,Yd,Ye,Yf])
        refine wpAnyH_take (i:=17) (oi:=?oi16) (v:=undef) ?h1x16 (by kernel_rfl) ?h3x16 (by kernel_rfl) ?h5x16 (Or.inr ⟨?h6x16,rfl⟩) hHeld ?h8x16
        case h1x16=>
         simp only [Ya,Yb,Yc];rfl
        case h3x16=>kernel_rfl
        case h5x16=>exact fun _ _ _ h=>h
        case h6x16=>rfl
        (try simp only [Act.put,Yd,Ye,Yf])
        refine wpAnyH_take (i:=18) (oi:=?oi17) (v:=undef) ?h1x17 (by kernel_rfl) ?h3x17 (by kernel_rfl) ?h5x17 (Or.inr ⟨?h6x17,rfl⟩) hHeld ?h8x17
        case h1x17=>
         simp only [Ya,Yb,Yc];rfl
        case h3x17=>kernel_rfl
        case h5x17=>exact fun _ _ _ h=>h
        case h6x17=>rfl
        (try simp only [Act.put,Yd,Ye,Yf])
        refine wpAnyH_take (i:=19) (oi:=?oi18) (v:=?v18) ?h1x18 (by kernel_rfl) ?h3x18 (by kernel_rfl) ?h5x18 (Or.inl ⟨?h6x18,?h7x18⟩) hHeld ?h8x18
        case h1x18=>
         simp only [Ya,Yb,Yc];rfl
        case h3x18=>kernel_rfl
        case h5x18=>exact fun _ _ _ h=>h
        case h6x18=>rfl
        case h7x18=>
         intro Wz hSW;have p0:=(hSW.cell (World.block_lt_of_cell? _ _ p0)).trans p0;have p1:=(hSW.cell (World.block_lt_of_cell? _ _ p1)).trans p1;have q2:=(hSW.cell (World.block_lt_of_cell? _ _ q2)).trans q2;have q5:=(hSW.cell (World.block_lt_of_cell? _ _ q5)).trans q5;have s0:=(hSW.cell (World.block_lt_of_cell? _ _ s0)).trans s0;have s1:=(hSW.cell (World.block_lt_of_cell? _ _ s1)).trans s1;have s2:=(hSW.cell (World.block_lt_of_cell? _ _ s2)).trans s2;have s3:=(hSW.cell (World.block_lt_of_cell? _ _ s3)).trans s3;have s4:=(hSW.cell (World.block_lt_of_cell? _ _ s4)).trans s4;have s5:=(hSW.cell (World.block_lt_of_cell? _ _ s5)).trans s5
         first | (go_simp;done) | (go_simp;with_reducible rfl)
        (try simp only [Act.put,Yd,Ye,Yf])
        refine wpAnyH_take (i:=20) (oi:=?oi19) (v:=?v19) ?h1x19 (by kernel_rfl) ?h3x19 (by kernel_rfl) ?h5x19 (Or.inl ⟨?h6x19,?h7x19⟩) hHeld ?h8x19
        case h1x19=>
         simp only [Ya,Yb,Yc];rfl
        case h3x19=>kernel_rfl
        case h5x19=>exact fun _ _ _ h=>h
        case h6x19=>rfl
        case h7x19=>
         intro Wz hSW;have p0:=(hSW.cell (World.block_lt_of_cell? _ _ p0)).trans p0;have p1:=(hSW.cell (World.block_lt_of_cell? _ _ p1)).trans p1;have q2:=(hSW.cell (World.block_lt_of_cell? _ _ q2)).trans q2;have q5:=(hSW.cell (World.block_lt_of_cell? _ _ q5)).trans q5;have s0:=(hSW.cell (World.block_lt_of_cell? _ _ s0)).trans s0;have s1:=(hSW.cell (World.block_lt_of_cell? _ _ s1)).trans s1;have s2:=(hSW.cell (World.block_lt_of_cell? _ _ s2)).trans s2;have s3:=(hSW.cell (World.block_lt_of_cell? _ _ s3)).trans s3;have s4:=(hSW.cell (World.block_lt_of_cell? _ _ s4)).trans s4;have s5:=(hSW.cell (World.block_lt_of_cell? _ _ s5)).trans s5
         first | (go_simp;done) | (go_simp;with_reducible rfl)
        (try simp only [Act.put,Yd,Ye,Yf])
        refine wpAnyH_done (by kernel_rfl) ?_ _
        go_wp2_with fail
        go_ret
        exact⟨ret_boolC HO.out.symm,below_nextC HBX.out HBm.out⟩
       | true=>
        have HO:=Hd (show out=ft from HCV.out)
        go_upto_region 5 with(fail)
        refine wp_region_held_drew (S:=fun Wz=>Below W.heap.size W Wz) (by kernel_rfl) ?_ (fun hHeld=>?_)
        · exact(Below.refl W.heap.size W).drew
        refine wpAnyH_take (i:=0) (oi:=?oi20) (v:=?v20) ?h1x20 (by kernel_rfl) ?h3x20 (by kernel_rfl) ?h5x20 (Or.inl ⟨?h6x20,?h7x20⟩) hHeld ?h8x20
        case h1x20=>
         simp only [Ya,Yb,Yc];rfl
        case h3x20=>kernel_rfl
        case h5x20=>exact fun _ _ _ h=>h
        case h6x20=>rfl
        case h7x20=>
         intro Wz hSW;have p0:=(hSW.cell (World.block_lt_of_cell? _ _ p0)).trans p0;have p1:=(hSW.cell (World.block_lt_of_cell? _ _ p1)).trans p1;have q2:=(hSW.cell (World.block_lt_of_cell? _ _ q2)).trans q2;have q5:=(hSW.cell (World.block_lt_of_cell? _ _ q5)).trans q5;have s0:=(hSW.cell (World.block_lt_of_cell? _ _ s0)).trans s0;have s1:=(hSW.cell (World.block_lt_of_cell? _ _ s1)).trans s1;have s2:=(hSW.cell (World.block_lt_of_cell? _ _ s2)).trans s2;have s3:=(hSW.cell (World.block_lt_of_cell? _ _ s3)).trans s3;have s4:=(hSW.cell (World.block_lt_of_cell? _ _ s4)).trans s4;have s5:=(hSW.cell (World.block_lt_of_cell? _ _ s5)).trans s5
         first | (go_simp;done) | (go_simp;with_reducible rfl)
        (try simp only [Act.put,Yd,Ye,Yf])
        refine wpAnyH_take (i:=1) (oi:=?oi21) (v:=?v21) ?h1x21 (by kernel_rfl) ?h3x21 (by kernel_rfl) ?h5x21 (Or.inl ⟨?h6x21,?h7x21⟩) hHeld ?h8x21
        case h1x21=>
         simp only [Ya,Yb,Yc];rfl
        case h3x21=>kernel_rfl
        case h5x21=>exact fun _ _ _ h=>h
        case h6x21=>rfl
        case h7x21=>
         intro Wz hSW;have p0:=(hSW.cell (World.block_lt_of_cell? _ _ p0)).trans p0;have p1:=(hSW.cell (World.block_lt_of_cell? _ _ p1)).trans p1;have q2:=(hSW.cell (World.block_lt_of_cell? _ _ q2)).trans q2;have q5:=(hSW.cell (World.block_lt_of_cell? _ _ q5)).trans q5;have s0:=(hSW.cell (World.block_lt_of_cell? _ _ s0)).trans s0;have s1:=(hSW.cell (World.block_lt_of_cell? _ _ s1)).trans s1;have s2:=(hSW.cell (World.block_lt_of_cell? _ _ s2)).trans s2;have s3:=(hSW.cell (World.block_lt_of_cell? _ _ s3)).trans s3;have s4:=(hSW.cell (World.block_lt_of_cell? _ _ s4)).trans s4;have s5:=(hSW.cell (World.block_lt_of_cell? _ _ s5)).trans s5
         first | (go_simp;done) | (go_simp;with_reducible rfl)
        (try simp only [Act.put,Yd,Ye,Yf])
        refine wpAnyH_take (i:=2) (oi:=?oi22) (v:=?v22) ?h1x22 (by kernel_rfl) ?h3x22 (by kernel_rfl) ?h5x22 (Or.inl ⟨?h6x22,?h7x22⟩) hHeld ?h8x22
        case h1x22=>
         simp only [Ya,Yb,Yc];rfl
        case h3x22=>kernel_rfl
        case h5x22=>exact fun _ _ _ h=>h
        case h6x22=>rfl
        case h7x22=>
         intro Wz hSW;have p0:=(hSW.cell (World.block_lt_of_cell? _ _ p0)).trans p0;have p1:=(hSW.cell (World.block_lt_of_cell? _ _ p1)).trans p1;have q2:=(hSW.cell (World.block_lt_of_cell? _ _ q2)).trans q2;have q5:=(hSW.cell (World.block_lt_of_cell? _ _ q5)).trans q5;have s0:=(hSW.cell (World.block_lt_of_cell? _ _ s0)).trans s0;have s1:=(hSW.cell (World.block_lt_of_cell? _ _ s1)).trans s1;have s2:=(hSW.cell (World.block_lt_of_cell? _ _ s2)).trans s2;have s3:=(hSW.cell (World.block_lt_of_cell? _ _ s3)).trans s3;have s4:=(hSW.cell (World.block_lt_of_cell? _ _ s4)).trans s4;have s5:=(hSW.cell (World.block_lt_of_cell? _ _ s5)).trans s5
         first | (go_simp;done) | (go_simp;with_reducible rfl)
        (try simp only [Act.put,Yd,Ye,Yf])
        refine wpAnyH_take (i:=3) (oi:=?oi23) (v:=?v23) ?h1x23 (by kernel_rfl) ?h3x23 (by kernel_rfl) ?h5x23 (Or.inl ⟨?h6x23,?h7x23⟩) hHeld ?h8x23
        case h1x23=>
         simp only [Ya,Yb,Yc];rfl
        case h3x23=>kernel_rfl
        case h5x23=>exact fun _ _ _ h=>h
        case h6x23=>rfl
        case h7x23=>
         intro Wz hSW;have p0:=(hSW.cell (World.block_lt_of_cell? _ _ p0)).trans p0;have p1:=(hSW.cell (World.block_lt_of_cell? _ _ p1)).trans p1;have q2:=(hSW.cell (World.block_lt_of_cell? _ _ q2)).trans q2;have q5:=(hSW.cell (World.block_lt_of_cell? _ _ q5)).trans q5;have s0:=(hSW.cell (World.block_lt_of_cell? _ _ s0)).trans s0;have s1:=(hSW.cell (World.block_lt_of_cell? _ _ s1)).trans s1;have s2:=(hSW.cell (World.block_lt_of_cell? _ _ s2)).trans s2;have s3:=(hSW.cell (World.block_lt_of_cell? _ _ s3)).trans s3;have s4:=(hSW.cell (World.block_lt_of_cell? _ _ s4)).trans s4;have s5:=(hSW.cell (World.block_lt_of_cell? _ _ s5)).trans s5
         first | (go_simp;done) | (go_simp;with_reducible rfl)
        (try simp only [Act.put,Yd,Ye,Yf])
        refine wpAnyH_take (i:=4) (oi:=?oi24) (v:=?v24) ?h1x24 (by kernel_rfl) ?h3x24 (by kernel_rfl) ?h5x24 (Or.inl ⟨?h6x24,?h7x24⟩) hHeld ?h8x24
        case h1x24=>
         simp only [Ya,Yb,Yc];rfl
        case h3x24=>kernel_rfl
        case h5x24=>exact fun _ _ _ h=>h
        case h6x24=>rfl
        case h7x24=>
         intro Wz hSW;have p0:=(hSW.cell (World.block_lt_of_cell? _ _ p0)).trans p0;have p1:=(hSW.cell (World.block_lt_of_cell? _ _ p1)).trans p1;have q2:=(hSW.cell (World.block_lt_of_cell? _ _ q2)).trans q2;have q5:=(hSW.cell (World.block_lt_of_cell? _ _ q5)).trans q5;have s0:=(hSW.cell (World.block_lt_of_cell? _ _ s0)).trans s0;have s1:=(hSW.cell (World.block_lt_of_cell? _ _ s1)).trans s1;have s2:=(hSW.cell (World.block_lt_of_cell? _ _ s2)).trans s2;have s3:=(hSW.cell (World.block_lt_of_cell? _ _ s3)).trans s3;have s4:=(hSW.cell (World.block_lt_of_cell? _ _ s4)).trans s4;have s5:=(hSW.cell (World.block_lt_of_cell? _ _ s5)).trans s5
         first | (go_simp;done) | (go_simp;with_reducible rfl)
        (try simp only [Act.put,Yd,Ye,Yf])
        refine wpAnyH_take (i:=5) (oi:=?oi25) (v:=?v25) ?h1x25 (by kernel_rfl) ?h3x25 (by kernel_rfl) ?h5x25 (Or.inl ⟨?h6x25,?h7x25⟩) hHeld ?h8x25
        case h1x25=>
         simp only [Ya,Yb,Yc];rfl
        case h3x25=>kernel_rfl
        case h5x25=>exact fun _ _ _ h=>h
        case h6x25=>rfl
        case h7x25=>
         intro Wz hSW;have p0:=(hSW.cell (World.block_lt_of_cell? _ _ p0)).trans p0;have p1:=(hSW.cell (World.block_lt_of_cell? _ _ p1)).trans p1;have q2:=(hSW.cell (World.block_lt_of_cell? _ _ q2)).trans q2;have q5:=(hSW.cell (World.block_lt_of_cell? _ _ q5)).trans q5;have s0:=(hSW.cell (World.block_lt_of_cell? _ _ s0)).trans s0;have s1:=(hSW.cell (World.block_lt_of_cell? _ _ s1)).trans s1;have s2:=(hSW.cell (World.block_lt_of_cell? _ _ s2)).trans s2;have s3:=(hSW.cell (World.block_lt_of_cell? _ _ s3)).trans s3;have s4:=(hSW.cell (World.block_lt_of_cell? _ _ s4)).trans s4;have s5:=(hSW.cell (World.block_lt_of_cell? _ _ s5)).trans s5
         first | (go_simp;done) | (go_simp;with_reducible rfl)
        (try simp only [Act.put,Yd,Ye,Yf])
        refine wpAnyH_take (i:=6) (oi:=?oi26) (v:=?v26) ?h1x26 (by kernel_rfl) ?h3x26 (by kernel_rfl) ?h5x26 (Or.inl ⟨?h6x26,?h7x26⟩) hHeld ?h8x26
        case h1x26=>
         simp only [Ya,Yb,Yc];rfl
        case h3x26=>kernel_rfl
        case h5x26=>exact fun _ _ _ h=>h
        case h6x26=>rfl
        case h7x26=>
         intro Wz hSW;have p0:=(hSW.cell (World.block_lt_of_cell? _ _ p0)).trans p0;have p1:=(hSW.cell (World.block_lt_of_cell? _ _ p1)).trans p1;have q2:=(hSW.cell (World.block_lt_of_cell? _ _ q2)).trans q2;have q5:=(hSW.cell (World.block_lt_of_cell? _ _ q5)).trans q5;have s0:=(hSW.cell (World.block_lt_of_cell? _ _ s0)).trans s0;have s1:=(hSW.cell (World.block_lt_of_cell? _ _ s1)).trans s1;have s2:=(hSW.cell (World.block_lt_of_cell? _ _ s2)).trans s2;have s3:=(hSW.cell (World.block_lt_of_cell? _ _ s3)).trans s3;have s4:=(hSW.cell (World.block_lt_of_cell? _ _ s4)).trans s4;have s5:=(hSW.cell (World.block_lt_of_cell? _ _ s5)).trans s5
         first | (go_simp;done) | (go_simp;with_reducible rfl)
        (try simp only [Act.put,Yd,Ye,Yf])
        refine wpAnyH_ready (rs:=[7]) (by kernel_rfl) (by simp) ?_;refine AllReadyH.cons (by rfl) (fun K hK=>?_) AllReadyH.nil
        go_simp
        (go_at_call 48;(with_reducible refine(HWH.out _ ?hx).mono ?_);(case hx=>exact hHeld);rintro e Wg ⟨S9,c9,rfl,hr9,hc9,hq⟩;have HBg:=Hd (hHeld.trans (hq.mono hHeld.size));have HRg:=Hd hr9;clear hr9 hc9;clear hq)
        go_wp2_with fail
        refine hK.out _ _ ?_ (fun hHeld=>?_)
        · exact HBg.out
        clear hK K
        (try simp only [Act.put,Yd,Ye,Yf])
        refine wpAnyH_ready (rs:=[8]) (by kernel_rfl) (by simp) ?_;refine AllReadyH.cons (by rfl) (fun K hK=>?_) AllReadyH.nil
        go_simp
        (go_at_call 11;(with_reducible refine(HSM.out S9 c9 _ HRg.out ?hx).mono ?_);(case hx=>exact hHeld);rintro e Wm ⟨rfl,hq⟩;have HBm:=Hd (hHeld.trans (hq.mono hHeld.size));clear hq)
        go_wp2_with fail
        refine hK.out _ _ ?_ (fun hHeld=>?_)
        · exact HBm.out
        clear hK K
        (try simp only [Act.put,Yd,Ye,Yf])
        refine wpAnyH_take (i:=9) (oi:=?oi27) (v:=?v27) ?h1x27 (by kernel_rfl) ?h3x27 (by kernel_rfl) ?h5x27 (Or.inl ⟨?h6x27,?h7x27⟩) hHeld ?h8x27
        case h1x27=>
         simp only [Ya,Yb,Yc];rfl
        case h3x27=>kernel_rfl
        case h5x27=>exact fun _ _ _ h=>h
        case h6x27=>rfl
        case h7x27=>
         intro Wz hSW;have p0:=(hSW.cell (World.block_lt_of_cell? _ _ p0)).trans p0;have p1:=(hSW.cell (World.block_lt_of_cell? _ _ p1)).trans p1;have q2:=(hSW.cell (World.block_lt_of_cell? _ _ q2)).trans q2;have q5:=(hSW.cell (World.block_lt_of_cell? _ _ q5)).trans q5;have s0:=(hSW.cell (World.block_lt_of_cell? _ _ s0)).trans s0;have s1:=(hSW.cell (World.block_lt_of_cell? _ _ s1)).trans s1;have s2:=(hSW.cell (World.block_lt_of_cell? _ _ s2)).trans s2;have s3:=(hSW.cell (World.block_lt_of_cell? _ _ s3)).trans s3;have s4:=(hSW.cell (World.block_lt_of_cell? _ _ s4)).trans s4;have s5:=(hSW.cell (World.block_lt_of_cell? _ _ s5)).trans s5
         first | (go_simp;done) | (go_simp;with_reducible rfl)
        (try simp only [Act.put,Yd,Ye,Yf])
        refine wpAnyH_take (i:=10) (oi:=?oi28) (v:=?v28) ?h1x28 (by kernel_rfl) ?h3x28 (by kernel_rfl) ?h5x28 (Or.inl ⟨?h6x28,?h7x28⟩) hHeld ?h8x28
        case h1x28=>
         simp only [Ya,Yb,Yc];rfl
        case h3x28=>kernel_rfl
        case h5x28=>exact fun _ _ _ h=>h
        case h6x28=>rfl
        case h7x28=>
         intro Wz hSW;have p0:=(hSW.cell (World.block_lt_of_cell? _ _ p0)).trans p0;have p1:=(hSW.cell (World.block_lt_of_cell? _ _ p1)).trans p1;have q2:=(hSW.cell (World.block_lt_of_cell? _ _ q2)).trans q2;have q5:=(hSW.cell (World.block_lt_of_cell? _ _ q5)).trans q5;have s0:=(hSW.cell (World.block_lt_of_cell? _ _ s0)).trans s0;have s1:=(hSW.cell (World.block_lt_of_cell? _ _ s1)).trans s1;have s2:=(hSW.cell (World.block_lt_of_cell? _ _ s2)).trans s2;have s3:=(hSW.cell (World.block_lt_of_cell? _ _ s3)).trans s3;have s4:=(hSW.cell (World.block_lt_of_cell? _ _ s4)).trans s4;have s5:=(hSW.cell (World.block_lt_of_cell? _ _ s5)).trans s5
         first | (go_simp;done) | (go_simp;with_reducible rfl)
        (try simp only [Act.put,Yd,Ye,Yf])
        refine wpAnyH_take (i:=11) (oi:=?oi29) (v:=?v29) ?h1x29 (by kernel_rfl) ?h3x29 (by kernel_rfl) ?h5x29 (Or.inl ⟨?h6x29,?h7x29⟩) hHeld ?h8x29
        case h1x29=>
         simp only [Ya,Yb,Yc];rfl
        case h3x29=>kernel_rfl
        case h5x29=>exact fun _ _ _ h=>h
        case h6x29=>rfl
        case h7x29=>
         intro Wz hSW;have p0:=(hSW.cell (World.block_lt_of_cell? _ _ p0)).trans p0;have p1:=(hSW.cell (World.block_lt_of_cell? _ _ p1)).trans p1;have q2:=(hSW.cell (World.block_lt_of_cell? _ _ q2)).trans q2;have q5:=(hSW.cell (World.block_lt_of_cell? _ _ q5)).trans q5;have s0:=(hSW.cell (World.block_lt_of_cell? _ _ s0)).trans s0;have s1:=(hSW.cell (World.block_lt_of_cell? _ _ s1)).trans s1;have s2:=(hSW.cell (World.block_lt_of_cell? _ _ s2)).trans s2;have s3:=(hSW.cell (World.block_lt_of_cell? _ _ s3)).trans s3;have s4:=(hSW.cell (World.block_lt_of_cell? _ _ s4)).trans s4;have s5:=(hSW.cell (World.block_lt_of_cell? _ _ s5)).trans s5
         first | (go_simp;done) | (go_simp;with_reducible rfl)
        (try simp only [Act.put,Yd,Ye,Yf])
        refine wpAnyH_take (i:=12) (oi:=?oi30) (v:=?v30) ?h1x30 (by kernel_rfl) ?h3x30 (by kernel_rfl) ?h5x30 (Or.inl ⟨?h6x30,?h7x30⟩) hHeld ?h8x30
        case h1x30=>
         simp only [Ya,Yb,Yc];rfl
        case h3x30=>kernel_rfl
        case h5x30=>exact fun _ _ _ h=>h
        case h6x30=>rfl
        case h7x30=>
         intro Wz hSW;have p0:=(hSW.cell (World.block_lt_of_cell? _ _ p0)).trans p0;have p1:=(hSW.cell (World.block_lt_of_cell? _ _ p1)).trans p1;have q2:=(hSW.cell (World.block_lt_of_cell? _ _ q2)).trans q2;have q5:=(hSW.cell (World.block_lt_of_cell? _ _ q5)).trans q5;have s0:=(hSW.cell (World.block_lt_of_cell? _ _ s0)).trans s0;have s1:=(hSW.cell (World.block_lt_of_cell? _ _ s1)).trans s1;have s2:=(hSW.cell (World.block_lt_of_cell? _ _ s2)).trans s2;have s3:=(hSW.cell (World.block_lt_of_cell? _ _ s3)).trans s3;have s4:=(hSW.cell (World.block_lt_of_cell? _ _ s4)).trans s4;have s5:=(hSW.cell (World.block_lt_of_cell? _ _ s5)).trans s5
         first | (go_simp;done) | (go_simp;with_reducible rfl)
        (try simp only [Act.put,Yd,Ye,Yf])
        refine wpAnyH_take (i:=13) (oi:=?oi31) (v:=?v31) ?h1x31 (by kernel_rfl) ?h3x31 (by kernel_rfl) ?h5x31 (Or.inl ⟨?h6x31,?h7x31⟩) hHeld ?h8x31
        case h1x31=>
         simp only [Ya,Yb,Yc];rfl
        case h3x31=>kernel_rfl
        case h5x31=>exact fun _ _ _ h=>h
        case h6x31=>rfl
        case h7x31=>
         intro Wz hSW;have p0:=(hSW.cell (World.block_lt_of_cell? _ _ p0)).trans p0;have p1:=(hSW.cell (World.block_lt_of_cell? _ _ p1)).trans p1;have q2:=(hSW.cell (World.block_lt_of_cell? _ _ q2)).trans q2;have q5:=(hSW.cell (World.block_lt_of_cell? _ _ q5)).trans q5;have s0:=(hSW.cell (World.block_lt_of_cell? _ _ s0)).trans s0;have s1:=(hSW.cell (World.block_lt_of_cell? _ _ s1)).trans s1;have s2:=(hSW.cell (World.block_lt_of_cell? _ _ s2)).trans s2;have s3:=(hSW.cell (World.block_lt_of_cell? _ _ s3)).trans s3;have s4:=(hSW.cell (World.block_lt_of_cell? _ _ s4)).trans s4;have s5:=(hSW.cell (World.block_lt_of_cell? _ _ s5)).trans s5
         first | (go_simp;done) | (go_simp;with_reducible rfl)
        (try simp only [Act.put,Yd,Ye,Yf])
        refine wpAnyH_take (i:=14) (oi:=?oi32) (v:=?v32) ?h1x32 (by kernel_rfl) ?h3x32 (by kernel_rfl) ?h5x32 (Or.inl ⟨?h6x32,?h7x32⟩) hHeld ?h8x32
        case h1x32=>
         simp only [Ya,Yb,Yc];rfl
        case h3x32=>kernel_rfl
        case h5x32=>exact fun _ _ _ h=>h
        case h6x32=>rfl
        case h7x32=>
         intro Wz hSW;have p0:=(hSW.cell (World.block_lt_of_cell? _ _ p0)).trans p0;have p1:=(hSW.cell (World.block_lt_of_cell? _ _ p1)).trans p1;have q2:=(hSW.cell (World.block_lt_of_cell? _ _ q2)).trans q2;have q5:=(hSW.cell (World.block_lt_of_cell? _ _ q5)).trans q5;have s0:=(hSW.cell (World.block_lt_of_cell? _ _ s0)).trans s0;have s1:=(hSW.cell (World.block_lt_of_cell? _ _ s1)).trans s1;have s2:=(hSW.cell (World.block_lt_of_cell? _ _ s2)).trans s2;have s3:=(hSW.cell (World.block_lt_of_cell? _ _ s3)).trans s3;have s4:=(hSW.cell (World.block_lt_of_cell? _ _ s4)).trans s4;have s5:=(hSW.cell (World.block_lt_of_cell? _ _ s5)).trans s5
         first | (go_simp;done) | (go_simp;with_reducible rfl)
        (try simp only [Act.put,Yd,Ye,Yf])
        refine wpAnyH_take (i:=15) (oi:=?oi33) (v:=?v33) ?h1x33 (by kernel_rfl) ?h3x33 (by kernel_rfl) ?h5x33 (Or.inl ⟨?h6x33,?h7x33⟩) hHeld ?h8x33
        case h1x33=>
         simp only [Ya,Yb,Yc];rfl
        case h3x33=>kernel_rfl
        case h5x33=>exact fun _ _ _ h=>h
        case h6x33=>rfl
        case h7x33=>
         intro Wz hSW;have p0:=(hSW.cell (World.block_lt_of_cell? _ _ p0)).trans p0;have p1:=(hSW.cell (World.block_lt_of_cell? _ _ p1)).trans p1;have q2:=(hSW.cell (World.block_lt_of_cell? _ _ q2)).trans q2;have q5:=(hSW.cell (World.block_lt_of_cell? _ _ q5)).trans q5;have s0:=(hSW.cell (World.block_lt_of_cell? _ _ s0)).trans s0;have s1:=(hSW.cell (World.block_lt_of_cell? _ _ s1)).trans s1;have s2:=(hSW.cell (World.block_lt_of_cell? _ _ s2)).trans s2;have s3:=(hSW.cell (World.block_lt_of_cell? _ _ s3)).trans s3;have s4:=(hSW.cell (World.block_lt_of_cell? _ _ s4)).trans s4;have s5:=(hSW.cell (World.block_lt_of_cell? _ _ s5)).trans s5
         first | (go_simp;done) | (go_simp;with_reducible rfl)
        (try simp only [Act.put,Yd,Ye,Yf])
        refine wpAnyH_take (i:=16) (oi:=?oi34) (v:=?v34) ?h1x34 (by kernel_rfl) ?h3x34 (by kernel_rfl) ?h5x34 (Or.inl ⟨?h6x34,?h7x34⟩) hHeld ?h8x34
        case h1x34=>
         simp only [Ya,Yb,Yc];rfl
        case h3x34=>kernel_rfl
        case h5x34=>exact fun _ _ _ h=>h
        case h6x34=>rfl
        case h7x34=>
         intro Wz hSW;have p0:=(hSW.cell (World.block_lt_of_cell? _ _ p0)).trans p0;have p1:=(hSW.cell (World.block_lt_of_cell? _ _ p1)).trans p1;have q2:=(hSW.cell (World.block_lt_of_cell? _ _ q2)).trans q2;have q5:=(hSW.cell (World.block_lt_of_cell? _ _ q5)).trans q5;have s0:=(hSW.cell (World.block_lt_of_cell? _ _ s0)).trans s0;have s1:=(hSW.cell (World.block_lt_of_cell? _ _ s1)).trans s1;have s2:=(hSW.cell (World.block_lt_of_cell? _ _ s2)).trans s2;have s3:=(hSW.cell (World.block_lt_of_cell? _ _ s3)).trans s3;have s4:=(hSW.cell (World.block_lt_of_cell? _ _ s4)).trans s4;have s5:=(hSW.cell (World.block_lt_of_cell? _ _ s5)).trans s5
         first | (go_simp;done) | (go_simp;with_reducible rfl)
        (try simp only [Act.put,Yd,Ye,Yf])
        refine wpAnyH_take (i:=17) (oi:=?oi35) (v:=?v35) ?h1x35 (by kernel_rfl) ?h3x35 (by kernel_rfl) ?h5x35 (Or.inl ⟨?h6x35,?h7x35⟩) hHeld ?h8x35
        case h1x35=>
         simp only [Ya,Yb,Yc];rfl
        case h3x35=>kernel_rfl
        case h5x35=>exact fun _ _ _ h=>h
        case h6x35=>rfl
        case h7x35=>
         intro Wz hSW;have p0:=(hSW.cell (World.block_lt_of_cell? _ _ p0)).trans p0;have p1:=(hSW.cell (World.block_lt_of_cell? _ _ p1)).trans p1;have q2:=(hSW.cell (World.block_lt_of_cell? _ _ q2)).trans q2;have q5:=(hSW.cell (World.block_lt_of_cell? _ _ q5)).trans q5;have s0:=(hSW.cell (World.block_lt_of_cell? _ _ s0)).trans s0;have s1:=(hSW.cell (World.block_lt_of_cell? _ _ s1)).trans s1;have s2:=(hSW.cell (World.block_lt_of_cell? _ _ s2)).trans s2;have s3:=(hSW.cell (World.block_lt_of_cell? _ _ s3)).trans s3;have s4:=(hSW.cell (World.block_lt_of_cell? _ _ s4)).trans s4;have s5:=(hSW.cell (World.block_lt_of_cell? _ _ s5)).trans s5
         first | (go_simp;done) | (go_simp;with_reducible rfl)
        (try simp only [Act.put,Yd,Ye,Yf])
        refine wpAnyH_ready (rs:=[18]) (by kernel_rfl) (by simp) ?_;refine AllReadyH.cons (by rfl) (fun K hK=>?_) AllReadyH.nil
        go_simp
        (go_at_call 13;(with_reducible refine(HFT.out _ ?hx).mono ?_);(case hx=>exact hHeld);rintro e Wn ⟨rfl,hq⟩;have HBn:=Hd (hHeld.trans (hq.mono hHeld.size));clear hq)
        go_wp2_with fail
        refine hK.out _ _ ?_ (fun hHeld=>?_)
        · exact HBn.out
        clear hK K
        (try simp only [Act.put,Yd,Ye,Yf])
        refine wpAnyH_take (i:=19) (oi:=?oi36) (v:=?v36) ?h1x36 (by kernel_rfl) ?h3x36 (by kernel_rfl) ?h5x36 (Or.inl ⟨?h6x36,?h7x36⟩) hHeld ?h8x36
        case h1x36=>
         simp only [Ya,Yb,Yc];rfl
        case h3x36=>kernel_rfl
        case h5x36=>exact fun _ _ _ h=>h
        case h6x36=>rfl
        case h7x36=>
         intro Wz hSW;have p0:=(hSW.cell (World.block_lt_of_cell? _ _ p0)).trans p0;have p1:=(hSW.cell (World.block_lt_of_cell? _ _ p1)).trans p1;have q2:=(hSW.cell (World.block_lt_of_cell? _ _ q2)).trans q2;have q5:=(hSW.cell (World.block_lt_of_cell? _ _ q5)).trans q5;have s0:=(hSW.cell (World.block_lt_of_cell? _ _ s0)).trans s0;have s1:=(hSW.cell (World.block_lt_of_cell? _ _ s1)).trans s1;have s2:=(hSW.cell (World.block_lt_of_cell? _ _ s2)).trans s2;have s3:=(hSW.cell (World.block_lt_of_cell? _ _ s3)).trans s3;have s4:=(hSW.cell (World.block_lt_of_cell? _ _ s4)).trans s4;have s5:=(hSW.cell (World.block_lt_of_cell? _ _ s5)).trans s5
         first | (go_simp;done) | (go_simp;with_reducible rfl)
        (try simp only [Act.put,Yd,Ye,Yf])
        refine wpAnyH_take (i:=20) (oi:=?oi37) (v:=?v37) ?h1x37 (by kernel_rfl) ?h3x37 (by kernel_rfl) ?h5x37 (Or.inl ⟨?h6x37,?h7x37⟩) hHeld ?h8x37
        case h1x37=>
         simp only [Ya,Yb,Yc];rfl
        case h3x37=>kernel_rfl
        case h5x37=>exact fun _ _ _ h=>h
        case h6x37=>rfl
        case h7x37=>
         intro Wz hSW;have p0:=(hSW.cell (World.block_lt_of_cell? _ _ p0)).trans p0;have p1:=(hSW.cell (World.block_lt_of_cell? _ _ p1)).trans p1;have q2:=(hSW.cell (World.block_lt_of_cell? _ _ q2)).trans q2;have q5:=(hSW.cell (World.block_lt_of_cell? _ _ q5)).trans q5;have s0:=(hSW.cell (World.block_lt_of_cell? _ _ s0)).trans s0;have s1:=(hSW.cell (World.block_lt_of_cell? _ _ s1)).trans s1;have s2:=(hSW.cell (World.block_lt_of_cell? _ _ s2)).trans s2;have s3:=(hSW.cell (World.block_lt_of_cell? _ _ s3)).trans s3;have s4:=(hSW.cell (World.block_lt_of_cell? _ _ s4)).trans s4;have s5:=(hSW.cell (World.block_lt_of_cell? _ _ s5)).trans s5
         first | (go_simp;done) | (go_simp;with_reducible rfl)
        (try simp only [Act.put,Yd,Ye,Yf])
        refine wpAnyH_done (by kernel_rfl) ?_ _
        go_wp2_with fail
        go_ret
        exact⟨ret_boolC HO.out.symm,below_nextC HBX.out HBn.out⟩
    · have na:((al:Int) != 1)=false:=by rw [ha1];rfl
      have ns:((sl:Int) != 1)=true:=by rw [bne_iff_ne];omega
      have HO:=Hd (show out=false by rw [HC.out,decide_eq_false hs1,Bool.and_false];cases armR es (x.arms[0]?.getD ByteArray.empty) <;> rfl)
      go_wp2_with fail
      go_ret
      exact⟨ret_boolC HO.out.symm,HB1.out⟩
  · have na:((al:Int) != 1)=true:=by rw [bne_iff_ne];omega
    have HO:=Hd (show out=false by rw [HC.out,decide_eq_false ha1,Bool.false_and];cases armR es (x.arms[0]?.getD ByteArray.empty) <;> rfl)
    go_wp2_with fail
    go_ret
    exact⟨ret_boolC HO.out.symm,HB1.out⟩
end
end Go.Proofs.Ytkbpdoomhfkngaa
