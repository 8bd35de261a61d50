/- Parts of the proof: ClF, ClJ. Conditions: each theorem's own. -/
import Derived.Test.YtkbpdoomhfkngaaF12
namespace Go.Proofs.Ytkbpdoomhfkngaa
set_option linter.unusedVariables false
set_option linter.unusedSimpArgs false
set_option maxRecDepth 100000
set_option maxHeartbeats 40000000
section
open Go.RowKit Go.Sort Go.BigFrame
theorem mergeC_no{es:List En}{n:Nd}{x:Ex}{fs:List Ft}{on:List Cd}{k:Nat}(hk:k<x.subs.length) (h:armC es x fs on k=false):mergeC es n x fs on=false:=by
 unfold mergeC;rw [rangeC_no hk h,Bool.and_false]
theorem armC_eq(es:List En) (x:Ex) (fs:List Ft) (on:List Cd) (k:Nat):armC es x fs on k=match armR es (x.arms[k]?.getD ByteArray.empty) with
 | none=>false
 | some r=>fitAt fs k (on++[⟨x.s,r.2.2⟩]):=rfl
theorem refMerge17(p:Pg) (E:Option Addr) (ec:Nat) (N:Option Addr) (nc:Nat) (i:Nat) (x:Ex) (A:Option Addr) (ca:Nat) (B:Option Addr) (cb:Nat) (On:Option Addr) (n oc:Nat) (on:List Cd) (w:World) (h:rdP w p E N) (hx:rdX w x A B) (ho:RdC w On n on) (hon:n≤3000000)
 (hi:i<p.ns.length) (hn:(ndAt p i).all.length≤1000) (fs:List Ft)
 (hsub:∀ k,k<x.subs.length→∀ A' ca' B' cb' R cr row w1,Below w.heap.size w w1→rdX w1 (subX x k) A' B'→RdC w1 R (n+1) row →
  Calls Try.prog 13 #[.agg (pgA p E ec N nc),.int .i64 i,.agg (exA (subX x k) A' ca' B' cb'),.slice R (n+1) cr] w1 fun e w'=>e=.returned (.bool (fitAt fs k row))∧Below w1.heap.size w1 w'):
 Calls Try.prog 29 #[.agg (pgA p E ec N nc),.int .i64 i,.agg (exA x A ca B cb),.slice On n oc] w fun e w'=>e=.returned (.bool (mergeC p.es (ndAt p i) x fs on))∧Below w.heap.size w w':=by
 have HF:=Hd fun w0 hw=>cl_box2 (w:=w) (w1:=w0) (cs:=pgA p E ec N nc) (ds:=exA x A ca B cb) (T:=25) (U:=29) hw;have HRW:=Hd fun w1 (hb:Below w.heap.size w w1)=>refRowIn p E ec N nc i x.s w1 (h.below hb) hi hn;have HAR:=Hd fun t w1 (hb:Below w.heap.size w w1)=>refArm15 E p.es.length ec p.es t w1 (h.below hb).1;have HON:=Hd ho;have hlen:=RdS.len ho;have HOL:=Hd hlen;have HSB:=Hd fun k (hkk:k<x.subs.length)=>hx.sub hkk;have HSUB:=Hd hsub;have HAL:=Hd fun k (h:k<x.arms.length)=>RdT.cellC (k:=k) hx.arms h;have HC:=Hd (show mergeC p.es (ndAt p i) x fs on=((match rowC p.es (ndAt p i) x.s with | none=>false | some r=>sameC r on) && decide (x.arms.length=x.subs.length) && (List.range x.subs.length).all (armC p.es x fs on)) from rfl);have HNO:=Hd fun k (hk:k<x.subs.length) h=>mergeC_no (es:=p.es) (n:=ndAt p i) (x:=x) (fs:=fs) (on:=on) hk h;have HALL:=Hd fun h=>(rangeC_all (n:=x.subs.length) (f:=armC p.es x fs on)).2 h;have HAE:=Hd (armC_eq p.es x fs on);have hmx:=RdS.max h.2;have hox:=RdS.max ho;have hsx:=hx.subs.2.1;have hax:=hx.arms.2.1;clear h ho hsub hn hx hlen;unfold RowPost at HRW;unfold armW f3A at HAR;generalize mergeC p.es (ndAt p i) x fs on=out at *;generalize rowC p.es (ndAt p i) x.s=orow at *;unfold pgA exA at *;generalize p.ns.length=pn at *;generalize hes:p.es=es at *;generalize es.length=pe at *;generalize hsl:x.subs.length=sl at *;generalize hal:x.arms.length=al at *;generalize x.s=xs at *
 go_enter Try.func29,Try.ntmps29
 go_upto_region 1 with(fail)
 generalize hw0:(w.alloc _).alloc _=w0;obtain⟨hb0,hsz,hp,hq⟩:=HF.out w0 hw0;have HB0:=Hd hb0;have HP:=Hd hp;have HX:=Hd hq;have p0:=hp w0 (Below.refl _ _) 0;have p1:=hp w0 (Below.refl _ _) 1;have q2:=hq w0 (Below.refl _ _) 2;simp only [Ya,Yb,Yc] at p0 p1 q2;have HR0:=Hd (HRW.out w0 hb0);clear hw0 hb0 hsz hp hq HF HRW
 go_wp2_with fail
 refine HR0.out.mono ?_;rintro e w1 ⟨hb1,hpost⟩;have HB1:=Hd (below_nextC HB0.out hb1);have HP1:=Hd fun W (b:Below w1.heap.size w1 W) j=>HP.out W (below_nextC hb1 b) j;have HX1:=Hd fun W (b:Below w1.heap.size w1 W) j=>HX.out W (below_nextC hb1 b) j;clear HR0 p0 p1 q2 hb1 HP HX
 cases hor:orow with
 | none=>
  rw [hor] at hpost HC;subst hpost;have HO:=Hd (show out=false from HC.out)
  go_wp2_with fail
  go_ret
  exact⟨ret_boolC HO.out.symm,HB1.out⟩
 | some row=>
  rw [hor] at hpost HC;obtain⟨R,rc,rfl,hrr⟩:=hpost;have hrm:=RdS.max hrr;have HSM:=Hd (refSame17 R row.length rc row On n oc on w1 hrr (HON.out.below HB1.out));clear hrr hor;generalize row.length=m at *;have HC2:=Hd (show out=(sameC row on && decide (al=sl) && (List.range sl).all (armC es x fs on)) from HC.out);clear HC;generalize sameC row on=sm at *
  go_wp2_with fail
  refine HSM.out.mono ?_;rintro e w2 ⟨rfl,hb2⟩;have HB2:=Hd (below_nextC HB1.out hb2);have HP2:=Hd fun W (b:Below w2.heap.size w2 W) j=>HP1.out W (below_nextC hb2 b) j;have HX2:=Hd fun W (b:Below w2.heap.size w2 W) j=>HX1.out W (below_nextC hb2 b) j;clear hb2 HP1 HX1 HSM
  cases sm with
  | false=>
   have HO:=Hd (show out=false from HC2.out)
   go_wp2_with fail
   go_ret
   exact⟨ret_boolC HO.out.symm,HB2.out⟩
  | true=>
   have q4:=HX2.out w2 (Below.refl _ _) 4;have q5:=HX2.out w2 (Below.refl _ _) 5;simp only [Ya,Yb,Yc] at q4 q5
   by_cases hlen:al=sl
   · subst hlen;have hq0:((al:Int) != (al:Int))=false:=by simp
     have HC3:=Hd (show out=(List.range al).all (armC es x fs on) by rw [HC2.out,decide_eq_true rfl];rfl)
     go_wp2_with fail
     clear q4 q5 HC2
     go_loopw [11] (fun c wr=>∃ k:Nat,k≤al∧c=.int .i64 k∧(∀ j,j<k→armC es x fs on j=true)∧Below w2.heap.size w2 wr) (fun c _=>al-(intOf c).toNat)
     case atStart=>exact⟨0,Nat.zero_le _,rfl,fun j hj=>absurd hj (by omega),Below.refl _ _⟩
     case round=>
      obtain⟨k,hk,rfl,hto,hbr⟩:=hrel;have HTO:=Hd hto;have HBR:=Hd hbr;have HBW:=Hd (below_nextC HB2.out hbr);have p0:=HP2.out wr hbr 0;have q4:=HX2.out wr hbr 4;simp only [Ya,Yb,Yc] at p0 q4;clear hto
      by_cases hlt:k<al
      · obtain⟨tb,tof,rfl,htb,t0⟩:=HAL.out k hlt;have t0:=(HBW.out.cell (p:=⟨tb,tof+k,none⟩) htb).trans t0;have HNK:=Hd (HNO.out k hlt);have HNX:=Hd fun(h:armC es x fs on k=true)=>to_next (P:=fun j=>armC es x fs on j=true) HTO.out h;have HEK:=Hd (HAE.out k);have HAK:=Hd fun w1 (hb:Below w.heap.size w w1)=>HAR.out (x.arms[k]?.getD ByteArray.empty) w1 hb;clear hbr;generalize x.arms[k]?.getD ByteArray.empty=dct at *;generalize ho:armR es dct=o at *;generalize hoa:(o.map (·.1)).getD 0=oa at *;generalize hob:(o.map (·.2.1)).getD 0=ob at *;generalize hov:(o.map (·.2.2)).getD 0=ov at *;generalize hos:o.isSome=os at *;have HCV:=Hd (show armC es x fs on k=(os && fitAt fs k (on++[⟨xs,ov⟩])) by rw [HEK.out];subst hos hov;cases o <;> rfl);clear ho hoa hob hov hos HEK;generalize hak:armC es x fs on k=ak at *;clear hak
        go_upto_region 7 with(fail)
        refine wp_region_mid (l:=[_,_,_,_,_,_,_,_,_,_,_,_,_,_,_,_]) 12 13 _ _ (d:=12) (tx:=56) (T:=56) (zc:=f3A 0 0 0) (by kernel_rfl) rfl rfl (by kernel_rfl) rfl (by simp) (fun a W=>by rfl) rfl (by kernel_rfl) ?_
        repeat
         first
         | refine fix_skipG rfl ?_
         | (apply fix_stepG rfl rfl (by simp)
            case h1=>
             intro wb hb;have hbb:=cls_below hb;have l0:=fun d os=>cell_regrown ((hbb.cell (World.block_lt_of_cell? _ _ p0)).trans p0) d os;have m4:=fun d os=>cell_regrown ((hbb.cell (World.block_lt_of_cell? _ _ q4)).trans q4) d os;have m5:=fun d os=>cell_regrown ((hbb.cell (World.block_lt_of_cell? _ _ t0)).trans t0) d os;have h3:=below_nextC HBW.out hbb;have cA:=fun d os=>Calls.regrown_of (HAK.out (grow (redrawn wb d) os) (h3.trans ((below_regrown wb d os).mono h3.size)));clear h3 hbb
             go_big_quiet_step (with_reducible exact cA _ _)
             refine wpQuiet_nil ?_;simp only [List.getElem?_toArray,List.getElem?_cons_succ,List.getElem?_cons_zero];exact rfl
            simp only [Act.put,Yd,Ye,Yf])
        refine⟨f3A oa ob 0,rfl,rfl,by simp [f3A,Value.oneCell'],fun W g hW hg hz=>?_⟩;have hbX:=cls_below hW;have HBX:=Hd (below_nextC HBW.out hbX);have HBL:=Hd (below_nextC HBR.out hbX);have HG:=Hd hg;clear hW hg hz p0 q4 t0 hbX
        show Exit.then _ _ .normal _ W
        simp only [Act.put,Yd,Ye,Yf]
        cases os with
        | false=>
         have HO:=Hd (show out=false from HNK.out HCV.out)
         go_upto_region 8 with(fail)
         go_quiet (fail)
         go_wp2_with fail
         go_ret
         exact⟨ret_boolC HO.out.symm,below_drewN HBX.out _⟩
        | true=>
         obtain⟨sb,so,rfl,hsb,hsc⟩:=HSB.out k hlt;obtain⟨A',ca',B',cb',hrg,hrd⟩:=hsc k hlt;obtain⟨s0,s1,s2,s3,s4,s5⟩:=rangeAt_six (rangeAt_keep hrg hsb fun p hp=>HBX.out.cell hp);have HWH:=Hd fun W' (hb:Below W.heap.size W W')=>refWhenC On n oc on xs ov W' (HON.out.below (below_nextC HBX.out hb)) (by omega);have HFT:=Hd fun S c W' (hr:RdC W' S (n+1) (on++[⟨xs,ov⟩])) (hb:Below W.heap.size W W')=>HSUB.out k hlt A' ca' B' cb' S c (on++[⟨xs,ov⟩]) W' (below_nextC HBX.out hb) (hrd.below (below_nextC HBX.out hb)) hr;have HLN:=Hd (show(on++[(⟨xs,ov⟩:Cd)]).length=n+1 by rw [List.length_append,HOL.out];rfl);unfold CondsPost at HWH;rw [HLN.out] at HWH;have p0:=HP2.out W HBL.out 0;have p1:=HP2.out W HBL.out 1;have q2:=HX2.out W HBL.out 2;have q5:=HX2.out W HBL.out 5;simp only [Ya,Yb,Yc] at p0 p1 q2 q5;clear hsc hrg hrd;generalize fitAt fs k (on++[⟨xs,ov⟩])=ft at *;generalize on++[(⟨xs,ov⟩:Cd)]=row2 at *;generalize hsx:subX x k=y at *;clear hsx
         go_upto_region 8 with(fail)
         refine wp_region_held_drew (S:=fun Wz=>Below W.heap.size W Wz) (by kernel_rfl) ?_ (fun hHeld=>?_)
         · exact(Below.refl W.heap.size W).drew
         refine wpAnyH_take (i:=0) (oi:=?oi1) (v:=?v1) ?h1x1 (by kernel_rfl) ?h3x1 (by kernel_rfl) ?h5x1 (Or.inl ⟨?h6x1,?h7x1⟩) hHeld ?h8x1
         case h1x1=>
          simp only [Ya,Yb,Yc];rfl
         case h3x1=>kernel_rfl
         case h5x1=>exact fun _ _ _ h=>h
         case h6x1=>rfl
         case h7x1=>
          intro Wz hSW;have p0:=(hSW.cell (World.block_lt_of_cell? _ _ p0)).trans p0;have p1:=(hSW.cell (World.block_lt_of_cell? _ _ p1)).trans p1;have q2:=(hSW.cell (World.block_lt_of_cell? _ _ q2)).trans q2;have q5:=(hSW.cell (World.block_lt_of_cell? _ _ q5)).trans q5;have s0:=(hSW.cell (World.block_lt_of_cell? _ _ s0)).trans s0;have s1:=(hSW.cell (World.block_lt_of_cell? _ _ s1)).trans s1;have s2:=(hSW.cell (World.block_lt_of_cell? _ _ s2)).trans s2;have s3:=(hSW.cell (World.block_lt_of_cell? _ _ s3)).trans s3;have s4:=(hSW.cell (World.block_lt_of_cell? _ _ s4)).trans s4;have s5:=(hSW.cell (World.block_lt_of_cell? _ _ s5)).trans s5
          first | (go_simp;done) | (go_simp;with_reducible rfl)
         (try simp only [Act.put,Yd,Ye,Yf])
         refine wpAnyH_take (i:=1) (oi:=?oi2) (v:=?v2) ?h1x2 (by kernel_rfl) ?h3x2 (by kernel_rfl) ?h5x2 (Or.inl ⟨?h6x2,?h7x2⟩) hHeld ?h8x2
         case h1x2=>
          simp only [Ya,Yb,Yc];rfl
         case h3x2=>kernel_rfl
         case h5x2=>exact fun _ _ _ h=>h
         case h6x2=>rfl
         case h7x2=>
          intro Wz hSW;have p0:=(hSW.cell (World.block_lt_of_cell? _ _ p0)).trans p0;have p1:=(hSW.cell (World.block_lt_of_cell? _ _ p1)).trans p1;have q2:=(hSW.cell (World.block_lt_of_cell? _ _ q2)).trans q2;have q5:=(hSW.cell (World.block_lt_of_cell? _ _ q5)).trans q5;have s0:=(hSW.cell (World.block_lt_of_cell? _ _ s0)).trans s0;have s1:=(hSW.cell (World.block_lt_of_cell? _ _ s1)).trans s1;have s2:=(hSW.cell (World.block_lt_of_cell? _ _ s2)).trans s2;have s3:=(hSW.cell (World.block_lt_of_cell? _ _ s3)).trans s3;have s4:=(hSW.cell (World.block_lt_of_cell? _ _ s4)).trans s4;have s5:=(hSW.cell (World.block_lt_of_cell? _ _ s5)).trans s5
          first | (go_simp;done) | (go_simp;with_reducible rfl)
         (try simp only [Act.put,Yd,Ye,Yf])
         refine wpAnyH_take (i:=2) (oi:=?oi3) (v:=?v3) ?h1x3 (by kernel_rfl) ?h3x3 (by kernel_rfl) ?h5x3 (Or.inl ⟨?h6x3,?h7x3⟩) hHeld ?h8x3
         case h1x3=>
          simp only [Ya,Yb,Yc];rfl
         case h3x3=>kernel_rfl
         case h5x3=>exact fun _ _ _ h=>h
         case h6x3=>rfl
         case h7x3=>
          intro Wz hSW;have p0:=(hSW.cell (World.block_lt_of_cell? _ _ p0)).trans p0;have p1:=(hSW.cell (World.block_lt_of_cell? _ _ p1)).trans p1;have q2:=(hSW.cell (World.block_lt_of_cell? _ _ q2)).trans q2;have q5:=(hSW.cell (World.block_lt_of_cell? _ _ q5)).trans q5;have s0:=(hSW.cell (World.block_lt_of_cell? _ _ s0)).trans s0;have s1:=(hSW.cell (World.block_lt_of_cell? _ _ s1)).trans s1;have s2:=(hSW.cell (World.block_lt_of_cell? _ _ s2)).trans s2;have s3:=(hSW.cell (World.block_lt_of_cell? _ _ s3)).trans s3;have s4:=(hSW.cell (World.block_lt_of_cell? _ _ s4)).trans s4;have s5:=(hSW.cell (World.block_lt_of_cell? _ _ s5)).trans s5
          first | (go_simp;done) | (go_simp;with_reducible rfl)
         (try simp only [Act.put,Yd,Ye,Yf])
         refine wpAnyH_take (i:=3) (oi:=?oi4) (v:=?v4) ?h1x4 (by kernel_rfl) ?h3x4 (by kernel_rfl) ?h5x4 (Or.inl ⟨?h6x4,?h7x4⟩) hHeld ?h8x4
         case h1x4=>
          simp only [Ya,Yb,Yc];rfl
         case h3x4=>kernel_rfl
         case h5x4=>exact fun _ _ _ h=>h
         case h6x4=>rfl
         case h7x4=>
          intro Wz hSW;have p0:=(hSW.cell (World.block_lt_of_cell? _ _ p0)).trans p0;have p1:=(hSW.cell (World.block_lt_of_cell? _ _ p1)).trans p1;have q2:=(hSW.cell (World.block_lt_of_cell? _ _ q2)).trans q2;have q5:=(hSW.cell (World.block_lt_of_cell? _ _ q5)).trans q5;have s0:=(hSW.cell (World.block_lt_of_cell? _ _ s0)).trans s0;have s1:=(hSW.cell (World.block_lt_of_cell? _ _ s1)).trans s1;have s2:=(hSW.cell (World.block_lt_of_cell? _ _ s2)).trans s2;have s3:=(hSW.cell (World.block_lt_of_cell? _ _ s3)).trans s3;have s4:=(hSW.cell (World.block_lt_of_cell? _ _ s4)).trans s4;have s5:=(hSW.cell (World.block_lt_of_cell? _ _ s5)).trans s5
          first | (go_simp;done) | (go_simp;with_reducible rfl)
         (try simp only [Act.put,Yd,Ye,Yf])
         refine wpAnyH_take (i:=4) (oi:=?oi5) (v:=?v5) ?h1x5 (by kernel_rfl) ?h3x5 (by kernel_rfl) ?h5x5 (Or.inl ⟨?h6x5,?h7x5⟩) hHeld ?h8x5
         case h1x5=>
          simp only [Ya,Yb,Yc];rfl
         case h3x5=>kernel_rfl
         case h5x5=>exact fun _ _ _ h=>h
         case h6x5=>rfl
         case h7x5=>
          intro Wz hSW;have p0:=(hSW.cell (World.block_lt_of_cell? _ _ p0)).trans p0;have p1:=(hSW.cell (World.block_lt_of_cell? _ _ p1)).trans p1;have q2:=(hSW.cell (World.block_lt_of_cell? _ _ q2)).trans q2;have q5:=(hSW.cell (World.block_lt_of_cell? _ _ q5)).trans q5;have s0:=(hSW.cell (World.block_lt_of_cell? _ _ s0)).trans s0;have s1:=(hSW.cell (World.block_lt_of_cell? _ _ s1)).trans s1;have s2:=(hSW.cell (World.block_lt_of_cell? _ _ s2)).trans s2;have s3:=(hSW.cell (World.block_lt_of_cell? _ _ s3)).trans s3;have s4:=(hSW.cell (World.block_lt_of_cell? _ _ s4)).trans s4;have s5:=(hSW.cell (World.block_lt_of_cell? _ _ s5)).trans s5
          first | (go_simp;done) | (go_simp;with_reducible rfl)
         (try simp only [Act.put,Yd,Ye,Yf])
         refine wpAnyH_take (i:=5) (oi:=?oi6) (v:=?v6) ?h1x6 (by kernel_rfl) ?h3x6 (by kernel_rfl) ?h5x6 (Or.inl ⟨?h6x6,?h7x6⟩) hHeld ?h8x6
         case h1x6=>
          simp only [Ya,Yb,Yc];rfl
         case h3x6=>kernel_rfl
         case h5x6=>exact fun _ _ _ h=>h
         case h6x6=>rfl
         case h7x6=>
          intro Wz hSW;have p0:=(hSW.cell (World.block_lt_of_cell? _ _ p0)).trans p0;have p1:=(hSW.cell (World.block_lt_of_cell? _ _ p1)).trans p1;have q2:=(hSW.cell (World.block_lt_of_cell? _ _ q2)).trans q2;have q5:=(hSW.cell (World.block_lt_of_cell? _ _ q5)).trans q5;have s0:=(hSW.cell (World.block_lt_of_cell? _ _ s0)).trans s0;have s1:=(hSW.cell (World.block_lt_of_cell? _ _ s1)).trans s1;have s2:=(hSW.cell (World.block_lt_of_cell? _ _ s2)).trans s2;have s3:=(hSW.cell (World.block_lt_of_cell? _ _ s3)).trans s3;have s4:=(hSW.cell (World.block_lt_of_cell? _ _ s4)).trans s4;have s5:=(hSW.cell (World.block_lt_of_cell? _ _ s5)).trans s5
          first | (go_simp;done) | (go_simp;with_reducible rfl)
         (try simp only [Act.put,Yd,Ye,Yf])
         refine wpAnyH_take (i:=6) (oi:=?oi7) (v:=?v7) ?h1x7 (by kernel_rfl) ?h3x7 (by kernel_rfl) ?h5x7 (Or.inl ⟨?h6x7,?h7x7⟩) hHeld ?h8x7
         case h1x7=>
          simp only [Ya,Yb,Yc];rfl
         case h3x7=>kernel_rfl
         case h5x7=>exact fun _ _ _ h=>h
         case h6x7=>rfl
         case h7x7=>
          intro Wz hSW;have p0:=(hSW.cell (World.block_lt_of_cell? _ _ p0)).trans p0;have p1:=(hSW.cell (World.block_lt_of_cell? _ _ p1)).trans p1;have q2:=(hSW.cell (World.block_lt_of_cell? _ _ q2)).trans q2;have q5:=(hSW.cell (World.block_lt_of_cell? _ _ q5)).trans q5;have s0:=(hSW.cell (World.block_lt_of_cell? _ _ s0)).trans s0;have s1:=(hSW.cell (World.block_lt_of_cell? _ _ s1)).trans s1;have s2:=(hSW.cell (World.block_lt_of_cell? _ _ s2)).trans s2;have s3:=(hSW.cell (World.block_lt_of_cell? _ _ s3)).trans s3;have s4:=(hSW.cell (World.block_lt_of_cell? _ _ s4)).trans s4;have s5:=(hSW.cell (World.block_lt_of_cell? _ _ s5)).trans s5
          first | (go_simp;done) | (go_simp;with_reducible rfl)
         (try simp only [Act.put,Yd,Ye,Yf])
         refine wpAnyH_take (i:=7) (oi:=?oi8) (v:=?v8) ?h1x8 (by kernel_rfl) ?h3x8 (by kernel_rfl) ?h5x8 (Or.inl ⟨?h6x8,?h7x8⟩) hHeld ?h8x8
         case h1x8=>
          simp only [Ya,Yb,Yc];rfl
         case h3x8=>kernel_rfl
         case h5x8=>exact fun _ _ _ h=>h
         case h6x8=>rfl
         case h7x8=>
          intro Wz hSW;have p0:=(hSW.cell (World.block_lt_of_cell? _ _ p0)).trans p0;have p1:=(hSW.cell (World.block_lt_of_cell? _ _ p1)).trans p1;have q2:=(hSW.cell (World.block_lt_of_cell? _ _ q2)).trans q2;have q5:=(hSW.cell (World.block_lt_of_cell? _ _ q5)).trans q5;have s0:=(hSW.cell (World.block_lt_of_cell? _ _ s0)).trans s0;have s1:=(hSW.cell (World.block_lt_of_cell? _ _ s1)).trans s1;have s2:=(hSW.cell (World.block_lt_of_cell? _ _ s2)).trans s2;have s3:=(hSW.cell (World.block_lt_of_cell? _ _ s3)).trans s3;have s4:=(hSW.cell (World.block_lt_of_cell? _ _ s4)).trans s4;have s5:=(hSW.cell (World.block_lt_of_cell? _ _ s5)).trans s5
          first | (go_simp;done) | (go_simp;with_reducible rfl)
         (try simp only [Act.put,Yd,Ye,Yf])
         refine wpAnyH_take (i:=8) (oi:=?oi9) (v:=?v9) ?h1x9 (by kernel_rfl) ?h3x9 (by kernel_rfl) ?h5x9 (Or.inl ⟨?h6x9,?h7x9⟩) hHeld ?h8x9
         case h1x9=>
          simp only [Ya,Yb,Yc];rfl
         case h3x9=>kernel_rfl
         case h5x9=>exact fun _ _ _ h=>h
         case h6x9=>rfl
         case h7x9=>
          intro Wz hSW;have p0:=(hSW.cell (World.block_lt_of_cell? _ _ p0)).trans p0;have p1:=(hSW.cell (World.block_lt_of_cell? _ _ p1)).trans p1;have q2:=(hSW.cell (World.block_lt_of_cell? _ _ q2)).trans q2;have q5:=(hSW.cell (World.block_lt_of_cell? _ _ q5)).trans q5;have s0:=(hSW.cell (World.block_lt_of_cell? _ _ s0)).trans s0;have s1:=(hSW.cell (World.block_lt_of_cell? _ _ s1)).trans s1;have s2:=(hSW.cell (World.block_lt_of_cell? _ _ s2)).trans s2;have s3:=(hSW.cell (World.block_lt_of_cell? _ _ s3)).trans s3;have s4:=(hSW.cell (World.block_lt_of_cell? _ _ s4)).trans s4;have s5:=(hSW.cell (World.block_lt_of_cell? _ _ s5)).trans s5
          first | (go_simp;done) | (go_simp;with_reducible rfl)
         (try simp only [Act.put,Yd,Ye,Yf])
         refine wpAnyH_take (i:=9) (oi:=?oi10) (v:=?v10) ?h1x10 (by kernel_rfl) ?h3x10 (by kernel_rfl) ?h5x10 (Or.inl ⟨?h6x10,?h7x10⟩) hHeld ?h8x10
         case h1x10=>
          simp only [Ya,Yb,Yc];rfl
         case h3x10=>kernel_rfl
         case h5x10=>exact fun _ _ _ h=>h
         case h6x10=>rfl
         case h7x10=>
          intro Wz hSW;have p0:=(hSW.cell (World.block_lt_of_cell? _ _ p0)).trans p0;have p1:=(hSW.cell (World.block_lt_of_cell? _ _ p1)).trans p1;have q2:=(hSW.cell (World.block_lt_of_cell? _ _ q2)).trans q2;have q5:=(hSW.cell (World.block_lt_of_cell? _ _ q5)).trans q5;have s0:=(hSW.cell (World.block_lt_of_cell? _ _ s0)).trans s0;have s1:=(hSW.cell (World.block_lt_of_cell? _ _ s1)).trans s1;have s2:=(hSW.cell (World.block_lt_of_cell? _ _ s2)).trans s2;have s3:=(hSW.cell (World.block_lt_of_cell? _ _ s3)).trans s3;have s4:=(hSW.cell (World.block_lt_of_cell? _ _ s4)).trans s4;have s5:=(hSW.cell (World.block_lt_of_cell? _ _ s5)).trans s5
          first | (go_simp;done) | (go_simp;with_reducible rfl)
         (try simp only [Act.put,Yd,Ye,Yf])
         refine wpAnyH_take (i:=10) (oi:=?oi11) (v:=?v11) ?h1x11 (by kernel_rfl) ?h3x11 (by kernel_rfl) ?h5x11 (Or.inl ⟨?h6x11,?h7x11⟩) hHeld ?h8x11
         case h1x11=>
          simp only [Ya,Yb,Yc];rfl
         case h3x11=>kernel_rfl
         case h5x11=>exact fun _ _ _ h=>h
         case h6x11=>rfl
         case h7x11=>
          intro Wz hSW;have p0:=(hSW.cell (World.block_lt_of_cell? _ _ p0)).trans p0;have p1:=(hSW.cell (World.block_lt_of_cell? _ _ p1)).trans p1;have q2:=(hSW.cell (World.block_lt_of_cell? _ _ q2)).trans q2;have q5:=(hSW.cell (World.block_lt_of_cell? _ _ q5)).trans q5;have s0:=(hSW.cell (World.block_lt_of_cell? _ _ s0)).trans s0;have s1:=(hSW.cell (World.block_lt_of_cell? _ _ s1)).trans s1;have s2:=(hSW.cell (World.block_lt_of_cell? _ _ s2)).trans s2;have s3:=(hSW.cell (World.block_lt_of_cell? _ _ s3)).trans s3;have s4:=(hSW.cell (World.block_lt_of_cell? _ _ s4)).trans s4;have s5:=(hSW.cell (World.block_lt_of_cell? _ _ s5)).trans s5
          first | (go_simp;done) | (go_simp;with_reducible rfl)
         (try simp only [Act.put,Yd,Ye,Yf])
         refine wpAnyH_take (i:=11) (oi:=?oi12) (v:=?v12) ?h1x12 (by kernel_rfl) ?h3x12 (by kernel_rfl) ?h5x12 (Or.inl ⟨?h6x12,?h7x12⟩) hHeld ?h8x12
         case h1x12=>
          simp only [Ya,Yb,Yc];rfl
         case h3x12=>kernel_rfl
         case h5x12=>exact fun _ _ _ h=>h
         case h6x12=>rfl
         case h7x12=>
          intro Wz hSW;have p0:=(hSW.cell (World.block_lt_of_cell? _ _ p0)).trans p0;have p1:=(hSW.cell (World.block_lt_of_cell? _ _ p1)).trans p1;have q2:=(hSW.cell (World.block_lt_of_cell? _ _ q2)).trans q2;have q5:=(hSW.cell (World.block_lt_of_cell? _ _ q5)).trans q5;have s0:=(hSW.cell (World.block_lt_of_cell? _ _ s0)).trans s0;have s1:=(hSW.cell (World.block_lt_of_cell? _ _ s1)).trans s1;have s2:=(hSW.cell (World.block_lt_of_cell? _ _ s2)).trans s2;have s3:=(hSW.cell (World.block_lt_of_cell? _ _ s3)).trans s3;have s4:=(hSW.cell (World.block_lt_of_cell? _ _ s4)).trans s4;have s5:=(hSW.cell (World.block_lt_of_cell? _ _ s5)).trans s5
          first | (go_simp;done) | (go_simp;with_reducible rfl)
         (try simp only [Act.put,Yd,Ye,Yf])
         refine wpAnyH_take (i:=12) (oi:=?oi13) (v:=?v13) ?h1x13 (by kernel_rfl) ?h3x13 (by kernel_rfl) ?h5x13 (Or.inl ⟨?h6x13,?h7x13⟩) hHeld ?h8x13
         case h1x13=>
          simp only [Ya,Yb,Yc];rfl
         case h3x13=>kernel_rfl
         case h5x13=>exact fun _ _ _ h=>h
         case h6x13=>rfl
         case h7x13=>
          intro Wz hSW;have p0:=(hSW.cell (World.block_lt_of_cell? _ _ p0)).trans p0;have p1:=(hSW.cell (World.block_lt_of_cell? _ _ p1)).trans p1;have q2:=(hSW.cell (World.block_lt_of_cell? _ _ q2)).trans q2;have q5:=(hSW.cell (World.block_lt_of_cell? _ _ q5)).trans q5;have s0:=(hSW.cell (World.block_lt_of_cell? _ _ s0)).trans s0;have s1:=(hSW.cell (World.block_lt_of_cell? _ _ s1)).trans s1;have s2:=(hSW.cell (World.block_lt_of_cell? _ _ s2)).trans s2;have s3:=(hSW.cell (World.block_lt_of_cell? _ _ s3)).trans s3;have s4:=(hSW.cell (World.block_lt_of_cell? _ _ s4)).trans s4;have s5:=(hSW.cell (World.block_lt_of_cell? _ _ s5)).trans s5
          first | (go_simp;done) | (go_simp;with_reducible rfl)
         (try simp only [Act.put,Yd,Ye,Yf])
         refine wpAnyH_take (i:=13) (oi:=?oi14) (v:=?v14) ?h1x14 (by kernel_rfl) ?h3x14 (by kernel_rfl) ?h5x14 (Or.inl ⟨?h6x14,?h7x14⟩) hHeld ?h8x14
         case h1x14=>
          simp only [Ya,Yb,Yc];rfl
         case h3x14=>kernel_rfl
         case h5x14=>exact fun _ _ _ h=>h
         case h6x14=>rfl
         case h7x14=>
          intro Wz hSW;have p0:=(hSW.cell (World.block_lt_of_cell? _ _ p0)).trans p0;have p1:=(hSW.cell (World.block_lt_of_cell? _ _ p1)).trans p1;have q2:=(hSW.cell (World.block_lt_of_cell? _ _ q2)).trans q2;have q5:=(hSW.cell (World.block_lt_of_cell? _ _ q5)).trans q5;have s0:=(hSW.cell (World.block_lt_of_cell? _ _ s0)).trans s0;have s1:=(hSW.cell (World.block_lt_of_cell? _ _ s1)).trans s1;have s2:=(hSW.cell (World.block_lt_of_cell? _ _ s2)).trans s2;have s3:=(hSW.cell (World.block_lt_of_cell? _ _ s3)).trans s3;have s4:=(hSW.cell (World.block_lt_of_cell? _ _ s4)).trans s4;have s5:=(hSW.cell (World.block_lt_of_cell? _ _ s5)).trans s5
          first | (go_simp;done) | (go_simp;with_reducible rfl)
         (try simp only [Act.put,Yd,Ye,Yf])
         refine wpAnyH_ready (rs:=[14]) (by kernel_rfl) (by simp) ?_;refine AllReadyH.cons (by rfl) (fun K hK=>?_) AllReadyH.nil
         go_simp
         (go_at_call 48;(with_reducible refine(HWH.out _ ?hx).mono ?_);(case hx=>exact hHeld);rintro e Wg ⟨S9,c9,rfl,hr9,hc9,hq⟩;have HBg:=Hd (hHeld.trans (hq.mono hHeld.size));have HRg:=Hd hr9;clear hr9 hc9;clear hq)
         go_wp2_with fail
         refine hK.out _ _ ?_ (fun hHeld=>?_)
         · exact HBg.out
         clear hK K
         (try simp only [Act.put,Yd,Ye,Yf])
         refine wpAnyH_ready (rs:=[15]) (by kernel_rfl) (by simp) ?_;refine AllReadyH.cons (by rfl) (fun K hK=>?_) AllReadyH.nil
         go_simp
         (go_at_call 13;(with_reducible refine(HFT.out S9 c9 _ HRg.out ?hx).mono ?_);(case hx=>exact hHeld);rintro e Wn ⟨rfl,hq⟩;have HBn:=Hd (hHeld.trans (hq.mono hHeld.size));clear hq)
         go_wp2_with fail
         refine hK.out _ _ ?_ (fun hHeld=>?_)
         · exact HBn.out
         clear hK K
         (try simp only [Act.put,Yd,Ye,Yf])
         refine wpAnyH_take (i:=16) (oi:=?oi15) (v:=?v15) ?h1x15 (by kernel_rfl) ?h3x15 (by kernel_rfl) ?h5x15 (Or.inl ⟨?h6x15,?h7x15⟩) hHeld ?h8x15
         case h1x15=>
          simp only [Ya,Yb,Yc];rfl
         case h3x15=>kernel_rfl
         case h5x15=>exact fun _ _ _ h=>h
         case h6x15=>rfl
         case h7x15=>
          intro Wz hSW;have p0:=(hSW.cell (World.block_lt_of_cell? _ _ p0)).trans p0;have p1:=(hSW.cell (World.block_lt_of_cell? _ _ p1)).trans p1;have q2:=(hSW.cell (World.block_lt_of_cell? _ _ q2)).trans q2;have q5:=(hSW.cell (World.block_lt_of_cell? _ _ q5)).trans q5;have s0:=(hSW.cell (World.block_lt_of_cell? _ _ s0)).trans s0;have s1:=(hSW.cell (World.block_lt_of_cell? _ _ s1)).trans s1;have s2:=(hSW.cell (World.block_lt_of_cell? _ _ s2)).trans s2;have s3:=(hSW.cell (World.block_lt_of_cell? _ _ s3)).trans s3;have s4:=(hSW.cell (World.block_lt_of_cell? _ _ s4)).trans s4;have s5:=(hSW.cell (World.block_lt_of_cell? _ _ s5)).trans s5
          first | (go_simp;done) | (go_simp;with_reducible rfl)
         (try simp only [Act.put,Yd,Ye,Yf])
         refine wpAnyH_take (i:=17) (oi:=?oi16) (v:=?v16) ?h1x16 (by kernel_rfl) ?h3x16 (by kernel_rfl) ?h5x16 (Or.inl ⟨?h6x16,?h7x16⟩) hHeld ?h8x16
         case h1x16=>
          simp only [Ya,Yb,Yc];rfl
         case h3x16=>kernel_rfl
         case h5x16=>exact fun _ _ _ h=>h
         case h6x16=>rfl
         case h7x16=>
          intro Wz hSW;have p0:=(hSW.cell (World.block_lt_of_cell? _ _ p0)).trans p0;have p1:=(hSW.cell (World.block_lt_of_cell? _ _ p1)).trans p1;have q2:=(hSW.cell (World.block_lt_of_cell? _ _ q2)).trans q2;have q5:=(hSW.cell (World.block_lt_of_cell? _ _ q5)).trans q5;have s0:=(hSW.cell (World.block_lt_of_cell? _ _ s0)).trans s0;have s1:=(hSW.cell (World.block_lt_of_cell? _ _ s1)).trans s1;have s2:=(hSW.cell (World.block_lt_of_cell? _ _ s2)).trans s2;have s3:=(hSW.cell (World.block_lt_of_cell? _ _ s3)).trans s3;have s4:=(hSW.cell (World.block_lt_of_cell? _ _ s4)).trans s4;have s5:=(hSW.cell (World.block_lt_of_cell? _ _ s5)).trans s5
          first | (go_simp;done) | (go_simp;with_reducible rfl)
         (try simp only [Act.put,Yd,Ye,Yf])
         refine wpAnyH_done (by kernel_rfl) ?_ _
         cases ft with
         | false=>
          have HO:=Hd (show out=false from HNK.out HCV.out)
          go_wp2_with fail
          go_ret
          exact⟨ret_boolC HO.out.symm,below_nextC HBX.out HBn.out⟩
         | true=>
          have HT2:=Hd (HNX.out HCV.out)
          go_wp2_with fail
          go_roundw
          case rel=>exact⟨k+1,by omega,by go_num,HT2.out,below_nextC HBL.out HBn.out⟩
          case measure=>simp [intOf];omega
      · obtain rfl:k=al:=by omega
        have HO:=Hd (show out=true by rw [HC3.out];exact HALL.out fun j hj=>HTO.out j hj);clear hbr
        go_wp2_with fail
        go_ret
        exact⟨ret_boolC HO.out.symm,HBW.out⟩
   · have hq0:((al:Int) != (sl:Int))=true:=by rw [bne_iff_ne];omega
     have HO:=Hd (show out=false by rw [HC2.out,decide_eq_false hlen];rfl)
     go_wp2_with fail
     go_ret
     exact⟨ret_boolC HO.out.symm,HB2.out⟩
end
section
open Go.RowKit Go.Sort Go.BigFrame
theorem whenC_at{es:List En}{nd:Nd}{y:Ex}{fs:List Ft}{on:List Cd}{k:Nat}(hn:on.length=k+1) (ha:y.arms.length=1) (hs:y.subs.length=1):whenC es nd y fs on=match armR es (y.arms[0]?.getD ByteArray.empty) with
 | none=>false
 | some r=>eqC (on[k]?.getD default) ⟨y.s,r.2.2⟩ && (hasC es nd y.s (on.take k) && fitAt fs 0 (on.take k)):=by
 have hon:on=on.take k++[on[k]?.getD default]:=by
  have h1:=List.take_succ_eq_append_getElem (l:=on) (i:=k) (by omega);rw [List.take_of_length_le (by omega)] at h1;rw [List.getElem?_eq_getElem (by omega)];exact h1
 unfold whenC;rw [decide_eq_true ha,decide_eq_true hs];generalize on.take k=ah at *;generalize on[k]?.getD default=l at *;subst hon
 cases hr:rowC es nd y.s with
 | none=>
  have h0:hasC es nd y.s ah=false:=by unfold hasC;rw [hr]
  cases armR es (y.arms[0]?.getD ByteArray.empty) with
  | none=>rfl
  | some r=>simp only [h0,Bool.false_and,Bool.and_false]
 | some row=>
  cases armR es (y.arms[0]?.getD ByteArray.empty) with
  | none=>rfl
  | some r=>
   simp only [Bool.and_true,Bool.true_and]
   by_cases h1:ah=row
   · subst h1;have h0:hasC es nd y.s ah=true:=hasC_eq.2 hr;rw [h0,Bool.true_and]
     congr 1
     by_cases h2:l=⟨y.s,r.2.2⟩
     · rw [h2,sameC_refl,eqC_refl]
     · rw [sameC_no (show ¬ (ah++[l]=ah++[(⟨y.s,r.2.2⟩:Cd)]) from fun e=>h2 (by simpa using List.append_cancel_left e))]
       cases h3:eqC l ⟨y.s,r.2.2⟩ with
       | false=>rfl
       | true=>exact absurd (eqC_eq.1 h3) h2
   · have h0:hasC es nd y.s ah=false:=by
      cases h:hasC es nd y.s ah with
      | false=>rfl
      | true=>
       rw [hasC_eq,hr] at h;exact absurd (Option.some.inj h).symm h1
     rw [h0,Bool.false_and,Bool.and_false,sameC_no (show ¬ (ah++[l]=row++[(⟨y.s,r.2.2⟩:Cd)]) from fun e=>h1 (List.append_inj_left' e rfl)),Bool.false_and]
theorem whenC_no{es:List En}{nd:Nd}{y:Ex}{fs:List Ft}{on:List Cd}(h:on.length=0∨¬ y.arms.length=1∨¬ y.subs.length=1):whenC es nd y fs on=false:=by
 unfold whenC
 cases rowC es nd y.s with
 | none=>rfl
 | some row=>
  cases armR es (y.arms[0]?.getD ByteArray.empty) with
  | none=>rfl
  | some r=>
   simp only;rcases h with h | h | h
   · have:on=[]:=List.eq_nil_of_length_eq_zero h;subst this;rw [sameC_no (by simp),Bool.false_and,Bool.and_false]
   · rw [decide_eq_false h,Bool.false_and,Bool.false_and]
   · rw [decide_eq_false h,Bool.and_false,Bool.false_and]
theorem clSampled(es:List En) (x:Nd) (r:Km) (y:Ex) (A:Option Addr) (ca:Nat) (B:Option Addr) (cb:Nat) (On:Option Addr) (n oc:Nat) (on:List Cd) (w:World) (h:rdKm w es x r) (hx:rdX w y A B) (ho:RdC w On n on) (hoc:n≤oc) (fs:List Ft)
 (hsub:0<y.subs.length→∀ A' ca' B' cb' w1,Below w.heap.size w w1→rdX w1 (subX y 0) A' B' →
  Calls Try.prog 27 #[.agg (kmA es x r),.agg (exA (subX y 0) A' ca' B' cb'),.slice On (n-1) (n-1)] w1 fun e w'=>e=.returned (.bool (fitAt fs 0 (on.take (n-1))))∧Below w1.heap.size w1 w'):
 Calls Try.prog 46 #[.agg (kmA es x r),.agg (exA y A ca B cb),.slice On n oc] w fun e w'=>e=.returned (.bool (whenC es x y fs on))∧Below w.heap.size w w':=by
 have HF:=Hd fun w0 hw=>cl_box2 (w:=w) (w1:=w0) (cs:=kmA es x r) (ds:=exA y A ca B cb) (T:=62) (U:=29) hw;have HCO:=Hd fun a t w1 (hb:Below w.heap.size w w1)=>clCond es x r a t w1 (h.1.below hb);have HHA:=Hd fun w1 (hb:Below w.heap.size w w1) (hn:0<n)=>clHas es x r y.s On (n-1) (n-1) (on.take (n-1)) w1 (h.below hb) ((ho.below hb).take (by omega));have HON:=Hd ho;have HOL:=Hd (RdS.len ho);have HSB:=Hd fun k (hkk:k<y.subs.length)=>hx.sub hkk;have HSUB:=Hd hsub;have HAL:=Hd fun(h:y.arms.length=1)=>RdT.cellC (k:=0) hx.arms (by omega);have HAT:=Hd fun k hn ha hs=>whenC_at (es:=es) (nd:=x) (y:=y) (fs:=fs) (on:=on) (k:=k) hn ha hs;have HWN:=Hd fun h=>whenC_no (es:=es) (nd:=x) (y:=y) (fs:=fs) (on:=on) h;have hox:=RdS.max ho;have HOC:=Hd hoc;clear h hx ho hsub;unfold condV cdA at HCO;generalize whenC es x y fs on=out at *;unfold kmA exA at *;generalize es.length=pe at *;generalize hsl:y.subs.length=sl at *;generalize hal:y.arms.length=al at *;generalize y.s=ys at *
 go_enter Try.func46,Try.ntmps46
 go_upto_region 1 with(fail)
 generalize hw0:(w.alloc _).alloc _=w0;obtain⟨hb0,hsz,hp,hq⟩:=HF.out w0 hw0;have HB0:=Hd hb0;have HP:=Hd hp;have HX:=Hd hq;have q4:=hq w0 (Below.refl _ _) 4;have q5:=hq w0 (Below.refl _ _) 5;simp only [Ya,Yb,Yc] at q4 q5;clear hw0 hb0 hsz hp hq HF
 by_cases hn0:n=0
 · have na:((n:Int)==0)=true:=by rw [hn0];rfl
   have HO:=Hd (show out=false from HWN.out (.inl (by rw [HOL.out];exact hn0)));clear hn0
   go_wp2_with fail
   go_ret
   exact⟨ret_boolC HO.out.symm,HB0.out⟩
 have na:((n:Int)==0)=false:=by rw [beq_eq_false_iff_ne];omega
 by_cases ha1:al=1
 · by_cases hs1:sl=1
   · have nb:((al:Int) != 1)=false:=by rw [ha1];rfl
     have ns:((sl:Int) != 1)=false:=by rw [hs1];rfl
     obtain⟨k,rfl⟩:∃ k,n=k+1:=⟨n-1,by omega⟩;obtain⟨tb,tof,rfl,htb,t0⟩:=HAL.out ha1;have t0:=(HB0.out.cell (p:=⟨tb,tof,none⟩) htb).trans (by simpa using t0);have HCC:=Hd (HAT.out k HOL.out ha1 hs1);simp only [Nat.add_sub_cancel] at HHA HSUB;have HCK:=Hd fun w1 (hb:Below w.heap.size w w1)=>HCO.out ys (y.arms[0]?.getD ByteArray.empty) w1 hb;generalize y.arms[0]?.getD ByteArray.empty=dct at *;generalize ho:armR es dct=o at *;generalize hov:(o.map (·.2.2)).getD 0=ov at *;generalize hos:o.isSome=os at *;have HCV:=Hd (show out=(os && (eqC (on[k]?.getD default) ⟨ys,ov⟩ && (hasC es x ys (on.take k) && fitAt fs 0 (on.take k)))) by rw [HCC.out];subst hos hov;cases o <;> rfl);clear ho hov hos HCC HAT HWN;have h0a:(0:Int)<(al:Int):=by omega
     have k1:((k:Int)+1-1)=(k:Int):=by omega
     obtain⟨ob,oo,rfl,hob,hoa⟩:=RdS.at_ HON.out (by omega);obtain⟨o0,o1⟩:=(hoa k (by omega)).two;have o0:=(HB0.out.cell (p:=⟨ob,oo+k*2,none⟩) hob).trans o0;have o1:=(HB0.out.cell (p:=⟨ob,oo+k*2+1,none⟩) hob).trans o1;clear hoa;generalize on[k]?.getD default=l at *;obtain⟨l0,l1⟩:=l
     dsimp only at o0 o1
     obtain⟨r0,r1,r2,r3,r4,r5⟩:=Sx (HP.out w0 (Below.refl _ _));have q2:=HX.out w0 (Below.refl _ _) 2;simp only [Ya,Yb,Yc] at r0 r1 r2 r3 r4 r5 q2
     go_upto_region 5 with(fail)
     refine wp_region_mid (l:=[_,_,_,_,_,_,_,_,_,_,_,_,_,_]) 11 12 _ _ (d:=9) (tx:=42) (T:=60) (zc:=#[.string ⟨#[]⟩,.int .i64 0]) (by kernel_rfl) rfl rfl (by kernel_rfl) rfl (by simp) (fun a W=>by rfl) rfl (by kernel_rfl) ?_
     repeat
      first
      | refine fix_skipG rfl ?_
      | (apply fix_stepG rfl rfl (by simp)
         case h1=>
          intro wb hb;have hbb:=cls_below hb;have m0:=fun d os=>cell_regrown ((hbb.cell (World.block_lt_of_cell? _ _ r0)).trans r0) d os;have m1:=fun d os=>cell_regrown ((hbb.cell (World.block_lt_of_cell? _ _ r1)).trans r1) d os;have m2:=fun d os=>cell_regrown ((hbb.cell (World.block_lt_of_cell? _ _ r2)).trans r2) d os;have m3:=fun d os=>cell_regrown ((hbb.cell (World.block_lt_of_cell? _ _ r3)).trans r3) d os;have m4:=fun d os=>cell_regrown ((hbb.cell (World.block_lt_of_cell? _ _ r4)).trans r4) d os;have m5:=fun d os=>cell_regrown ((hbb.cell (World.block_lt_of_cell? _ _ r5)).trans r5) d os;have m6:=fun d os=>cell_regrown ((hbb.cell (World.block_lt_of_cell? _ _ q2)).trans q2) d os;have m7:=fun d os=>cell_regrown ((hbb.cell (World.block_lt_of_cell? _ _ q4)).trans q4) d os;have m8:=fun d os=>cell_regrown ((hbb.cell (World.block_lt_of_cell? _ _ t0)).trans t0) d os;have h3:=below_nextC HB0.out hbb;have cA:=fun d os=>Calls.regrown_of (HCK.out (grow (redrawn wb d) os) (h3.trans ((below_regrown wb d os).mono h3.size)));clear h3 hbb
          go_big_quiet_step (with_reducible exact cA _ _)
          refine wpQuiet_nil ?_;simp only [List.getElem?_toArray,List.getElem?_cons_succ,List.getElem?_cons_zero];exact rfl
         simp only [Act.put,Yd,Ye,Yf])
     refine⟨#[.string ys,.int .i64 ov],rfl,rfl,by simp [Value.oneCell'],fun W g hW hg hz=>?_⟩;have hbX:=cls_below hW;have HBX:=Hd (below_nextC HB0.out hbX);have HBY:=Hd hbX;have HZ:=Hd (show RowC2 W g ⟨ys,ov⟩ from hz);clear hW hg hz r0 r1 r2 r3 r4 r5 q2 q4 q5 t0 hbX
     show Exit.then _ _ .normal _ W
     simp only [Act.put,Yd,Ye,Yf];have o0:=(HBY.out.cell (World.block_lt_of_cell? _ _ o0)).trans o0;have o1:=(HBY.out.cell (World.block_lt_of_cell? _ _ o1)).trans o1;have z0:=HZ.out.cells 0;have z1:=HZ.out.cells 1;simp only [cdA,List.getElem?_toArray,List.getElem?_cons_zero,List.getElem?_cons_succ] at z0 z1;have hk1:(k:Int)<(k:Int)+1:=by omega
     cases os with
     | false=>
      have HO:=Hd (show out=false from HCV.out)
      go_upto_region 6 with(fail)
      go_quiet (fail)
      go_wp2_with fail
      go_ret
      exact⟨ret_boolC HO.out.symm,below_drewN HBX.out _⟩
     | true=>
      by_cases e0:l0=ys
      · by_cases e1:l1=ov
        · have HCV2:=Hd (show out=(hasC es x ys (on.take k) && fitAt fs 0 (on.take k)) by rw [HCV.out,e0,e1,eqC_refl];rfl);subst e0 e1;clear HCV;obtain⟨sb,so,rfl,hsb,hsc⟩:=HSB.out 0 (by omega);obtain⟨A',ca',B',cb',hrg,hrd⟩:=hsc 0 (by omega);obtain⟨s0,s1,s2,s3,s4,s5⟩:=rangeAt_six (rangeAt_keep hrg hsb fun p hp=>HBX.out.cell hp);simp only [Nat.zero_mul,Nat.add_zero] at s0 s1 s2 s3 s4 s5;have HHW:=Hd fun W' (hb:Below W.heap.size W W')=>HHA.out W' (below_nextC HBX.out hb) (by omega);have HFW:=Hd fun W' (hb:Below W.heap.size W W')=>HSUB.out (by omega) A' ca' B' cb' W' (below_nextC HBX.out hb) (hrd.below (below_nextC HBX.out hb));have h0s:(0:Int)<(sl:Int):=by omega
          obtain⟨r0,r1,r2,r3,r4,r5⟩:=Sx (HP.out W HBY.out);have q2:=HX.out W HBY.out 2;have q5:=HX.out W HBY.out 5;simp only [Ya,Yb,Yc] at r0 r1 r2 r3 r4 r5 q2 q5;clear hsc hrg hrd;generalize hasC es x l0 (on.take k)=hb at *;generalize fitAt fs 0 (on.take k)=ft at *;generalize subX y 0=yy at *
          cases hb with
          | false=>
           have HO:=Hd (show out=false from HCV2.out)
           go_upto_region 6 with(fail)
           have l0:=fun d os=>cell_regrown o0 d os;have l1:=fun d os=>cell_regrown o1 d os;have l2:=fun d os=>cell_regrown z0 d os;have l3:=fun d os=>cell_regrown z1 d os;have l4:=fun d os=>cell_regrown r0 d os;have l5:=fun d os=>cell_regrown r1 d os;have l6:=fun d os=>cell_regrown r2 d os;have l7:=fun d os=>cell_regrown r3 d os;have l8:=fun d os=>cell_regrown r4 d os;have l9:=fun d os=>cell_regrown r5 d os;have l10:=fun d os=>cell_regrown q2 d os;have l11:=fun d os=>cell_regrown q5 d os;have l12:=fun d os=>cell_regrown s0 d os;have l13:=fun d os=>cell_regrown s1 d os;have l14:=fun d os=>cell_regrown s2 d os;have l15:=fun d os=>cell_regrown s3 d os;have l16:=fun d os=>cell_regrown s4 d os;have l17:=fun d os=>cell_regrown s5 d os;have HBQ:=Hd fun d os=>below_regrown W d os;have cA0:=fun d os=>Calls.regrown_of (HHW.out (grow (redrawn W d) os) (below_regrown W d os));refine wp_region_quiet_below (by kernel_rfl) (by kernel_rfl) ?_
           repeat (go_big_quiet_step (first | with_reducible exact cA0 _ _))
           refine wpQuiet_nil ?_;intro _ hw';obtain⟨⟨dq,osq⟩,hw''⟩:=hw';subst hw'';have HB1:=Hd (HBQ.out dq osq);clear l0 l1 l2 l3 l4 l5 l6 l7 l8 l9 l10 l11 l12 l13 l14 l15 l16 l17 cA0 o0 o1 z0 z1 r0 r1 r2 r3 r4 r5 q2 q5 s0 s1 s2 s3 s4 s5
           go_wp2_with fail
           go_ret
           exact⟨ret_boolC HO.out.symm,below_nextC HBX.out HB1.out⟩
          | true=>
           have HO:=Hd (show out=ft from HCV2.out)
           go_upto_region 6 with(fail)
           have l0:=fun d os=>cell_regrown o0 d os;have l1:=fun d os=>cell_regrown o1 d os;have l2:=fun d os=>cell_regrown z0 d os;have l3:=fun d os=>cell_regrown z1 d os;have l4:=fun d os=>cell_regrown r0 d os;have l5:=fun d os=>cell_regrown r1 d os;have l6:=fun d os=>cell_regrown r2 d os;have l7:=fun d os=>cell_regrown r3 d os;have l8:=fun d os=>cell_regrown r4 d os;have l9:=fun d os=>cell_regrown r5 d os;have l10:=fun d os=>cell_regrown q2 d os;have l11:=fun d os=>cell_regrown q5 d os;have l12:=fun d os=>cell_regrown s0 d os;have l13:=fun d os=>cell_regrown s1 d os;have l14:=fun d os=>cell_regrown s2 d os;have l15:=fun d os=>cell_regrown s3 d os;have l16:=fun d os=>cell_regrown s4 d os;have l17:=fun d os=>cell_regrown s5 d os;have HBQ:=Hd fun d os=>below_regrown W d os;have cA0:=fun d os=>Calls.regrown_of (HHW.out (grow (redrawn W d) os) (below_regrown W d os));have cA1:=fun d os=>Calls.regrown_of (HFW.out (grow (redrawn W d) os) (below_regrown W d os));refine wp_region_quiet_below (by kernel_rfl) (by kernel_rfl) ?_
           repeat (go_big_quiet_step (first | with_reducible exact cA0 _ _ | with_reducible exact cA1 _ _))
           refine wpQuiet_nil ?_;intro _ hw';obtain⟨⟨dq,osq⟩,hw''⟩:=hw';subst hw'';have HB1:=Hd (HBQ.out dq osq);clear l0 l1 l2 l3 l4 l5 l6 l7 l8 l9 l10 l11 l12 l13 l14 l15 l16 l17 cA0 cA1 o0 o1 z0 z1 r0 r1 r2 r3 r4 r5 q2 q5 s0 s1 s2 s3 s4 s5
           go_wp2_with fail
           go_ret
           exact⟨ret_boolC HO.out.symm,below_nextC HBX.out HB1.out⟩
        · have f1:(l1==ov)=false:=by rw [beq_eq_false_iff_ne];exact e1
          have HO:=Hd (show out=false by rw [HCV.out];simp [eqC,f1]);subst e0
          go_upto_region 6 with(fail)
          go_quiet (fail)
          go_wp2_with fail
          go_ret
          exact⟨ret_boolC HO.out.symm,below_drewN HBX.out _⟩
      · have f0:(l0.toList==ys.toList)=false:=by
         cases h:(l0.toList==ys.toList) with
         | false=>rfl
         | true=>exact absurd (bytes_eq h) e0
        have HO:=Hd (show out=false by rw [HCV.out];simp [eqC,f0])
        go_upto_region 6 with(fail)
        go_quiet (fail)
        go_wp2_with fail
        go_ret
        exact⟨ret_boolC HO.out.symm,below_drewN HBX.out _⟩
   · have nb:((al:Int) != 1)=false:=by rw [ha1];rfl
     have ns:((sl:Int) != 1)=true:=by rw [bne_iff_ne];omega
     have HO:=Hd (show out=false from HWN.out (.inr (.inr hs1)))
     go_wp2_with fail
     go_ret
     exact⟨ret_boolC HO.out.symm,HB0.out⟩
 · have nb:((al:Int) != 1)=true:=by rw [bne_iff_ne];omega
   have HO:=Hd (show out=false from HWN.out (.inr (.inl ha1)))
   go_wp2_with fail
   go_ret
   exact⟨ret_boolC HO.out.symm,HB0.out⟩
end
end Go.Proofs.Ytkbpdoomhfkngaa
