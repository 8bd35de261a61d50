/- Parts of the proof: ClK, ClL. Conditions: each theorem's own. -/
import Derived.ArgAppend
import Derived.Test.YtkbpdoomhfkngaaGreatR38
namespace Go.Proofs.YtkbpdoomhfkngaaGreat
set_option linter.unusedVariables false
set_option linter.unusedSimpArgs false
set_option maxRecDepth 100000
set_option maxHeartbeats 40000000
section
open Go.RowKit Go.Sort Go.BigFrame
theorem step_append_full{P:Program}{ops:Array Oper}{o:Oper}{a:Act}{w:World}{K:Act→World→Prop}{Q:Exit→Act→World→Prop}{E:Prop}
 (hw:Region.wanted o (yielded ops a.tmps)=true) (s x:Operand) (t:TypeId) (hop:o.op=Op.call { callee:=Callee.builtin Builtin.append,args:=#[s,x],argTypes:=#[t,t] })
 (e:TypeId) (i:TypeInfo) (z:Value) (size bytes:Nat) (h1:P.underlying t=some (.slice e)) (h2:P.info? e=some i) (h3:i.zero=some z) (h4:i.size=size) (h5:i.bytes=bytes) (h6:z.cells.size=size) (h7:0<size)
 (ao:Option Addr) (n cap:Nat) (olds:List Value) (hs:a.eval s=.slice ao n cap) (hnone:ao=none→n=0∧cap=0) (hlo:olds.length=n*size) (holds:∀ b,ao=some b→∀ j u,olds[j]?=some u→w.cell? (b.add j)=some u)
 (ad:Addr) (m c:Nat) (news:List Value) (hx:a.eval x=.slice (some ad) m c) (hn:news.length=m*size) (hc:∀ j u,news[j]?=some u→w.cell? (ad.add j)=some u) (h1c:∀ u∈news,u.oneCell'=true)
 (hfull:cap<n+m) (b1:n+m≤maxLen) (b2:(n+m)*bytes≤140737488355328)
 (hK:∀ v' w',w'.ownsRow w.heap.size e size v' (n+m) (olds++news)→w.grownBy w' none→K (a.put o.dst v') w'):
 if Region.wanted o (yielded ops a.tmps)=true then Oper.wp P o a w K Q else E:=by
 rw [if_pos hw]
 cases ao with
 | some b=>
  obtain⟨v',w',hrun,r1,r2⟩:=run_append_arg_grows (P:=P) w t o.type e i z size bytes h1 h2 h3 h4 h5 h6 h7 b n cap olds hlo (holds b rfl) ad m c news hn hc hfull b1 b2;unfold Oper.wp
  simp [execOp,hop,resolve,invoke,builtin,hs,hx,hrun,Result.andThen]
  exact hK v' w' r1 r2
 | none=>
  obtain⟨rfl,rfl⟩:=hnone rfl;obtain rfl:olds=[]:=List.eq_nil_of_length_eq_zero (by simpa using hlo);obtain⟨v',w',hrun,r1,r2,_⟩:=run_append_own (P:=P) w w.heap.size t o.type e i z size bytes h1 h2 h3 h4 h5 h6 h7 (.slice none 0 0) 0 [] (World.ownsRow_nil w _ e size) ad m c news hn hc h1c b1 b2 (Nat.le_refl _);unfold Oper.wp
  simp [execOp,hop,resolve,invoke,builtin,hs,hx,hrun,Result.andThen]
  exact hK v' w' r1 r2
theorem clMerged(es:List En) (x:Nd) (r:Km) (y:Ex) (A:Option Addr) (ca:Nat) (B:Option Addr) (cb:Nat) (On:Option Addr) (n oc:Nat) (on:List Cd) (w:World) (h:rdKm w es x r) (hx:rdX w y A B) (ho:RdC w On n on) (hoc:n≤oc) (hon:n≤3000000) (fs:List Ft)
 (hsub:∀ k,k<y.subs.length→∀ A' ca' B' cb' R cr row w1,Below w.heap.size w w1→rdX w1 (subX y k) A' B'→RdC w1 R (n+1) row→n+1≤cr →
  Calls Tryz.prog 31 #[.agg (kmA es x r),.agg (exA (subX y k) A' ca' B' cb'),.slice R (n+1) cr] w1 fun e w'=>e=.returned (.bool (fitAt fs k row))∧Below w1.heap.size w1 w'):
 Calls Tryz.prog 51 #[.agg (kmA es x r),.agg (exA y A ca B cb),.slice On n oc] w fun e w'=>e=.returned (.bool (mergeC es x y fs on))∧Below w.heap.size w w':=by
 have HF:=Hd fun w0 hw=>cl_box2 (w:=w) (w1:=w0) (cs:=kmA es x r) (ds:=exA y A ca B cb) (T:=57) (U:=52) hw;have HCO:=Hd fun a t w1 (hb:Below w.heap.size w w1)=>clCond es x r a t w1 (h.1.below hb);have HHA:=Hd fun w1 (hb:Below w.heap.size w w1)=>clHas es x r y.s On n oc on w1 (h.below hb) (ho.below hb);have HON:=Hd ho;have HOL:=Hd (RdS.len ho);have HSB:=Hd fun k (hkk:k<y.subs.length)=>hx.sub hkk;have HSUB:=Hd hsub;have HAL:=Hd fun k (h:k<y.arms.length)=>RdT.cellC (k:=k) hx.arms h;have HC:=Hd (show mergeC es x y fs on=(hasC es x y.s on && decide (y.arms.length=y.subs.length) && (List.range y.subs.length).all (armC es y fs on)) from rfl);have HNO:=Hd fun k (hk:k<y.subs.length) h=>mergeC_no (es:=es) (n:=x) (x:=y) (fs:=fs) (on:=on) hk h;have HALL:=Hd fun h=>(rangeC_all (n:=y.subs.length) (f:=armC es y fs on)).2 h;have HAE:=Hd (armC_eq es y fs on);obtain⟨i0,z0,hi0,hz1,hz0,hz2,hz3⟩:=info_three infoCond;have hox:=RdS.max ho;have hsx:=hx.subs.2.1;have hax:=hx.arms.2.1;clear h hx ho hsub;unfold condV cdA at HCO;generalize mergeC es x y fs on=out at *;generalize hasC es x y.s on=hv at *;unfold kmA exA at *;generalize es.length=pe at *;generalize hsl:y.subs.length=sl at *;generalize hal:y.arms.length=al at *;generalize y.s=ys at *
 go_enter Tryz.func51,Tryz.ntmps51
 go_upto_region 1 with(fail)
 generalize hw0:(w.alloc _).alloc _=w0;obtain⟨hb0,hsz,hp,hq⟩:=HF.out w0 hw0;have HB0:=Hd hb0;have HP:=Hd hp;have HX:=Hd hq;obtain⟨r0,r1,r2,r3,r4,r5⟩:=Sx (hp w0 (Below.refl _ _));obtain⟨-,-,q2,-,q4,q5⟩:=Sx (hq w0 (Below.refl _ _));simp only [Ya,Yb,Yc] at r0 r1 r2 r3 r4 r5 q2 q4 q5;have HH0:=Hd (HHA.out w0 hb0);clear hw0 hb0 hsz hp hq HF HHA
 by_cases hlen:al=sl
 · subst hlen;have hq0:((al:Int) != (al:Int))=false:=by simp
   go_wp2_with fail
   refine HH0.out.mono ?_;rintro e w2 ⟨rfl,hb2⟩;have HB2:=Hd (below_nextC HB0.out hb2);have HP2:=Hd fun W (b:Below w2.heap.size w2 W) j=>HP.out W (below_nextC hb2 b) j;have HX2:=Hd fun W (b:Below w2.heap.size w2 W) j=>HX.out W (below_nextC hb2 b) j;clear r0 r1 r2 r3 r4 r5 q2 q4 q5 hb2 HP HX HH0
   cases hv with
   | false=>
    have HO:=Hd (show out=false from HC.out)
    go_wp2_with fail
    go_ret
    exact⟨ret_boolC HO.out.symm,HB2.out⟩
   | true=>
    have HC3:=Hd (show out=(List.range al).all (armC es y fs on) by rw [HC.out];simp only [eq_self,decide_true,Bool.true_and]);have q5:=HX2.out w2 (Below.refl _ _) 5;simp only [Ya,Yb,Yc] at q5
    go_wp2_with fail
    clear q5 HC
    go_loopw [35] (fun c wr=>∃ k:Nat,k≤al∧c=.int .i64 k∧(∀ j,j<k→armC es y fs on j=true)∧Below w2.heap.size w2 wr) (fun c _=>al-(intOf c).toNat)
    case atStart=>exact⟨0,Nat.zero_le _,rfl,fun j hj=>absurd hj (by omega),Below.refl _ _⟩
    case round=>
     obtain⟨k,hk,rfl,hto,hbr⟩:=hrel;have HTO:=Hd hto;have HBR:=Hd hbr;have HBW:=Hd (below_nextC HB2.out hbr);clear hto hbr
     by_cases hlt:k<al
     · obtain⟨tb,tof,rfl,htb,t0⟩:=HAL.out k hlt;obtain⟨sb,so,rfl,hsb,hsc⟩:=HSB.out k hlt;obtain⟨A',ca',B',cb',hrg,hrd⟩:=hsc k hlt;obtain⟨s0,s1,s2,s3,s4,s5⟩:=rangeAt_six (rangeAt_keep hrg hsb fun p hp=>HBW.out.cell hp);have HRD:=Hd hrd;have HNK:=Hd (HNO.out k hlt);have HNX:=Hd fun(h:armC es y fs on k=true)=>to_next (P:=fun j=>armC es y fs on j=true) HTO.out h;have HEK:=Hd (HAE.out k);have HSK:=Hd fun R cr row w1 (hb:Below w.heap.size w w1) (hr:RdC w1 R (n+1) row) (hc:n+1≤cr)=>HSUB.out k hlt A' ca' B' cb' R cr row w1 hb (hrd.below hb) hr hc;have HCK:=Hd fun w1 (hb:Below w.heap.size w w1)=>HCO.out ys (y.arms[k]?.getD ByteArray.empty) w1 hb;clear hsc hrg hrd;generalize y.arms[k]?.getD ByteArray.empty=dct at *;generalize ho:armR es dct=o at *;generalize hov:(o.map (·.2.2)).getD 0=ov at *;generalize hos:o.isSome=os at *;have HCV:=Hd (show armC es y fs on k=(os && fitAt fs k (on++[⟨ys,ov⟩])) by rw [HEK.out];subst hos hov;cases o <;> rfl);clear ho hov hos HEK;generalize hak:armC es y fs on k=ak at *;clear hak;generalize subX y k=z at *
       go_upto_region 7 with(fail)
       generalize hw4:wr.alloc _=w4;obtain⟨hb4,hg4,hk4⟩:=cl_box hw4;have HB4:=Hd (below_nextC HBW.out hb4);have HL4:=Hd (below_nextC HBR.out hb4);have HK4:=Hd hk4;have t0:=(HB4.out.cell (p:=⟨tb,tof+k,none⟩) htb).trans t0;obtain⟨r0,r1,r2,r3,r4,r5⟩:=Sx (HP2.out w4 HL4.out);have q2:=HX2.out w4 HL4.out 2;have q4:=HX2.out w4 HL4.out 4;simp only [Ya,Yb,Yc] at r0 r1 r2 r3 r4 r5 q2 q4;clear hw4 hb4 hg4 hk4 s0 s1 s2 s3 s4 s5;refine wp_region_mid (l:=[_,_,_,_,_,_,_,_,_,_,_,_,_,_,_]) 12 13 _ _ (d:=9) (tx:=50) (T:=45) (zc:=#[.string ⟨#[]⟩,.int .i64 0]) (by kernel_rfl) rfl rfl (by kernel_rfl) rfl (by simp) (fun a W=>by rfl) rfl (by kernel_rfl) ?_
       repeat
        first
        | refine fix_skipG rfl ?_
        | (apply fix_stepG rfl rfl (by simp)
           case h1=>
            intro wb hb;have hbb:=cls_below hb;have m0:=fun d os=>cell_regrown ((hbb.cell (World.block_lt_of_cell? _ _ r0)).trans r0) d os;have m1:=fun d os=>cell_regrown ((hbb.cell (World.block_lt_of_cell? _ _ r1)).trans r1) d os;have m2:=fun d os=>cell_regrown ((hbb.cell (World.block_lt_of_cell? _ _ r2)).trans r2) d os;have m3:=fun d os=>cell_regrown ((hbb.cell (World.block_lt_of_cell? _ _ r3)).trans r3) d os;have m4:=fun d os=>cell_regrown ((hbb.cell (World.block_lt_of_cell? _ _ r4)).trans r4) d os;have m5:=fun d os=>cell_regrown ((hbb.cell (World.block_lt_of_cell? _ _ r5)).trans r5) d os;have m6:=fun d os=>cell_regrown ((hbb.cell (World.block_lt_of_cell? _ _ q2)).trans q2) d os;have m7:=fun d os=>cell_regrown ((hbb.cell (World.block_lt_of_cell? _ _ q4)).trans q4) d os;have m8:=fun d os=>cell_regrown ((hbb.cell (World.block_lt_of_cell? _ _ t0)).trans t0) d os;have h3:=below_nextC HB4.out hbb;have cA:=fun d os=>Calls.regrown_of (HCK.out (grow (redrawn wb d) os) (h3.trans ((below_regrown wb d os).mono h3.size)));clear h3 hbb
            go_big_quiet_step (with_reducible exact cA _ _)
            refine wpQuiet_nil ?_;simp only [List.getElem?_toArray,List.getElem?_cons_succ,List.getElem?_cons_zero];exact rfl
           simp only [Act.put,Yd,Ye,Yf])
       refine⟨#[.string ys,.int .i64 ov],rfl,rfl,by simp [Value.oneCell'],fun W g hW hg hz=>?_⟩;have hbX:=cls_below hW;have HBX:=Hd (below_nextC HB4.out hbX);have HBL:=Hd (below_nextC HL4.out hbX);have HBY:=Hd hbX;have HZ:=Hd (show RowC2 W g ⟨ys,ov⟩ from hz);clear hW hg hz r0 r1 r2 r3 r4 r5 q2 q4 t0 hbX
       show Exit.then _ _ .normal _ W
       simp only [Act.put,Yd,Ye,Yf]
       cases os with
       | false=>
        have HO:=Hd (show out=false from HNK.out HCV.out)
        go_upto_region 8 with(fail)
        go_quiet (fail)
        go_wp2_with fail
        go_ret
        exact⟨ret_boolC HO.out.symm,below_drewN HBX.out _⟩
       | true=>
        have v0:=HZ.out.cells 0;have v1:=HZ.out.cells 1;obtain⟨s0,s1,s2,s3,s4,s5⟩:=Sx (HK4.out W HBY.out);obtain⟨r0,r1,r2,r3,r4,r5⟩:=Sx (HP2.out W HBL.out);simp only [cdA,List.getElem?_toArray,List.getElem?_cons_zero,List.getElem?_cons_succ] at v0 v1 s0 s1 s2 s3 s4 s5 r0 r1 r2 r3 r4 r5;have HNS:=Hd fun W' (hb:Below W.heap.size W W')=>(HON.out.below (below_nextC HBX.out hb)).news;have HFL:=Hd (show(flC on).length=n*2 by rw [flC_len,HOL.out]);have HFA:=Hd (show flC on++cdL ⟨ys,ov⟩=flC (on++[⟨ys,ov⟩]) by rw [flC_app,flC_one]);have HFT:=Hd fun R cr W' (hr:RdC W' R (n+1) (on++[⟨ys,ov⟩])) (hc:n+1≤cr) (hb:Below W.heap.size W W')=>HSK.out R cr (on++[⟨ys,ov⟩]) W' (below_nextC HBX.out hb) hr hc
        go_upto_region 8 with(fail)
        refine wp_region_held_drew (S:=fun Wz=>Below W.heap.size W Wz) (by kernel_rfl) ?_ (fun hHeld=>?_)
        · exact(Below.refl W.heap.size W).drew
        refine wpAnyH_take (i:=0) (oi:=?oi1) (v:=?v1) ?h1x1 (by kernel_rfl) ?h3x1 (by kernel_rfl) ?h5x1 (Or.inl ⟨?h6x1,?h7x1⟩) hHeld ?h8x1
        case h1x1=>
         simp only [Ya,Yb,Yc];rfl
        case h3x1=>kernel_rfl
        case h5x1=>exact fun _ _ _ h=>h
        case h6x1=>rfl
        case h7x1=>
         intro Wz hSW;have v0:=(hSW.cell (World.block_lt_of_cell? _ _ v0)).trans v0;have v1:=(hSW.cell (World.block_lt_of_cell? _ _ v1)).trans v1;have r0:=(hSW.cell (World.block_lt_of_cell? _ _ r0)).trans r0;have r1:=(hSW.cell (World.block_lt_of_cell? _ _ r1)).trans r1;have r2:=(hSW.cell (World.block_lt_of_cell? _ _ r2)).trans r2;have r3:=(hSW.cell (World.block_lt_of_cell? _ _ r3)).trans r3;have r4:=(hSW.cell (World.block_lt_of_cell? _ _ r4)).trans r4;have r5:=(hSW.cell (World.block_lt_of_cell? _ _ r5)).trans r5;have s0:=(hSW.cell (World.block_lt_of_cell? _ _ s0)).trans s0;have s1:=(hSW.cell (World.block_lt_of_cell? _ _ s1)).trans s1;have s2:=(hSW.cell (World.block_lt_of_cell? _ _ s2)).trans s2;have s3:=(hSW.cell (World.block_lt_of_cell? _ _ s3)).trans s3;have s4:=(hSW.cell (World.block_lt_of_cell? _ _ s4)).trans s4;have s5:=(hSW.cell (World.block_lt_of_cell? _ _ s5)).trans s5
         first | (go_simp;done) | (go_simp;with_reducible rfl)
        (try simp only [Act.put,Yd,Ye,Yf])
        refine wpAnyH_take (i:=1) (oi:=?oi2) (v:=?v2) ?h1x2 (by kernel_rfl) ?h3x2 (by kernel_rfl) ?h5x2 (Or.inl ⟨?h6x2,?h7x2⟩) hHeld ?h8x2
        case h1x2=>
         simp only [Ya,Yb,Yc];rfl
        case h3x2=>kernel_rfl
        case h5x2=>exact fun _ _ _ h=>h
        case h6x2=>rfl
        case h7x2=>
         intro Wz hSW;have v0:=(hSW.cell (World.block_lt_of_cell? _ _ v0)).trans v0;have v1:=(hSW.cell (World.block_lt_of_cell? _ _ v1)).trans v1;have r0:=(hSW.cell (World.block_lt_of_cell? _ _ r0)).trans r0;have r1:=(hSW.cell (World.block_lt_of_cell? _ _ r1)).trans r1;have r2:=(hSW.cell (World.block_lt_of_cell? _ _ r2)).trans r2;have r3:=(hSW.cell (World.block_lt_of_cell? _ _ r3)).trans r3;have r4:=(hSW.cell (World.block_lt_of_cell? _ _ r4)).trans r4;have r5:=(hSW.cell (World.block_lt_of_cell? _ _ r5)).trans r5;have s0:=(hSW.cell (World.block_lt_of_cell? _ _ s0)).trans s0;have s1:=(hSW.cell (World.block_lt_of_cell? _ _ s1)).trans s1;have s2:=(hSW.cell (World.block_lt_of_cell? _ _ s2)).trans s2;have s3:=(hSW.cell (World.block_lt_of_cell? _ _ s3)).trans s3;have s4:=(hSW.cell (World.block_lt_of_cell? _ _ s4)).trans s4;have s5:=(hSW.cell (World.block_lt_of_cell? _ _ s5)).trans s5
         first | (go_simp;done) | (go_simp;with_reducible rfl)
        (try simp only [Act.put,Yd,Ye,Yf])
        refine wpAnyH_take (i:=2) (oi:=?oi3) (v:=?v3) ?h1x3 (by kernel_rfl) ?h3x3 (by kernel_rfl) ?h5x3 (Or.inl ⟨?h6x3,?h7x3⟩) hHeld ?h8x3
        case h1x3=>
         simp only [Ya,Yb,Yc];rfl
        case h3x3=>kernel_rfl
        case h5x3=>exact fun _ _ _ h=>h
        case h6x3=>rfl
        case h7x3=>
         intro Wz hSW;have v0:=(hSW.cell (World.block_lt_of_cell? _ _ v0)).trans v0;have v1:=(hSW.cell (World.block_lt_of_cell? _ _ v1)).trans v1;have r0:=(hSW.cell (World.block_lt_of_cell? _ _ r0)).trans r0;have r1:=(hSW.cell (World.block_lt_of_cell? _ _ r1)).trans r1;have r2:=(hSW.cell (World.block_lt_of_cell? _ _ r2)).trans r2;have r3:=(hSW.cell (World.block_lt_of_cell? _ _ r3)).trans r3;have r4:=(hSW.cell (World.block_lt_of_cell? _ _ r4)).trans r4;have r5:=(hSW.cell (World.block_lt_of_cell? _ _ r5)).trans r5;have s0:=(hSW.cell (World.block_lt_of_cell? _ _ s0)).trans s0;have s1:=(hSW.cell (World.block_lt_of_cell? _ _ s1)).trans s1;have s2:=(hSW.cell (World.block_lt_of_cell? _ _ s2)).trans s2;have s3:=(hSW.cell (World.block_lt_of_cell? _ _ s3)).trans s3;have s4:=(hSW.cell (World.block_lt_of_cell? _ _ s4)).trans s4;have s5:=(hSW.cell (World.block_lt_of_cell? _ _ s5)).trans s5
         first | (go_simp;done) | (go_simp;with_reducible rfl)
        (try simp only [Act.put,Yd,Ye,Yf])
        refine wpAnyH_take (i:=3) (oi:=?oi4) (v:=?v4) ?h1x4 (by kernel_rfl) ?h3x4 (by kernel_rfl) ?h5x4 (Or.inl ⟨?h6x4,?h7x4⟩) hHeld ?h8x4
        case h1x4=>
         simp only [Ya,Yb,Yc];rfl
        case h3x4=>kernel_rfl
        case h5x4=>exact fun _ _ _ h=>h
        case h6x4=>rfl
        case h7x4=>
         intro Wz hSW;have v0:=(hSW.cell (World.block_lt_of_cell? _ _ v0)).trans v0;have v1:=(hSW.cell (World.block_lt_of_cell? _ _ v1)).trans v1;have r0:=(hSW.cell (World.block_lt_of_cell? _ _ r0)).trans r0;have r1:=(hSW.cell (World.block_lt_of_cell? _ _ r1)).trans r1;have r2:=(hSW.cell (World.block_lt_of_cell? _ _ r2)).trans r2;have r3:=(hSW.cell (World.block_lt_of_cell? _ _ r3)).trans r3;have r4:=(hSW.cell (World.block_lt_of_cell? _ _ r4)).trans r4;have r5:=(hSW.cell (World.block_lt_of_cell? _ _ r5)).trans r5;have s0:=(hSW.cell (World.block_lt_of_cell? _ _ s0)).trans s0;have s1:=(hSW.cell (World.block_lt_of_cell? _ _ s1)).trans s1;have s2:=(hSW.cell (World.block_lt_of_cell? _ _ s2)).trans s2;have s3:=(hSW.cell (World.block_lt_of_cell? _ _ s3)).trans s3;have s4:=(hSW.cell (World.block_lt_of_cell? _ _ s4)).trans s4;have s5:=(hSW.cell (World.block_lt_of_cell? _ _ s5)).trans s5
         first | (go_simp;done) | (go_simp;with_reducible rfl)
        (try simp only [Act.put,Yd,Ye,Yf])
        refine wpAnyH_take (i:=4) (oi:=?oi5) (v:=?v5) ?h1x5 (by kernel_rfl) ?h3x5 (by kernel_rfl) ?h5x5 (Or.inl ⟨?h6x5,?h7x5⟩) hHeld ?h8x5
        case h1x5=>
         simp only [Ya,Yb,Yc];rfl
        case h3x5=>kernel_rfl
        case h5x5=>exact fun _ _ _ h=>h
        case h6x5=>rfl
        case h7x5=>
         intro Wz hSW;have v0:=(hSW.cell (World.block_lt_of_cell? _ _ v0)).trans v0;have v1:=(hSW.cell (World.block_lt_of_cell? _ _ v1)).trans v1;have r0:=(hSW.cell (World.block_lt_of_cell? _ _ r0)).trans r0;have r1:=(hSW.cell (World.block_lt_of_cell? _ _ r1)).trans r1;have r2:=(hSW.cell (World.block_lt_of_cell? _ _ r2)).trans r2;have r3:=(hSW.cell (World.block_lt_of_cell? _ _ r3)).trans r3;have r4:=(hSW.cell (World.block_lt_of_cell? _ _ r4)).trans r4;have r5:=(hSW.cell (World.block_lt_of_cell? _ _ r5)).trans r5;have s0:=(hSW.cell (World.block_lt_of_cell? _ _ s0)).trans s0;have s1:=(hSW.cell (World.block_lt_of_cell? _ _ s1)).trans s1;have s2:=(hSW.cell (World.block_lt_of_cell? _ _ s2)).trans s2;have s3:=(hSW.cell (World.block_lt_of_cell? _ _ s3)).trans s3;have s4:=(hSW.cell (World.block_lt_of_cell? _ _ s4)).trans s4;have s5:=(hSW.cell (World.block_lt_of_cell? _ _ s5)).trans s5
         first | (go_simp;done) | (go_simp;with_reducible rfl)
        (try simp only [Act.put,Yd,Ye,Yf])
        refine wpAnyH_take (i:=5) (oi:=?oi6) (v:=?v6) ?h1x6 (by kernel_rfl) ?h3x6 (by kernel_rfl) ?h5x6 (Or.inl ⟨?h6x6,?h7x6⟩) hHeld ?h8x6
        case h1x6=>
         simp only [Ya,Yb,Yc];rfl
        case h3x6=>kernel_rfl
        case h5x6=>exact fun _ _ _ h=>h
        case h6x6=>rfl
        case h7x6=>
         intro Wz hSW;have v0:=(hSW.cell (World.block_lt_of_cell? _ _ v0)).trans v0;have v1:=(hSW.cell (World.block_lt_of_cell? _ _ v1)).trans v1;have r0:=(hSW.cell (World.block_lt_of_cell? _ _ r0)).trans r0;have r1:=(hSW.cell (World.block_lt_of_cell? _ _ r1)).trans r1;have r2:=(hSW.cell (World.block_lt_of_cell? _ _ r2)).trans r2;have r3:=(hSW.cell (World.block_lt_of_cell? _ _ r3)).trans r3;have r4:=(hSW.cell (World.block_lt_of_cell? _ _ r4)).trans r4;have r5:=(hSW.cell (World.block_lt_of_cell? _ _ r5)).trans r5;have s0:=(hSW.cell (World.block_lt_of_cell? _ _ s0)).trans s0;have s1:=(hSW.cell (World.block_lt_of_cell? _ _ s1)).trans s1;have s2:=(hSW.cell (World.block_lt_of_cell? _ _ s2)).trans s2;have s3:=(hSW.cell (World.block_lt_of_cell? _ _ s3)).trans s3;have s4:=(hSW.cell (World.block_lt_of_cell? _ _ s4)).trans s4;have s5:=(hSW.cell (World.block_lt_of_cell? _ _ s5)).trans s5
         first | (go_simp;done) | (go_simp;with_reducible rfl)
        (try simp only [Act.put,Yd,Ye,Yf])
        refine wpAnyH_take (i:=6) (oi:=?oi7) (v:=?v7) ?h1x7 (by kernel_rfl) ?h3x7 (by kernel_rfl) ?h5x7 (Or.inl ⟨?h6x7,?h7x7⟩) hHeld ?h8x7
        case h1x7=>
         simp only [Ya,Yb,Yc];rfl
        case h3x7=>kernel_rfl
        case h5x7=>exact fun _ _ _ h=>h
        case h6x7=>rfl
        case h7x7=>
         intro Wz hSW;have v0:=(hSW.cell (World.block_lt_of_cell? _ _ v0)).trans v0;have v1:=(hSW.cell (World.block_lt_of_cell? _ _ v1)).trans v1;have r0:=(hSW.cell (World.block_lt_of_cell? _ _ r0)).trans r0;have r1:=(hSW.cell (World.block_lt_of_cell? _ _ r1)).trans r1;have r2:=(hSW.cell (World.block_lt_of_cell? _ _ r2)).trans r2;have r3:=(hSW.cell (World.block_lt_of_cell? _ _ r3)).trans r3;have r4:=(hSW.cell (World.block_lt_of_cell? _ _ r4)).trans r4;have r5:=(hSW.cell (World.block_lt_of_cell? _ _ r5)).trans r5;have s0:=(hSW.cell (World.block_lt_of_cell? _ _ s0)).trans s0;have s1:=(hSW.cell (World.block_lt_of_cell? _ _ s1)).trans s1;have s2:=(hSW.cell (World.block_lt_of_cell? _ _ s2)).trans s2;have s3:=(hSW.cell (World.block_lt_of_cell? _ _ s3)).trans s3;have s4:=(hSW.cell (World.block_lt_of_cell? _ _ s4)).trans s4;have s5:=(hSW.cell (World.block_lt_of_cell? _ _ s5)).trans s5
         first | (go_simp;done) | (go_simp;with_reducible rfl)
        (try simp only [Act.put,Yd,Ye,Yf])
        refine wpAnyH_ready (rs:=[7]) (by kernel_rfl) (by simp) ?_;refine AllReadyH.cons (by rfl) (fun K hK=>?_) AllReadyH.nil
        go_simp
        refine hK.out _ _ ?_ (fun hHeld=>?_)
        · exact hHeld.alloc hHeld.size _
        clear hK K
        (try simp only [Act.put,Yd,Ye,Yf])
        generalize hwq:World.alloc _ _=Wq at *;have HNEW:=Hd (show ∀ j u,(cdL ⟨ys,ov⟩)[j]?=some u→Wq.cell? ((⟨W.heap.size,0,none⟩:Addr).add j)=some u by subst hwq;exact fun j u hu=>World.news_of_block (heap_alloc_new _ _) j u hu);clear hwq;refine wpAnyH_ready (rs:=[8]) (by kernel_rfl) (by simp) ?_;refine AllReadyH.cons (by rfl) (fun K hK=>?_) AllReadyH.nil;refine step_append_full (by rfl) _ _ 37 (by rfl) 45 i0 z0 2 24 Tryz.underlying37 hi0 hz1 hz0 hz2 hz3 (by decide) On n n (flC on) (by rfl) (fun e=>⟨(HNS.out _ hHeld).1 e,(HNS.out _ hHeld).1 e⟩) HFL.out (fun ad e j u hu=>(HNS.out _ hHeld).2 ad e j u hu) ⟨W.heap.size,0,none⟩ 1 1 (cdL ⟨ys,ov⟩) (by rfl) rfl (fun j u hu=>HNEW.out j u hu) (by simp [cdL,Value.oneCell']) (by omega) (by unfold maxLen;omega) (by omega) ?_;intro v9 W9 hown9 hgr9;rw [HFA.out] at hown9;have HBa:=Hd (show Below W.heap.size W W9 from hHeld.grown hgr9 hHeld.size (fun j hj=>by cases hj));obtain⟨S9,c9,rfl,hr9,hc9⟩:=RdC.of_ownC hown9 (by omega);have HRg:=Hd hr9;have HCg:=Hd hc9;clear hown9 hgr9 hr9 hc9;refine hK.out _ _ ?_ (fun hHeld=>?_)
        · exact HBa.out
        clear hK K
        (try simp only [Act.put,Yd,Ye,Yf])
        refine wpAnyH_ready (rs:=[9]) (by kernel_rfl) (by simp) ?_;refine AllReadyH.cons (by rfl) (fun K hK=>?_) AllReadyH.nil
        go_simp
        (go_at_call 31;(with_reducible refine(HFT.out S9 c9 _ HRg.out HCg.out ?hx).mono ?_);(case hx=>exact hHeld);rintro e Wn ⟨rfl,hq⟩;have HBn:=Hd (hHeld.trans (hq.mono hHeld.size));clear hq)
        go_wp2_with fail
        refine hK.out _ _ ?_ (fun hHeld=>?_)
        · exact HBn.out
        clear hK K
        (try simp only [Act.put,Yd,Ye,Yf])
        refine wpAnyH_take (i:=10) (oi:=?oi8) (v:=?v8) ?h1x8 (by kernel_rfl) ?h3x8 (by kernel_rfl) ?h5x8 (Or.inl ⟨?h6x8,?h7x8⟩) hHeld ?h8x8
        case h1x8=>
         simp only [Ya,Yb,Yc];rfl
        case h3x8=>kernel_rfl
        case h5x8=>exact fun _ _ _ h=>h
        case h6x8=>rfl
        case h7x8=>
         intro Wz hSW;have v0:=(hSW.cell (World.block_lt_of_cell? _ _ v0)).trans v0;have v1:=(hSW.cell (World.block_lt_of_cell? _ _ v1)).trans v1;have r0:=(hSW.cell (World.block_lt_of_cell? _ _ r0)).trans r0;have r1:=(hSW.cell (World.block_lt_of_cell? _ _ r1)).trans r1;have r2:=(hSW.cell (World.block_lt_of_cell? _ _ r2)).trans r2;have r3:=(hSW.cell (World.block_lt_of_cell? _ _ r3)).trans r3;have r4:=(hSW.cell (World.block_lt_of_cell? _ _ r4)).trans r4;have r5:=(hSW.cell (World.block_lt_of_cell? _ _ r5)).trans r5;have s0:=(hSW.cell (World.block_lt_of_cell? _ _ s0)).trans s0;have s1:=(hSW.cell (World.block_lt_of_cell? _ _ s1)).trans s1;have s2:=(hSW.cell (World.block_lt_of_cell? _ _ s2)).trans s2;have s3:=(hSW.cell (World.block_lt_of_cell? _ _ s3)).trans s3;have s4:=(hSW.cell (World.block_lt_of_cell? _ _ s4)).trans s4;have s5:=(hSW.cell (World.block_lt_of_cell? _ _ s5)).trans s5
         first | (go_simp;done) | (go_simp;with_reducible rfl)
        (try simp only [Act.put,Yd,Ye,Yf])
        refine wpAnyH_take (i:=11) (oi:=?oi9) (v:=?v9) ?h1x9 (by kernel_rfl) ?h3x9 (by kernel_rfl) ?h5x9 (Or.inl ⟨?h6x9,?h7x9⟩) hHeld ?h8x9
        case h1x9=>
         simp only [Ya,Yb,Yc];rfl
        case h3x9=>kernel_rfl
        case h5x9=>exact fun _ _ _ h=>h
        case h6x9=>rfl
        case h7x9=>
         intro Wz hSW;have v0:=(hSW.cell (World.block_lt_of_cell? _ _ v0)).trans v0;have v1:=(hSW.cell (World.block_lt_of_cell? _ _ v1)).trans v1;have r0:=(hSW.cell (World.block_lt_of_cell? _ _ r0)).trans r0;have r1:=(hSW.cell (World.block_lt_of_cell? _ _ r1)).trans r1;have r2:=(hSW.cell (World.block_lt_of_cell? _ _ r2)).trans r2;have r3:=(hSW.cell (World.block_lt_of_cell? _ _ r3)).trans r3;have r4:=(hSW.cell (World.block_lt_of_cell? _ _ r4)).trans r4;have r5:=(hSW.cell (World.block_lt_of_cell? _ _ r5)).trans r5;have s0:=(hSW.cell (World.block_lt_of_cell? _ _ s0)).trans s0;have s1:=(hSW.cell (World.block_lt_of_cell? _ _ s1)).trans s1;have s2:=(hSW.cell (World.block_lt_of_cell? _ _ s2)).trans s2;have s3:=(hSW.cell (World.block_lt_of_cell? _ _ s3)).trans s3;have s4:=(hSW.cell (World.block_lt_of_cell? _ _ s4)).trans s4;have s5:=(hSW.cell (World.block_lt_of_cell? _ _ s5)).trans s5
         first | (go_simp;done) | (go_simp;with_reducible rfl)
        (try simp only [Act.put,Yd,Ye,Yf])
        refine wpAnyH_done (by kernel_rfl) ?_ _;generalize fitAt fs k (on++[⟨ys,ov⟩])=ft at *
        cases ft with
        | false=>
         have HO:=Hd (show out=false from HNK.out HCV.out)
         go_wp2_with fail
         go_ret
         exact⟨ret_boolC HO.out.symm,below_nextC HBX.out HBn.out⟩
        | true=>
         have HT2:=Hd (HNX.out HCV.out)
         go_wp2_with fail
         go_roundw
         case rel=>exact⟨k+1,by omega,by go_num,HT2.out,below_nextC HBL.out HBn.out⟩
         case measure=>simp [intOf];omega
     · obtain rfl:k=al:=by omega
       have HO:=Hd (show out=true by rw [HC3.out];exact HALL.out fun j hj=>HTO.out j hj)
       go_wp2_with fail
       go_ret
       exact⟨ret_boolC HO.out.symm,HBW.out⟩
 · have hq0:((al:Int) != (sl:Int))=true:=by rw [bne_iff_ne];omega
   have HO:=Hd (show out=false by rw [HC.out,decide_eq_false hlen,Bool.and_false,Bool.false_and])
   go_wp2_with fail
   go_ret
   exact⟨ret_boolC HO.out.symm,HB0.out⟩
end
section
open Go.RowKit Go.Sort Go.BigFrame
theorem clFitsC(es:List En) (nd:Nd) (r:Km) (x:Ex) (A:Option Addr) (ca:Nat) (B:Option Addr) (cb:Nat) (On:Option Addr) (n oc:Nat) (on:List Cd) (w:World) (hk:x.k=1∨x.k=2∨x.k=4):
 Calls Tryz.prog 31 #[.agg (kmA es nd r),.agg (exA x A ca B cb),.slice On n oc] w fun e w'=>e=.returned (.bool (true))∧Below w.heap.size w w':=by
 have HF:=Hd fun w0 hw=>cl_box2 (w:=w) (w1:=w0) (cs:=kmA es nd r) (ds:=exA x A ca B cb) (T:=57) (U:=52) hw;unfold kmA exA at *;generalize es.length=pe at *;generalize x.arms.length=al at *;generalize hsl:x.subs.length=sl at *
 go_enter Tryz.func31,Tryz.ntmps31
 go_upto_region 1 with(fail)
 generalize hw0:(w.alloc _).alloc _=w0;obtain⟨hb0,hsz,hp,hq⟩:=HF.out w0 hw0;have HB0:=Hd hb0;have HP:=Hd hp;have HX:=Hd hq;obtain⟨r0,r1,r2,r3,r4,r5⟩:=Sx (hp w0 (Below.refl _ _));obtain⟨q0,q1,q2,q3,q4,q5⟩:=Sx (hq w0 (Below.refl _ _));simp only [Ya,Yb,Yc] at r0 r1 r2 r3 r4 r5 q0 q1 q2 q3 q4 q5;clear hw0 hb0 hsz hp hq HF;rcases hk with hk | hk | hk
 all_goals
  rw [hk] at q0
  go_wp2_with fail
  go_ret
  exact⟨rfl,HB0.out⟩
theorem clFitsO(es:List En) (nd:Nd) (r:Km) (x:Ex) (A:Option Addr) (ca:Nat) (B:Option Addr) (cb:Nat) (On:Option Addr) (n oc:Nat) (on:List Cd) (w:World) (hk:x.k=17):
 Calls Tryz.prog 31 #[.agg (kmA es nd r),.agg (exA x A ca B cb),.slice On n oc] w fun e w'=>e=.returned (.bool (false))∧Below w.heap.size w w':=by
 have HF:=Hd fun w0 hw=>cl_box2 (w:=w) (w1:=w0) (cs:=kmA es nd r) (ds:=exA x A ca B cb) (T:=57) (U:=52) hw;unfold exA at HF ⊢;rw [hk] at HF ⊢;unfold kmA at *;generalize es.length=pe at *;generalize x.arms.length=al at *;generalize hsl:x.subs.length=sl at *
 go_enter Tryz.func31,Tryz.ntmps31
 go_upto_region 1 with(fail)
 generalize hw0:(w.alloc _).alloc _=w0;obtain⟨hb0,hsz,hp,hq⟩:=HF.out w0 hw0;have HB0:=Hd hb0;have HP:=Hd hp;have HX:=Hd hq;obtain⟨r0,r1,r2,r3,r4,r5⟩:=Sx (hp w0 (Below.refl _ _));obtain⟨q0,q1,q2,q3,q4,q5⟩:=Sx (hq w0 (Below.refl _ _));simp only [Ya,Yb,Yc] at r0 r1 r2 r3 r4 r5 q0 q1 q2 q3 q4 q5;clear hw0 hb0 hsz hp hq HF
 go_wp2_with fail
 go_ret
 exact⟨rfl,HB0.out⟩
theorem clFitsV(es:List En) (nd:Nd) (r:Km) (x:Ex) (A:Option Addr) (ca:Nat) (B:Option Addr) (cb:Nat) (On:Option Addr) (n oc:Nat) (on:List Cd) (w:World) (hk:x.k=3) (out:Bool)
 (hc:∀ w1,Below w.heap.size w w1→Calls Tryz.prog 32 #[.agg (kmA es nd r),.string x.s,.slice On n oc] w1 fun e w'=>e=.returned (.bool out)∧Below w1.heap.size w1 w'):
 Calls Tryz.prog 31 #[.agg (kmA es nd r),.agg (exA x A ca B cb),.slice On n oc] w fun e w'=>e=.returned (.bool (out))∧Below w.heap.size w w':=by
 have HF:=Hd fun w0 hw=>cl_box2 (w:=w) (w1:=w0) (cs:=kmA es nd r) (ds:=exA x A ca B cb) (T:=57) (U:=52) hw;have HC:=Hd hc;clear hc;unfold exA at HF ⊢;rw [hk] at HF ⊢;unfold kmA at *;generalize es.length=pe at *;generalize x.arms.length=al at *;generalize hsl:x.subs.length=sl at *
 go_enter Tryz.func31,Tryz.ntmps31
 go_upto_region 1 with(fail)
 generalize hw0:(w.alloc _).alloc _=w0;obtain⟨hb0,hsz,hp,hq⟩:=HF.out w0 hw0;have HB0:=Hd hb0;have HP:=Hd hp;have HX:=Hd hq;obtain⟨r0,r1,r2,r3,r4,r5⟩:=Sx (hp w0 (Below.refl _ _));obtain⟨q0,q1,q2,q3,q4,q5⟩:=Sx (hq w0 (Below.refl _ _));simp only [Ya,Yb,Yc] at r0 r1 r2 r3 r4 r5 q0 q1 q2 q3 q4 q5;clear hw0 hb0 hsz hp hq HF;have HC0:=Hd (HC.out w0 HB0.out);clear HC
 go_wp2_with fail
 refine HC0.out.mono ?_;rintro e w1 ⟨rfl,hb1⟩;have HB1:=Hd (below_nextC HB0.out hb1);clear hb1 HC0
 go_wp2_with fail
 go_ret
 exact⟨rfl,HB1.out⟩
theorem clFitsW(es:List En) (nd:Nd) (r:Km) (x:Ex) (A:Option Addr) (ca:Nat) (B:Option Addr) (cb:Nat) (On:Option Addr) (n oc:Nat) (on:List Cd) (w:World) (hk:x.k=11) (out:Bool)
 (hc:∀ w1,Below w.heap.size w w1→Calls Tryz.prog 50 #[.agg (kmA es nd r),.agg (exA x A ca B cb),.slice On n oc] w1 fun e w'=>e=.returned (.bool out)∧Below w1.heap.size w1 w'):
 Calls Tryz.prog 31 #[.agg (kmA es nd r),.agg (exA x A ca B cb),.slice On n oc] w fun e w'=>e=.returned (.bool (out))∧Below w.heap.size w w':=by
 have HF:=Hd fun w0 hw=>cl_box2 (w:=w) (w1:=w0) (cs:=kmA es nd r) (ds:=exA x A ca B cb) (T:=57) (U:=52) hw;have HC:=Hd hc;clear hc;unfold exA at HC HF ⊢;rw [hk] at HC HF ⊢;unfold kmA at *;generalize es.length=pe at *;generalize x.arms.length=al at *;generalize hsl:x.subs.length=sl at *
 go_enter Tryz.func31,Tryz.ntmps31
 go_upto_region 1 with(fail)
 generalize hw0:(w.alloc _).alloc _=w0;obtain⟨hb0,hsz,hp,hq⟩:=HF.out w0 hw0;have HB0:=Hd hb0;have HP:=Hd hp;have HX:=Hd hq;obtain⟨r0,r1,r2,r3,r4,r5⟩:=Sx (hp w0 (Below.refl _ _));obtain⟨q0,q1,q2,q3,q4,q5⟩:=Sx (hq w0 (Below.refl _ _));simp only [Ya,Yb,Yc] at r0 r1 r2 r3 r4 r5 q0 q1 q2 q3 q4 q5;clear hw0 hb0 hsz hp hq HF;have HC0:=Hd (HC.out w0 HB0.out);clear HC
 go_wp2_with fail
 refine HC0.out.mono ?_;rintro e w1 ⟨rfl,hb1⟩;have HB1:=Hd (below_nextC HB0.out hb1);clear hb1 HC0
 go_wp2_with fail
 go_ret
 exact⟨rfl,HB1.out⟩
theorem clFitsM(es:List En) (nd:Nd) (r:Km) (x:Ex) (A:Option Addr) (ca:Nat) (B:Option Addr) (cb:Nat) (On:Option Addr) (n oc:Nat) (on:List Cd) (w:World) (hk:x.k=12) (out:Bool)
 (hc:∀ w1,Below w.heap.size w w1→Calls Tryz.prog 51 #[.agg (kmA es nd r),.agg (exA x A ca B cb),.slice On n oc] w1 fun e w'=>e=.returned (.bool out)∧Below w1.heap.size w1 w'):
 Calls Tryz.prog 31 #[.agg (kmA es nd r),.agg (exA x A ca B cb),.slice On n oc] w fun e w'=>e=.returned (.bool (out))∧Below w.heap.size w w':=by
 have HF:=Hd fun w0 hw=>cl_box2 (w:=w) (w1:=w0) (cs:=kmA es nd r) (ds:=exA x A ca B cb) (T:=57) (U:=52) hw;have HC:=Hd hc;clear hc;unfold exA at HC HF ⊢;rw [hk] at HC HF ⊢;unfold kmA at *;generalize es.length=pe at *;generalize x.arms.length=al at *;generalize hsl:x.subs.length=sl at *
 go_enter Tryz.func31,Tryz.ntmps31
 go_upto_region 1 with(fail)
 generalize hw0:(w.alloc _).alloc _=w0;obtain⟨hb0,hsz,hp,hq⟩:=HF.out w0 hw0;have HB0:=Hd hb0;have HP:=Hd hp;have HX:=Hd hq;obtain⟨r0,r1,r2,r3,r4,r5⟩:=Sx (hp w0 (Below.refl _ _));obtain⟨q0,q1,q2,q3,q4,q5⟩:=Sx (hq w0 (Below.refl _ _));simp only [Ya,Yb,Yc] at r0 r1 r2 r3 r4 r5 q0 q1 q2 q3 q4 q5;clear hw0 hb0 hsz hp hq HF;have HC0:=Hd (HC.out w0 HB0.out);clear HC
 go_wp2_with fail
 refine HC0.out.mono ?_;rintro e w1 ⟨rfl,hb1⟩;have HB1:=Hd (below_nextC HB0.out hb1);clear hb1 HC0
 go_wp2_with fail
 go_ret
 exact⟨rfl,HB1.out⟩
theorem clFitsF(es:List En) (nd:Nd) (r:Km) (x:Ex) (A:Option Addr) (ca:Nat) (B:Option Addr) (cb:Nat) (On:Option Addr) (n oc:Nat) (on:List Cd) (w:World) (hk:x.k=8) (h2:x.subs.length=2) (hx:rdX w x A B) (fs:List Ft)
 (hsub:∀ k,k<x.subs.length→∀ A' ca' B' cb' w1,Below w.heap.size w w1→rdX w1 (subX x k) A' B' →
  Calls Tryz.prog 31 #[.agg (kmA es nd r),.agg (exA (subX x k) A' ca' B' cb'),.slice On n oc] w1 fun e w'=>e=.returned (.bool (fitAt fs k on))∧Below w1.heap.size w1 w'):
 Calls Tryz.prog 31 #[.agg (kmA es nd r),.agg (exA x A ca B cb),.slice On n oc] w fun e w'=>e=.returned (.bool (decide (x.subs.length=2) && fitAt fs 1 on))∧Below w.heap.size w w':=by
 have HF:=Hd fun w0 hw=>cl_box2 (w:=w) (w1:=w0) (cs:=kmA es nd r) (ds:=exA x A ca B cb) (T:=57) (U:=52) hw;have HSB:=Hd fun k (hkk:k<x.subs.length)=>hx.sub hkk;have HSUB:=Hd hsub;clear hsub hx;generalize hout:(decide (x.subs.length=2) && fitAt fs 1 on)=out at *;have HOUT:=Hd (show out=fitAt fs 1 on by rw [← hout,decide_eq_true h2,Bool.true_and]);have H2:=Hd h2;clear hout h2;unfold exA at HF HSUB ⊢;rw [hk] at HF ⊢;unfold kmA at *;generalize es.length=pe at *;generalize x.arms.length=al at *;generalize hsl:x.subs.length=sl at *
 go_enter Tryz.func31,Tryz.ntmps31
 go_upto_region 1 with(fail)
 generalize hw0:(w.alloc _).alloc _=w0;obtain⟨hb0,hsz,hp,hq⟩:=HF.out w0 hw0;have HB0:=Hd hb0;have HP:=Hd hp;have HX:=Hd hq;obtain⟨r0,r1,r2,r3,r4,r5⟩:=Sx (hp w0 (Below.refl _ _));obtain⟨q0,q1,q2,q3,q4,q5⟩:=Sx (hq w0 (Below.refl _ _));simp only [Ya,Yb,Yc] at r0 r1 r2 r3 r4 r5 q0 q1 q2 q3 q4 q5;clear hw0 hb0 hsz hp hq HF;have h2:=H2.out;obtain⟨sb,so,rfl,hsb,hsc⟩:=HSB.out 1 (by omega);obtain⟨A',ca',B',cb',hrg,hrd⟩:=hsc 1 (by omega);obtain⟨s0,s1,s2,s3,s4,s5⟩:=rangeAt_six (rangeAt_keep hrg hsb fun p hp=>HB0.out.cell hp);simp only [Nat.one_mul] at s0 s1 s2 s3 s4 s5;have HCS:=Hd fun W (hb:Below w0.heap.size w0 W)=>HSUB.out 1 (by omega) A' ca' B' cb' W (below_nextC HB0.out hb) (hrd.below (below_nextC HB0.out hb));have h1i:(1:Int)<(sl:Int):=by omega
 have h1d:decide ((1:Int)<(sl:Int))=true:=decide_eq_true h1i;clear hsc hrg hrd;generalize fitAt fs 1 on=ft at *;generalize subX x 1=y at *
 go_upto_region 13 with(fail)
 have l0:=fun d os=>cell_regrown r0 d os;have l1:=fun d os=>cell_regrown r1 d os;have l2:=fun d os=>cell_regrown r2 d os;have l3:=fun d os=>cell_regrown r3 d os;have l4:=fun d os=>cell_regrown r4 d os;have l5:=fun d os=>cell_regrown r5 d os;have l6:=fun d os=>cell_regrown q0 d os;have l7:=fun d os=>cell_regrown q1 d os;have l8:=fun d os=>cell_regrown q2 d os;have l9:=fun d os=>cell_regrown q3 d os;have l10:=fun d os=>cell_regrown q4 d os;have l11:=fun d os=>cell_regrown q5 d os;have l12:=fun d os=>cell_regrown s0 d os;have l13:=fun d os=>cell_regrown s1 d os;have l14:=fun d os=>cell_regrown s2 d os;have l15:=fun d os=>cell_regrown s3 d os;have l16:=fun d os=>cell_regrown s4 d os;have l17:=fun d os=>cell_regrown s5 d os;have HBQ:=Hd fun d os=>below_regrown w0 d os;have cA0:=fun d os=>Calls.regrown_of (HCS.out (grow (redrawn w0 d) os) (below_regrown w0 d os));refine wp_region_quiet_below (by kernel_rfl) (by kernel_rfl) ?_
 repeat (go_big_quiet_step (first | with_reducible exact cA0 _ _))
 refine wpQuiet_nil ?_;intro _ hw';obtain⟨⟨dq,osq⟩,hw''⟩:=hw';subst hw'';have HB1:=Hd (HBQ.out dq osq);clear l0 l1 l2 l3 l4 l5 l6 l7 l8 l9 l10 l11 l12 l13 l14 l15 l16 l17 cA0 r0 r1 r2 r3 r4 r5 q0 q1 q2 q3 q4 q5 s0 s1 s2 s3 s4 s5
 go_wp2_with fail
 go_ret
 exact⟨ret_boolC HOUT.out.symm,below_nextC HB0.out HB1.out⟩
theorem clFitsA(es:List En) (nd:Nd) (r:Km) (x:Ex) (A:Option Addr) (ca:Nat) (B:Option Addr) (cb:Nat) (On:Option Addr) (n oc:Nat) (on:List Cd) (w:World) (k1:(x.k==1)=false) (k2:(x.k==2)=false) (k4:(x.k==4)=false) (k3:(x.k==3)=false) (k8:(x.k==8)=false) (k11:(x.k==11)=false) (k12:(x.k==12)=false) (k17:(x.k==17)=false) (hx:rdX w x A B) (fs:List Ft)
 (hsub:∀ k,k<x.subs.length→∀ A' ca' B' cb' w1,Below w.heap.size w w1→rdX w1 (subX x k) A' B' →
  Calls Tryz.prog 31 #[.agg (kmA es nd r),.agg (exA (subX x k) A' ca' B' cb'),.slice On n oc] w1 fun e w'=>e=.returned (.bool (fitAt fs k on))∧Below w1.heap.size w1 w'):
 Calls Tryz.prog 31 #[.agg (kmA es nd r),.agg (exA x A ca B cb),.slice On n oc] w fun e w'=>e=.returned (.bool ((List.range x.subs.length).all fun k=>fitAt fs k on))∧Below w.heap.size w w':=by
 have HF:=Hd fun w0 hw=>cl_box2 (w:=w) (w1:=w0) (cs:=kmA es nd r) (ds:=exA x A ca B cb) (T:=57) (U:=52) hw;have HSB:=Hd fun k (hkk:k<x.subs.length)=>hx.sub hkk;have HSUB:=Hd hsub;have hsx:=hx.subs.2.1;have HNO:=Hd fun k (hk:k<x.subs.length) h=>rangeC_no (f:=fun k=>fitAt fs k on) hk h;have HALL:=Hd fun h=>(rangeC_all (n:=x.subs.length) (f:=fun k=>fitAt fs k on)).2 h;clear hsub hx;generalize ((List.range x.subs.length).all fun k=>fitAt fs k on)=out at *;unfold kmA exA at *;generalize es.length=pe at *;generalize x.arms.length=al at *;generalize hsl:x.subs.length=sl at *
 go_enter Tryz.func31,Tryz.ntmps31
 go_upto_region 1 with(fail)
 generalize hw0:(w.alloc _).alloc _=w0;obtain⟨hb0,hsz,hp,hq⟩:=HF.out w0 hw0;have HB0:=Hd hb0;have HP:=Hd hp;have HX:=Hd hq;obtain⟨r0,r1,r2,r3,r4,r5⟩:=Sx (hp w0 (Below.refl _ _));obtain⟨q0,q1,q2,q3,q4,q5⟩:=Sx (hq w0 (Below.refl _ _));simp only [Ya,Yb,Yc] at r0 r1 r2 r3 r4 r5 q0 q1 q2 q3 q4 q5;clear hw0 hb0 hsz hp hq HF
 go_wp2_with fail
 clear r0 r1 r2 r3 r4 r5 q0 q1 q2 q3 q4 q5
 go_loopw [54] (fun c wr=>∃ k:Nat,k≤sl∧c=.int .i64 k∧(∀ j,j<k→fitAt fs j on=true)∧Below w0.heap.size w0 wr) (fun c _=>sl-(intOf c).toNat)
 case atStart=>exact⟨0,Nat.zero_le _,rfl,fun j hj=>absurd hj (by omega),Below.refl _ _⟩
 case round=>
  obtain⟨k,hk,rfl,hto,hbr⟩:=hrel;have HTO:=Hd hto;have HBR:=Hd hbr;have HBW:=Hd (below_nextC HB0.out hbr);clear hto hbr
  by_cases hlt:k<sl
  · obtain⟨sb,so,rfl,hsb,hsc⟩:=HSB.out k hlt;obtain⟨A',ca',B',cb',hrg,hrd⟩:=hsc k hlt;obtain⟨s0,s1,s2,s3,s4,s5⟩:=rangeAt_six (rangeAt_keep hrg hsb fun p hp=>HBW.out.cell hp);have HRD:=Hd fun W (hb:Below w.heap.size w W)=>HSUB.out k hlt A' ca' B' cb' W hb (hrd.below hb);have HNK:=Hd (HNO.out k hlt);have HNX:=Hd fun(h:fitAt fs k on=true)=>to_next (P:=fun j=>fitAt fs j on=true) HTO.out h;clear hsc hrg hrd;generalize subX x k=y at *;generalize hft:fitAt fs k on=ft at *;clear hft
    go_upto_region 19 with(fail)
    generalize hw4:wr.alloc _=w4;obtain⟨hb4,hg4,hk4⟩:=cl_box hw4;have HB4:=Hd (below_nextC HBW.out hb4);have HL4:=Hd (below_nextC HBR.out hb4);have HC4:=Hd (HRD.out w4 HB4.out);obtain⟨t0,t1,t2,t3,t4,t5⟩:=Sx (hk4 w4 (Below.refl _ _));obtain⟨r0,r1,r2,r3,r4,r5⟩:=Sx (HP.out w4 HL4.out);simp only [Ya,Yb,Yc] at t0 t1 t2 t3 t4 t5 r0 r1 r2 r3 r4 r5;clear hw4 hb4 hg4 hk4 s0 s1 s2 s3 s4 s5
    go_wp2_with fail
    refine HC4.out.mono ?_;rintro e w5 ⟨rfl,hb5⟩;have HB5:=Hd (below_nextC HB4.out hb5);have HL5:=Hd (below_nextC HL4.out hb5);clear hb5 HC4 t0 t1 t2 t3 t4 t5 r0 r1 r2 r3 r4 r5
    cases ft with
    | false=>
     have HO:=Hd (show out=false from HNK.out rfl)
     go_wp2_with fail
     go_ret
     exact⟨ret_boolC HO.out.symm,HB5.out⟩
    | true=>
     have HT2:=Hd (HNX.out rfl)
     go_wp2_with fail
     go_roundw
     case rel=>exact⟨k+1,by omega,by go_num,HT2.out,HL5.out⟩
     case measure=>simp [intOf];omega
  · obtain rfl:k=sl:=by omega
    have HO:=Hd (show out=true from HALL.out fun j hj=>HTO.out j hj)
    go_wp2_with fail
    go_ret
    exact⟨ret_boolC HO.out.symm,HBW.out⟩
def FbyTwo(x:Ex):Prop:=∀ z∈partsX x,z.k=8→z.subs.length=2
theorem fby_two{x:Ex}(h:rightX x=true):FbyTwo x:=fun z hz hk=>by
 have h1:=part_len (right_part h hz);have h2:=subs_8 hk;rw [h2] at h1;have:=h1.1;have:=h1.2.1;simp only at *;omega
theorem FbyTwo.sub{x:Ex}(h:FbyTwo x){k:Nat}(hk:k<x.subs.length):FbyTwo (subX x k):=fun z hz=>h z (parts_sub hk z hz)
theorem clFitsX(es:List En) (nd:Nd) (r:Km):∀ x:Ex,∀ (A:Option Addr) (ca:Nat) (B:Option Addr) (cb:Nat) (On:Option Addr) (n oc:Nat) (on:List Cd) (w:World),rdKm w es nd r→rdX w x A B→RdC w On n on→n≤oc→FbyTwo x→sizeX x≤1000000→n+sizeX x≤2500000 →
 Calls Tryz.prog 31 #[.agg (kmA es nd r),.agg (exA x A ca B cb),.slice On n oc] w fun e w'=>e=.returned (.bool (fitX es nd x on))∧Below w.heap.size w w':=by
 refine size_ind fun x ih A ca B cb On n oc on w h hx ho hoc hF hs hns=>?_;have hsz:∀ k,k<x.subs.length→sizeX (subX x k)<sizeX x:=fun k hk=>size_sub (subX_mem hk)
 have hsub:∀ k,k<x.subs.length→∀ A' ca' B' cb' w1,Below w.heap.size w w1→rdX w1 (subX x k) A' B' →
  Calls Tryz.prog 31 #[.agg (kmA es nd r),.agg (exA (subX x k) A' ca' B' cb'),.slice On n oc] w1 fun e w'=>e=.returned (.bool (fitAt (x.subs.map (fitX es nd)) k on))∧Below w1.heap.size w1 w':=fun k hk A' ca' B' cb' w1 hb hr=>by
  rw [fitAt_eq hk];have:=hsz k hk;exact ih k hk A' ca' B' cb' On n oc on w1 (h.below hb) hr (ho.below hb) hoc (hF.sub hk) (by omega) (by omega)
 have hself:=hF x (by rw [partsX_eq];exact List.mem_cons_self);rw [fitX_eq];generalize hfs:x.subs.map (fitX es nd)=fs at hsub;unfold fitK
 by_cases k1:(x.k==1 || x.k==2 || x.k==4)=true
 · rw [if_pos k1];exact clFitsC es nd r x A ca B cb On n oc on w (by simpa [or_assoc] using k1)
 rw [if_neg k1]
 by_cases k3:(x.k==3)=true
 · rw [if_pos k3];exact clFitsV es nd r x A ca B cb On n oc on w (by simpa using k3) _ fun w1 hb=>clHas es nd r x.s On n oc on w1 (h.below hb) (ho.below hb)
 rw [if_neg k3]
 by_cases k8:(x.k==8)=true
 · rw [if_pos k8];exact clFitsF es nd r x A ca B cb On n oc on w (by simpa using k8) (hself (by simpa using k8)) hx fs hsub
 rw [if_neg k8]
 by_cases k11:(x.k==11)=true
 · rw [if_pos k11];refine clFitsW es nd r x A ca B cb On n oc on w (by simpa using k11) _ fun w1 hb=>?_;refine clSampled es nd r x A ca B cb On n oc on w1 (h.below hb) (hx.below hb) (ho.below hb) hoc fs fun hk A' ca' B' cb' w2 hb2 hr=>?_;rw [← hfs,fitAt_eq hk];have:=hsz 0 hk;exact ih 0 hk A' ca' B' cb' On (n-1) (n-1) (on.take (n-1)) w2 ((h.below hb).below hb2) hr (((ho.below hb).below hb2).take (by omega)) (Nat.le_refl _) (hF.sub hk) (by omega) (by omega)
 rw [if_neg k11]
 by_cases k12:(x.k==12)=true
 · rw [if_pos k12];refine clFitsM es nd r x A ca B cb On n oc on w (by simpa using k12) _ fun w1 hb=>?_;refine clMerged es nd r x A ca B cb On n oc on w1 (h.below hb) (hx.below hb) (ho.below hb) hoc (by omega) fs fun k hk A' ca' B' cb' R cr row w2 hb2 hr hrow hc=>?_;rw [← hfs,fitAt_eq hk];have:=hsz k hk;exact ih k hk A' ca' B' cb' R (n+1) cr row w2 ((h.below hb).below hb2) hr hrow hc (hF.sub hk) (by omega) (by omega)
 rw [if_neg k12]
 by_cases k17:(x.k==17)=true
 · rw [if_pos k17];exact clFitsO es nd r x A ca B cb On n oc on w (by simpa using k17)
 rw [if_neg k17];simp only [Bool.or_eq_true,not_or,Bool.not_eq_true] at k1 k3 k8 k11 k12 k17;exact clFitsA es nd r x A ca B cb On n oc on w k1.1.1 k1.1.2 k1.2 k3 k8 k11 k12 k17 hx fs hsub
end
end Go.Proofs.YtkbpdoomhfkngaaGreat
